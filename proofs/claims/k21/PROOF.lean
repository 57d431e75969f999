import PyProof.Rows.All
import Wide.All
import OpenK.AllK
import Wide.FinOn
import KE.KStateDown
import KE.DataMinKey
import HandS.ForMost
import HandS.Exc
import HandS.TryOnly
import HandS.ExcOwn
import HandS.WordsExc
import HandS.Defaults
import HandS.Flow
import HandS.Style
import HandS.TupAny
import HandS.Zip
import HandS.IsInst
import HandS.RevRange
import HandS.SetKeys
import HandS.WrittenGet
import HandS.Strs
import HandS.SortKw
import HandS.Walk
import HandS.Conv
import HandS.Head0
import HandS.Head1
import HandS.Head2
import HandS.HeadEnd
import HandS.HeadHook1
import HandS.HeadHook2
import HandS.HeadHook3
import HandS.HeadHook4
import KE.GoesEnum
import Lean
import HandS.Deep
import HandS.Set
import PyProof.Rows.SortStr
import PyProof.Rows.SortShellK
import HandS.SetFor
import PySem.Challenge.RW_markscript_k21_whole_who_earns
set_option Elab.async false
set_option linter.all false
set_option maxRecDepth 100000
section
set_option maxRecDepth 100000
set_option maxHeartbeats 4000000
namespace MS
open PySem L2
def topS (i : Nat) : Stmt := PySem.Challenge.pw_markscript_k21_whole_who_earns.main.body.getD i (.Pass ⟨0, 0, 0, 0⟩)
abbrev s_is_step : Stmt := topS 10
/-- slots: 0 thing -/
theorem sc_is_step : FnScope ["thing"] ["thing"] (defScope s_is_step) := ⟨rfl, rfl, rfl, by decide +kernel, rfl, by decide +kernel, by decide +kernel⟩
abbrev s_check_work : Stmt := topS 11
/-- slots: 0 work, 1 went_wrong, 2 number, 3 step -/
theorem sc_check_work : FnScope ["work", "went_wrong", "number", "step"] ["work"] (defScope s_check_work) := ⟨rfl, rfl, rfl, by decide +kernel, rfl, by decide +kernel, by decide +kernel⟩
abbrev s_is_number : Stmt := topS 16
/-- slots: 0 thing -/
theorem sc_is_number : FnScope ["thing"] ["thing"] (defScope s_is_number) := ⟨rfl, rfl, rfl, by decide +kernel, rfl, by decide +kernel, by decide +kernel⟩
abbrev s_fits : Stmt := topS 17
/-- slots: 0 part, 1 kind, 2 number, 3 many, 4 least, 5 most -/
theorem sc_fits : FnScope ["part", "kind", "number", "many", "least", "most"] ["part", "kind", "number", "many"] (defScope s_fits) := ⟨rfl, rfl, rfl, by decide +kernel, rfl, by decide +kernel, by decide +kernel⟩
abbrev s_can_be : Stmt := topS 18
/-- slots: 0 thing, 1 number, 2 many, 3 shape, 4 part, 5 kind -/
theorem sc_can_be : FnScope ["thing", "number", "many", "shape", "part", "kind"] ["thing", "number", "many"] (defScope s_can_be) := ⟨rfl, rfl, rfl, by decide +kernel, rfl, by decide +kernel, by decide +kernel⟩
abbrev s_within : Stmt := topS 19
/-- slots: 0 scheme, 1 last -/
theorem sc_within : FnScope ["scheme", "last"] ["scheme"] (defScope s_within) := ⟨rfl, rfl, rfl, by decide +kernel, rfl, by decide +kernel, by decide +kernel⟩
abbrev s_placed : Stmt := topS 28
/-- slots: 0 schemes, 1 place, 2 at, 3 scheme -/
theorem sc_placed : FnScope ["schemes", "place", "at", "scheme"] ["schemes", "place"] (defScope s_placed) := ⟨rfl, rfl, rfl, by decide +kernel, rfl, by decide +kernel, by decide +kernel⟩
abbrev s_schemes_in : Stmt := topS 29
/-- slots: 0 paper, 1 number, 2 found, 3 waiting, 4 place, 5 scheme -/
theorem sc_schemes_in : FnScope ["paper", "number", "found", "waiting", "place", "scheme"] ["paper", "number"] (defScope s_schemes_in) := ⟨rfl, rfl, rfl, by decide +kernel, rfl, by decide +kernel, by decide +kernel⟩
abbrev s_many_of : Stmt := topS 30
/-- slots: 0 names, 1 parts, 2 many, 3 number, 4 scheme -/
theorem sc_many_of : FnScope ["names", "parts", "many", "number", "scheme"] ["names", "parts"] (defScope s_many_of) := ⟨rfl, rfl, rfl, by decide +kernel, rfl, by decide +kernel, by decide +kernel⟩
abbrev s_check_paper : Stmt := topS 31
/-- slots: 0 paper, 1 parts, 2 number -/
theorem sc_check_paper : FnScope ["paper", "parts", "number"] ["paper"] (defScope s_check_paper) := ⟨rfl, rfl, rfl, by decide +kernel, rfl, by decide +kernel, by decide +kernel⟩
abbrev s_View_init : Stmt := inClass (topS 33) 0
/-- slots: 0 self, 1 steps, 2 start, 3 ways -/
theorem sc_View_init : FnScope ["self", "steps", "start", "ways"] ["self", "steps", "start", "ways"] (defScope s_View_init) := ⟨rfl, rfl, rfl, by decide +kernel, rfl, by decide +kernel, by decide +kernel⟩
abbrev s_View_counts : Stmt := inClass (topS 33) 1
/-- slots: 0 self, 1 place, 2 word, 3 step -/
theorem sc_View_counts : FnScope ["self", "place", "word", "step"] ["self", "place", "word"] (defScope s_View_counts) := ⟨rfl, rfl, rfl, by decide +kernel, rfl, by decide +kernel, by decide +kernel⟩
abbrev s_View_first : Stmt := inClass (topS 33) 2
/-- slots: 0 self, 1 word, 2 place -/
theorem sc_View_first : FnScope ["self", "word", "place"] ["self", "word"] (defScope s_View_first) := ⟨rfl, rfl, rfl, by decide +kernel, rfl, by decide +kernel, by decide +kernel⟩
abbrev s_View_last : Stmt := inClass (topS 33) 3
/-- slots: 0 self, 1 word, 2 place -/
theorem sc_View_last : FnScope ["self", "word", "place"] ["self", "word"] (defScope s_View_last) := ⟨rfl, rfl, rfl, by decide +kernel, rfl, by decide +kernel, by decide +kernel⟩
abbrev s_View_stands : Stmt := inClass (topS 33) 4
/-- slots: 0 self, 1 word, 2 step -/
theorem sc_View_stands : FnScope ["self", "word", "step"] ["self", "word"] (defScope s_View_stands) := ⟨rfl, rfl, rfl, by decide +kernel, rfl, by decide +kernel, by decide +kernel⟩
abbrev s_View_behind : Stmt := inClass (topS 33) 5
/-- slots: 0 self, 1 place -/
theorem sc_View_behind : FnScope ["self", "place"] ["self", "place"] (defScope s_View_behind) := ⟨rfl, rfl, rfl, by decide +kernel, rfl, by decide +kernel, by decide +kernel⟩
abbrev s_View_carrying : Stmt := inClass (topS 33) 6
/-- slots: 0 self -/
theorem sc_View_carrying : FnScope ["self"] ["self"] (defScope s_View_carrying) := ⟨rfl, rfl, rfl, by decide +kernel, rfl, by decide +kernel, by decide +kernel⟩
abbrev s_points_of : Stmt := topS 34
/-- slots: 0 rows, 1 place, 2 points, 3 where -/
theorem sc_points_of : FnScope ["rows", "place", "points", "where"] ["rows"] (defScope s_points_of) := ⟨rfl, rfl, rfl, by decide +kernel, rfl, by decide +kernel, by decide +kernel⟩
abbrev s_first_points : Stmt := topS 35
/-- slots: 0 rows, 1 limit, 2 kept, 3 left, 4 place, 5 points, 6 where, 7 taken -/
theorem sc_first_points : FnScope ["rows", "limit", "kept", "left", "place", "points", "where", "taken"] ["rows", "limit"] (defScope s_first_points) := ⟨rfl, rfl, rfl, by decide +kernel, rfl, by decide +kernel, by decide +kernel⟩
abbrev s_row_at : Stmt := topS 36
/-- slots: 0 place, 1 points, 2 where -/
theorem sc_row_at : FnScope ["place", "points", "where"] ["place", "points", "where"] (defScope s_row_at) := ⟨rfl, rfl, rfl, by decide +kernel, rfl, by decide +kernel, by decide +kernel⟩
abbrev s_rows_of_each : Stmt := topS 37
/-- slots: 0 paper, 1 schemes, 2 where, 3 view, 4 at, 5 scheme -/
theorem sc_rows_of_each : FnScope ["paper", "schemes", "where", "view", "at", "scheme"] ["paper", "schemes", "where", "view"] (defScope s_rows_of_each) := ⟨rfl, rfl, rfl, by decide +kernel, rfl, by decide +kernel, by decide +kernel⟩
abbrev s_rows_of_all : Stmt := topS 38
/-- slots: 0 paper, 1 schemes, 2 where, 3 view, 4 rows, 5 row -/
theorem sc_rows_of_all : FnScope ["paper", "schemes", "where", "view", "rows", "row"] ["paper", "schemes", "where", "view"] (defScope s_rows_of_all) := ⟨rfl, rfl, rfl, by decide +kernel, rfl, by decide +kernel, by decide +kernel⟩
abbrev s_rows_of : Stmt := topS 39
/-- slots: 0 paper, 1 scheme, 2 where, 3 view, 4 word, 5 points, 6 schemes, 7 limit, 8 inner, 9 rows, 10 place, 11 number -/
theorem sc_rows_of : FnScope ["paper", "scheme", "where", "view", "word", "points", "schemes", "limit", "inner", "rows", "place", "number"] ["paper", "scheme", "where", "view"] (defScope s_rows_of) := ⟨rfl, rfl, rfl, by decide +kernel, rfl, by decide +kernel, by decide +kernel⟩
abbrev s_earned : Stmt := topS 41
/-- slots: 0 paper, 1 work -/
theorem sc_earned : FnScope ["paper", "work"] ["paper", "work"] (defScope s_earned) := ⟨rfl, rfl, rfl, by decide +kernel, rfl, by decide +kernel, by decide +kernel⟩
abbrev s_L_begun : Stmt := topS 43
/-- slots: 0 _law_script, 1 _law_stirred, 2 _law_cell -/
theorem sc_L_begun : FnScope ["_law_script", "_law_stirred", "_law_cell"] ["_law_script"] (defScope s_L_begun) := ⟨rfl, rfl, rfl, by decide +kernel, rfl, by decide +kernel, by decide +kernel⟩
abbrev s_L_take : Stmt := topS 44
/-- slots: 0 _law_box, 1 _law_many, 2 _law_number -/
theorem sc_L_take : FnScope ["_law_box", "_law_many", "_law_number"] ["_law_box", "_law_many"] (defScope s_L_take) := ⟨rfl, rfl, rfl, by decide +kernel, rfl, by decide +kernel, by decide +kernel⟩
abbrev s_L_alike : Stmt := topS 45
/-- slots: 0 _law_found, 1 _law_due, 2 _law_k -/
theorem sc_L_alike : FnScope ["_law_found", "_law_due", "_law_k"] ["_law_found", "_law_due"] (defScope s_L_alike) := ⟨rfl, rfl, rfl, by decide +kernel, rfl, by decide +kernel, by decide +kernel⟩
abbrev s_L_letters : Stmt := topS 46
/-- slots: 0 _law_box, 1 _law_left, 2 _law_found, 3 _law_turn -/
theorem sc_L_letters : FnScope ["_law_box", "_law_left", "_law_found", "_law_turn"] ["_law_box"] (defScope s_L_letters) := ⟨rfl, rfl, rfl, by decide +kernel, rfl, by decide +kernel, by decide +kernel⟩
abbrev s_L_scheme : Stmt := topS 47
/-- slots: 0 _law_box, 1 _law_letters_here, 2 _law_left, 3 _law_deep, 4 _law_uses, 5 _law_word, 6 _law_way, 7 _law_one, 8 _law_some, 9 _law_kids, 10 _law_turn -/
theorem sc_L_scheme : FnScope ["_law_box", "_law_letters_here", "_law_left", "_law_deep", "_law_uses", "_law_word", "_law_way", "_law_one", "_law_some", "_law_kids", "_law_turn"] ["_law_box", "_law_letters_here", "_law_left", "_law_deep", "_law_uses"] (defScope s_L_scheme) := ⟨rfl, rfl, rfl, by decide +kernel, rfl, by decide +kernel, by decide +kernel⟩
abbrev s_L_counted : Stmt := topS 48
/-- slots: 0 _law_scheme_here, 1 _law_uses, 2 _law_found, 3 _law_kid, 4 _law_more, 5 _law_one -/
theorem sc_L_counted : FnScope ["_law_scheme_here", "_law_uses", "_law_found", "_law_kid", "_law_more", "_law_one"] ["_law_scheme_here", "_law_uses"] (defScope s_L_counted) := ⟨rfl, rfl, rfl, by decide +kernel, rfl, by decide +kernel, by decide +kernel⟩
abbrev s_L_paper : Stmt := topS 49
/-- slots: 0 _law_box, 1 _law_letters_here, 2 _law_left, 3 _law_words, 4 _law_turn, 5 _law_steps, 6 _law_whole, 7 _law_many, 8 _law_found, 9 _law_uses, 10 _law_number, 11 _law_scheme_here, 12 _law_word -/
theorem sc_L_paper : FnScope ["_law_box", "_law_letters_here", "_law_left", "_law_words", "_law_turn", "_law_steps", "_law_whole", "_law_many", "_law_found", "_law_uses", "_law_number", "_law_scheme_here", "_law_word"] ["_law_box", "_law_letters_here"] (defScope s_L_paper) := ⟨rfl, rfl, rfl, by decide +kernel, rfl, by decide +kernel, by decide +kernel⟩
abbrev s_L_step : Stmt := topS 50
/-- slots: 0 _law_box, 1 _law_letters_here, 2 _law_was_wrong, 3 _law_sign -/
theorem sc_L_step : FnScope ["_law_box", "_law_letters_here", "_law_was_wrong", "_law_sign"] ["_law_box", "_law_letters_here", "_law_was_wrong"] (defScope s_L_step) := ⟨rfl, rfl, rfl, by decide +kernel, rfl, by decide +kernel, by decide +kernel⟩
abbrev s_L_work : Stmt := topS 51
/-- slots: 0 _law_box, 1 _law_letters_here, 2 _law_most, 3 _law_found, 4 _law_turn, 5 _law_step_here -/
theorem sc_L_work : FnScope ["_law_box", "_law_letters_here", "_law_most", "_law_found", "_law_turn", "_law_step_here"] ["_law_box", "_law_letters_here", "_law_most"] (defScope s_L_work) := ⟨rfl, rfl, rfl, by decide +kernel, rfl, by decide +kernel, by decide +kernel⟩
abbrev s_rows_by : Stmt := topS 40
/-- slots: 0 paper, 1 work -/
theorem sc_rows_by : FnScope ["paper", "work"] ["paper", "work"] (defScope s_rows_by) := ⟨rfl, rfl, rfl, by decide +kernel, rfl, by decide +kernel, by decide +kernel⟩
abbrev FnP (K : PySem.W.Frag) (x : Str) (st : Stmt) (f : Addr) (fd : FuncData) : Prop := FunD K x x (defArgs st) (defBody st) (defScope st) [] [] f fd
/-- a def of the text: where it stands, by which name it is called -/
structure Def (K : PySem.W.Frag) (mg : Str → Option Value) (x : Str) (st : Stmt) (ps : List Str) where
  f : Addr
  fd : FuncData
  F : FnP K x st f fd
  g : mg x = some (.ref f)
  b : Binds K fd ps []
theorem pcall {X : Cx} {x : Str} {st : Stmt} {ps : List Str} {k : Nat} {sp : Sp} {e : Expr} {es : List Expr} {t : TA} {p pos : Pos} (D : Def X.K X.mg x st ps) (G : FnOk X.prog X.w X.K X.mg X.base CX0 k D.f D.fd ps sp) (hr : Room k X.A)
    (ha : PA X (e :: es) t) (hg : Gl X x := by rfl) (hdb : (x == ("__debug__" : Str)) = false := by decide) (he : starEach (e :: es) X.env = (false, eval e X.env) :: starEach es X.env := by rfl) (hpl : (backTo pos (starEach es X.env)).any (·.1) = false := by rfl) : PE X (.Call (.Name x p) (e :: es) [] pos) (tCall sp [] E0 t) :=
  pe_call G hr hg D.g D.F.kp D.b .nil pass0 ha hdb he hpl

/-- THE RULE for a def that lets nothing out -/
theorem Def.ok {P : Program} {w : World} {K : PySem.W.Frag} {mg : Str → Option Value} {base : Heap} {x : Str} {st : Stmt} {ps N : List Str} {k : Nat} {sp : Sp} (D : Def K mg x st ps) (S : FnScope N ps (defScope st)) (len : ∀ vs H Q E, sp vs H Q E → vs.length = ps.length)
    (hbody : ∀ (cdv : Value) (A : Around) (outer : List Env) (s : Shared) (H : Hp) (vs : List V) (Q : VK) (E : XK), Room k (A.deeper (PyProof.Rows.envOfC x (defScope st) s.heap.objs.size D.f cdv)) → sp vs H Q E →
      ∃ t, PSs (cxOf CX0 P w K mg base N x (defScope st) D.f cdv A outer s H E).nox (defBody st) t ∧ t { nx := fun _ H' => Q .non H', rt := Q } (start N vs) H) : FnOk P w K mg base CX0 (k + 1) D.f D.fd ps sp :=
  D.F.ok S len fun cdv A outer s H vs Q E hr hsp => by
    obtain ⟨t, h, q⟩ := hbody cdv A outer s H vs Q E hr hsp
    exact ⟨t, h.nox, q⟩

/-! ### what stays -/
/-- all but what stands at these addresses is as it was -/
def Keep (S : List Addr) (H H' : Hp) : Prop := ∀ a o, H a = some o → a ∉ S → H' a = some o
theorem Keep.refl (S : List Addr) (H : Hp) : Keep S H H := fun _ _ h _ => h
theorem Keep.trans {S : List Addr} {H H1 H2 : Hp} (a : Keep S H H1) (b : Keep S H1 H2) : Keep S H H2 := fun c o h n => b c o (a c o h n) n
theorem Keep.mono {S T : List Addr} {H H' : Hp} (a : Keep S H H') (h : ∀ x ∈ S, x ∈ T) : Keep T H H' := fun c o e n => a c o e fun z => n (h c z)
theorem Keep.same {H H' : Hp} (a : Keep [] H H') : Same H H' := fun b o h => a b o h (by simp)
theorem Same.keep {S : List Addr} {H H' : Hp} (a : Same H H') : Keep S H H' := fun b o h _ => a b o h
theorem Keep.new {S : List Addr} {H : Hp} {p : Addr} {o : HO} (h : H p = none) : Keep S H (upd H p o) := fun b u q _ => by rw [upd_ne (ne_of_none q h)]; exact q
theorem Same.new {H : Hp} {p : Addr} {o : HO} (h : H p = none) : Same H (upd H p o) := fun b u q => by rw [upd_ne (ne_of_none q h)]; exact q
theorem Keep.put {S : List Addr} {H : Hp} {p : Addr} {o : HO} (h : p ∈ S) : Keep S H (upd H p o) := fun b u q n => by rw [upd_ne (fun z => n (by rw [z]; exact h))]; exact q
theorem Keep.free {S : List Addr} {H H' : Hp} (e : Keep S H H') {l : Addr} (h : H' l = none) (hS : ∀ x ∈ S, H x ≠ none → H' x ≠ none) : H l = none := by
  cases q : H l with
  | none => rfl
  | some o =>
    by_cases m : l ∈ S
    · exact absurd h (hS l m (by rw [q]; exact fun z => nomatch z))
    · rw [e l o q m] at h; cases h

/-! ### data that may be compared -/
def ShN (n : Nat) (d : PyData) : Prop := d.canLay0 = true ∧ d.depth ≤ n
def ShAll (n : Nat) (ds : List PyData) : Prop := PyData.canLayAll0 ds = true ∧ PyData.depthAll ds ≤ n
theorem ShAll.nil {n : Nat} : ShAll n [] := ⟨rfl, Nat.zero_le _⟩
theorem ShAll.cons {n : Nat} {d : PyData} {ds : List PyData} (h : ShN n d) (r : ShAll n ds) : ShAll n (d :: ds) :=
  ⟨by rw [PyData.canLayAll0, h.1, r.1]; rfl, by rw [PyData.depthAll]; exact Nat.max_le.mpr ⟨h.2, r.2⟩⟩
theorem ShN.int {n : Nat} (i : Int) : ShN n (.int i) := ⟨by rw [PyData.canLay0], by rw [PyData.depth]; exact Nat.zero_le _⟩
theorem ShN.str {n : Nat} {x : Str} (h : PyData.strOk x = true) : ShN n (.str x) := ⟨by rw [PyData.canLay0]; exact h, by rw [PyData.depth]; exact Nat.zero_le _⟩
theorem ShN.lst {n : Nat} {ds : List PyData} (h : ShAll n ds) : ShN (n + 1) (.list ds) := ⟨by rw [PyData.canLay0]; exact h.1, by rw [PyData.depth]; exact Nat.succ_le_succ h.2⟩
theorem ShN.tup {n : Nat} {ds : List PyData} (h : ShAll n ds) : ShN (n + 1) (.tuple ds) := ⟨by rw [PyData.canLay0]; exact h.1, by rw [PyData.depth]; exact Nat.succ_le_succ h.2⟩
theorem ShN.mono {n m : Nat} {d : PyData} (h : ShN n d) (hm : n ≤ m) : ShN m d := ⟨h.1, Nat.le_trans h.2 hm⟩
theorem ShN.ok {n : Nat} {d : PyData} (h : ShN n d) (hn : n ≤ 64) : SeqAt.shaped d = true := by
  unfold SeqAt.shaped
  rw [h.1, decide_eq_true (Nat.le_trans h.2 hn)]
  rfl
theorem ShAll.of {n : Nat} : ∀ {ds : List PyData}, (∀ d ∈ ds, ShN n d) → ShAll n ds
  | [], _ => .nil
  | d :: r, h => .cons (h d List.mem_cons_self) (ShAll.of fun e he => h e (List.mem_cons_of_mem _ he))
theorem sh_ints (n : Nat) (ns : List Int) : ShAll n (ns.map PyData.int) := ShAll.of fun d h => by
  obtain ⟨i, _, rfl⟩ := List.mem_map.mp h
  exact .int i
/-! ### the box of draws: the script's numbers left, and the number behind them -/
def Box (H : Hp) (b l : Addr) : Prop := b ≠ l ∧ (∃ n : Int, H b = some (.lst [.ref l, .int n])) ∧ ∃ ns : List Int, H l = some (.lst (ns.map V.int))
theorem Box.keep {S : List Addr} {H H' : Hp} {b l : Addr} (h : Box H b l) (k : Keep S H H') (hb : b ∉ S) (hl : l ∉ S) : Box H' b l := by
  obtain ⟨ne, ⟨n, e1⟩, ns, e2⟩ := h
  exact ⟨ne, ⟨n, k _ _ e1 hb⟩, ns, k _ _ e2 hl⟩
def spTake : Sp := fun vs H Q _ => ∃ (b l : Addr) (m : Int), vs = [.ref b, .int m] ∧ 0 < m ∧ m < 1073741824 ∧ Box H b l ∧
  ∀ (r : Int) (H' : Hp), 0 ≤ r → r < m → Box H' b l → Keep [b, l] H H' → Q (.int r) H'
section
variable {P : Program} {w : World} {K : PySem.W.Frag} {mg : Str → Option Value} {base : Heap}
theorem dp_ints {K : PySem.W.Frag} {H : Hp} : ∀ ns : List Int, DpAll K H (ns.map V.int) (ns.map PyData.int)
  | [] => .nil
  | n :: r => .cons (.int n) (dp_ints r)
theorem at0 {x : V} {xs : List V} : atI (x :: xs) 0 = some x := at_of rfl rfl
theorem at1 {x y : V} {xs : List V} : atI (x :: y :: xs) 1 = some y := at_of rfl rfl
theorem at2 {x y z : V} {xs : List V} : atI (x :: y :: z :: xs) 2 = some z := at_of rfl rfl
theorem ix0 {n : Nat} : ixN (n + 1) 0 = some 0 := by
  unfold ixN
  rw [if_pos (by omega), if_pos (by omega)]
  rfl
theorem seq0 {n : Nat} : seqIndex? 0 (n + 1) = some 0 := (ixN_seq ix0).1
theorem ok_take (D : Def K mg "_law_take" s_L_take ["_law_box", "_law_many"]) : FnOk P w K mg base CX0 1 D.f D.fd ["_law_box", "_law_many"] spTake := by
  refine D.ok sc_L_take (fun vs H Q E h => ?_) (fun cdv A outer s H vs Q E hr h => ?_)
  · obtain ⟨b, l, m, rfl, _⟩ := h
    rfl
  obtain ⟨b, l, m, rfl, m0, m1, ⟨nbl, ⟨n, eb⟩, ns, el⟩, q⟩ := h
  refine ⟨_, pss_cons (ps_if (pt_cmpR (op_eqD hr.units) (pe_ix ix_list (pv 0) pe_int (fun _ _ => rfl)) (pe_lst pa_nil) (nomark _))
      (pss_cons (ps_asg (pe_op op_mod (pe_op op_mul (pe_ix ix_list (pv 0) pe_int (fun _ _ => rfl)) pe_int) pe_int) (pg_sub (pv 0) pe_int set_list))
        (pss_one (ps_ret (pe_op op_mod (pe_op op_fdiv (pe_ix ix_list (pv 0) pe_int (fun _ _ => rfl)) pe_int) (pv 1))))) pss_nil)
    (pss_cons (ps_set (i := 2) sc_L_take.nd rfl (Or.inl rfl) (pe_ix ix_list (pe_ix ix_list (pv 0) pe_int (fun _ _ => rfl)) pe_int (fun _ _ => rfl)))
    (pss_cons (ps_asg (pe_op op_fdiv (pv 2) (pv 1)) (pg_sub (pe_ix ix_list (pv 0) pe_int (fun _ _ => rfl)) pe_int set_list))
    (pss_cons (ps_if (PW.pt (pw_or (pt_cmpR op_eq (pe_ix ix_list (pe_ix ix_list (pv 0) pe_int (fun _ _ => rfl)) pe_int (fun _ _ => rfl)) pe_int (nomark _))
        (pw_or1 (pt_cmpR op_eq (pe_ix ix_list (pe_ix ix_list (pv 0) pe_int (fun _ _ => rfl)) pe_int (fun _ _ => rfl)) (pe_un un_neg pe_int) (nomark _)))))
        (pss_one (ps_expr (pe_bm PySem.F.plainAttrs_list PySem.F.slot_list_pop PySem.F.type_list_pop mt_popAt (pe_ix ix_list (pv 0) pe_int (fun _ _ => rfl)) (pa_cons pe_int pa_nil)))) pss_nil)
    (pss_one (ps_ret (pe_op op_mod (pv 2) (pv 1))))))), ?_⟩
  refine ⟨_, rfl, b, _, 0, .ref l, rfl, rfl, SqL.of eb, rfl, ?_⟩
  refine ⟨Nat.zero_le _, fun p hp => ?_⟩
  have nlp : l ≠ p := ne_of_none el hp
  have nbp : b ≠ p := ne_of_none eb hp
  have eb1 : upd H p (.lst []) b = some (.lst [.ref l, .int n]) := by rw [upd_ne nbp]; exact eb
  have el1 : upd H p (.lst []) l = some (.lst (ns.map V.int)) := by rw [upd_ne nlp]; exact el
  have k1 : Keep [b, l] H (upd H p (.lst [])) := Keep.new hp
  refine ⟨.list (ns.map PyData.int), .list [], .lst (SqL.of el1) (dp_ints ns), .lst (SqL.of upd_same) .nil, ?_, rfl, ?_⟩
  · exact (ShN.lst (sh_ints 0 ns)).ok (by decide)
  refine ⟨_, rfl, ?_⟩
  refine ite2 (fun c => ?_) (fun c => ?_)
  · refine ⟨_, rfl, b, _, 1, .int n, rfl, rfl, SqL.of eb1, rfl, _, _, rfl, rfl, .inr ⟨by decide, by decide⟩, _, _, rfl, rfl, (by show (0 : Int) < 2147483647; decide), ?_⟩
    refine ⟨_, rfl, b, _, 1, 1, rfl, rfl, eb1, rfl, ?_⟩
    refine ⟨_, rfl, b, _, 1, _, rfl, rfl, SqL.of upd_same, rfl, _, _, rfl, rfl, ⟨by decide, by decide⟩, _, rfl, _, _, rfl, rfl, m0, ?_⟩
    refine q _ _ (Int.emod_nonneg _ (by omega)) (Int.emod_lt_of_pos _ m0) ⟨nbl, ⟨_, upd_same⟩, ns, ?_⟩ (k1.trans (Keep.put (by simp)))
    rw [upd_ne nbl.symm]
    exact el1
  · have hne : ns ≠ [] := fun z => c (by rw [z]; rfl)
    obtain ⟨z, r, rfl⟩ : ∃ z r, ns = z :: r := by
      cases ns with
      | nil => exact absurd rfl hne
      | cons z r => exact ⟨z, r, rfl⟩
    refine ⟨_, rfl, b, _, 0, .ref l, rfl, rfl, SqL.of eb1, rfl, l, _, 0, .int z, rfl, rfl, SqL.of el1, at0, ?_⟩
    refine ⟨_, rfl, _, rfl, _, _, rfl, rfl, ⟨m0, m1⟩, _, rfl, b, _, 0, .ref l, rfl, rfl, SqL.of eb1, rfl, l, _, 0, 0, rfl, rfl, el1, ix0, ?_⟩
    have eb2 : ∀ o, upd (upd H p (.lst [])) l o b = some (.lst [.ref l, .int n]) := fun o => by rw [upd_ne nbl]; exact eb1
    refine ⟨_, rfl, b, _, 0, .ref l, rfl, rfl, SqL.of (eb2 _), rfl, l, _, 0, .int (z / m), rfl, rfl, SqL.of upd_same, at0, rfl, _, rfl, ?_⟩
    have fin : ∀ (H' : Hp), Box H' b l → Keep [b, l] H H' → Q (.int (z % m)) H' := fun H' B k => q _ _ (Int.emod_nonneg _ (by omega)) (Int.emod_lt_of_pos _ m0) B k
    have k2 : ∀ o, Keep [b, l] H (upd (upd H p (.lst [])) l o) := fun o => k1.trans (Keep.put (by simp))
    refine ite2 (fun c2 => ?_) (fun c2 => ?_)
    · refine iteT ⟨_, rfl, b, _, 0, .ref l, rfl, rfl, SqL.of (eb2 _), rfl, .inl ⟨rfl, _, SqL.of upd_same⟩, l, _, 0, 0, _, rfl, rfl, upd_same, by decide, by decide, seq0, rfl, ?_⟩
      refine ⟨_, rfl, _, rfl, _, _, rfl, rfl, m0, fin _ ⟨nbl, ⟨n, by rw [upd_ne nbl]; exact eb2 _⟩, r, upd_same⟩ ((k2 _).trans (Keep.put (by simp)))⟩
    · refine ⟨_, rfl, b, _, 0, .ref l, rfl, rfl, SqL.of (eb2 _), rfl, l, _, 0, .int (z / m), rfl, rfl, SqL.of upd_same, at0, _, rfl, rfl, _, rfl, ?_⟩
      by_cases c3 : decide (V.int (z / m) = V.int (-1)) = true
      · show (if decide (V.int (z / m) = V.int (-1)) = true then _ else _)
        rw [if_pos c3]
        refine ⟨_, rfl, b, _, 0, .ref l, rfl, rfl, SqL.of (eb2 _), rfl, .inl ⟨rfl, _, SqL.of upd_same⟩, l, _, 0, 0, _, rfl, rfl, upd_same, by decide, by decide, seq0, rfl, ?_⟩
        refine ⟨_, rfl, _, rfl, _, _, rfl, rfl, m0, fin _ ⟨nbl, ⟨n, by rw [upd_ne nbl]; exact eb2 _⟩, r, upd_same⟩ ((k2 _).trans (Keep.put (by simp)))⟩
      · show (if decide (V.int (z / m) = V.int (-1)) = true then _ else _)
        rw [if_neg c3]
        refine ⟨_, rfl, _, rfl, _, _, rfl, rfl, m0, fin _ ⟨nbl, ⟨n, eb2 _⟩, (z / m) :: r, upd_same⟩ (k2 _)⟩
end
end MS
end
section
set_option maxRecDepth 100000
set_option maxHeartbeats 4000000
namespace MS
open PySem L2
/-! ### words, steps -/
def wordsL : List Str := ["a", "b", "c", "d", "e", "f", "g", "h"]
def marksL : List Str := ["r", "w", "c"]
def IsW (x : Str) : Prop := x ∈ wordsL
def IsM (x : Str) : Prop := x ∈ marksL
theorem IsW.len {x : Str} (h : IsW x) : x.length = 1 := by
  have h' : x ∈ wordsL := h
  have q : ∀ y ∈ wordsL, y.length = 1 := by decide +kernel
  exact q x h'
theorem IsM.len {x : Str} (h : IsM x) : x.length = 1 := by
  have h' : x ∈ marksL := h
  have q : ∀ y ∈ marksL, y.length = 1 := by decide +kernel
  exact q x h'
theorem IsW.ok {x : Str} (h : IsW x) : PyData.strOk x = true := by
  have h' : x ∈ wordsL := h
  have q : ∀ y ∈ wordsL, PyData.strOk y = true := by decide +kernel
  exact q x h'
/-- a step: its word, how it was done -/
abbrev StepT := Str × Str
def stepS (p : StepT) : Str := p.1 ++ p.2
def IsStep (p : StepT) : Prop := IsW p.1 ∧ IsM p.2
theorem step_look : ∀ x ∈ wordsL, ∀ m ∈ marksL, (∃ c, atI (stepS (x, m)).cps.toList 0 = some c ∧ (⟨#[c]⟩ : Str) = x) ∧ (∃ c, atI (stepS (x, m)).cps.toList 1 = some c ∧ (⟨#[c]⟩ : Str) = m) ∧ (stepS (x, m)).length = 2 ∧ PyData.strOk (stepS (x, m)) = true := by
  intro x hx m hm
  simp only [wordsL, marksL, List.mem_cons, List.not_mem_nil, or_false] at hx hm
  rcases hx with rfl | rfl | rfl | rfl | rfl | rfl | rfl | rfl <;> rcases hm with rfl | rfl | rfl <;> exact ⟨⟨_, rfl, by decide +kernel⟩, ⟨_, rfl, by decide +kernel⟩, by decide +kernel, by decide +kernel⟩
theorem IsStep.at0 {p : StepT} (h : IsStep p) : ∃ c, atI (stepS p).cps.toList 0 = some c ∧ (⟨#[c]⟩ : Str) = p.1 := (step_look p.1 h.1 p.2 h.2).1
theorem IsStep.at1 {p : StepT} (h : IsStep p) : ∃ c, atI (stepS p).cps.toList 1 = some c ∧ (⟨#[c]⟩ : Str) = p.2 := (step_look p.1 h.1 p.2 h.2).2.1
theorem IsStep.len {p : StepT} (h : IsStep p) : (stepS p).length = 2 := (step_look p.1 h.1 p.2 h.2).2.2.1
theorem IsStep.ok {p : StepT} (h : IsStep p) : PyData.strOk (stepS p) = true := (step_look p.1 h.1 p.2 h.2).2.2.2
/-- steps of which none is carried on without a wrong one ahead; w: there was one -/
def WorkFrom : Bool → List StepT → Prop
  | _, [] => True
  | w, p :: r => IsStep p ∧ (p.2 = "c" → w = true) ∧ WorkFrom (w || p.2 == "w") r
def WorkOk (ws : List StepT) : Prop := WorkFrom false ws ∧ ws.length ≤ 12
def anyWrong (ws : List StepT) : Bool := ws.any fun p => p.2 == "w"
theorem WorkFrom.snoc : ∀ {ws : List StepT} {w : Bool} {p : StepT}, WorkFrom w ws → IsStep p → (p.2 = "c" → (w || anyWrong ws) = true) → WorkFrom w (ws ++ [p])
  | [], w, p, _, hp, hc => ⟨hp, fun e => by
      have z := hc e
      rw [show anyWrong [] = false from rfl, Bool.or_false] at z
      exact z, trivial⟩
  | q :: r, w, p, h, hp, hc => ⟨h.1, h.2.1, WorkFrom.snoc h.2.2 hp fun e => by
      have z := hc e
      rw [show anyWrong (q :: r) = ((q.2 == "w") || anyWrong r) from rfl] at z
      rw [Bool.or_assoc]
      exact z⟩
theorem WorkFrom.all : ∀ {ws : List StepT} {w : Bool}, WorkFrom w ws → ∀ p ∈ ws, IsStep p
  | [], _, _, p, h => by cases h
  | q :: r, _, h, p, hp => by
    rcases List.mem_cons.mp hp with rfl | hp
    · exact h.1
    · exact WorkFrom.all h.2.2 p hp
def stepsV (ws : List StepT) : List V := ws.map fun p => V.str (stepS p)

/-! ### list(text) -/
def rListS : List V → Hp → VK → Prop := fun xs H Q => ∃ x : Str, xs = [.str x] ∧ x.cps.size ≤ sizeLine ∧ ∀ p, H p = none → Q (.ref p) (upd H p (.lst (x.cps.toList.map fun c => V.str ⟨#[c]⟩)))
theorem cr_listStr {X : Cx} (hc : X.calm = true) : CallR X (.type "list") rListS := by
  intro pins s σ H xs us Q I r h
  obtain ⟨x, rfl, hz, q⟩ := h
  obtain ⟨u, rfl, ru⟩ := vals1 r
  obtain ⟨t, rfl⟩ := ru
  refine call_list_str (hn := hz) (I.ok.hd hc) x t fun h' tk acc c' hk e hi => ?_
  refine (fun (hv : Vals (x.cps.toList.map fun c => V.str ⟨#[c]⟩) acc.toList) => ?_) ?_
  · exact ⟨.ref s.heap.objs.size, upd H s.heap.objs.size (.lst (x.cps.toList.map fun c => V.str ⟨#[c]⟩)), I.laid hk (Nat.le_refl _) ⟨by rw [List.length_map, Array.length_toList]; exact hz, acc.toList, c', hv, by rw [Array.toArray_toList]; exact e⟩, rfl, q _ (I.hok.fresh (Nat.le_refl _))⟩
  refine vals_of_idx _ _ (by rw [List.length_map, Array.length_toList, Array.length_toList]; exact hi.1) fun j u hj => ?_
  obtain ⟨c, t', hc, rfl⟩ := hi.2 j u (by rw [← Array.getElem?_toList]; exact hj)
  exact ⟨.str ⟨#[c]⟩, by simp [hc], ⟨_, rfl⟩⟩
theorem letters_of : (("abcdefgh" : Str).cps.toList.map fun c => V.str ⟨#[c]⟩) = wordsL.map V.str := by decide +kernel

/-! ### the draws' begin -/
def spBegun (K : PySem.W.Frag) : Sp := fun vs H Q _ => ∃ (a : Addr) (ns : List Int), vs = [.ref a] ∧ SqL K H a (ns.map V.int) ∧ ns.length ≤ 63 ∧
  ∀ (b l : Addr) (H' : Hp), H b = none → H l = none → Box H' b l → Same H H' → Q (.ref b) H'
section
variable {P : Program} {w : World} {K : PySem.W.Frag} {mg : Str → Option Value} {base : Heap}
theorem ok_begun (D : Def K mg "_law_begun" s_L_begun ["_law_script"]) (ml : mg "len" = none) (mli : mg "list" = none) (mi : mg "int" = none) : FnOk P w K mg base CX0 1 D.f D.fd ["_law_script"] (spBegun K) := by
  refine D.ok sc_L_begun (fun vs H Q E h => ?_) (fun cdv A outer s H vs Q E hr h => ?_)
  · obtain ⟨a, ns, rfl, _⟩ := h
    rfl
  obtain ⟨a, ns, rfl, hS, hlen, q⟩ := h
  refine ⟨_, pss_cons (ps_set (i := 1) sc_L_begun.nd rfl (Or.inl rfl) pe_int)
    (pss_cons (ps_for PassesOwn.never rfl (pi_list (pv 0)) (pg_name (i := 2) sc_L_begun.nd rfl (Or.inl rfl))
      (pss_one (ps_set (i := 1) sc_L_begun.nd rfl (Or.inl rfl) (pe_op op_mod (pe_op op_add (pe_op op_add (pe_op op_mul (pv 1) pe_int) (pe_op op_mul (pv 2) pe_int)) pe_int) pe_int))))
    (pss_one (ps_ret (pe_lst (pa_cons (pe_callTy call_list_of rfl mli (by decide +kernel) (pa_cons (pv 0) pa_nil))
      (pa_cons (pe_op op_mul (pv 1) (pe_callTy call_int1 rfl mi (by decide +kernel) (pa_cons (pe_cmpR op_gt (pe_callB call_len_seq rfl ml PySem.boot_len (pa_cons (pv 0) pa_nil)) pe_int (nomark _)) pa_nil))) pa_nil)))))), ?_⟩
  refine ⟨_, rfl, a, rfl, ⟨_, hS⟩, for_list (K := K) (a := a) (xs := ns.map V.int) (fun i σ H' => ∃ (z : Int) (v : Option V), σ = [some (.ref a), some (.int z), v] ∧ H' = H)
    ⟨0, none, rfl, rfl⟩ (fun i σ H' _ ⟨_, _, _, e⟩ => by rw [e]; exact hS) ?_ ?_⟩
  · rintro i y σ H' hi ⟨z, v, rfl, rfl⟩
    obtain ⟨u, rfl⟩ : ∃ u, y = V.int u := by
      obtain ⟨u, _, e⟩ := List.mem_map.mp (List.mem_of_getElem? hi)
      exact ⟨u, e.symm⟩
    exact ⟨_, rfl, _, _, rfl, rfl, .inr ⟨by decide, by decide⟩, _, rfl, _, _, rfl, rfl, .inr ⟨by decide, by decide⟩, _, _, rfl, rfl, _, _, rfl, rfl, _, _, rfl, rfl, (by show (0 : Int) < 2147483647; decide), _, _, rfl, rfl⟩
  · rintro σ H' ⟨z, v, rfl, rfl⟩
    refine ⟨_, rfl, a, _, rfl, .inl hS, fun l hl => ?_⟩
    have s1 : Same H' (upd H' l (.lst (ns.map V.int))) := Same.new hl
    refine ⟨_, rfl, _, rfl, a, _, rfl, .inl (s1.seq hS), _, _, rfl, rfl, .inr ⟨_, rfl, ?_⟩⟩
    refine ⟨_, _, rfl, rfl, .inr ?_, ?_⟩
    · split <;> exact ⟨by decide, by decide⟩
    refine ⟨(by show 2 ≤ sizeLine; decide), fun b hb => ?_⟩
    have nb : l ≠ b := ne_of_none upd_same hb
    have hb0 : H' b = none := s1.free hb
    refine q b l _ hb0 hl ⟨nb.symm, ⟨_, upd_same⟩, ns, by rw [upd_ne nb]; exact upd_same⟩ (s1.trans (Same.new hb))
/-! ### the letters -/
def spLetters : Sp := fun vs H Q _ => ∃ (b l : Addr), vs = [.ref b] ∧ Box H b l ∧
  ∀ (p : Addr) (F : List Str) (H' : Hp), H p = none → H' p = some (.lst (F.map V.str)) → (∀ x ∈ F, IsW x) → 0 < F.length → F.length ≤ 8 → Box H' b l → Keep [b, l] H H' → Q (.ref p) H'
end
end MS
end
section
set_option maxRecDepth 100000
set_option maxHeartbeats 4000000
namespace MS
open PySem L2
/-! ### match over a tuple whose first item is a text -/
inductive Caps (X : Cx) : List Pattern → List (Str × Nat) → Prop
  | nil : Caps X [] []
  | cons {n : Str} {i : Nat} {pos : Pos} {ps : List Pattern} {l : List (Str × Nat)} (hi : X.N[i]? = some n) (hx : Loc X.env.scope n) (hf : X.fn n = true ∨ X.env.scope.names.lookup n = some .local) (t : Caps X ps l) : Caps X (.MatchAs none (some n) pos :: ps) ((n, i) :: l)
def setAll : St → List Nat → List V → St
  | σ, i :: is, v :: vs => setAll (σ.set i (some v)) is vs
  | σ, _, _ => σ
section
variable {X : Cx} {pins : List (Addr × Obj)} {A : Around}
theorem Caps.each {E : Value → Shared → Prop} {s : Shared} : ∀ {ps : List Pattern} {l : List (Str × Nat)} {vs : List Value} {Q : Option (List (Str × Value)) → Shared → Prop}, Caps X ps l → vs.length = l.length → Q (some ((l.map (·.1)).zip vs)) s → wpAny (model X.prog X.w) A (matchEach ps X.env vs) Q E s
  | _, _, [], _, .nil, _, h => wpAny_matchEach_nil h
  | _, _, _ :: _, _, .nil, e, _ => nomatch e
  | _, _, [], _, .cons _ _ _ _, e, _ => nomatch e
  | _, _, v :: vs, Q, .cons hi hx hf t, e, h => wpAny_matchEach_cons (wpAny_matchPattern_Capture (Caps.each t (by simpa using e) h)) rfl
theorem Caps.len {ps : List Pattern} {l : List (Str × Nat)} (h : Caps X ps l) : ps.length = l.length := by
  induction h with
  | nil => rfl
  | cons _ _ _ _ ih => simp [ih]
theorem Caps.nostar : ∀ {ps : List Pattern} {l : List (Str × Nat)}, Caps X ps l → ∀ n, List.findIdx?.go (fun p : Pattern => p.isStar) ps n = none
  | _, _, .nil, _ => rfl
  | _, _, .cons hi hx hf t, n => by
    show (if _ then _ else _) = none
    rw [if_neg (by simp [Pattern.isStar])]
    exact Caps.nostar t (n + 1)
theorem Caps.store {E : Value → Shared → Prop} : ∀ {ps : List Pattern} {l : List (Str × Nat)} {us : List Value} {vs : List V} {σ : St} {H : Hp} {s : Shared} {Q : Unit → Shared → Prop}, Caps X ps l → X.N.Nodup → Vals vs us → us.length = l.length → Inv X pins σ H s → (∀ s', Inv X pins (setAll σ (l.map (·.2)) vs) H s' → Q () s') →
    wpAny (model X.prog X.w) A (assignInOrder ((((l.map (·.1)).zip us)).map fun (n, _) => bindName X.env n) (((l.map (·.1)).zip us).map (·.2))) Q E s
  | _, _, [], _, _, _, _, _, .nil, _, .nil, _, I, h => wpAny_assignInOrder_none (h _ I)
  | _, _, _ :: _, _, _, _, _, _, .nil, _, _, e, _, _ => nomatch e
  | _, _, [], _, _, _, _, _, .cons _ _ _ _, _, _, e, _, _ => nomatch e
  | _, _, u :: us, v :: vs, σ, H, s, Q, .cons hi hx hf t, hN, .cons r rr, e, I, h => by
    refine wpAny_assignInOrder_more ?_
    show wpAny _ _ (holding [u] point >>= fun _ => storeName X.env _ u >>= fun _ => point) _ _ _
    refine wpAny_bind (wpAny_holding (wpAny_point (wpAny_bind (store_ok I hN hi hx r (fun s' I' => ?_) hf))))
    exact wpAny_point (Caps.store t hN rr (by simpa using e) I' h)
end
/-- the cases of a match -/
abbrev TM := V → TS
structure PM (X : Cx) (cs : List MatchCase) (t : TM) : Prop where
  run : ∀ (first : Bool) (pins : List (Addr × Obj)) (s : Shared) (σ : St) (H : Hp) (x : V) (u : Value) (D : Ends), Inv X pins σ H s → RelV x u → t x D σ H → wpAny (model X.prog X.w) X.A (matchCases cs X.env u first) (SP X pins D) X.xe s
section
variable {X : Cx}
theorem pm_nil : PM X [] (fun _ D σ H => D.nx σ H) := ⟨fun first pins s σ H x u D I r h => wpAny_matchCases_nil ⟨σ, H, I, h⟩⟩
def tCase (K : PySem.W.Frag) (nm : Str) (is : List Nat) (tb : TS) (tr : TM) : TM := fun x D σ H => ∃ (a : Addr) (z : Str) (tl : List V), x = .ref a ∧ SqT K H a (.str z :: tl) ∧ tl.length ≤ 1000 ∧
  if tl.length = is.length ∧ z = nm then tb D (setAll σ is tl) H else tr x D σ H
theorem pm_cons {nm : Str} {k : Nat} {p1 p2 p3 : Pos} {ps : List Pattern} {l : List (Str × Nat)} {body : List Stmt} {cs : List MatchCase} {tb : TS} {tr : TM} (hc : X.calm = true) (hN : X.N.Nodup) (c : Caps X ps l) (hb : PSs X body tb) (hr : PM X cs tr) :
    PM X (⟨.MatchSequence (.MatchValue (.Constant (.str nm) k p1) p2 :: ps) p3, none, body⟩ :: cs) (tCase X.K nm (l.map (·.2)) tb tr) := by
  refine ⟨fun first pins s σ H x u D I r h => ?_⟩
  obtain ⟨a, z, tl, rfl, hq, hz, h⟩ := h
  obtain rfl : u = .ref a := r
  obtain ⟨its, rv, ht, _⟩ := I.tuple hq
  have hl := rv.length
  rw [List.length_cons] at hl
  have hps := c.len
  have hfit : (its.toArray.size : Int) < 2 ^ 63 := by
    rw [List.size_toArray, ← hl]
    omega
  have nost : (Pattern.MatchValue (.Constant (.str nm) k p1) p2 :: ps).findIdx? (·.isStar) = none := by
    have q := c.nostar 1
    simp only [List.findIdx?, List.findIdx?.go, Pattern.isStar, Bool.false_eq_true, if_false]
    exact q
  have nowild : ((Pattern.MatchValue (.Constant (.str nm) k p1) p2 :: ps).all fun p => p.isWildcard || (p.isStar && p.names.isEmpty)) = false := by
    simp [Pattern.isWildcard, Pattern.isStar]
  refine wpAny_matchCases_cons ?_
  by_cases hlen : tl.length = l.length
  · refine PyProof.Rows.matchSeq_tuple_hit ht hfit (by rw [List.size_toArray, ← hl, List.length_cons, hps, hlen]) ?_ nost nowild
    have esz : (Pattern.MatchValue (.Constant (.str nm) k p1) p2 :: ps).length = its.toArray.size := by rw [List.size_toArray, ← hl, List.length_cons, hps, hlen]
    rw [esz]
    refine PyProof.Rows.unpackItems_tuple (I.ok.hd hc) ht fun h' hx => ?_
    have I1 : Inv X pins σ H { s with heap := h', toks := s.toks + 1 + 1 } := I.kept (t' := s.toks + 1 + 1) fun b o e => hx b o (Nat.ne_of_lt (Heap.lt_size e)) e
    cases rv with
    | cons r0 rt =>
      rename_i u0 us
      obtain ⟨t0, rfl⟩ := r0
      have hus : us.length = l.length := by rw [← rt.length]; exact hlen
      refine wpAny_matchEach_cons (p := .MatchValue (.Constant (.str nm) k p1) p2) ?_ rfl
      refine wpAny_matchPattern_Value (Calls.Constant_str (PyProof.Rows.eq_str (wpAny_truthy_bool ?_)))
      by_cases hnm : z = nm
      · subst hnm
        rw [if_pos ⟨by rw [List.length_map]; exact hlen, rfl⟩] at h
        rw [if_pos (by simp)]
        refine c.each hus ?_
        refine c.store hN rt hus (I1.tok _) fun s' I' => ?_
        exact hb.run pins s' _ H D I' h
      · rw [if_neg (fun q => hnm q.2)] at h
        rw [if_neg (fun q => hnm (eq_of_beq q))]
        exact hr.run false pins _ σ H (.ref a) _ D (I1.tok _) rfl h
  · rw [if_neg (fun q => hlen (by rw [q.1, List.length_map]))] at h
    refine PyProof.Rows.matchSeq_tuple_miss ht hfit (by rw [List.size_toArray, ← hl, List.length_cons, hps]; omega) ?_ nost nowild
    exact hr.run false pins _ σ H (.ref a) _ D (I.tok _) rfl h
def tMatch (te : TE) (tm : TM) : TS := fun D σ H => te σ H fun x H1 => tm x D σ H1
theorem ps_match {e : Expr} {cs : List MatchCase} {te : TE} {tm : TM} {pos : Pos} (he : PE X e te) (hm : PM X cs tm) : PS X (.Match e cs pos) (tMatch te tm) := by
  refine ⟨fun pins s σ H D I h => ?_⟩
  refine wpAny_Match (thn (he.run pins s σ H _ I h) fun u s1 ⟨x, H1, I1, r1, q1⟩ => ?_)
  exact hm.run true pins s1 σ H1 x u D I1 r1 q1
end
end MS
end
section
set_option maxRecDepth 100000
set_option maxHeartbeats 4000000
namespace MS
open PySem L2
/-! ### enumerate(tuple) -/
theorem meets_enumerate_newT (l : Addr) (items : Array Value) :
    Meets (Builtin.«enumerate.__new__» ⟨[.type "enumerate", .ref l], []⟩) (fun _ R s => s.heap.IsTuple l items ∧
      R (.ok (.ret (.ref (s.heap.push { cls := .type "tuple_iterator", data := .fields #[.ref l, .int 0 0] }).objs.size)))
        { s with heap := (s.heap.push { cls := .type "tuple_iterator", data := .fields #[.ref l, .int 0 0] }).push { cls := .type "enumerate", data := .fields #[.none, .bool false, .ref s.heap.objs.size, rawInt 0, .none, .none] } }) :=
  .of_wp fun prog w A R s h => by
    obtain ⟨hp, g, d, tk, os⟩ := s; obtain ⟨hl, h⟩ := h
    have hsub := sub_enumerate
    have q1 : ∀ {A' : Around} {E : Value → Shared → Prop} {Q : Value → Shared → Prop}, Q (.ref hp.objs.size) ⟨hp.push { cls := .type "tuple_iterator", data := .fields #[.ref l, .int 0 0] }, g, d, tk, os⟩ → wpAny (model prog w) A' (pyIter (.ref l)) Q E ⟨hp, g, d, tk, os⟩ :=
      fun q => wpAny_pyIter_tuple (s := ⟨hp, g, d, tk, os⟩) hl q
    wp_walk using q1
    refine wpAny_stack_any fun st => wpAny_pure ?_
    split
    · rename_i c _ _ _ _ _
      cases (c == Value.type "enumerate")
      · wp_walk using q1
        exact ⟨_, rfl, h⟩
      · wp_walk using q1
        exact ⟨_, rfl, h⟩
    · wp_walk using q1
      exact ⟨_, rfl, h⟩
theorem call_enumerate_tuple {prog : Program} {w : World} {A : Around} {E : Value → Shared → Prop} {s : Shared} {l : Addr} {items : Array Value} {Q : Value → Shared → Prop} (hL : s.heap.IsTuple l items)
    (h : ∀ h', IsEnum h' (s.heap.objs.size + 1) s.heap.objs.size 0 .none → h'.IsTupleIter s.heap.objs.size l 0 → h'.objs.size = s.heap.objs.size + 2 →
      (∀ b o, s.heap.get? b = some o → h'.get? b = some o) → Q (.ref (s.heap.objs.size + 1)) { s with heap := h' }) :
    wpAny (model prog w) A (call (.type "enumerate") [.ref l]) Q E s := by
  refine callType_new F.called_enumerate (by decide) (F.typeCall_enumerate_1 _) (F.newCall_enumerate_1 _) (fun obj => F.args_object_init_2 obj _) F.entry_enumerate_new
    (meets_enumerate_newT l items) ⟨hL, ?_⟩
  have hz : (s.heap.push { cls := .type "tuple_iterator", data := .fields #[.ref l, .int 0 0] }).objs.size = s.heap.objs.size + 1 := Heap.size_push ..
  show _ ∧ _
  rw [hz]
  have he : IsEnum ((s.heap.push { cls := .type "tuple_iterator", data := .fields #[.ref l, .int 0 0] }).push
      { cls := .type "enumerate", data := .fields #[.none, .bool false, .ref s.heap.objs.size, rawInt 0, .none, .none] }) (s.heap.objs.size + 1) s.heap.objs.size 0 .none := by
    have := Heap.get?_push_size (s.heap.push { cls := .type "tuple_iterator", data := .fields #[.ref l, .int 0 0] })
      (o := { cls := .type "enumerate", data := .fields #[.none, .bool false, .ref s.heap.objs.size, rawInt 0, .none, .none] }) rfl
    rw [hz] at this; exact this
  refine ⟨⟨_, he, rfl⟩, h _ he ⟨_, Heap.get?_push_of_some _ (Heap.get?_push_size _ rfl), rfl, rfl⟩ (by rw [Heap.size_push, hz]) fun b o x => Heap.get?_push_of_some _ (Heap.get?_push_of_some _ x)⟩
/-- the tuple at a as it stands at each turn, each item in a new pair -/
def IteT (K : PySem.W.Frag) (a : Addr) : It :=
  ⟨fun i H => ∃ (xs : List V) (x : V), SqT K H a xs ∧ xs[i]? = some x, fun i H v H' => ∃ T x, v = .ref T ∧ H T = none ∧ H' = upd H T (.tup [.int (i : Nat), x]) ∧ ∀ xs, SqT K H a xs → xs[i]? = some x, fun i H => ∃ xs : List V, SqT K H a xs ∧ xs.length ≤ i⟩
theorem walk_enumT {K : PySem.W.Frag} {a : Addr} {xs : List V} : Walk (IteT K a) xs.length (fun H => SqT K H a xs) (YPair (fun i => some (.int (i : Nat))) (fun i => xs[i]?)) := by
  refine ⟨fun i _ hi q => ⟨xs, xs[i], q, by simp [hi]⟩, fun _ q => ⟨xs, q, Nat.le_refl _⟩, fun i H v H' _ q y => ?_⟩
  obtain ⟨T, x, h1, h2, h3, h4⟩ := y
  exact ⟨T, .int (i : Nat), x, h1, h2, h3, rfl, h4 xs q⟩
theorem turn_enumT {P : Program} {w : World} {K : PySem.W.Frag} {elts : List Expr} {kk : Nat} {tpos : Pos} (a e it : Addr) :
    Turn P w K (.Tuple elts kk tpos) (IteT K a) [e, it] e (fun i h => (∃ old, IsEnum h e it ((i : Nat) : Int) old) ∧ h.IsTupleIter it a i ∧ e ≠ it ∧ e ≠ a ∧ a ≠ it) where
  mem := by simp
  obj := fun i h st b hb => by
    obtain ⟨⟨old, he⟩, ⟨o, ho, hc, hd⟩, _⟩ := st
    have e' : b = e ∨ b = it := by simpa using hb
    rcases e' with z | z
    · rw [z]; exact ⟨_, he, fun v q => nomatch q⟩
    · rw [z]; exact ⟨o, ho, fun v q => by rw [hd] at q; cases q⟩
  keep := fun i h h' st k => let ⟨⟨old, he⟩, hi, hne⟩ := st; ⟨⟨old, k e (by simp) _ he⟩, hi.at fun o q => k it (by simp) o q, hne⟩
  item := by
    intro X hP hw hK hc i pins s σ H E I hf st hg
    subst hP hw hK
    obtain ⟨⟨old, he⟩, hit, hne, hea, hai⟩ := st
    obtain ⟨xs, x, hq, hx⟩ := hg
    obtain ⟨its, rv, p, hz⟩ := I.tuple hq
    obtain ⟨u, hu, ru⟩ := rv.get hx
    have hel : e < s.heap.objs.size := Heap.lt_size he
    have hil : it < s.heap.objs.size := by obtain ⟨_, q, _⟩ := hit; exact Heap.lt_size q
    have hlt : i < its.toArray.size := by
      have z := (List.getElem?_eq_some_iff.mp hu).1
      rw [List.size_toArray]
      exact z
    refine wpAny_pyNext_enum_itemD (Draws.tuple (A := X.A.in1) (I.ok.hd hc) it a hai its.toArray) he ⟨hit, p⟩ hlt hne (by simp [hne, hea]) fun x' h' tk hx' ho hit' hT hsz hk => ?_
    have eu : x' = u := by
      have z : its.toArray[i]? = some u := by simpa using hu
      exact Option.some.inj (hx'.symm.trans z)
    subst eu
    refine ⟨_, rfl, wpAny_letOwnedTupleGo_enum (s := { s with heap := h', toks := tk + 1 }) ho fun h'' he' sb => ?_⟩
    have hT2 : h''.get? s.heap.objs.size = some { cls := .type "tuple", data := .seq #[.int i tk, x'] } := (sb.2 _ (Nat.ne_of_gt hel)).trans hT
    have new : ObjOk X.prog X.w (upd H s.heap.objs.size (.tup [.int (i : Nat), x])) h'' s.heap.objs.size (.tup [.int (i : Nat), x]) :=
      ⟨by show 2 ≤ sizeLine; decide, [.int i tk, x'], .cons ⟨_, rfl⟩ (.cons ru .nil), ⟨_, hT2, rfl, _, rfl⟩⟩
    have I1 : Inv X pins σ (upd H s.heap.objs.size (.tup [.int (i : Nat), x])) { s with heap := h'', toks := tk + 1 } :=
      I.turnedNew (ch := [e, it]) (fun b ob hb q => (sb.2 b (fun z => hb (by simp [z]))).trans (hk b ob (fun z => hb (by simp [z])) (fun z => hb (by simp [z])) q)) hf (Nat.le_refl _) new
    refine ⟨.ref s.heap.objs.size, _, I1, rfl, ⟨_, x, rfl, I.hok.fresh (Nat.le_refl _), rfl, fun ys hy => by rw [I.tuple_inj hy hq]; exact hx⟩, ⟨⟨x', ?_⟩, hit'.1.at fun o q => (sb.2 it (Ne.symm hne)).trans q, hne, hea, hai⟩, fun b hb => ?_⟩
    · have e1 : ((i + 1 : Nat) : Int) = (i : Int) + 1 := by omega
      rw [e1]; exact he'
    · have hb' : b < s.heap.objs.size := by
        have e' : b = e ∨ b = it := by simpa using hb
        rcases e' with z | z
        · rw [z]; exact hel
        · rw [z]; exact hil
      rw [upd_ne (Nat.ne_of_lt hb')]
      exact (hf b hb).1
  done := by
    intro X hP hw hK hc i pins s σ H E I hf st hg
    subst hP hw hK
    obtain ⟨⟨old, he⟩, hit, hne, hea, hai⟩ := st
    obtain ⟨xs, hq, hx⟩ := hg
    obtain ⟨its, rv, p, hz⟩ := I.tuple hq
    obtain ⟨f0, f1, f2, f3, f4, f5⟩ := hf it (by simp)
    have hl := rv.length
    have hT : s.TypeIs (.ref e) "enumerate" := ⟨_, he, rfl⟩
    unfold pyNext
    refine wpAny_bind (wpAny_attempt (wpAny_callSpecial?_slot (name := Str.ofString "__next__") hT F.slot_enumerate_next
      (wpAny_call_entry F.slot_enumerate_next hT F.entry_enumerate_next ?_ (F.args_enumerate_next_1 _))))
    show wpAny _ _ (field (.ref e) 2 >>= _) _ _ _
    refine wpAny_bind (wpAny_field he rfl (x := .ref it) rfl ?_)
    refine wpAny_bind (wpAny_nextOf_tuple_end (A := X.A.in1) (I.ok.hd hc) hit (show s.heap.IsTuple a its.toArray from p) (by simp; omega) fun h' x he' hx' => ?_)
    obtain ⟨o, ho, hc'⟩ := hx'
    refine wpAny_bind (wpAny_isInstance (T := "StopIteration") (b := true) ⟨o, ho, hc'⟩ isSubtype_stop ?_)
    exact wpAny_pure ⟨rfl, I.turned (t' := s.toks) (fun b o hb q => he' b o hb q) f0 f1 f3 f4 f5⟩
  self := fun A i s Q E st h => let ⟨⟨_, he⟩, _⟩ := st; wpAny_pyIter_enum he h
def iEnumT (K : PySem.W.Frag) (ta : TA) : TI := fun σ H R => ta σ H fun vs H1 => ∃ a xs, vs = [.ref a] ∧ SqT K H1 a xs ∧ R (IteT K a) H1
theorem pi_enumT {X : Cx} {e : Expr} {ta : TA} {p pos tpos : Pos} {elts : List Expr} {kk : Nat} (hg : Gl X "enumerate") (hm : X.mg "enumerate" = none) (ha : PA X [e] ta) (hs : starEach [e] X.env = [(false, eval e X.env)] := by rfl) :
    PI X (.Tuple elts kk tpos) (.Call (.Name "enumerate" p) [e] [] pos) (iEnumT X.K ta) := by
  refine ⟨fun pins s σ H R I h => ?_⟩
  refine PyProof.Rows.Call_ (ld_blt I hg hm PyProof.Rows.boot_enumerate (PyProof.Rows.callWith_type1 (thn (ha.run pos pins s σ H _ I h) fun us s1 ⟨vs, H1, I1, r1, q1⟩ => ?_) hs rfl))
  obtain ⟨a, xs, ex, hq, q⟩ := q1
  subst ex
  cases r1 with
  | cons r rr =>
    cases rr
    cases r
    obtain ⟨its, rv, p', hz⟩ := I1.tuple hq
    have hal : a < s1.heap.objs.size := p'.lt
    refine call_enumerate_tuple (show s1.heap.IsTuple a its.toArray from p') fun h' he hit hsz hk => wpAny_pyIter_enum he ?_
    have I2 : Inv X pins σ H1 { s1 with heap := h' } := I1.kept (t' := s1.toks) hk
    refine ⟨s1.heap.objs.size + 1, [s1.heap.objs.size + 1, s1.heap.objs.size], _, _, H1, rfl, I2, turn_enumT a (s1.heap.objs.size + 1) s1.heap.objs.size, ⟨⟨.none, he⟩, hit, Nat.succ_ne_self _, Nat.ne_of_gt (Nat.lt_succ_of_lt hal), Nat.ne_of_lt hal⟩, fun b hb => ?_, q⟩
    have e' : b = s1.heap.objs.size + 1 ∨ b = s1.heap.objs.size := by simpa using hb
    have hle : s1.heap.objs.size ≤ b := by
      rcases e' with z | z
      · rw [z]; exact Nat.le_add_right _ _
      · rw [z]; exact Nat.le_refl _
    exact I1.fpOk hle (I1.hok.fresh hle)
end MS
end
section
set_option maxRecDepth 100000
set_option maxHeartbeats 4000000
namespace MS
open PySem L2
/-! ### max(list of objects, key=f), f a def of the text: the first of the greatest -/
def gtB (kf : Nat → Int) : Nat → Nat → Bool := fun i j => decide (kf j < kf i)
def rMaxKey (f : Addr) (sp : Sp) : List V → List V → Hp → VK → Prop := fun vs zs H Q => ∃ (a : Addr) (xs : List V) (kf : Nat → Int), vs = [.ref a] ∧ zs = [.ref f] ∧ H a = some (.lst xs) ∧ (∀ x ∈ xs, ∃ b, x = V.ref b) ∧ 0 < xs.length ∧
  (∀ H' i x, Same H H' → xs[i]? = some x → sp [x] H' (fun v H'' => v = .int (kf i) ∧ Same H' H'') E0) ∧ ∀ x H', Same H H' → xs[argBest (gtB kf) (xs.length - 1)]? = some x → Q x H'
theorem vals_refs_eq : ∀ {xs : List V} {us ws : List Value}, (∀ x ∈ xs, ∃ b, x = V.ref b) → Vals xs us → Vals xs ws → us = ws
  | _, _, _, _, .nil, .nil => rfl
  | _, _, _, h, .cons r t, .cons r' t' => by
    obtain ⟨b, rfl⟩ := h _ List.mem_cons_self
    cases r
    cases r'
    rw [vals_refs_eq (fun x hx => h x (List.mem_cons_of_mem _ hx)) t t']
theorem cr_maxKey {X : Cx} {k : Nat} {f : Addr} {fd : FuncData} {ps : List Str} {sp : Sp} (hc : X.calm = true) (F : FnOk X.prog X.w X.K X.mg X.base CX0 k f fd ps sp) (hr : Room (k + 1) X.A) (hb : Binds X.K fd ps []) : CallRK X (.builtin "max") [Str.ofString "key"] (rMaxKey f sp) := by
  intro pins s σ H vs zs us ws Q I r1 r2 h
  obtain ⟨a, xs, kf, rfl, rfl, ea, hx, hpos, hkey, hQ⟩ := h
  obtain ⟨u, rfl, ru⟩ := vals1 r1
  obtain ⟨u2, rfl, ru2⟩ := vals1 r2
  obtain rfl : u = .ref a := ru
  obtain rfl : u2 = .ref f := ru2
  show wpAny _ _ (call (.builtin "max") [.ref a] [(Str.ofString "key", .ref f)]) _ _ _
  obtain ⟨its, rv, pl, hz⟩ := I.list (SqL.of ea)
  have hlen := rv.length
  refine call_max_walkK (wpAny_pyIter_list pl.isList ?_)
  have hIn : H s.heap.objs.size = none := I.hok.fresh (Nat.le_refl _)
  have I1 : Inv X pins σ H { s with heap := s.heap.push { cls := .type "list_iterator", data := .fields #[.ref a, .int 0 0] } } := I.kept (t' := s.toks) fun b o e => Heap.get?_push_of_some _ e
  have hsz : (s.heap.push { cls := .type "list_iterator", data := .fields #[.ref a, .int 0 0] }).objs.size = s.heap.objs.size + 1 := Heap.size_push ..
  have hal : a < s.heap.objs.size := by
    obtain ⟨o, e, _⟩ := pl.isList
    exact Heap.lt_size e
  have fI : FpOk X pins H s.heap.objs.size := I.fpOk (Nat.le_refl _) hIn
  have fS : FpOk X pins H (s.heap.objs.size + 1) := I.fpOk (Nat.le_succ _) (I.hok.fresh (Nat.le_succ _))
  have hh : X.A.in1.handled = none := I.ok.hd hc
  have W := (Walks.list (prog := X.prog) (w := X.w) (A := X.A.in1) hh s.heap.objs.size a (Nat.ne_of_lt hal) its.toArray).toS
  have look : ∀ {H' : Hp} {s' : Shared}, Inv X pins σ H' s' → Same H H' → s'.heap.IsList a its.toArray := fun {H' s'} I' sm => by
    obtain ⟨its', rv', pl', _⟩ := I'.list (SqL.of (sm _ _ ea))
    rw [vals_refs_eq hx rv rv']
    exact pl'.isList
  refine ⟨s.heap.objs.size, _, _, _, _, _, _, (fun s' => ∃ H', Same H H' ∧ Inv X pins σ H' s' ∧ (∀ b ∈ [s.heap.objs.size + 1, s.heap.objs.size], H' b = none)), (fun i v _ => ∃ t, v = .int (kf i) t), gtB kf, rfl, W, ⟨⟨_, Heap.get?_push_size _ rfl, rfl, rfl⟩, look I1 (Same.refl _)⟩, ?_, by rw [List.size_toArray, ← hlen]; exact hpos, ?_, ⟨H, Same.refl _, I1, ?_⟩, ?_⟩
  · intro b hb
    have e' : b = s.heap.objs.size ∨ b = a := by simpa using hb
    have e2 : b < s.heap.objs.size + 1 := by
      rcases e' with e' | e'
      · rw [e']; exact Nat.lt_succ_self _
      · rw [e']; exact Nat.lt_succ_of_lt hal
    rw [← hsz] at e2
    exact e2
  · rw [hsz]
    refine ⟨fun s1 s2 ⟨H', sm, I', fr⟩ mv => ?_, fun i v s1 s2 h _ => h, fun i v s1 o Q' E' hi hv ⟨H', sm, I', fr⟩ hst hS hQ' => ?_, fun i j ki kj s1 Q' E' _ hki hkj q => ?_⟩
    · rw [Moved.eq_with mv]
      refine ⟨H', sm, I'.turnedL (ch := [s.heap.objs.size + 1, s.heap.objs.size]) (fun b o hb e => mv.heap b o (by simpa using hb) e) (fun b hb => ?_), fr⟩
      have e' : b = s.heap.objs.size + 1 ∨ b = s.heap.objs.size := by simpa using hb
      rcases e' with e' | e'
      · subst e'; exact ⟨fr _ (by simp), fS.2⟩
      · subst e'; exact ⟨fr _ (by simp), fI.2⟩
    · obtain ⟨x, ex, rx⟩ : ∃ x, xs[i]? = some x ∧ RelV x v := by
        have hv' : its[i]? = some v := by simpa using hv
        have hil := (List.getElem?_eq_some_iff.mp hv').1
        have hix : i < xs.length := by omega
        obtain ⟨u, hu, ru⟩ := rv.get (i := i) (x := xs[i]) (by simp [hix])
        rw [hv'] at hu
        cases hu
        exact ⟨_, by simp [hix], ru⟩
      have r' : Vals [x] [v] := .cons rx .nil
      have hsp := hkey H' i x sm ex
      have hl : ([v] : List Value).length = ps.length := by rw [← F.len _ _ _ _ hsp]; rfl
      refine wpAny_call (codeAny_mono (F.run X.A.in1 X.stack s1 H' ⟨[v], []⟩ [v] [x] _ E0 hr.in1 I'.env0.in1 (by have z := hb s1 [v] I'.kIn (by simpa using hl); simpa using z) r' hsp) fun r s2 hq => ?_)
      cases r with
      | error e => exact False.elim hq
      | ok fl =>
        cases fl with
        | next => exact False.elim hq
        | brk => exact False.elim hq
        | cont => exact False.elim hq
        | ret u =>
          have hq' : CE X.stack X.prog X.w H' s1 (fun v H'' => v = .int (kf i) ∧ Same H' H'') u s2 := hq
          obtain ⟨w', H'', os, bare, un, hok, rw', ev, sm2⟩ := hq'
          subst ev
          obtain ⟨t, rfl⟩ := rw'
          have I'' : Inv X pins σ H'' s2 := by
            obtain ⟨hp2, g2, d2, t2, os2⟩ := s2
            obtain rfl : os2 = s1.os := os
            exact I'.call (h' := hp2) (g' := g2) (d' := d2) (t' := t2) (ch := []) un hok bare (fun b z => absurd z (by simp))
          have nst : ∀ b, FpOk X pins H b → b ∉ frs X.stack := fun b fb hm => by
            rcases List.mem_cons.mp (I'.stkSub b hm) with e | e
            · exact fb.2.1 e
            · exact fb.2.2.1 e
          obtain ⟨⟨oI, hoI, hoc, hod⟩, _⟩ := hst
          have kI := un.keep _ oI hoI (fr _ (by simp)) (nst _ fI) (by simp)
          have kS := un.keep _ o hS (fr _ (by simp)) (nst _ fS) (by simp)
          have fI2 := un.free _ oI hoI (fr _ (by simp)) (by simp)
          have fS2 := un.free _ o hS (fr _ (by simp)) (by simp)
          refine hQ' _ s2 ⟨H'', sm.trans sm2, I'', fun b hb => ?_⟩ ⟨⟨oI, kI, hoc, hod⟩, look I'' (sm.trans sm2)⟩ kS ⟨t, rfl⟩ (fun j k' h => h)
          have e' : b = s.heap.objs.size + 1 ∨ b = s.heap.objs.size := by simpa using hb
          rcases e' with e' | e'
          · subst e'; exact fS2
          · subst e'; exact fI2
    · obtain ⟨ti, rfl⟩ := hki
      obtain ⟨tj, rfl⟩ := hkj
      exact CmpOf.ints_gt (prog := X.prog) (w := X.w) (A := X.A.in1) (P := fun i v => ∃ t, v = .int (kf i) t) kf (fun i v h => h) i j _ _ _ _ _ ⟨ti, rfl⟩ ⟨tj, rfl⟩ q
  · intro b hb
    have e' : b = s.heap.objs.size + 1 ∨ b = s.heap.objs.size := by simpa using hb
    rcases e' with e' | e'
    · subst e'; exact fS.1
    · subst e'; exact hIn
  · rintro v s' hv ⟨H', sm, I', _⟩
    have hv' : its[argBest (gtB kf) (its.length - 1)]? = some v := by simpa using hv
    have hil := (List.getElem?_eq_some_iff.mp hv').1
    rw [← hlen] at hil hv'
    obtain ⟨u, hu, ru⟩ := rv.get (i := argBest (gtB kf) (xs.length - 1)) (x := xs[argBest (gtB kf) (xs.length - 1)]'hil) (by simp [hil])
    rw [hv'] at hu
    cases hu
    exact ⟨_, H', I', ru, hQ _ H' sm (by simp [hil])⟩
end MS
end
section
set_option maxRecDepth 100000
set_option maxHeartbeats 4000000
namespace MS
open PySem L2
theorem mem_eraseIdx {α : Type} {l : List α} {k : Nat} {x : α} (h : x ∈ l.eraseIdx k) : x ∈ l := List.mem_of_mem_eraseIdx h
theorem map_erase {α β : Type} (f : α → β) : ∀ (l : List α) (k : Nat), (l.map f).eraseIdx k = (l.eraseIdx k).map f
  | [], _ => rfl
  | _ :: _, 0 => rfl
  | a :: r, k + 1 => congrArg (f a :: ·) (map_erase f r k)
theorem seq_of {n : Nat} {i : Int} (h0 : 0 ≤ i) (h1 : i < n) : seqIndex? i n = some i.toNat := by
  have e : ixN n i = some i.toNat := by
    unfold ixN
    rw [if_pos h0, if_pos h1]
  exact (ixN_seq e).1
theorem atI_of {α : Type} {l : List α} {i : Int} {x : α} (h0 : 0 ≤ i) (h : l[i.toNat]? = some x) : atI l i = some x := by
  have e : i = ((i.toNat : Nat) : Int) := by omega
  rw [e]
  exact atI_nat h
theorem get_map {α β : Type} (f : α → β) (l : List α) {i : Nat} (h : i < l.length) : (l.map f)[i]? = some (f (l[i]'h)) := by
  rw [List.getElem?_map, List.getElem?_eq_getElem h]
  rfl
theorem Keep.newer {S : List Addr} {H H1 : Hp} {p : Addr} {o : HO} (k : Keep S H H1) (h : H p = none) : Keep S H (upd H1 p o) := fun b u q n => by
  rw [upd_ne (ne_of_none q h)]
  exact k b u q n
theorem Box.ne_new {H : Hp} {b l x : Addr} (B : Box H b l) (hx : H x = none) : x ≠ b ∧ x ≠ l := by
  obtain ⟨_, ⟨n, e1⟩, ns, e2⟩ := B
  exact ⟨(ne_of_none e1 hx).symm, (ne_of_none e2 hx).symm⟩
theorem Box.nin {H : Hp} {b l x : Addr} (B : Box H b l) (hx : H x = none) : x ∉ [b, l] := fun hm => by
  rcases List.mem_cons.mp hm with e | hm
  · exact (B.ne_new hx).1 e
  · exact (B.ne_new hx).2 (List.mem_singleton.mp hm)
theorem Box.put {H : Hp} {b l x : Addr} {o : HO} (B : Box H b l) (hb : x ≠ b) (hl : x ≠ l) : Box (upd H x o) b l := by
  obtain ⟨ne, ⟨n, e1⟩, ns, e2⟩ := B
  exact ⟨ne, ⟨n, by rw [upd_ne hb.symm]; exact e1⟩, ns, by rw [upd_ne hl.symm]; exact e2⟩
theorem Box.new {H : Hp} {b l x : Addr} {o : HO} (B : Box H b l) (hx : H x = none) : Box (upd H x o) b l := B.put (B.ne_new hx).1 (B.ne_new hx).2
theorem sz2 : 2 ≤ sizeLine := by decide
theorem szN {n : Nat} (h : n ≤ 1000) : n ≤ sizeLine := Nat.le_of_lt (small1000 h)
/-- one of two numbers, by a draw -/
theorem pick2 {x y r m : Int} (hx : 0 ≤ x ∧ x < m) (hy : 0 ≤ y ∧ y < m) (h0 : 0 ≤ r) (h1 : r < 2) : ∃ z, atI [V.int x, V.int y] r = some (.int z) ∧ 0 ≤ z ∧ z < m := by
  have e : r = 0 ∨ r = 1 := by omega
  rcases e with rfl | rfl
  · exact ⟨x, at0, hx⟩
  · exact ⟨y, at1, hy⟩
section
variable {P : Program} {w : World} {K : PySem.W.Frag} {mg : Str → Option Value} {base : Heap}
theorem ok_letters (D : Def K mg "_law_letters" s_L_letters ["_law_box"]) (DT : Def K mg "_law_take" s_L_take ["_law_box", "_law_many"]) (ml : mg "len" = none) (mli : mg "list" = none) (mr : mg "range" = none) : FnOk P w K mg base CX0 2 D.f D.fd ["_law_box"] spLetters := by
  have GT : FnOk P w K mg base CX0 1 DT.f DT.fd ["_law_box", "_law_many"] spTake := ok_take DT
  refine D.ok sc_L_letters (fun vs H Q E h => ?_) (fun cdv A outer s H vs Q E hr h => ?_)
  · obtain ⟨b, l, rfl, _⟩ := h
    rfl
  obtain ⟨b, l, rfl, B, q⟩ := h
  refine ⟨_, pss_cons (ps_par (i := 1) (j := 2) (by rfl) sc_L_letters.nd rfl rfl (by decide) rfl rfl (pa_cons (pe_callTy (cr_listStr rfl) rfl mli (by decide +kernel) (pa_cons pe_str pa_nil)) (pa_cons (pe_lst pa_nil) pa_nil)) (by rfl))
    (pss_cons (ps_for PassesOwn.never rfl (pi_range1 rfl mr (pa_cons (pe_op op_add pe_int (pe_ix ix_list (pe_lst (pa_cons (pcall DT GT hr (pa_cons (pv 0) (pa_cons pe_int pa_nil))) (pa_cons (pcall DT GT hr (pa_cons (pv 0) (pa_cons pe_int pa_nil))) pa_nil))) (pcall DT GT hr (pa_cons (pv 0) (pa_cons pe_int pa_nil))) (fun _ _ => rfl))) pa_nil)) (pg_name (i := 3) sc_L_letters.nd rfl (Or.inl rfl))
      (pss_one (ps_expr (pe_bm PySem.F.plainAttrs_list PySem.F.slot_list_append PySem.F.type_list_append mt_append (pv 2)
        (pa_cons (pe_bm PySem.F.plainAttrs_list PySem.F.slot_list_pop PySem.F.type_list_pop mt_popAt (pv 1) (pa_cons (pcall DT GT hr (pa_cons (pv 0) (pa_cons (pe_callB call_len_seq rfl ml PySem.boot_len (pa_cons (pv 1) pa_nil)) pa_nil))) pa_nil)) pa_nil)))))
    (pss_one (ps_ret (pv 2)))), ?_⟩
  refine ⟨_, rfl, by decide, fun p hp => ?_⟩
  rw [letters_of]
  refine ⟨Nat.zero_le _, fun f hf => ?_⟩
  have npf : p ≠ f := ne_of_none upd_same hf
  have hpf : upd (upd H p (.lst (wordsL.map V.str))) f (.lst []) p = some (.lst (wordsL.map V.str)) := by rw [upd_ne npf]; exact upd_same
  have k1 : Keep [b, l] H (upd (upd H p (.lst (wordsL.map V.str))) f (.lst [])) := (Keep.new hp).trans (Keep.new hf)
  have hf0 : H f = none := (Same.new hp).free hf
  have nfb := B.ne_new hf0
  have npb := B.ne_new hp
  have B1 : Box (upd (upd H p (.lst (wordsL.map V.str))) f (.lst [])) b l := (B.new hp).put nfb.1 nfb.2
  refine ⟨_, _, rfl, ?_⟩
  refine ⟨_, rfl, b, l, 2, rfl, by decide, by decide, B1, fun r1 H1 a0 a1 B2 k2 => ?_⟩
  refine ⟨_, rfl, b, l, 7, rfl, by decide, by decide, B2, fun r2 H2 b0 b1 B3 k3 => ?_⟩
  refine ⟨sz2, fun L hL => ?_⟩
  refine ⟨_, rfl, b, l, 2, rfl, by decide, by decide, B3.new hL, fun r3 H3 c0 c1 B4 k4 => ?_⟩
  have k5 : Keep [b, l] H2 H3 := (Keep.new hL).trans k4
  have nL := B3.ne_new hL
  have eL : H3 L = some (.lst [.int r1, .int r2]) := k4 L _ upd_same (by simp [nL.1, nL.2])
  obtain ⟨z, ez, z0, z1⟩ := pick2 (x := r1) (y := r2) (m := 7) ⟨a0, by omega⟩ ⟨b0, b1⟩ c0 c1
  refine ⟨L, _, r3, .int z, rfl, rfl, SqL.of eL, ez, _, _, rfl, rfl, _, rfl, by omega, by omega, ?_⟩
  have k6 : Keep [b, l] (upd (upd H p (.lst (wordsL.map V.str))) f (.lst [])) H3 := k2.trans (k3.trans k5)
  have nin : ∀ {x : Addr}, x ≠ b ∧ x ≠ l → x ∉ [b, l] := fun {x} h => by simp [h.1, h.2]
  refine for_range (lo := 0) (n := (2 + z).toNat) (fun i σ H' => ∃ (W F : List Str) (v : Option V), σ = [some (.ref b), some (.ref p), some (.ref f), v] ∧ H' p = some (.lst (W.map V.str)) ∧ H' f = some (.lst (F.map V.str)) ∧
      W.length + i = 8 ∧ F.length = i ∧ (∀ x ∈ W, IsW x) ∧ (∀ x ∈ F, IsW x) ∧ Box H' b l ∧ Keep [b, l] H H')
    ⟨wordsL, [], none, rfl, k6 _ _ hpf (nin npb), k6 _ _ upd_same (nin nfb), rfl, rfl, fun _ h => h, fun _ h => (nomatch h), B4, k1.trans k6⟩ ?_ ?_
  · rintro i σ H' hi ⟨W, F, v, rfl, e1, e2, l1, l2, w1, w2, B', k'⟩
    have hW : 0 < W.length := by omega
    refine ⟨_, rfl, .inl ⟨rfl, _, SqL.of e2⟩, _, rfl, .inl ⟨rfl, _, SqL.of e1⟩, _, rfl, _, rfl, p, _, rfl, .inl (SqL.of e1), b, l, _, rfl, (by rw [List.length_map]; omega), (by rw [List.length_map]; omega), B', fun r H2' r0 r1' B2' k2' => ?_⟩
    rw [List.length_map] at r1'
    have hr' : r.toNat < W.length := by omega
    have e1' := k2' _ _ e1 (nin npb)
    have e2' := k2' _ _ e2 (nin nfb)
    refine ⟨p, _, r, r.toNat, .str (W[r.toNat]'hr'), rfl, rfl, e1', by omega, by omega, seq_of r0 (by rw [List.length_map]; exact r1'), get_map V.str W hr', ?_⟩
    refine ⟨f, _, _, rfl, rfl, (by rw [upd_ne npf.symm]; exact e2'), (by rw [List.length_map]; exact small1000 (by omega)), ?_⟩
    refine ⟨W.eraseIdx r.toNat, F ++ [W[r.toNat]'hr'], _, rfl, ?_, ?_, ?_, ?_, fun x hx => w1 x (mem_eraseIdx hx), fun x hx => ?_, (B2'.put npb.1 npb.2).put nfb.1 nfb.2, ((k'.trans k2').newer hp).newer hf0⟩
    · rw [upd_ne npf, upd_same, map_erase]
    · rw [upd_same, List.map_append]
      rfl
    · rw [List.length_eraseIdx_of_lt hr']
      omega
    · rw [List.length_append, l2]
      rfl
    · rcases List.mem_append.mp hx with hx | hx
      · exact w2 x hx
      · rw [List.mem_singleton.mp hx]
        exact w1 _ (List.getElem_mem hr')
  · rintro σ H' ⟨W, F, v, rfl, e1, e2, l1, l2, w1, w2, B', k'⟩
    exact ⟨_, rfl, q f F H' hf0 e2 w2 (by omega) (by omega) B' k'⟩
end
end MS
end
section
set_option maxRecDepth 100000
set_option maxHeartbeats 4000000
namespace MS
open PySem L2
def spStep : Sp := fun vs H Q _ => ∃ (b l L : Addr) (F : List Str) (c : Bool), vs = [.ref b, .ref L, .bl c] ∧ Box H b l ∧ L ≠ b ∧ L ≠ l ∧ H L = some (.lst (F.map V.str)) ∧ (∀ x ∈ F, IsW x) ∧ 0 < F.length ∧ F.length ≤ 8 ∧
  ∀ (p : StepT) (H' : Hp), IsStep p → (p.2 = "c" → c = true) → Box H' b l → Keep [b, l] H H' → Q (.str (stepS p)) H'
theorem pick_mark {r : Int} (h0 : 0 ≤ r) (h1 : r < 4) : ∃ m, atI [V.str "r", V.str "w", V.str "r", V.str "c"] r = some (.str m) ∧ IsM m := by
  have e : r = 0 ∨ r = 1 ∨ r = 2 ∨ r = 3 := by omega
  rcases e with rfl | rfl | rfl | rfl
  · exact ⟨"r", at0, by unfold IsM; decide +kernel⟩
  · exact ⟨"w", at1, by unfold IsM; decide +kernel⟩
  · exact ⟨"r", at2, by unfold IsM; decide +kernel⟩
  · exact ⟨"c", at_of (j := 3) rfl rfl, by unfold IsM; decide +kernel⟩
theorem pick_word {F : List Str} {r : Int} (w1 : ∀ x ∈ F, IsW x) (h0 : 0 ≤ r) (h1 : r < ((F.map V.str).length : Nat)) : ∃ x, atI (F.map V.str) r = some (.str x) ∧ IsW x ∧ x ∈ F := by
  rw [List.length_map] at h1
  have hr : r.toNat < F.length := by omega
  exact ⟨F[r.toNat]'hr, atI_of h0 (get_map V.str F hr), w1 _ (List.getElem_mem hr), List.getElem_mem hr⟩
section
variable {P : Program} {w : World} {K : PySem.W.Frag} {mg : Str → Option Value} {base : Heap}
theorem ok_step (D : Def K mg "_law_step" s_L_step ["_law_box", "_law_letters_here", "_law_was_wrong"]) (DT : Def K mg "_law_take" s_L_take ["_law_box", "_law_many"]) (ml : mg "len" = none) : FnOk P w K mg base CX0 2 D.f D.fd ["_law_box", "_law_letters_here", "_law_was_wrong"] spStep := by
  have GT : FnOk P w K mg base CX0 1 DT.f DT.fd ["_law_box", "_law_many"] spTake := ok_take DT
  refine D.ok sc_L_step (fun vs H Q E h => ?_) (fun cdv A outer s H vs Q E hr h => ?_)
  · obtain ⟨b, l, L, F, c, rfl, _⟩ := h
    rfl
  obtain ⟨b, l, L, F, c, rfl, B, nb, nl, eL, w1, l0, l1, q⟩ := h
  refine ⟨_, pss_cons (ps_set (i := 3) sc_L_step.nd rfl (Or.inl rfl) (pe_ix ix_list (pe_lst (pa_cons pe_str (pa_cons pe_str (pa_cons pe_str (pa_cons pe_str pa_nil))))) (pcall DT GT hr (pa_cons (pv 0) (pa_cons pe_int pa_nil))) (fun _ _ => rfl)))
    (pss_one (ps_ret (pe_op op_add_str (pe_ix ix_list (pv 1) (pcall DT GT hr (pa_cons (pv 0) (pa_cons (pe_callB call_len_seq rfl ml PySem.boot_len (pa_cons (pv 1) pa_nil)) pa_nil))) (fun _ _ => rfl))
      (pe_ifExp (PW.pt (pw_or (pt_cmpR op_ne (pv 3) pe_str (nomark _)) (pw_or1 (pt_val (pv 2))))) (pv 3) pe_str)))), ?_⟩
  refine ⟨(by show 4 ≤ sizeLine; decide), fun T hT => ?_⟩
  refine ⟨_, rfl, b, l, 4, rfl, by decide, by decide, B.new hT, fun r H1 a0 a1 B1 k1 => ?_⟩
  have k2 : Keep [b, l] H H1 := (Keep.new hT).trans k1
  have eT := k1 T _ upd_same (B.nin hT)
  obtain ⟨m, em, hm⟩ := pick_mark a0 a1
  refine ⟨T, _, r, .str m, rfl, rfl, SqL.of eT, em, ?_⟩
  have eL1 := k2 L _ eL (by simp [nb, nl])
  refine ⟨_, rfl, _, rfl, _, rfl, L, _, rfl, .inl (SqL.of eL1), b, l, _, rfl, (by rw [List.length_map]; omega), (by rw [List.length_map]; omega), B1, fun r2 H2 b0 b1 B2 k3 => ?_⟩
  have eL2 := k3 L _ eL1 (by simp [nb, nl])
  obtain ⟨x, ex, hx, _⟩ := pick_word w1 b0 b1
  refine ⟨L, _, r2, .str x, rfl, rfl, SqL.of eL2, ex, ?_⟩
  have fin : ∀ m' : Str, IsM m' → (m' = "c" → c = true) → x.length + m'.length ≤ sizeLine ∧ Q (.str (x ++ m')) H2 := fun m' h1 h2 =>
    ⟨by rw [hx.len, h1.len]; decide, q (x, m') H2 ⟨hx, h1⟩ h2 B2 (k2.trans k3)⟩
  refine ⟨_, rfl, rfl, _, rfl, ?_⟩
  refine ite2 (fun c1 => ?_) (fun c1 => ?_)
  · refine iteT ⟨_, rfl, x, m, rfl, rfl, fin m hm fun e => ?_⟩
    subst e
    exact absurd c1 (by decide +kernel)
  · have e : m = "c" := by
      by_cases z : m = "c"
      · exact z
      · refine absurd ?_ c1
        rw [decide_eq_false (fun y => z (V.str.inj y))]
        rfl
    subst e
    refine ⟨_, rfl, c, rfl, ?_⟩
    cases c with
    | true => exact iteT ⟨_, rfl, x, "c", rfl, rfl, fin "c" hm fun _ => rfl⟩
    | false => exact iteF ⟨x, "w", rfl, rfl, fin "w" (by unfold IsM; decide +kernel) fun e => absurd e (by decide +kernel)⟩
/-! ### a work -/
def spWork : Sp := fun vs H Q _ => ∃ (b l L : Addr) (F : List Str), vs = [.ref b, .ref L, .int 12] ∧ Box H b l ∧ L ≠ b ∧ L ≠ l ∧ H L = some (.lst (F.map V.str)) ∧ (∀ x ∈ F, IsW x) ∧ 0 < F.length ∧ F.length ≤ 8 ∧
  ∀ (p : Addr) (ws : List StepT) (H' : Hp), H p = none → H' p = some (.lst (stepsV ws)) → WorkOk ws → Box H' b l → Keep [b, l] H H' → Q (.ref p) H'
theorem ok_work (D : Def K mg "_law_work" s_L_work ["_law_box", "_law_letters_here", "_law_most"]) (DT : Def K mg "_law_take" s_L_take ["_law_box", "_law_many"]) (DS : Def K mg "_law_step" s_L_step ["_law_box", "_law_letters_here", "_law_was_wrong"]) (ml : mg "len" = none) (mr : mg "range" = none) (ma : mg "any" = none) :
    FnOk P w K mg base CX0 3 D.f D.fd ["_law_box", "_law_letters_here", "_law_most"] spWork := by
  have GT : FnOk P w K mg base CX0 1 DT.f DT.fd ["_law_box", "_law_many"] spTake := ok_take DT
  have GS : FnOk P w K mg base CX0 2 DS.f DS.fd ["_law_box", "_law_letters_here", "_law_was_wrong"] spStep := ok_step DS DT ml
  refine D.ok sc_L_work (fun vs H Q E h => ?_) (fun cdv A outer s H vs Q E hr h => ?_)
  · obtain ⟨b, l, L, F, rfl, _⟩ := h
    rfl
  obtain ⟨b, l, L, F, rfl, B, nb, nl, eL, w1, l0, l1, q⟩ := h
  have hr1 : Room 1 _ := hr.mono (by decide)
  have nd := sc_L_work.nd
  refine ⟨_, pss_cons (ps_set (i := 3) nd rfl (Or.inl rfl) (pe_lst pa_nil))
    (pss_cons (ps_for PassesOwn.never rfl (pi_range1 rfl mr (pa_cons (pcall DT GT hr1 (pa_cons (pv 0) (pa_cons (pe_op op_add (pv 2) pe_int) pa_nil))) pa_nil)) (pg_name (i := 4) nd rfl (Or.inl rfl))
      (pss_one (ps_expr (pe_bm PySem.F.plainAttrs_list PySem.F.slot_list_append PySem.F.type_list_append mt_append (pv 3)
        (pa_cons (pcall DS GS hr (pa_cons (pv 0) (pa_cons (pv 1) (pa_cons (pe_callB (cr_any rfl) rfl ma (by decide +kernel) (pa_cons
          (pe_lc (own := [("_law_step_here", 5)]) (g := gName 5) (tt := tYes) rfl nd (pi_list (pv 3)) (blkOk_by (N := ["_law_box", "_law_letters_here", "_law_most", "_law_found", "_law_turn", "_law_step_here"]) (sc := defScope s_L_work) (by decide +kernel)) (fun _ _ _ _ _ => pg_name (i := 5) nd rfl (Or.inl rfl)) (fun _ _ _ _ _ => pts_nil)
            (fun _ _ _ _ _ => pe_cmpR op_eq (pe_ix ix_str (pv 5) pe_int (fun _ _ => rfl)) pe_str (nomark _))) pa_nil)) pa_nil)))) pa_nil)))))
    (pss_one (ps_ret (pv 3)))), ?_⟩
  refine ⟨Nat.zero_le _, fun f hf => ?_⟩
  have nfb := B.ne_new hf
  refine ⟨_, rfl, _, rfl, _, _, rfl, rfl, b, l, _, rfl, by decide, by decide, B.new hf, fun r H1 a0 a1 B1 k1 => ?_⟩
  have a1' : r < 13 := a1
  have nin : ∀ {x : Addr}, x ≠ b ∧ x ≠ l → x ∉ [b, l] := fun {x} h => by simp [h.1, h.2]
  refine ⟨_, rfl, by omega, by omega, ?_⟩
  refine for_range (lo := 0) (n := r.toNat) (fun i σ H' => ∃ (ws : List StepT) (v : Option V), σ = [some (.ref b), some (.ref L), some (.int 12), some (.ref f), v, none] ∧ H' f = some (.lst (stepsV ws)) ∧ ws.length = i ∧ WorkFrom false ws ∧ Box H' b l ∧ Keep [b, l] H H')
    ⟨[], none, rfl, k1 _ _ upd_same (nin nfb), rfl, trivial, B1, (Keep.new hf).trans k1⟩ ?_ ?_
  · rintro i σ H' hi ⟨ws, v, rfl, ef, hl, hw, B', k'⟩
    have lws : (stepsV ws).length = ws.length := List.length_map _
    have all := hw.all
    refine ⟨_, rfl, .inl ⟨rfl, _, SqL.of ef⟩, _, rfl, _, rfl, _, rfl, f, rfl, ⟨_, SqL.of ef⟩, fun D hD => ?_⟩
    have nfD : f ≠ D := ne_of_none ef hD
    refine lc_list (K := K) (a := f) (xs := stepsV ws) (fun j H'' => H'' = upd H' D (.lst ((ws.take j).map fun p : StepT => V.bl (p.2 == ("w" : Str))))) rfl (fun j H'' _ e => by rw [e]; exact SqL.of (by rw [upd_ne nfD]; exact ef)) ?_ ?_
    · rintro j x H'' hj rfl
      have hjl : j < ws.length := by
        have z := (List.getElem?_eq_some_iff.mp hj).1
        rw [lws] at z
        exact z
      have ex : x = V.str (stepS (ws[j]'hjl)) := by
        have z := get_map (fun p => V.str (stepS p)) ws hjl
        exact Option.some.inj (hj.symm.trans z)
      subst ex
      have hs := all _ (List.getElem_mem hjl)
      obtain ⟨c, ec, em⟩ := hs.at1
      refine ⟨rfl, _, rfl, _, 1, c, rfl, rfl, by rw [hs.len]; decide, ec, rfl, _, upd_same, ?_, ?_⟩
      · rw [List.length_map, List.length_take]
        exact small1000 (by omega)
      · rw [upd_upd, em, List.take_succ_eq_append_getElem hjl, List.map_append, dec_str]
        rfl
    · rintro H'' rfl
      rw [lws, List.take_length]
      refine ⟨D, ws.map fun p : StepT => p.2 == ("w" : Str), rfl, SqL.of (by rw [upd_same, List.map_map]; rfl), ?_⟩
      have kD : Keep [b, l] H' (upd H' D (.lst (ws.map fun p : StepT => V.bl (p.2 == ("w" : Str))))) := Keep.new hD
      refine ⟨b, l, L, F, _, rfl, B'.new hD, nb, nl, (k'.trans kD) L _ eL (by simp [nb, nl]), w1, l0, l1, fun p H2 hp hc B2 k2 => ?_⟩
      have ef2 := (kD.trans k2) f _ ef (nin nfb)
      refine ⟨f, _, _, rfl, rfl, ef2, by rw [lws]; exact small1000 (by omega), ?_⟩
      refine ⟨ws ++ [p], _, rfl, ?_, ?_, hw.snoc hp fun e => ?_, B2.put nfb.1 nfb.2, ((k'.trans (kD.trans k2)).newer hf)⟩
      · rw [upd_same]
        unfold stepsV
        rw [List.map_append]
        rfl
      · rw [List.length_append, hl]
        rfl
      · have z := hc e
        rw [Bool.false_or]
        unfold anyWrong
        rw [List.any_map] at z
        exact z
  · rintro σ H' ⟨ws, v, rfl, ef, hl, hw, B', k'⟩
    exact ⟨_, rfl, q f ws H' hf ef ⟨hw, by omega⟩ B' k'⟩
end
end MS
end
section
set_option maxRecDepth 100000
set_option maxHeartbeats 4000000
namespace MS
open PySem L2
/-! ### schemes -/
inductive Sch where
  | step (w : Str) (p : Int)
  | all (k : List Sch)
  | best (k : List Sch)
  | most (n : Int) (s : Sch)
  | half (s : Sch)
  | seen (w : Str) (s : Sch)
  | behind (w : Str) (s : Sch)
  | carry (s : Sch)
  | fin (w : Str) (p : Int) (s : Sch)
  | use (n : Nat)
/-- a scheme of at most d levels stands in the heap -/
def SAt (H : Hp) : Nat → Sch → V → Prop
  | 0, _, _ => False
  | _ + 1, .step w p, v => ∃ a, v = .ref a ∧ H a = some (.tup [.str "step", .str w, .int p])
  | d + 1, .all k, v => ∃ a b vs, v = .ref a ∧ H a = some (.tup [.str "all", .ref b]) ∧ H b = some (.tup vs) ∧ Paired (SAt H d) k vs
  | d + 1, .best k, v => ∃ a b vs, v = .ref a ∧ H a = some (.tup [.str "best", .ref b]) ∧ H b = some (.tup vs) ∧ Paired (SAt H d) k vs
  | d + 1, .most n s, v => ∃ a u, v = .ref a ∧ H a = some (.tup [.str "most", .int n, u]) ∧ SAt H d s u
  | d + 1, .half s, v => ∃ a u, v = .ref a ∧ H a = some (.tup [.str "half", u]) ∧ SAt H d s u
  | d + 1, .seen w s, v => ∃ a u, v = .ref a ∧ H a = some (.tup [.str "seen", .str w, u]) ∧ SAt H d s u
  | d + 1, .behind w s, v => ∃ a u, v = .ref a ∧ H a = some (.tup [.str "behind", .str w, u]) ∧ SAt H d s u
  | d + 1, .carry s, v => ∃ a u, v = .ref a ∧ H a = some (.tup [.str "carry", u]) ∧ SAt H d s u
  | d + 1, .fin w p s, v => ∃ a u, v = .ref a ∧ H a = some (.tup [.str "end", .str w, .int p, u]) ∧ SAt H d s u
  | _ + 1, .use n, v => ∃ a, v = .ref a ∧ H a = some (.tup [.str "use", .int (n : Int)])
/-- tuples stay -/
def TupK (H H' : Hp) : Prop := ∀ a xs, H a = some (.tup xs) → H' a = some (.tup xs)
theorem TupK.refl (H : Hp) : TupK H H := fun _ _ h => h
theorem TupK.trans {H H1 H2 : Hp} (a : TupK H H1) (b : TupK H1 H2) : TupK H H2 := fun c o h => b c o (a c o h)
theorem TupK.new {H : Hp} {p : Addr} {o : HO} (h : H p = none) : TupK H (upd H p o) := fun b u q => by rw [upd_ne (ne_of_none q h)]; exact q
theorem TupK.put {H : Hp} {p : Addr} {o : HO} {ys : List V} (h : H p = some (.lst ys)) : TupK H (upd H p o) := fun b u q => by rw [upd_ne (ne_of q h (by intro z; cases z))]; exact q
theorem Keep.tup {S : List Addr} {H H' : Hp} (k : Keep S H H') (nt : ∀ a ∈ S, ∃ ys, H a = some (.lst ys)) : TupK H H' := fun a xs e => k a _ e fun hm => by
  obtain ⟨ys, z⟩ := nt a hm
  rw [e] at z
  cases z
theorem paired_imp {α β : Type} {R T : α → β → Prop} : ∀ {xs : List α} {ys : List β}, Paired R xs ys → (∀ x y, R x y → T x y) → Paired T xs ys
  | _, _, .nil, _ => .nil
  | _, _, .cons r t, h => .cons (h _ _ r) (paired_imp t h)
theorem SAt.keep {H H' : Hp} (k : TupK H H') : ∀ (d : Nat) (s : Sch) (v : V), SAt H d s v → SAt H' d s v
  | 0, _, _, h => by cases h
  | _ + 1, .step w p, v, ⟨a, e, h⟩ => ⟨a, e, k _ _ h⟩
  | d + 1, .all ks, v, ⟨a, b, vs, e, h1, h2, h3⟩ => ⟨a, b, vs, e, k _ _ h1, k _ _ h2, paired_imp h3 fun s v => SAt.keep k d s v⟩
  | d + 1, .best ks, v, ⟨a, b, vs, e, h1, h2, h3⟩ => ⟨a, b, vs, e, k _ _ h1, k _ _ h2, paired_imp h3 fun s v => SAt.keep k d s v⟩
  | d + 1, .most n s, v, ⟨a, u, e, h1, h2⟩ => ⟨a, u, e, k _ _ h1, SAt.keep k d s u h2⟩
  | d + 1, .half s, v, ⟨a, u, e, h1, h2⟩ => ⟨a, u, e, k _ _ h1, SAt.keep k d s u h2⟩
  | d + 1, .seen w s, v, ⟨a, u, e, h1, h2⟩ => ⟨a, u, e, k _ _ h1, SAt.keep k d s u h2⟩
  | d + 1, .behind w s, v, ⟨a, u, e, h1, h2⟩ => ⟨a, u, e, k _ _ h1, SAt.keep k d s u h2⟩
  | d + 1, .carry s, v, ⟨a, u, e, h1, h2⟩ => ⟨a, u, e, k _ _ h1, SAt.keep k d s u h2⟩
  | d + 1, .fin w p s, v, ⟨a, u, e, h1, h2⟩ => ⟨a, u, e, k _ _ h1, SAt.keep k d s u h2⟩
  | _ + 1, .use n, v, ⟨a, e, h⟩ => ⟨a, e, k _ _ h⟩
/-- a scheme that can be, in scheme i of M -/
def OkS (i M : Nat) : Nat → Sch → Prop
  | 0, _ => False
  | _ + 1, .step w p => IsW w ∧ 1 ≤ p ∧ p ≤ 9
  | d + 1, .all k => 0 < k.length ∧ k.length ≤ 4 ∧ ∀ s ∈ k, OkS i M d s
  | d + 1, .best k => 0 < k.length ∧ k.length ≤ 4 ∧ ∀ s ∈ k, OkS i M d s
  | d + 1, .most n s => (0 ≤ n ∧ n ≤ 30) ∧ OkS i M d s
  | d + 1, .half s => OkS i M d s
  | d + 1, .seen w s => IsW w ∧ OkS i M d s
  | d + 1, .behind w s => IsW w ∧ OkS i M d s
  | d + 1, .carry s => OkS i M d s
  | d + 1, .fin w p s => (IsW w ∧ 1 ≤ p ∧ p ≤ 9) ∧ OkS i M d s
  | _ + 1, .use n => i < n ∧ n < M
def sz : Nat → Sch → Int
  | 0, _ => 0
  | _ + 1, .step _ _ => 1
  | d + 1, .all k => 1 + (k.map (sz d)).sum
  | d + 1, .best k => 1 + (k.map (sz d)).sum
  | d + 1, .most _ s => 1 + sz d s
  | d + 1, .half s => 1 + sz d s
  | d + 1, .seen _ s => 1 + sz d s
  | d + 1, .behind _ s => 1 + sz d s
  | d + 1, .carry s => 1 + sz d s
  | d + 1, .fin _ _ s => 1 + sz d s
  | _ + 1, .use _ => 1
/-- steps and ends; c: those of the used ones -/
def er (c : Nat → Int) : Nat → Sch → Int
  | 0, _ => 0
  | _ + 1, .step _ _ => 1
  | d + 1, .all k => (k.map (er c d)).sum
  | d + 1, .best k => (k.map (er c d)).sum
  | d + 1, .most _ s => er c d s
  | d + 1, .half s => er c d s
  | d + 1, .seen _ s => er c d s
  | d + 1, .behind _ s => er c d s
  | d + 1, .carry s => er c d s
  | d + 1, .fin _ _ s => 1 + er c d s
  | _ + 1, .use n => c n
/-- seens and behinds -/
def wr (c : Nat → Int) : Nat → Sch → Int
  | 0, _ => 0
  | _ + 1, .step _ _ => 0
  | d + 1, .all k => (k.map (wr c d)).sum
  | d + 1, .best k => (k.map (wr c d)).sum
  | d + 1, .most _ s => wr c d s
  | d + 1, .half s => wr c d s
  | d + 1, .seen _ s => 1 + wr c d s
  | d + 1, .behind _ s => 1 + wr c d s
  | d + 1, .carry s => wr c d s
  | d + 1, .fin _ _ s => wr c d s
  | _ + 1, .use n => c n
/-- what is told of the later schemes: number, steps and ends, seens and behinds -/
def UAt (H : Hp) (i M : Nat) (ce cw : Nat → Int) (u : Addr) : Prop := ∃ (js : List Nat) (vs : List V), H u = some (.lst vs) ∧ js.length ≤ 5 ∧ (∀ j ∈ js, i < j ∧ j < M) ∧
  Paired (fun j v => ∃ t, v = V.ref t ∧ H t = some (.tup [.int ((j : Nat) : Int), .int (ce j), .int (cw j)])) js vs
theorem UAt.keep {H H' : Hp} {i M : Nat} {ce cw : Nat → Int} {u : Addr} (h : UAt H i M ce cw u) (k : TupK H H') (hu : ∀ vs, H u = some (.lst vs) → H' u = some (.lst vs)) : UAt H' i M ce cw u := by
  obtain ⟨js, vs, e, l, r, p⟩ := h
  exact ⟨js, vs, hu vs e, l, r, paired_imp p fun j v ⟨t, e1, e2⟩ => ⟨t, e1, k _ _ e2⟩⟩
end MS
end
section
set_option maxRecDepth 100000
set_option maxHeartbeats 4000000
namespace MS
open PySem L2
theorem ev_or {t u : TT} {σ : St} {H : Hp} {b c : Bool} (h1 : ∀ Q : Bool → Hp → Prop, Q b H → t σ H Q) (h2 : ∀ Q : Bool → Hp → Prop, Q c H → u σ H Q) : ∀ Q : Bool → Hp → Prop, Q (b || c) H → tOr t u σ H Q := fun Q q => h1 _ (by
  cases b with
  | true => exact iteT q
  | false => exact iteF (h2 _ q))
theorem ev_and {t u : TT} {σ : St} {H : Hp} {b c : Bool} (h1 : ∀ Q : Bool → Hp → Prop, Q b H → t σ H Q) (h2 : ∀ Q : Bool → Hp → Prop, Q c H → u σ H Q) : ∀ Q : Bool → Hp → Prop, Q (b && c) H → tAnd t u σ H Q := fun Q q => h1 _ (by
  cases b with
  | true => exact iteT (h2 _ q)
  | false => exact iteF q)
theorem seq_if {tc : TT} {t r : TS} {D : Ends} {σ : St} {H : Hp} {b : Bool} (h : ∀ Q : Bool → Hp → Prop, Q b H → tc σ H Q) (k1 : b = true → t { D with nx := r D } σ H) (k2 : b = false → r D σ H) : tSeq (tIfS tc t tNext) r D σ H := h _ (by
  cases b with
  | true => exact iteT (k1 rfl)
  | false => exact iteF (k2 rfl))
theorem one_if {tc : TT} {t : TS} {D : Ends} {σ : St} {H : Hp} {b : Bool} (h : ∀ Q : Bool → Hp → Prop, Q b H → tc σ H Q) (k1 : b = true → t D σ H) (k2 : b = false → D.nx σ H) : tIfS tc t tNext D σ H := h _ (by
  cases b with
  | true => exact iteT (k1 rfl)
  | false => exact iteF (k2 rfl))
theorem seq_if_to {tc : TT} {t r : TS} {D : Ends} {σ : St} {H : Hp} {b : Bool} (R : St → Hp → Prop) (h : ∀ Q : Bool → Hp → Prop, Q b H → tc σ H Q) (rest : ∀ σ' H', R σ' H' → r D σ' H')
    (k1 : b = true → (∀ σ' H', R σ' H' → r D σ' H') → t { D with nx := r D } σ H) (k2 : b = false → R σ H) : tSeq (tIfS tc t tNext) r D σ H := seq_if h (fun e => k1 e rest) fun e => rest _ _ (k2 e)
theorem paired_get' {α β : Type} {R : α → β → Prop} : ∀ {xs : List α} {ys : List β}, Paired R xs ys → ∀ {k : Nat} {y : β}, ys[k]? = some y → ∃ x, xs[k]? = some x ∧ R x y
  | _, _, .nil, _, _, h => by simp at h
  | _, _, .cons r t, 0, _, h => by
    simp at h
    subst h
    exact ⟨_, rfl, r⟩
  | _, _, .cons _ t, k + 1, y, h => by
    obtain ⟨x, e, r⟩ := paired_get' t (k := k) (y := y) (by simpa using h)
    exact ⟨x, by simpa using e, r⟩
theorem paired_snoc {α β : Type} {R : α → β → Prop} : ∀ {xs : List α} {ys : List β} {x : α} {y : β}, Paired R xs ys → R x y → Paired R (xs ++ [x]) (ys ++ [y])
  | _, _, _, _, .nil, h => .cons h .nil
  | _, _, _, _, .cons r t, h => .cons r (paired_snoc t h)
theorem pick_name {a b : Str} {r : Int} (h0 : 0 ≤ r) (h1 : r < 2) : atI [V.str a, V.str b] r = some (.str (if r = 0 then a else b)) := by
  have e : r = 0 ∨ r = 1 := by omega
  rcases e with rfl | rfl
  · exact at0
  · exact at1
structure GenAt (i M : Nat) (ce cw : Nat → Int) (H : Hp) (b l L m u : Addr) (F : List Str) (x y z : Int) : Prop where
  box : Box H b l
  left : H m = some (.lst [.int x, .int y, .int z])
  lets : H L = some (.lst (F.map V.str))
  words : ∀ x ∈ F, IsW x
  pos : 0 < F.length
  few : F.length ≤ 8
  uses : UAt H i M ce cw u
  bm : m ≠ b ∧ m ≠ l
  nL : L ∉ [b, l, m]
  nu : u ∉ [b, l, m]
section
variable {i M : Nat} {ce cw : Nat → Int} {H H' : Hp} {b l L m u : Addr} {F : List Str} {x y z x' y' z' : Int}
theorem GenAt.lists (G : GenAt i M ce cw H b l L m u F x y z) : ∀ a ∈ [b, l, m], ∃ ys, H a = some (.lst ys) := fun a ha => by
  obtain ⟨_, ⟨n, e1⟩, ns, e2⟩ := G.box
  rcases List.mem_cons.mp ha with rfl | ha
  · exact ⟨_, e1⟩
  · rcases List.mem_cons.mp ha with rfl | ha
    · exact ⟨_, e2⟩
    · rw [List.mem_singleton.mp ha]
      exact ⟨_, G.left⟩
theorem GenAt.tup (G : GenAt i M ce cw H b l L m u F x y z) (k : Keep [b, l, m] H H') : TupK H H' := k.tup G.lists
theorem GenAt.move (G : GenAt i M ce cw H b l L m u F x y z) (k : Keep [b, l, m] H H') (B : Box H' b l) (e : H' m = some (.lst [.int x', .int y', .int z'])) : GenAt i M ce cw H' b l L m u F x' y' z' :=
  ⟨B, e, k _ _ G.lets G.nL, G.words, G.pos, G.few, G.uses.keep (G.tup k) (fun vs h => k _ _ h G.nu), G.bm, G.nL, G.nu⟩
theorem GenAt.nm (G : GenAt i M ce cw H b l L m u F x y z) : m ∉ [b, l] := by simp [G.bm.1, G.bm.2]
theorem GenAt.draw (G : GenAt i M ce cw H b l L m u F x y z) (k : Keep [b, l] H H') (B : Box H' b l) : GenAt i M ce cw H' b l L m u F x y z :=
  G.move (k.mono fun _ h => by simp only [List.mem_cons, List.not_mem_nil, or_false] at h ⊢; rcases h with h | h <;> simp [h]) B (k _ _ G.left G.nm)
theorem GenAt.new (G : GenAt i M ce cw H b l L m u F x y z) {p : Addr} {o : HO} (h : H p = none) : GenAt i M ce cw (upd H p o) b l L m u F x y z :=
  G.draw (Keep.new h) (G.box.new h)
theorem GenAt.put (G : GenAt i M ce cw H b l L m u F x y z) : GenAt i M ce cw (upd H m (.lst [.int x', .int y', .int z'])) b l L m u F x' y' z' :=
  G.move (Keep.put (by simp)) (G.box.put G.bm.1 G.bm.2) upd_same
theorem k3 {b l m : Addr} {H H' : Hp} (k : Keep [b, l] H H') : Keep [b, l, m] H H' := k.mono fun _ h => by simp only [List.mem_cons, List.not_mem_nil, or_false] at h ⊢; rcases h with h | h <;> simp [h]
end
def spScheme (i M : Nat) (ce cw : Nat → Int) (d : Nat) : Sp := fun vs H Q _ => ∃ (b l L m u : Addr) (F : List Str) (x y z : Int), vs = [.ref b, .ref L, .ref m, .int (d : Int), .ref u] ∧ GenAt i M ce cw H b l L m u F x y z ∧ 1 ≤ x ∧ 1 ≤ y ∧ 0 ≤ z ∧
  ∀ (v : V) (s : Sch) (H' : Hp) (x' y' z' : Int), SAt H' (d + 1) s v → OkS i M (d + 1) s → sz (d + 1) s = x - x' → er ce (d + 1) s = y - y' → wr cw (d + 1) s = z - z' → 0 ≤ x' → 0 ≤ y' → 0 ≤ z' →
    H' m = some (.lst [.int x', .int y', .int z']) → Box H' b l → Keep [b, l, m] H H' → Q v H'
abbrev nmScheme : List Str := ["_law_box", "_law_letters_here", "_law_left", "_law_deep", "_law_uses", "_law_word", "_law_way", "_law_one", "_law_some", "_law_kids", "_law_turn"]
abbrev psScheme : List Str := ["_law_box", "_law_letters_here", "_law_left", "_law_deep", "_law_uses"]
section
variable {P : Program} {w : World} {K : PySem.W.Frag} {mg : Str → Option Value} {base : Heap}
theorem scheme_turn {i M d : Nat} {ce cw : Nat → Int} {sp' : Sp} (D : Def K mg "_law_scheme" s_L_scheme psScheme) (DT : Def K mg "_law_take" s_L_take ["_law_box", "_law_many"]) (ml : mg "len" = none) (mr : mg "range" = none) (mt : mg "tuple" = none)
    (G : FnOk P w K mg base CX0 (d + 1) D.f D.fd psScheme sp') (hs : ∀ d', d = d' + 1 → sp' = spScheme i M ce cw d') : FnOk P w K mg base CX0 (d + 2) D.f D.fd psScheme (spScheme i M ce cw d) := by
  have GT : FnOk P w K mg base CX0 1 DT.f DT.fd ["_law_box", "_law_many"] spTake := ok_take DT
  have nd := sc_L_scheme.nd
  refine D.ok sc_L_scheme (fun vs H Q E h => ?_) (fun cdv A outer s H vs Q E hr h => ?_)
  · obtain ⟨b, l, L, m, u, F, x, y, z, rfl, _⟩ := h
    rfl
  obtain ⟨b, l, L, m, u, F, x, y, z, rfl, g, hx, hy, hz, q⟩ := h
  have hr1 : Room 1 _ := hr.mono (by omega)
  refine ⟨_, pss_cons (ps_asg (pe_op op_sub (pe_ix ix_list (pv 2) pe_int (fun _ _ => rfl)) pe_int) (pg_sub (pv 2) pe_int set_list))
    (pss_cons (ps_set (i := 5) nd rfl (Or.inl rfl) (pe_ix ix_list (pv 1) (pcall DT GT hr1 (pa_cons (pv 0) (pa_cons (pe_callB call_len_seq rfl ml PySem.boot_len (pa_cons (pv 1) pa_nil)) pa_nil))) (fun _ _ => rfl)))
    (pss_cons (ps_set (i := 6) nd rfl (Or.inl rfl) (pcall DT GT hr1 (pa_cons (pv 0) (pa_cons pe_int pa_nil))))
    (pss_cons (ps_if (PW.pt (pw_or (pt_cmpR op_eq (pv 3) pe_int (nomark _)) (pw_or (pt_cmpR op_lt (pe_ix ix_list (pv 2) pe_int (fun _ _ => rfl)) pe_int (nomark _)) (pw_or (pt_cmpR op_lt (pe_ix ix_list (pv 2) pe_int (fun _ _ => rfl)) pe_int (nomark _)) (pw_or1 (pt_cmpR op_lt (pv 6) pe_int (nomark _)))))))
      (pss_cons (ps_asg (pe_op op_sub (pe_ix ix_list (pv 2) pe_int (fun _ _ => rfl)) pe_int) (pg_sub (pv 2) pe_int set_list)) (pss_one (ps_ret (pe_tup (pa_cons pe_str (pa_cons (pv 5) (pa_cons (pe_op op_add pe_int (pcall DT GT hr1 (pa_cons (pv 0) (pa_cons pe_int pa_nil)))) pa_nil))))))) pss_nil)
    (pss_cons (ps_if (pt_cmpR op_eq (pv 6) pe_int (nomark _))
      (pss_cons (ps_setLc (i := 8) (own := [("_law_one", 7)]) (g := gName 7) rfl nd rfl rfl (sw_true rfl rfl rfl (by decide +kernel)) (pi_list (pv 4)) (blkOk_by (N := nmScheme) (sc := defScope s_L_scheme) (by decide +kernel)) (fun _ _ _ _ _ => pg_name (i := 7) nd rfl (Or.inl rfl))
          (fun _ _ _ _ _ => pts_one (PW.pt (pw_and (pt_cmpR op_le (pe_ix (r := rIxT K) ix_tup (pv 7) pe_int (fun _ _ => rfl)) (pe_ix (r := rIxL K) ix_list (pv 2) pe_int (fun _ _ => rfl)) (nomark _)) (pw_and1 (pt_cmpR op_le (pe_ix (r := rIxT K) ix_tup (pv 7) pe_int (fun _ _ => rfl)) (pe_ix (r := rIxL K) ix_list (pv 2) pe_int (fun _ _ => rfl)) (nomark _))))))
          (fun _ _ _ _ _ => pv 7))
        (pss_one (ps_if (pt_cmpR (op_neD hr.units) (pv 8) (pe_lst pa_nil) (nomark _))
          (pss_cons (ps_set (i := 7) nd rfl (Or.inl rfl) (pe_ix ix_list (pv 8) (pcall DT GT hr1 (pa_cons (pv 0) (pa_cons (pe_callB call_len_seq rfl ml PySem.boot_len (pa_cons (pv 8) pa_nil)) pa_nil))) (fun _ _ => rfl)))
          (pss_cons (ps_asg (pe_tup (pa_cons (pe_op op_sub (pe_ix ix_list (pv 2) pe_int (fun _ _ => rfl)) (pe_ix ix_tup (pv 7) pe_int (fun _ _ => rfl))) (pa_cons (pe_op op_sub (pe_ix ix_list (pv 2) pe_int (fun _ _ => rfl)) (pe_ix ix_tup (pv 7) pe_int (fun _ _ => rfl))) pa_nil)))
              (pg_tup (by rfl) (pgs_cons (pg_sub (pv 2) pe_int set_list) (pgs_cons (pg_sub (pv 2) pe_int set_list) pgs_nil))))
          (pss_one (ps_ret (pe_tup (pa_cons pe_str (pa_cons (pe_ix ix_tup (pv 7) pe_int (fun _ _ => rfl)) pa_nil))))))) pss_nil))) pss_nil)
    (pss_cons (ps_if (pt_cmpR op_lt (pv 6) pe_int (nomark _))
      (pss_cons (ps_set (i := 9) nd rfl (Or.inl rfl) (pe_lst pa_nil))
      (pss_cons (ps_for PassesOwn.never rfl (pi_range1 rfl mr (pa_cons (pe_op op_add pe_int (pcall DT GT hr1 (pa_cons (pv 0) (pa_cons pe_int pa_nil)))) pa_nil)) (pg_name (i := 10) nd rfl (Or.inl rfl))
        (pss_one (ps_if (PW.pt (pw_and (pt_cmpR op_gt (pe_ix ix_list (pv 2) pe_int (fun _ _ => rfl)) pe_int (nomark _)) (pw_and1 (pt_cmpR op_gt (pe_ix ix_list (pv 2) pe_int (fun _ _ => rfl)) pe_int (nomark _)))))
          (pss_one (ps_expr (pe_bm PySem.F.plainAttrs_list PySem.F.slot_list_append PySem.F.type_list_append mt_append (pv 9) (pa_cons (pcall D G hr (pa_cons (pv 0) (pa_cons (pv 1) (pa_cons (pv 2) (pa_cons (pe_op op_sub (pv 3) pe_int) (pa_cons (pv 4) pa_nil)))))) pa_nil)))) pss_nil)))
      (pss_one (ps_ret (pe_tup (pa_cons (pe_ix ix_list (pe_lst (pa_cons pe_str (pa_cons pe_str pa_nil))) (pe_op op_mod (pv 6) pe_int) (fun _ _ => rfl)) (pa_cons (pe_callTy call_tuple_of rfl mt (by decide +kernel) (pa_cons (pv 9) pa_nil)) pa_nil))))))) pss_nil)
    (pss_cons (ps_if (PW.pt (pw_and (pt_cmpR op_lt (pv 6) pe_int (nomark _)) (pw_and1 (pt_cmpR op_gt (pe_ix ix_list (pv 2) pe_int (fun _ _ => rfl)) pe_int (nomark _)))))
      (pss_cons (ps_asg (pe_op op_sub (pe_ix ix_list (pv 2) pe_int (fun _ _ => rfl)) pe_int) (pg_sub (pv 2) pe_int set_list))
        (pss_one (ps_ret (pe_tup (pa_cons (pe_ix ix_list (pe_lst (pa_cons pe_str (pa_cons pe_str pa_nil))) (pe_op op_mod (pv 6) pe_int) (fun _ _ => rfl)) (pa_cons (pv 5) (pa_cons (pcall D G hr (pa_cons (pv 0) (pa_cons (pv 1) (pa_cons (pv 2) (pa_cons (pe_op op_sub (pv 3) pe_int) (pa_cons (pv 4) pa_nil)))))) pa_nil))))))) pss_nil)
    (pss_cons (ps_if (PW.pt (pw_and (pt_cmpR op_eq (pv 6) pe_int (nomark _)) (pw_and1 (pt_cmpR op_gt (pe_ix ix_list (pv 2) pe_int (fun _ _ => rfl)) pe_int (nomark _)))))
      (pss_cons (ps_asg (pe_op op_sub (pe_ix ix_list (pv 2) pe_int (fun _ _ => rfl)) pe_int) (pg_sub (pv 2) pe_int set_list))
        (pss_one (ps_ret (pe_tup (pa_cons pe_str (pa_cons (pv 5) (pa_cons (pe_op op_add pe_int (pcall DT GT hr1 (pa_cons (pv 0) (pa_cons pe_int pa_nil)))) (pa_cons (pcall D G hr (pa_cons (pv 0) (pa_cons (pv 1) (pa_cons (pv 2) (pa_cons (pe_op op_sub (pv 3) pe_int) (pa_cons (pv 4) pa_nil)))))) pa_nil)))))))) pss_nil)
    (pss_cons (ps_if (pt_cmpR op_eq (pv 6) pe_int (nomark _))
      (pss_one (ps_ret (pe_tup (pa_cons pe_str (pa_cons (pcall DT GT hr1 (pa_cons (pv 0) (pa_cons (pe_ix ix_list (pe_lst (pa_cons pe_int (pa_cons pe_int (pa_cons pe_int pa_nil)))) (pcall DT GT hr1 (pa_cons (pv 0) (pa_cons pe_int pa_nil))) (fun _ _ => rfl)) pa_nil))) (pa_cons (pcall D G hr (pa_cons (pv 0) (pa_cons (pv 1) (pa_cons (pv 2) (pa_cons (pe_op op_sub (pv 3) pe_int) (pa_cons (pv 4) pa_nil)))))) pa_nil)))))) pss_nil)
    (pss_one (ps_ret (pe_tup (pa_cons (pe_ix ix_list (pe_lst (pa_cons pe_str (pa_cons pe_str pa_nil))) (pe_op op_mod (pv 6) pe_int) (fun _ _ => rfl)) (pa_cons (pcall D G hr (pa_cons (pv 0) (pa_cons (pv 1) (pa_cons (pv 2) (pa_cons (pe_op op_sub (pv 3) pe_int) (pa_cons (pv 4) pa_nil)))))) pa_nil))))))))))))), ?_⟩
  -- left[0] = left[0] - 1
  refine ⟨_, rfl, m, _, 0, .int x, rfl, rfl, SqL.of g.left, at0, _, _, rfl, rfl, _, rfl, m, _, 0, 0, rfl, rfl, g.left, rfl, ?_⟩
  have g1 : GenAt i M ce cw (upd H m (.lst [.int (x - 1), .int y, .int z])) b l L m u F (x - 1) y z := g.put
  -- word
  refine ⟨_, rfl, _, rfl, _, rfl, L, _, rfl, .inl (SqL.of g1.lets), b, l, _, rfl, (by have := g.pos; rw [List.length_map]; omega), (by have := g.few; rw [List.length_map]; omega), g1.box, fun r1 H2 a0 a1 B2 k2 => ?_⟩
  have g2 := g1.draw k2 B2
  obtain ⟨wd, ew, hw, _⟩ := pick_word g.words a0 a1
  refine ⟨L, _, r1, .str wd, rfl, rfl, SqL.of g2.lets, ew, ?_⟩
  -- way
  refine ⟨_, rfl, b, l, 16, rfl, by decide, by decide, g2.box, fun way H3 c0 c1 B3 k3' => ?_⟩
  have g3 := g2.draw k3' B3
  have kk3 : Keep [b, l, m] H H3 := (Keep.put (by simp)).trans (k3 (k2.trans k3'))
  dsimp only [gName]
  refine seq_if (b := decide ((d : Int) = 0) || (decide (x - 1 < 2) || (decide (y < 2) || decide (way < 3)))) (ev_or (fun Q q => ⟨_, rfl, rfl, _, rfl, by rw [dec_int]; exact q⟩) (ev_or (fun Q q => ⟨_, rfl, m, _, 0, .int (x - 1), rfl, rfl, SqL.of g3.left, at0, _, _, rfl, rfl, _, rfl, q⟩)
    (ev_or (fun Q q => ⟨_, rfl, m, _, 1, .int y, rfl, rfl, SqL.of g3.left, at1, _, _, rfl, rfl, _, rfl, q⟩) (fun Q q => ⟨_, rfl, _, _, rfl, rfl, _, rfl, q⟩)))) (fun cc => ?_) (fun cc => ?_)
  · -- a step
    refine ⟨_, rfl, m, _, 1, .int y, rfl, rfl, SqL.of g3.left, at1, _, _, rfl, rfl, _, rfl, m, _, 1, 1, rfl, rfl, g3.left, rfl, ?_⟩
    have g4 : GenAt i M ce cw (upd H3 m (.lst [.int (x - 1), .int (y - 1), .int z])) b l L m u F (x - 1) (y - 1) z := g3.put
    refine ⟨_, rfl, _, rfl, b, l, 9, rfl, by decide, by decide, g4.box, fun r H5 d0 d1 B5 k5 => ?_⟩
    have g5 := g4.draw k5 B5
    refine ⟨_, _, rfl, rfl, (by show 3 ≤ sizeLine; decide), fun p hp => ?_⟩
    have g6 := g5.new (o := .tup [.str "step", .str wd, .int (1 + r)]) hp
    refine q _ (.step wd (1 + r)) _ (x - 1) (y - 1) z ⟨p, rfl, upd_same⟩ ⟨hw, by omega, by omega⟩ ?_ ?_ ?_ (by omega) (by omega) hz g6.left g6.box (kk3.trans ((Keep.put (by simp)).trans ((k3 k5).trans (Keep.new hp))))
    · show (1 : Int) = x - (x - 1)
      omega
    · show (1 : Int) = y - (y - 1)
      omega
    · show (0 : Int) = z - z
      omega
  simp only [Bool.or_eq_false_iff, decide_eq_false_iff_not] at cc
  obtain ⟨cd, cx, cy, cw'⟩ := cc
  obtain ⟨d', rfl⟩ : ∃ d', d = d' + 1 := ⟨d - 1, by omega⟩
  obtain rfl := hs d' rfl
  refine seq_if_to (b := decide (way = 3)) (fun σ' H' => ∃ v7 v8 : Option V, σ' = [some (.ref b), some (.ref L), some (.ref m), some (.int ((d' + 1 : Nat) : Int)), some (.ref u), some (.str wd), some (.int way), v7, v8, none, none] ∧ GenAt i M ce cw H' b l L m u F (x - 1) y z ∧ Keep [b, l, m] H H')
    (fun Q q => ⟨_, rfl, rfl, _, rfl, by rw [dec_int]; exact q⟩) ?_ ?_ (fun _ => ⟨none, none, rfl, g3, kk3⟩)
  · rintro σ' H4 ⟨v7, v8, rfl, g4, kk4⟩
    have recE : (.int (((d' + 1 : Nat) : Int) - 1) : V) = .int (d' : Int) := by rw [show (((d' + 1 : Nat) : Int) - 1) = (d' : Int) by omega]
    refine seq_if (b := decide (way < 9)) (fun Q q => ⟨_, rfl, _, _, rfl, rfl, _, rfl, q⟩) (fun _ => ?_) (fun c9 => ?_)
    · -- all, best
      refine ⟨Nat.zero_le _, fun kd hkd => ?_⟩
      have nkd := g4.box.ne_new hkd
      have nkm : kd ≠ m := (ne_of_none g4.left hkd).symm
      have gk := g4.new (o := .lst []) hkd
      have hkd0 : ∀ {S : List Addr} {H' : Hp} {o : HO}, Keep [b, l, m] H4 H' → Keep [b, l, m] H4 (upd H' kd o) := fun k => k.newer hkd
      have nin : kd ∉ [b, l, m] := by simp [nkd.1, nkd.2, nkm]
      refine ⟨_, rfl, b, l, 4, rfl, by decide, by decide, gk.box, fun r H5 e0 e1 B5 k5 => ?_⟩
      have g5 := gk.draw k5 B5
      refine ⟨_, _, rfl, rfl, _, rfl, by omega, by omega, ?_⟩
      refine for_range (lo := 0) (n := (1 + r).toNat) (fun k σ H' => ∃ (ks : List Sch) (vs : List V) (x' y' z' : Int) (v10 : Option V), σ = [some (.ref b), some (.ref L), some (.ref m), some (.int ((d' + 1 : Nat) : Int)), some (.ref u), some (.str wd), some (.int way), v7, v8, some (.ref kd), v10] ∧
          H' kd = some (.lst vs) ∧ Paired (SAt H' (d' + 1)) ks vs ∧ (∀ s ∈ ks, OkS i M (d' + 1) s) ∧ (ks.map (sz (d' + 1))).sum = (x - 1) - x' ∧ (ks.map (er ce (d' + 1))).sum = y - y' ∧ (ks.map (wr cw (d' + 1))).sum = z - z' ∧ 0 ≤ x' ∧ 0 ≤ y' ∧ 0 ≤ z' ∧
          ks.length ≤ k ∧ (0 < k → 0 < ks.length) ∧ (k = 0 → x' = x - 1 ∧ y' = y) ∧ GenAt i M ce cw H' b l L m u F x' y' z' ∧ Keep [b, l, m] H4 H')
        ⟨[], [], x - 1, y, z, none, rfl, k5 _ _ upd_same (by simp [nkd.1, nkd.2]), .nil, (fun _ h => nomatch h), by simp, by simp, by simp, by omega, by omega, hz, Nat.le_refl _, fun h => absurd h (Nat.lt_irrefl _), fun _ => ⟨rfl, rfl⟩, g5, (Keep.new hkd).trans (k3 k5)⟩ ?_ ?_
      · rintro k σ H' hk ⟨ks, vs, x', y', z', v10, rfl, ekd, pk, ok, s1, s2, s3, p1, p2, p3, len, pos, ini, g', kk'⟩
        refine one_if (b := decide (0 < x') && decide (0 < y')) (ev_and (fun Q q => ⟨_, rfl, m, _, 0, .int x', rfl, rfl, SqL.of g'.left, at0, _, _, rfl, rfl, _, rfl, q⟩) (fun Q q => ⟨_, rfl, m, _, 1, .int y', rfl, rfl, SqL.of g'.left, at1, _, _, rfl, rfl, _, rfl, q⟩)) (fun cc => ?_) (fun cc => ?_)
        · simp only [Bool.and_eq_true, decide_eq_true_eq] at cc
          refine ⟨_, rfl, .inl ⟨rfl, _, SqL.of ekd⟩, _, rfl, _, rfl, _, rfl, _, rfl, _, _, rfl, rfl, _, rfl, b, l, L, m, u, F, x', y', z', by rw [← recE] <;> rfl, g', by omega, by omega, p3, fun v s H6 x2 y2 z2 sa so q1 q2 q3 n1 n2 n3 el B6 k6 => ?_⟩
          have g6 := g'.move k6 B6 el
          have t6 := g'.tup k6
          refine ⟨kd, vs, v, rfl, rfl, k6 _ _ ekd nin, ?_, ?_⟩
          · have hl := Paired.length pk
            exact small1000 (by omega)
          · have g7 : GenAt i M ce cw (upd H6 kd (.lst (vs ++ [v]))) b l L m u F x2 y2 z2 := g4.move ((kk'.trans k6).newer hkd) (g6.box.put nkd.1 nkd.2) (by rw [upd_ne nkm.symm]; exact g6.left)
            have t7 : TupK H6 (upd H6 kd (.lst (vs ++ [v]))) := TupK.put (k6 _ _ ekd nin)
            refine ⟨ks ++ [s], vs ++ [v], x2, y2, z2, _, rfl, upd_same, paired_snoc (paired_imp pk fun s' v' h => SAt.keep (t6.trans t7) _ _ _ h) (SAt.keep t7 _ _ _ sa), ?_, ?_, ?_, ?_, n1, n2, n3, ?_, fun _ => by simp, fun h => absurd h (Nat.succ_ne_zero _), g7, (kk'.trans k6).newer hkd⟩
            · intro s' hs'
              rcases List.mem_append.mp hs' with h | h
              · exact ok s' h
              · rw [List.mem_singleton.mp h]
                exact so
            · simp only [List.map_append, List.sum_append, List.map_cons, List.map_nil, List.sum_cons, List.sum_nil]
              omega
            · simp only [List.map_append, List.sum_append, List.map_cons, List.map_nil, List.sum_cons, List.sum_nil]
              omega
            · simp only [List.map_append, List.sum_append, List.map_cons, List.map_nil, List.sum_cons, List.sum_nil]
              omega
            · simp only [List.length_append, List.length_cons, List.length_nil]
              omega
        · simp only [Bool.and_eq_false_iff, decide_eq_false_iff_not] at cc
          refine ⟨ks, vs, x', y', z', _, rfl, ekd, pk, ok, s1, s2, s3, p1, p2, p3, by omega, fun _ => pos ?_, fun h => absurd h (Nat.succ_ne_zero _), g', kk'⟩
          by_cases hk0 : k = 0
          · have := ini hk0
            omega
          · omega
      · rintro σ H' ⟨ks, vs, x', y', z', v10, rfl, ekd, pk, ok, s1, s2, s3, p1, p2, p3, len, pos, ini, g', kk'⟩
        have hm := Int.emod_nonneg way (show (2 : Int) ≠ 0 by decide)
        have hm2 := Int.emod_lt_of_pos way (show (0 : Int) < 2 by decide)
        refine ⟨sz2, fun T hT => ?_⟩
        have gT := g'.new (o := .lst [.str "all", .str "best"]) hT
        refine ⟨_, rfl, _, _, rfl, rfl, (by show (0 : Int) < 2; decide), T, _, way % 2, _, rfl, rfl, SqL.of upd_same, pick_name hm hm2, ?_⟩
        have nkT : kd ≠ T := ne_of_none ekd hT
        have ekT : upd H' T (.lst [.str "all", .str "best"]) kd = some (.lst vs) := by rw [upd_ne nkT]; exact ekd
        refine ⟨_, rfl, kd, vs, rfl, .inl ⟨SqL.of ekT, fun t ht => ?_⟩⟩
        have gt := gT.new (o := .tup vs) ht
        refine ⟨sz2, fun p hp => ?_⟩
        have tt : TupK H' (upd (upd (upd H' T (.lst [.str "all", .str "best"])) t (.tup vs)) p (.tup [.str (if way % 2 = 0 then "all" else "best"), .ref t])) := (TupK.new hT).trans ((TupK.new ht).trans (TupK.new hp))
        have gp := gt.new (o := .tup [.str (if way % 2 = 0 then "all" else "best"), .ref t]) hp
        have kp : Keep [b, l, m] H (upd (upd (upd H' T (.lst [.str "all", .str "best"])) t (.tup vs)) p (.tup [.str (if way % 2 = 0 then "all" else "best"), .ref t])) := kk4.trans (kk'.trans ((Keep.new hT).trans ((Keep.new ht).trans (Keep.new hp))))
        have et : (upd (upd (upd H' T (.lst [.str "all", .str "best"])) t (.tup vs)) p (.tup [.str (if way % 2 = 0 then "all" else "best"), .ref t])) t = some (.tup vs) := by rw [upd_ne (ne_of_none upd_same hp)]; exact upd_same
        have pk' := paired_imp pk fun s' v' h => SAt.keep tt _ _ _ h
        have hlen : 0 < ks.length ∧ ks.length ≤ 4 := ⟨pos (by omega), by omega⟩
        by_cases hw2 : way % 2 = 0
        · refine q _ (.all ks) _ x' y' z' ⟨p, t, vs, rfl, by rw [upd_same, if_pos hw2], et, pk'⟩ ⟨hlen.1, hlen.2, ok⟩ ?_ ?_ ?_ p1 p2 p3 gp.left gp.box kp
          · show 1 + (ks.map (sz (d' + 1))).sum = x - x'
            omega
          · exact s2
          · exact s3
        · refine q _ (.best ks) _ x' y' z' ⟨p, t, vs, rfl, by rw [upd_same, if_neg hw2], et, pk'⟩ ⟨hlen.1, hlen.2, ok⟩ ?_ ?_ ?_ p1 p2 p3 gp.left gp.box kp
          · show 1 + (ks.map (sz (d' + 1))).sum = x - x'
            omega
          · exact s2
          · exact s3
    have hm := Int.emod_nonneg way (show (2 : Int) ≠ 0 by decide)
    have hm2 := Int.emod_lt_of_pos way (show (0 : Int) < 2 by decide)
    refine seq_if (b := decide (way < 12) && decide (0 < z)) (ev_and (fun Q q => ⟨_, rfl, _, _, rfl, rfl, _, rfl, q⟩) (fun Q q => ⟨_, rfl, m, _, 2, .int z, rfl, rfl, SqL.of g4.left, at2, _, _, rfl, rfl, _, rfl, q⟩)) (fun cc => ?_) (fun c12 => ?_)
    · -- seen, behind
      simp only [Bool.and_eq_true, decide_eq_true_eq] at cc
      refine ⟨_, rfl, m, _, 2, .int z, rfl, rfl, SqL.of g4.left, at2, _, _, rfl, rfl, _, rfl, m, _, 2, 2, rfl, rfl, g4.left, rfl, ?_⟩
      have g5 : GenAt i M ce cw (upd H4 m (.lst [.int (x - 1), .int y, .int (z - 1)])) b l L m u F (x - 1) y (z - 1) := g4.put
      refine ⟨sz2, fun T hT => ?_⟩
      have g6 := g5.new (o := .lst [.str "seen", .str "behind"]) hT
      refine ⟨_, rfl, _, _, rfl, rfl, (by show (0 : Int) < 2; decide), T, _, way % 2, _, rfl, rfl, SqL.of upd_same, pick_name hm hm2, ?_⟩
      refine ⟨_, rfl, _, rfl, _, rfl, _, rfl, _, rfl, _, _, rfl, rfl, _, rfl, b, l, L, m, u, F, x - 1, y, z - 1, by rw [← recE] <;> rfl, g6, by omega, by omega, by omega, fun v s H6 x2 y2 z2 sa so q1 q2 q3 n1 n2 n3 el B6 k6 => ?_⟩
      have g7 := g6.move k6 B6 el
      refine ⟨(by show 3 ≤ sizeLine; decide), fun p hp => ?_⟩
      have tp : TupK H6 (upd H6 p (.tup [.str (if way % 2 = 0 then "seen" else "behind"), .str wd, v])) := TupK.new hp
      have g8 := g7.new (o := .tup [.str (if way % 2 = 0 then "seen" else "behind"), .str wd, v]) hp
      have kp : Keep [b, l, m] H (upd H6 p (.tup [.str (if way % 2 = 0 then "seen" else "behind"), .str wd, v])) := kk4.trans ((Keep.put (by simp)).trans ((Keep.new hT).trans (k6.trans (Keep.new hp))))
      by_cases hw2 : way % 2 = 0
      · refine q _ (.seen wd s) _ x2 y2 z2 ⟨p, v, rfl, by rw [upd_same, if_pos hw2], SAt.keep tp _ _ _ sa⟩ ⟨hw, so⟩ ?_ ?_ ?_ n1 n2 n3 g8.left g8.box kp
        · show 1 + sz (d' + 1) s = x - x2
          omega
        · exact q2
        · show 1 + wr cw (d' + 1) s = z - z2
          omega
      · refine q _ (.behind wd s) _ x2 y2 z2 ⟨p, v, rfl, by rw [upd_same, if_neg hw2], SAt.keep tp _ _ _ sa⟩ ⟨hw, so⟩ ?_ ?_ ?_ n1 n2 n3 g8.left g8.box kp
        · show 1 + sz (d' + 1) s = x - x2
          omega
        · exact q2
        · show 1 + wr cw (d' + 1) s = z - z2
          omega
    refine seq_if (b := decide (way = 12) && decide (1 < y)) (ev_and (fun Q q => ⟨_, rfl, rfl, _, rfl, by rw [dec_int]; exact q⟩) (fun Q q => ⟨_, rfl, m, _, 1, .int y, rfl, rfl, SqL.of g4.left, at1, _, _, rfl, rfl, _, rfl, q⟩)) (fun cc => ?_) (fun c13 => ?_)
    · -- end
      simp only [Bool.and_eq_true, decide_eq_true_eq] at cc
      refine ⟨_, rfl, m, _, 1, .int y, rfl, rfl, SqL.of g4.left, at1, _, _, rfl, rfl, _, rfl, m, _, 1, 1, rfl, rfl, g4.left, rfl, ?_⟩
      have g5 : GenAt i M ce cw (upd H4 m (.lst [.int (x - 1), .int (y - 1), .int z])) b l L m u F (x - 1) (y - 1) z := g4.put
      refine ⟨_, rfl, _, rfl, b, l, 9, rfl, by decide, by decide, g5.box, fun r H5 d0 d1 B5 k5 => ?_⟩
      have g6 := g5.draw k5 B5
      refine ⟨_, _, rfl, rfl, ?_⟩
      refine ⟨_, rfl, _, rfl, _, rfl, _, rfl, _, _, rfl, rfl, _, rfl, b, l, L, m, u, F, x - 1, y - 1, z, by rw [← recE] <;> rfl, g6, by omega, by omega, hz, fun v s H6 x2 y2 z2 sa so q1 q2 q3 n1 n2 n3 el B6 k6 => ?_⟩
      have g7 := g6.move k6 B6 el
      refine ⟨(by show 4 ≤ sizeLine; decide), fun p hp => ?_⟩
      have g8 := g7.new (o := .tup [.str "end", .str wd, .int (1 + r), v]) hp
      refine q _ (.fin wd (1 + r) s) _ x2 y2 z2 ⟨p, v, rfl, upd_same, SAt.keep (TupK.new hp) _ _ _ sa⟩ ⟨⟨hw, by omega, by omega⟩, so⟩ ?_ ?_ q3 n1 n2 n3 g8.left g8.box (kk4.trans ((Keep.put (by simp)).trans ((k3 k5).trans (k6.trans (Keep.new hp)))))
      · show 1 + sz (d' + 1) s = x - x2
        omega
      · show 1 + er ce (d' + 1) s = y - y2
        omega
    refine seq_if (b := decide (way = 13)) (fun Q q => ⟨_, rfl, rfl, _, rfl, by rw [dec_int]; exact q⟩) (fun _ => ?_) (fun _ => ?_)
    · -- most
      refine ⟨_, rfl, (by show 3 ≤ sizeLine; decide), fun T hT => ?_⟩
      have g5 := g4.new (o := .lst [.int 4, .int 12, .int 31]) hT
      refine ⟨_, rfl, b, l, 3, rfl, by decide, by decide, g5.box, fun r H5 d0 d1 B5 k5 => ?_⟩
      have g6 := g5.draw k5 B5
      have eT := k5 _ _ upd_same (g4.box.nin hT)
      obtain ⟨mm, em, mb⟩ : ∃ mm : Int, atI [V.int 4, V.int 12, V.int 31] r = some (.int mm) ∧ (0 < mm ∧ mm ≤ 31) := by
        have e : r = 0 ∨ r = 1 ∨ r = 2 := by omega
        rcases e with rfl | rfl | rfl
        · exact ⟨4, at0, by decide⟩
        · exact ⟨12, at1, by decide⟩
        · exact ⟨31, at2, by decide⟩
      refine ⟨T, _, r, .int mm, rfl, rfl, SqL.of eT, em, b, l, mm, rfl, mb.1, by omega, g6.box, fun r2 H6 f0 f1 B6 k6 => ?_⟩
      have g7 := g6.draw k6 B6
      refine ⟨_, rfl, _, rfl, _, rfl, _, rfl, _, _, rfl, rfl, _, rfl, b, l, L, m, u, F, x - 1, y, z, by rw [← recE] <;> rfl, g7, by omega, by omega, hz, fun v s H7 x2 y2 z2 sa so q1 q2 q3 n1 n2 n3 el B7 k7 => ?_⟩
      have g8 := g7.move k7 B7 el
      refine ⟨(by show 3 ≤ sizeLine; decide), fun p hp => ?_⟩
      have g9 := g8.new (o := .tup [.str "most", .int r2, v]) hp
      refine q _ (.most r2 s) _ x2 y2 z2 ⟨p, v, rfl, upd_same, SAt.keep (TupK.new hp) _ _ _ sa⟩ ⟨⟨f0, by omega⟩, so⟩ ?_ q2 q3 n1 n2 n3 g9.left g9.box (kk4.trans ((Keep.new hT).trans ((k3 (k5.trans k6)).trans (k7.trans (Keep.new hp)))))
      show 1 + sz (d' + 1) s = x - x2
      omega
    -- half, carry
    refine ⟨sz2, fun T hT => ?_⟩
    have g6 := g4.new (o := .lst [.str "half", .str "carry"]) hT
    refine ⟨_, rfl, _, _, rfl, rfl, (by show (0 : Int) < 2; decide), T, _, way % 2, _, rfl, rfl, SqL.of upd_same, pick_name hm hm2, ?_⟩
    refine ⟨_, rfl, _, rfl, _, rfl, _, rfl, _, _, rfl, rfl, _, rfl, b, l, L, m, u, F, x - 1, y, z, by rw [← recE] <;> rfl, g6, by omega, by omega, hz, fun v s H6 x2 y2 z2 sa so q1 q2 q3 n1 n2 n3 el B6 k6 => ?_⟩
    have g7 := g6.move k6 B6 el
    refine ⟨sz2, fun p hp => ?_⟩
    have tp : TupK H6 (upd H6 p (.tup [.str (if way % 2 = 0 then "half" else "carry"), v])) := TupK.new hp
    have g8 := g7.new (o := .tup [.str (if way % 2 = 0 then "half" else "carry"), v]) hp
    have kp : Keep [b, l, m] H (upd H6 p (.tup [.str (if way % 2 = 0 then "half" else "carry"), v])) := kk4.trans ((Keep.new hT).trans (k6.trans (Keep.new hp)))
    by_cases hw2 : way % 2 = 0
    · refine q _ (.half s) _ x2 y2 z2 ⟨p, v, rfl, by rw [upd_same, if_pos hw2], SAt.keep tp _ _ _ sa⟩ so ?_ q2 q3 n1 n2 n3 g8.left g8.box kp
      show 1 + sz (d' + 1) s = x - x2
      omega
    · refine q _ (.carry s) _ x2 y2 z2 ⟨p, v, rfl, by rw [upd_same, if_neg hw2], SAt.keep tp _ _ _ sa⟩ so ?_ q2 q3 n1 n2 n3 g8.left g8.box kp
      show 1 + sz (d' + 1) s = x - x2
      omega
  · -- a use
    intro _ rest
    obtain ⟨js, uv, eu, jl, jr, pu⟩ := g3.uses
    have gu : UAt H3 i M ce cw u := ⟨js, uv, eu, jl, jr, pu⟩
    have ul := Paired.length pu
    refine ⟨_, rfl, u, rfl, ⟨_, SqL.of eu⟩, fun Dd hD => ?_⟩
    have nuD : u ≠ Dd := ne_of_none eu hD
    refine lc_list (K := K) (a := u) (xs := uv) (fun k H'' => ∃ (js' : List Nat) (vs' : List V), H'' = upd H3 Dd (.lst vs') ∧ js'.length ≤ k ∧ (∀ j ∈ js', j ∈ js ∧ ce j ≤ y ∧ cw j ≤ z) ∧ Paired (fun j v => ∃ t, v = V.ref t ∧ H3 t = some (.tup [.int ((j : Nat) : Int), .int (ce j), .int (cw j)])) js' vs')
      ⟨[], [], rfl, Nat.le_refl _, (fun _ h => nomatch h), .nil⟩ (fun k H'' _ ⟨_, _, e, _⟩ => by rw [e]; exact SqL.of (by rw [upd_ne nuD]; exact eu)) ?_ ?_
    · rintro k xk H'' hk ⟨js', vs', rfl, l', sub, pu'⟩
      obtain ⟨j, ej, t, rfl, et⟩ := paired_get' pu hk
      have et' : upd H3 Dd (.lst vs') t = some (.tup [.int ((j : Nat) : Int), .int (ce j), .int (cw j)]) := by rw [upd_ne (ne_of_none et hD)]; exact et
      have em : upd H3 Dd (.lst vs') m = some (.lst [.int (x - 1), .int y, .int z]) := (g3.new hD).left
      refine ⟨rfl, ev_and (b := decide (ce j ≤ y)) (c := decide (cw j ≤ z)) (fun Q q => ⟨_, rfl, t, _, 1, .int (ce j), rfl, rfl, SqT.of et', at1, _, rfl, m, _, 1, .int y, rfl, rfl, SqL.of em, at1, _, _, rfl, rfl, _, rfl, q⟩)
        (fun Q q => ⟨_, rfl, t, _, 2, .int (cw j), rfl, rfl, SqT.of et', at2, _, rfl, m, _, 2, .int z, rfl, rfl, SqL.of em, at2, _, _, rfl, rfl, _, rfl, q⟩) _ ?_⟩
      have lv := Paired.length pu'
      have hkl := (List.getElem?_eq_some_iff.mp hk).1
      refine ite2 (fun c => ?_) (fun c => ?_)
      · simp only [Bool.and_eq_true, decide_eq_true_eq] at c
        refine ⟨_, rfl, vs', upd_same, small1000 (by omega), js' ++ [j], vs' ++ [.ref t], upd_upd, by simp only [List.length_append, List.length_cons, List.length_nil]; omega, fun j' hj' => ?_, paired_snoc pu' ⟨t, rfl, et⟩⟩
        rcases List.mem_append.mp hj' with h | h
        · exact sub j' h
        · rw [List.mem_singleton.mp h]
          exact ⟨List.mem_of_getElem? ej, c⟩
      · exact ⟨js', vs', rfl, by omega, sub, pu'⟩
    · rintro H'' ⟨js', vs', rfl, l', sub, pu'⟩
      have lv := Paired.length pu'
      have g4 := g3.new (o := .lst vs') hD
      have kk4 : Keep [b, l, m] H (upd H3 Dd (.lst vs')) := kk3.trans (Keep.new hD)
      dsimp only [gName]
      refine ⟨_, rfl, Nat.zero_le _, fun p hp => ?_⟩
      have g5 := g4.new (o := .lst []) hp
      have nDp : Dd ≠ p := ne_of_none upd_same hp
      have eD : upd (upd H3 Dd (.lst vs')) p (.lst []) Dd = some (.lst vs') := by rw [upd_ne nDp]; exact upd_same
      have kk5 : Keep [b, l, m] H (upd (upd H3 Dd (.lst vs')) p (.lst [])) := kk4.trans (Keep.new hp)
      have tk5 : TupK H3 (upd (upd H3 Dd (.lst vs')) p (.lst [])) := (TupK.new hD).trans (TupK.new hp)
      have pu5 : Paired (fun (j : Nat) (v : V) => ∃ t, v = V.ref t ∧ (upd (upd H3 Dd (.lst vs')) p (.lst [])) t = some (HO.tup [.int ((j : Nat) : Int), .int (ce j), .int (cw j)])) js' vs' := paired_imp pu' fun j v ⟨t, e1, e2⟩ => ⟨t, e1, tk5 _ _ e2⟩
      have dp : ∀ {js' : List Nat} {vs' : List V} {Hx : Hp}, Paired (fun j v => ∃ t, v = V.ref t ∧ Hx t = some (.tup [.int ((j : Nat) : Int), .int (ce j), .int (cw j)])) js' vs' → DpAll K Hx vs' (js'.map fun j => .tuple [.int ((j : Nat) : Int), .int (ce j), .int (cw j)]) := by
        intro js' vs' Hx h
        induction h with
        | nil => exact .nil
        | cons h1 _ ih =>
          obtain ⟨t, rfl, e⟩ := h1
          exact .cons (.tup (SqT.of e) (.cons (.int _) (.cons (.int _) (.cons (.int _) .nil)))) ih
      refine ⟨.list (js'.map fun j => .tuple [.int ((j : Nat) : Int), .int (ce j), .int (cw j)]), .list [], .lst (SqL.of eD) (dp pu5), .lst (SqL.of upd_same) .nil, (ShN.lst (n := 1) (ShAll.of fun dd h => ?_)).ok (by decide), rfl, _, rfl, ?_⟩
      · obtain ⟨j, _, rfl⟩ := List.mem_map.mp h
        exact ShN.tup (.cons (.int _) (.cons (.int _) (.cons (.int _) .nil)))
      refine ite2 (fun c => ?_) (fun c => ?_)
      · have hne : 0 < vs'.length := by
          cases js' with
          | nil => exact absurd c (by simp [PyData.eqv, PyData.eqvAll])
          | cons a r => rw [← lv]; exact Nat.succ_pos _
        refine ⟨_, rfl, _, rfl, _, rfl, Dd, _, rfl, .inl (SqL.of eD), b, l, _, rfl, by omega, by omega, g5.box, fun r H6 a0 a1 B6 k6 => ?_⟩
        have g6 := g5.draw k6 B6
        have eD6 := k6 _ _ eD (g3.box.nin hD)
        have hr' : r.toNat < vs'.length := by omega
        have ev : vs'[r.toNat]? = some (vs'[r.toNat]'hr') := List.getElem?_eq_getElem hr'
        obtain ⟨j, ej, t, et0, et⟩ := paired_get' pu5 ev
        have ht6 := g5.tup (k3 k6) _ _ et
        refine ⟨Dd, _, r, .ref t, rfl, rfl, SqL.of eD6, atI_of a0 (by rw [ev, et0]), ?_⟩
        obtain ⟨jin, j1, j2⟩ := sub j (List.mem_of_getElem? ej)
        refine ⟨_, rfl, m, _, 1, .int y, rfl, rfl, SqL.of g6.left, at1, _, rfl, t, _, 1, .int (ce j), rfl, rfl, SqT.of ht6, at1, _, _, rfl, rfl, ?_⟩
        refine ⟨_, rfl, m, _, 2, .int z, rfl, rfl, SqL.of g6.left, at2, _, rfl, t, _, 2, .int (cw j), rfl, rfl, SqT.of ht6, at2, _, _, rfl, rfl, ?_⟩
        refine ⟨sz2, fun T hT => ?_⟩
        have g7 := g6.new (o := .tup [.int (y - ce j), .int (z - cw j)]) hT
        refine ⟨T, _, rfl, SqT.of upd_same, rfl, _, _, rfl, _, rfl, m, _, 1, 1, rfl, rfl, g7.left, rfl, _, _, rfl, _, rfl, m, _, 2, 2, rfl, rfl, upd_same, rfl, rfl, ?_⟩
        have g7a : GenAt i M ce cw (upd (upd H6 T (.tup [.int (y - ce j), .int (z - cw j)])) m (.lst [.int (x - 1), .int (y - ce j), .int z])) b l L m u F (x - 1) (y - ce j) z := g7.put
        have g8 : GenAt i M ce cw (upd (upd (upd H6 T (.tup [.int (y - ce j), .int (z - cw j)])) m (.lst [.int (x - 1), .int (y - ce j), .int z])) m (.lst [.int (x - 1), .int (y - ce j), .int (z - cw j)])) b l L m u F (x - 1) (y - ce j) (z - cw j) := g7a.put
        have ht8 : (upd (upd (upd H6 T (.tup [.int (y - ce j), .int (z - cw j)])) m (.lst [.int (x - 1), .int (y - ce j), .int z])) m (.lst [.int (x - 1), .int (y - ce j), .int (z - cw j)])) t = some (.tup [.int ((j : Nat) : Int), .int (ce j), .int (cw j)]) := (TupK.put g7a.left) _ _ ((TupK.put g7.left) _ _ ((TupK.new hT) _ _ ht6))
        refine ⟨_, rfl, t, _, 0, .int ((j : Nat) : Int), rfl, rfl, SqT.of ht8, at0, sz2, fun p2 hp2 => ?_⟩
        have g9 := g8.new (o := .tup [.str "use", .int ((j : Nat) : Int)]) hp2
        refine q _ (.use j) _ (x - 1) (y - ce j) (z - cw j) ⟨p2, rfl, upd_same⟩ (jr j jin) ?_ ?_ ?_ (by omega) (by omega) (by omega) g9.left g9.box (kk5.trans ((k3 k6).trans ((Keep.new hT).trans ((Keep.put (by simp)).trans ((Keep.put (by simp)).trans (Keep.new hp2))))))
        · show (1 : Int) = x - (x - 1)
          omega
        · show ce j = y - (y - ce j)
          omega
        · show cw j = z - (z - cw j)
          omega
      · exact rest _ _ ⟨none, some (.ref Dd), rfl, g5, kk5⟩
end
end MS
end
section
set_option maxRecDepth 100000
set_option maxHeartbeats 4000000
namespace MS
open PySem L2
section
variable {P : Program} {w : World} {K : PySem.W.Frag} {mg : Str → Option Value} {base : Heap}
theorem no_sp {k : Nat} {f : Addr} {fd : FuncData} {ps : List Str} : FnOk P w K mg base CX0 k f fd ps (fun _ _ _ _ => False) := ⟨fun vs H Q E h => h.elim, fun A outer s H args us vs Q E _ _ _ _ h => h.elim⟩
theorem ok_scheme {i M : Nat} {ce cw : Nat → Int} (D : Def K mg "_law_scheme" s_L_scheme psScheme) (DT : Def K mg "_law_take" s_L_take ["_law_box", "_law_many"]) (ml : mg "len" = none) (mr : mg "range" = none) (mt : mg "tuple" = none) :
    ∀ d : Nat, FnOk P w K mg base CX0 (d + 2) D.f D.fd psScheme (spScheme i M ce cw d)
  | 0 => scheme_turn D DT ml mr mt (sp' := fun _ _ _ _ => False) no_sp fun d' h => by omega
  | d + 1 => scheme_turn D DT ml mr mt (ok_scheme D DT ml mr mt d) fun d' h => by
      have e : d = d' := by omega
      rw [e]
end
/-! ### counts -/
/-- all later schemes are told -/
def UFull (H : Hp) (i M : Nat) (ce cw : Nat → Int) (u : Addr) : Prop := ∃ (js : List Nat) (vs : List V), H u = some (.lst vs) ∧ js.length ≤ 5 ∧ (∀ j, i < j → j < M → j ∈ js) ∧
  Paired (fun j v => ∃ t, v = V.ref t ∧ H t = some (.tup [.int ((j : Nat) : Int), .int (ce j), .int (cw j)])) js vs
theorem UFull.keep {H H' : Hp} {i M : Nat} {ce cw : Nat → Int} {u : Addr} (h : UFull H i M ce cw u) (k : Same H H') : UFull H' i M ce cw u := by
  obtain ⟨js, vs, e, l, r, p⟩ := h
  exact ⟨js, vs, k _ _ e, l, r, paired_imp p fun j v ⟨t, e1, e2⟩ => ⟨t, e1, k _ _ e2⟩⟩
theorem Same.tupK {H H' : Hp} (k : Same H H') : TupK H H' := fun a xs e => k a _ e
/-- what a value within a scheme counts -/
def KidR (i M : Nat) (ce cw : Nat → Int) (H : Hp) (d : Nat) (p : Int × Int) (v : V) : Prop := (∃ n, v = .int n ∧ p = (0, 0)) ∨ ∃ s, SAt H d s v ∧ OkS i M d s ∧ p = (er ce d s, wr cw d s)
def isAB (nm : Str) : Bool := inV (.str nm) [.str "all", .str "best"]
def n0 (nm : Str) : Int := if inV (.str nm) [.str "step", .str "end"] then 1 else 0
def n1 (nm : Str) : Int := if inV (.str nm) [.str "seen", .str "behind"] then 1 else 0
structure KidsOf (i M : Nat) (ce cw : Nat → Int) (H : Hp) (d : Nat) (nm : Str) (rest : List V) (e w : Int) : Prop where
  no : nm ≠ "use"
  kids : (isAB nm = true ∧ ∃ (b : Addr) (vs : List V) (ps : List (Int × Int)), rest = [.ref b] ∧ H b = some (.tup vs) ∧ Paired (KidR i M ce cw H d) ps vs ∧ e = n0 nm + (ps.map (·.1)).sum ∧ w = n1 nm + (ps.map (·.2)).sum) ∨
    (isAB nm = false ∧ ∃ (u : V) (p : Int × Int), cutV (.str nm :: rest) (some (-1)) none = [u] ∧ ¬ (HT.sIx (V.str nm :: rest).length 0 (some (-1)) = 0 ∧ HT.sIx (V.str nm :: rest).length (V.str nm :: rest).length none = (V.str nm :: rest).length) ∧ KidR i M ce cw H d p u ∧ e = n0 nm + p.1 ∧ w = n1 nm + p.2)
theorem kid_list {i M : Nat} {ce cw : Nat → Int} {H : Hp} {d : Nat} : ∀ {ks : List Sch} {vs : List V}, Paired (SAt H d) ks vs → (∀ s ∈ ks, OkS i M d s) → Paired (KidR i M ce cw H d) (ks.map fun s => (er ce d s, wr cw d s)) vs
  | _, _, .nil, _ => .nil
  | _, _, .cons r t, h => .cons (.inr ⟨_, r, h _ List.mem_cons_self, rfl⟩) (kid_list t fun s hs => h s (List.mem_cons_of_mem _ hs))
theorem SAt.view {i M : Nat} {ce cw : Nat → Int} {H : Hp} {d : Nat} {s : Sch} {v : V} (h : SAt H (d + 1) s v) (o : OkS i M (d + 1) s) :
    (∃ a j, v = .ref a ∧ s = .use j ∧ H a = some (.tup [.str "use", .int ((j : Nat) : Int)])) ∨
    ∃ a nm rest, v = .ref a ∧ H a = some (.tup (.str nm :: rest)) ∧ KidsOf i M ce cw H d nm rest (er ce (d + 1) s) (wr cw (d + 1) s) := by
  cases s with
  | step x p =>
    obtain ⟨a, rfl, e⟩ := h
    exact .inr ⟨a, "step", _, rfl, e, by decide +kernel, .inr ⟨by decide +kernel, .int p, (0, 0), rfl, (by show ¬ (HT.sIx 3 0 (some (-1)) = 0 ∧ HT.sIx 3 3 none = 3); decide), .inl ⟨p, rfl, rfl⟩, by show (1 : Int) = n0 "step" + 0; decide +kernel, by show (0 : Int) = n1 "step" + 0; decide +kernel⟩⟩
  | all k =>
    obtain ⟨a, b, vs, rfl, e, e2, pk⟩ := h
    refine .inr ⟨a, "all", _, rfl, e, by decide +kernel, .inl ⟨by decide +kernel, b, vs, _, rfl, e2, kid_list pk o.2.2, ?_, ?_⟩⟩
    · rw [List.map_map, show n0 "all" = 0 by decide +kernel, Int.zero_add]; rfl
    · rw [List.map_map, show n1 "all" = 0 by decide +kernel, Int.zero_add]; rfl
  | best k =>
    obtain ⟨a, b, vs, rfl, e, e2, pk⟩ := h
    refine .inr ⟨a, "best", _, rfl, e, by decide +kernel, .inl ⟨by decide +kernel, b, vs, _, rfl, e2, kid_list pk o.2.2, ?_, ?_⟩⟩
    · rw [List.map_map, show n0 "best" = 0 by decide +kernel, Int.zero_add]; rfl
    · rw [List.map_map, show n1 "best" = 0 by decide +kernel, Int.zero_add]; rfl
  | most n s =>
    obtain ⟨a, u, rfl, e, hs⟩ := h
    refine .inr ⟨a, "most", _, rfl, e, by decide +kernel, .inr ⟨by decide +kernel, u, _, rfl, (by show ¬ (HT.sIx 3 0 (some (-1)) = 0 ∧ HT.sIx 3 3 none = 3); decide), .inr ⟨s, hs, o.2, rfl⟩, ?_, ?_⟩⟩
    · rw [show n0 "most" = 0 by decide +kernel, Int.zero_add]; rfl
    · rw [show n1 "most" = 0 by decide +kernel, Int.zero_add]; rfl
  | half s =>
    obtain ⟨a, u, rfl, e, hs⟩ := h
    refine .inr ⟨a, "half", _, rfl, e, by decide +kernel, .inr ⟨by decide +kernel, u, _, rfl, (by show ¬ (HT.sIx 2 0 (some (-1)) = 0 ∧ HT.sIx 2 2 none = 2); decide), .inr ⟨s, hs, o, rfl⟩, ?_, ?_⟩⟩
    · rw [show n0 "half" = 0 by decide +kernel, Int.zero_add]; rfl
    · rw [show n1 "half" = 0 by decide +kernel, Int.zero_add]; rfl
  | seen x s =>
    obtain ⟨a, u, rfl, e, hs⟩ := h
    refine .inr ⟨a, "seen", _, rfl, e, by decide +kernel, .inr ⟨by decide +kernel, u, _, rfl, (by show ¬ (HT.sIx 3 0 (some (-1)) = 0 ∧ HT.sIx 3 3 none = 3); decide), .inr ⟨s, hs, o.2, rfl⟩, ?_, ?_⟩⟩
    · rw [show n0 "seen" = 0 by decide +kernel, Int.zero_add]; rfl
    · rw [show n1 "seen" = 1 by decide +kernel]; rfl
  | behind x s =>
    obtain ⟨a, u, rfl, e, hs⟩ := h
    refine .inr ⟨a, "behind", _, rfl, e, by decide +kernel, .inr ⟨by decide +kernel, u, _, rfl, (by show ¬ (HT.sIx 3 0 (some (-1)) = 0 ∧ HT.sIx 3 3 none = 3); decide), .inr ⟨s, hs, o.2, rfl⟩, ?_, ?_⟩⟩
    · rw [show n0 "behind" = 0 by decide +kernel, Int.zero_add]; rfl
    · rw [show n1 "behind" = 1 by decide +kernel]; rfl
  | carry s =>
    obtain ⟨a, u, rfl, e, hs⟩ := h
    refine .inr ⟨a, "carry", _, rfl, e, by decide +kernel, .inr ⟨by decide +kernel, u, _, rfl, (by show ¬ (HT.sIx 2 0 (some (-1)) = 0 ∧ HT.sIx 2 2 none = 2); decide), .inr ⟨s, hs, o, rfl⟩, ?_, ?_⟩⟩
    · rw [show n0 "carry" = 0 by decide +kernel, Int.zero_add]; rfl
    · rw [show n1 "carry" = 0 by decide +kernel, Int.zero_add]; rfl
  | fin x p s =>
    obtain ⟨a, u, rfl, e, hs⟩ := h
    refine .inr ⟨a, "end", _, rfl, e, by decide +kernel, .inr ⟨by decide +kernel, u, _, rfl, (by show ¬ (HT.sIx 4 0 (some (-1)) = 0 ∧ HT.sIx 4 4 none = 4); decide), .inr ⟨s, hs, o.2, rfl⟩, ?_, ?_⟩⟩
    · rw [show n0 "end" = 1 by decide +kernel]; rfl
    · rw [show n1 "end" = 0 by decide +kernel, Int.zero_add]; rfl
  | use n =>
    obtain ⟨a, rfl, e⟩ := h
    exact .inl ⟨a, n, rfl, rfl, e⟩
theorem KidR.keep {i M : Nat} {ce cw : Nat → Int} {H H' : Hp} {d : Nat} {p : Int × Int} {v : V} (h : KidR i M ce cw H d p v) (k : TupK H H') : KidR i M ce cw H' d p v := by
  rcases h with h | ⟨s, h1, h2⟩
  · exact .inl h
  · exact .inr ⟨s, SAt.keep k _ _ _ h1, h2⟩
theorem KidsOf.keep {i M : Nat} {ce cw : Nat → Int} {H H' : Hp} {d : Nat} {nm : Str} {rest : List V} {e w : Int} (h : KidsOf i M ce cw H d nm rest e w) (k : TupK H H') : KidsOf i M ce cw H' d nm rest e w := by
  refine ⟨h.no, ?_⟩
  rcases h.kids with ⟨hb, b, vs, ps, e1, eb, pk, ee, ew⟩ | ⟨hb, u, p, eu, nw, hk, ee, ew⟩
  · exact .inl ⟨hb, b, vs, ps, e1, k _ _ eb, paired_imp pk fun _ _ z => z.keep k, ee, ew⟩
  · exact .inr ⟨hb, u, p, eu, nw, hk.keep k, ee, ew⟩
theorem SAt.ref {H : Hp} {d : Nat} {s : Sch} {v : V} (h : SAt H d s v) : ∃ a xs, v = .ref a ∧ H a = some (.tup xs) := by
  cases d with
  | zero => cases h
  | succ d =>
    cases s with
    | step x p => obtain ⟨a, e, h⟩ := h; exact ⟨a, _, e, h⟩
    | all k => obtain ⟨a, b, vs, e, h, _⟩ := h; exact ⟨a, _, e, h⟩
    | best k => obtain ⟨a, b, vs, e, h, _⟩ := h; exact ⟨a, _, e, h⟩
    | most n s => obtain ⟨a, u, e, h, _⟩ := h; exact ⟨a, _, e, h⟩
    | half s => obtain ⟨a, u, e, h, _⟩ := h; exact ⟨a, _, e, h⟩
    | seen x s => obtain ⟨a, u, e, h, _⟩ := h; exact ⟨a, _, e, h⟩
    | behind x s => obtain ⟨a, u, e, h, _⟩ := h; exact ⟨a, _, e, h⟩
    | carry s => obtain ⟨a, u, e, h, _⟩ := h; exact ⟨a, _, e, h⟩
    | fin x p s => obtain ⟨a, u, e, h, _⟩ := h; exact ⟨a, _, e, h⟩
    | use n => obtain ⟨a, e, h⟩ := h; exact ⟨a, _, e, h⟩
/-- what the laws' walks go through within a scheme -/
def tKids (K : PySem.W.Frag) : TE := tIf (tTest (tOp (rIn K false) (tOp (rIxT K) (tVar 0) (tC (.int 0))) (tTup (tCons (tC (.str "all")) (tCons (tC (.str "best")) tNil))))) (tOp (rIxT K) (tVar 0) (tC (.int 1)))
  (tSl (rSlA K) (tVar 0) (tPart (tUn (rU fun i => .int (-i)) (tC (.int 1)))) tNoPart)
theorem kids_ev {K : PySem.W.Frag} {i M : Nat} {ce cw : Nat → Int} {σ : St} {H : Hp} {d : Nat} {a : Addr} {nm : Str} {rest : List V} {e w : Int} {Q : VK} (s0 : σ[0]? = some (some (.ref a))) (ea : H a = some (.tup (.str nm :: rest))) (k : KidsOf i M ce cw H d nm rest e w)
    (h : ∀ (kd : Addr) (kv : List V) (ps : List (Int × Int)) (H1 : Hp), Same H H1 → H1 kd = some (.tup kv) → Paired (KidR i M ce cw H d) ps kv → e = n0 nm + (ps.map (·.1)).sum → w = n1 nm + (ps.map (·.2)).sum → Q (.ref kd) H1) : tKids K σ H Q := by
  refine ⟨_, s0, a, _, 0, .str nm, rfl, rfl, SqT.of ea, at0, sz2, fun t ht => ⟨t, _, rfl, .inr (SqT.of upd_same), rfl, rfl, _, rfl, ?_⟩⟩
  have s1 : Same H (upd H t (.tup [.str "all", .str "best"])) := Same.new ht
  have ea1 := s1 _ _ ea
  rcases k.kids with ⟨hb, b, vs, ps, rfl, eb, pk, ee, ew⟩ | ⟨hb, u, p, eu, nw, hk, ee, ew⟩
  · show (if isAB nm = true then _ else _)
    rw [if_pos hb]
    exact ⟨_, s0, a, _, 1, .ref b, rfl, rfl, SqT.of ea1, at1, h b vs ps _ s1 (s1 _ _ eb) pk ee ew⟩
  · show (if isAB nm = true then _ else _)
    rw [if_neg (by rw [hb]; decide)]
    refine ⟨_, s0, 1, rfl, -1, rfl, a, _, rfl, SqT.of ea1, fun z => absurd z nw, fun _ q hq => ?_⟩
    refine h q [u] [p] _ (s1.trans (Same.new hq)) (by rw [upd_same, eu]) (.cons hk .nil) ?_ ?_
    · rw [ee, List.map_singleton, List.sum_singleton]
    · rw [ew, List.map_singleton, List.sum_singleton]
def spCounted (K : PySem.W.Frag) (i M : Nat) (ce cw : Nat → Int) (d : Nat) : Sp := fun vs H Q _ => ∃ (v : V) (u : Addr) (s : Sch), vs = [v, .ref u] ∧ SAt H d s v ∧ OkS i M d s ∧ UFull H i M ce cw u ∧
  ∀ (p : Addr) (H' : Hp), Same H H' → H' p = some (.tup [.int (er ce d s), .int (wr cw d s)]) → Q (.ref p) H'
abbrev nmCounted : List Str := ["_law_scheme_here", "_law_uses", "_law_found", "_law_kid", "_law_more", "_law_one"]
abbrev psCounted : List Str := ["_law_scheme_here", "_law_uses"]
section
variable {P : Program} {w : World} {K : PySem.W.Frag} {mg : Str → Option Value} {base : Heap}
theorem counted_turn {i M d : Nat} {ce cw : Nat → Int} (D : Def K mg "_law_counted" s_L_counted psCounted) (mi : mg "int" = none) (mt : mg "tuple" = none) (mis : mg "isinstance" = none)
    (G : FnOk P w K mg base CX0 d D.f D.fd psCounted (spCounted K i M ce cw d)) : FnOk P w K mg base CX0 (d + 1) D.f D.fd psCounted (spCounted K i M ce cw (d + 1)) := by
  have nd := sc_L_counted.nd
  refine D.ok sc_L_counted (fun vs H Q E h => ?_) (fun cdv A outer s H vs Q E hr h => ?_)
  · obtain ⟨v, u, s, rfl, _⟩ := h
    rfl
  obtain ⟨v, u, sc, rfl, hs, ho, hu, q⟩ := h
  refine ⟨_, pss_cons (ps_if (pt_cmpR op_eq (pe_ix ix_tup (pv 0) pe_int (fun _ _ => rfl)) pe_str (nomark _))
      (pss_one (ps_ret (pe_ix ix_list (pe_lc (own := [("_law_one", 5)]) (g := gName 5) rfl nd (pi_list (pv 1)) (blkOk_by (N := nmCounted) (sc := defScope s_L_counted) (by decide +kernel)) (fun _ _ _ _ _ => pg_name (i := 5) nd rfl (Or.inl rfl))
          (fun _ _ _ _ _ => pts_one (pt_cmpR op_eq (pe_ix (r := rIxT K) ix_tup (pv 5) pe_int (fun _ _ => rfl)) (pe_ix (r := rIxT K) ix_tup (pv 0) pe_int (fun _ _ => rfl)) (nomark _)))
          (fun _ _ _ _ _ => pe_slice (r := rSlA K) sl_tupA (pv 5) (po_some pe_int) po_none)) pe_int (fun _ _ => rfl)))) pss_nil)
    (pss_cons (ps_set (i := 2) nd rfl (Or.inl rfl) (pe_lst (pa_cons (pe_callTy call_int1 rfl mi (by decide +kernel) (pa_cons (pe_cmpR op_in_seq (pe_ix ix_tup (pv 0) pe_int (fun _ _ => rfl)) (pe_tup (pa_cons pe_str (pa_cons pe_str pa_nil))) (by rfl)) pa_nil))
      (pa_cons (pe_callTy call_int1 rfl mi (by decide +kernel) (pa_cons (pe_cmpR op_in_seq (pe_ix ix_tup (pv 0) pe_int (fun _ _ => rfl)) (pe_tup (pa_cons pe_str (pa_cons pe_str pa_nil))) (by rfl)) pa_nil)) pa_nil))))
    (pss_cons (ps_for PassesOwn.never rfl (pi_tup (pe_ifExp (pt_cmpR op_in_seq (pe_ix ix_tup (pv 0) pe_int (fun _ _ => rfl)) (pe_tup (pa_cons pe_str (pa_cons pe_str pa_nil))) (by rfl)) (pe_ix ix_tup (pv 0) pe_int (fun _ _ => rfl)) (pe_slice sl_tupA (pv 0) (po_some (pe_un un_neg pe_int)) po_none))) (pg_name (i := 3) nd rfl (Or.inl rfl))
      (pss_one (ps_if (pt_val (pe_callB call_isi rfl mis (by decide +kernel) (pa_cons (pv 3) (pa_cons (pe_bltn rfl mt (by decide +kernel) (v := .ty "tuple") rfl) pa_nil))))
        (pss_cons (ps_set (i := 4) nd rfl (Or.inl rfl) (pcall D G hr (pa_cons (pv 3) (pa_cons (pv 1) pa_nil))))
        (pss_one (ps_set (i := 2) nd rfl (Or.inl rfl) (pe_lst (pa_cons (pe_op op_add (pe_ix ix_list (pv 2) pe_int (fun _ _ => rfl)) (pe_ix ix_tup (pv 4) pe_int (fun _ _ => rfl))) (pa_cons (pe_op op_add (pe_ix ix_list (pv 2) pe_int (fun _ _ => rfl)) (pe_ix ix_tup (pv 4) pe_int (fun _ _ => rfl))) pa_nil)))))) pss_nil)))
    (pss_one (ps_ret (pe_callTy call_tuple_of rfl mt (by decide +kernel) (pa_cons (pv 2) pa_nil)))))), ?_⟩
  rcases hs.view (ce := ce) (cw := cw) ho with ⟨a, j, rfl, rfl, ea⟩ | ⟨a, nm, rest, rfl, ea, kk⟩
  · -- a use
    refine seq_if (b := true) (fun Q q => ⟨_, rfl, a, _, 0, .str "use", rfl, rfl, SqT.of ea, at0, rfl, _, rfl, by rw [dec_str]; exact q⟩) (fun _ => ?_) (fun z => nomatch z)
    obtain ⟨js, uv, eu, jl, jf, pu⟩ := hu
    have ul := Paired.length pu
    refine ⟨_, rfl, u, rfl, ⟨_, SqL.of eu⟩, fun Dd hD => ?_⟩
    have jin : j ∈ js := jf j ho.1 ho.2
    refine lc_list (K := K) (a := u) (xs := uv) (fun k H'' => ∃ rs : List Addr, H'' Dd = some (.lst (rs.map V.ref)) ∧ Same H H'' ∧ (∀ r ∈ rs, H'' r = some (.tup [.int (ce j), .int (cw j)])) ∧ rs.length ≤ k ∧ (j ∈ js.take k → rs ≠ []))
      ⟨[], upd_same, Same.new hD, (fun _ h => nomatch h), Nat.le_refl _, fun h => by simp at h⟩ (fun k H'' _ ⟨_, _, s1, _⟩ => SqL.of (s1 _ _ eu)) ?_ ?_
    · rintro k xk H'' hk ⟨rs, eD, s1, hrs, lr, hin⟩
      obtain ⟨j', ej, t, rfl, et⟩ := paired_get' pu hk
      have et' := s1 _ _ et
      have ea' := s1 _ _ ea
      have hkl := (List.getElem?_eq_some_iff.mp hk).1
      have tk : js.take (k + 1) = js.take k ++ [j'] := by
        rw [List.take_succ, ej]
        rfl
      refine ⟨rfl, _, rfl, t, _, 0, .int ((j' : Nat) : Int), rfl, rfl, SqT.of et', at0, _, rfl, a, _, 1, .int ((j : Nat) : Int), rfl, rfl, SqT.of ea', at1, rfl, _, rfl, ?_⟩
      refine ite2 (fun c => ?_) (fun c => ?_)
      · have e : j' = j := by
          have z := V.int.inj (of_decide_eq_true c)
          omega
        subst e
        refine ⟨_, rfl, 1, rfl, t, _, rfl, SqT.of et', fun z => absurd z (by show ¬ (HT.sIx 3 0 (some 1) = 0 ∧ HT.sIx 3 3 none = 3); decide), fun _ p hp => ?_⟩
        refine ⟨_, (by rw [upd_ne (ne_of_none eD hp)]; exact eD), (by rw [List.length_map]; exact small1000 (by omega)), rs ++ [p], ?_, fun b o e => ?_, fun r hr => ?_, by simp only [List.length_append, List.length_cons, List.length_nil]; omega, fun _ => by simp⟩
        · rw [upd_same, List.map_append]
          rfl
        · rw [upd_ne (ne_of_none e hD)]
          exact Same.new hp _ _ (s1 _ _ e)
        · have nD : ∀ x xs, H'' x = some (HO.tup xs) → x ≠ Dd := fun x xs e => ne_of e eD (by intro z; cases z)
          rcases List.mem_append.mp hr with h | h
          · rw [upd_ne (nD r _ (hrs r h))]
            exact Same.new hp _ _ (hrs r h)
          · rw [List.mem_singleton.mp h, upd_ne (ne_of_none eD hp).symm, upd_same]
            rfl
      · refine ⟨rs, eD, s1, hrs, by omega, fun h => hin ?_⟩
        rw [tk] at h
        rcases List.mem_append.mp h with h | h
        · exact h
        · exact absurd (by rw [List.mem_singleton.mp h]; exact decide_eq_true rfl) c
    · rintro H'' ⟨rs, eD, s1, hrs, lr, hin⟩
      have hne := hin (by rw [List.take_of_length_le (by omega)]; exact jin)
      cases rs with
      | nil => exact absurd rfl hne
      | cons r0 rr => exact ⟨Dd, _, 0, .ref r0, rfl, rfl, SqL.of eD, at0, q r0 H'' s1 (hrs r0 List.mem_cons_self)⟩
  · refine seq_if (b := false) (fun Q q => ⟨_, rfl, a, _, 0, .str nm, rfl, rfl, SqT.of ea, at0, rfl, _, rfl, by rw [dec_str, beq_eq_false_iff_ne.mpr kk.no]; exact q⟩) (fun z => nomatch z) (fun _ => ?_)
    refine ⟨_, rfl, a, _, 0, .str nm, rfl, rfl, SqT.of ea, at0, sz2, fun t1 h1 => ⟨t1, _, rfl, .inr (SqT.of upd_same), rfl, rfl, .inr ⟨_, rfl, ?_⟩⟩⟩
    have s1 : Same H (upd H t1 (.tup [.str "step", .str "end"])) := Same.new h1
    refine ⟨_, rfl, a, _, 0, .str nm, rfl, rfl, SqT.of (s1 _ _ ea), at0, sz2, fun t2 h2 => ⟨t2, _, rfl, .inr (SqT.of upd_same), rfl, rfl, .inr ⟨_, rfl, sz2, fun fd0 hf0 => ?_⟩⟩⟩
    have s2 : Same H (upd (upd H t1 (.tup [.str "step", .str "end"])) t2 (.tup [.str "seen", .str "behind"])) := s1.trans (Same.new h2)
    have hf00 : H fd0 = none := s2.free hf0
    have s3 : Same H (upd (upd (upd H t1 (.tup [.str "step", .str "end"])) t2 (.tup [.str "seen", .str "behind"])) fd0 (.lst [.int (n0 nm), .int (n1 nm)])) := s2.trans (Same.new hf0)
    dsimp only [gName]
    refine kids_ev (K := K) (d := d) rfl (s3 _ _ ea) (kk.keep (Same.tupK s3)) (fun kd kv ps H1 s4 ekd pk ee ew => ?_)
    have s5 := s3.trans s4
    have pk1 := paired_imp pk fun _ _ z => z.keep (Same.tupK s4)
    refine ⟨kd, rfl, ⟨_, SqT.of ekd⟩, for_tup (K := K) (a := kd) (xs := kv) (fun k σ H' => ∃ (f : Addr) (v3 v4 : Option V), σ = [some (.ref a), some (.ref u), some (.ref f), v3, v4, none] ∧ H' f = some (.lst [.int (n0 nm + ((ps.take k).map (·.1)).sum), .int (n1 nm + ((ps.take k).map (·.2)).sum)]) ∧ Same H1 H')
      ⟨fd0, none, none, rfl, by rw [List.take_zero, List.map_nil, List.map_nil, List.sum_nil, Int.add_zero, Int.add_zero]; exact s4 _ _ upd_same, Same.refl _⟩ (fun k σ H' _ ⟨_, _, _, _, _, s6⟩ => SqT.of (s6 _ _ ekd)) ?_ ?_⟩
    · rintro k x σ H' hk ⟨f, v3, v4, rfl, ef, s6⟩
      obtain ⟨p, ep, hp⟩ := paired_get' pk1 hk
      have hkl := (List.getElem?_eq_some_iff.mp ep).1
      have tk : ps.take (k + 1) = ps.take k ++ [p] := by rw [List.take_succ, ep]; rfl
      rcases hp with ⟨n, rfl, rfl⟩ | ⟨s', hs', ho', rfl⟩
      · refine one_if (b := false) (fun Q q => ⟨_, rfl, _, .ty "tuple", .type "int", .type "tuple", false, rfl, .ty _, .base (.int n), kit_ty (by decide +kernel), _, rfl, q⟩) (fun z => nomatch z) (fun _ => ?_)
        refine ⟨f, _, v4, rfl, ?_, s6⟩
        rw [tk]
        simpa using ef
      · obtain ⟨t, xs, rfl, et⟩ := hs'.ref
        have et' := s6 _ _ et
        refine one_if (b := true) (fun Q q => ⟨_, rfl, _, .ty "tuple", .type "tuple", .type "tuple", true, rfl, .ty _, .base (.tup et'), kit_ty (by decide +kernel), _, rfl, q⟩) (fun _ => ?_) (fun z => nomatch z)
        refine ⟨_, rfl, _, rfl, .ref t, u, s', rfl, SAt.keep (Same.tupK s6) _ _ _ hs', ho', hu.keep (s5.trans s6), fun p H2 s7 ep => ?_⟩
        have ef' := s7 _ _ ef
        refine ⟨_, rfl, f, _, 0, .int _, rfl, rfl, SqL.of ef', at0, _, rfl, p, _, 0, .int _, rfl, rfl, SqT.of ep, at0, _, _, rfl, rfl, _, rfl, f, _, 1, .int _, rfl, rfl, SqL.of ef', at1, _, rfl, p, _, 1, .int _, rfl, rfl, SqT.of ep, at1, _, _, rfl, rfl, sz2, fun f2 hf2 => ?_⟩
        refine ⟨f2, _, _, rfl, ?_, s6.trans (s7.trans (Same.new hf2))⟩
        rw [upd_same, tk]
        simp only [List.map_append, List.sum_append, List.map_cons, List.map_nil, List.sum_cons, List.sum_nil, Int.add_zero, Int.add_assoc]
    · rintro σ H' ⟨f, v3, v4, rfl, ef, s6⟩
      have lp := Paired.length pk
      rw [← lp, List.take_length, ← ee, ← ew] at ef
      exact ⟨_, rfl, f, _, rfl, .inl ⟨SqL.of ef, fun t ht => q t _ ((s5.trans s6).trans (Same.new ht)) upd_same⟩⟩
end
end MS
end
section
set_option maxRecDepth 100000
set_option maxHeartbeats 4000000
namespace MS
open PySem L2
theorem er_congr {i M : Nat} {c c' : Nat → Int} (h : ∀ j, i < j → j < M → c j = c' j) : ∀ (d : Nat) (s : Sch), OkS i M d s → er c d s = er c' d s
  | 0, _, o => by cases o
  | _ + 1, .step _ _, _ => rfl
  | d + 1, .all k, o => by
    show (k.map (er c d)).sum = (k.map (er c' d)).sum
    rw [List.map_congr_left fun s hs => er_congr h d s (o.2.2 s hs)]
  | d + 1, .best k, o => by
    show (k.map (er c d)).sum = (k.map (er c' d)).sum
    rw [List.map_congr_left fun s hs => er_congr h d s (o.2.2 s hs)]
  | d + 1, .most _ s, o => er_congr h d s o.2
  | d + 1, .half s, o => er_congr h d s o
  | d + 1, .seen _ s, o => er_congr h d s o.2
  | d + 1, .behind _ s, o => er_congr h d s o.2
  | d + 1, .carry s, o => er_congr h d s o
  | d + 1, .fin _ _ s, o => congrArg (1 + ·) (er_congr h d s o.2)
  | _ + 1, .use n, o => h n o.1 o.2
theorem wr_congr {i M : Nat} {c c' : Nat → Int} (h : ∀ j, i < j → j < M → c j = c' j) : ∀ (d : Nat) (s : Sch), OkS i M d s → wr c d s = wr c' d s
  | 0, _, o => by cases o
  | _ + 1, .step _ _, _ => rfl
  | d + 1, .all k, o => by
    show (k.map (wr c d)).sum = (k.map (wr c' d)).sum
    rw [List.map_congr_left fun s hs => wr_congr h d s (o.2.2 s hs)]
  | d + 1, .best k, o => by
    show (k.map (wr c d)).sum = (k.map (wr c' d)).sum
    rw [List.map_congr_left fun s hs => wr_congr h d s (o.2.2 s hs)]
  | d + 1, .most _ s, o => wr_congr h d s o.2
  | d + 1, .half s, o => wr_congr h d s o
  | d + 1, .seen _ s, o => congrArg (1 + ·) (wr_congr h d s o.2)
  | d + 1, .behind _ s, o => congrArg (1 + ·) (wr_congr h d s o.2)
  | d + 1, .carry s, o => wr_congr h d s o
  | d + 1, .fin _ _ s, o => wr_congr h d s o.2
  | _ + 1, .use n, o => h n o.1 o.2
/-- a paper stands in the heap -/
def PaperAt (H : Hp) (ps : List Sch) (v : V) : Prop := ∃ a vs, v = .ref a ∧ H a = some (.tup vs) ∧ Paired (SAt H 5) ps vs
theorem PaperAt.keep {H H' : Hp} {ps : List Sch} {v : V} (h : PaperAt H ps v) (k : TupK H H') : PaperAt H' ps v := by
  obtain ⟨a, vs, e, h1, h2⟩ := h
  exact ⟨a, vs, e, k _ _ h1, paired_imp h2 fun s v => SAt.keep k _ _ _⟩
/-- the later ones from the n-th on can be -/
def TailOk (ce cw : Nat → Int) (M n : Nat) (ps : List Sch) : Prop := ∀ k s, ps[k]? = some s → OkS (n + k) M 5 s ∧ ce (n + k) = er ce 5 s ∧ cw (n + k) = wr cw 5 s ∧ sz 5 s ≤ 12 ∧ er ce 5 s ≤ 7 ∧ wr cw 5 s ≤ 3
def PaperOk (ps : List Sch) : Prop := 0 < ps.length ∧ ps.length ≤ 5 ∧ ∃ ce cw : Nat → Int, TailOk ce cw ps.length 0 ps
theorem TailOk.cons {ce cw : Nat → Int} {M n : Nat} {ps : List Sch} {s : Sch} (h : TailOk ce cw M (n + 1) ps) (o : OkS n M 5 s) (hM : n + 1 + ps.length ≤ M) (h1 : sz 5 s ≤ 12) (h2 : er ce 5 s ≤ 7) (h3 : wr cw 5 s ≤ 3) :
    TailOk (fun j => if j = n then er ce 5 s else ce j) (fun j => if j = n then wr cw 5 s else cw j) M n (s :: ps) := by
  have key : ∀ i t, n ≤ i → OkS i M 5 t → er (fun j => if j = n then er ce 5 s else ce j) 5 t = er ce 5 t ∧ wr (fun j => if j = n then wr cw 5 s else cw j) 5 t = wr cw 5 t := fun i t hi ot =>
    ⟨er_congr (fun j hj _ => if_neg (by omega)) 5 t ot, wr_congr (fun j hj _ => if_neg (by omega)) 5 t ot⟩
  intro k t e
  cases k with
  | zero =>
    obtain rfl : s = t := by simpa using e
    obtain ⟨k1, k2⟩ := key n s (Nat.le_refl _) o
    rw [k1, k2]
    exact ⟨o, if_pos rfl, if_pos rfl, h1, h2, h3⟩
  | succ k =>
    obtain ⟨q1, q2, q3, q4, q5, q6⟩ := h k t (by simpa using e)
    have en : n + 1 + k = n + (k + 1) := by omega
    rw [en] at q1 q2 q3
    obtain ⟨k1, k2⟩ := key (n + (k + 1)) t (by omega) q1
    rw [k1, k2]
    exact ⟨q1, by rw [← q2]; exact if_neg (by omega), by rw [← q3]; exact if_neg (by omega), q4, q5, q6⟩
theorem fn_any {P : Program} {w : World} {K : PySem.W.Frag} {mg : Str → Option Value} {base : Heap} {ι : Type} {sp : ι → Sp} {k : Nat} {f : Addr} {fd : FuncData} {ps : List Str} (G : ∀ i, FnOk P w K mg base CX0 k f fd ps (sp i)) : FnOk P w K mg base CX0 k f fd ps (fun vs H Q E => ∃ i, sp i vs H Q E) :=
  ⟨fun vs H Q E ⟨i, h⟩ => (G i).1 vs H Q E h, fun A outer s H args us vs Q E a1 a2 a3 a4 ⟨i, h⟩ => (G i).2 A outer s H args us vs Q E a1 a2 a3 a4 h⟩
structure Gp where
  i : Nat
  M : Nat
  ce : Nat → Int
  cw : Nat → Int
theorem cut_to (xs : List V) (k : Nat) : cutV xs none (some (k : Int)) = xs.take k := by
  unfold cutV
  rw [HT.sIx_none, HT.sIx_nat, List.drop_zero, Nat.sub_zero]
  by_cases h : k ≤ xs.length
  · rw [Nat.min_eq_left h]
  · rw [Nat.min_eq_right (by omega), List.take_of_length_le (Nat.le_refl _), List.take_of_length_le (by omega)]
theorem cut_from (xs : List V) (k : Nat) : cutV xs (some (k : Int)) none = xs.drop k := by
  unfold cutV
  rw [HT.sIx_none, HT.sIx_nat]
  by_cases h : k ≤ xs.length
  · rw [Nat.min_eq_left h, List.take_of_length_le (by rw [List.length_drop]; exact Nat.le_refl _)]
  · rw [Nat.min_eq_right (by omega), List.drop_eq_nil_of_le (Nat.le_refl _), List.drop_eq_nil_of_le (by omega)]
    simp
/-- plain steps in a row -/
def StepR (H : Hp) (s : Sch) (v : V) : Prop := ∃ x p a, s = .step x p ∧ v = V.ref a ∧ H a = some (.tup [.str "step", .str x, .int p]) ∧ IsW x ∧ 1 ≤ p ∧ p ≤ 9
theorem StepR.keep {H H' : Hp} {s : Sch} {v : V} (h : StepR H s v) (k : TupK H H') : StepR H' s v := by
  obtain ⟨x, p, a, e1, e2, e3, r⟩ := h
  exact ⟨x, p, a, e1, e2, k _ _ e3, r⟩
theorem StepR.at {H : Hp} {s : Sch} {v : V} (h : StepR H s v) (d : Nat) : SAt H (d + 1) s v := by
  obtain ⟨x, p, a, rfl, e2, e3, r⟩ := h
  exact ⟨a, e2, e3⟩
theorem steps_ok {H : Hp} {i M : Nat} {ce cw : Nat → Int} (d : Nat) : ∀ {ss : List Sch} {vs : List V}, Paired (StepR H) ss vs → (∀ s ∈ ss, OkS i M (d + 1) s) ∧ (ss.map (sz (d + 1))).sum = ss.length ∧ (ss.map (er ce (d + 1))).sum = ss.length ∧ (ss.map (wr cw (d + 1))).sum = 0
  | _, _, .nil => ⟨(fun _ h => nomatch h), rfl, rfl, rfl⟩
  | _, _, .cons h t => by
    obtain ⟨h1, h2, h3, h4⟩ := steps_ok (i := i) (M := M) (ce := ce) (cw := cw) d t
    obtain ⟨x, p, a, rfl, _, _, r1, r2⟩ := h
    refine ⟨fun s' hs' => ?_, ?_, ?_, ?_⟩
    · rcases List.mem_cons.mp hs' with rfl | hs'
      · exact ⟨r1, r2⟩
      · exact h1 s' hs'
    · rw [List.map_cons, List.sum_cons, h2, List.length_cons]
      show (1 : Int) + _ = _
      omega
    · rw [List.map_cons, List.sum_cons, h3, List.length_cons]
      show (1 : Int) + _ = _
      omega
    · rw [List.map_cons, List.sum_cons, h4]
      rfl
theorem paired_take {α β : Type} {R : α → β → Prop} : ∀ {xs : List α} {ys : List β}, Paired R xs ys → ∀ n, Paired R (xs.take n) (ys.take n)
  | _, _, .nil, n => by simp; exact .nil
  | _, _, .cons r t, 0 => .nil
  | _, _, .cons r t, n + 1 => .cons r (paired_take t n)
theorem paired_drop {α β : Type} {R : α → β → Prop} : ∀ {xs : List α} {ys : List β}, Paired R xs ys → ∀ n, Paired R (xs.drop n) (ys.drop n)
  | _, _, .nil, n => by simp; exact .nil
  | _, _, .cons r t, 0 => .cons r t
  | _, _, .cons r t, n + 1 => paired_drop t n
theorem Keep.drop {b l m : Addr} {H H1 H2 : Hp} (k1 : Keep [b, l] H H1) (k2 : Keep [b, l, m] H1 H2) (hm : H m = none) : Keep [b, l] H H2 := fun a o e n => k2 a o (k1 a o e n) fun h => by
  have ne : a ≠ m := ne_of_none e hm
  simp only [List.mem_cons, List.not_mem_nil, or_false] at h n
  rcases h with h | h | h
  · exact n (.inl h)
  · exact n (.inr h)
  · exact ne h
theorem Keep.freeN {S : List Addr} {H H' : Hp} {m : Addr} (k : Keep S H H') (hm : H' m = none) (n : m ∉ S) : H m = none := by
  cases q : H m with
  | none => rfl
  | some o =>
    have z := k m o q n
    rw [hm] at z
    cases z
theorem pick3 {x y z r : Int} (h0 : 0 ≤ r) (h1 : r < 3) : ∃ w, atI [V.int x, V.int y, V.int z] r = some (.int w) ∧ (w = x ∨ w = y ∨ w = z) := by
  have e : r = 0 ∨ r = 1 ∨ r = 2 := by omega
  rcases e with rfl | rfl | rfl
  · exact ⟨x, at0, .inl rfl⟩
  · exact ⟨y, at1, .inr (.inl rfl)⟩
  · exact ⟨z, at2, .inr (.inr rfl)⟩
theorem pick2' {x y r : Int} (h0 : 0 ≤ r) (h1 : r < 2) : ∃ w, atI [V.int x, V.int y] r = some (.int w) ∧ (w = x ∨ w = y) := by
  have e : r = 0 ∨ r = 1 := by omega
  rcases e with rfl | rfl
  · exact ⟨x, at0, .inl rfl⟩
  · exact ⟨y, at1, .inr rfl⟩
def UseR (ce cw : Nat → Int) (H : Hp) (j : Nat) (v : V) : Prop := ∃ t, v = V.ref t ∧ H t = some (.tup [.int ((j : Nat) : Int), .int (ce j), .int (cw j)])
theorem use_other {ce cw : Nat → Int} {H : Hp} {n : Nat} {x y : Int} : ∀ {js : List Nat} {uv : List V}, Paired (UseR ce cw H) js uv → (∀ j ∈ js, j ≠ n) → Paired (UseR (fun j => if j = n then x else ce j) (fun j => if j = n then y else cw j) H) js uv
  | _, _, .nil, _ => .nil
  | _, _, .cons h t, al => .cons (by
      obtain ⟨t, e1, e2⟩ := h
      exact ⟨t, e1, by simp [e2, al _ List.mem_cons_self]⟩) (use_other t fun j hj => al j (List.mem_cons_of_mem _ hj))
theorem use_new {ce cw : Nat → Int} {H : Hp} {n : Nat} {x y : Int} {p : Addr} (h : H p = some (.tup [.int ((n : Nat) : Int), .int x, .int y])) : UseR (fun j => if j = n then x else ce j) (fun j => if j = n then y else cw j) H n (.ref p) :=
  ⟨p, rfl, by simp [h]⟩
theorem Box.tup {H H' : Hp} {b l : Addr} (B : Box H b l) (k : Keep [b, l] H H') : TupK H H' := k.tup fun a ha => by
  obtain ⟨_, ⟨n, e1⟩, ns, e2⟩ := B
  rcases List.mem_cons.mp ha with rfl | ha
  · exact ⟨_, e1⟩
  · rw [List.mem_singleton.mp ha]; exact ⟨_, e2⟩
def spPaper : Sp := fun vs H Q _ => ∃ (b l L : Addr) (F : List Str), vs = [.ref b, .ref L] ∧ Box H b l ∧ L ≠ b ∧ L ≠ l ∧ H L = some (.lst (F.map V.str)) ∧ (∀ x ∈ F, IsW x) ∧ 0 < F.length ∧ F.length ≤ 8 ∧
  ∀ (v : V) (ps : List Sch) (H' : Hp), PaperAt H' ps v → PaperOk ps → Box H' b l → Keep [b, l] H H' → Q v H'
abbrev nmPaper : List Str := ["_law_box", "_law_letters_here", "_law_left", "_law_words", "_law_turn", "_law_steps", "_law_whole", "_law_many", "_law_found", "_law_uses", "_law_number", "_law_scheme_here", "_law_word"]
section
variable {P : Program} {w : World} {K : PySem.W.Frag} {mg : Str → Option Value} {base : Heap}
theorem ok_counted {i M : Nat} {ce cw : Nat → Int} (D : Def K mg "_law_counted" s_L_counted psCounted) (mi : mg "int" = none) (mt : mg "tuple" = none) (mis : mg "isinstance" = none) : ∀ d : Nat, FnOk P w K mg base CX0 d D.f D.fd psCounted (spCounted K i M ce cw d)
  | 0 => by
    have no : ∀ vs H Q E, ¬ spCounted K i M ce cw 0 vs H Q E := fun vs H Q E h => by
      obtain ⟨v, u, s, _, h, _⟩ := h
      cases h
    exact ⟨fun vs H Q E h => absurd h (no vs H Q E), fun A outer s H args us vs Q E _ _ _ _ h => absurd h (no vs H Q E)⟩
  | d + 1 => counted_turn D mi mt mis (ok_counted D mi mt mis d)
theorem ok_paper (D : Def K mg "_law_paper" s_L_paper ["_law_box", "_law_letters_here"]) (DT : Def K mg "_law_take" s_L_take ["_law_box", "_law_many"]) (DS : Def K mg "_law_scheme" s_L_scheme psScheme) (DC : Def K mg "_law_counted" s_L_counted psCounted)
    (ml : mg "len" = none) (mr : mg "range" = none) (mt : mg "tuple" = none) (mi : mg "int" = none) (mis : mg "isinstance" = none) (mli : mg "list" = none) : FnOk P w K mg base CX0 7 D.f D.fd ["_law_box", "_law_letters_here"] spPaper := by
  have GT : FnOk P w K mg base CX0 1 DT.f DT.fd ["_law_box", "_law_many"] spTake := ok_take DT
  have GS : FnOk P w K mg base CX0 6 DS.f DS.fd psScheme (fun vs H Q E => ∃ g : Gp, spScheme g.i g.M g.ce g.cw 4 vs H Q E) := fn_any fun g => ok_scheme DS DT ml mr mt 4
  have GC : FnOk P w K mg base CX0 5 DC.f DC.fd psCounted (fun vs H Q E => ∃ g : Gp, spCounted K g.i g.M g.ce g.cw 5 vs H Q E) := fn_any fun g => ok_counted DC mi mt mis 5
  have nd := sc_L_paper.nd
  refine D.ok sc_L_paper (fun vs H Q E h => ?_) (fun cdv A outer s H vs Q E hr h => ?_)
  · obtain ⟨b, l, L, F, rfl, _⟩ := h
    rfl
  obtain ⟨b, l, L, F, rfl, B, nb, nl, eL, w1, l0, l1, q⟩ := h
  have hr1 : Room 1 _ := hr.mono (by decide)
  have hr5 : Room 5 _ := hr.mono (by decide)
  refine ⟨_, pss_cons (ps_if (pt_cmpR op_eq (pcall DT GT hr1 (pa_cons (pv 0) (pa_cons pe_int pa_nil))) pe_int (nomark _))
      (pss_cons (ps_par (i := 2) (j := 3) (by rfl) nd rfl rfl (by decide) rfl rfl (pa_cons (pe_callTy (cr_listStr rfl) rfl mli (by decide +kernel) (pa_cons pe_str pa_nil)) (pa_cons (pe_lst pa_nil) pa_nil)) (by rfl))
      (pss_cons (ps_for PassesOwn.never rfl (pi_range1 rfl mr (pa_cons (pe_op op_add pe_int (pcall DT GT hr1 (pa_cons (pv 0) (pa_cons pe_int pa_nil)))) pa_nil)) (pg_name (i := 4) nd rfl (Or.inl rfl))
        (pss_one (ps_expr (pe_bm PySem.F.plainAttrs_list PySem.F.slot_list_append PySem.F.type_list_append mt_append (pv 3)
          (pa_cons (pe_bm PySem.F.plainAttrs_list PySem.F.slot_list_pop PySem.F.type_list_pop mt_popAt (pv 2) (pa_cons (pcall DT GT hr1 (pa_cons (pv 0) (pa_cons (pe_callB call_len_seq rfl ml PySem.boot_len (pa_cons (pv 2) pa_nil)) pa_nil))) pa_nil)) pa_nil)))))
      (pss_cons (ps_setLc (i := 5) (own := [("_law_word", 12)]) (g := gName 12) (tt := tYes) rfl nd rfl rfl (sw_true rfl rfl rfl (by decide +kernel)) (pi_list (pe_slice sl_list (pv 3) po_none (po_some pe_int))) (blkOk_by (N := nmPaper) (sc := defScope s_L_paper) (by decide +kernel)) (fun _ _ _ _ _ => pg_name (i := 12) nd rfl (Or.inl rfl)) (fun _ _ _ _ _ => pts_nil)
          (fun _ _ _ _ _ => pe_tup (pa_cons pe_str (pa_cons (pv 12) (pa_cons (pe_op op_add pe_int (pcall DT GT hr1 (pa_cons (pv 0) (pa_cons pe_int pa_nil)))) pa_nil)))))
      (pss_cons (ps_set (i := 6) nd rfl (Or.inl rfl) (pe_tup (pa_cons pe_str (pa_cons (pe_tup (pa_cons (pe_tup (pa_cons pe_str (pa_cons (pe_callTy call_tuple_of rfl mt (by decide +kernel) (pa_cons (pe_slice sl_list (pv 5) po_none (po_some pe_int)) pa_nil)) pa_nil)))
          (pa_cons (pe_tup (pa_cons pe_str (pa_cons (pe_callTy call_tuple_of rfl mt (by decide +kernel) (pa_cons (pe_slice sl_list (pv 5) (po_some pe_int) po_none) pa_nil)) pa_nil))) pa_nil))) pa_nil))))
      (pss_one (ps_ret (pe_tup (pa_cons (pe_ifExp (pt_cmpR op_gt (pe_callB call_len_seq rfl ml PySem.boot_len (pa_cons (pv 3) pa_nil)) pe_int (nomark _)) (pe_tup (pa_cons pe_str (pa_cons (pe_ix ix_list (pv 3) pe_int (fun _ _ => rfl)) (pa_cons (pv 6) pa_nil)))) (pv 6)) pa_nil)))))))) pss_nil)
    (pss_cons (ps_set (i := 7) nd rfl (Or.inl rfl) (pe_op op_add pe_int (pe_ix ix_list (pe_lst (pa_cons pe_int (pa_cons (pcall DT GT hr1 (pa_cons (pv 0) (pa_cons pe_int pa_nil))) (pa_cons (pcall DT GT hr1 (pa_cons (pv 0) (pa_cons pe_int pa_nil))) pa_nil)))) (pcall DT GT hr1 (pa_cons (pv 0) (pa_cons pe_int pa_nil))) (fun _ _ => rfl))))
    (pss_cons (ps_par (i := 8) (j := 9) (by rfl) nd rfl rfl (by decide) rfl rfl (pa_cons (pe_lst pa_nil) (pa_cons (pe_lst pa_nil) pa_nil)) (by rfl))
    (pss_cons (ps_for PassesOwn.never rfl (pi_range3 rfl mr (pa_cons (pe_op op_sub (pv 7) pe_int) (pa_cons (pe_un un_neg pe_int) (pa_cons (pe_un un_neg pe_int) pa_nil)))) (pg_name (i := 10) nd rfl (Or.inl rfl))
      (pss_cons (ps_set (i := 2) nd rfl (Or.inl rfl) (pe_lst (pa_cons (pe_ix ix_list (pe_lst (pa_cons pe_int (pa_cons pe_int (pa_cons pe_int pa_nil)))) (pcall DT GT hr1 (pa_cons (pv 0) (pa_cons pe_int pa_nil))) (fun _ _ => rfl))
          (pa_cons (pe_ix ix_list (pe_lst (pa_cons pe_int (pa_cons pe_int (pa_cons pe_int pa_nil)))) (pcall DT GT hr1 (pa_cons (pv 0) (pa_cons pe_int pa_nil))) (fun _ _ => rfl))
          (pa_cons (pe_ix ix_list (pe_lst (pa_cons pe_int (pa_cons pe_int pa_nil))) (pcall DT GT hr1 (pa_cons (pv 0) (pa_cons pe_int pa_nil))) (fun _ _ => rfl)) pa_nil)))))
      (pss_cons (ps_set (i := 11) nd rfl (Or.inl rfl) (pcall DS GS hr (pa_cons (pv 0) (pa_cons (pv 1) (pa_cons (pv 2) (pa_cons pe_int (pa_cons (pv 9) pa_nil)))))))
      (pss_cons (ps_set (i := 8) nd rfl (Or.inl rfl) (pe_op op_cat (pe_lst (pa_cons (pv 11) pa_nil)) (pv 8)))
      (pss_one (ps_set (i := 9) nd rfl (Or.inl rfl) (pe_op op_cat (pv 9) (pe_lst (pa_cons (pe_op op_catA (pe_tup (pa_cons (pv 10) pa_nil)) (pe_callTy call_tuple_of rfl mt (by decide +kernel) (pa_cons (pcall DC GC hr5 (pa_cons (pv 11) (pa_cons (pv 9) pa_nil))) pa_nil))) pa_nil)))))))))
    (pss_one (ps_ret (pe_callTy call_tuple_of rfl mt (by decide +kernel) (pa_cons (pv 8) pa_nil))))))), ?_⟩
  refine ⟨_, rfl, b, l, 12, rfl, by decide, by decide, B, fun r0 H1 a0 a1 B1 k1 => ?_⟩
  have nin : ∀ {x : Addr}, x ≠ b ∧ x ≠ l → x ∉ [b, l] := fun {x} h => by simp [h.1, h.2]
  refine ⟨rfl, _, rfl, ?_⟩
  refine ite2 (fun _ => ?_) (fun _ => ?_)
  · -- a paper of many words
    refine ⟨_, rfl, by decide, fun p hp => ?_⟩
    rw [letters_of]
    refine ⟨Nat.zero_le _, fun f hf => ⟨_, _, rfl, ?_⟩⟩
    have npf : p ≠ f := ne_of_none upd_same hf
    have hpf : upd (upd H1 p (.lst (wordsL.map V.str))) f (.lst []) p = some (.lst (wordsL.map V.str)) := by rw [upd_ne npf]; exact upd_same
    have k2 : Keep [b, l] H1 (upd (upd H1 p (.lst (wordsL.map V.str))) f (.lst [])) := (Keep.new hp).trans (Keep.new hf)
    have hf0 : H1 f = none := (Same.new hp).free hf
    have nfb := B1.ne_new hf0
    have npb := B1.ne_new hp
    have B2 : Box (upd (upd H1 p (.lst (wordsL.map V.str))) f (.lst [])) b l := (B1.new hp).put nfb.1 nfb.2
    refine ⟨_, rfl, b, l, 3, rfl, by decide, by decide, B2, fun r H3 b0 b1 B3 k3 => ⟨_, _, rfl, rfl, _, rfl, by omega, by omega, ?_⟩⟩
    refine for_range (lo := 0) (n := (6 + r).toNat) (fun i σ H' => ∃ (W F : List Str) (v : Option V), σ = [some (.ref b), some (.ref L), some (.ref p), some (.ref f), v, none, none, none, none, none, none, none, none] ∧ H' p = some (.lst (W.map V.str)) ∧ H' f = some (.lst (F.map V.str)) ∧
        W.length + i = 8 ∧ F.length = i ∧ (∀ x ∈ W, IsW x) ∧ (∀ x ∈ F, IsW x) ∧ Box H' b l ∧ Keep [b, l] H1 H')
      ⟨wordsL, [], none, rfl, k3 _ _ hpf (nin npb), k3 _ _ upd_same (nin nfb), rfl, rfl, fun _ h => h, (fun _ h => nomatch h), B3, k2.trans k3⟩ ?_ ?_
    · rintro i σ H' hi ⟨W, F, v, rfl, e1, e2, l1, l2, w1, w2, B', k'⟩
      have hW : 0 < W.length := by omega
      refine ⟨_, rfl, .inl ⟨rfl, _, SqL.of e2⟩, _, rfl, .inl ⟨rfl, _, SqL.of e1⟩, _, rfl, _, rfl, p, _, rfl, .inl (SqL.of e1), b, l, _, rfl, (by rw [List.length_map]; omega), (by rw [List.length_map]; omega), B', fun r H2' r0 r1' B2' k2' => ?_⟩
      rw [List.length_map] at r1'
      have hr' : r.toNat < W.length := by omega
      have e1' := k2' _ _ e1 (nin npb)
      have e2' := k2' _ _ e2 (nin nfb)
      refine ⟨p, _, r, r.toNat, .str (W[r.toNat]'hr'), rfl, rfl, e1', by omega, by omega, seq_of r0 (by rw [List.length_map]; exact r1'), get_map V.str W hr', ?_⟩
      refine ⟨f, _, _, rfl, rfl, (by rw [upd_ne npf.symm]; exact e2'), (by rw [List.length_map]; exact small1000 (by omega)), ?_⟩
      refine ⟨W.eraseIdx r.toNat, F ++ [W[r.toNat]'hr'], _, rfl, ?_, ?_, ?_, ?_, fun x hx => w1 x (mem_eraseIdx hx), fun x hx => ?_, (B2'.put npb.1 npb.2).put nfb.1 nfb.2, ((k'.trans k2').newer hp).newer hf0⟩
      · rw [upd_ne npf, upd_same, map_erase]
      · rw [upd_same, List.map_append]
        rfl
      · rw [List.length_eraseIdx_of_lt hr']
        omega
      · rw [List.length_append, l2]
        rfl
      · rcases List.mem_append.mp hx with hx | hx
        · exact w2 x hx
        · rw [List.mem_singleton.mp hx]
          exact w1 _ (List.getElem_mem hr')
    · rintro σ H4 ⟨W, F, v, rfl, e1, e2, l1, l2, w1, w2, B4, k4⟩
      have F6 : 6 ≤ F.length ∧ F.length ≤ 8 := by omega
      refine ⟨_, rfl, 7, rfl, f, _, rfl, SqL.of e2, fun q1 hq1 => ?_⟩
      have ec : cutV (F.map V.str) none (some 7) = (F.take 7).map V.str := by rw [List.map_take]; exact cut_to _ 7
      rw [ec]
      refine ⟨q1, rfl, ⟨_, SqL.of upd_same⟩, fun Dd hD => ?_⟩
      have nqD : q1 ≠ Dd := ne_of_none upd_same hD
      have B5 := B4.new (o := .lst ((F.take 7).map V.str)) hq1
      have hD4 : H4 Dd = none := (Same.new hq1).free hD
      have k5 : Keep [b, l] H1 (upd (upd H4 q1 (.lst ((F.take 7).map V.str))) Dd (.lst [])) := k4.trans ((Keep.new hq1).trans (Keep.new hD))
      have nDb := B4.ne_new hD4
      refine lc_list (K := K) (a := q1) (xs := (F.take 7).map V.str) (fun k H'' => ∃ (ss : List Sch) (vs' : List V), H'' Dd = some (.lst vs') ∧ ss.length = k ∧ Paired (StepR H'') ss vs' ∧ Box H'' b l ∧ Keep [b, l] (upd H4 q1 (.lst ((F.take 7).map V.str))) H'')
        ⟨[], [], upd_same, rfl, .nil, B5.put nDb.1 nDb.2, Keep.new hD⟩ (fun k H'' _ ⟨_, _, _, _, _, _, kk⟩ => SqL.of (kk _ _ upd_same (B4.nin hq1))) ?_ ?_
      · rintro k x H'' hk ⟨ss, vs', eD, ls, pw, B6, k6⟩
        obtain ⟨y, hy, rfl⟩ := List.mem_map.mp (List.mem_of_getElem? hk)
        have yw := w2 y (List.mem_of_mem_take hy)
        have hkl := (List.getElem?_eq_some_iff.mp hk).1
        rw [List.length_map, List.length_take] at hkl
        refine ⟨rfl, _, rfl, _, rfl, b, l, 9, rfl, by decide, by decide, B6, fun r H7 c0 c1 B7 k7 => ⟨_, _, rfl, rfl, (by show 3 ≤ sizeLine; decide), fun t ht => ?_⟩⟩
        have eD7 := k7 _ _ eD (nin nDb)
        have nDt : Dd ≠ t := ne_of_none eD7 ht
        have lv := Paired.length pw
        have t7 : TupK H'' H7 := k7.tup fun a ha => by
          obtain ⟨_, ⟨n, e1⟩, ns, e2⟩ := B6
          rcases List.mem_cons.mp ha with rfl | ha
          · exact ⟨_, e1⟩
          · rw [List.mem_singleton.mp ha]; exact ⟨_, e2⟩
        have eD8 : upd H7 t (.tup [.str "step", .str y, .int (1 + r)]) Dd = some (.lst vs') := by rw [upd_ne nDt]; exact eD7
        have t8 : TupK H7 (upd (upd H7 t (.tup [.str "step", .str y, .int (1 + r)])) Dd (.lst (vs' ++ [.ref t]))) := (TupK.new ht).trans (TupK.put eD8)
        refine ⟨vs', eD8, small1000 (by omega), ss ++ [.step y (1 + r)], vs' ++ [.ref t], upd_same, by simp [ls], paired_snoc (paired_imp pw fun s' v' h => h.keep (t7.trans t8)) ⟨y, 1 + r, t, rfl, rfl, by rw [upd_ne nDt.symm]; exact upd_same, yw, by omega, by omega⟩, ((B7.new ht).put nDb.1 nDb.2), ?_⟩
        exact ((k6.trans k7).trans (Keep.new ht)).newer (by rw [upd_ne (ne_of_none upd_same hD).symm] <;> exact hD4)
      · rintro H5 ⟨ss, vs', eD, ls, pw, B6, k6⟩
        rw [List.length_map, List.length_take] at ls
        have k4' : Keep [b, l] H4 H5 := (Keep.new hq1).trans k6
        have e2' := k4' _ _ e2 (nin nfb)
        dsimp only [gName]
        refine ⟨_, rfl, 4, rfl, Dd, _, rfl, SqL.of eD, fun s2 hs2 => ⟨s2, _, rfl, .inl ⟨SqL.of upd_same, fun t2 ht2 => ⟨sz2, fun A1 hA1 => ?_⟩⟩⟩⟩
        have eDx := Same.new (o := .tup [.str "all", .ref t2]) hA1 _ _ (Same.new (o := .tup (cutV vs' none (some 4))) ht2 _ _ (Same.new (o := .lst (cutV vs' none (some 4))) hs2 _ _ eD))
        refine ⟨_, rfl, 4, rfl, Dd, _, rfl, SqL.of eDx, fun s3 hs3 => ⟨s3, _, rfl, .inl ⟨SqL.of upd_same, fun t3 ht3 => ⟨sz2, fun A2 hA2 => ⟨sz2, fun A3 hA3 => ⟨sz2, fun A4 hA4 => ?_⟩⟩⟩⟩⟩⟩
        have c1 : cutV vs' none (some 4) = vs'.take 4 := cut_to _ 4
        have c2 : cutV vs' (some 4) none = vs'.drop 4 := cut_from _ 4
        have o4 := Same.new (o := .tup [.str "all", .ref A3]) hA4
        have o3 := (Same.new (o := .tup [.ref A1, .ref A2]) hA3).trans o4
        have o2 := (Same.new (o := .tup [.str "best", .ref t3]) hA2).trans o3
        have ot3 := (Same.new (o := .tup (cutV vs' (some 4) none)) ht3).trans o2
        have os3 := (Same.new (o := .lst (cutV vs' (some 4) none)) hs3).trans ot3
        have o1 := (Same.new (o := .tup [.str "all", .ref t2]) hA1).trans os3
        have ot2 := (Same.new (o := .tup (cutV vs' none (some 4))) ht2).trans o1
        have o5 := (Same.new (o := .lst (cutV vs' none (some 4))) hs2).trans ot2
        have f3 := o4 _ _ (upd_same (a := A3) (o := .tup [.ref A1, .ref A2]))
        have f2 := o3 _ _ (upd_same (a := A2) (o := .tup [.str "best", .ref t3]))
        have ft3 := o2 _ _ (upd_same (a := t3) (o := .tup (cutV vs' (some 4) none)))
        have f1 := os3 _ _ (upd_same (a := A1) (o := .tup [.str "all", .ref t2]))
        have ft2 := o1 _ _ (upd_same (a := t2) (o := .tup (cutV vs' none (some 4))))
        dsimp only [gName]
        have e2f := o5 _ _ e2'
        have lF : (F.map V.str).length = F.length := List.length_map _
        have ss6 : 6 ≤ ss.length ∧ ss.length ≤ 7 := by omega
        have pwA := paired_take pw 4
        have pwB := paired_drop pw 4
        have B8 : Box _ b l := B6.keep (S := []) (fun a o e _ => o5 _ _ e) (by simp) (by simp)
        have k8 : Keep [b, l] H _ := k1.trans (k4.trans (k4'.trans (fun a o e _ => o5 _ _ e)))
        -- the whole, at any depth
        have wholeAt : ∀ (d : Nat) (Hf : Hp), TupK _ Hf → SAt Hf (d + 3) (.all [.all (ss.take 4), .best (ss.drop 4)]) (.ref A4) := fun d Hf kt =>
          ⟨A4, A3, _, rfl, kt _ _ upd_same, kt _ _ f3, .cons ⟨A1, t2, _, rfl, kt _ _ f1, (show Hf t2 = some (.tup (vs'.take 4)) by rw [← c1]; exact kt _ _ ft2), paired_imp pwA fun s' v' h => ((h.keep (Same.tupK o5)).keep kt).at d⟩ (.cons ⟨A2, t3, _, rfl, kt _ _ f2, (show Hf t3 = some (.tup (vs'.drop 4)) by rw [← c2]; exact kt _ _ ft3), paired_imp pwB fun s' v' h => ((h.keep (Same.tupK o5)).keep kt).at d⟩ .nil)⟩
        have wholeOk : ∀ d, OkS 0 1 (d + 3) (.all [.all (ss.take 4), .best (ss.drop 4)]) ∧ sz (d + 3) (.all [.all (ss.take 4), .best (ss.drop 4)]) ≤ 10 ∧ er (fun _ => 0) (d + 3) (.all [.all (ss.take 4), .best (ss.drop 4)]) ≤ 7 ∧ wr (fun _ => 0) (d + 3) (.all [.all (ss.take 4), .best (ss.drop 4)]) = 0 := fun d => by
          obtain ⟨a1, a2, a3, a4⟩ := steps_ok (i := 0) (M := 1) (ce := fun _ => 0) (cw := fun _ => 0) d pwA
          obtain ⟨d1, d2, d3, d4⟩ := steps_ok (i := 0) (M := 1) (ce := fun _ => 0) (cw := fun _ => 0) d pwB
          rw [List.length_take] at a2 a3
          rw [List.length_drop] at d2 d3
          have lA : (ss.take 4).length = 4 := by rw [List.length_take]; omega
          have lB : (ss.drop 4).length = ss.length - 4 := List.length_drop
          refine ⟨⟨by simp, by simp, fun s' hs' => ?_⟩, ?_, ?_, ?_⟩
          · rcases List.mem_cons.mp hs' with rfl | hs'
            · exact ⟨by omega, by omega, a1⟩
            · rw [List.mem_singleton.mp hs']
              exact ⟨by omega, by omega, d1⟩
          · show 1 + ((1 + ((ss.take 4).map (sz (d + 1))).sum) + ((1 + ((ss.drop 4).map (sz (d + 1))).sum) + 0)) ≤ 10
            omega
          · show (((ss.take 4).map (er (fun _ => 0) (d + 1))).sum) + ((((ss.drop 4).map (er (fun _ => 0) (d + 1))).sum) + 0) ≤ 7
            omega
          · show (((ss.take 4).map (wr (fun _ => 0) (d + 1))).sum) + ((((ss.drop 4).map (wr (fun _ => 0) (d + 1))).sum) + 0) = 0
            omega
        refine ⟨_, rfl, f, _, rfl, .inl (SqL.of e2f), _, _, rfl, rfl, _, rfl, ?_⟩
        refine ite2 (fun c => ?_) (fun c => ?_)
        · have c8 : 7 < F.length := by
            have z := of_decide_eq_true c
            rw [lF] at z
            omega
          refine ⟨_, rfl, f, _, 7, .str (F[7]'c8), rfl, rfl, SqL.of e2f, at_of (j := 7) rfl (get_map V.str F c8), _, rfl, (by show 3 ≤ sizeLine; decide), fun A5 hA5 => ?_⟩
          refine ⟨(by show 1 ≤ sizeLine; decide), fun R hR => ?_⟩
          have oR := (Same.new (o := .tup [.str "seen", .str (F[7]'c8), .ref A4]) hA5).trans (Same.new (o := .tup [.ref A5]) hR)
          obtain ⟨w1', w2', w3', w4'⟩ := wholeOk 1
          refine q (.ref R) [.seen (F[7]'c8) (.all [.all (ss.take 4), .best (ss.drop 4)])] _ ⟨R, _, rfl, upd_same, .cons ⟨A5, _, rfl, Same.new hR _ _ upd_same, wholeAt 1 _ (Same.tupK oR)⟩ .nil⟩ ⟨by simp, by simp, fun _ => er (fun _ => 0) 5 (.seen (F[7]'c8) (.all [.all (ss.take 4), .best (ss.drop 4)])), fun _ => wr (fun _ => 0) 5 (.seen (F[7]'c8) (.all [.all (ss.take 4), .best (ss.drop 4)])), ?_⟩
            (B8.keep (S := []) (fun a o e _ => oR _ _ e) (by simp) (by simp)) (k8.trans (fun a o e _ => oR _ _ e))
          intro k s' hk
          cases k with
          | succ k => simp at hk
          | zero =>
            obtain rfl : _ = s' := by simpa using hk
            have o := (show OkS 0 1 5 (.seen (F[7]'c8) (.all [.all (ss.take 4), .best (ss.drop 4)])) from ⟨w2 _ (List.getElem_mem c8), w1'⟩)
            refine ⟨o, (er_congr (fun j h1 h2 => by omega) 5 _ o), (wr_congr (fun j h1 h2 => by omega) 5 _ o), ?_, ?_, ?_⟩
            · show 1 + sz (1 + 3) _ ≤ 12
              omega
            · rw [er_congr (c' := fun _ => 0) (fun j h1 h2 => by omega) 5 _ o]
              exact w3'
            · rw [wr_congr (c' := fun _ => 0) (fun j h1 h2 => by omega) 5 _ o]
              show 1 + wr (fun _ => 0) (1 + 3) _ ≤ 3
              omega
        · refine ⟨_, rfl, (by show 1 ≤ sizeLine; decide), fun R hR => ?_⟩
          have oR := (Same.new (o := .tup [.ref A4]) hR)
          obtain ⟨w1', w2', w3', w4'⟩ := wholeOk 2
          refine q (.ref R) [.all [.all (ss.take 4), .best (ss.drop 4)]] _ ⟨R, _, rfl, upd_same, .cons (wholeAt 2 _ (Same.tupK oR)) .nil⟩ ⟨by simp, by simp, fun _ => er (fun _ => 0) 5 (.all [.all (ss.take 4), .best (ss.drop 4)]), fun _ => wr (fun _ => 0) 5 (.all [.all (ss.take 4), .best (ss.drop 4)]), ?_⟩
            (B8.keep (S := []) (fun a o e _ => oR _ _ e) (by simp) (by simp)) (k8.trans (fun a o e _ => oR _ _ e))
          intro k s' hk
          cases k with
          | succ k => simp at hk
          | zero =>
            obtain rfl : _ = s' := by simpa using hk
            refine ⟨w1', (er_congr (fun j h1 h2 => by omega) 5 _ w1'), (wr_congr (fun j h1 h2 => by omega) 5 _ w1'), Int.le_trans w2' (by decide), ?_, ?_⟩
            · rw [er_congr (c' := fun _ => 0) (fun j h1 h2 => by omega) 5 _ w1']
              exact w3'
            · rw [wr_congr (c' := fun _ => 0) (fun j h1 h2 => by omega) 5 _ w1']
              exact Int.le_trans (Int.le_of_eq w4') (by decide)
  · refine ⟨_, rfl, b, l, 3, rfl, by decide, by decide, B1, fun r1 H2 b0 b1 B2 k2 => ?_⟩
    refine ⟨_, rfl, b, l, 5, rfl, by decide, by decide, B2, fun r2 H3 c0 c1 B3 k3 => ⟨(by show 3 ≤ sizeLine; decide), fun T hT => ?_⟩⟩
    refine ⟨_, rfl, b, l, 3, rfl, by decide, by decide, B3.new hT, fun r3 H4 d0 d1 B4 k4 => ?_⟩
    have eT := k4 _ _ upd_same (B3.nin hT)
    obtain ⟨mm, em, hmm⟩ := pick3 (x := 0) (y := r1) (z := r2) d0 d1
    have mm0 : 0 ≤ mm ∧ mm ≤ 4 := by omega
    refine ⟨T, _, r3, .int mm, rfl, rfl, SqL.of eT, em, _, _, rfl, rfl, ?_⟩
    have kk4 : Keep [b, l] H H4 := k1.trans (k2.trans (k3.trans ((Keep.new hT).trans k4)))
    refine ⟨Nat.zero_le _, fun f0 hf0 => ⟨Nat.zero_le _, fun u0 hu0 => ⟨_, _, rfl, ?_⟩⟩⟩
    have hu00 : H4 u0 = none := (Same.new hf0).free hu0
    have nfu : f0 ≠ u0 := ne_of_none upd_same hu0
    have B5 := (B4.new (o := .lst []) hf0).new (o := .lst []) hu0
    have kk5 : Keep [b, l] H (upd (upd H4 f0 (.lst [])) u0 (.lst [])) := kk4.trans ((Keep.new hf0).trans (Keep.new hu0))
    have hM : ∃ M : Nat, (M : Int) = 1 + mm := ⟨(1 + mm).toNat, by omega⟩
    obtain ⟨M, eM⟩ := hM
    refine ⟨_, rfl, _, _, rfl, rfl, 1, rfl, 1, rfl, 1 + mm - 1, -1, -1, (1 + mm - 1 - -1).toNat, rfl, RgC.neg (by omega) (by omega) (by decide) (by decide), ?_⟩
    have en : (1 + mm - 1 - -1).toNat = M := by omega
    rw [en]
    refine for_rangeC (lo := 1 + mm - 1) (c := -1) (n := M) (fun k σ H' => ∃ (f u : Addr) (vs : List V) (ps : List Sch) (js : List Nat) (uv : List V) (ce cw : Nat → Int) (v2 v10 v11 : Option V), σ = [some (.ref b), some (.ref L), v2, none, none, none, none, some (.int (1 + mm)), some (.ref f), some (.ref u), v10, v11, none] ∧
        H' f = some (.lst vs) ∧ H' u = some (.lst uv) ∧ (u ≠ b ∧ u ≠ l) ∧ (f ≠ b ∧ f ≠ l) ∧ Paired (SAt H' 5) ps vs ∧ ps.length = k ∧ k ≤ M ∧ TailOk ce cw M (M - k) ps ∧ Paired (UseR ce cw H') js uv ∧ (∀ j, j ∈ js ↔ M - k ≤ j ∧ j < M) ∧ js.length = k ∧ Box H' b l ∧ Keep [b, l] H H')
      ⟨f0, u0, [], [], [], [], fun _ => 0, fun _ => 0, none, none, none, rfl, by rw [upd_ne nfu]; exact upd_same, upd_same, B4.ne_new hu00, B4.ne_new hf0, .nil, rfl, Nat.zero_le _, (fun k s h => by simp at h), .nil, (fun j => ⟨(fun h => nomatch h), fun h => by omega⟩), rfl, B5, kk5⟩ ?_ ?_
    · rintro k σ H' hk ⟨f, u, vs, ps, js, uv, ce, cw, v2, v10, v11, rfl, ef, eu, nu, nf, pp, lp, kM, tl, pu, iff, lj, B', k'⟩
      refine ⟨(by show 3 ≤ sizeLine; decide), fun T1 hT1 => ⟨_, rfl, b, l, 3, rfl, by decide, by decide, B'.new hT1, fun q1 H5 _ _ B5 k5 => ?_⟩⟩
      have eT1 := k5 _ _ upd_same (B'.nin hT1)
      obtain ⟨x, ex, hx⟩ := pick3 (x := 4) (y := 8) (z := 12) (r := q1) (by assumption) (by assumption)
      refine ⟨T1, _, q1, .int x, rfl, rfl, SqL.of eT1, ex, ?_⟩
      refine ⟨(by show 3 ≤ sizeLine; decide), fun T2 hT2 => ⟨_, rfl, b, l, 3, rfl, by decide, by decide, B5.new hT2, fun q2 H6 g0 g1 B6 k6 => ?_⟩⟩
      have eT2 := k6 _ _ upd_same (B5.nin hT2)
      obtain ⟨y, ey, hy⟩ := pick3 (x := 2) (y := 4) (z := 7) (r := q2) g0 g1
      refine ⟨T2, _, q2, .int y, rfl, rfl, SqL.of eT2, ey, ?_⟩
      refine ⟨sz2, fun T3 hT3 => ⟨_, rfl, b, l, 2, rfl, by decide, by decide, B6.new hT3, fun q3 H7 h0 h1 B7 k7 => ?_⟩⟩
      have eT3 := k7 _ _ upd_same (B6.nin hT3)
      obtain ⟨z, ez, hz⟩ := pick2' (x := 1) (y := 3) (r := q3) h0 h1
      refine ⟨T3, _, q3, .int z, rfl, rfl, SqL.of eT3, ez, ?_⟩
      refine ⟨(by show 3 ≤ sizeLine; decide), fun m hm => ?_⟩
      have kk7 : Keep [b, l] H' H7 := (Keep.new hT1).trans (k5.trans ((Keep.new hT2).trans (k6.trans ((Keep.new hT3).trans k7))))
      have B8 := B7.new (o := .lst [.int x, .int y, .int z]) hm
      have kk8 : Keep [b, l] H' (upd H7 m (.lst [.int x, .int y, .int z])) := kk7.trans (Keep.new hm)
      have t8 := B'.tup kk8
      have eu8 := kk8 _ _ eu (nin nu)
      have nmb := B7.ne_new hm
      have eL7 := (k'.trans kk7) _ _ eL (nin ⟨nb, nl⟩)
      have eu7 := kk7 _ _ eu (nin nu)
      have nLm : L ≠ m := ne_of_none eL7 hm
      have num : u ≠ m := ne_of_none eu7 hm
      have pu8 : Paired (UseR ce cw (upd H7 m (.lst [.int x, .int y, .int z]))) js uv := paired_imp pu fun j v ⟨t, e1, e2⟩ => ⟨t, e1, t8 _ _ e2⟩
      have jM : js.length ≤ 5 := by omega
      have g : GenAt (M - 1 - k) M ce cw (upd H7 m (.lst [.int x, .int y, .int z])) b l L m u F x y z :=
        ⟨B8, upd_same, by rw [upd_ne nLm]; exact eL7, w1, l0, l1, ⟨js, uv, eu8, jM, fun j hj => (by have := (iff j).mp hj; omega), pu8⟩, nmb, by simp [nb, nl, nLm], by simp [nu.1, nu.2, num]⟩
      dsimp only [gName]
      refine ⟨_, rfl, _, rfl, _, rfl, _, rfl, ⟨M - 1 - k, M, ce, cw⟩, b, l, L, m, u, F, x, y, z, rfl, g, by omega, by omega, by omega, fun v s H9 x' y' z' sa so e1 e2 e3 p1 p2 p3 el B9 k9 => ?_⟩
      have g9 := g.move k9 B9 el
      have hm' : H' m = none := kk7.freeN hm (nin nmb)
      have k10 : Keep [b, l] H' H9 := Keep.drop kk8 k9 hm'
      have t10 := B'.tup k10
      have ef10 := k10 _ _ ef (nin nf)
      have eu10 := k10 _ _ eu (nin nu)
      have lv := Paired.length pp
      have lu := Paired.length pu
      dsimp only [gName]
      refine ⟨_, rfl, (by show 1 ≤ sizeLine; decide), fun X1 hX1 => ⟨_, rfl, X1, f, _, _, rfl, rfl, upd_same, Same.new hX1 _ _ ef10, szN (by simp only [List.length_cons, List.length_nil]; omega), fun f2 hf2 => ?_⟩⟩
      have o1 := (Same.new (o := .lst [v]) hX1).trans (Same.new (o := .lst ([v] ++ vs)) hf2)
      refine ⟨_, rfl, _, rfl, (by show 1 ≤ sizeLine; decide), fun t1 ht1 => ?_⟩
      have o2 := o1.trans (Same.new (o := .tup [.int (1 + mm - 1 + ((k : Nat) : Int) * -1)]) ht1)
      have eNum : 1 + mm - 1 + ((k : Nat) : Int) * -1 = ((M - 1 - k : Nat) : Int) := by omega
      refine ⟨_, rfl, _, rfl, ⟨M - 1 - k, M, ce, cw⟩, v, u, s, rfl, SAt.keep (Same.tupK o2) _ _ _ sa, so, ⟨js, uv, o2 _ _ eu10, jM, fun j h1 h2 => (iff j).mpr ⟨by have h1' : M - 1 - k < j := h1; omega, h2⟩, paired_imp pu fun j v ⟨t, e1, e2⟩ => ⟨t, e1, (Same.tupK o2) _ _ (t10 _ _ e2)⟩⟩, fun p H6 s6 ep => ?_⟩
      have o3 := o2.trans s6
      refine ⟨p, _, rfl, .inr ⟨SqT.of ep, t1, p, _, _, rfl, rfl, SqT.of (s6 _ _ upd_same), SqT.of ep, (by show 3 ≤ sizeLine; decide), (fun z => nomatch z), (fun _ z => nomatch z), fun _ _ p2 hp2 => ⟨(by show 1 ≤ sizeLine; decide), fun w1 hw1 => ?_⟩⟩⟩
      have o4 := (Same.new (o := .tup ([.int (1 + mm - 1 + ((k : Nat) : Int) * -1)] ++ [.int (er ce 5 s), .int (wr cw 5 s)])) hp2)
      have o5 := o4.trans (Same.new (o := .lst [.ref p2]) hw1)
      refine ⟨u, w1, _, _, rfl, rfl, o5 _ _ (o3 _ _ eu10), upd_same, szN (by simp only [List.length_cons, List.length_nil]; omega), fun u2 hu2 => ?_⟩
      have o6 := o5.trans (Same.new (o := .lst (uv ++ [.ref p2])) hu2)
      have oAll := o3.trans o6
      have tAll := Same.tupK oAll
      have B10 := B9.keep (S := []) (fun a o e _ => oAll _ _ e) (by simp) (by simp)
      have kAll : Keep [b, l] H' _ := k10.trans (fun a o e _ => oAll _ _ e)
      have hN : M - (k + 1) = M - 1 - k := by omega
      have hN1 : M - 1 - k + 1 = M - k := by omega
      have e1' : sz 5 s = x - x' := e1
      have e2' : er ce 5 s = y - y' := e2
      have e3' : wr cw 5 s = z - z' := e3
      have tl0 : TailOk ce cw M (M - 1 - k + 1) ps := by rw [hN1]; exact tl
      have tl' := TailOk.cons (n := M - 1 - k) (s := s) tl0 so (show M - 1 - k + 1 + ps.length ≤ M by omega) (show sz 5 s ≤ 12 by omega) (show er ce 5 s ≤ 7 by omega) (show wr cw 5 s ≤ 3 by omega)
      have f2b := B9.ne_new (hX1 : H9 X1 = none)
      refine ⟨f2, u2, [v] ++ vs, s :: ps, js ++ [M - 1 - k], uv ++ [.ref p2], _, _, _, _, _, rfl, ?_, upd_same, ?_, ?_, ?_, by simp only [List.length_cons]; omega, by omega, by rw [hN]; exact tl', ?_, fun j => ?_, by simp only [List.length_append, List.length_cons, List.length_nil]; omega, B10, k'.trans kAll⟩
      · exact (Same.new (o := .tup [.int (1 + mm - 1 + ((k : Nat) : Int) * -1)]) ht1).trans (s6.trans o6) _ _ upd_same
      · exact (B9.keep (S := []) (fun a o e _ => o3.trans o5 _ _ e) (by simp) (by simp)).ne_new hu2
      · exact (B9.new (o := .lst [v]) hX1).ne_new hf2
      · exact .cons (SAt.keep tAll _ _ _ sa) (paired_imp pp fun s' v' h => SAt.keep (t10.trans tAll) _ _ _ h)
      · have al : ∀ j ∈ js, j ≠ M - 1 - k := fun j hj => by have := (iff j).mp hj; omega
        have z := ((Same.new (o := .lst [.ref p2]) hw1).trans (Same.new (o := .lst (uv ++ [.ref p2])) hu2)) _ _ (upd_same (a := p2) (o := .tup ([.int (1 + mm - 1 + ((k : Nat) : Int) * -1)] ++ [.int (er ce 5 s), .int (wr cw 5 s)])))
        have z2 := z.trans (by rw [eNum]; rfl : some (HO.tup ([V.int (1 + mm - 1 + ((k : Nat) : Int) * -1)] ++ [V.int (er ce 5 s), V.int (wr cw 5 s)])) = some (.tup [V.int ((M - 1 - k : Nat) : Int), V.int (er ce 5 s), V.int (wr cw 5 s)]))
        exact paired_snoc (use_other (paired_imp pu fun j v ⟨t, e1, e2⟩ => ⟨t, e1, tAll _ _ (t10 _ _ e2)⟩) al) (use_new z2)
      · rw [List.mem_append, List.mem_singleton, iff j]
        omega
    · rintro σ H' ⟨f, u, vs, ps, js, uv, ce, cw, v2, v10, v11, rfl, ef, eu, nu, nf, pp, lp, kM, tl, pu, iff, lj, B', k'⟩
      refine ⟨_, rfl, f, _, rfl, .inl ⟨SqL.of ef, fun t ht => ?_⟩⟩
      refine q (.ref t) ps _ ⟨t, vs, rfl, upd_same, paired_imp pp fun s v h => SAt.keep (TupK.new ht) _ _ _ h⟩ ⟨by omega, by omega, ce, cw, ?_⟩ (B'.new ht) (k'.trans (Keep.new ht))
      rw [lp]
      rw [Nat.sub_self] at tl
      exact tl
end
end MS
end
section
set_option maxRecDepth 100000
set_option maxHeartbeats 4000000
namespace MS
open PySem L2
def shapesL : List (Str × List Str) := [("step", ["word", "points"]), ("all", ["schemes"]), ("best", ["schemes"]), ("most", ["limit", "scheme"]), ("half", ["scheme"]), ("seen", ["word", "scheme"]), ("behind", ["word", "scheme"]), ("carry", ["scheme"]), ("end", ["word", "points", "scheme"]), ("use", ["later"])]
def freeL : List Str := ["len", "list", "range", "tuple", "int", "isinstance", "any", "all", "zip", "enumerate", "str", "bool", "min", "max", "sum", "sorted", "set", "reversed"]
/-- what the program's top leaves -/
structure PTx (w : World) (K : PySem.W.Frag) (mg : Str → Option Value) : Prop where
  words : ∃ a, mg "WORDS" = some (.ref a) ∧ ∀ H, SqT K H a (wordsL.map V.str)
  right : ∃ t, mg "RIGHT" = some (.str "r" t)
  wrong : ∃ t, mg "WRONG" = some (.str "w" t)
  carried : ∃ t, mg "CARRIED" = some (.str "c" t)
  mostSteps : ∃ t, mg "MOST_STEPS" = some (.int 12 t)
  mostWithin : ∃ t, mg "MOST_WITHIN" = some (.int 4 t)
  mostInPaper : ∃ t, mg "MOST_IN_PAPER" = some (.int 5 t)
  mostInScheme : ∃ t, mg "MOST_IN_SCHEME" = some (.int 12 t)
  longest : ∃ t, mg "LONGEST_PLACE" = some (.int 4 t)
  mostE : ∃ t, mg "MOST_EARNERS" = some (.int 7 t)
  mostW : ∃ t, mg "MOST_WATCHERS" = some (.int 3 t)
  earners : ∃ a, mg "EARNERS" = some (.ref a) ∧ ∀ H, SqT K H a [.str "step", .str "end"]
  watchers : ∃ a, mg "WATCHERS" = some (.ref a) ∧ ∀ H, SqT K H a [.str "seen", .str "behind"]
  shapes : ∃ a, mg "SHAPES" = some (.ref a) ∧ (a == sysModules) = false ∧ ∀ p ∈ shapesL, ∃ t, KDct K w a p.1 (.ref t) ∧ ∀ H, SqT K H t (p.2.map V.str)
  bounds : ∃ a, mg "BOUNDS" = some (.ref a) ∧ ∃ t1 t2, KDct K w a "points" (.ref t1) ∧ (∀ H, SqT K H t1 [.int 1, .int 9]) ∧ KDct K w a "limit" (.ref t2) ∧ ∀ H, SqT K H t2 [.int 0, .int 30]
  free : ∀ x ∈ freeL, mg x = none
theorem str_len2 {z : Str} (h : z.length = 2) : z.length ≤ sizeLine := by rw [h]; decide
def spIsStep : Sp := fun vs H Q _ => ∃ p : StepT, vs = [.str (stepS p)] ∧ IsStep p ∧ ∀ H', Same H H' → Q (.bl true) H'
theorem inV_words {x : Str} (h : IsW x) : inV (.str x) (wordsL.map V.str) = true := by
  have h' : x ∈ wordsL := h
  have q : ∀ y ∈ wordsL, inV (.str y) (wordsL.map V.str) = true := by decide +kernel
  exact q x h'
theorem inV_marks {x : Str} (h : IsM x) : inV (.str x) [.str "r", .str "w", .str "c"] = true := by
  have h' : x ∈ marksL := h
  have q : ∀ y ∈ marksL, inV (.str y) [.str "r", .str "w", .str "c"] = true := by decide +kernel
  exact q x h'
section
variable {P : Program} {w : World} {K : PySem.W.Frag} {mg : Str → Option Value} {base : Heap}
theorem ok_is_step (T : PTx w K mg) (D : Def K mg "is_step" s_is_step ["thing"]) : FnOk P w K mg base CX0 1 D.f D.fd ["thing"] spIsStep := by
  obtain ⟨aW, gW, qW⟩ := T.words
  obtain ⟨tr, gr⟩ := T.right
  obtain ⟨tw, gw⟩ := T.wrong
  obtain ⟨tc, gc⟩ := T.carried
  refine D.ok sc_is_step (fun vs H Q E h => ?_) (fun cdv A outer s H vs Q E hr h => ?_)
  · obtain ⟨p, rfl, _⟩ := h
    rfl
  obtain ⟨p, rfl, hp, q⟩ := h
  refine ⟨_, pss_cons (ps_if (PW.pt (pw_or (pt_not (pt_val (pe_callB call_isi rfl (T.free "isinstance" (by decide +kernel)) (by decide +kernel) (pa_cons (pv 0) (pa_cons (pe_bltn rfl (T.free "str" (by decide +kernel)) (by decide +kernel) (v := .ty "str") rfl) pa_nil)))))
      (pw_or1 (pt_cmpR op_ne (pe_callB call_len_str rfl (T.free "len" (by decide +kernel)) PySem.boot_len (pa_cons (pv 0) pa_nil)) pe_int (nomark _))))) (pss_one ps_never) pss_nil)
    (pss_one (ps_ret (pe_and (pe_cmpR op_in_seq (pe_ix ix_str (pv 0) pe_int (fun _ _ => rfl)) (pe_glob rfl gW (v := .ref aW) rfl) (by rfl))
      (pe_one (pe_cmpR op_in_seq (pe_ix ix_str (pv 0) pe_int (fun _ _ => rfl)) (pe_tup (pa_cons (pe_glob rfl gr (v := .str "r") ⟨_, rfl⟩) (pa_cons (pe_glob rfl gw (v := .str "w") ⟨_, rfl⟩) (pa_cons (pe_glob rfl gc (v := .str "c") ⟨_, rfl⟩) pa_nil)))) (by rfl)))))), ?_⟩
  obtain ⟨c0, e0, x0⟩ := hp.at0
  obtain ⟨c1, e1, x1⟩ := hp.at1
  refine seq_if (b := false) (fun Q q => ?_) (fun z => nomatch z) (fun _ => ?_)
  · refine ⟨_, rfl, _, .ty "str", .type "str", .type "str", true, rfl, .ty _, .base (.str _), kit_ty (by decide +kernel), _, rfl, ?_⟩
    refine ⟨_, rfl, _, rfl, str_len2 hp.len, rfl, _, rfl, ?_⟩
    rw [hp.len]
    exact q
  · refine ⟨_, rfl, _, 0, c0, rfl, rfl, str_len2 hp.len, e0, ?_⟩
    rw [x0]
    refine ⟨aW, _, rfl, .inr (qW _), rfl, by decide +kernel, _, rfl, ?_⟩
    show (if inV (.str p.1) (wordsL.map V.str) = true then _ else _)
    rw [if_pos (inV_words hp.1)]
    refine ⟨_, rfl, _, 1, c1, rfl, rfl, str_len2 hp.len, e1, ?_⟩
    rw [x1]
    refine ⟨(by show 3 ≤ sizeLine; decide), fun t ht => ⟨t, _, rfl, .inr (SqT.of upd_same), rfl, rfl, ?_⟩⟩
    show Q (.bl (inV (.str p.2) [.str "r", .str "w", .str "c"])) _
    rw [inV_marks hp.2]
    exact q _ (Same.new ht)
def spCheckWork : Sp := fun vs H Q _ => ∃ (a : Addr) (ws : List StepT), vs = [.ref a] ∧ H a = some (.lst (stepsV ws)) ∧ WorkOk ws ∧ ∀ H', Same H H' → Q .non H'
theorem WorkFrom.at : ∀ {ws : List StepT} {w : Bool} {i : Nat} {p : StepT}, WorkFrom w ws → ws[i]? = some p → IsStep p ∧ (p.2 = "c" → (w || anyWrong (ws.take i)) = true)
  | [], _, _, _, _, h => by simp at h
  | q :: r, w, 0, p, h, e => by
    obtain rfl : q = p := by simpa using e
    exact ⟨h.1, fun z => by rw [h.2.1 z]; rfl⟩
  | q :: r, w, i + 1, p, h, e => by
    obtain ⟨h1, h2⟩ := WorkFrom.at (i := i) h.2.2 (by simpa using e)
    refine ⟨h1, fun z => ?_⟩
    have z2 := h2 z
    rw [Bool.or_assoc] at z2
    exact z2
theorem ok_check_work (T : PTx w K mg) (D : Def K mg "check_work" s_check_work ["work"]) (DI : Def K mg "is_step" s_is_step ["thing"]) : FnOk P w K mg base CX0 2 D.f D.fd ["work"] spCheckWork := by
  have GI : FnOk P w K mg base CX0 1 DI.f DI.fd ["thing"] spIsStep := ok_is_step T DI
  obtain ⟨tw, gw⟩ := T.wrong
  obtain ⟨tc, gc⟩ := T.carried
  obtain ⟨tm, gm⟩ := T.mostSteps
  have nd := sc_check_work.nd
  refine D.ok sc_check_work (fun vs H Q E h => ?_) (fun cdv A outer s H vs Q E hr h => ?_)
  · obtain ⟨a, ws, rfl, _⟩ := h
    rfl
  obtain ⟨a, ws, rfl, ea, hw, q⟩ := h
  refine ⟨_, pss_cons (ps_if (pt_not (pt_val (pe_callB call_isi rfl (T.free "isinstance" (by decide +kernel)) (by decide +kernel) (pa_cons (pv 0) (pa_cons (pe_bltn rfl (T.free "list" (by decide +kernel)) (by decide +kernel) (v := .ty "list") rfl) pa_nil))))) (pss_one ps_never) pss_nil)
    (pss_cons (ps_set (i := 1) nd rfl (Or.inl rfl) pe_bl)
    (pss_one (ps_for PassesOwn.never rfl (pi_enum rfl (T.free "enumerate" (by decide +kernel)) (pa_cons (pv 0) pa_nil)) (pg_tup (by rfl) (pgs_cons (pg_name (i := 2) nd rfl (Or.inl rfl)) (pgs_cons (pg_name (i := 3) nd rfl (Or.inl rfl)) pgs_nil)))
      (pss_cons (ps_if (PW.pt (pw_or (pt_cmpR op_eq (pv 2) (pe_glob rfl gm (v := .int 12) ⟨_, rfl⟩) (nomark _)) (pw_or1 (pt_not (pt_val (pcall DI GI hr (pa_cons (pv 3) pa_nil))))))) (pss_one ps_never) pss_nil)
      (pss_cons (ps_if (PW.pt (pw_and (pt_cmpR op_eq (pe_ix ix_str (pv 3) pe_int (fun _ _ => rfl)) (pe_glob rfl gc (v := .str "c") ⟨_, rfl⟩) (nomark _)) (pw_and1 (pt_not (pt_val (pv 1)))))) (pss_one ps_never) pss_nil)
      (pss_one (ps_set (i := 1) nd rfl (Or.inl rfl) (pe_or (pv 1) (pe_one (pe_cmpR op_eq (pe_ix ix_str (pv 3) pe_int (fun _ _ => rfl)) (pe_glob rfl gw (v := .str "w") ⟨_, rfl⟩) (nomark _))))))))))), ?_⟩
  refine seq_if (b := false) (fun Q q => ⟨_, rfl, _, .ty "list", .type "list", .type "list", true, rfl, .ty _, .base (.lst ea), kit_ty (by decide +kernel), _, rfl, q⟩) (fun z => nomatch z) (fun _ => ?_)
  have lws : (stepsV ws).length = ws.length := List.length_map _
  refine ⟨_, rfl, a, _, rfl, SqL.of ea, for_it (walk_enum (K := K) (a := a) (xs := stepsV ws)) (fun i σ H' => ∃ v2 v3 : Option V, σ = [some (.ref a), some (.bl (anyWrong (ws.take i))), v2, v3] ∧ Same H H')
    ⟨none, none, rfl, Same.refl _⟩ (fun i σ H' _ ⟨_, _, _, sm⟩ => SqL.of (sm _ _ ea)) ?_ ?_⟩
  · rintro i x σ H1 H2 hi ⟨v2, v3, rfl, sm⟩ ⟨T1, x1, x2, rfl, hT1, rfl, ex1, ex2⟩
    obtain rfl : V.int ((i : Nat) : Int) = x1 := Option.some.inj ex1
    rw [lws] at hi
    have ep : ws[i]? = some (ws[i]'hi) := List.getElem?_eq_getElem hi
    obtain rfl : V.str (stepS (ws[i]'hi)) = x2 := Option.some.inj ((get_map (fun p => V.str (stepS p)) ws hi).symm.trans ex2)
    obtain ⟨hp, hc⟩ := hw.1.at ep
    obtain ⟨c1, e1, y1⟩ := hp.at1
    have sm1 : Same H (upd H1 T1 (.tup [.int ((i : Nat) : Int), .str (stepS (ws[i]'hi))])) := sm.trans (Same.new hT1)
    refine ⟨T1, _, rfl, SqT.of upd_same, rfl, _, _, rfl, _, _, rfl, rfl, ?_⟩
    have hlen := hw.2
    refine ⟨_, rfl, rfl, _, rfl, ?_⟩
    have ne : decide (V.int ((i : Nat) : Int) = V.int 12) = false := decide_eq_false (fun z => by have := V.int.inj z; omega)
    rw [ne]
    refine iteF ⟨_, rfl, _, rfl, hp, fun H3 s3 => ⟨_, rfl, iteF ?_⟩⟩
    dsimp only [tNext]
    refine seq_if (b := (ws[i]'hi).2 == "c" && !anyWrong (ws.take i)) (ev_and (fun Q q => ⟨_, rfl, _, 1, c1, rfl, rfl, str_len2 hp.len, e1, rfl, _, rfl, by rw [y1, dec_str]; exact q⟩) (fun Q q => ⟨_, rfl, _, rfl, q⟩)) (fun z => ?_) (fun _ => ?_)
    · rw [Bool.and_eq_true] at z
      have z1 := hc (eq_of_beq z.1)
      rw [Bool.false_or] at z1
      rw [z1] at z
      exact absurd z.2 (by decide)
    · refine ⟨_, rfl, _, rfl, ?_⟩
      have tk : anyWrong (ws.take (i + 1)) = (anyWrong (ws.take i) || ((ws[i]'hi).2 == "w")) := by
        rw [List.take_succ_eq_append_getElem hi]
        unfold anyWrong
        rw [List.any_append]
        simp
      refine ite2 (fun z => ?_) (fun z => ?_)
      · exact ⟨_, _, by rw [tk, z]; rfl, (sm1.trans s3)⟩
      · refine ⟨_, rfl, _, 1, c1, rfl, rfl, str_len2 hp.len, e1, rfl, ?_⟩
        rw [y1]
        refine ⟨some (.int ((i : Nat) : Int)), some (.str (stepS (ws[i]'hi))), ?_, (sm1.trans s3)⟩
        rw [tk, Bool.eq_false_iff.mpr z, Bool.false_or, dec_str]
        rfl
  · rintro σ H' ⟨v2, v3, rfl, sm⟩
    exact q H' sm
end
end MS
end
section
set_option maxRecDepth 100000
set_option maxHeartbeats 4000000
namespace MS
open PySem L2
/-! ### a written dict: get -/
def tKGet2 (K : PySem.W.Frag) (w : World) (td ty tx : TE) : TE := fun σ H Q => td σ H fun x H1 => ∃ a, x = .ref a ∧ (a == sysModules) = false ∧ (∃ z0 v0, KDct K w a z0 v0) ∧ ty σ H1 fun y H2 => tx σ H2 fun d H3 => ∃ z, y = .str z ∧ ((∃ v, KDct K w a z v ∧ Q v H3) ∨ (KMiss K w a z ∧ Q d H3))
theorem pe_kget2 {X : Cx} {o e f : Expr} {apos cpos : Pos} {td ty tx : TE} (ho : PE X o td) (he : PE X e ty) (hf : PE X f tx) (m : M2 X o "get" apos e f cpos) : PE X (.Call (.Attribute o "get" apos) [e, f] [] cpos) (tKGet2 X.K X.w td ty tx) := by
  refine ⟨fun pins s σ H Q I h => ?_⟩
  refine wpAny_Call_method m.base m.few m.line PySem.F.plainAttrs_dict PySem.F.slot_dict_get PySem.F.type_dict_get (thn (ho.run pins s σ H _ I h) fun u s1 ⟨x, H1, I1, rx, a, ex, low, ⟨z0, v0, es, n, u0, hl, hk, e0, ru⟩, q1⟩ => ?_)
  subst ex
  obtain rfl : u = Value.ref a := rx
  refine ⟨(PySem.W.mapOf_K (prog := X.prog) (w := X.w) I1.kIn hl hk).typeIs, (fun b q => by
    cases q
    exact ⟨_, I1.kIn _ _ hl, rfl⟩), ?_⟩
  rw [m.trees]
  refine Calls.callWith_builtin rfl (Calls.evalArgs_plain (Calls.spliced_cons (thn (he.run pins s1 σ H1 _ I1 q1) fun iv s2 ⟨y, H2, I2, ry, q2⟩ =>
    Calls.spliced_cons (thn (hf.run pins s2 σ H2 _ I2 q2) fun fv s3 ⟨d, H3, I3, rz, z, ey, q3⟩ => Calls.spliced_nil ?_))))
  subst ey
  obtain ⟨t, rfl⟩ := ry
  have hm := PySem.W.mapOf_K (prog := X.prog) (w := X.w) I3.kIn hl hk
  refine call_meetsIn PySem.F.slot_dict_get hm.typeIs PySem.F.entry_dict_get (PySem.F.args_dict_get_3 _ _ _) (meets_dict_get_default (strKind X.prog X.w) a (strKind_is X.prog X.w z t) low fv) ⟨_, hm, ?_⟩
  rcases q3 with ⟨v, ⟨es2, n2, u2, hl2, hk2, e2, ru2⟩, q3⟩ | ⟨⟨es2, n2, hl2, hk2, low2, e2⟩, q3⟩
  · rw [hl] at hl2
    cases hl2
    rw [PySem.W.find_K hl e2]
    exact ⟨v, H3, I3.tok _, ru2, q3⟩
  · rw [hl] at hl2
    cases hl2
    rw [PySem.W.find_K hl e2]
    exact ⟨d, H3, I3.tok _, rz, q3⟩
end MS
end
section
set_option maxRecDepth 100000
set_option maxHeartbeats 4000000
namespace MS
open PySem L2
def FitsR (H : Hp) (i M : Nat) (part : V) (kind : Str) : Prop :=
  (kind = "word" ∧ ∃ x, part = .str x ∧ IsW x) ∨ (kind = "points" ∧ ∃ p : Int, part = .int p ∧ 1 ≤ p ∧ p ≤ 9) ∨ (kind = "limit" ∧ ∃ p : Int, part = .int p ∧ 0 ≤ p ∧ p ≤ 30) ∨
  (kind = "schemes" ∧ ∃ b vs, part = .ref b ∧ H b = some (.tup vs) ∧ 0 < vs.length ∧ vs.length ≤ 4) ∨ kind = "scheme" ∨ (kind = "later" ∧ ∃ j : Nat, part = .int (j : Int) ∧ i < j ∧ j < M)
def spIsNumber : Sp := fun vs H Q _ => ∃ i : Int, vs = [.int i] ∧ Q (.bl true) H
def spFits (i M : Nat) : Sp := fun vs H Q _ => ∃ (part : V) (kind : Str), vs = [part, .str kind, .int (i : Int), .int (M : Int)] ∧ FitsR H i M part kind ∧ Q (.bl true) H
section
variable {P : Program} {w : World} {K : PySem.W.Frag} {mg : Str → Option Value} {base : Heap}
theorem ok_is_number (T : PTx w K mg) (D : Def K mg "is_number" s_is_number ["thing"]) : FnOk P w K mg base CX0 1 D.f D.fd ["thing"] spIsNumber := by
  refine D.ok sc_is_number (fun vs H Q E h => ?_) (fun cdv A outer s H vs Q E hr h => ?_)
  · obtain ⟨i, rfl, _⟩ := h
    rfl
  obtain ⟨i, rfl, q⟩ := h
  refine ⟨_, pss_one (ps_ret (pe_and (pe_callB call_isi rfl (T.free "isinstance" (by decide +kernel)) (by decide +kernel) (pa_cons (pv 0) (pa_cons (pe_bltn rfl (T.free "int" (by decide +kernel)) (by decide +kernel) (v := .ty "int") rfl) pa_nil)))
    (pe_one (pe_not (pe_callB call_isi rfl (T.free "isinstance" (by decide +kernel)) (by decide +kernel) (pa_cons (pv 0) (pa_cons (pe_bltn rfl (T.free "bool" (by decide +kernel)) (by decide +kernel) (v := .ty "bool") rfl) pa_nil))))))), ?_⟩
  exact ⟨_, rfl, _, .ty "int", .type "int", .type "int", true, rfl, .ty _, .base (.int _), kit_ty (by decide +kernel), _, rfl, _, rfl, _, .ty "bool", .type "int", .type "bool", false, rfl, .ty _, .base (.int _), kit_ty (by decide +kernel), _, rfl, q⟩
theorem ok_fits {i M : Nat} (T : PTx w K mg) (D : Def K mg "fits" s_fits ["part", "kind", "number", "many"]) (DN : Def K mg "is_number" s_is_number ["thing"]) : FnOk P w K mg base CX0 2 D.f D.fd ["part", "kind", "number", "many"] (spFits i M) := by
  have GN : FnOk P w K mg base CX0 1 DN.f DN.fd ["thing"] spIsNumber := ok_is_number T DN
  obtain ⟨aW, gW, qW⟩ := T.words
  obtain ⟨tm, gm⟩ := T.mostWithin
  obtain ⟨aB, gB, t1, t2, kb1, qb1, kb2, qb2⟩ := T.bounds
  have nd := sc_fits.nd
  refine D.ok sc_fits (fun vs H Q E h => ?_) (fun cdv A outer s H vs Q E hr h => ?_)
  · obtain ⟨part, kind, rfl, _⟩ := h
    rfl
  obtain ⟨part, kind, rfl, hf, q⟩ := h
  refine ⟨_, pss_cons (ps_if (pt_cmpR op_eq (pv 1) pe_str (nomark _)) (pss_one (ps_ret (pe_cmpR op_in_seq (pv 0) (pe_glob rfl gW (v := .ref aW) rfl) (by rfl)))) pss_nil)
    (pss_cons (ps_if (pt_cmpR op_eq (pv 1) pe_str (nomark _)) (pss_one (ps_ret (pe_and (pe_callB call_isi rfl (T.free "isinstance" (by decide +kernel)) (by decide +kernel) (pa_cons (pv 0) (pa_cons (pe_bltn rfl (T.free "tuple" (by decide +kernel)) (by decide +kernel) (v := .ty "tuple") rfl) pa_nil)))
        (pe_one (pe_chain op_le op_le pe_int (pe_callB call_len_seq rfl (T.free "len" (by decide +kernel)) PySem.boot_len (pa_cons (pv 0) pa_nil)) (pe_glob rfl gm (v := .int 4) ⟨_, rfl⟩)))))) pss_nil)
    (pss_cons (ps_if (pt_cmpR op_eq (pv 1) pe_str (nomark _)) (pss_one (ps_ret pe_bl)) pss_nil)
    (pss_cons (ps_if (pt_cmpR op_eq (pv 1) pe_str (nomark _)) (pss_one (ps_ret (pe_and (pcall DN GN hr (pa_cons (pv 0) pa_nil)) (pe_one (pe_chain op_lt op_lt (pv 2) (pv 0) (pv 3)))))) pss_nil)
    (pss_cons (ps_asg (pe_ix ix_kdict (pe_glob rfl gB (v := .ref aB) rfl) (pv 1) (fun _ _ => rfl)) (pg_tup (by rfl) (pgs_cons (pg_name (i := 4) nd rfl (Or.inl rfl)) (pgs_cons (pg_name (i := 5) nd rfl (Or.inl rfl)) pgs_nil))))
    (pss_one (ps_ret (pe_and (pcall DN GN hr (pa_cons (pv 0) pa_nil)) (pe_one (pe_chain op_le op_le (pv 4) (pv 0) (pv 5)))))))))), ?_⟩
  have tst : ∀ {c : Str} {σ : St} {b : Bool}, σ[1]? = some (some (.str kind)) → (kind == c) = b → ∀ Q : Bool → Hp → Prop, Q b H → tTest (tOp rEq (tVar 1) (tC (.str c))) σ H Q := fun s1 e Q q => ⟨_, s1, rfl, _, rfl, by rw [dec_str, e]; exact q⟩
  rcases hf with ⟨rfl, x, rfl, hx⟩ | ⟨rfl, p, rfl, p1, p2⟩ | ⟨rfl, p, rfl, p1, p2⟩ | ⟨rfl, b, vs, rfl, eb, v1, v2⟩ | rfl | ⟨rfl, j, rfl, j1, j2⟩
  · refine seq_if (b := true) (tst rfl (by decide +kernel)) (fun _ => ?_) (fun z => nomatch z)
    refine ⟨_, rfl, aW, _, rfl, .inr (qW _), rfl, by decide +kernel, ?_⟩
    show Q (.bl (inV (.str x) (wordsL.map V.str))) _
    rw [inV_words hx]
    exact q
  · refine seq_if (b := false) (tst rfl (by decide +kernel)) (fun z => nomatch z) (fun _ => seq_if (b := false) (tst rfl (by decide +kernel)) (fun z => nomatch z) (fun _ => seq_if (b := false) (tst rfl (by decide +kernel)) (fun z => nomatch z) (fun _ => seq_if (b := false) (tst rfl (by decide +kernel)) (fun z => nomatch z) (fun _ => ?_))))
    refine ⟨_, rfl, aB, "points", .ref t1, rfl, rfl, kb1, t1, _, rfl, qb1 _, rfl, _, _, rfl, _, _, rfl, rfl, ?_⟩
    refine ⟨_, rfl, p, rfl, _, rfl, ?_⟩
    refine ⟨_, rfl, _, rfl, _, _, rfl, rfl, _, rfl, ?_⟩
    rw [decide_eq_true p1]
    refine iteT ⟨_, rfl, _, _, rfl, rfl, ?_⟩
    show Q (V.bl (decide _)) H
    rw [decide_eq_true p2]
    exact q
  · refine seq_if (b := false) (tst rfl (by decide +kernel)) (fun z => nomatch z) (fun _ => seq_if (b := false) (tst rfl (by decide +kernel)) (fun z => nomatch z) (fun _ => seq_if (b := false) (tst rfl (by decide +kernel)) (fun z => nomatch z) (fun _ => seq_if (b := false) (tst rfl (by decide +kernel)) (fun z => nomatch z) (fun _ => ?_))))
    refine ⟨_, rfl, aB, "limit", .ref t2, rfl, rfl, kb2, t2, _, rfl, qb2 _, rfl, _, _, rfl, _, _, rfl, rfl, ?_⟩
    refine ⟨_, rfl, p, rfl, _, rfl, ?_⟩
    refine ⟨_, rfl, _, rfl, _, _, rfl, rfl, _, rfl, ?_⟩
    rw [decide_eq_true p1]
    refine iteT ⟨_, rfl, _, _, rfl, rfl, ?_⟩
    show Q (V.bl (decide _)) H
    rw [decide_eq_true p2]
    exact q
  · refine seq_if (b := false) (tst rfl (by decide +kernel)) (fun z => nomatch z) (fun _ => seq_if (b := true) (tst rfl (by decide +kernel)) (fun _ => ?_) (fun z => nomatch z))
    refine ⟨_, rfl, _, .ty "tuple", .type "tuple", .type "tuple", true, rfl, .ty _, .base (.tup eb), kit_ty (by decide +kernel), _, rfl, ?_⟩
    refine iteT ⟨_, rfl, b, vs, rfl, .inr (SqT.of eb), _, _, rfl, rfl, _, rfl, ?_⟩
    rw [decide_eq_true (show (1 : Int) ≤ (vs.length : Int) by omega)]
    refine iteT ⟨_, _, rfl, rfl, ?_⟩
    show Q (V.bl (decide _)) H
    rw [decide_eq_true (show (vs.length : Int) ≤ 4 by omega)]
    exact q
  · refine seq_if (b := false) (tst rfl (by decide +kernel)) (fun z => nomatch z) (fun _ => seq_if (b := false) (tst rfl (by decide +kernel)) (fun z => nomatch z) (fun _ => seq_if (b := true) (tst rfl (by decide +kernel)) (fun _ => q) (fun z => nomatch z)))
  · refine seq_if (b := false) (tst rfl (by decide +kernel)) (fun z => nomatch z) (fun _ => seq_if (b := false) (tst rfl (by decide +kernel)) (fun z => nomatch z) (fun _ => seq_if (b := false) (tst rfl (by decide +kernel)) (fun z => nomatch z) (fun _ => seq_if (b := true) (tst rfl (by decide +kernel)) (fun _ => ?_) (fun z => nomatch z))))
    refine ⟨_, rfl, _, rfl, _, rfl, ?_⟩
    refine iteT ⟨_, rfl, _, rfl, _, _, rfl, rfl, _, rfl, ?_⟩
    rw [decide_eq_true (show ((i : Nat) : Int) < ((j : Nat) : Int) by omega)]
    refine iteT ⟨_, rfl, _, _, rfl, rfl, ?_⟩
    show Q (V.bl (decide _)) H
    rw [decide_eq_true (show ((j : Nat) : Int) < ((M : Nat) : Int) by omega)]
    exact q
end
end MS
end
section
set_option maxRecDepth 100000
set_option maxHeartbeats 4000000
namespace MS
open PySem L2
/-! ### what the law earns, point by point -/
/-- a point: the place of the step, the place in the paper -/
abbrev Un := Nat × List Nat
def okAt (c : Bool) (x : Str) (p : StepT) : Bool := (p.1 == x) && (p.2 == "r" || (c && p.2 == "c"))
/-- the places from st on where a step of a word counts -/
def hits (ws : List StepT) (c : Bool) (x : Str) (st : Nat) : List Nat := (List.range' st (ws.length - st)).filter fun i => match ws[i]? with
  | some p => okAt c x p
  | none => false
def lastOk (ws : List StepT) (c : Bool) (x : Str) (st : Nat) : Bool := decide (st < ws.length) && match ws.getLast? with
  | some p => okAt c x p
  | none => false
def allU {α : Type} (f : Sch → Nat → List α) : List Sch → Nat → List α
  | [], _ => []
  | s :: r, j => f s j ++ allU f r (j + 1)
def bestU {α : Type} (f : Sch → Nat → List α) : List Sch → Nat → List α → List α
  | [], _, acc => acc
  | s :: r, j, acc => bestU f r (j + 1) (if acc.length < (f s j).length then f s j else acc)
def uP (ps : List Sch) (ws : List StepT) : Nat → Sch → Nat → Bool → List Nat → List Un
  | 0, _, _, _, _ => []
  | k + 1, .step x p, st, c, wh => match hits ws c x st with
    | [] => []
    | i :: _ => List.replicate p.toNat (i, wh)
  | k + 1, .behind x s, st, c, wh => match hits ws c x st with
    | [] => []
    | i :: _ => uP ps ws k s (i + 1) c (wh ++ [0])
  | k + 1, .use n, st, c, wh => match ps[n]? with
    | none => []
    | some s => uP ps ws k s st c (wh ++ [0])
  | k + 1, .all ks, st, c, wh => allU (fun s j => uP ps ws k s st c (wh ++ [j])) ks 0
  | k + 1, .best ks, st, c, wh => bestU (fun s j => uP ps ws k s st c (wh ++ [j])) ks 0 []
  | k + 1, .fin x p s, st, c, wh => if lastOk ws c x st = true then List.replicate p.toNat (ws.length - 1, wh) else uP ps ws k s st c (wh ++ [0])
  | k + 1, .seen x s, st, c, wh => if (ws.any fun p => p.1 == x) = true then uP ps ws k s st c (wh ++ [0]) else []
  | k + 1, .most n s, st, c, wh => (uP ps ws k s st c (wh ++ [0])).take n.toNat
  | k + 1, .half s, st, c, wh => (uP ps ws k s st c (wh ++ [0])).take ((uP ps ws k s st c (wh ++ [0])).length / 2)
  | k + 1, .carry s, st, c, wh => uP ps ws k s st true (wh ++ [0])
def natV (l : List Nat) : List V := l.map fun j : Nat => V.int ((j : Nat) : Int)
def UnR (H : Hp) (u : Un) (v : V) : Prop := ∃ a b, v = V.ref a ∧ H a = some (.tup [.int ((u.1 : Nat) : Int), .ref b]) ∧ H b = some (.tup (natV u.2))
theorem UnR.keep {H H' : Hp} {u : Un} {v : V} (h : UnR H u v) (k : TupK H H') : UnR H' u v := by
  obtain ⟨a, b, e, h1, h2⟩ := h
  exact ⟨a, b, e, k _ _ h1, k _ _ h2⟩
/-- how many points at most -/
theorem take_le {α : Type} (l : List α) (n : Nat) : (l.take n).length ≤ l.length := by
  rw [List.length_take]
  exact Nat.min_le_right _ _
theorem er_nonneg {i M : Nat} {c : Nat → Int} (h : ∀ j, i < j → j < M → 0 ≤ c j) : ∀ (d : Nat) (s : Sch), OkS i M d s → 0 ≤ er c d s
  | 0, _, o => by cases o
  | _ + 1, .step _ _, _ => by show (0 : Int) ≤ 1; decide
  | d + 1, .all k, o => by
    show 0 ≤ (k.map (er c d)).sum
    have : ∀ s ∈ k, 0 ≤ er c d s := fun s hs => er_nonneg h d s (o.2.2 s hs)
    clear o
    induction k with
    | nil => exact Int.le_refl _
    | cons a r ih =>
      rw [List.map_cons, List.sum_cons]
      have := ih fun s hs => this s (List.mem_cons_of_mem _ hs)
      have := ‹∀ s ∈ a :: r, 0 ≤ er c d s› a List.mem_cons_self
      omega
  | d + 1, .best k, o => by
    show 0 ≤ (k.map (er c d)).sum
    have : ∀ s ∈ k, 0 ≤ er c d s := fun s hs => er_nonneg h d s (o.2.2 s hs)
    clear o
    induction k with
    | nil => exact Int.le_refl _
    | cons a r ih =>
      rw [List.map_cons, List.sum_cons]
      have := ih fun s hs => this s (List.mem_cons_of_mem _ hs)
      have := ‹∀ s ∈ a :: r, 0 ≤ er c d s› a List.mem_cons_self
      omega
  | d + 1, .most _ s, o => er_nonneg h d s o.2
  | d + 1, .half s, o => er_nonneg h d s o
  | d + 1, .seen _ s, o => er_nonneg h d s o.2
  | d + 1, .behind _ s, o => er_nonneg h d s o.2
  | d + 1, .carry s, o => er_nonneg h d s o
  | d + 1, .fin _ _ s, o => by
    have := er_nonneg h d s o.2
    show 0 ≤ 1 + er c d s
    omega
  | _ + 1, .use n, o => h n o.1 o.2
theorem allU_len {α : Type} {f : Sch → Nat → List α} {g : Sch → Int} : ∀ (ks : List Sch) (j : Nat), (∀ s ∈ ks, ∀ j, ((f s j).length : Int) ≤ 9 * g s) → ((allU f ks j).length : Int) ≤ 9 * (ks.map g).sum
  | [], _, _ => by show (0 : Int) ≤ 9 * 0; decide
  | s :: r, j, h => by
    show (((f s j) ++ allU f r (j + 1)).length : Int) ≤ _
    rw [List.map_cons, List.sum_cons, List.length_append]
    have := h s List.mem_cons_self j
    have := allU_len r (j + 1) fun s hs => h s (List.mem_cons_of_mem _ hs)
    omega
theorem bestU_len {α : Type} {f : Sch → Nat → List α} {g : Sch → Int} : ∀ (ks : List Sch) (j : Nat) (acc : List α), (∀ s ∈ ks, ∀ j, ((f s j).length : Int) ≤ 9 * g s) → (∀ s ∈ ks, 0 ≤ g s) → ∀ B : Int, ((acc.length : Int) ≤ 9 * B) → 0 ≤ B → ((bestU f ks j acc).length : Int) ≤ 9 * (B + (ks.map g).sum)
  | [], _, acc, _, _, B, h, hB => by
    show (acc.length : Int) ≤ 9 * (B + 0)
    omega
  | s :: r, j, acc, h, h0, B, hb, hB => by
    show ((bestU f r (j + 1) (if acc.length < (f s j).length then f s j else acc)).length : Int) ≤ _
    rw [List.map_cons, List.sum_cons]
    have a1 := h s List.mem_cons_self j
    have a0 := h0 s List.mem_cons_self
    have := bestU_len r (j + 1) (if acc.length < (f s j).length then f s j else acc) (fun s hs => h s (List.mem_cons_of_mem _ hs)) (fun s hs => h0 s (List.mem_cons_of_mem _ hs)) (B + g s) (by
      split
      · omega
      · omega) (by omega)
    omega
theorem uP_len {ps : List Sch} {ws : List StepT} {ce : Nat → Int} {M : Nat} (hp : ∀ (j : Nat) (s : Sch), ps[j]? = some s → OkS j M 5 s ∧ ce j = er ce 5 s) (h0 : ∀ j, j < M → 0 ≤ ce j) :
    ∀ (k : Nat) (i d : Nat) (s : Sch) (st : Nat) (c : Bool) (wh : List Nat), OkS i M d s → ((uP ps ws k s st c wh).length : Int) ≤ 9 * er ce d s
  | 0, i, d, s, st, c, wh, o => by
    have := er_nonneg (c := ce) (fun j _ hj => h0 j hj) d s o
    show (0 : Int) ≤ _
    omega
  | k + 1, i, 0, s, st, c, wh, o => by cases o
  | k + 1, i, d + 1, .step x p, st, c, wh, o => by
    show ((match hits ws c x st with
      | [] => []
      | i :: _ => List.replicate p.toNat (i, wh)).length : Int) ≤ 9 * 1
    have := o.2.2
    split
    · simp
    · rw [List.length_replicate]
      omega
  | k + 1, i, d + 1, .behind x s, st, c, wh, o => by
    show ((match hits ws c x st with
      | [] => []
      | i :: _ => uP ps ws k s (i + 1) c (wh ++ [0])).length : Int) ≤ 9 * er ce d s
    have := er_nonneg (c := ce) (fun j _ hj => h0 j hj) d s o.2
    split
    · show (0 : Int) ≤ _
      omega
    · exact uP_len hp h0 k i d s _ c _ o.2
  | k + 1, i, d + 1, .use n, st, c, wh, o => by
    show ((match ps[n]? with
      | none => []
      | some s => uP ps ws k s st c (wh ++ [0])).length : Int) ≤ 9 * ce n
    have := h0 n o.2
    split
    · show (0 : Int) ≤ _
      omega
    · rename_i s e
      obtain ⟨o', e'⟩ := hp n s e
      rw [e']
      exact uP_len hp h0 k n 5 s st c _ o'
  | k + 1, i, d + 1, .all ks, st, c, wh, o => allU_len ks 0 fun s hs j => uP_len hp h0 k i d s st c _ (o.2.2 s hs)
  | k + 1, i, d + 1, .best ks, st, c, wh, o => by
    have := bestU_len (f := fun s j => uP ps ws k s st c (wh ++ [j])) (g := er ce d) ks 0 [] (fun s hs j => uP_len hp h0 k i d s st c _ (o.2.2 s hs)) (fun s hs => er_nonneg (c := ce) (fun j _ hj => h0 j hj) d s (o.2.2 s hs)) 0 (by simp) (Int.le_refl _)
    rw [Int.zero_add] at this
    exact this
  | k + 1, i, d + 1, .fin x p s, st, c, wh, o => by
    show ((if lastOk ws c x st = true then List.replicate p.toNat (ws.length - 1, wh) else uP ps ws k s st c (wh ++ [0])).length : Int) ≤ 9 * (1 + er ce d s)
    have := er_nonneg (c := ce) (fun j _ hj => h0 j hj) d s o.2
    have := o.1.2.2
    have := uP_len (ws := ws) hp h0 k i d s st c (wh ++ [0]) o.2
    split
    · rw [List.length_replicate]
      omega
    · omega
  | k + 1, i, d + 1, .seen x s, st, c, wh, o => by
    show ((if (ws.any fun p => p.1 == x) = true then uP ps ws k s st c (wh ++ [0]) else []).length : Int) ≤ 9 * er ce d s
    have := er_nonneg (c := ce) (fun j _ hj => h0 j hj) d s o.2
    split
    · exact uP_len hp h0 k i d s st c _ o.2
    · show (0 : Int) ≤ _
      omega
  | k + 1, i, d + 1, .most n s, st, c, wh, o => by
    have := uP_len (ws := ws) hp h0 k i d s st c (wh ++ [0]) o.2
    have := take_le (uP ps ws k s st c (wh ++ [0])) n.toNat
    show (((uP ps ws k s st c (wh ++ [0])).take n.toNat).length : Int) ≤ 9 * er ce d s
    omega
  | k + 1, i, d + 1, .half s, st, c, wh, o => by
    have := uP_len (ws := ws) hp h0 k i d s st c (wh ++ [0]) o
    have := take_le (uP ps ws k s st c (wh ++ [0])) ((uP ps ws k s st c (wh ++ [0])).length / 2)
    show (((uP ps ws k s st c (wh ++ [0])).take _).length : Int) ≤ 9 * er ce d s
    omega
  | k + 1, i, d + 1, .carry s, st, c, wh, o => uP_len hp h0 k i d s st true (wh ++ [0]) o
end MS
end
section
set_option maxRecDepth 100000
set_option maxHeartbeats 4000000
namespace MS
open PySem L2
abbrev nmUnits : List Str := ["_law_paper_here", "_law_scheme_here", "_law_work_here", "_law_look", "_law_is_carried", "_law_where", "_law_word", "_law_signs", "_law_some", "_law_later", "_law_found", "_law_k", "_law_place", "_law_step_here"]
abbrev psUnits : List Str := ["_law_paper_here", "_law_scheme_here", "_law_work_here", "_law_look", "_law_is_carried", "_law_where"]
/-- the paper, the work, the places looked at -/
structure UCtx (H : Hp) (ps : List Sch) (ws : List StepT) (pa wa la : Addr) (st : Nat) : Prop where
  paper : ∃ pv, H pa = some (.tup pv) ∧ Paired (SAt H 5) ps pv
  work : H wa = some (.lst (stepsV ws))
  look : H la = some (.lst (natV (List.range' st (ws.length - st))))
theorem UCtx.keep {H H' : Hp} {ps : List Sch} {ws : List StepT} {pa wa la : Addr} {st : Nat} (h : UCtx H ps ws pa wa la st) (k : Same H H') : UCtx H' ps ws pa wa la st := by
  obtain ⟨⟨pv, e, p⟩, h2, h3⟩ := h
  exact ⟨⟨pv, k _ _ e, paired_imp p fun s v => SAt.keep (Same.tupK k) _ _ _⟩, k _ _ h2, k _ _ h3⟩
def spUnits (ps : List Sch) (ws : List StepT) (ce : Nat → Int) (M k : Nat) : Sp := fun vs H Q _ => ∃ (pa wa la wr : Addr) (v : V) (c : Bool) (s : Sch) (i d st : Nat) (wh : List Nat), vs = [.ref pa, v, .ref wa, .ref la, .bl c, .ref wr] ∧
  UCtx H ps ws pa wa la st ∧ st ≤ ws.length ∧ SAt H d s v ∧ OkS i M d s ∧ er ce d s ≤ 7 ∧ (M - i) * 5 + d ≤ k ∧ wh.length + k ≤ 100 ∧ H wr = some (.tup (natV wh)) ∧
  ∀ (r : Addr) (uv : List V) (H' : Hp), Same H H' → H r = none → H' r = some (.lst uv) → Paired (UnR H') (uP ps ws k s st c wh) uv → Q (.ref r) H'
theorem strl2 {z : Str} (h : z.length = 2) : z.length ≤ sizeLine := by rw [h]; decide
/-- a test that may make new things -/
theorem seq_new {tc : TT} {t r : TS} {D : Ends} {σ : St} {H : Hp} {b : Bool} (h : ∀ Q : Bool → Hp → Prop, (∀ H', Same H H' → Q b H') → tc σ H Q) (k1 : b = true → ∀ H', Same H H' → t { D with nx := r D } σ H') (k2 : b = false → ∀ H', Same H H' → r D σ H') : tSeq (tIfS tc t tNext) r D σ H := h _ fun H' s => by
  cases b with
  | true => exact iteT (k1 rfl H' s)
  | false => exact iteF (k2 rfl H' s)
theorem in_two {K : PySem.W.Frag} {σ : St} {H : Hp} {i : Nat} {nm x y : Str} {b : Bool} (s : σ[i]? = some (some (.str nm))) (e : inV (.str nm) [.str x, .str y] = b) : ∀ Q : Bool → Hp → Prop, (∀ H', Same H H' → Q b H') → tTest (tOp (rIn K false) (tVar i) (tTup (tCons (tC (.str x)) (tCons (tC (.str y)) tNil)))) σ H Q := fun Q q =>
  ⟨_, s, sz2, fun t ht => ⟨t, _, rfl, .inr (SqT.of upd_same), rfl, rfl, _, rfl, by
    show Q (inV (.str nm) [.str x, .str y]) _
    rw [e]
    exact q _ (Same.new ht)⟩⟩
theorem is_word {σ : St} {H : Hp} {i : Nat} {nm x : Str} {b : Bool} (s : σ[i]? = some (some (.str nm))) (e : (nm == x) = b) : ∀ Q : Bool → Hp → Prop, Q b H → tTest (tOp rEq (tVar i) (tC (.str x))) σ H Q := fun Q q =>
  ⟨_, s, rfl, _, rfl, by rw [dec_str, e]; exact q⟩
def sgL (c : Bool) : List V := cutV [.str "r", .str "c"] none (some (1 + if c then 1 else 0))
theorem sg_in {c : Bool} {m : Str} (h : IsM m) : inV (.str m) (sgL c) = (m == "r" || (c && m == "c")) := by
  have h' : m ∈ marksL := h
  have q : ∀ c : Bool, ∀ y ∈ marksL, inV (.str y) (sgL c) = (y == "r" || (c && y == "c")) := by decide +kernel
  exact q c m h'
theorem sg_flat (c : Bool) : (sgL c).all flatV = true := by cases c <;> rfl
theorem SAt.tag {H : Hp} {d : Nat} {s : Sch} {v : V} (h : SAt H d s v) : ∃ a nm rest, v = V.ref a ∧ H a = some (.tup (.str nm :: rest)) := by
  cases d with
  | zero => cases h
  | succ d =>
    cases s with
    | step x p => obtain ⟨a, e, h⟩ := h; exact ⟨a, _, _, e, h⟩
    | all k => obtain ⟨a, b, vs, e, h, _⟩ := h; exact ⟨a, _, _, e, h⟩
    | best k => obtain ⟨a, b, vs, e, h, _⟩ := h; exact ⟨a, _, _, e, h⟩
    | most n s => obtain ⟨a, u, e, h, _⟩ := h; exact ⟨a, _, _, e, h⟩
    | half s => obtain ⟨a, u, e, h, _⟩ := h; exact ⟨a, _, _, e, h⟩
    | seen x s => obtain ⟨a, u, e, h, _⟩ := h; exact ⟨a, _, _, e, h⟩
    | behind x s => obtain ⟨a, u, e, h, _⟩ := h; exact ⟨a, _, _, e, h⟩
    | carry s => obtain ⟨a, u, e, h, _⟩ := h; exact ⟨a, _, _, e, h⟩
    | fin x p s => obtain ⟨a, u, e, h, _⟩ := h; exact ⟨a, _, _, e, h⟩
    | use n => obtain ⟨a, e, h⟩ := h; exact ⟨a, _, _, e, h⟩
/-- what has one scheme within, but no `behind` -/
structure OneR (H : Hp) (i M d : Nat) (sc : Sch) (nm : Str) (rest : List V) : Prop where
  nb : inV (.str nm) [.str "step", .str "behind"] = false
  nu : (nm == "use") = false
  na : inV (.str nm) [.str "all", .str "best"] = false
  nm5 : nm = "most" ∨ nm = "half" ∨ nm = "seen" ∨ nm = "carry" ∨ nm = "end"
  kid : ∃ u s', atI (.str nm :: rest) (-1) = some u ∧ SAt H d s' u ∧ OkS i M d s' ∧ (nm = "end" → ∃ x p, sc = .fin x p s' ∧ rest = [.str x, .int p, u] ∧ IsW x ∧ 1 ≤ p ∧ p ≤ 9) ∧ (nm = "seen" → ∃ x, sc = .seen x s' ∧ rest = [.str x, u] ∧ IsW x) ∧
    (nm = "most" → ∃ n, sc = .most n s' ∧ rest = [.int n, u] ∧ 0 ≤ n) ∧ (nm = "half" → sc = .half s' ∧ rest = [u]) ∧ (nm = "carry" → sc = .carry s' ∧ rest = [u]) ∧ ∃ x1, atI (.str nm :: rest) 1 = some x1
inductive SKind (H : Hp) (i M d : Nat) : Sch → Str → List V → Prop
  | step {x : Str} {p : Int} (hx : IsW x) (h1 : 1 ≤ p) (h2 : p ≤ 9) : SKind H i M d (.step x p) "step" [.str x, .int p]
  | behind {x : Str} {s : Sch} {u : V} (hx : IsW x) (hs : SAt H d s u) (ho : OkS i M d s) : SKind H i M d (.behind x s) "behind" [.str x, u]
  | use {n : Nat} (h1 : i < n) (h2 : n < M) : SKind H i M d (.use n) "use" [.int ((n : Nat) : Int)]
  | all {ks : List Sch} {b : Addr} {vs : List V} (eb : H b = some (.tup vs)) (hk : Paired (SAt H d) ks vs) (ho : ∀ s ∈ ks, OkS i M d s) (hl : ks.length ≤ 4) : SKind H i M d (.all ks) "all" [.ref b]
  | best {ks : List Sch} {b : Addr} {vs : List V} (eb : H b = some (.tup vs)) (hk : Paired (SAt H d) ks vs) (ho : ∀ s ∈ ks, OkS i M d s) (hl : ks.length ≤ 4) : SKind H i M d (.best ks) "best" [.ref b]
  | one {sc : Sch} {nm : Str} {rest : List V} (h : OneR H i M d sc nm rest) : SKind H i M d sc nm rest
theorem SAt.kind {H : Hp} {i M d : Nat} {sc : Sch} {a : Addr} {nm : Str} {rest : List V} (h : SAt H (d + 1) sc (.ref a)) (o : OkS i M (d + 1) sc) (ea : H a = some (.tup (.str nm :: rest))) : SKind H i M d sc nm rest := by
  have inj : ∀ {a' : Addr} {nm' : Str} {rest' : List V}, (V.ref a = V.ref a') → H a' = some (.tup (.str nm' :: rest')) → nm' = nm ∧ rest' = rest := fun e h => by
    cases e
    rw [ea] at h
    cases h
    exact ⟨rfl, rfl⟩
  cases sc with
  | step x p =>
    obtain ⟨a', e, h⟩ := h
    obtain ⟨rfl, rfl⟩ := inj e h
    exact .step o.1 o.2.1 o.2.2
  | all k =>
    obtain ⟨a', b, vs, e, h, eb, hk⟩ := h
    obtain ⟨rfl, rfl⟩ := inj e h
    exact .all eb hk o.2.2 o.2.1
  | best k =>
    obtain ⟨a', b, vs, e, h, eb, hk⟩ := h
    obtain ⟨rfl, rfl⟩ := inj e h
    exact .best eb hk o.2.2 o.2.1
  | most n s =>
    obtain ⟨a', u, e, h, hs⟩ := h
    obtain ⟨rfl, rfl⟩ := inj e h
    exact .one ⟨by decide +kernel, by decide +kernel, by decide +kernel, .inl rfl, u, s, rfl, hs, o.2, (fun z => absurd z (by decide +kernel)), (fun z => absurd z (by decide +kernel)), fun _ => ⟨n, rfl, rfl, o.1.1⟩, (fun z => absurd z (by decide +kernel)), (fun z => absurd z (by decide +kernel)), _, at1⟩
  | half s =>
    obtain ⟨a', u, e, h, hs⟩ := h
    obtain ⟨rfl, rfl⟩ := inj e h
    exact .one ⟨by decide +kernel, by decide +kernel, by decide +kernel, .inr (.inl rfl), u, s, rfl, hs, o, (fun z => absurd z (by decide +kernel)), (fun z => absurd z (by decide +kernel)), (fun z => absurd z (by decide +kernel)), fun _ => ⟨rfl, rfl⟩, (fun z => absurd z (by decide +kernel)), _, at1⟩
  | seen x s =>
    obtain ⟨a', u, e, h, hs⟩ := h
    obtain ⟨rfl, rfl⟩ := inj e h
    exact .one ⟨by decide +kernel, by decide +kernel, by decide +kernel, .inr (.inr (.inl rfl)), u, s, rfl, hs, o.2, (fun z => absurd z (by decide +kernel)), (fun _ => ⟨x, rfl, rfl, o.1⟩), (fun z => absurd z (by decide +kernel)), (fun z => absurd z (by decide +kernel)), (fun z => absurd z (by decide +kernel)), _, at1⟩
  | behind x s =>
    obtain ⟨a', u, e, h, hs⟩ := h
    obtain ⟨rfl, rfl⟩ := inj e h
    exact .behind o.1 hs o.2
  | carry s =>
    obtain ⟨a', u, e, h, hs⟩ := h
    obtain ⟨rfl, rfl⟩ := inj e h
    exact .one ⟨by decide +kernel, by decide +kernel, by decide +kernel, .inr (.inr (.inr (.inl rfl))), u, s, rfl, hs, o, (fun z => absurd z (by decide +kernel)), (fun z => absurd z (by decide +kernel)), (fun z => absurd z (by decide +kernel)), (fun z => absurd z (by decide +kernel)), fun _ => ⟨rfl, rfl⟩, _, at1⟩
  | fin x p s =>
    obtain ⟨a', u, e, h, hs⟩ := h
    obtain ⟨rfl, rfl⟩ := inj e h
    exact .one ⟨by decide +kernel, by decide +kernel, by decide +kernel, .inr (.inr (.inr (.inr rfl))), u, s, rfl, hs, o.2, (fun _ => ⟨x, p, rfl, rfl, o.1.1, o.1.2.1, o.1.2.2⟩), (fun z => absurd z (by decide +kernel)), (fun z => absurd z (by decide +kernel)), (fun z => absurd z (by decide +kernel)), (fun z => absurd z (by decide +kernel)), _, at1⟩
  | use n =>
    obtain ⟨a', e, h⟩ := h
    obtain ⟨rfl, rfl⟩ := inj e h
    exact .use o.1 o.2
theorem natV_len (l : List Nat) : (natV l).length = l.length := List.length_map _
theorem natV_snoc (l : List Nat) (j : Nat) : natV l ++ [V.int ((j : Nat) : Int)] = natV (l ++ [j]) := by
  unfold natV
  rw [List.map_append]
  rfl
theorem range_after {st n i : Nat} (h1 : st ≤ i) (h2 : i < n) : (List.range' st (n - st)).filter (fun q => decide (i < q)) = List.range' (i + 1) (n - (i + 1)) := by
  have e : List.range' st (n - st) = List.range' st (i + 1 - st) ++ List.range' (i + 1) (n - (i + 1)) := by
    have z := List.range'_append (s := st) (m := i + 1 - st) (n := n - (i + 1)) (step := 1)
    rw [Nat.one_mul, show st + (i + 1 - st) = i + 1 by omega, show i + 1 - st + (n - (i + 1)) = n - st by omega] at z
    exact z.symm
  have e1 : (List.range' st (i + 1 - st)).filter (fun q => decide (i < q)) = [] := List.filter_eq_nil_iff.mpr fun q hq => by
    have := (List.mem_range'_1.mp hq).2
    simp
    omega
  have e2 : (List.range' (i + 1) (n - (i + 1))).filter (fun q => decide (i < q)) = List.range' (i + 1) (n - (i + 1)) := List.filter_eq_self.mpr fun q hq => by
    have := (List.mem_range'_1.mp hq).1
    simp
    omega
  rw [e, List.filter_append, e1, e2, List.nil_append]
theorem hits_in {ws : List StepT} {c : Bool} {x : Str} {st i : Nat} {r : List Nat} (h : hits ws c x st = i :: r) : st ≤ i ∧ i < ws.length := by
  have m : i ∈ hits ws c x st := by rw [h]; exact List.mem_cons_self
  have z := List.mem_range'_1.mp (List.mem_filter.mp m).1
  omega
theorem flat_rep {α : Type} (x : α) : ∀ n : Nat, (List.replicate n [x]).flatten = List.replicate n x
  | 0 => rfl
  | n + 1 => by
    show [x] ++ (List.replicate n [x]).flatten = x :: List.replicate n x
    rw [flat_rep x n]
    rfl
theorem paired_rep {α β : Type} {R : α → β → Prop} {x : α} {y : β} (h : R x y) : ∀ n : Nat, Paired R (List.replicate n x) (List.replicate n y)
  | 0 => .nil
  | n + 1 => .cons h (paired_rep h n)
theorem natV_ints (l : List Nat) : natV l = (l.map fun j : Nat => ((j : Nat) : Int)).map V.int := by
  unfold natV
  rw [List.map_map]
  rfl
theorem ints_nil (ns : List Int) : PyData.eqv (.list (ns.map PyData.int)) (.list []) = ns.isEmpty := by
  cases ns with
  | nil => rfl
  | cons a r => rfl
theorem cat_where {K : PySem.W.Frag} {σ : St} {H : Hp} {wr : Addr} {wh : List Nat} {j : Nat} {te : TE} {Q : VK} (s5 : σ[5]? = some (some (.ref wr))) (ewr : H wr = some (.tup (natV wh))) (hl : wh.length ≤ 200) (ht : ∀ Q : VK, Q (.int ((j : Nat) : Int)) H → te σ H Q)
    (q : ∀ (wr' : Addr) (H' : Hp), Same H H' → H' wr' = some (.tup (natV (wh ++ [j]))) → Q (.ref wr') H') : tOp (rCatA K) (tVar 5) (tTup (tCons te tNil)) σ H Q := by
  refine ⟨_, s5, ht _ ⟨(by show 1 ≤ sizeLine; decide), fun t htn => ⟨wr, t, natV wh, [.int ((j : Nat) : Int)], rfl, rfl, SqT.of (Same.new htn _ _ ewr), SqT.of upd_same, szN (by rw [natV_len]; show wh.length + 1 ≤ 1000; omega), (fun z => ?_), (fun _ z => nomatch z), fun z _ p hp => ?_⟩⟩⟩
  · have z' : wh = [] := List.map_eq_nil_iff.mp z
    subst z'
    exact q t _ (Same.new htn) upd_same
  · exact q p _ ((Same.new htn).trans (Same.new hp)) (by rw [upd_same, natV_snoc])
theorem allU_snoc {α : Type} (f : Sch → Nat → List α) : ∀ (l : List Sch) (s : Sch) (j : Nat), allU f (l ++ [s]) j = allU f l j ++ f s (j + l.length)
  | [], s, j => by
    show f s j ++ [] = [] ++ f s (j + 0)
    rw [List.append_nil]
    rfl
  | a :: l, s, j => by
    show f a j ++ allU f (l ++ [s]) (j + 1) = (f a j ++ allU f l (j + 1)) ++ f s (j + (l.length + 1))
    rw [allU_snoc f l s (j + 1), List.append_assoc, show j + 1 + l.length = j + (l.length + 1) by omega]
theorem bestU_snoc {α : Type} (f : Sch → Nat → List α) : ∀ (l : List Sch) (s : Sch) (j : Nat) (acc : List α), bestU f (l ++ [s]) j acc = if (bestU f l j acc).length < (f s (j + l.length)).length then f s (j + l.length) else bestU f l j acc
  | [], s, j, acc => rfl
  | a :: l, s, j, acc => by
    show bestU f (l ++ [s]) (j + 1) _ = if (bestU f l (j + 1) _).length < (f s (j + (l.length + 1))).length then f s (j + (l.length + 1)) else bestU f l (j + 1) _
    rw [bestU_snoc f l s (j + 1), show j + 1 + l.length = j + (l.length + 1) by omega]
theorem le_sum {l : List Int} (h : ∀ x ∈ l, 0 ≤ x) : ∀ x ∈ l, x ≤ l.sum := by
  induction l with
  | nil => intro x hx; cases hx
  | cons a r ih =>
    intro x hx
    have nn : ∀ {r : List Int}, (∀ x ∈ r, 0 ≤ x) → 0 ≤ r.sum := by
      intro r
      induction r with
      | nil => intro _; exact Int.le_refl _
      | cons b t ih2 =>
        intro h2
        have := ih2 fun x hx => h2 x (List.mem_cons_of_mem _ hx)
        have := h2 b List.mem_cons_self
        rw [List.sum_cons]
        omega
    have n1 := nn fun x hx => h x (List.mem_cons_of_mem _ hx)
    rw [List.sum_cons]
    rcases List.mem_cons.mp hx with rfl | hx
    · omega
    · have := ih (fun x hx => h x (List.mem_cons_of_mem _ hx)) x hx
      have := h a List.mem_cons_self
      omega
theorem ev_and_new {t u : TT} {σ : St} {H : Hp} {b c : Bool} (h1 : ∀ Q : Bool → Hp → Prop, (∀ H', Same H H' → Q b H') → t σ H Q) (h2 : b = true → ∀ H', Same H H' → ∀ Q : Bool → Hp → Prop, (∀ H'', Same H' H'' → Q c H'') → u σ H' Q) :
    ∀ Q : Bool → Hp → Prop, (∀ H', Same H H' → Q (b && c) H') → tAnd t u σ H Q := fun Q q => h1 _ fun H' s => by
  cases b with
  | true => exact iteT (h2 rfl H' s _ fun H'' s'' => q H'' (s.trans s''))
  | false => exact iteF (q H' s)
theorem seq_to {C : Prop} {tc : TT} {t r : TS} {D : Ends} {σ : St} {H : Hp} {b : Bool} (h : ∀ Q : Bool → Hp → Prop, (∀ H', Same H H' → Q b H') → tc σ H Q) (k1 : b = true → ∀ H', Same H H' → (C → ∀ H'', Same H H'' → r D σ H'') → t { D with nx := r D } σ H') (k2 : b = false → C)
    (rest : C → ∀ H', Same H H' → r D σ H') : tSeq (tIfS tc t tNext) r D σ H := seq_new h (fun e H' s => k1 e H' s rest) (fun e H' s => rest (k2 e) H' s)
theorem to_new {t : TT} {σ : St} {H H0 : Hp} {b : Bool} (s : Same H0 H) (h : ∀ Q : Bool → Hp → Prop, Q b H → t σ H Q) : ∀ Q : Bool → Hp → Prop, (∀ H', Same H0 H' → Q b H') → t σ H Q := fun Q q => h Q (q H s)
theorem range_last {st n : Nat} (h : st < n) : List.range' st (n - st) = List.range' st (n - st - 1) ++ [n - 1] := by
  have e : n - st = (n - st - 1) + 1 := by omega
  have z := List.range'_concat (s := st) (n := n - st - 1) (step := 1)
  rw [← e, Nat.one_mul, show st + (n - st - 1) = n - 1 by omega] at z
  exact z
theorem paired_app {α β : Type} {R : α → β → Prop} {as cs : List α} {bs ds : List β} (h : Paired R as bs) (g : Paired R cs ds) : Paired R (as ++ cs) (bs ++ ds) := by
  induction h with
  | nil => exact g
  | cons r _ ih => exact .cons r ih
theorem in_words (x : Str) (ws : List StepT) : inV (.str x) (ws.map fun p : StepT => V.str p.1) = ws.any fun p => p.1 == x := by
  unfold inV
  rw [List.any_map]
  rfl
theorem or_carry {σ : St} {H : Hp} {c : Bool} {nm : Str} {Q : VK} (s4 : σ[4]? = some (some (.bl c))) (s6 : σ[6]? = some (some (.str nm))) (q : Q (.bl (c || nm == "carry")) H) : tOrV (tVar 4) (tOp rEq (tVar 6) (tC (.str "carry"))) σ H Q :=
  ⟨_, s4, c, rfl, by
    cases c with
    | true => exact iteT q
    | false => exact iteF ⟨_, s6, rfl, by rw [dec_str]; exact q⟩⟩
theorem look_last {st n : Nat} (h : st < n) : atI (natV (List.range' st (n - st))) (-1) = some (V.int ((n - 1 : Nat) : Int)) := by
  rw [range_last h, ← natV_snoc]
  exact atI_last _ _
theorem last_get {ws : List StepT} (h : 0 < ws.length) : ws.getLast? = some (ws[ws.length - 1]'(by omega)) := by
  rw [List.getLast?_eq_getElem?, List.getElem?_eq_getElem (by omega)]
theorem steps_last {ws : List StepT} (h : 0 < ws.length) : atI (stepsV ws) (-1) = some (V.str (stepS (ws[ws.length - 1]'(by omega)))) := by
  have hl : (stepsV ws).length = ws.length := List.length_map _
  unfold atI ixN
  rw [hl, if_neg (by decide), if_pos (by omega), show ((-1 : Int) + (ws.length : Int)).toNat = ws.length - 1 by omega]
  exact get_map (fun p => V.str (stepS p)) ws (by omega)
def seenW : Sch → Str
  | .seen x _ => x
  | _ => ""
theorem get_most {x y : V} : valV (mergeK [] [((.inr "most" : Key), x), (.inr "half", y)]) (.inr "most") = some x := by
  have h1 : ((.inr "most" : Key) = .inr "half") = False := by simp; decide +kernel
  have h2 : ((.inr "half" : Key) = .inr "most") = False := by simp; decide +kernel
  simp [mergeK, putK, valV, h1, h2]
theorem get_half {x y : V} : valV (mergeK [] [((.inr "most" : Key), x), (.inr "half", y)]) (.inr "half") = some y := by
  have h1 : ((.inr "most" : Key) = .inr "half") = False := by simp; decide +kernel
  have h2 : ((.inr "half" : Key) = .inr "most") = False := by simp; decide +kernel
  simp [mergeK, putK, valV, h1, h2]
theorem get_none {x y : V} {nm : Str} (n1 : ("most" : Str) ≠ nm) (n2 : ("half" : Str) ≠ nm) : valV (mergeK [] [((.inr "most" : Key), x), (.inr "half", y)]) (.inr nm) = none := by
  have h1 : ((.inr "most" : Key) = .inr "half") = False := by simp; decide +kernel
  have h3 : ((.inr "most" : Key) = .inr nm) = False := by simpa using n1
  have h4 : ((.inr "half" : Key) = .inr nm) = False := by simpa using n2
  simp [mergeK, putK, valV, h1, h3, h4]
section
variable {P : Program} {w : World} {K : PySem.W.Frag} {mg : Str → Option Value} {base : Heap}
end
end MS
end
section
set_option maxRecDepth 100000
set_option maxHeartbeats 4000000
namespace MS
open PySem L2
theorem rg_nat (n : Nat) : rgV 0 (n : Int) = natV (List.range' 0 n) := by
  unfold rgV natV
  rw [show ((n : Int) - 0).toNat = n by omega, List.range_eq_range']
  refine List.map_congr_left fun i _ => ?_
  rw [Int.zero_add]
theorem PaperOk.facts {ps : List Sch} (h : PaperOk ps) : ∃ ce : Nat → Int, (∀ (j : Nat) (s : Sch), ps[j]? = some s → OkS j ps.length 5 s ∧ ce j = er ce 5 s) ∧ (∀ j, j < ps.length → 0 ≤ ce j) ∧ ∀ j, j < ps.length → ce j ≤ 7 := by
  obtain ⟨_, _, ce, cw, t⟩ := h
  have hp : ∀ (j : Nat) (s : Sch), ps[j]? = some s → OkS j ps.length 5 s ∧ ce j = er ce 5 s := fun j s e => by
    obtain ⟨q1, q2, _⟩ := t j s e
    rw [Nat.zero_add] at q1 q2
    exact ⟨q1, q2⟩
  have h0 : ∀ n j, ps.length - j ≤ n → j < ps.length → 0 ≤ ce j := by
    intro n
    induction n with
    | zero => intro j a b; omega
    | succ n ih =>
      intro j a b
      obtain ⟨o, e⟩ := hp j _ (List.getElem?_eq_getElem b)
      rw [e]
      exact er_nonneg (fun j' h1 h2 => ih j' (by omega) h2) 5 _ o
  refine ⟨ce, hp, fun j hj => h0 _ j (Nat.le_refl _) hj, fun j hj => ?_⟩
  obtain ⟨_, q2, _, _, q5, _⟩ := t j _ (List.getElem?_eq_getElem hj)
  rw [Nat.zero_add] at q2
  rw [q2]
  exact q5
/-- a paper, a work -/
structure PWAt (H : Hp) (ps : List Sch) (ws : List StepT) (pa wa : Addr) : Prop where
  paper : ∃ pv, H pa = some (.tup pv) ∧ Paired (SAt H 5) ps pv
  work : H wa = some (.lst (stepsV ws))
theorem PWAt.keep {H H' : Hp} {ps : List Sch} {ws : List StepT} {pa wa : Addr} (h : PWAt H ps ws pa wa) (k : Same H H') : PWAt H' ps ws pa wa := by
  obtain ⟨⟨pv, e, p⟩, h2⟩ := h
  exact ⟨⟨pv, k _ _ e, paired_imp p fun s v => SAt.keep (Same.tupK k) _ _ _⟩, k _ _ h2⟩
/-- all that is earned, point by point -/
def uAll (ps : List Sch) (ws : List StepT) : List Un := match ps with
  | [] => []
  | s :: _ => uP ps ws 30 s 0 false []
/-- the rows of points -/
abbrev Row := Nat × Nat × List Nat
def addU (acc : List Row) (u : Un) : List Row := match acc.getLast? with
  | some (_, n, wh) => if wh = u.2 then acc.dropLast ++ [(u.1, n + 1, u.2)] else acc ++ [(u.1, 1, u.2)]
  | none => [(u.1, 1, u.2)]
def eP (us : List Un) : List Row := us.foldl addU []
def RowR (H : Hp) (u : Row) (v : V) : Prop := ∃ a b, v = V.ref a ∧ H a = some (.tup [.int ((u.1 : Nat) : Int), .int ((u.2.1 : Nat) : Int), .ref b]) ∧ H b = some (.tup (natV u.2.2))
theorem RowR.keep {H H' : Hp} {u : Row} {v : V} (h : RowR H u v) (k : TupK H H') : RowR H' u v := by
  obtain ⟨a, b, e, h1, h2⟩ := h
  exact ⟨a, b, e, k _ _ h1, k _ _ h2⟩
def spMarks (ps : List Sch) (ws : List StepT) : Sp := fun vs H Q _ => ∃ pa wa, vs = [.ref pa, .ref wa] ∧ PWAt H ps ws pa wa ∧ ∀ H', Same H H' → Q (.int (((uAll ps ws).length : Nat) : Int)) H'
def spEarned (ps : List Sch) (ws : List StepT) : Sp := fun vs H Q _ => ∃ pa wa, vs = [.ref pa, .ref wa] ∧ PWAt H ps ws pa wa ∧ ∀ (f : Addr) (rv : List V) (H' : Hp), Same H H' → H f = none → H' f = some (.lst rv) → Paired (RowR H') (eP (uAll ps ws)) rv → Q (.ref f) H'
theorem one_new {tc : TT} {t u : TS} {D : Ends} {σ : St} {H : Hp} {b : Bool} (h : ∀ Q : Bool → Hp → Prop, (∀ H', Same H H' → Q b H') → tc σ H Q) (k1 : b = true → ∀ H', Same H H' → t D σ H') (k2 : b = false → ∀ H', Same H H' → u D σ H') : tIfS tc t u D σ H := h _ fun H' s => by
  cases b with
  | true => exact iteT (k1 rfl H' s)
  | false => exact iteF (k2 rfl H' s)
theorem list_nil (ds : List PyData) : PyData.eqv (.list ds) (.list []) = ds.isEmpty := by
  cases ds with
  | nil => simp only [PyData.eqv, PyData.eqvAll]; rfl
  | cons a r => simp only [PyData.eqv, PyData.eqvAll]; rfl
def natD (l : List Nat) : List PyData := l.map fun j : Nat => PyData.int ((j : Nat) : Int)
theorem natD_eqvAll : ∀ l m : List Nat, PyData.eqvAll (natD l) (natD m) = decide (l = m)
  | [], [] => by show PyData.eqvAll [] [] = _; simp only [PyData.eqvAll]; rfl
  | [], b :: m => by show PyData.eqvAll [] (_ :: _) = _; simp only [PyData.eqvAll]; rfl
  | a :: l, [] => by show PyData.eqvAll (_ :: _) [] = _; simp only [PyData.eqvAll]; rfl
  | a :: l, b :: m => by
    have ih := natD_eqvAll l m
    show PyData.eqvAll (PyData.int ((a : Nat) : Int) :: natD l) (PyData.int ((b : Nat) : Int) :: natD m) = _
    simp only [PyData.eqvAll, PyData.eqv, ih]
    by_cases h1 : a = b
    · subst h1
      by_cases h2 : l = m
      · subst h2; simp
      · simp [h2]
    · have : ((a : Nat) : Int) ≠ ((b : Nat) : Int) := by omega
      simp [h1, this]
theorem natD_eqv (l m : List Nat) : PyData.eqv (.tuple (natD l)) (.tuple (natD m)) = decide (l = m) := by
  simp only [PyData.eqv]
  exact natD_eqvAll l m
theorem natD_sh (n : Nat) (l : List Nat) : ShAll n (natD l) := ShAll.of fun d h => by
  obtain ⟨i, _, rfl⟩ := List.mem_map.mp h
  exact .int _
theorem natD_dp {K : PySem.W.Frag} {H : Hp} : ∀ l : List Nat, DpAll K H (natV l) (natD l)
  | [] => .nil
  | n :: r => .cons (.int _) (natD_dp r)
def rowD (r : Row) : PyData := .tuple [.int ((r.1 : Nat) : Int), .int ((r.2.1 : Nat) : Int), .tuple (natD r.2.2)]
theorem rowD_sh (r : Row) : ShN 2 (rowD r) := .tup (.cons (.int _) (.cons (.int _) (.cons (.tup (natD_sh 0 _)) .nil)))
theorem rows_sh (rs : List Row) : ShN 3 (.list (rs.map rowD)) := .lst (ShAll.of fun d h => by
  obtain ⟨r, _, rfl⟩ := List.mem_map.mp h
  exact rowD_sh r)
theorem rows_dp {K : PySem.W.Frag} {H : Hp} : ∀ {rs : List Row} {rv : List V}, Paired (RowR H) rs rv → DpAll K H rv (rs.map rowD)
  | _, _, .nil => .nil
  | _, _, .cons h t => by
    obtain ⟨a, b, rfl, h1, h2⟩ := h
    exact .cons (.tup (SqT.of h1) (.cons (.int _) (.cons (.int _) (.cons (.tup (SqT.of h2) (natD_dp _)) .nil)))) (rows_dp t)
theorem paired_snoc_inv {α β : Type} {R : α → β → Prop} : ∀ {xs : List α} {x : α} {ys : List β}, Paired R (xs ++ [x]) ys → ∃ ys' y, ys = ys' ++ [y] ∧ Paired R xs ys' ∧ R x y
  | [], x, _, .cons h .nil => ⟨[], _, rfl, .nil, h⟩
  | a :: xs, x, _, .cons h t => by
    obtain ⟨ys', y, e, h1, h2⟩ := paired_snoc_inv t
    exact ⟨_ :: ys', y, by rw [e]; rfl, .cons h h1, h2⟩
theorem last_set (xs : List V) (x y : V) : (xs ++ [x]).set xs.length y = xs ++ [y] := by
  rw [List.set_append_right _ _ (Nat.le_refl _), Nat.sub_self]
  rfl
theorem ixN_last {n : Nat} : ixN (n + 1) (-1) = some n := by
  unfold ixN
  rw [if_neg (by decide), if_pos (by omega)]
  congr 1
  omega
theorem addU_len (acc : List Row) (u : Un) : (addU acc u).length ≤ acc.length + 1 := by
  unfold addU
  split
  · split
    · rw [List.length_append, List.length_dropLast, List.length_singleton]
      omega
    · simp
  · simp
def sameW (acc : List Row) (u : Un) : Bool := match acc.getLast? with
  | some r => decide (r.2.2 = u.2)
  | none => false
theorem sameW_snoc (ini : List Row) (r : Row) (u : Un) : sameW (ini ++ [r]) u = decide (r.2.2 = u.2) := by
  unfold sameW
  rw [show (ini ++ [r]).getLast? = some r by simp]
theorem addU_same (ini : List Row) (r : Row) (u : Un) (h : r.2.2 = u.2) : addU (ini ++ [r]) u = ini ++ [(u.1, r.2.1 + 1, u.2)] := by
  unfold addU
  rw [show (ini ++ [r]).getLast? = some r by simp]
  obtain ⟨a, b, c⟩ := r
  show (if c = u.2 then _ else _) = _
  rw [if_pos h]
  simp
theorem addU_else (acc : List Row) (u : Un) (h : ((!acc.isEmpty) && sameW acc u) = false) : addU acc u = acc ++ [(u.1, 1, u.2)] := by
  rcases List.eq_nil_or_concat acc with rfl | ⟨ini, r, rfl⟩
  · rfl
  · rw [List.concat_eq_append] at h ⊢
    rw [sameW_snoc] at h
    have h2 : r.2.2 ≠ u.2 := fun z => by
      rw [z, decide_eq_true rfl, Bool.and_true] at h
      cases ini <;> cases h
    unfold addU
    rw [show (ini ++ [r]).getLast? = some r by simp]
    obtain ⟨a, b, c⟩ := r
    show (if c = u.2 then _ else _) = _
    rw [if_neg h2]
section
variable {P : Program} {w : World} {K : PySem.W.Frag} {mg : Str → Option Value} {base : Heap}
end
end MS
end
section
set_option maxRecDepth 100000
set_option maxHeartbeats 4000000
namespace MS
open PySem L2
/-! ### rows and points: the same told twice -/
def pts (rs : List Row) : Nat := (rs.map fun r => r.2.1).sum
def expand (rs : List Row) : List Un := rs.flatMap fun r => List.replicate r.2.1 (r.1, r.2.2)
/-- the first so many points of rows -/
def firstP : List Row → Nat → List Row
  | [], _ => []
  | (i, n, wh) :: r, left => if left = 0 then [] else (i, min n left, wh) :: firstP r (left - min n left)
def bestR (f : Sch → Nat → List Row) : List Sch → Nat → List Row → List Row
  | [], _, acc => acc
  | s :: r, j, acc => bestR f r (j + 1) (if pts acc < pts (f s j) then f s j else acc)
def rP (ps : List Sch) (ws : List StepT) : Nat → Sch → Nat → Bool → List Nat → List Row
  | 0, _, _, _, _ => []
  | k + 1, .step x p, st, c, wh => match hits ws c x st with
    | [] => []
    | i :: _ => [(i, p.toNat, wh)]
  | k + 1, .behind x s, st, c, wh => match hits ws c x st with
    | [] => []
    | i :: _ => rP ps ws k s (i + 1) c (wh ++ [0])
  | k + 1, .use n, st, c, wh => match ps[n]? with
    | none => []
    | some s => rP ps ws k s st c (wh ++ [0])
  | k + 1, .all ks, st, c, wh => allU (fun s j => rP ps ws k s st c (wh ++ [j])) ks 0
  | k + 1, .best ks, st, c, wh => bestR (fun s j => rP ps ws k s st c (wh ++ [j])) ks 0 []
  | k + 1, .fin x p s, st, c, wh => if lastOk ws c x st = true then [(ws.length - 1, p.toNat, wh)] else rP ps ws k s st c (wh ++ [0])
  | k + 1, .seen x s, st, c, wh => if (ws.any fun p => p.1 == x) = true then rP ps ws k s st c (wh ++ [0]) else []
  | k + 1, .most n s, st, c, wh => firstP (rP ps ws k s st c (wh ++ [0])) n.toNat
  | k + 1, .half s, st, c, wh => firstP (rP ps ws k s st c (wh ++ [0])) (pts (rP ps ws k s st c (wh ++ [0])) / 2)
  | k + 1, .carry s, st, c, wh => rP ps ws k s st true (wh ++ [0])
theorem pts_zero : pts [] = 0 := rfl
theorem pts_cons (r : Row) (rs : List Row) : pts (r :: rs) = r.2.1 + pts rs := by
  unfold pts
  rw [List.map_cons, List.sum_cons]
theorem expand_cons (r : Row) (rs : List Row) : expand (r :: rs) = List.replicate r.2.1 (r.1, r.2.2) ++ expand rs := by
  unfold expand
  rw [List.flatMap_cons]
theorem expand_app (as bs : List Row) : expand (as ++ bs) = expand as ++ expand bs := by
  unfold expand
  rw [List.flatMap_append]
theorem expand_len : ∀ rs : List Row, (expand rs).length = pts rs
  | [] => rfl
  | r :: rs => by rw [expand_cons, List.length_append, List.length_replicate, expand_len rs, pts_cons]
theorem expand_first : ∀ (rs : List Row) (n : Nat), expand (firstP rs n) = (expand rs).take n
  | [], n => by
    show [] = List.take n []
    rw [List.take_nil]
  | (i, m, wh) :: r, n => by
    unfold firstP
    by_cases h : n = 0
    · rw [if_pos h, h, List.take_zero]
      rfl
    · rw [if_neg h, expand_cons, expand_cons, expand_first r, List.take_append, List.length_replicate, List.take_replicate]
      show List.replicate (min m n) _ ++ _ = List.replicate (min n m) _ ++ _
      rw [Nat.min_comm m n, show n - min n m = n - m by omega]
theorem expand_all {f : Sch → Nat → List Row} {g : Sch → Nat → List Un} : ∀ (ks : List Sch) (j : Nat), (∀ s ∈ ks, ∀ j, g s j = expand (f s j)) → allU g ks j = expand (allU f ks j)
  | [], _, _ => rfl
  | s :: r, j, h => by
    show g s j ++ allU g r (j + 1) = expand (f s j ++ allU f r (j + 1))
    rw [expand_app, h s List.mem_cons_self j, expand_all r (j + 1) fun s hs => h s (List.mem_cons_of_mem _ hs)]
theorem expand_best {f : Sch → Nat → List Row} {g : Sch → Nat → List Un} : ∀ (ks : List Sch) (j : Nat) (acc : List Row), (∀ s ∈ ks, ∀ j, g s j = expand (f s j)) → bestU g ks j (expand acc) = expand (bestR f ks j acc)
  | [], _, _, _ => rfl
  | s :: r, j, acc, h => by
    show bestU g r (j + 1) (if (expand acc).length < (g s j).length then g s j else expand acc) = expand (bestR f r (j + 1) (if pts acc < pts (f s j) then f s j else acc))
    rw [h s List.mem_cons_self j, expand_len, expand_len, ← expand_best r (j + 1) _ fun s hs => h s (List.mem_cons_of_mem _ hs)]
    split <;> rfl
/-- the points are those of the rows -/
theorem uP_expand {ps : List Sch} {ws : List StepT} : ∀ (k : Nat) (s : Sch) (st : Nat) (c : Bool) (wh : List Nat), uP ps ws k s st c wh = expand (rP ps ws k s st c wh)
  | 0, _, _, _, _ => rfl
  | k + 1, .step x p, st, c, wh => by
    unfold uP rP
    cases hits ws c x st with
    | nil => rfl
    | cons i r => show List.replicate _ _ = expand [_]; rw [expand_cons]; show _ = List.replicate _ _ ++ []; rw [List.append_nil]
  | k + 1, .behind x s, st, c, wh => by
    unfold uP rP
    cases hits ws c x st with
    | nil => rfl
    | cons i r => exact uP_expand k s _ c _
  | k + 1, .use n, st, c, wh => by
    unfold uP rP
    cases ps[n]? with
    | none => rfl
    | some s => exact uP_expand k s st c _
  | k + 1, .all ks, st, c, wh => expand_all ks 0 fun s _ j => uP_expand k s st c _
  | k + 1, .best ks, st, c, wh => expand_best ks 0 [] fun s _ j => uP_expand k s st c _
  | k + 1, .fin x p s, st, c, wh => by
    unfold uP rP
    split
    · rw [expand_cons]
      show _ = List.replicate _ _ ++ []
      rw [List.append_nil]
    · exact uP_expand k s st c _
  | k + 1, .seen x s, st, c, wh => by
    unfold uP rP
    split
    · exact uP_expand k s st c _
    · rfl
  | k + 1, .most n s, st, c, wh => by
    unfold uP rP
    rw [uP_expand k s st c _, expand_first]
  | k + 1, .half s, st, c, wh => by
    unfold uP rP
    rw [uP_expand k s st c _, expand_first, expand_len]
  | k + 1, .carry s, st, c, wh => uP_expand k s st true _
/-- rows that can stand side by side: each has points, no two one place -/
def Good (wh : List Nat) (rs : List Row) : Prop := (∀ r ∈ rs, 0 < r.2.1 ∧ wh <+: r.2.2) ∧ (rs.map fun r => r.2.2).Nodup
theorem Good.nil (wh : List Nat) : Good wh [] := ⟨(fun _ h => nomatch h), List.nodup_nil⟩
theorem Good.one {i n : Nat} (wh : List Nat) (h : 0 < n) : Good wh [(i, n, wh)] := ⟨fun r hr => by rw [List.mem_singleton.mp hr]; exact ⟨h, List.prefix_refl _⟩, by simp⟩
theorem Good.up {wh : List Nat} {j : Nat} {rs : List Row} (h : Good (wh ++ [j]) rs) : Good wh rs := ⟨fun r hr => ⟨(h.1 r hr).1, (List.prefix_append _ _).trans (h.1 r hr).2⟩, h.2⟩
theorem first_mem : ∀ (rs : List Row) (n : Nat) (r : Row), r ∈ firstP rs n → (∀ r ∈ rs, 0 < r.2.1) → 0 < r.2.1 ∧ ∃ r' ∈ rs, r'.2.2 = r.2.2
  | [], _, _, h, _ => by cases h
  | (i, m, w) :: t, n, r, h, hp => by
    unfold firstP at h
    by_cases hn : n = 0
    · rw [if_pos hn] at h
      cases h
    · rw [if_neg hn] at h
      rcases List.mem_cons.mp h with rfl | h
      · have : 0 < m := hp _ List.mem_cons_self
        exact ⟨by show 0 < min m n; omega, _, List.mem_cons_self, rfl⟩
      · obtain ⟨h1, r', h2, h3⟩ := first_mem t _ r h fun r hr => hp r (List.mem_cons_of_mem _ hr)
        exact ⟨h1, r', List.mem_cons_of_mem _ h2, h3⟩
theorem first_sub : ∀ (rs : List Row) (n : Nat), ((firstP rs n).map fun r => r.2.2).Sublist (rs.map fun r => r.2.2)
  | [], _ => List.Sublist.slnil
  | (i, m, w) :: t, n => by
    unfold firstP
    split
    · exact List.nil_sublist _
    · exact (first_sub t _).cons_cons _
theorem Good.first {wh : List Nat} {rs : List Row} (h : Good wh rs) (n : Nat) : Good wh (firstP rs n) := ⟨fun r hr => by
  obtain ⟨h1, r', h2, h3⟩ := first_mem rs n r hr fun r hr => (h.1 r hr).1
  exact ⟨h1, by rw [← h3]; exact (h.1 r' h2).2⟩, h.2.sublist (first_sub rs n)⟩
theorem pre_eq {wh t : List Nat} {i j : Nat} (h1 : wh ++ [i] <+: t) (h2 : wh ++ [j] <+: t) : i = j := by
  have h := List.prefix_of_prefix_length_le h1 h2 (by simp)
  obtain ⟨u, hu⟩ := h
  rw [List.append_assoc] at hu
  have := List.append_cancel_left hu
  simp at this
  exact this.1
theorem good_all {wh : List Nat} {f : Sch → Nat → List Row} : ∀ (ks : List Sch) (j : Nat), (∀ s ∈ ks, ∀ j, Good (wh ++ [j]) (f s j)) → (∀ r ∈ allU f ks j, 0 < r.2.1 ∧ ∃ j', j ≤ j' ∧ wh ++ [j'] <+: r.2.2) ∧ ((allU f ks j).map fun r => r.2.2).Nodup
  | [], _, _ => ⟨(fun _ h => nomatch h), List.nodup_nil⟩
  | s :: t, j, h => by
    obtain ⟨a1, a2⟩ := good_all t (j + 1) fun s hs => h s (List.mem_cons_of_mem _ hs)
    have g := h s List.mem_cons_self j
    show (∀ r ∈ f s j ++ allU f t (j + 1), _) ∧ ((f s j ++ allU f t (j + 1)).map fun r => r.2.2).Nodup
    refine ⟨fun r hr => ?_, ?_⟩
    · rcases List.mem_append.mp hr with hr | hr
      · exact ⟨(g.1 r hr).1, j, Nat.le_refl _, (g.1 r hr).2⟩
      · obtain ⟨p, j', h1, h2⟩ := a1 r hr
        exact ⟨p, j', by omega, h2⟩
    · rw [List.map_append]
      refine List.nodup_append.mpr ⟨g.2, a2, fun x hx y hy e => ?_⟩
      obtain ⟨r1, m1, rfl⟩ := List.mem_map.mp hx
      obtain ⟨r2, m2, e2⟩ := List.mem_map.mp hy
      obtain ⟨_, j', h1, h2⟩ := a1 r2 m2
      have p1 := (g.1 r1 m1).2
      rw [e, ← e2] at p1
      have := pre_eq p1 h2
      omega
theorem good_best {wh : List Nat} {f : Sch → Nat → List Row} : ∀ (ks : List Sch) (j : Nat) (acc : List Row), (∀ s ∈ ks, ∀ j, Good (wh ++ [j]) (f s j)) → Good wh acc → Good wh (bestR f ks j acc)
  | [], _, _, _, g => g
  | s :: t, j, acc, h, g => good_best t (j + 1) _ (fun s hs => h s (List.mem_cons_of_mem _ hs)) (by
    split
    · exact (h s List.mem_cons_self j).up
    · exact g)
theorem rP_good {ps : List Sch} {ws : List StepT} {M : Nat} (hp : ∀ (j : Nat) (s : Sch), ps[j]? = some s → OkS j M 5 s) : ∀ (k : Nat) (i d : Nat) (s : Sch) (st : Nat) (c : Bool) (wh : List Nat), OkS i M d s → Good wh (rP ps ws k s st c wh)
  | 0, _, _, _, _, _, _, _ => Good.nil _
  | k + 1, i, 0, s, st, c, wh, o => by cases o
  | k + 1, i, d + 1, .step x p, st, c, wh, o => by
    unfold rP
    have := o.2.1
    split
    · exact Good.nil _
    · exact Good.one _ (by omega)
  | k + 1, i, d + 1, .behind x s, st, c, wh, o => by
    unfold rP
    split
    · exact Good.nil _
    · exact (rP_good hp k i d s _ c _ o.2).up
  | k + 1, i, d + 1, .use n, st, c, wh, o => by
    unfold rP
    split
    · exact Good.nil _
    · rename_i s e
      exact (rP_good hp k n 5 s st c _ (hp n s e)).up
  | k + 1, i, d + 1, .all ks, st, c, wh, o => by
    obtain ⟨a1, a2⟩ := good_all (wh := wh) (f := fun s j => rP ps ws k s st c (wh ++ [j])) ks 0 fun s hs j => rP_good hp k i d s st c _ (o.2.2 s hs)
    exact ⟨fun r hr => by
      obtain ⟨p, j', _, h2⟩ := a1 r hr
      exact ⟨p, (List.prefix_append _ _).trans h2⟩, a2⟩
  | k + 1, i, d + 1, .best ks, st, c, wh, o => good_best ks 0 [] (fun s hs j => rP_good hp k i d s st c _ (o.2.2 s hs)) (Good.nil _)
  | k + 1, i, d + 1, .fin x p s, st, c, wh, o => by
    unfold rP
    have := o.1.2.1
    split
    · exact Good.one _ (by omega)
    · exact (rP_good hp k i d s st c _ o.2).up
  | k + 1, i, d + 1, .seen x s, st, c, wh, o => by
    unfold rP
    split
    · exact (rP_good hp k i d s st c _ o.2).up
    · exact Good.nil _
  | k + 1, i, d + 1, .most n s, st, c, wh, o => ((rP_good hp k i d s st c _ o.2).up).first _
  | k + 1, i, d + 1, .half s, st, c, wh, o => ((rP_good hp k i d s st c _ o).up).first _
  | k + 1, i, d + 1, .carry s, st, c, wh, o => (rP_good hp k i d s st true _ o).up
theorem add_more (acc : List Row) (i : Nat) (w : List Nat) : ∀ (n m : Nat), (List.replicate n ((i, w) : Un)).foldl addU (acc ++ [(i, m, w)]) = acc ++ [(i, m + n, w)]
  | 0, m => rfl
  | n + 1, m => by
    show (List.replicate n ((i, w) : Un)).foldl addU (addU (acc ++ [(i, m, w)]) (i, w)) = _
    rw [addU_same acc (i, m, w) (i, w) rfl]
    show (List.replicate n ((i, w) : Un)).foldl addU (acc ++ [(i, m + 1, w)]) = _
    rw [add_more acc i w n (m + 1), show m + 1 + n = m + (n + 1) by omega]
theorem add_rows : ∀ (rs acc : List Row), (∀ r ∈ rs, 0 < r.2.1) → ((acc ++ rs).map fun r => r.2.2).Nodup → (expand rs).foldl addU acc = acc ++ rs
  | [], acc, _, _ => by rw [List.append_nil]; rfl
  | (i, n, w) :: t, acc, hp, hn => by
    have n0 : 0 < n := hp _ List.mem_cons_self
    obtain ⟨m, rfl⟩ : ∃ m, n = m + 1 := ⟨n - 1, by omega⟩
    have hnw : w ∉ acc.map fun r => r.2.2 := fun z => by
      rw [List.map_append] at hn
      exact (List.nodup_append.mp hn).2.2 w z w List.mem_cons_self rfl
    have he : addU acc (i, w) = acc ++ [(i, 1, w)] := addU_else acc (i, w) (by
      have : sameW acc (i, w) = false := by
        unfold sameW
        cases hl : acc.getLast? with
        | none => rfl
        | some r =>
          refine decide_eq_false fun e => hnw ?_
          rw [← show r.2.2 = w from e]
          exact List.mem_map_of_mem (List.mem_of_getLast? hl)
      rw [this, Bool.and_false])
    rw [expand_cons, List.foldl_append]
    show (expand t).foldl addU ((List.replicate m ((i, w) : Un)).foldl addU (addU acc (i, w))) = _
    rw [he, add_more, add_rows t _ (fun r hr => hp r (List.mem_cons_of_mem _ hr)) (by
      rw [show acc ++ [(i, 1 + m, w)] ++ t = acc ++ ((i, 1 + m, w) :: t) by simp]
      rw [List.map_append] at hn ⊢
      exact hn)]
    rw [show 1 + m = m + 1 by omega]
    simp
theorem eP_expand {wh : List Nat} {rs : List Row} (h : Good wh rs) : eP (expand rs) = rs := by
  have := add_rows rs [] (fun r hr => (h.1 r hr).1) (by simpa using h.2)
  simpa [eP] using this
/-- all rows that a work earns -/
def rAll (ps : List Sch) (ws : List StepT) : List Row := match ps with
  | [] => []
  | s :: _ => rP ps ws 30 s 0 false []
theorem eP_all {ps : List Sch} {ws : List StepT} (h : PaperOk ps) : eP (uAll ps ws) = rAll ps ws := by
  obtain ⟨ce, hp, _, _⟩ := h.facts
  cases ps with
  | nil => rfl
  | cons s r =>
    show eP (uP (s :: r) ws 30 s 0 false []) = rP (s :: r) ws 30 s 0 false []
    rw [uP_expand]
    exact eP_expand (rP_good (fun j s e => (hp j s e).1) 30 0 5 s 0 false [] (hp 0 s rfl).1)
theorem uAll_len {ps : List Sch} {ws : List StepT} : (uAll ps ws).length = pts (rAll ps ws) := by
  cases ps with
  | nil => rfl
  | cons s r =>
    show (uP (s :: r) ws 30 s 0 false []).length = pts (rP (s :: r) ws 30 s 0 false [])
    rw [uP_expand, expand_len]
end MS
end
section
set_option maxRecDepth 100000
set_option maxHeartbeats 4000000
namespace MS
open PySem L2
/-! ### the view: what a scheme looks at -/
def waysV (c : Bool) : List V := if c then [.str "r", .str "c"] else [.str "r"]
theorem ways_in {c : Bool} {m : Str} (h : IsM m) : inV (.str m) (waysV c) = (m == "r" || (c && m == "c")) := by
  have h' : m ∈ marksL := h
  have q : ∀ c : Bool, ∀ y ∈ marksL, inV (.str y) (waysV c) = (y == "r" || (c && y == "c")) := by decide +kernel
  exact q c m h'
theorem ways_flat (c : Bool) : (waysV c).all flatV = true := by cases c <;> rfl
theorem n_sw : ¬ (("steps" : Str) = "ways") := by decide +kernel
theorem n_ss : ¬ (("steps" : Str) = "start") := by decide +kernel
theorem n_tw : ¬ (("start" : Str) = "ways") := by decide +kernel
def vf (wa : Addr) (st : Nat) (wp : Addr) : List (Str × V) := putF "ways" (.ref wp) (putF "start" (.int ((st : Nat) : Int)) (putF "steps" (.ref wa) []))
theorem vf_steps (wa : Addr) (st : Nat) (wp : Addr) : (vf wa st wp).lookup ("steps" : Str) = some (.ref wa) := by
  unfold vf
  rw [lookup_putF, if_neg n_sw, lookup_putF, if_neg n_ss, lookup_putF, if_pos rfl]
theorem vf_start (wa : Addr) (st : Nat) (wp : Addr) : (vf wa st wp).lookup ("start" : Str) = some (.int ((st : Nat) : Int)) := by
  unfold vf
  rw [lookup_putF, if_neg n_tw, lookup_putF, if_pos rfl]
theorem vf_ways (wa : Addr) (st : Nat) (wp : Addr) : (vf wa st wp).lookup ("ways" : Str) = some (.ref wp) := by
  unfold vf
  rw [lookup_putF, if_pos rfl]
theorem vf_no (wa : Addr) (st : Nat) (wp : Addr) {m : Str} (h1 : ¬ m = "ways") (h2 : ¬ m = "start") (h3 : ¬ m = "steps") : (vf wa st wp).lookup m = none := by
  unfold vf
  rw [lookup_putF, if_neg h1, lookup_putF, if_neg h2, lookup_putF, if_neg h3]
  all_goals rfl
theorem vf_counts (wa : Addr) (st : Nat) (wp : Addr) : (vf wa st wp).lookup ("counts" : Str) = none := vf_no wa st wp (by decide +kernel) (by decide +kernel) (by decide +kernel)
theorem vf_first (wa : Addr) (st : Nat) (wp : Addr) : (vf wa st wp).lookup ("first" : Str) = none := vf_no wa st wp (by decide +kernel) (by decide +kernel) (by decide +kernel)
theorem vf_last (wa : Addr) (st : Nat) (wp : Addr) : (vf wa st wp).lookup ("last" : Str) = none := vf_no wa st wp (by decide +kernel) (by decide +kernel) (by decide +kernel)
theorem vf_stands (wa : Addr) (st : Nat) (wp : Addr) : (vf wa st wp).lookup ("stands" : Str) = none := vf_no wa st wp (by decide +kernel) (by decide +kernel) (by decide +kernel)
theorem vf_behind (wa : Addr) (st : Nat) (wp : Addr) : (vf wa st wp).lookup ("behind" : Str) = none := vf_no wa st wp (by decide +kernel) (by decide +kernel) (by decide +kernel)
theorem vf_carrying (wa : Addr) (st : Nat) (wp : Addr) : (vf wa st wp).lookup ("carrying" : Str) = none := vf_no wa st wp (by decide +kernel) (by decide +kernel) (by decide +kernel)
/-- a view stands in the heap -/
def ViewAt (C : Addr) (H : Hp) (v : Addr) (ws : List StepT) (st : Nat) (c : Bool) : Prop := ∃ dx wa wp, H v = some (.ins C dx (vf wa st wp)) ∧ H wa = some (.lst (stepsV ws)) ∧ H wp = some (.tup (waysV c))
theorem ViewAt.keep {C : Addr} {H H' : Hp} {v : Addr} {ws : List StepT} {st : Nat} {c : Bool} (h : ViewAt C H v ws st c) (k : Same H H') : ViewAt C H' v ws st c := by
  obtain ⟨dx, wa, wp, h1, h2, h3⟩ := h
  exact ⟨dx, wa, wp, k _ _ h1, k _ _ h2, k _ _ h3⟩
/-- a method of the text -/
structure DefM (K : PySem.W.Frag) (C : Addr) (m q : Str) (st : Stmt) (ps : List Str) where
  f : Addr
  fd : FuncData
  F : FunD K m q (defArgs st) (defBody st) (defScope st) [] [] f fd
  me : Meth K C m f
  b : Binds K fd ps []
theorem DefM.ok {P : Program} {w : World} {K : PySem.W.Frag} {mg : Str → Option Value} {base : Heap} {C : Addr} {m x : Str} {st : Stmt} {ps N : List Str} {k : Nat} {sp : Sp} (D : DefM K C m x st ps) (S : FnScope N ps (defScope st)) (len : ∀ vs H Q E, sp vs H Q E → vs.length = ps.length)
    (hbody : ∀ (cdv : Value) (A : Around) (outer : List Env) (s : Shared) (H : Hp) (vs : List V) (Q : VK) (E : XK), Room k (A.deeper (PyProof.Rows.envOfC x (defScope st) s.heap.objs.size D.f cdv)) → sp vs H Q E →
      ∃ t, PSs (cxOf CX0 P w K mg base N x (defScope st) D.f cdv A outer s H E).nox (defBody st) t ∧ t { nx := fun _ H' => Q .non H', rt := Q } (start N vs) H) : FnOk P w K mg base CX0 (k + 1) D.f D.fd ps sp :=
  D.F.ok S len fun cdv A outer s H vs Q E hr hsp => by
    obtain ⟨t, h, q⟩ := hbody cdv A outer s H vs Q E hr hsp
    exact ⟨t, h.nox, q⟩
/-- what the text says of the class -/
structure VCls (K : PySem.W.Frag) (mg : Str → Option Value) (C : Addr) where
  cl : Cls K C
  nSteps : NoAttr K C "steps"
  nStart : NoAttr K C "start"
  nWays : NoAttr K C "ways"
  mgC : mg "View" = some (.ref C)
  makes : PySem.W.makesIn K C = true
  kp : PySem.W.keepIn K (.ref C) = true
  DI : DefM K C "__init__" "View.__init__" s_View_init ["self", "steps", "start", "ways"]
  DC : DefM K C "counts" "View.counts" s_View_counts ["self", "place", "word"]
  DF : DefM K C "first" "View.first" s_View_first ["self", "word"]
  DL : DefM K C "last" "View.last" s_View_last ["self", "word"]
  DS : DefM K C "stands" "View.stands" s_View_stands ["self", "word"]
  DB : DefM K C "behind" "View.behind" s_View_behind ["self", "place"]
  DY : DefM K C "carrying" "View.carrying" s_View_carrying ["self"]
theorem VCls.mk' {K : PySem.W.Frag} {mg : Str → Option Value} {C : Addr} (V : VCls K mg C) : Mk K C V.DI.f := ⟨V.makes, V.DI.me.at_, V.DI.me.fn, V.kp⟩
def spVInit (C : Addr) : Sp := fun vs H Q _ => ∃ (p dx wa wp : Addr) (st : Nat), vs = [.ref p, .ref wa, .int ((st : Nat) : Int), .ref wp] ∧ H p = some (.ins C dx []) ∧ ∀ H' : Hp, H' p = some (.ins C dx (vf wa st wp)) → (∀ b, b ≠ p → H' b = H b) → Q .non H'
def spCounts (C : Addr) : Sp := fun vs H Q _ => ∃ (v : Addr) (i : Nat) (x : Str) (ws : List StepT) (st : Nat) (c : Bool) (p : StepT), vs = [.ref v, .int ((i : Nat) : Int), .str x] ∧ ViewAt C H v ws st c ∧ ws[i]? = some p ∧ IsStep p ∧ Q (.bl (okAt c x p)) H
def natO (o : Option Nat) : V := match o with
  | some i => V.int ((i : Nat) : Int)
  | none => V.non
def spVFirst (C : Addr) : Sp := fun vs H Q _ => ∃ (v : Addr) (x : Str) (ws : List StepT) (st : Nat) (c : Bool), vs = [.ref v, .str x] ∧ ViewAt C H v ws st c ∧ (∀ p ∈ ws, IsStep p) ∧ ws.length ≤ 1000 ∧ st ≤ 1000 ∧ Q (natO (hits ws c x st).head?) H
def spVLast (C : Addr) : Sp := fun vs H Q _ => ∃ (v : Addr) (x : Str) (ws : List StepT) (st : Nat) (c : Bool), vs = [.ref v, .str x] ∧ ViewAt C H v ws st c ∧ (∀ p ∈ ws, IsStep p) ∧ ws.length ≤ 1000 ∧ Q (natO (if lastOk ws c x st = true then some (ws.length - 1) else none)) H
def spStands (C : Addr) : Sp := fun vs H Q _ => ∃ (v : Addr) (x : Str) (ws : List StepT) (st : Nat) (c : Bool), vs = [.ref v, .str x] ∧ ViewAt C H v ws st c ∧ (∀ p ∈ ws, IsStep p) ∧ ws.length ≤ 900 ∧ ∀ H', Same H H' → Q (.bl (ws.any fun p => p.1 == x)) H'
def spVBehind (C : Addr) : Sp := fun vs H Q _ => ∃ (v : Addr) (i : Nat) (ws : List StepT) (st : Nat) (c : Bool), vs = [.ref v, .int ((i : Nat) : Int)] ∧ ViewAt C H v ws st c ∧ ∀ (u : Addr) (H' : Hp), Same H H' → ViewAt C H' u ws (i + 1) c → Q (.ref u) H'
def spCarrying (C : Addr) : Sp := fun vs H Q _ => ∃ (v : Addr) (ws : List StepT) (st : Nat) (c : Bool), vs = [.ref v] ∧ ViewAt C H v ws st c ∧ ∀ (u : Addr) (H' : Hp), Same H H' → ViewAt C H' u ws st true → Q (.ref u) H'
theorem hits_cons {ws : List StepT} {c : Bool} {x : Str} {i : Nat} {p : StepT} (h : ws[i]? = some p) : hits ws c x i = if okAt c x p = true then i :: hits ws c x (i + 1) else hits ws c x (i + 1) := by
  have hi := (List.getElem?_eq_some_iff.mp h).1
  unfold hits
  rw [show ws.length - i = (ws.length - (i + 1)) + 1 by omega, List.range'_succ, List.filter_cons]
  simp only [h]
theorem hits_end {ws : List StepT} {c : Bool} {x : Str} {i : Nat} (h : ws.length ≤ i) : hits ws c x i = [] := by
  unfold hits
  rw [show ws.length - i = 0 by omega]
  rfl
section
variable {P : Program} {w : World} {K : PySem.W.Frag} {mg : Str → Option Value} {base : Heap} {C : Addr}
theorem ok_vinit (Y : VCls K mg C) : FnOk P w K mg base CX0 1 Y.DI.f Y.DI.fd ["self", "steps", "start", "ways"] (spVInit C) := by
  refine Y.DI.ok sc_View_init (fun vs H Q E h => ?_) (fun cdv A outer s H vs Q E hr h => ?_)
  · obtain ⟨p, dx, wa, wp, st, rfl, _⟩ := h
    rfl
  obtain ⟨p, dx, wa, wp, st, rfl, hp, q⟩ := h
  refine ⟨_, pss_cons (ps_fld (pv 0) (pv 1) rfl) (pss_cons (ps_fld (pv 0) (pv 2) rfl) (pss_one (ps_fld (pv 0) (pv 3) rfl))), ?_⟩
  refine ⟨_, rfl, _, rfl, p, C, dx, _, rfl, hp, Y.cl, Y.nSteps, (by show 0 < 1000; decide), ?_⟩
  refine ⟨_, rfl, _, rfl, p, C, dx, _, rfl, upd_same, Y.cl, Y.nStart, (by show 1 < 1000; decide), ?_⟩
  refine ⟨_, rfl, _, rfl, p, C, dx, _, rfl, upd_same, Y.cl, Y.nWays, Nat.lt_of_le_of_lt (length_putF _ _ _) (by show 1 + 1 < 1000; decide), ?_⟩
  exact q _ upd_same fun b hb => by rw [upd_ne hb, upd_ne hb, upd_ne hb]
theorem ok_counts (Y : VCls K mg C) : FnOk P w K mg base CX0 1 Y.DC.f Y.DC.fd ["self", "place", "word"] (spCounts C) := by
  have nd := sc_View_counts.nd
  refine Y.DC.ok sc_View_counts (fun vs H Q E h => ?_) (fun cdv A outer s H vs Q E hr h => ?_)
  · obtain ⟨v, i, x, ws, st, c, p, rfl, _⟩ := h
    rfl
  obtain ⟨v, i, x, ws, st, c, p, rfl, ⟨dx, wa, wp, hv, ewa, ewp⟩, hi, hp, q⟩ := h
  refine ⟨_, pss_cons (ps_set (i := 3) nd rfl (Or.inl rfl) (pe_ix ix_list (pe_fld (pv 0) rfl) (pv 1) (fun _ _ => rfl)))
    (pss_one (ps_ret (pe_and (pe_cmpR op_eq (pe_ix ix_str (pv 3) pe_int (fun _ _ => rfl)) (pv 2) (nomark _)) (pe_one (pe_cmpR op_in_seq (pe_ix ix_str (pv 3) pe_int (fun _ _ => rfl)) (pe_fld (pv 0) rfl) (by rfl)))))), ?_⟩
  obtain ⟨c0, e0, x0⟩ := hp.at0
  obtain ⟨c1, e1, x1⟩ := hp.at1
  have eit : (stepsV ws)[i]? = some (V.str (stepS p)) := by
    unfold stepsV
    rw [List.getElem?_map, hi]
    rfl
  refine ⟨_, rfl, v, C, dx, _, _, rfl, hv, Y.cl, Y.nSteps, vf_steps _ _ _, _, rfl, wa, _, _, _, rfl, rfl, SqL.of ewa, atI_nat eit, ?_⟩
  dsimp only [gName]
  refine ⟨_, rfl, _, 0, c0, rfl, rfl, str_len2 hp.len, e0, ?_⟩
  rw [x0]
  refine ⟨_, rfl, rfl, _, rfl, ?_⟩
  rw [dec_str]
  unfold okAt at q
  cases e : p.1 == x with
  | false =>
    rw [e, Bool.false_and] at q
    exact iteF q
  | true =>
    rw [e, Bool.true_and] at q
    refine iteT ⟨_, rfl, _, 1, c1, rfl, rfl, str_len2 hp.len, e1, ?_⟩
    rw [x1]
    refine ⟨_, rfl, v, C, dx, _, _, rfl, hv, Y.cl, Y.nWays, vf_ways _ _ _, wp, _, rfl, .inr (SqT.of ewp), rfl, ways_flat c, ?_⟩
    show Q (.bl (inV (.str p.2) (waysV c))) H
    rw [ways_in hp.2]
    exact q
theorem ok_vfirst (T : PTx w K mg) (Y : VCls K mg C) : FnOk P w K mg base CX0 2 Y.DF.f Y.DF.fd ["self", "word"] (spVFirst C) := by
  have GC : FnOk P w K mg base CX0 1 Y.DC.f Y.DC.fd ["self", "place", "word"] (spCounts C) := ok_counts Y
  have nd := sc_View_first.nd
  refine Y.DF.ok sc_View_first (fun vs H Q E h => ?_) (fun cdv A outer s H vs Q E hr h => ?_)
  · obtain ⟨v, x, ws, st, c, rfl, _⟩ := h
    rfl
  obtain ⟨v, x, ws, st, c, rfl, hva, hw, hl, hst, q⟩ := h
  obtain ⟨dx, wa, wp, hv, ewa, ewp⟩ := id hva
  refine ⟨_, pss_cons (ps_for PassesOwn.never rfl (pi_range2 rfl (T.free "range" (by decide +kernel)) (pa_cons (pe_fld (pv 0) rfl) (pa_cons (pe_callB call_len_seq rfl (T.free "len" (by decide +kernel)) PySem.boot_len (pa_cons (pe_fld (pv 0) rfl) pa_nil)) pa_nil))) (pg_name (i := 2) nd rfl (Or.inl rfl))
      (pss_one (ps_if (pt_val (pe_meth (pv 0) Y.cl Y.DC.me GC hr Y.DC.b .nil pass0 (pa_cons (pv 2) (pa_cons (pv 1) pa_nil)))) (pss_one (ps_ret (pv 2))) pss_nil)))
    (pss_one (ps_ret pe_non)), ?_⟩
  have lws : (stepsV ws).length = ws.length := List.length_map _
  have en : (((stepsV ws).length : Int) - ((st : Nat) : Int)).toNat = ws.length - st := by rw [lws]; omega
  refine ⟨_, rfl, v, C, dx, _, _, rfl, hv, Y.cl, Y.nStart, vf_start _ _ _, _, rfl, v, C, dx, _, _, rfl, hv, Y.cl, Y.nSteps, vf_steps _ _ _, wa, _, rfl, .inl (SqL.of ewa), _, _, rfl, ⟨by omega, by omega, by omega, by omega⟩, ?_⟩
  refine for_range (lo := ((st : Nat) : Int)) (n := (((stepsV ws).length : Int) - ((st : Nat) : Int)).toNat) (fun i σ H' => ∃ v2 : Option V, σ = [some (.ref v), some (.str x), v2] ∧ H' = H ∧ hits ws c x st = hits ws c x (st + i)) ⟨none, rfl, rfl, rfl⟩ ?_ ?_
  · rintro i σ H' hi ⟨v2, rfl, rfl, eh⟩
    rw [en] at hi
    have hil : st + i < ws.length := by omega
    have ei : ws[st + i]? = some (ws[st + i]'hil) := List.getElem?_eq_getElem hil
    rw [hits_cons ei] at eh
    have ez : ((st : Nat) : Int) + ((i : Nat) : Int) = ((st + i : Nat) : Int) := by omega
    dsimp only [gName]
    rw [ez]
    refine ⟨_, rfl, v, dx, _, rfl, hv, vf_counts _ _ _, _, rfl, _, rfl, v, st + i, x, ws, st, c, _, rfl, hva, ei, hw _ (List.getElem_mem hil), _, rfl, ?_⟩
    cases e : okAt c x (ws[st + i]'hil) with
    | true =>
      rw [if_pos e] at eh
      rw [eh] at q
      exact iteT ⟨_, rfl, q⟩
    | false =>
      rw [if_neg (by rw [e]; decide)] at eh
      exact iteF ⟨_, rfl, rfl, eh⟩
  · rintro σ H' ⟨v2, rfl, rfl, eh⟩
    rw [en] at eh
    rw [eh, hits_end (show ws.length ≤ st + (ws.length - st) by omega)] at q
    exact q
theorem ok_vlast (T : PTx w K mg) (Y : VCls K mg C) : FnOk P w K mg base CX0 2 Y.DL.f Y.DL.fd ["self", "word"] (spVLast C) := by
  have GC : FnOk P w K mg base CX0 1 Y.DC.f Y.DC.fd ["self", "place", "word"] (spCounts C) := ok_counts Y
  have nd := sc_View_last.nd
  refine Y.DL.ok sc_View_last (fun vs H Q E h => ?_) (fun cdv A outer s H vs Q E hr h => ?_)
  · obtain ⟨v, x, ws, st, c, rfl, _⟩ := h
    rfl
  obtain ⟨v, x, ws, st, c, rfl, hva, hw, hl, q⟩ := h
  obtain ⟨dx, wa, wp, hv, ewa, ewp⟩ := id hva
  refine ⟨_, pss_cons (ps_set (i := 2) nd rfl (Or.inl rfl) (pe_op op_sub (pe_callB call_len_seq rfl (T.free "len" (by decide +kernel)) PySem.boot_len (pa_cons (pe_fld (pv 0) rfl) pa_nil)) pe_int))
    (pss_one (ps_ret (pe_ifExp (PW.pt (pw_and (pt_cmpR op_ge (pv 2) (pe_fld (pv 0) rfl) (nomark _)) (pw_and1 (pt_val (pe_meth (pv 0) Y.cl Y.DC.me GC hr Y.DC.b .nil pass0 (pa_cons (pv 2) (pa_cons (pv 1) pa_nil))))))) (pv 2) pe_non))), ?_⟩
  have lws : (stepsV ws).length = ws.length := List.length_map _
  refine ⟨_, rfl, v, C, dx, _, _, rfl, hv, Y.cl, Y.nSteps, vf_steps _ _ _, wa, _, rfl, .inl (SqL.of ewa), _, _, rfl, rfl, ?_⟩
  dsimp only [gName]
  refine ⟨_, rfl, _, rfl, v, C, dx, _, _, rfl, hv, Y.cl, Y.nStart, vf_start _ _ _, _, _, rfl, rfl, _, rfl, ?_⟩
  rw [lws]
  by_cases hlt : st < ws.length
  · rw [decide_eq_true (show ((st : Nat) : Int) ≤ ((ws.length : Nat) : Int) - 1 by omega)]
    have hil : ws.length - 1 < ws.length := by omega
    have ei : ws[ws.length - 1]? = some (ws[ws.length - 1]'hil) := List.getElem?_eq_getElem hil
    have ez : ((ws.length : Nat) : Int) - 1 = ((ws.length - 1 : Nat) : Int) := by omega
    rw [ez]
    have elo : lastOk ws c x st = okAt c x (ws[ws.length - 1]'hil) := by
      unfold lastOk
      rw [decide_eq_true hlt, Bool.true_and, last_get (by omega)]
    rw [elo] at q
    refine iteT ⟨_, rfl, v, dx, _, rfl, hv, vf_counts _ _ _, _, rfl, _, rfl, v, ws.length - 1, x, ws, st, c, _, rfl, hva, ei, hw _ (List.getElem_mem hil), _, rfl, ?_⟩
    cases e : okAt c x (ws[ws.length - 1]'hil) with
    | true =>
      rw [if_pos e] at q
      exact iteT ⟨_, rfl, q⟩
    | false =>
      rw [if_neg (by rw [e]; decide)] at q
      exact iteF q
  · rw [decide_eq_false (show ¬ ((st : Nat) : Int) ≤ ((ws.length : Nat) : Int) - 1 by omega)]
    have elo : lastOk ws c x st = false := by
      unfold lastOk
      rw [decide_eq_false hlt, Bool.false_and]
    rw [elo] at q
    exact iteF (iteF q)
theorem ok_stands (T : PTx w K mg) (Y : VCls K mg C) : FnOk P w K mg base CX0 1 Y.DS.f Y.DS.fd ["self", "word"] (spStands C) := by
  have nd := sc_View_stands.nd
  refine Y.DS.ok sc_View_stands (fun vs H Q E h => ?_) (fun cdv A outer s H vs Q E hr h => ?_)
  · obtain ⟨v, x, ws, st, c, rfl, _⟩ := h
    rfl
  obtain ⟨v, x, ws, st, c, rfl, hva, hw, hl, q⟩ := h
  obtain ⟨dx, wa, wp, hv, ewa, ewp⟩ := id hva
  refine ⟨_, pss_one (ps_ret (pe_callB (cr_any rfl) rfl (T.free "any" (by decide +kernel)) (by decide +kernel) (pa_cons
      (pe_lc (own := [("step", 2)]) (g := gName 2) (tt := tYes) rfl nd (pi_list (pe_fld (pv 0) rfl)) (blkOk_by (N := ["self", "word", "step"]) (sc := defScope s_View_stands) (by decide +kernel)) (fun _ _ _ _ _ => pg_name (i := 2) nd rfl (Or.inl rfl)) (fun _ _ _ _ _ => pts_nil)
            (fun _ _ _ _ _ => pe_cmpR op_eq (pe_ix ix_str (pv 2) pe_int (fun _ _ => rfl)) (pv 1) (nomark _))) pa_nil))), ?_⟩
  have lws : (stepsV ws).length = ws.length := List.length_map _
  refine ⟨_, rfl, v, C, dx, _, _, rfl, hv, Y.cl, Y.nSteps, vf_steps _ _ _, wa, rfl, ⟨_, SqL.of ewa⟩, fun D hD => ?_⟩
  have nwD : wa ≠ D := ne_of_none ewa hD
  refine lc_list (K := K) (a := wa) (xs := stepsV ws) (fun j H'' => H'' = upd H D (.lst ((ws.take j).map fun p : StepT => V.bl (p.1 == x)))) rfl (fun j H'' _ e => by rw [e]; exact SqL.of (by rw [upd_ne nwD]; exact ewa)) ?_ ?_
  · rintro j y H'' hj rfl
    have hjl : j < ws.length := by
      have z := (List.getElem?_eq_some_iff.mp hj).1
      rw [lws] at z
      exact z
    have ey : y = V.str (stepS (ws[j]'hjl)) := by
      have z := get_map (fun p => V.str (stepS p)) ws hjl
      exact Option.some.inj (hj.symm.trans z)
    subst ey
    have hs := hw _ (List.getElem_mem hjl)
    obtain ⟨c0, ec, em⟩ := hs.at0
    refine ⟨rfl, _, rfl, _, 0, c0, rfl, rfl, by rw [hs.len]; decide, ec, ?_⟩
    rw [em]
    refine ⟨_, rfl, rfl, _, upd_same, ?_, ?_⟩
    · rw [List.length_map, List.length_take]
      exact small1000 (by omega)
    · rw [upd_upd, List.take_succ_eq_append_getElem hjl, List.map_append, dec_str]
      rfl
  · rintro H'' rfl
    rw [lws, List.take_length]
    refine ⟨D, ws.map fun p : StepT => p.1 == x, rfl, SqL.of (by rw [upd_same, List.map_map]; rfl), ?_⟩
    rw [show (ws.map fun p : StepT => p.1 == x).any id = ws.any fun p => p.1 == x by rw [List.any_map]; rfl]
    exact q _ (Same.new hD)
/-- a view is made -/
theorem view_made {C wa wp x dx : Addr} {H H1 : Hp} {ws : List StepT} {st : Nat} {c : Bool} {Q : VK} (ewa : H wa = some (.lst (stepsV ws))) (ewp : H wp = some (.tup (waysV c))) (hx : H x = none) (hdx : H dx = none) (ne : dx ≠ x) (e1 : H1 = upd (upd H dx (.own x)) x (.ins C dx []))
    (q : ∀ (u : Addr) (H' : Hp), Same H H' → ViewAt C H' u ws st c → Q (.ref u) H') : spVInit C [.ref x, .ref wa, .int ((st : Nat) : Int), .ref wp] H1 (fun v H2 => v = .non ∧ Q (.ref x) H2) E0 := by
  subst e1
  refine ⟨x, dx, wa, wp, st, rfl, upd_same, fun H' h1 h2 => ⟨rfl, ?_⟩⟩
  have sm : Same H H' := fun b o e => by
    have nb : b ≠ x := ne_of_none e hx
    have nd : b ≠ dx := ne_of_none e hdx
    rw [h2 b nb, upd_ne nb, upd_ne nd]
    exact e
  exact q x H' sm ⟨dx, wa, wp, h1, sm _ _ ewa, sm _ _ ewp⟩
theorem ok_vbehind (T : PTx w K mg) (Y : VCls K mg C) : FnOk P w K mg base CX0 3 Y.DB.f Y.DB.fd ["self", "place"] (spVBehind C) := by
  have GI : FnOk P w K mg base CX0 1 Y.DI.f Y.DI.fd ["self", "steps", "start", "ways"] (spVInit C) := ok_vinit Y
  refine Y.DB.ok sc_View_behind (fun vs H Q E h => ?_) (fun cdv A outer s H vs Q E hr h => ?_)
  · obtain ⟨v, i, ws, st, c, rfl, _⟩ := h
    rfl
  obtain ⟨v, i, ws, st, c, rfl, hva, q⟩ := h
  obtain ⟨dx, wa, wp, hv, ewa, ewp⟩ := id hva
  refine ⟨_, pss_one (ps_ret (pe_make Y.mk' GI hr rfl Y.mgC Y.DI.b .nil pass0 (pa_cons (pe_fld (pv 0) rfl) (pa_cons (pe_op op_add (pv 1) pe_int) (pa_cons (pe_fld (pv 0) rfl) pa_nil))))), ?_⟩
  refine ⟨_, rfl, v, C, dx, _, _, rfl, hv, Y.cl, Y.nSteps, vf_steps _ _ _, _, rfl, _, _, rfl, rfl, _, rfl, v, C, dx, _, _, rfl, hv, Y.cl, Y.nWays, vf_ways _ _ _, fun x dx' hx hdx ne => ?_⟩
  exact view_made (st := i + 1) ewa ewp hx hdx ne rfl q
theorem ok_carrying (T : PTx w K mg) (Y : VCls K mg C) : FnOk P w K mg base CX0 3 Y.DY.f Y.DY.fd ["self"] (spCarrying C) := by
  have GI : FnOk P w K mg base CX0 1 Y.DI.f Y.DI.fd ["self", "steps", "start", "ways"] (spVInit C) := ok_vinit Y
  obtain ⟨tr, gr⟩ := T.right
  obtain ⟨tc, gc⟩ := T.carried
  refine Y.DY.ok sc_View_carrying (fun vs H Q E h => ?_) (fun cdv A outer s H vs Q E hr h => ?_)
  · obtain ⟨v, ws, st, c, rfl, _⟩ := h
    rfl
  obtain ⟨v, ws, st, c, rfl, hva, q⟩ := h
  obtain ⟨dx, wa, wp, hv, ewa, ewp⟩ := id hva
  refine ⟨_, pss_one (ps_ret (pe_make Y.mk' GI hr rfl Y.mgC Y.DI.b .nil pass0 (pa_cons (pe_fld (pv 0) rfl) (pa_cons (pe_fld (pv 0) rfl) (pa_cons (pe_tup (pa_cons (pe_glob rfl gr (v := .str "r") ⟨_, rfl⟩) (pa_cons (pe_glob rfl gc (v := .str "c") ⟨_, rfl⟩) pa_nil))) pa_nil))))), ?_⟩
  refine ⟨_, rfl, v, C, dx, _, _, rfl, hv, Y.cl, Y.nSteps, vf_steps _ _ _, _, rfl, v, C, dx, _, _, rfl, hv, Y.cl, Y.nStart, vf_start _ _ _, sz2, fun t ht => ?_⟩
  intro x dx' hx hdx ne
  have s1 : Same H (upd H t (.tup [.str "r", .str "c"])) := Same.new ht
  exact view_made (st := st) (c := true) (s1 _ _ ewa) upd_same hx hdx ne rfl fun u H' sm hu => q u H' (s1.trans sm) hu
end
end MS
end
section
set_option maxRecDepth 100000
set_option maxHeartbeats 4000000
/-! sorted(set(a list of texts)) -/
namespace SST
open PySem PySem.Spec PyProof.Rows L2
def keyT (e : Int × Value) : Str := match e.2 with | .str k _ => k | _ => Str.empty
def GoodT (P : Program) (w : World) (e : Int × Value) : Prop := ∃ k tk, e.2 = Value.str k tk ∧ e.1 = (PySem.strKind P w).hash k
/-- the set of the texts l at a -/
def SetT (P : Program) (w : World) (h : Heap) (a : Addr) (l : List Str) : Prop :=
  ∃ o es ep t, h.get? a = some o ∧ o.ExactSet ∧ o.data = .set es ep t ∧ (∀ e ∈ es.toList, GoodT P w e) ∧ (es.toList.map keyT).Nodup ∧ (∀ k, k ∈ l ↔ k ∈ es.toList.map keyT) ∧
    es.size ≤ l.length ∧ l.length < scanBound ∧ t.fits es.size = true ∧ Ris t.place.toList ∧ (w.params.followText "set-order" = true ∨ t.led = true)
section
variable {P : Program} {w : World} {h h' : Heap} {a : Addr} {l : List Str}
theorem SetT.at (R : SetT P w h a l) (k : ∀ o, h.get? a = some o → h'.get? a = some o) : SetT P w h' a l := by
  obtain ⟨o, es, ep, t, ho, r⟩ := R
  exact ⟨o, es, ep, t, k o ho, r⟩
theorem good_elems {l : List (Int × Value)} (g : ∀ e ∈ l, GoodT P w e) : ElemsOf (PySem.strKind P w) l := fun e he => by
  obtain ⟨k, tk, h1, h2⟩ := g e he
  exact ⟨⟨k, by rw [h1]; exact strKind_is P w k tk, h2⟩, by rw [h1] <;> rfl⟩
theorem good_is {e : Int × Value} (g : GoodT P w e) (k : Str) : (PySem.strKind P w).is k e.2 = true ↔ keyT e = k := by
  obtain ⟨k0, tk, h1, _⟩ := g
  have hk : keyT e = k0 := by unfold keyT; rw [h1]
  rw [hk, h1]
  constructor
  · intro z
    exact ((PySem.strKind P w).inj (.str k0 tk) k k0 z (strKind_is P w k0 tk)).symm
  · rintro rfl
    exact strKind_is P w k0 tk
theorem good_mem {l : List (Int × Value)} (g : ∀ e ∈ l, GoodT P w e) (k : Str) : k ∈ l.map keyT ↔ ∃ e ∈ l, (PySem.strKind P w).is k e.2 = true := by
  rw [List.mem_map]
  constructor
  · rintro ⟨e, he, q⟩
    exact ⟨e, he, (good_is (g e he) k).2 q⟩
  · rintro ⟨e, he, q⟩
    exact ⟨e, he, (good_is (g e he) k).1 q⟩
end
section
variable {P : Program} {w : World} {A : Around} {E : Value → Shared → Prop} {s : Shared} {a : Addr} {l : List Str}
theorem add_tail {g : Bool → Sem Unit} (hg : ∀ (b : Bool) (s₁ : Shared) (Q' : Unit → Shared → Prop), Q' () s₁ → wpAny (model P w) A (g b) Q' E s₁)
    {o : Obj} {es : Array (Int × Value)} {ep : Nat} {t : SetTable} (ho : s.heap.get? a = some o) (hex : o.ExactSet) (hd : o.data = .set es ep t)
    {es1 : Array (Int × Value)} {t2 : SetTable} {l' : List Str} (g1 : ∀ e ∈ es1.toList, GoodT P w e) (nd1 : (es1.toList.map keyT).Nodup) (m1 : ∀ k, k ∈ l' ↔ k ∈ es1.toList.map keyT)
    (hb1 : es1.size ≤ l'.length) (hb0 : l'.length < scanBound) (hf2 : t2.fits es1.size = true) (hr : Ris t2.place.toList) (hl : w.params.followText "set-order" = true ∨ t2.led = true) {wasDummy : Bool} {R : Option Bool → Shared → Prop}
    (hR : ∀ h', Heap.SameBut a s.heap h' → SetT P w h' a l' → R (some true) { s with heap := h' }) :
    wpAny (model P w) A (do
        storeSet a es1 t2
        if (!wasDummy && t2.tooFull) = true then do
            g (relayAll t2 es1 (SetTable.grown es1.size)).2.2
            storeSet a (relayAll t2 es1 (SetTable.grown es1.size)).1 (relayAll t2 es1 (SetTable.grown es1.size)).2.1
            pure (some true)
          else pure (some true)) R E s := by
  refine wpAny_bind (wpAny_storeSet_of ho hd ?_ (fits_of_scanBound (by omega)))
  have ho1 := store_at (es' := es1) (t' := t2) ho hd
  have sb1 := Heap.SameBut.update s.heap a (Obj.putSet es1 t2)
  split
  · have pm := relayAll_perm t2 es1 (SetTable.grown es1.size)
    have hf3 := relayAll_fits t2 es1 (SetTable.grown es1.size)
    have hr3 := relayAll_ris t2 es1 (SetTable.grown es1.size)
    have hl3 := relayAll_led t2 es1 (SetTable.grown es1.size)
    generalize relayAll t2 es1 (SetTable.grown es1.size) = Z at pm hf3 hr3 hl3 ⊢
    obtain ⟨es2, t3, gave⟩ := Z
    dsimp only at pm hf3 hr3 hl3 ⊢
    have hsz : es2.size = es1.size := by rw [← Array.length_toList, pm.length_eq, Array.length_toList]
    refine wpAny_bind (hg _ _ _ ?_)
    refine wpAny_bind (wpAny_storeSet_of ho1 rfl ?_ (fits_of_scanBound (by omega)))
    have ho2 := store_at (es' := es2) (t' := t3) ho1 rfl
    refine wpAny_pure (hR _ (sb1.trans (Heap.SameBut.update _ a _)) ?_)
    exact ⟨_, es2, _, t3, ho2, hex, rfl, fun e he => g1 e (pm.mem_iff.mp he), (pm.map keyT).nodup_iff.mpr nd1, fun k => (m1 k).trans (pm.map keyT).mem_iff.symm, by omega, hb0, by rw [hsz] at hf3 ⊢; exact hf3, hr3,
      hl.imp id fun z => by rw [hl3]; exact z⟩
  · exact wpAny_pure (hR _ sb1 ⟨_, es1, _, t2, ho1, hex, rfl, g1, nd1, m1, hb1, hb0, hf2, hr, hl⟩)
theorem add_hashed {k : Str} {tk : Tok} {Q : Bool → Shared → Prop} (R : SetT P w s.heap a l) (room : l.length + 1 < scanBound)
    (hQ : ∀ h' b, Heap.SameBut a s.heap h' → SetT P w h' a (l ++ [k]) → Q b { s with heap := h' }) :
    wpAny (model P w) A (setAddHashed a (.str k tk) ((PySem.strKind P w).hash k)) Q E s := by
  obtain ⟨o, es, ep, t, ho, hex, hd, g, nd, hm, hb, hb0, hf, hr, hl⟩ := R
  have hkey : (PySem.strKind P w).is k (.str k tk) = true := strKind_is P w k tk
  have hsc : (Value.str k tk).scannable = true := rfl
  have hel : ElemsOf (PySem.strKind P w) es.toList := good_elems g
  have lapp : (l ++ [k]).length = l.length + 1 := by simp
  unfold setAddHashed setAddHashedIn
  refine wpAny_holding (wpAny_bind (wpAny_setState_of ho hd hf ?_))
  dsimp only
  rw [byScan_of hsc (by omega) hel]
  simp only [↓reduceIte]
  unfold setAddByScan
  refine wpAny_bind ?_
  refine wpAny_bind (wpAny_rule ?_)
  refine wpAny_bind (wpAny_setScan_of hkey ho hd hf hel ?_)
  cases hfi : List.findIdx? (fun e => (PySem.strKind P w).is k e.2) es.toList with
  | some j =>
    dsimp only
    obtain ⟨hj, pj, _⟩ := List.findIdx?_eq_some_iff_getElem.mp hfi
    have hk : k ∈ l := (hm k).2 ((good_mem (P := P) (w := w) g k).2 ⟨es.toList[j], List.getElem_mem hj, pj⟩)
    refine wpAny_pure (wpAny_pure ?_)
    exact hQ s.heap _ (Heap.SameBut.refl a s.heap) ⟨o, es, ep, t, ho, hex, hd, g, nd, fun i => by
      rw [List.mem_append, List.mem_singleton, ← hm i]
      exact ⟨fun z => z.elim id (fun e => e ▸ hk), .inl⟩, by omega, by omega, hf, hr, hl⟩
  | none =>
    dsimp only
    have hnk : k ∉ es.toList.map keyT := fun z => by
      obtain ⟨e, he, q⟩ := (good_mem (P := P) (w := w) g k).1 z
      have c := List.findIdx?_eq_none_iff.mp hfi e he
      rw [q] at c
      cases c
    have hgw : ∀ (b : Bool) {s₁ : Shared} {Q' : Unit → Shared → Prop}, Q' () s₁ → wpAny (model P w) A (match b with | true => rule "set.scan.the-table-gave-way" | false => pure ()) Q' E s₁ :=
      fun b s₁ Q' q => by cases b <;> first | exact wpAny_pure q | exact wpAny_rule q
    have pm := layNew_perm t es ((PySem.strKind P w).hash k) (.str k tk)
    have hf1 := layNew_fits t es ((PySem.strKind P w).hash k) (.str k tk)
    have hr1 := layNew_ris t es ((PySem.strKind P w).hash k) (.str k tk) hr
    have hl1 := layNew_led t es ((PySem.strKind P w).hash k) (.str k tk)
    generalize layNew t es ((PySem.strKind P w).hash k) (.str k tk) = Z at pm hf1 hr1 hl1 ⊢
    obtain ⟨es1, t1, wasDummy, gave⟩ := Z
    dsimp only at pm hf1 hr1 hl1 ⊢
    rw [Array.toList_push] at pm
    have pc : es1.toList.Perm (((PySem.strKind P w).hash k, Value.str k tk) :: es.toList) := pm.trans (List.perm_append_singleton _ _)
    have pk : (es1.toList.map keyT).Perm (k :: es.toList.map keyT) := pc.map keyT
    have g1 : ∀ e ∈ es1.toList, GoodT P w e := fun e he => by
      rcases List.mem_cons.mp (pc.mem_iff.mp he) with z | z
      · rw [z]; exact ⟨k, tk, rfl, rfl⟩
      · exact g e z
    have nd1 : (es1.toList.map keyT).Nodup := pk.nodup_iff.mpr (List.nodup_cons.mpr ⟨hnk, nd⟩)
    have m1 : ∀ i, i ∈ l ++ [k] ↔ i ∈ es1.toList.map keyT := fun i => by
      rw [List.mem_append, List.mem_singleton, hm i, pk.mem_iff, List.mem_cons]
      exact Or.comm
    have hsz : es1.size = es.size + 1 := by rw [← Array.length_toList, pc.length_eq, List.length_cons, Array.length_toList]
    have hled : w.params.followText "set-order" = true ∨ t1.led = true := hl.imp id fun z => by rw [hl1]; exact z
    refine wpAny_bind (hgw _ ?_)
    split
    · refine wpAny_bind ?_
      rw [hashByValue_scannable 8 hsc]
      refine wpAny_pure ?_
      refine add_tail ?_ ho hex hd g1 nd1 m1 (by omega) (by omega) ?_ ?_ ?_ ?_
      · intro b s₁ Q' q; cases b <;> first | exact wpAny_pure q | exact wpAny_rule q
      · first | (split <;> first | exact hf1 | exact SetTable.fits_plain_off hf1) | exact hf1
      · first | (split <;> exact hr1) | exact hr1
      · first | (split <;> exact hled) | exact hled
      · intro h' sb r; dsimp only; exact wpAny_pure (hQ h' _ sb r)
    · refine wpAny_bind (wpAny_pure ?_)
      simp only [↓reduceIte]
      refine add_tail ?_ ho hex hd g1 nd1 m1 (by omega) (by omega) hf1 hr1 hled ?_
      · intro b s₁ Q' q; cases b <;> first | exact wpAny_pure q | exact wpAny_rule q
      · intro h' sb r; dsimp only; exact wpAny_pure (hQ h' _ sb r)
theorem fresh_T {P : Program} {w : World} {h : Heap} : SetT P w (h.push { cls := .type "set", dict := none, data := .set #[] 0 (.fresh 0 0 (!w.params.followText "set-order")) }) h.objs.size [] :=
  ⟨_, #[], 0, _, Heap.get?_push_size _ rfl, ⟨rfl, rfl, rfl⟩, rfl, (fun e he => by simp at he), (by simp), (fun k => by simp), (by simp), (by decide), (by rfl), List.Pairwise.nil, by
    show _ ∨ (!w.params.followText "set-order") = true
    cases w.params.followText "set-order"
    · exact .inr rfl
    · exact .inl rfl⟩
theorem code_new_led (a : Value) {Q₁ : Value → Shared → Prop}
    (h : Q₁ (.ref s.heap.objs.size) { s with heap := s.heap.push { cls := .type "set", dict := none, data := .set #[] 0 (.fresh 0 0 (!w.params.followText "set-order")) } }) :
    codeAny (model P w) A (.call (.builtin "set.__new__") ⟨[.type "set", a], []⟩) (wants Q₁ E) s := by
  refine codeAny_of_tree ?_
  show wpAny _ A.in1 (do checkBuiltinCall "set.__new__" ⟨[.type "set", a], []⟩; again (.builtin "set.__new__" ⟨[.type "set", a], []⟩)) _ _ s
  refine wpAny_bind (wpAny_of_eq (F.newCall_set_1 a) (wpAny_pure ⟨plainId_quiet F.plain_set_new _, codeAny_builtin F.entry_set_new ?_⟩))
  rw [Around.under_plainId F.plain_set_new _]
  unfold Builtin.«set.__new__» Builtin.Frozenset.newClass
  have hsub := sub_set_self
  obtain ⟨hp, g, d, tk, os⟩ := s
  dsimp only
  wp_walk
  refine wpAny_askSetting (wpAny_pure ?_)
  dsimp only
  simp only [newObj]
  refine wpAny_bind (wpAny_alloc (wpAny_pure ?_))
  exact wpAny_pure h
end
section
variable {prog : Program} {w : World} {A : Around} {R : Result → Shared → Prop} {I : Addr} {fp wr : List Addr} {G : Array GenState → Array GenState → Prop} {n : Nat} {P : Nat → Value → Prop} {St : Nat → Shared → Prop}
theorem loopT (W : WalksS prog w A.in1 I fp wr G n P St) (S : Addr) (hSf : S ∉ fp) (xs : List Str) (hsz : xs.length = n) (hn1 : n ≤ 1000)
    (hval : ∀ i v, P i v → ∃ t, v = .str (xs.getD i Str.empty) t) :
    ∀ (k i : Nat) (s : Shared), n - i = k → i ≤ n → St i s → SetT prog w s.heap S (xs.take i) →
      (∀ s', Moved (S :: wr) G s s' → SetT prog w s'.heap S xs → R (.ok (.ret .none)) s') →
      codeAny (model prog w) A (.builtin "set.update.loop" ⟨[.ref S, .ref I], []⟩) R s := by
  have hSw : S ∉ wr := fun h => hSf (W.sub _ h)
  have hsub : ∀ b ∈ wr, b ∈ S :: wr := fun b hb => List.mem_cons_of_mem _ hb
  intro k
  induction k with
  | zero =>
    intro i s hk hi hst hS hR
    have hin : i = n := by omega
    subst hin
    refine codeAny_builtin PyProof.Rows.F.entry_set_update_loop ?_
    rw [Around.under_plainId PyProof.Rows.F.plain_set_update_loop _]
    show wpAny _ A.in1 (pyNext (.ref I) >>= _) _ _ s
    refine wpAny_bind (W.done s _ _ hst fun s' hm => ?_)
    show wpAny _ A.in1 (ret Value.none) _ _ s'
    refine wpAny_pure (hR s' (hm.mono hsub) ?_)
    rw [← hsz, List.take_length] at hS
    exact hS.at fun o ho => hm.heap S _ hSw ho
  | succ k ih =>
    intro i s hk hi hst hS hR
    have hlt : i < n := by omega
    refine codeAny_builtin PyProof.Rows.F.entry_set_update_loop ?_
    rw [Around.under_plainId PyProof.Rows.F.plain_set_update_loop _]
    show wpAny _ A.in1 (pyNext (.ref I) >>= _) _ _ s
    refine wpAny_bind (W.item i s _ _ hlt hst fun v s' hP hst' hm => ?_)
    obtain ⟨t, rfl⟩ := hval i v hP
    have hS' : SetT prog w s'.heap S (xs.take i) := hS.at fun o ho => hm.heap S _ hSw ho
    show wpAny _ A.in1 (holding [Value.str (xs.getD i Str.empty) t] (setAdd S (.str (xs.getD i Str.empty) t)) >>= _) _ _ s'
    refine wpAny_bind (wpAny_holding ?_)
    unfold setAdd
    refine wpAny_holding ?_
    refine wpAny_bind ((PySem.strKind prog w).pyHash (k := xs.getD i Str.empty) (strKind_is _ _ _ _) ?_)
    refine add_hashed (s := { s' with toks := s'.toks + 1 }) hS' (by rw [List.length_take]; unfold scanBound; omega) fun h' b hsb hS2 => ?_
    have hSi : SetT prog w h' S (xs.take (i + 1)) := by
      have e : xs.take (i + 1) = xs.take i ++ [xs.getD i Str.empty] := by
        have hil : i < xs.length := by omega
        rw [List.take_succ_eq_append_getElem hil, List.getD_eq_getElem?_getD, List.getElem?_eq_getElem hil]
        rfl
      rw [e]
      exact hS2
    refine wpAny_pure ⟨plainId_quiet PyProof.Rows.F.plain_set_update_loop _, ih (i + 1) _ (by omega) hlt (W.frame _ s' _ _ hst' (Nat.le_succ _) fun b hb o e => ?_) hSi fun s'' hm'' hS'' => ?_⟩
    · rw [hsb.2 b (fun h : b = S => hSf (by rw [← h]; exact hb))]; exact e
    · refine hR s'' (Moved.trans W.gtrans ((hm.mono hsub).then_heap (Nat.le_succ _) fun b o hb e => ?_) hm'') hS''
      rw [hsb.2 b (fun h : b = S => hb (by rw [h]; exact List.mem_cons_self))]; exact e
end
section
variable {prog : Program} {w : World} {A : Around} {E : Value → Shared → Prop} {s : Shared}
theorem call_setT {l : Addr} {items : Array Value} {xs : List Str} {Q : Value → Shared → Prop}
    (hh : A.handled = none) (hl : s.heap.IsList l items) (hi : PyProof.Rows.StrsAre items.toList xs) (hn1 : xs.length ≤ 1000)
    (h : ∀ (h' : Heap) (tk : Nat), SetT prog w h' s.heap.objs.size xs →
      (∀ b o, b < s.heap.objs.size → s.heap.get? b = some o → h'.get? b = some o) → Q (.ref s.heap.objs.size) { s with heap := h', toks := tk }) :
    wpAny (model prog w) A (call (.type "set") [.ref l]) Q E s := by
  obtain ⟨c, tl, hmro⟩ := PySem.F.called_set.mro
  have hmade := PySem.F.called_set.made
  have hsub := PySem.F.called_set.sub
  refine wpAny_call (codeAny_of_tree ?_)
  show wpAny _ _ (callAny (.type "set") _) _ _ _
  refine wpAny_pure ⟨Code.quiet_builtin _ (by decide +kernel), codeAny_builtin PySem.F.entry_type_call ?_⟩
  rw [Around.under_plain (weight_type_call_type "set" [.ref l] []) rfl]
  have h1 := PySem.F.called_set.notType
  have h2 := PySem.F.called_set.canCreate
  have hct := PySem.F.typeCall_set_1 (.ref l)
  repeat (any_goals (first | assumption | wp_step))
  refine codeAny_mono (code_new_led (P := prog) (w := w) (.ref l) (E := E) (Q₁ := fun obj s₁ => obj = .ref s.heap.objs.size ∧ s₁ = { s with heap := s.heap.push { cls := .type "set", dict := none, data := .set #[] 0 (.fresh 0 0 (!w.params.followText "set-order")) } }) ⟨rfl, rfl⟩) fun r s₁ hr => ?_
  generalize hled : (!w.params.followText "set-order") = led at hr
  cases r with
  | error e => exact hr
  | ok fl =>
    cases fl with
    | ret obj =>
      obtain ⟨rfl, rfl⟩ := hr
      have hS : (s.heap.push { cls := .type "set", dict := none, data := .set #[] 0 (.fresh 0 0 led) }).get? s.heap.objs.size = some { cls := .type "set", dict := none, data := .set #[] 0 (.fresh 0 0 led) } := Heap.get?_push_size _ rfl
      have hT : Shared.TypeIs { s with heap := s.heap.push { cls := .type "set", dict := none, data := .set #[] 0 (.fresh 0 0 led) } } (.ref s.heap.objs.size) "set" := ⟨_, hS, rfl⟩
      have hli := PySem.F.called_set.init.lookup
      have hbi := PySem.F.called_set.init.bind (.ref s.heap.objs.size)
      repeat (any_goals (first | assumption | wp_step))
      refine codeAny_mono (codeAny_call_builtin (R := wants (fun r s₂ => r = .none ∧ ∃ h' tk, s₂ = { s with heap := h', toks := tk } ∧
          SetT prog w h' s.heap.objs.size xs ∧
          (∀ b o, b < s.heap.objs.size → s.heap.get? b = some o → h'.get? b = some o)) E) PySem.F.called_set.init.plain PySem.F.entry_set_init (check_set_init_1 hT ?_)) fun r₂ s₂ hr₂ => ?_
      · obtain ⟨ol, hol, hcl, nl, hdl⟩ := hl
        obtain ⟨ocls, odict, odata, oslots⟩ := ol
        simp only at hcl hdl
        subst hcl; subst hdl
        have hol' : (s.heap.push { cls := .type "set", dict := none, data := .set #[] 0 (.fresh 0 0 led) }).get? l = some { cls := .type "list", dict := odict, data := .seq items nl, slots := oslots } := Heap.get?_push_of_some _ hol
        have hsls := PySem.F.sub_list_set
        have hslf := PySem.F.sub_list_frozenset
        have hne : (Value.type "list" == Value.type "dict") = false := by decide
        have hl1 : (s.heap.push { cls := .type "set", dict := none, data := .set #[] 0 (.fresh 0 0 led) }).IsList l items := ⟨_, hol', rfl, nl, rfl⟩
        unfold Builtin.«set.__init__» noKeywords Builtin.Frozenset.updateFrom
        generalize hPI : pyIter = PI
        wp_walk
        subst hPI
        refine wpAny_pyIter_list hl1 ?_
        refine wpAny_bind (wpAny_runValue ?_)
        have hlS : l < s.heap.objs.size := Heap.lt_size hol
        have hh3 : A.in1.in1.in1.handled = none := by simp [hh]
        have hneI : l ≠ (s.heap.push { cls := .type "set", dict := none, data := .set #[] 0 (.fresh 0 0 led) }).objs.size := by
          rw [Heap.size_push]; exact Nat.ne_of_lt (Nat.lt_succ_of_lt hlS)
        have hSf : s.heap.objs.size ∉ [(s.heap.push { cls := .type "set", dict := none, data := .set #[] 0 (.fresh 0 0 led) }).objs.size, l] := by
          rw [Heap.size_push]; simp only [List.mem_cons, List.mem_singleton, List.not_mem_nil, or_false, not_or]
          exact ⟨Nat.ne_of_lt (Nat.lt_succ_self _), Nat.ne_of_gt hlS⟩
        have hsz : xs.length = items.size := by rw [← StrsAre.len_eq hi, Array.length_toList]
        have hval : ∀ (i : Nat) (v : Value), items[i]? = some v → ∃ t, v = .str (xs.getD i Str.empty) t := fun i v hv => SS.strs_at hi i v (by rw [Array.getElem?_toList]; exact hv)
        refine loopT ((Walks.list hh3 _ l hneI items).toS) s.heap.objs.size
          hSf xs hsz (by rw [← hsz]; exact hn1) hval (items.size - 0) 0 _ (by omega) (Nat.zero_le _)
          ⟨⟨_, Heap.get?_push_size _ rfl, rfl, rfl⟩, (hl1.push _)⟩ ?hS0 ?hR
        case hS0 =>
          have f : SetT prog w (s.heap.push { cls := .type "set", dict := none, data := .set #[] 0 (.fresh 0 0 led) }) s.heap.objs.size [] := by
            rw [← hled]
            exact fresh_T
          exact f.at fun o ho => Heap.get?_push_of_some _ ho
        case hR =>
          intro s' hm hS'
          obtain ⟨h', g', d', tk', os'⟩ := s'
          have eg : g' = s.gens := hm.gens
          have ed : d' = s.drawn := hm.drawn
          have eo : os' = s.os := hm.os
          subst eg; subst ed; subst eo
          show wpAny _ _ _ _ _ _
          refine wpAny_pure ?_
          show wpAny _ _ (ret Value.none) _ _ _
          refine wpAny_pure ⟨rfl, h', tk', rfl, hS', fun b o hb e => ?_⟩
          have hb1 : b ≠ s.heap.objs.size := Nat.ne_of_lt hb
          have hb2 : b ≠ (s.heap.push { cls := .type "set", dict := none, data := .set #[] 0 (.fresh 0 0 led) }).objs.size := by
            rw [Heap.size_push]; exact Nat.ne_of_lt (Nat.lt_succ_of_lt hb)
          exact hm.heap b o (by simp only [List.mem_cons, List.mem_singleton, List.not_mem_nil, or_false, not_or]; exact ⟨hb1, hb2⟩) (Heap.get?_push_of_some _ (Heap.get?_push_of_some _ e))
      · cases r₂ with
        | error e => exact hr₂
        | ok fl₂ =>
          cases fl₂ with
          | ret r =>
            obtain ⟨rfl, h', tk, rfl, hS', hk'⟩ := hr₂
            repeat (any_goals (first | assumption | wp_step))
            exact h _ _ hS' hk'
          | _ => exact hr₂.elim
    | _ => exact hr.elim
theorem strs_of : ∀ (l : List (Int × Value)), (∀ e ∈ l, GoodT prog w e) → ∀ vs : List Value, vs.Perm (l.map (·.2)) → ∃ ss, StrsAre vs ss ∧ ss.Perm (l.map keyT) := by
  intro l g vs pm
  have hv : ∀ v ∈ vs, ∃ k tk, v = Value.str k tk := fun v hv => by
    obtain ⟨e, he, q⟩ := List.mem_map.mp (pm.mem_iff.mp hv)
    obtain ⟨k, tk, h1, _⟩ := g e he
    exact ⟨k, tk, by rw [← q]; exact h1⟩
  have mk : ∀ vs : List Value, (∀ v ∈ vs, ∃ k tk, v = Value.str k tk) → StrsAre vs (vs.map fun v => keyT (0, v)) := by
    intro vs
    induction vs with
    | nil => intro _; exact .nil
    | cons v r ih =>
      intro h
      obtain ⟨k, tk, rfl⟩ := h v List.mem_cons_self
      exact .cons k tk (ih fun u hu => h u (List.mem_cons_of_mem _ hu))
  refine ⟨_, mk vs hv, ?_⟩
  have q := pm.map fun v => keyT (0, v)
  rw [List.map_map] at q
  exact q
theorem sorted_T {a : Addr} {l : List Str} {Q : Value → Shared → Prop} (R : SetT prog w s.heap a l) (hh : A.handled = none) (h64 : l.length < 64)
    (hQ : ∀ s' p (out : Array Value) (c : Nat) (ss : List Str), (∀ b o, s.heap.get? b = some o → s'.heap.get? b = some o) → s'.gens = s.gens → s'.os = s.os → s.heap.objs.size ≤ p →
      s'.heap.get? p = some (seqObj "list" out c) → StrsAre out.toList ss → sortedS ss = true → ss.Nodup → (∀ k, k ∈ ss ↔ k ∈ l) → ss.length ≤ l.length → Q (.ref p) s') :
    wpAny (model prog w) A (call (.builtin "sorted") [.ref a]) Q E s := by
  obtain ⟨o, es, ep, t, ho, hex, hd, g, nd, hm, hb, hb0, hf, hr, hl⟩ := R
  refine Calls.call_function_entry kind_sorted plain_sorted entry_sorted (args_sorted1 _) ?_
  unfold Builtin.«sorted»
  refine wpAny_bind (m := checkCount "sorted" 1 1 _) (wpAny_pure ?_)
  refine wpAny_bind (collect_set (A := A.in1) hh ⟨o, ho, hex.1, hd⟩ hf (by omega) hr hl fun s1 vs k1 hz g1 o1 pm => ?_)
  have hvl : vs.length = es.size := by rw [pm.length_eq, List.length_map, Array.length_toList]
  obtain ⟨ss0, hS, pk⟩ := strs_of (prog := prog) (w := w) es.toList g vs pm
  refine wpAny_bind (wpAny_newList ?_ (by rw [hvl, sizeLine_eq]; omega))
  have hoL : (s1.heap.push (seqObj "list" vs.toArray 0)).get? s1.heap.objs.size = some (seqObj "list" vs.toArray 0) := Heap.get?_push_size _ rfl
  refine wpAny_bind (wpAny_holding (wpAny_call_entry slot_list_sort ⟨_, hoL, rfl⟩ entry_list_sort (list_sort_treeK strKind_oneLt hoL hS.keysOf (fun v₁ v₂ rest e => keyKind_strs (by rw [← e]; exact hS)) (by rw [hvl]; omega) fun st' hp hs => ⟨_, rfl, ?_⟩) (args_list_sort _)))
  obtain ⟨ss', a1, a2, a3⟩ := sorted_out_str hS hp hs
  obtain ⟨c, hc⟩ := sortedHeap_at (vs := vs) (out := (arrOf st').map (·.2)) hoL
  have pn : ss'.Perm (es.toList.map keyT) := a2.trans pk
  refine wpAny_pure ⟨_, rfl, hQ _ s1.heap.objs.size _ c ss' (fun b u e => ?_) g1 o1 hz hc a1 a3 (pn.nodup_iff.mpr nd) (fun k => by rw [pn.mem_iff, ← hm k]) (by rw [pn.length_eq, List.length_map, Array.length_toList]; exact hb)⟩
  have q := k1 b u e
  have hlt := Heap.lt_size q
  show (sortedHeap (s1.heap.push (seqObj "list" vs.toArray 0)) s1.heap.objs.size vs ((arrOf st').map (·.2))).get? b = some u
  rw [sortedHeap_old (Nat.ne_of_lt hlt) (by rw [size_push']; exact Nat.lt_succ_of_lt hlt)]
  exact Heap.get?_push_of_some _ q
end
end SST
end
section
set_option maxRecDepth 100000
set_option maxHeartbeats 4000000
namespace SST
open PySem PySem.Spec PyProof.Rows L2
/-- sorted(set(xs)), xs a list of texts -/
def tSortSet (K : PySem.W.Frag) (ta : TE) : TE := fun σ H Q => ta σ H fun x H1 => ∃ l, ∃ xs : List Str, x = .ref l ∧ SqL K H1 l (xs.map V.str) ∧ xs.length ≤ 60 ∧ ∀ (p : Addr) (ss : List Str), H1 p = none → sortedS ss = true → ss.Nodup → (∀ k, k ∈ ss ↔ k ∈ xs) → Q (.ref p) (upd H1 p (.lst (ss.map V.str)))
theorem pe_sortSet {X : Cx} {a : Expr} {ta : TE} {p p2 q pos : Pos} (hc : X.calm = true) (hg : Gl X "sorted") (hm : X.mg "sorted" = none) (hg2 : Gl X "set") (hm2 : X.mg "set" = none) (ha : PE X a ta)
    (na : starEach [a] X.env = (false, eval a X.env) :: starEach [] X.env := by rfl) : PE X (.Call (.Name "sorted" p) [.Call (.Name "set" p2) [a] [] q] [] pos) (tSortSet X.K ta) := by
  refine ⟨fun pins s σ H Q I h => ?_⟩
  refine Call_ (ld_blt I hg hm boot_sorted ?_)
  refine PyProof.Rows.callWith_builtin1 (PyProof.Rows.args_cons ?_ rfl) rfl rfl
  refine Call_ (ld_blt I hg2 hm2 boot_set ?_)
  refine PyProof.Rows.callWith_type1 (PyProof.Rows.args_cons (thn (ha.run pins s σ H _ I h) fun v s1 ⟨x, H1, I1, r1, q1⟩ => PyProof.Rows.args_nil ?_) na) na rfl
  obtain ⟨l, xs, rfl, hq, h1, q1⟩ := q1
  cases r1
  obtain ⟨its, r, pl, hz⟩ := I1.list hq
  refine call_setT (I1.ok.hd hc) pl.isList (by simpa using strsAre_of r) (by omega) fun h' tk hS hk => ?_
  refine PyProof.Rows.args_nil ?_
  have I2 : Inv X pins σ H1 { s1 with heap := h', toks := tk } := I1.kept fun b o e => hk b o (Heap.lt_size e) e
  refine sorted_T hS (I2.ok.hd hc) (by omega) fun s' p out c ss k2 g2 o2 hp hget hss srt nd hmem hle => ?_
  have hsl : ss.length ≤ 60 := by omega
  have hlen : (ss.map V.str).length ≤ sizeLine := by rw [List.length_map]; exact Nat.le_trans hsl (by decide)
  have hn : H1 p = none := I2.hok.fresh hp
  have J : L2.Inv X pins σ (upd H1 p (.lst (ss.map V.str))) { ({ heap := h', gens := s1.gens, drawn := s1.drawn, toks := tk, os := s1.os } : Shared) with heap := s'.heap, gens := s'.gens, drawn := s'.drawn, toks := s'.toks } :=
    I2.call (ch := []) (Un.laid k2 hp hn) (I2.hok.laid k2 hp ⟨hlen, out.toList, c, vals_of_strs hss, hget⟩) (by rw [g2]; exact I2.bare) (fun _ z => nomatch z)
  have e : s' = { s1 with heap := s'.heap, gens := s'.gens, drawn := s'.drawn, toks := s'.toks } := by
    obtain ⟨h3, g3, d3, t3, os3⟩ := s'
    obtain rfl : os3 = s1.os := o2
    rfl
  rw [e]
  exact ⟨.ref p, _, J, rfl, q1 p ss hn srt nd hmem⟩
end SST
end
section
set_option maxRecDepth 100000
set_option maxHeartbeats 4000000
namespace MS
open PySem L2
/-- two values are of the same kinds, and the same -/
def Alk (H : Hp) : Nat → V → V → Prop
  | 0, x, y => (∃ i : Int, x = .int i ∧ y = .int i) ∨ ∃ z : Str, x = .str z ∧ y = .str z
  | n + 1, x, y => Alk H n x y ∨ ∃ (a b : Addr) (xs ys : List V), x = .ref a ∧ y = .ref b ∧ ((H a = some (.lst xs) ∧ H b = some (.lst ys)) ∨ (H a = some (.tup xs) ∧ H b = some (.tup ys))) ∧ xs.length ≤ 1000 ∧ Paired (Alk H n) xs ys
theorem Alk.keep {H H' : Hp} (k : Same H H') : ∀ (n : Nat) (x y : V), Alk H n x y → Alk H' n x y
  | 0, _, _, h => h
  | n + 1, x, y, .inl h => .inl (Alk.keep k n x y h)
  | n + 1, x, y, .inr ⟨a, b, xs, ys, e1, e2, h, l, p⟩ => .inr ⟨a, b, xs, ys, e1, e2, by
      rcases h with ⟨h1, h2⟩ | ⟨h1, h2⟩
      · exact .inl ⟨k _ _ h1, k _ _ h2⟩
      · exact .inr ⟨k _ _ h1, k _ _ h2⟩, l, paired_imp p fun x y => Alk.keep k n x y⟩
def spAlike (n : Nat) : Sp := fun vs H Q _ => ∃ x y, vs = [x, y] ∧ Alk H n x y ∧ ∀ H', Same H H' → Q (.bl true) H'
theorem Alk.up {H : Hp} {n : Nat} {x y : V} (h : Alk H n x y) : Alk H (n + 1) x y := .inl h
theorem Alk.kind {H : Hp} : ∀ {n : Nat} {x y : V}, Alk H n x y → (∃ i : Int, x = .int i ∧ y = .int i) ∨ (∃ z : Str, x = .str z ∧ y = .str z) ∨ ∃ (m : Nat) (a b : Addr) (xs ys : List V), n = m + 1 ∧ x = .ref a ∧ y = .ref b ∧ ((H a = some (.lst xs) ∧ H b = some (.lst ys)) ∨ (H a = some (.tup xs) ∧ H b = some (.tup ys))) ∧ xs.length ≤ 1000 ∧ Paired (Alk H m) xs ys
  | 0, _, _, .inl h => .inl h
  | 0, _, _, .inr h => .inr (.inl h)
  | n + 1, x, y, .inl h => by
    rcases Alk.kind h with h1 | h1 | ⟨m, a, b, xs, ys, e, e1, e2, h1, l, p⟩
    · exact .inl h1
    · exact .inr (.inl h1)
    · subst e
      exact .inr (.inr ⟨m + 1, a, b, xs, ys, rfl, e1, e2, h1, l, paired_imp p fun _ _ z => z.up⟩)
  | n + 1, x, y, .inr ⟨a, b, xs, ys, e1, e2, h, l, p⟩ => .inr (.inr ⟨n, a, b, xs, ys, rfl, e1, e2, h, l, p⟩)
theorem one_to {tc : TT} {t u : TS} {D : Ends} {σ : St} {H : Hp} {b : Bool} (h : ∀ Q : Bool → Hp → Prop, (∀ H', Same H H' → Q b H') → tc σ H Q) (k1 : b = true → ∀ H', Same H H' → t D σ H') (k2 : b = false → ∀ H', Same H H' → u D σ H') : tIfS tc t u D σ H := h _ fun H' s => by
  cases b with
  | true => exact iteT (k1 rfl H' s)
  | false => exact iteF (k2 rfl H' s)
section
variable {P : Program} {w : World} {K : PySem.W.Frag} {mg : Str → Option Value} {base : Heap}
abbrev psAlike : List Str := ["_law_found", "_law_due"]
theorem alike_turn {n : Nat} {sp' : Sp} (D : Def K mg "_law_alike" s_L_alike psAlike) (mis : mg "isinstance" = none) (mb : mg "bool" = none) (mi : mg "int" = none) (ms : mg "str" = none) (mt : mg "tuple" = none) (mli : mg "list" = none) (ml : mg "len" = none) (mr : mg "range" = none)
    (G : FnOk P w K mg base CX0 n D.f D.fd psAlike sp') (hs : ∀ n', n = n' + 1 → sp' = spAlike n') : FnOk P w K mg base CX0 (n + 1) D.f D.fd psAlike (spAlike n) := by
  have nd := sc_L_alike.nd
  refine D.ok sc_L_alike (fun vs H Q E h => ?_) (fun cdv A outer s H vs Q E hr h => ?_)
  · obtain ⟨x, y, rfl, _⟩ := h
    rfl
  obtain ⟨x, y, rfl, hxy, q⟩ := h
  refine ⟨_, pss_cons (ps_if (pt_cmpR op_isN (pv 1) pe_non (nomark _)) (pss_one (ps_ret (pe_cmpR op_isN (pv 0) pe_non (by rfl)))) pss_nil)
    (pss_cons (ps_if (pt_val (pe_callB call_isi rfl mis (by decide +kernel) (pa_cons (pv 1) (pa_cons (pe_bltn rfl mb (by decide +kernel) (v := .ty "bool") rfl) pa_nil)))) (pss_one (ps_ret (pe_and (pe_callB call_isi rfl mis (by decide +kernel) (pa_cons (pv 0) (pa_cons (pe_bltn rfl mb (by decide +kernel) (v := .ty "bool") rfl) pa_nil))) (pe_one (pe_cmpR op_eq (pv 0) (pv 1) (nomark _)))))) pss_nil)
    (pss_cons (ps_if (pt_val (pe_callB call_isi rfl mis (by decide +kernel) (pa_cons (pv 1) (pa_cons (pe_bltn rfl mi (by decide +kernel) (v := .ty "int") rfl) pa_nil)))) (pss_one (ps_ret (pe_and (pe_callB call_isi rfl mis (by decide +kernel) (pa_cons (pv 0) (pa_cons (pe_bltn rfl mi (by decide +kernel) (v := .ty "int") rfl) pa_nil)))
        (pe_and (pe_not (pe_callB call_isi rfl mis (by decide +kernel) (pa_cons (pv 0) (pa_cons (pe_bltn rfl mb (by decide +kernel) (v := .ty "bool") rfl) pa_nil)))) (pe_one (pe_cmpR op_eq (pv 0) (pv 1) (nomark _))))))) pss_nil)
    (pss_cons (ps_if (pt_val (pe_callB call_isi rfl mis (by decide +kernel) (pa_cons (pv 1) (pa_cons (pe_bltn rfl ms (by decide +kernel) (v := .ty "str") rfl) pa_nil)))) (pss_one (ps_ret (pe_and (pe_callB call_isi rfl mis (by decide +kernel) (pa_cons (pv 0) (pa_cons (pe_bltn rfl ms (by decide +kernel) (v := .ty "str") rfl) pa_nil))) (pe_one (pe_cmpR op_eq (pv 0) (pv 1) (nomark _)))))) pss_nil)
    (pss_cons (ps_if (PW.pt (pw_or (pt_cmpR op_ne (pe_callB call_isi rfl mis (by decide +kernel) (pa_cons (pv 1) (pa_cons (pe_bltn rfl mt (by decide +kernel) (v := .ty "tuple") rfl) pa_nil))) (pe_callB call_isi rfl mis (by decide +kernel) (pa_cons (pv 0) (pa_cons (pe_bltn rfl mt (by decide +kernel) (v := .ty "tuple") rfl) pa_nil))) (nomark _))
        (pw_or1 (pt_cmpR op_ne (pe_callB call_isi rfl mis (by decide +kernel) (pa_cons (pv 1) (pa_cons (pe_bltn rfl mli (by decide +kernel) (v := .ty "list") rfl) pa_nil))) (pe_callB call_isi rfl mis (by decide +kernel) (pa_cons (pv 0) (pa_cons (pe_bltn rfl mli (by decide +kernel) (v := .ty "list") rfl) pa_nil))) (nomark _))))) (pss_one (ps_ret pe_bl)) pss_nil)
    (pss_cons (ps_if (pt_cmpR op_ne (pe_callB call_len_seq rfl ml PySem.boot_len (pa_cons (pv 0) pa_nil)) (pe_callB call_len_seq rfl ml PySem.boot_len (pa_cons (pv 1) pa_nil)) (nomark _)) (pss_one (ps_ret pe_bl)) pss_nil)
    (pss_cons (ps_for PassesOwn.never rfl (pi_range1 rfl mr (pa_cons (pe_callB call_len_seq rfl ml PySem.boot_len (pa_cons (pv 1) pa_nil)) pa_nil)) (pg_name (i := 2) nd rfl (Or.inl rfl))
      (pss_one (ps_if (pt_not (pt_val (pcall D G hr (pa_cons (pe_ix ix_seq (pv 0) (pv 2) (fun _ _ => rfl)) (pa_cons (pe_ix ix_seq (pv 1) (pv 2) (fun _ _ => rfl)) pa_nil))))) (pss_one (ps_ret pe_bl)) pss_nil)))
    (pss_one (ps_ret pe_bl)))))))), ?_⟩
  have qq : ∀ b : Bool, b = true → Q (.bl b) H := fun b e => by
    subst e
    exact q H (Same.refl _)
  rcases hxy.kind with ⟨i, rfl, rfl⟩ | ⟨z, rfl, rfl⟩ | ⟨m, a, b, xs, ys, rfl, rfl, rfl, hab, hl, hp⟩
  · refine seq_if (b := false) (fun Q q => ⟨_, rfl, rfl, _, rfl, by rw [decide_eq_false (fun z => nomatch z)]; exact q⟩) (fun z => nomatch z) (fun _ => ?_)
    refine seq_if (b := false) (fun Q q => ⟨_, rfl, _, .ty "bool", .type "int", .type "bool", false, rfl, .ty _, .base (.int i), kit_ty (by decide +kernel), _, rfl, q⟩) (fun z => nomatch z) (fun _ => ?_)
    refine seq_if (b := true) (fun Q q => ⟨_, rfl, _, .ty "int", .type "int", .type "int", true, rfl, .ty _, .base (.int i), kit_ty (by decide +kernel), _, rfl, q⟩) (fun _ => ?_) (fun z => nomatch z)
    exact ⟨_, rfl, _, .ty "int", .type "int", .type "int", true, rfl, .ty _, .base (.int i), kit_ty (by decide +kernel), _, rfl, _, rfl, _, .ty "bool", .type "int", .type "bool", false, rfl, .ty _, .base (.int i), kit_ty (by decide +kernel), _, rfl, _, rfl, _, rfl, _, rfl, rfl, qq _ (decide_eq_true rfl)⟩
  · refine seq_if (b := false) (fun Q q => ⟨_, rfl, rfl, _, rfl, by rw [decide_eq_false (fun z => nomatch z)]; exact q⟩) (fun z => nomatch z) (fun _ => ?_)
    refine seq_if (b := false) (fun Q q => ⟨_, rfl, _, .ty "bool", .type "str", .type "bool", false, rfl, .ty _, .base (.str z), kit_ty (by decide +kernel), _, rfl, q⟩) (fun z => nomatch z) (fun _ => ?_)
    refine seq_if (b := false) (fun Q q => ⟨_, rfl, _, .ty "int", .type "str", .type "int", false, rfl, .ty _, .base (.str z), kit_ty (by decide +kernel), _, rfl, q⟩) (fun z => nomatch z) (fun _ => ?_)
    refine seq_if (b := true) (fun Q q => ⟨_, rfl, _, .ty "str", .type "str", .type "str", true, rfl, .ty _, .base (.str z), kit_ty (by decide +kernel), _, rfl, q⟩) (fun _ => ?_) (fun z => nomatch z)
    exact ⟨_, rfl, _, .ty "str", .type "str", .type "str", true, rfl, .ty _, .base (.str z), kit_ty (by decide +kernel), _, rfl, _, rfl, _, rfl, rfl, qq _ (decide_eq_true rfl)⟩
  · obtain rfl := hs m rfl
    have lxy := Paired.length hp
    obtain ⟨isT, tn, tya, tyb, cT, cL, sa, sb, nb, ni, nsx⟩ : ∃ (isT : Bool) (tn : String), TyX K H (.ref a) (.type tn) ∧ TyX K H (.ref b) (.type tn) ∧ PySem.W.kitOne K (.type tn) (.type "tuple") = some isT ∧ PySem.W.kitOne K (.type tn) (.type "list") = some (!isT) ∧
        (SqL K H a xs ∨ SqT K H a xs) ∧ (SqL K H b ys ∨ SqT K H b ys) ∧ PySem.W.kitOne K (.type tn) (.type "bool") = some false ∧ PySem.W.kitOne K (.type tn) (.type "int") = some false ∧ PySem.W.kitOne K (.type tn) (.type "str") = some false := by
      rcases hab with ⟨h1, h2⟩ | ⟨h1, h2⟩
      · exact ⟨false, "list", .base (.lst h1), .base (.lst h2), kit_ty (by decide +kernel), kit_ty (by decide +kernel), .inl (SqL.of h1), .inl (SqL.of h2), kit_ty (by decide +kernel), kit_ty (by decide +kernel), kit_ty (by decide +kernel)⟩
      · exact ⟨true, "tuple", .base (.tup h1), .base (.tup h2), kit_ty (by decide +kernel), kit_ty (by decide +kernel), .inr (SqT.of h1), .inr (SqT.of h2), kit_ty (by decide +kernel), kit_ty (by decide +kernel), kit_ty (by decide +kernel)⟩
    refine seq_if (b := false) (fun Q q => ⟨_, rfl, rfl, _, rfl, by rw [decide_eq_false (fun z => nomatch z)]; exact q⟩) (fun z => nomatch z) (fun _ => ?_)
    refine seq_if (b := false) (fun Q q => ⟨_, rfl, _, .ty "bool", _, .type "bool", false, rfl, .ty _, tyb, nb, _, rfl, q⟩) (fun z => nomatch z) (fun _ => ?_)
    refine seq_if (b := false) (fun Q q => ⟨_, rfl, _, .ty "int", _, .type "int", false, rfl, .ty _, tyb, ni, _, rfl, q⟩) (fun z => nomatch z) (fun _ => ?_)
    refine seq_if (b := false) (fun Q q => ⟨_, rfl, _, .ty "str", _, .type "str", false, rfl, .ty _, tyb, nsx, _, rfl, q⟩) (fun z => nomatch z) (fun _ => ?_)
    refine seq_if (b := false || false) (ev_or (b := false) (c := false) (fun Q q => ⟨_, rfl, _, .ty "tuple", _, .type "tuple", isT, rfl, .ty _, tyb, cT, _, rfl, _, .ty "tuple", _, .type "tuple", isT, rfl, .ty _, tya, cT, rfl, _, rfl, by rw [decide_eq_true rfl]; exact q⟩)
      (fun Q q => ⟨_, rfl, _, .ty "list", _, .type "list", !isT, rfl, .ty _, tyb, cL, _, rfl, _, .ty "list", _, .type "list", !isT, rfl, .ty _, tya, cL, rfl, _, rfl, by rw [decide_eq_true rfl]; exact q⟩)) (fun z => nomatch z) (fun _ => ?_)
    refine seq_if (b := false) (fun Q q => ⟨_, rfl, a, xs, rfl, sa, _, rfl, b, ys, rfl, sb, rfl, _, rfl, by rw [lxy, decide_eq_true rfl]; exact q⟩) (fun z => nomatch z) (fun _ => ?_)
    refine ⟨_, rfl, b, ys, rfl, sb, _, rfl, by omega, by omega, ?_⟩
    rw [Int.toNat_natCast]
    have ix : ∀ {c : Addr} {zs : List V} {H' : Hp} {j : Nat} {v : V} {Q : VK}, (SqL K H' c zs ∨ SqT K H' c zs) → zs[j]? = some v → Q v H' → rIx K (.ref c) (.int ((j : Nat) : Int)) H' Q := fun h e q => by
      rcases h with h | h
      · exact .inl ⟨_, _, _, _, rfl, rfl, h, atI_nat e, q⟩
      · exact .inr (.inl ⟨_, _, _, _, rfl, rfl, h, atI_nat e, q⟩)
    have seqK : ∀ {c : Addr} {zs : List V} {H' : Hp}, ((H c = some (.lst zs)) ∨ (H c = some (.tup zs))) → Same H H' → (SqL K H' c zs ∨ SqT K H' c zs) := fun h s => by
      rcases h with h | h
      · exact .inl (SqL.of (s _ _ h))
      · exact .inr (SqT.of (s _ _ h))
    have ha' : (H a = some (.lst xs)) ∨ (H a = some (.tup xs)) := hab.imp (·.1) (·.1)
    have hb' : (H b = some (.lst ys)) ∨ (H b = some (.tup ys)) := hab.imp (·.2) (·.2)
    refine for_range (lo := 0) (n := ys.length) (fun j σ H' => ∃ v2 : Option V, σ = [some (.ref a), some (.ref b), v2] ∧ Same H H') ⟨none, rfl, Same.refl _⟩ ?_ ?_
    · rintro j σ H' hj ⟨v2, rfl, s1⟩
      have hjx : j < xs.length := by omega
      have ex : xs[j]? = some (xs[j]'hjx) := List.getElem?_eq_getElem hjx
      obtain ⟨y', ey, hy⟩ : ∃ y', ys[j]? = some y' ∧ Alk H m (xs[j]'hjx) y' := by
        have eyj : ys[j]? = some (ys[j]'hj) := List.getElem?_eq_getElem hj
        obtain ⟨x', ex', hx'⟩ := paired_get' hp eyj
        rw [ex] at ex'
        cases ex'
        exact ⟨_, eyj, hx'⟩
      simp only [Int.zero_add]
      dsimp only [gName]
      refine one_to (b := false) (fun Q q => ⟨_, rfl, _, rfl, ix (seqK ha' s1) ex ⟨_, rfl, _, rfl, ix (seqK hb' s1) ey ⟨_, _, rfl, Alk.keep s1 _ _ _ hy, fun H6 s6 => ⟨_, rfl, q H6 s6⟩⟩⟩⟩) (fun z => nomatch z) (fun _ H6 s6 => ?_)
      exact ⟨_, rfl, s1.trans s6⟩
    · rintro σ H' ⟨v2, rfl, s1⟩
      exact q H' s1
theorem ok_alike (D : Def K mg "_law_alike" s_L_alike psAlike) (mis : mg "isinstance" = none) (mb : mg "bool" = none) (mi : mg "int" = none) (ms : mg "str" = none) (mt : mg "tuple" = none) (mli : mg "list" = none) (ml : mg "len" = none) (mr : mg "range" = none) :
    ∀ n : Nat, FnOk P w K mg base CX0 (n + 1) D.f D.fd psAlike (spAlike n)
  | 0 => alike_turn (sp' := fun _ _ _ _ => False) D mis mb mi ms mt mli ml mr ⟨fun vs H Q E h => h.elim, fun A outer s H args us vs Q E _ _ _ _ h => h.elim⟩ fun n' e => by omega
  | n + 1 => alike_turn (sp' := spAlike n) D mis mb mi ms mt mli ml mr (ok_alike D mis mb mi ms mt mli ml mr n) fun n' e => by
      have e' : n = n' := by omega
      rw [e']
end
end MS
end
section
set_option maxRecDepth 100000
set_option maxHeartbeats 4000000
namespace MS
open PySem L2
/-! ### the words of a scheme -/
def wP (ps : List Sch) : Nat → Sch → List Str
  | 0, _ => []
  | _ + 1, .step x _ => [x]
  | k + 1, .seen x s => x :: wP ps k s
  | k + 1, .behind x s => x :: wP ps k s
  | k + 1, .fin x _ s => x :: wP ps k s
  | k + 1, .most _ s => wP ps k s
  | k + 1, .half s => wP ps k s
  | k + 1, .carry s => wP ps k s
  | k + 1, .all ks => (ks.map (wP ps k)).flatten
  | k + 1, .best ks => (ks.map (wP ps k)).flatten
  | k + 1, .use n => match ps[n]? with
    | none => []
    | some s => wP ps k s
theorem wr_nonneg {i M : Nat} {c : Nat → Int} (h : ∀ j, i < j → j < M → 0 ≤ c j) : ∀ (d : Nat) (s : Sch), OkS i M d s → 0 ≤ wr c d s
  | 0, _, o => by cases o
  | _ + 1, .step _ _, _ => by show (0 : Int) ≤ 0; decide
  | d + 1, .all k, o => by
    show 0 ≤ (k.map (wr c d)).sum
    have : ∀ s ∈ k, 0 ≤ wr c d s := fun s hs => wr_nonneg h d s (o.2.2 s hs)
    clear o
    induction k with
    | nil => exact Int.le_refl _
    | cons a r ih =>
      rw [List.map_cons, List.sum_cons]
      have := ih fun s hs => this s (List.mem_cons_of_mem _ hs)
      have := ‹∀ s ∈ a :: r, 0 ≤ wr c d s› a List.mem_cons_self
      omega
  | d + 1, .best k, o => by
    show 0 ≤ (k.map (wr c d)).sum
    have : ∀ s ∈ k, 0 ≤ wr c d s := fun s hs => wr_nonneg h d s (o.2.2 s hs)
    clear o
    induction k with
    | nil => exact Int.le_refl _
    | cons a r ih =>
      rw [List.map_cons, List.sum_cons]
      have := ih fun s hs => this s (List.mem_cons_of_mem _ hs)
      have := ‹∀ s ∈ a :: r, 0 ≤ wr c d s› a List.mem_cons_self
      omega
  | d + 1, .most _ s, o => wr_nonneg h d s o.2
  | d + 1, .half s, o => wr_nonneg h d s o
  | d + 1, .seen _ s, o => by
    have := wr_nonneg h d s o.2
    show 0 ≤ 1 + wr c d s
    omega
  | d + 1, .behind _ s, o => by
    have := wr_nonneg h d s o.2
    show 0 ≤ 1 + wr c d s
    omega
  | d + 1, .carry s, o => wr_nonneg h d s o
  | d + 1, .fin _ _ s, o => wr_nonneg h d s o.2
  | _ + 1, .use n, o => h n o.1 o.2
/-- its words, the schemes within -/
structure WV (H : Hp) (i M d : Nat) (ps : List Sch) (k : Nat) (sc : Sch) (nm : Str) (rest : List V) (pre : List Str) (ks : List Sch) (kv : List V) : Prop where
  nu : (nm == "use") = false
  eq : wP ps (k + 1) sc = pre ++ (ks.map (wP ps k)).flatten
  pl : pre.length ≤ 1
  kl : ks.length ≤ 4
  ok : ∀ s ∈ ks, OkS i M d s
  at_ : Paired (SAt H d) ks kv
  w1 : inV (.str nm) [.str "step", .str "seen", .str "behind", .str "end"] = true → ∃ x, pre = [x] ∧ atI (.str nm :: rest) 1 = some (.str x)
  w0 : inV (.str nm) [.str "step", .str "seen", .str "behind", .str "end"] = false → pre = []
  k2 : inV (.str nm) [.str "all", .str "best"] = true → ∃ b, atI (.str nm :: rest) 1 = some (.ref b) ∧ H b = some (.tup kv)
  k1 : inV (.str nm) [.str "all", .str "best"] = false → nm ≠ "step" → ∃ u, atI (.str nm :: rest) (-1) = some u ∧ kv = [u]
  k0 : nm = "step" → kv = []
theorem SKind.words {H : Hp} {i M d : Nat} {ps : List Sch} {k : Nat} {sc : Sch} {nm : Str} {rest : List V} (h : SKind H i M d sc nm rest) : (∃ n : Nat, rest = [.int ((n : Nat) : Int)] ∧ sc = .use n ∧ nm = "use" ∧ i < n ∧ n < M) ∨ ∃ pre ks kv, WV H i M d ps k sc nm rest pre ks kv := by
  cases h with
  | @step x p hx _ _ => exact .inr ⟨[x], [], [], by decide +kernel, rfl, by simp, by simp, (fun s h => nomatch h), .nil, fun _ => ⟨x, rfl, at1⟩, (fun z => absurd z (by decide +kernel)), (fun z => absurd z (by decide +kernel)), fun _ z => absurd rfl z, fun _ => rfl⟩
  | @behind x s u hx hs ho => exact .inr ⟨[x], [s], [u], by decide +kernel, by show x :: wP ps k s = [x] ++ (wP ps k s ++ []); rw [List.append_nil]; rfl, by simp, by simp, (fun s' h' => by rw [List.mem_singleton.mp h']; exact ho), .cons hs .nil, fun _ => ⟨x, rfl, at1⟩, (fun z => absurd z (by decide +kernel)), (fun z => absurd z (by decide +kernel)), fun _ _ => ⟨u, rfl, rfl⟩, (fun z => absurd z (by decide +kernel))⟩
  | use h1 h2 => exact .inl ⟨_, rfl, rfl, rfl, h1, h2⟩
  | @all ks b vs eb hk ho hl => exact .inr ⟨[], ks, vs, by decide +kernel, rfl, by simp, hl, ho, hk, (fun z => absurd z (by decide +kernel)), fun _ => rfl, fun _ => ⟨b, at1, eb⟩, (fun z => absurd z (by decide +kernel)), (fun z => absurd z (by decide +kernel))⟩
  | @best ks b vs eb hk ho hl => exact .inr ⟨[], ks, vs, by decide +kernel, rfl, by simp, hl, ho, hk, (fun z => absurd z (by decide +kernel)), fun _ => rfl, fun _ => ⟨b, at1, eb⟩, (fun z => absurd z (by decide +kernel)), (fun z => absurd z (by decide +kernel))⟩
  | one h =>
    obtain ⟨u, s', hlast, hs', ho', c5, c6, cm, chh, cc, x1, ex1⟩ := h.kid
    have nst : nm ≠ "step" := fun e => by
      have := h.nb
      rw [e] at this
      exact absurd this (by decide +kernel)
    have a1 : ∀ s ∈ [s'], OkS i M d s := fun s h' => by rw [List.mem_singleton.mp h']; exact ho'
    rcases h.nm5 with e | e | e | e | e
    · obtain ⟨n, hsc, hre, _⟩ := cm e
      exact .inr ⟨[], [s'], [u], h.nu, by rw [hsc]; show wP ps k s' = [] ++ (wP ps k s' ++ []); rw [List.append_nil]; rfl, by simp, by simp, a1, .cons hs' .nil, (fun z => by rw [e] at z; exact absurd z (by decide +kernel)), fun _ => rfl, (fun z => by rw [h.na] at z; cases z), fun _ _ => ⟨u, hlast, rfl⟩, fun z => absurd z nst⟩
    · obtain ⟨hsc, hre⟩ := chh e
      exact .inr ⟨[], [s'], [u], h.nu, by rw [hsc]; show wP ps k s' = [] ++ (wP ps k s' ++ []); rw [List.append_nil]; rfl, by simp, by simp, a1, .cons hs' .nil, (fun z => by rw [e] at z; exact absurd z (by decide +kernel)), fun _ => rfl, (fun z => by rw [h.na] at z; cases z), fun _ _ => ⟨u, hlast, rfl⟩, fun z => absurd z nst⟩
    · obtain ⟨x, hsc, hre, hx⟩ := c6 e
      exact .inr ⟨[x], [s'], [u], h.nu, by rw [hsc]; show x :: wP ps k s' = [x] ++ (wP ps k s' ++ []); rw [List.append_nil]; rfl, by simp, by simp, a1, .cons hs' .nil, fun _ => ⟨x, rfl, by rw [hre]; exact at1⟩, (fun z => by rw [e] at z; exact absurd z (by decide +kernel)), (fun z => by rw [h.na] at z; cases z), fun _ _ => ⟨u, hlast, rfl⟩, fun z => absurd z nst⟩
    · obtain ⟨hsc, hre⟩ := cc e
      exact .inr ⟨[], [s'], [u], h.nu, by rw [hsc]; show wP ps k s' = [] ++ (wP ps k s' ++ []); rw [List.append_nil]; rfl, by simp, by simp, a1, .cons hs' .nil, (fun z => by rw [e] at z; exact absurd z (by decide +kernel)), fun _ => rfl, (fun z => by rw [h.na] at z; cases z), fun _ _ => ⟨u, hlast, rfl⟩, fun z => absurd z nst⟩
    · obtain ⟨x, p, hsc, hre, hx, _⟩ := c5 e
      exact .inr ⟨[x], [s'], [u], h.nu, by rw [hsc]; show x :: wP ps k s' = [x] ++ (wP ps k s' ++ []); rw [List.append_nil]; rfl, by simp, by simp, a1, .cons hs' .nil, fun _ => ⟨x, rfl, by rw [hre]; exact at1⟩, (fun z => by rw [e] at z; exact absurd z (by decide +kernel)), (fun z => by rw [h.na] at z; cases z), fun _ _ => ⟨u, hlast, rfl⟩, fun z => absurd z nst⟩
theorem flat_len {g : Sch → Int} {f : Sch → List Str} : ∀ (ks : List Sch), (∀ s ∈ ks, ((f s).length : Int) ≤ g s) → (((ks.map f).flatten).length : Int) ≤ (ks.map g).sum
  | [], _ => Int.le_refl _
  | s :: r, h => by
    rw [List.map_cons, List.flatten_cons, List.length_append, List.map_cons, List.sum_cons]
    have := h s List.mem_cons_self
    have := flat_len r fun s hs => h s (List.mem_cons_of_mem _ hs)
    omega
theorem sum_two {g h : Sch → Int} : ∀ (ks : List Sch), (ks.map fun s => g s + h s).sum = (ks.map g).sum + (ks.map h).sum
  | [] => rfl
  | s :: r => by
    rw [List.map_cons, List.sum_cons, List.map_cons, List.sum_cons, List.map_cons, List.sum_cons, sum_two r]
    omega
theorem wP_len {ps : List Sch} {ce cw : Nat → Int} {M : Nat} (hp : ∀ (j : Nat) (s : Sch), ps[j]? = some s → OkS j M 5 s ∧ ce j = er ce 5 s ∧ cw j = wr cw 5 s) (h0 : ∀ j, j < M → 0 ≤ ce j) (h1 : ∀ j, j < M → 0 ≤ cw j) :
    ∀ (k : Nat) (i d : Nat) (s : Sch), OkS i M d s → ((wP ps k s).length : Int) ≤ er ce d s + wr cw d s
  | 0, i, d, s, o => by
    have := er_nonneg (c := ce) (fun j _ hj => h0 j hj) d s o
    have := wr_nonneg (c := cw) (fun j _ hj => h1 j hj) d s o
    show (0 : Int) ≤ _
    omega
  | k + 1, i, 0, s, o => by cases o
  | k + 1, i, d + 1, .step x p, o => by show (1 : Int) ≤ 1 + 0; decide
  | k + 1, i, d + 1, .behind x s, o => by
    have := wP_len hp h0 h1 k i d s o.2
    show (((x :: wP ps k s).length : Nat) : Int) ≤ er ce d s + (1 + wr cw d s)
    rw [List.length_cons]
    omega
  | k + 1, i, d + 1, .seen x s, o => by
    have := wP_len hp h0 h1 k i d s o.2
    show (((x :: wP ps k s).length : Nat) : Int) ≤ er ce d s + (1 + wr cw d s)
    rw [List.length_cons]
    omega
  | k + 1, i, d + 1, .fin x p s, o => by
    have := wP_len hp h0 h1 k i d s o.2
    show (((x :: wP ps k s).length : Nat) : Int) ≤ (1 + er ce d s) + wr cw d s
    rw [List.length_cons]
    omega
  | k + 1, i, d + 1, .use n, o => by
    show ((match ps[n]? with
      | none => []
      | some s => wP ps k s).length : Int) ≤ ce n + cw n
    have := h0 n o.2
    have := h1 n o.2
    split
    · show (0 : Int) ≤ _
      omega
    · rename_i s e
      obtain ⟨o', e1, e2⟩ := hp n s e
      rw [e1, e2]
      exact wP_len hp h0 h1 k n 5 s o'
  | k + 1, i, d + 1, .all ks, o => by
    have := flat_len (f := wP ps k) (g := fun s => er ce d s + wr cw d s) ks fun s hs => wP_len hp h0 h1 k i d s (o.2.2 s hs)
    rw [sum_two] at this
    exact this
  | k + 1, i, d + 1, .best ks, o => by
    have := flat_len (f := wP ps k) (g := fun s => er ce d s + wr cw d s) ks fun s hs => wP_len hp h0 h1 k i d s (o.2.2 s hs)
    rw [sum_two] at this
    exact this
  | k + 1, i, d + 1, .most n s, o => wP_len hp h0 h1 k i d s o.2
  | k + 1, i, d + 1, .half s, o => wP_len hp h0 h1 k i d s o
  | k + 1, i, d + 1, .carry s, o => wP_len hp h0 h1 k i d s o
def spWords (ps : List Sch) (M k : Nat) : Sp := fun vs H Q _ => ∃ (pa : Addr) (v : V) (s : Sch) (i d : Nat), vs = [.ref pa, v] ∧ (∃ pv, H pa = some (.tup pv) ∧ Paired (SAt H 5) ps pv) ∧ SAt H d s v ∧ OkS i M d s ∧ (M - i) * 5 + d ≤ k ∧ (wP ps k s).length ≤ 100 ∧
  ∀ (f : Addr) (H' : Hp), Same H H' → H f = none → H' f = some (.lst ((wP ps k s).map V.str)) → Q (.ref f) H'
abbrev psWords : List Str := ["_law_paper_here", "_law_scheme_here"]
theorem flat_split {f : Sch → List Str} : ∀ (ks : List Sch) (j : Nat) (s : Sch), ks[j]? = some s → (((ks.take j).map f).flatten).length + (f s).length ≤ ((ks.map f).flatten).length
  | [], _, _, h => by simp at h
  | a :: r, 0, s, h => by
    obtain rfl : a = s := by simpa using h
    rw [List.map_cons, List.flatten_cons, List.length_append]
    show 0 + _ ≤ _
    omega
  | a :: r, j + 1, s, h => by
    have ih := flat_split (f := f) r j s (by simpa using h)
    rw [List.take_succ_cons, List.map_cons, List.flatten_cons, List.length_append, List.map_cons, List.flatten_cons, List.length_append]
    omega
theorem found_if {σ : St} {H1 : Hp} {Q : VK} {b : Bool} {ta : TA} {pre : List V} (h1 : b = true → ∀ R : List V → Hp → Prop, R pre H1 → ta σ H1 R) (h2 : b = false → pre = []) (lp : pre.length ≤ 1000) (c : ∀ f, H1 f = none → Q (.ref f) (upd H1 f (.lst pre))) : if b = true then tLst ta σ H1 Q else tLst tNil σ H1 Q := by
  cases b with
  | true => exact iteT (h1 rfl _ ⟨szN lp, c⟩)
  | false =>
    have e := h2 rfl
    subst e
    exact iteF ⟨Nat.zero_le _, c⟩
theorem kids_if {σ : St} {H1 : Hp} {Q : VK} {b : Bool} {t1 t2 : TE} {kv : List V} (h1 : b = true → ∀ R : VK, (∀ l, H1 l = none → R (.ref l) (upd H1 l (.lst kv))) → t1 σ H1 R) (h2 : b = false → ∀ R : VK, (∀ l, H1 l = none → R (.ref l) (upd H1 l (.lst kv))) → t2 σ H1 R)
    (c : ∀ l, H1 l = none → Q (.ref l) (upd H1 l (.lst kv))) : if b = true then t1 σ H1 Q else t2 σ H1 Q := by
  cases b with
  | true => exact iteT (h1 rfl _ c)
  | false => exact iteF (h2 rfl _ c)
section
variable {P : Program} {w : World} {K : PySem.W.Frag} {mg : Str → Option Value} {base : Heap}
end
section
variable {P : Program} {w : World} {K : PySem.W.Frag} {mg : Str → Option Value} {base : Heap}
end
/-- the words of a paper that can be are few -/
theorem wAll_len {ps : List Sch} (h : PaperOk ps) {s : Sch} {j : Nat} (e : ps[j]? = some s) (k : Nat) : (wP ps k s).length ≤ 10 := by
  obtain ⟨_, _, ce, cw, t⟩ := h
  have hp : ∀ (j : Nat) (s : Sch), ps[j]? = some s → OkS j ps.length 5 s ∧ ce j = er ce 5 s ∧ cw j = wr cw 5 s := fun j s e => by
    obtain ⟨q1, q2, q3, _⟩ := t j s e
    rw [Nat.zero_add] at q1 q2 q3
    exact ⟨q1, q2, q3⟩
  have h0 : ∀ n j, ps.length - j ≤ n → j < ps.length → 0 ≤ ce j ∧ 0 ≤ cw j := by
    intro n
    induction n with
    | zero => intro j a b; omega
    | succ n ih =>
      intro j a b
      obtain ⟨o, e1, e2⟩ := hp j _ (List.getElem?_eq_getElem b)
      rw [e1, e2]
      exact ⟨er_nonneg (fun j' h1 h2 => (ih j' (by omega) h2).1) 5 _ o, wr_nonneg (fun j' h1 h2 => (ih j' (by omega) h2).2) 5 _ o⟩
  obtain ⟨_, _, _, _, q5, q6⟩ := t j s e
  have := wP_len hp (fun j hj => (h0 _ j (Nat.le_refl _) hj).1) (fun j hj => (h0 _ j (Nat.le_refl _) hj).2) k j 5 s (hp j s e).1
  omega
end MS
end
section
set_option maxRecDepth 100000
set_option maxHeartbeats 4000000
namespace MS
open PySem L2
/-- the word that a scheme names itself -/
def wordOf : Sch → Str
  | .step x _ => x
  | .seen x _ => x
  | .behind x _ => x
  | .fin x _ _ => x
  | _ => ""
/-- the schemes within -/
def kidsOf : Sch → List Sch
  | .step _ _ => []
  | .all k => k
  | .best k => k
  | .most _ s => [s]
  | .half s => [s]
  | .seen _ s => [s]
  | .behind _ s => [s]
  | .carry s => [s]
  | .fin _ _ s => [s]
  | .use _ => []
structure Shp (H : Hp) (i M d : Nat) (sc : Sch) (nm : Str) (rest : List V) (kinds : List Str) (kv : List V) : Prop where
  mem : (nm, kinds) ∈ shapesL
  fit : Paired (FitsR H i M) rest kinds
  ok : ∀ s ∈ kidsOf sc, OkS i M d s
  at_ : Paired (SAt H d) (kidsOf sc) kv
  w1 : ∃ k0 kr, kinds = k0 :: kr ∧ ((k0 = "word" ∧ atI (.str nm :: rest) 1 = some (.str (wordOf sc))) ∨ (k0 ≠ "word" ∧ wordOf sc = ""))
  k1 : ∃ kl, atI (kinds.map V.str) (-1) = some (.str kl) ∧ ((kl = "schemes" ∧ ∃ b, atI (.str nm :: rest) (-1) = some (.ref b) ∧ H b = some (.tup kv)) ∨ (kl = "scheme" ∧ ∃ u, atI (.str nm :: rest) (-1) = some u ∧ kv = [u]) ∨ (kl ≠ "schemes" ∧ kl ≠ "scheme" ∧ kv = []))
theorem SAt.shape {H : Hp} {i M d : Nat} {sc : Sch} {a : Addr} {nm : Str} {rest : List V} (h : SAt H (d + 1) sc (.ref a)) (o : OkS i M (d + 1) sc) (ea : H a = some (.tup (.str nm :: rest))) : ∃ kinds kv, Shp H i M d sc nm rest kinds kv := by
  have inj : ∀ {a' : Addr} {nm' : Str} {rest' : List V}, (V.ref a = V.ref a') → H a' = some (.tup (.str nm' :: rest')) → nm' = nm ∧ rest' = rest := fun e h => by
    cases e
    rw [ea] at h
    cases h
    exact ⟨rfl, rfl⟩
  have fw : ∀ {x : Str}, IsW x → FitsR H i M (.str x) "word" := fun hx => .inl ⟨rfl, _, rfl, hx⟩
  have fp : ∀ {p : Int}, 1 ≤ p → p ≤ 9 → FitsR H i M (.int p) "points" := fun h1 h2 => .inr (.inl ⟨rfl, _, rfl, h1, h2⟩)
  have fs : ∀ {u : V}, FitsR H i M u "scheme" := .inr (.inr (.inr (.inr (.inl rfl))))
  have one : ∀ {s : Sch}, OkS i M d s → ∀ s' ∈ [s], OkS i M d s' := fun o s' h' => by rw [List.mem_singleton.mp h']; exact o
  cases sc with
  | step x p =>
    obtain ⟨a', e, h⟩ := h
    obtain ⟨rfl, rfl⟩ := inj e h
    exact ⟨["word", "points"], [], by decide +kernel, .cons (fw o.1) (.cons (fp o.2.1 o.2.2) .nil), (fun _ h => nomatch h), .nil, ⟨_, _, rfl, .inl ⟨rfl, at1⟩⟩, ⟨"points", rfl, .inr (.inr ⟨by decide +kernel, by decide +kernel, rfl⟩)⟩⟩
  | all k =>
    obtain ⟨a', b, vs, e, h, eb, hk⟩ := h
    obtain ⟨rfl, rfl⟩ := inj e h
    have := Paired.length hk
    have h1 := o.1
    have h2 := o.2.1
    exact ⟨["schemes"], vs, by decide +kernel, .cons (.inr (.inr (.inr (.inl ⟨rfl, b, vs, rfl, eb, by omega, by omega⟩)))) .nil, o.2.2, hk, ⟨_, _, rfl, .inr ⟨by decide +kernel, rfl⟩⟩, ⟨"schemes", rfl, .inl ⟨rfl, b, rfl, eb⟩⟩⟩
  | best k =>
    obtain ⟨a', b, vs, e, h, eb, hk⟩ := h
    obtain ⟨rfl, rfl⟩ := inj e h
    have := Paired.length hk
    have h1 := o.1
    have h2 := o.2.1
    exact ⟨["schemes"], vs, by decide +kernel, .cons (.inr (.inr (.inr (.inl ⟨rfl, b, vs, rfl, eb, by omega, by omega⟩)))) .nil, o.2.2, hk, ⟨_, _, rfl, .inr ⟨by decide +kernel, rfl⟩⟩, ⟨"schemes", rfl, .inl ⟨rfl, b, rfl, eb⟩⟩⟩
  | most n s =>
    obtain ⟨a', u, e, h, hs⟩ := h
    obtain ⟨rfl, rfl⟩ := inj e h
    exact ⟨["limit", "scheme"], [u], by decide +kernel, .cons (.inr (.inr (.inl ⟨rfl, n, rfl, o.1.1, o.1.2⟩))) (.cons fs .nil), one o.2, .cons hs .nil, ⟨_, _, rfl, .inr ⟨by decide +kernel, rfl⟩⟩, ⟨"scheme", rfl, .inr (.inl ⟨rfl, u, rfl, rfl⟩)⟩⟩
  | half s =>
    obtain ⟨a', u, e, h, hs⟩ := h
    obtain ⟨rfl, rfl⟩ := inj e h
    exact ⟨["scheme"], [u], by decide +kernel, .cons fs .nil, one o, .cons hs .nil, ⟨_, _, rfl, .inr ⟨by decide +kernel, rfl⟩⟩, ⟨"scheme", rfl, .inr (.inl ⟨rfl, u, rfl, rfl⟩)⟩⟩
  | seen x s =>
    obtain ⟨a', u, e, h, hs⟩ := h
    obtain ⟨rfl, rfl⟩ := inj e h
    exact ⟨["word", "scheme"], [u], by decide +kernel, .cons (fw o.1) (.cons fs .nil), one o.2, .cons hs .nil, ⟨_, _, rfl, .inl ⟨rfl, at1⟩⟩, ⟨"scheme", rfl, .inr (.inl ⟨rfl, u, rfl, rfl⟩)⟩⟩
  | behind x s =>
    obtain ⟨a', u, e, h, hs⟩ := h
    obtain ⟨rfl, rfl⟩ := inj e h
    exact ⟨["word", "scheme"], [u], by decide +kernel, .cons (fw o.1) (.cons fs .nil), one o.2, .cons hs .nil, ⟨_, _, rfl, .inl ⟨rfl, at1⟩⟩, ⟨"scheme", rfl, .inr (.inl ⟨rfl, u, rfl, rfl⟩)⟩⟩
  | carry s =>
    obtain ⟨a', u, e, h, hs⟩ := h
    obtain ⟨rfl, rfl⟩ := inj e h
    exact ⟨["scheme"], [u], by decide +kernel, .cons fs .nil, one o, .cons hs .nil, ⟨_, _, rfl, .inr ⟨by decide +kernel, rfl⟩⟩, ⟨"scheme", rfl, .inr (.inl ⟨rfl, u, rfl, rfl⟩)⟩⟩
  | fin x p s =>
    obtain ⟨a', u, e, h, hs⟩ := h
    obtain ⟨rfl, rfl⟩ := inj e h
    exact ⟨["word", "points", "scheme"], [u], by decide +kernel, .cons (fw o.1.1) (.cons (fp o.1.2.1 o.1.2.2) (.cons fs .nil)), one o.2, .cons hs .nil, ⟨_, _, rfl, .inl ⟨rfl, at1⟩⟩, ⟨"scheme", rfl, .inr (.inl ⟨rfl, u, rfl, rfl⟩)⟩⟩
  | use n =>
    obtain ⟨a', e, h⟩ := h
    obtain ⟨rfl, rfl⟩ := inj e h
    exact ⟨["later"], [], by decide +kernel, .cons (.inr (.inr (.inr (.inr (.inr ⟨rfl, n, rfl, o.1, o.2⟩))))) .nil, (fun _ h => nomatch h), .nil, ⟨_, _, rfl, .inr ⟨by decide +kernel, rfl⟩⟩, ⟨"later", rfl, .inr (.inr ⟨by decide +kernel, by decide +kernel, rfl⟩)⟩⟩
def spWordIn : Sp := fun vs H Q _ => ∃ (v : V) (sc : Sch) (i M d : Nat), vs = [v] ∧ SAt H (d + 1) sc v ∧ OkS i M (d + 1) sc ∧ Q (.str (wordOf sc)) H
def spWithin : Sp := fun vs H Q _ => ∃ (v : V) (sc : Sch) (i M d : Nat), vs = [v] ∧ SAt H (d + 1) sc v ∧ OkS i M (d + 1) sc ∧ ∀ (f : Addr) (kv : List V), H f = none → Paired (SAt H d) (kidsOf sc) kv → Q (.ref f) (upd H f (.lst kv))
section
variable {P : Program} {w : World} {K : PySem.W.Frag} {mg : Str → Option Value} {base : Heap}
theorem ok_within (T : PTx w K mg) (D : Def K mg "within" s_within ["scheme"]) : FnOk P w K mg base CX0 1 D.f D.fd ["scheme"] spWithin := by
  obtain ⟨aS, gS, low, hS⟩ := T.shapes
  have nd := sc_within.nd
  refine D.ok sc_within (fun vs H Q E h => ?_) (fun cdv A outer s H vs Q E hr h => ?_)
  · obtain ⟨v, sc, i, M, d, rfl, _⟩ := h
    rfl
  obtain ⟨v, sc, i, M, d, rfl, hs, ho, q⟩ := h
  refine ⟨_, pss_cons (ps_set (i := 1) nd rfl (Or.inl rfl) (pe_ix ix_tup (pe_ix ix_kdict (pe_glob rfl gS (v := .ref aS) rfl) (pe_ix ix_tup (pv 0) pe_int (fun _ _ => rfl)) (fun _ _ => rfl)) (pe_un un_neg pe_int) (fun _ _ => rfl)))
    (pss_cons (ps_if (pt_cmpR op_eq (pv 1) pe_str (nomark _)) (pss_one (ps_ret (pe_callTy call_list_of rfl (T.free "list" (by decide +kernel)) (by decide +kernel) (pa_cons (pe_ix ix_tup (pv 0) (pe_un un_neg pe_int) (fun _ _ => rfl)) pa_nil)))) pss_nil)
    (pss_one (ps_ret (pe_ifExp (pt_cmpR op_eq (pv 1) pe_str (nomark _)) (pe_lst (pa_cons (pe_ix ix_tup (pv 0) (pe_un un_neg pe_int) (fun _ _ => rfl)) pa_nil)) (pe_lst pa_nil))))), ?_⟩
  obtain ⟨a, nm, rest, rfl, ea⟩ := hs.tag
  obtain ⟨kinds, kv, S⟩ := hs.shape ho ea
  obtain ⟨t, kd, qt⟩ := hS _ S.mem
  obtain ⟨kl, hl, hk⟩ := S.k1
  refine ⟨_, rfl, a, _, 0, .str nm, rfl, rfl, SqT.of ea, at0, aS, nm, .ref t, rfl, rfl, kd, 1, rfl, t, _, -1, .str kl, rfl, rfl, qt _, hl, ?_⟩
  have S_at := S.at_
  rcases hk with ⟨e, b, e1, eb⟩ | ⟨e, u, e1, ek⟩ | ⟨n1, n2, ek⟩
  · refine seq_if (b := true) (is_word rfl (by rw [e]; decide +kernel)) (fun _ => ?_) (fun z => nomatch z)
    exact ⟨_, rfl, 1, rfl, a, _, -1, .ref b, rfl, rfl, SqT.of ea, e1, b, kv, rfl, .inr (SqT.of eb), fun l hl' => q l kv hl' S_at⟩
  · refine seq_if (b := false) (is_word rfl (by rw [e]; decide +kernel)) (fun z => nomatch z) (fun _ => ?_)
    refine is_word (b := true) rfl (by rw [e]; decide +kernel) _ (iteT ?_)
    exact ⟨_, rfl, 1, rfl, a, _, -1, u, rfl, rfl, SqT.of ea, e1, szN (by show 1 ≤ 1000; decide), fun l hl' => q l _ hl' (by rw [← ek]; exact S_at)⟩
  · refine seq_if (b := false) (is_word rfl (beq_eq_false_iff_ne.mpr n1)) (fun z => nomatch z) (fun _ => ?_)
    refine is_word (b := false) rfl (beq_eq_false_iff_ne.mpr n2) _ (iteF ?_)
    exact ⟨Nat.zero_le _, fun l hl' => q l _ hl' (by rw [← ek]; exact S_at)⟩
end
end MS
end
section
set_option maxRecDepth 100000
set_option maxHeartbeats 4000000
namespace MS
open PySem L2
/-! ### rows in the program -/
theorem pts_sum : ∀ rs : List Row, (rs.map fun r => ((r.2.1 : Nat) : Int)).sum = ((pts rs : Nat) : Int)
  | [] => rfl
  | r :: t => by
    rw [List.map_cons, List.sum_cons, pts_sum t, pts_cons]
    omega
def spPoints : Sp := fun vs H Q _ => ∃ (a : Addr) (rs : List Row) (rv : List V), vs = [.ref a] ∧ H a = some (.lst rv) ∧ Paired (RowR H) rs rv ∧ rs.length ≤ 1000 ∧ ∀ H', Same H H' → Q (.int ((pts rs : Nat) : Int)) H'
def spFirst : Sp := fun vs H Q _ => ∃ (a : Addr) (n : Nat) (rs : List Row) (rv : List V), vs = [.ref a, .int ((n : Nat) : Int)] ∧ H a = some (.lst rv) ∧ Paired (RowR H) rs rv ∧ rs.length ≤ 1000 ∧
  ∀ (f : Addr) (rv' : List V) (H' : Hp), Same H H' → H f = none → H' f = some (.lst rv') → Paired (RowR H') (firstP rs n) rv' → Q (.ref f) H'
theorem first_step (r : Row) (t : List Row) (left : Nat) : firstP (r :: t) left = if left = 0 then [] else (r.1, min r.2.1 left, r.2.2) :: firstP t (left - min r.2.1 left) := rfl
theorem first_zero (rs : List Row) : firstP rs 0 = [] := by
  cases rs with
  | nil => rfl
  | cons r t => rw [first_step, if_pos rfl]
theorem Same.newer {H H1 : Hp} {p : Addr} {o : HO} (k : Same H H1) (h : H p = none) : Same H (upd H1 p o) := fun b u q => by
  rw [upd_ne (ne_of_none q h)]
  exact k b u q
section
variable {P : Program} {w : World} {K : PySem.W.Frag} {mg : Str → Option Value} {base : Heap}
theorem ok_points_of (T : PTx w K mg) (D : Def K mg "points_of" s_points_of ["rows"]) : FnOk P w K mg base CX0 1 D.f D.fd ["rows"] spPoints := by
  have nd := sc_points_of.nd
  refine D.ok sc_points_of (fun vs H Q E h => ?_) (fun cdv A outer s H vs Q E hr h => ?_)
  · obtain ⟨a, rs, rv, rfl, _⟩ := h
    rfl
  obtain ⟨a, rs, rv, rfl, ea, pr, hl, q⟩ := h
  refine ⟨_, pss_one (ps_ret (pe_callB (cr_sum rfl) rfl (T.free "sum" (by decide +kernel)) (by decide +kernel) (pa_cons
    (pe_lc (own := [("place", 1), ("points", 2), ("where", 3)]) (g := gTup K 3 (gCons (gName 1) (gCons (gName 2) (gCons (gName 3) gNil)))) (tt := tYes) rfl nd (pi_list (pv 0)) (blkOk_by (N := ["rows", "place", "points", "where"]) (sc := defScope s_points_of) (by decide +kernel))
      (fun _ _ _ _ _ => pg_tup rfl (pgs_cons (pg_name (i := 1) nd rfl (Or.inl rfl)) (pgs_cons (pg_name (i := 2) nd rfl (Or.inl rfl)) (pgs_cons (pg_name (i := 3) nd rfl (Or.inl rfl)) pgs_nil)))) (fun _ _ _ _ _ => pts_nil) (fun _ _ _ _ _ => pv 2)) pa_nil))), ?_⟩
  have lr := Paired.length pr
  refine ⟨_, rfl, a, rfl, ⟨_, SqL.of ea⟩, fun Dd hD => ?_⟩
  have naD : a ≠ Dd := ne_of_none ea hD
  refine lc_list (K := K) (a := a) (xs := rv) (fun j H'' => H'' = upd H Dd (.lst (((rs.take j).map fun r => ((r.2.1 : Nat) : Int)).map V.int))) rfl (fun j H'' _ e => by rw [e]; exact SqL.of (by rw [upd_ne naD]; exact ea)) ?_ ?_
  · rintro j x H'' hj rfl
    obtain ⟨r, er', ⟨b, c, rfl, eb, ec⟩⟩ := paired_get' pr hj
    have hjl := (List.getElem?_eq_some_iff.mp er').1
    have tk : rs.take (j + 1) = rs.take j ++ [r] := by
      rw [List.take_succ, er']
      rfl
    refine ⟨b, _, rfl, SqT.of (Same.new hD _ _ eb), rfl, _, _, rfl, _, _, rfl, _, _, rfl, rfl, rfl, _, rfl, _, upd_same, ?_, ?_⟩
    · rw [List.length_map, List.length_map, List.length_take]
      exact small1000 (by omega)
    · rw [upd_upd, tk, List.map_append, List.map_append]
      rfl
  · rintro H'' rfl
    rw [← lr, List.take_length]
    refine ⟨Dd, _, rfl, SqL.of upd_same, ?_⟩
    rw [pts_sum]
    exact q _ (Same.new hD)
theorem ok_first_points (T : PTx w K mg) (D : Def K mg "first_points" s_first_points ["rows", "limit"]) : FnOk P w K mg base CX0 1 D.f D.fd ["rows", "limit"] spFirst := by
  have nd := sc_first_points.nd
  refine D.ok sc_first_points (fun vs H Q E h => ?_) (fun cdv A outer s H vs Q E hr h => ?_)
  · obtain ⟨a, n, rs, rv, rfl, _⟩ := h
    rfl
  obtain ⟨a, n, rs, rv, rfl, ea, pr, hl, q⟩ := h
  refine ⟨_, pss_cons (ps_set (i := 2) nd rfl (Or.inl rfl) (pe_lst pa_nil))
    (pss_cons (ps_set (i := 3) nd rfl (Or.inl rfl) (pv 1))
    (pss_cons (ps_for PassesOwn.never rfl (pi_list (pv 0)) (pg_tup (by rfl) (pgs_cons (pg_name (i := 4) nd rfl (Or.inl rfl)) (pgs_cons (pg_name (i := 5) nd rfl (Or.inl rfl)) (pgs_cons (pg_name (i := 6) nd rfl (Or.inl rfl)) pgs_nil))))
      (pss_cons (ps_if (pt_cmpR op_eq (pv 3) pe_int (nomark _)) (pss_one ps_break) pss_nil)
      (pss_cons (ps_set (i := 7) nd rfl (Or.inl rfl) (pe_callB (call_min2 rfl) rfl (T.free "min" (by decide +kernel)) (by decide +kernel) (pa_cons (pv 5) (pa_cons (pv 3) pa_nil))))
      (pss_cons (ps_expr (pe_bm PySem.F.plainAttrs_list PySem.F.slot_list_append PySem.F.type_list_append mt_append (pv 2) (pa_cons (pe_tup (pa_cons (pv 4) (pa_cons (pv 7) (pa_cons (pv 6) pa_nil)))) pa_nil)))
      (pss_one (ps_aug (i := 3) nd rfl (Or.inl rfl) (pv 7) ip_sub))))))
    (pss_one (ps_ret (pv 2))))), ?_⟩
  have lr := Paired.length pr
  refine ⟨Nat.zero_le _, fun f hf => ?_⟩
  dsimp only [gName]
  refine ⟨_, rfl, ?_⟩
  dsimp only [gName]
  have s1 : Same H (upd H f (.lst [])) := Same.new hf
  refine ⟨_, rfl, a, rfl, ⟨_, SqL.of (s1 _ _ ea)⟩, for_list (K := K) (a := a) (xs := rv) (fun j σ H'' => ∃ (kj : List Row) (kv : List V) (left : Nat) (v4 v5 v6 v7 : Option V), σ = [some (.ref a), some (.int ((n : Nat) : Int)), some (.ref f), some (.int ((left : Nat) : Int)), v4, v5, v6, v7] ∧ H'' f = some (.lst kv) ∧ Paired (RowR H'') kj kv ∧ kj.length ≤ j ∧ firstP rs n = kj ++ firstP (rs.drop j) left ∧ Same H H'')
    ⟨[], [], n, none, none, none, none, rfl, upd_same, .nil, Nat.le_refl _, rfl, s1⟩ (fun j σ H'' _ ⟨_, _, _, _, _, _, _, _, _, _, _, _, s2⟩ => SqL.of (s2 _ _ ea)) ?_ ?_⟩
  · rintro j x σ H5 hj ⟨kj, kv, left, v4, v5, v6, v7, rfl, ef, pk, lk, hf1, s2⟩
    obtain ⟨r, er', ⟨b, c, rfl, eb, ec⟩⟩ := paired_get' pr hj
    have eb5 := s2 _ _ eb
    have ec5 := s2 _ _ ec
    have hjl := (List.getElem?_eq_some_iff.mp er').1
    have dr : rs.drop j = r :: rs.drop (j + 1) := by
      rw [List.drop_eq_getElem_cons hjl]
      congr 1
      exact Option.some.inj ((List.getElem?_eq_getElem hjl).symm.trans er')
    rw [dr, first_step] at hf1
    refine ⟨b, _, rfl, SqT.of eb5, rfl, _, _, rfl, _, _, rfl, _, _, rfl, rfl, ?_⟩
    refine seq_if (b := ((left : Nat) : Int) == 0) (fun Q q => ⟨_, rfl, rfl, _, rfl, by rw [dec_int]; exact q⟩) (fun z => ?_) (fun z => ?_)
    · have z0 : left = 0 := by have := eq_of_beq z; omega
      rw [if_pos z0, List.append_nil] at hf1
      exact ⟨_, rfl, q f kv H5 s2 hf ef (by rw [hf1]; exact pk)⟩
    · have z0 : left ≠ 0 := fun e => by rw [e] at z; cases z
      rw [if_neg z0] at hf1
      have hmin : (if ((left : Nat) : Int) < ((r.2.1 : Nat) : Int) then ((left : Nat) : Int) else ((r.2.1 : Nat) : Int)) = ((min r.2.1 left : Nat) : Int) := by split <;> omega
      refine ⟨_, rfl, _, rfl, _, _, rfl, ?_⟩
      rw [hmin]
      dsimp only [gName]
      refine ⟨_, rfl, .inl ⟨rfl, _, SqL.of ef⟩, _, rfl, _, rfl, _, rfl, szN (by show 3 ≤ 1000; decide), fun t ht => ?_⟩
      have ntf : f ≠ t := ne_of_none ef ht
      have ef7 : upd H5 t (.tup [.int ((r.1 : Nat) : Int), .int ((min r.2.1 left : Nat) : Int), .ref c]) f = some (.lst kv) := by rw [upd_ne ntf]; exact ef
      have tk : ∀ o, TupK H5 (upd (upd H5 t (.tup [.int ((r.1 : Nat) : Int), .int ((min r.2.1 left : Nat) : Int), .ref c])) f o) := fun o => (TupK.new ht).trans (TupK.put ef7)
      have lkv := Paired.length pk
      refine ⟨f, _, _, rfl, rfl, ef7, small1000 (by omega), ?_⟩
      refine ⟨_, rfl, _, rfl, _, _, rfl, rfl, ?_⟩
      refine ⟨kj ++ [(r.1, min r.2.1 left, r.2.2)], _, left - min r.2.1 left, some (.int ((r.1 : Nat) : Int)), some (.int ((r.2.1 : Nat) : Int)), some (.ref c), some (.int ((min r.2.1 left : Nat) : Int)), ?_, upd_same, paired_app (paired_imp pk fun _ _ h => RowR.keep h (tk _)) (.cons ⟨t, c, rfl, ?_, tk _ _ _ ec5⟩ .nil), ?_, ?_, ?_⟩
      · rw [show (((left - min r.2.1 left : Nat)) : Int) = ((left : Nat) : Int) - ((min r.2.1 left : Nat) : Int) by omega]
        rfl
      · rw [upd_ne ntf.symm, upd_same]
      · rw [List.length_append]
        simp
        omega
      · rw [hf1]
        simp
      · exact Same.newer (s2.trans (Same.new ht)) hf
  · rintro σ H5 ⟨kj, kv, left, v4, v5, v6, v7, rfl, ef, pk, lk, hf1, s2⟩
    rw [← lr, List.drop_length] at hf1
    have e : firstP rs n = kj := by rw [hf1]; show kj ++ [] = kj; rw [List.append_nil]
    exact ⟨_, rfl, q f kv H5 s2 hf ef (by rw [e]; exact pk)⟩
end
end MS
end
section
set_option maxRecDepth 100000
set_option maxHeartbeats 4000000
namespace MS
open PySem L2
theorem walk_zipT {K : PySem.W.Frag} {a b : Addr} {xs ys : List V} {n : Nat} (hn : n = min xs.length ys.length) : Walk (RZ.ItzT K a b) n (fun H => SqT K H a xs ∧ SqT K H b ys) (YPair (fun i => xs[i]?) (fun i => ys[i]?)) := by
  subst hn
  refine ⟨fun i _ hi q => ?_, fun _ q => ⟨xs, ys, q.1, q.2, by omega⟩, fun i H v H' _ q y => ?_⟩
  · have h1 : i < xs.length := by omega
    have h2 : i < ys.length := by omega
    exact ⟨xs, ys, xs[i], ys[i], q.1, q.2, by simp [h1], by simp [h2]⟩
  · obtain ⟨T, x, z, h1, h2, h3, h4, h5⟩ := y
    exact ⟨T, x, z, h1, h2, h3, h4 xs q.1, h5 ys q.2⟩
def spCanBe (i M : Nat) : Sp := fun vs H Q _ => ∃ (v : V) (sc : Sch) (d : Nat), vs = [v, .int ((i : Nat) : Int), .int ((M : Nat) : Int)] ∧ SAt H (d + 1) sc v ∧ OkS i M (d + 1) sc ∧ ∀ H', Same H H' → Q (.bl true) H'
abbrev nmCanBe : List Str := ["thing", "number", "many", "shape", "part", "kind"]
abbrev psFits : List Str := ["part", "kind", "number", "many"]
theorem FitsR.keep {H H' : Hp} {i M : Nat} {v : V} {z : Str} (h : FitsR H i M v z) (k : Same H H') : FitsR H' i M v z := by
  rcases h with h | h | h | ⟨e, b, vs, e1, e2, h1, h2⟩ | h | h
  · exact .inl h
  · exact .inr (.inl h)
  · exact .inr (.inr (.inl h))
  · exact .inr (.inr (.inr (.inl ⟨e, b, vs, e1, k _ _ e2, h1, h2⟩)))
  · exact .inr (.inr (.inr (.inr (.inl h))))
  · exact .inr (.inr (.inr (.inr (.inr h))))
theorem not_whole {n : Nat} (h : 0 < n) : ¬ (HT.sIx n 0 (some 1) = 0 ∧ HT.sIx n n none = n) := fun ⟨h1, _⟩ => by
  have e := HT.sIx_nat n 0 1
  have h2 : HT.sIx n 0 (some ((1 : Nat) : Int)) = 0 := h1
  rw [e] at h2
  omega
section
variable {P : Program} {w : World} {K : PySem.W.Frag} {mg : Str → Option Value} {base : Heap}
theorem ok_can_be {i M : Nat} (T : PTx w K mg) (D : Def K mg "can_be" s_can_be ["thing", "number", "many"]) (DF : Def K mg "fits" s_fits psFits) (DN : Def K mg "is_number" s_is_number ["thing"]) : FnOk P w K mg base CX0 3 D.f D.fd ["thing", "number", "many"] (spCanBe i M) := by
  have GF : FnOk P w K mg base CX0 2 DF.f DF.fd psFits (spFits i M) := ok_fits T DF DN
  obtain ⟨aS, gS, low, hS⟩ := T.shapes
  have nd := sc_can_be.nd
  refine D.ok sc_can_be (fun vs H Q E h => ?_) (fun cdv A outer s H vs Q E hr h => ?_)
  · obtain ⟨v, sc, d, rfl, _⟩ := h
    rfl
  obtain ⟨v, sc, d, rfl, hs, ho, q⟩ := h
  refine ⟨_, pss_cons (ps_if (PW.pt (pw_or (pt_not (pt_val (pe_callB call_isi rfl (T.free "isinstance" (by decide +kernel)) (by decide +kernel) (pa_cons (pv 0) (pa_cons (pe_bltn rfl (T.free "tuple" (by decide +kernel)) (by decide +kernel) (v := .ty "tuple") rfl) pa_nil)))))
      (pw_or (pt_not (pt_truth (pv 0) (by intro _; rfl))) (pw_or1 (pt_not (pt_val (pe_callB call_isi rfl (T.free "isinstance" (by decide +kernel)) (by decide +kernel) (pa_cons (pe_ix ix_tup (pv 0) pe_int (fun _ _ => rfl)) (pa_cons (pe_bltn rfl (T.free "str" (by decide +kernel)) (by decide +kernel) (v := .ty "str") rfl) pa_nil))))))))) (pss_one (ps_ret pe_bl)) pss_nil)
    (pss_cons (ps_set (i := 3) nd rfl (Or.inl rfl) (pe_kget2 (pe_glob rfl gS (v := .ref aS) rfl) (pe_ix ix_tup (pv 0) pe_int (fun _ _ => rfl)) pe_non ⟨rfl, rfl, rfl, rfl⟩))
    (pss_cons (ps_if (PW.pt (pw_or (pt_cmpR op_isN (pv 3) pe_non (nomark _)) (pw_or1 (pt_cmpR op_ne (pe_callB call_len_seq rfl (T.free "len" (by decide +kernel)) PySem.boot_len (pa_cons (pv 0) pa_nil)) (pe_op op_add (pe_callB call_len_seq rfl (T.free "len" (by decide +kernel)) PySem.boot_len (pa_cons (pv 3) pa_nil)) pe_int) (nomark _))))) (pss_one (ps_ret pe_bl)) pss_nil)
    (pss_one (ps_ret (pe_callB (cr_all rfl) rfl (T.free "all" (by decide +kernel)) (by decide +kernel) (pa_cons
      (pe_lc (own := [("part", 4), ("kind", 5)]) (g := gTup K 2 (gCons (gName 4) (gCons (gName 5) gNil))) (tt := tYes) rfl nd (RZ.pi_zipA rfl (T.free "zip" (by decide +kernel)) (pa_cons (pe_slice sl_tupA (pv 0) (po_some pe_int) po_none) (pa_cons (pv 3) pa_nil))) (blkOk_by (N := nmCanBe) (sc := defScope s_can_be) (by decide +kernel))
        (fun _ _ _ _ _ => pg_tup rfl (pgs_cons (pg_name (i := 4) nd rfl (Or.inl rfl)) (pgs_cons (pg_name (i := 5) nd rfl (Or.inl rfl)) pgs_nil))) (fun _ _ _ _ _ => pts_nil)
        (fun _ _ _ _ _ => pcall DF GF hr (pa_cons (pv 4) (pa_cons (pv 5) (pa_cons (pv 1) (pa_cons (pv 2) pa_nil)))))) pa_nil)))))), ?_⟩
  obtain ⟨a, nm, rest, rfl, ea⟩ := hs.tag
  obtain ⟨kinds, kv, S⟩ := hs.shape ho ea
  obtain ⟨t, kd, qt⟩ := hS _ S.mem
  have lrk := Paired.length S.fit
  have lk3 : kinds.length ≤ 3 := by
    have z : ∀ p ∈ shapesL, p.2.length ≤ 3 := by decide +kernel
    exact z _ S.mem
  refine seq_if (b := false || (false || false)) (ev_or (b := false) (c := false || false) (fun Q q => ⟨_, rfl, _, .ty "tuple", .type "tuple", .type "tuple", true, rfl, .ty _, .base (.tup ea), kit_ty (by decide +kernel), _, rfl, q⟩)
    (ev_or (b := false) (c := false) (fun Q q => ⟨_, rfl, true, .inr (.inl ⟨_, SqT.of ea, rfl⟩), q⟩) (fun Q q => ⟨_, rfl, a, _, 0, .str nm, rfl, rfl, SqT.of ea, at0, _, .ty "str", .type "str", .type "str", true, rfl, .ty _, .base (.str nm), kit_ty (by decide +kernel), _, rfl, q⟩))) (fun z => nomatch z) (fun _ => ?_)
  refine ⟨aS, rfl, low, ⟨_, _, kd⟩, _, rfl, a, _, 0, .str nm, rfl, rfl, SqT.of ea, at0, nm, rfl, .inl ⟨_, kd, ?_⟩⟩
  dsimp only [gName]
  refine seq_if (b := false || false) (ev_or (b := false) (c := false) (fun Q q => ⟨_, rfl, rfl, _, rfl, by rw [decide_eq_false (fun z => nomatch z)]; exact q⟩)
    (fun Q q => ⟨_, rfl, a, _, rfl, .inr (SqT.of ea), _, rfl, t, _, rfl, .inr (qt _), _, _, rfl, rfl, rfl, _, rfl, (by
      have e : V.int (((V.str nm :: rest).length : Nat) : Int) = V.int (((kinds.map V.str).length : Nat) + 1 : Int) := by
        rw [List.length_cons, List.length_map, lrk]
        rfl
      rw [decide_eq_true e]
      exact q)⟩)) (fun z => nomatch z) (fun _ => ?_)
  refine ⟨_, rfl, 1, rfl, a, _, rfl, SqT.of ea, fun z => absurd z (not_whole (Nat.succ_pos _)), fun _ p hp => ?_⟩
  have s1 : Same H (upd H p (.tup (cutV (V.str nm :: rest) (some 1) none))) := Same.new hp
  have ec : cutV (V.str nm :: rest) (some 1) none = rest := cut_from (V.str nm :: rest) 1
  rw [ec] at s1 ⊢
  refine ⟨_, rfl, p, t, rest, kinds.map V.str, rfl, .inr ⟨SqT.of upd_same, qt _, fun Dd hD => ?_⟩⟩
  have s2 := s1.trans (Same.new (o := .lst []) hD)
  have ep : upd H p (.tup rest) p = some (.tup rest) := upd_same
  refine lc_it (walk_zipT (K := K) (a := p) (b := t) (xs := rest) (ys := kinds.map V.str) (n := rest.length) (by rw [List.length_map]; omega)) (fun j H'' => H'' Dd = some (.lst ((List.replicate j true).map V.bl)) ∧ Same (upd H p (.tup rest)) H'') ⟨upd_same, Same.new hD⟩ (fun j H'' _ ⟨_, s3⟩ => ⟨SqT.of (s3 _ _ ep), qt _⟩) ?_ ?_
  · rintro j x H2 H3 hj ⟨eD, s3⟩ ⟨T1, x1, x2, rfl, hT1, rfl, ex1, ex2⟩
    obtain ⟨k', ek', rfl⟩ : ∃ k', kinds[j]? = some k' ∧ x2 = V.str k' := by
      have ex2 : (kinds.map V.str)[j]? = some x2 := ex2
      rw [List.getElem?_map] at ex2
      cases e : kinds[j]? with
      | none => rw [e] at ex2; cases ex2
      | some k' => rw [e] at ex2; exact ⟨k', rfl, (Option.some.inj ex2).symm⟩
    obtain ⟨x', ex', hf⟩ := paired_get' S.fit ek'
    have ex1 : rest[j]? = some x1 := ex1
    rw [ex1] at ex'
    cases ex'
    have s4 := (s1.trans s3).trans (Same.new (o := .tup [x1, .str k']) hT1)
    refine ⟨T1, _, rfl, SqT.of upd_same, rfl, _, _, rfl, _, _, rfl, rfl, rfl, _, rfl, _, rfl, _, rfl, _, rfl, x1, k', rfl, hf.keep s4, _, Same.new hT1 _ _ eD, ?_, ?_, ?_⟩
    · rw [List.length_map, List.length_replicate]
      exact small1000 (by omega)
    · rw [upd_same, List.replicate_succ']
      rw [List.map_append]
      rfl
    · exact fun b o e => by
        rw [upd_ne (ne_of_none e hD)]
        exact (s3.trans (Same.new hT1)) b o e
  · rintro H'' ⟨eD, s3⟩
    refine ⟨Dd, _, rfl, SqL.of eD, ?_⟩
    rw [show (List.replicate rest.length true).all id = true by rw [List.all_replicate]; simp]
    exact q _ (s1.trans s3)
end
end MS
end
section
set_option maxRecDepth 100000
set_option maxHeartbeats 4000000
namespace MS
open PySem L2
theorem cat_at {K : PySem.W.Frag} {σ : St} {H : Hp} {wr : Addr} {wh : List Nat} {j i : Nat} {te : TE} {Q : VK} (s5 : σ[i]? = some (some (.ref wr))) (ewr : H wr = some (.tup (natV wh))) (hl : wh.length ≤ 200) (ht : ∀ Q : VK, Q (.int ((j : Nat) : Int)) H → te σ H Q)
    (q : ∀ (wr' : Addr) (H' : Hp), Same H H' → H' wr' = some (.tup (natV (wh ++ [j]))) → Q (.ref wr') H') : tOp (rCatA K) (tVar i) (tTup (tCons te tNil)) σ H Q := by
  refine ⟨_, s5, ht _ ⟨(by show 1 ≤ sizeLine; decide), fun t htn => ⟨wr, t, natV wh, [.int ((j : Nat) : Int)], rfl, rfl, SqT.of (Same.new htn _ _ ewr), SqT.of upd_same, szN (by rw [natV_len]; show wh.length + 1 ≤ 1000; omega), (fun z => ?_), (fun _ z => nomatch z), fun z _ p hp => ?_⟩⟩⟩
  · have z' : wh = [] := List.map_eq_nil_iff.mp z
    subst z'
    exact q t _ (Same.new htn) upd_same
  · exact q p _ ((Same.new htn).trans (Same.new hp)) (by rw [upd_same, natV_snoc])
/-- a place and what stands there -/
def PlR (H : Hp) (x : List Nat × V) (v : V) : Prop := ∃ b q, v = V.ref b ∧ H b = some (.tup [.ref q, x.2]) ∧ H q = some (.tup (natV x.1))
theorem PlR.keep {H H' : Hp} {x : List Nat × V} {v : V} (h : PlR H x v) (k : TupK H H') : PlR H' x v := by
  obtain ⟨b, q, e, h1, h2⟩ := h
  exact ⟨b, q, e, k _ _ h1, k _ _ h2⟩
def placedL (wh : List Nat) (xs : List V) : List (List Nat × V) := xs.zipIdx.map fun p => (wh ++ [p.2], p.1)
def spPlaced : Sp := fun vs H Q _ => ∃ (l pl : Addr) (xs : List V) (wh : List Nat), vs = [.ref l, .ref pl] ∧ H l = some (.lst xs) ∧ H pl = some (.tup (natV wh)) ∧ xs.length ≤ 100 ∧ wh.length ≤ 100 ∧
  ∀ (f : Addr) (pv : List V) (H' : Hp), Same H H' → H f = none → H' f = some (.lst pv) → Paired (PlR H') (placedL wh xs) pv → Q (.ref f) H'
section
variable {P : Program} {w : World} {K : PySem.W.Frag} {mg : Str → Option Value} {base : Heap}
theorem ok_placed (T : PTx w K mg) (D : Def K mg "placed" s_placed ["schemes", "place"]) : FnOk P w K mg base CX0 1 D.f D.fd ["schemes", "place"] spPlaced := by
  have nd := sc_placed.nd
  refine D.ok sc_placed (fun vs H Q E h => ?_) (fun cdv A outer s H vs Q E hr h => ?_)
  · obtain ⟨l, pl, xs, wh, rfl, _⟩ := h
    rfl
  obtain ⟨l, pl, xs, wh, rfl, el, epl, lx, lw, q⟩ := h
  refine ⟨_, pss_one (ps_ret (pe_lc (own := [("at", 2), ("scheme", 3)]) (g := gTup K 2 (gCons (gName 2) (gCons (gName 3) gNil))) (tt := tYes) rfl nd (pi_enum rfl (T.free "enumerate" (by decide +kernel)) (pa_cons (pv 0) pa_nil)) (blkOk_by (N := ["schemes", "place", "at", "scheme"]) (sc := defScope s_placed) (by decide +kernel))
      (fun _ _ _ _ _ => pg_tup rfl (pgs_cons (pg_name (i := 2) nd rfl (Or.inl rfl)) (pgs_cons (pg_name (i := 3) nd rfl (Or.inl rfl)) pgs_nil))) (fun _ _ _ _ _ => pts_nil)
      (fun _ _ _ _ _ => pe_tup (pa_cons (pe_op (r := rCatA K) op_catA (pv 1) (pe_tup (pa_cons (pv 2) pa_nil))) (pa_cons (pv 3) pa_nil))))), ?_⟩
  refine ⟨_, rfl, l, _, rfl, SqL.of el, fun Dd hD => ?_⟩
  have nlD : l ≠ Dd := ne_of_none el hD
  refine lc_it (walk_enum (K := K) (a := l) (xs := xs)) (fun j H'' => ∃ pv, H'' Dd = some (.lst pv) ∧ Paired (PlR H'') (placedL wh (xs.take j)) pv ∧ Same H H'') ⟨[], upd_same, .nil, Same.new hD⟩ (fun j H'' _ ⟨_, _, _, s3⟩ => SqL.of (s3 _ _ el)) ?_ ?_
  · rintro j x H2 H3 hj ⟨pv0, eD, pp, s3⟩ ⟨T1, x1, x2, rfl, hT1, rfl, ex1, ex2⟩
    obtain rfl : V.int ((j : Nat) : Int) = x1 := Option.some.inj ex1
    have ex2 : xs[j]? = some x2 := ex2
    have s4 := s3.trans (Same.new (o := .tup [.int ((j : Nat) : Int), x2]) hT1)
    refine ⟨T1, _, rfl, SqT.of upd_same, rfl, _, _, rfl, _, _, rfl, rfl, rfl, ?_⟩
    refine cat_at (i := 1) (j := j) rfl (s4 _ _ epl) (by omega) (fun Q q => ⟨_, rfl, q⟩) (fun wr' H5 s5 ew => ?_)
    refine ⟨_, rfl, sz2, fun p hp => ?_⟩
    have s6 := (Same.new (o := .tup [.int ((j : Nat) : Int), x2]) hT1).trans (s5.trans (Same.new (o := .tup [.ref wr', x2]) hp))
    have eD6 := s6 _ _ eD
    have lpv := Paired.length pp
    have tk : TupK H2 (upd (upd H5 p (.tup [.ref wr', x2])) Dd (.lst (pv0 ++ [.ref p]))) := (Same.tupK s6).trans (TupK.put eD6)
    have npD : p ≠ Dd := fun e => by rw [e] at eD6; rw [upd_same] at eD6; cases eD6
    refine ⟨_, eD6, ?_, _, upd_same, ?_, ?_⟩
    · have : (placedL wh (xs.take j)).length ≤ 100 := by
        unfold placedL
        rw [List.length_map, List.length_zipIdx, List.length_take]
        omega
      exact small1000 (by omega)
    · have e : placedL wh (xs.take (j + 1)) = placedL wh (xs.take j) ++ [(wh ++ [j], x2)] := by
        have hjl := (List.getElem?_eq_some_iff.mp ex2).1
        unfold placedL
        rw [List.take_succ, ex2]
        simp [List.zipIdx_append, List.length_take, Nat.min_eq_left (Nat.le_of_lt hjl)]
      rw [e]
      refine paired_app (paired_imp pp fun _ _ h => PlR.keep h tk) (.cons ⟨p, wr', rfl, by rw [upd_ne npD, upd_same], ?_⟩ .nil)
      exact TupK.put eD6 _ _ (Same.new hp _ _ ew)
    · intro b o e
      rw [upd_ne (ne_of_none e hD)]
      exact (s3.trans s6) b o e
  · rintro H'' ⟨pv0, eD, pp, s3⟩
    rw [List.take_length] at pp
    exact q Dd pv0 H'' s3 hD eD pp
end
/-- the one row of a step, or none -/
def spRowAt : Sp := fun vs H Q _ => ∃ (o : Option Nat) (p : Nat) (wr : Addr) (wh : List Nat), vs = [(match o with | some i => V.int ((i : Nat) : Int) | none => V.non), .int ((p : Nat) : Int), .ref wr] ∧ H wr = some (.tup (natV wh)) ∧
  ∀ (f : Addr) (rv : List V) (H' : Hp), Same H H' → H f = none → H' f = some (.lst rv) → Paired (RowR H') (match o with | some i => [(i, p, wh)] | none => []) rv → Q (.ref f) H'
section
variable {P : Program} {w : World} {K : PySem.W.Frag} {mg : Str → Option Value} {base : Heap}
theorem ok_row_at (T : PTx w K mg) (D : Def K mg "row_at" s_row_at ["place", "points", "where"]) : FnOk P w K mg base CX0 1 D.f D.fd ["place", "points", "where"] spRowAt := by
  have nd := sc_row_at.nd
  refine D.ok sc_row_at (fun vs H Q E h => ?_) (fun cdv A outer s H vs Q E hr h => ?_)
  · obtain ⟨o, p, wr, wh, rfl, _⟩ := h
    rfl
  obtain ⟨o, p, wr, wh, rfl, ewr, q⟩ := h
  refine ⟨_, pss_one (ps_ret (pe_ifExp (pt_cmpR op_isN (pv 0) pe_non (nomark _)) (pe_lst pa_nil) (pe_lst (pa_cons (pe_tup (pa_cons (pv 0) (pa_cons (pv 1) (pa_cons (pv 2) pa_nil)))) pa_nil)))), ?_⟩
  cases o with
  | none =>
    refine ⟨_, rfl, rfl, _, rfl, ?_⟩
    rw [decide_eq_true rfl]
    exact iteT ⟨Nat.zero_le _, fun f hf => q f [] _ (Same.new hf) hf upd_same .nil⟩
  | some i =>
    refine ⟨_, rfl, rfl, _, rfl, ?_⟩
    rw [decide_eq_false (fun z => nomatch z)]
    refine iteF ⟨_, rfl, _, rfl, _, rfl, szN (by show 3 ≤ 1000; decide), fun t ht => ⟨(by show 1 ≤ sizeLine; decide), fun f hf => ?_⟩⟩
    have s1 : Same H (upd H t (.tup [.int ((i : Nat) : Int), .int ((p : Nat) : Int), .ref wr])) := Same.new ht
    have s2 := Same.new (o := .lst [V.ref t]) hf
    exact q f _ _ (s1.trans s2) (s1.free hf) upd_same (.cons ⟨t, wr, rfl, s2 _ _ upd_same, (s1.trans s2) _ _ ewr⟩ .nil)
end
end MS
end
section
set_option maxRecDepth 100000
set_option maxHeartbeats 4000000
namespace MS
open PySem L2
theorem word_ne {x : Str} (h : IsW x) : x.length ≠ 0 := by rw [h.len]; decide
theorem wP_shape {ps : List Sch} {k i M d : Nat} {sc : Sch} (o : OkS i M (d + 1) sc) (nu : ∀ n, sc ≠ .use n) : wP ps (k + 1) sc = (if (wordOf sc).length ≠ 0 then [wordOf sc] else []) ++ ((kidsOf sc).map (wP ps k)).flatten := by
  have one : ∀ s, ([s].map (wP ps k)).flatten = wP ps k s := fun s => by
    show wP ps k s ++ [] = _
    rw [List.append_nil]
  have z0 : ¬ (Str.length "" ≠ 0) := by decide
  cases sc with
  | step x p => rw [if_pos (show (wordOf (Sch.step x p)).length ≠ 0 from word_ne o.1)]; rfl
  | all ks => rw [if_neg (show ¬ (wordOf (Sch.all ks)).length ≠ 0 from z0)]; rfl
  | best ks => rw [if_neg (show ¬ (wordOf (Sch.best ks)).length ≠ 0 from z0)]; rfl
  | most n s => rw [if_neg (show ¬ (wordOf (Sch.most n s)).length ≠ 0 from z0)]; exact (one s).symm
  | half s => rw [if_neg (show ¬ (wordOf (Sch.half s)).length ≠ 0 from z0)]; exact (one s).symm
  | seen x s => rw [if_pos (show (wordOf (Sch.seen x s)).length ≠ 0 from word_ne o.1)]; show x :: wP ps k s = x :: ([s].map (wP ps k)).flatten; rw [one]
  | behind x s => rw [if_pos (show (wordOf (Sch.behind x s)).length ≠ 0 from word_ne o.1)]; show x :: wP ps k s = x :: ([s].map (wP ps k)).flatten; rw [one]
  | carry s => rw [if_neg (show ¬ (wordOf (Sch.carry s)).length ≠ 0 from z0)]; exact (one s).symm
  | fin x p s => rw [if_pos (show (wordOf (Sch.fin x p s)).length ≠ 0 from word_ne o.1.1)]; show x :: wP ps k s = x :: ([s].map (wP ps k)).flatten; rw [one]
  | use n => exact absurd rfl (nu n)
theorem wordOf_len {i M d : Nat} {sc : Sch} (o : OkS i M (d + 1) sc) : (wordOf sc).length ≤ 1 := by
  cases sc with
  | step x p => exact Nat.le_of_eq (IsW.len o.1)
  | seen x s => exact Nat.le_of_eq (IsW.len o.1)
  | behind x s => exact Nat.le_of_eq (IsW.len o.1)
  | fin x p s => exact Nat.le_of_eq (IsW.len o.1.1)
  | all ks => show Str.length "" ≤ 1; decide
  | best ks => show Str.length "" ≤ 1; decide
  | most n s => show Str.length "" ≤ 1; decide
  | half s => show Str.length "" ≤ 1; decide
  | carry s => show Str.length "" ≤ 1; decide
  | use n => show Str.length "" ≤ 1; decide

theorem paired_impM {α β : Type} {R T : α → β → Prop} : ∀ {xs : List α} {ys : List β}, Paired R xs ys → (∀ x ∈ xs, ∀ y, R x y → T x y) → Paired T xs ys
  | _, _, .nil, _ => .nil
  | _, _, .cons r t, h => .cons (h _ List.mem_cons_self _ r) (paired_impM t fun x hx => h x (List.mem_cons_of_mem _ hx))
/-- the schemes within, of a use the used one -/
def partsOf (ps : List Sch) : Sch → List Sch
  | .use n => (ps[n]?).toList
  | s => kidsOf s
theorem parts_kids {ps : List Sch} {sc : Sch} (nu : ∀ n, sc ≠ .use n) : partsOf ps sc = kidsOf sc := by
  cases sc with
  | use n => exact absurd rfl (nu n)
  | _ => rfl
theorem wP_parts {ps : List Sch} {k i M d : Nat} {sc : Sch} (o : OkS i M (d + 1) sc) : wP ps (k + 1) sc = (if (wordOf sc).length ≠ 0 then [wordOf sc] else []) ++ ((partsOf ps sc).map (wP ps k)).flatten := by
  by_cases h : ∃ n, sc = .use n
  · obtain ⟨n, rfl⟩ := h
    have z0 : ¬ (Str.length "" ≠ 0) := by decide
    rw [if_neg (show ¬ (wordOf (Sch.use n)).length ≠ 0 from z0)]
    show (match ps[n]? with
      | none => []
      | some s => wP ps k s) = [] ++ (((ps[n]?).toList).map (wP ps k)).flatten
    cases ps[n]? with
    | none => rfl
    | some s => show wP ps k s = wP ps k s ++ []; rw [List.append_nil]
  · have nu : ∀ n, sc ≠ .use n := fun n e => h ⟨n, e⟩
    rw [parts_kids nu]
    exact wP_shape o nu
def PartR (H : Hp) (M k : Nat) (s : Sch) (v : V) : Prop := ∃ i d, SAt H d s v ∧ OkS i M d s ∧ (M - i) * 5 + d ≤ k
def spParts (ps : List Sch) (M k : Nat) : Sp := fun vs H Q _ => ∃ (pa : Addr) (v : V) (s : Sch) (i d : Nat), vs = [.ref pa, v] ∧ (∃ pv, H pa = some (.tup pv) ∧ Paired (SAt H 5) ps pv) ∧ SAt H (d + 1) s v ∧ OkS i M (d + 1) s ∧ (M - i) * 5 + (d + 1) ≤ k + 1 ∧
  ∀ (f : Addr) (kv : List V), H f = none → Paired (PartR H M k) (partsOf ps s) kv → (partsOf ps s).length ≤ 4 → Q (.ref f) (upd H f (.lst kv))
section
variable {P : Program} {w : World} {K : PySem.W.Frag} {mg : Str → Option Value} {base : Heap}
theorem kids_few {i M d : Nat} {sc : Sch} (o : OkS i M (d + 1) sc) : (kidsOf sc).length ≤ 4 := by
  cases sc with
  | all k => exact o.2.1
  | best k => exact o.2.1
  | _ => first | (show 0 ≤ 4; decide) | (show 1 ≤ 4; decide)
theorem PartR.keep {H H' : Hp} {M k : Nat} {s : Sch} {v : V} (h : PartR H M k s v) (t : TupK H H') : PartR H' M k s v := by
  obtain ⟨i, d, h1, h2, h3⟩ := h
  exact ⟨i, d, SAt.keep t _ _ _ h1, h2, h3⟩
end
end MS
end
section
set_option maxRecDepth 100000
set_option maxHeartbeats 4000000
namespace MS
open PySem L2
/-! ### all schemes in one -/
def pre : Nat → Sch → List Sch
  | 0, _ => []
  | d + 1, s => s :: ((kidsOf s).map (pre d)).flatten
theorem pre_succ (d : Nat) (s : Sch) : pre (d + 1) s = s :: ((kidsOf s).map (pre d)).flatten := rfl
theorem ok_kids {i M d : Nat} {s : Sch} (o : OkS i M (d + 1) s) : ∀ x ∈ kidsOf s, OkS i M d x := by
  cases s with
  | step w p => exact fun _ h => nomatch h
  | all k => exact o.2.2
  | best k => exact o.2.2
  | most n s => intro x h; rw [List.mem_singleton.mp h]; exact o.2
  | half s => intro x h; rw [List.mem_singleton.mp h]; exact o
  | seen w s => intro x h; rw [List.mem_singleton.mp h]; exact o.2
  | behind w s => intro x h; rw [List.mem_singleton.mp h]; exact o.2
  | carry s => intro x h; rw [List.mem_singleton.mp h]; exact o
  | fin w p s => intro x h; rw [List.mem_singleton.mp h]; exact o.2
  | use n => exact fun _ h => nomatch h
theorem sz_kids (d : Nat) (s : Sch) : sz (d + 1) s = 1 + ((kidsOf s).map (sz d)).sum := by
  cases s <;> simp [sz, kidsOf]
/-- what a scheme is itself -/
def ownE (c : Nat → Int) : Sch → Int
  | .step _ _ => 1
  | .fin _ _ _ => 1
  | .use n => c n
  | _ => 0
def ownW (c : Nat → Int) : Sch → Int
  | .seen _ _ => 1
  | .behind _ _ => 1
  | .use n => c n
  | _ => 0
theorem er_kids (c : Nat → Int) (d : Nat) (s : Sch) : er c (d + 1) s = ownE c s + ((kidsOf s).map (er c d)).sum := by
  cases s <;> simp [er, ownE, kidsOf]
theorem wr_kids (c : Nat → Int) (d : Nat) (s : Sch) : wr c (d + 1) s = ownW c s + ((kidsOf s).map (wr c d)).sum := by
  cases s <;> simp [wr, ownW, kidsOf]
theorem flat_lenEq {f : Sch → List Sch} {g : Sch → Int} : ∀ ks : List Sch, (∀ s ∈ ks, ((f s).length : Int) = g s) → (((ks.map f).flatten).length : Int) = (ks.map g).sum
  | [], _ => rfl
  | s :: r, h => by
    rw [List.map_cons, List.flatten_cons, List.length_append, List.map_cons, List.sum_cons]
    have := h s List.mem_cons_self
    have := flat_lenEq r fun s hs => h s (List.mem_cons_of_mem _ hs)
    omega
theorem flat_sumEq {f : Sch → List Sch} {o g : Sch → Int} : ∀ ks : List Sch, (∀ s ∈ ks, ((f s).map o).sum = g s) → (((ks.map f).flatten).map o).sum = (ks.map g).sum
  | [], _ => rfl
  | s :: r, h => by
    rw [List.map_cons, List.flatten_cons, List.map_append, List.sum_append, List.map_cons, List.sum_cons, h s List.mem_cons_self, flat_sumEq r fun s hs => h s (List.mem_cons_of_mem _ hs)]
theorem pre_len {i M : Nat} : ∀ (d : Nat) (s : Sch), OkS i M d s → ((pre d s).length : Int) = sz d s
  | 0, _, o => by cases o
  | d + 1, s, o => by
    rw [pre_succ, List.length_cons, sz_kids]
    have := flat_lenEq (f := pre d) (g := sz d) (kidsOf s) fun x hx => pre_len d x (ok_kids o x hx)
    omega
theorem pre_er {i M : Nat} (c : Nat → Int) : ∀ (d : Nat) (s : Sch), OkS i M d s → ((pre d s).map (ownE c)).sum = er c d s
  | 0, _, o => by cases o
  | d + 1, s, o => by
    rw [pre_succ, List.map_cons, List.sum_cons, er_kids, flat_sumEq (f := pre d) (g := er c d) (kidsOf s) fun x hx => pre_er c d x (ok_kids o x hx)]
theorem pre_wr {i M : Nat} (c : Nat → Int) : ∀ (d : Nat) (s : Sch), OkS i M d s → ((pre d s).map (ownW c)).sum = wr c d s
  | 0, _, o => by cases o
  | d + 1, s, o => by
    rw [pre_succ, List.map_cons, List.sum_cons, wr_kids, flat_sumEq (f := pre d) (g := wr c d) (kidsOf s) fun x hx => pre_wr c d x (ok_kids o x hx)]
/-- a scheme that was found -/
def FoundR (H : Hp) (i M : Nat) (s : Sch) (v : V) : Prop := ∃ d, SAt H (d + 1) s v ∧ OkS i M (d + 1) s
theorem FoundR.keep {H H' : Hp} {i M : Nat} {s : Sch} {v : V} (h : FoundR H i M s v) (k : TupK H H') : FoundR H' i M s v := by
  obtain ⟨d, h1, h2⟩ := h
  exact ⟨d, SAt.keep k _ _ _ h1, h2⟩
/-- a scheme that waits, behind its place -/
def WaitR (H : Hp) (i M : Nat) (x : List Nat × Sch) (v : V) : Prop := ∃ b q u, v = V.ref b ∧ H b = some (.tup [.ref q, u]) ∧ H q = some (.tup (natV x.1)) ∧ x.1.length ≤ 4 ∧ SAt H (5 - x.1.length) x.2 u ∧ OkS i M (5 - x.1.length) x.2
theorem WaitR.keep {H H' : Hp} {i M : Nat} {x : List Nat × Sch} {v : V} (h : WaitR H i M x v) (k : TupK H H') : WaitR H' i M x v := by
  obtain ⟨b, q, u, e, h1, h2, h3, h4, h5⟩ := h
  exact ⟨b, q, u, e, k _ _ h1, k _ _ h2, h3, SAt.keep k _ _ _ h4, h5⟩
def restOf (L : List (List Nat × Sch)) : List Sch := (L.map fun p => pre (5 - p.1.length) p.2).flatten
def waitsOf (wh : List Nat) (n : Nat) (ks : List Sch) : List (List Nat × Sch) := (ks.zipIdx n).map fun p => (wh ++ [p.2], p.1)
theorem rest_waits {wh : List Nat} {d : Nat} (hd : 5 - (wh.length + 1) = d) : ∀ (ks : List Sch) (n : Nat), restOf (waitsOf wh n ks) = (ks.map (pre d)).flatten
  | [], _ => rfl
  | s :: r, n => by
    have ih := rest_waits hd r (n + 1)
    unfold restOf waitsOf at ih ⊢
    rw [List.zipIdx_cons, List.map_cons, List.map_cons, List.flatten_cons, ih, List.map_cons, List.flatten_cons]
    show pre (5 - (wh ++ [n]).length) s ++ _ = _
    rw [List.length_append, List.length_singleton, hd]
theorem rest_app (a b : List (List Nat × Sch)) : restOf (a ++ b) = restOf a ++ restOf b := by
  unfold restOf
  rw [List.map_append, List.flatten_append]
theorem waits_at {H : Hp} {i M d : Nat} {wh : List Nat} (hd : 5 - (wh.length + 1) = d) : ∀ {ks : List Sch} {kv : List V} (n : Nat), Paired (SAt H d) ks kv → (∀ s ∈ ks, OkS i M d s) → ∀ {pv : List V}, Paired (PlR H) ((kv.zipIdx n).map fun p => (wh ++ [p.2], p.1)) pv → Paired (WaitR H i M) (waitsOf wh n ks) pv
  | _, _, n, .nil, _, _, .nil => .nil
  | s :: ks, v :: kv, n, .cons h t, ok, pv, hp => by
    rw [List.zipIdx_cons, List.map_cons] at hp
    cases hp with
    | @cons _ p0 _ pr h0 hr =>
      obtain ⟨b, q, e, h1, h2⟩ := h0
      have o := ok s List.mem_cons_self
      have hd0 : d ≠ 0 := fun z => by rw [z] at o; cases o
      have el : (wh ++ [n]).length = wh.length + 1 := by rw [List.length_append, List.length_singleton]
      show Paired (WaitR H i M) ((wh ++ [n], s) :: waitsOf wh (n + 1) ks) _
      refine .cons ⟨b, q, v, e, h1, h2, ?_, ?_, ?_⟩ (waits_at hd (n + 1) t (fun s hs => ok s (List.mem_cons_of_mem _ hs)) hr)
      · show (wh ++ [n]).length ≤ 4
        rw [el]
        omega
      · show SAt H (5 - (wh ++ [n]).length) s v
        rw [el, hd]
        exact h
      · show OkS i M (5 - (wh ++ [n]).length) s
        rw [el, hd]
        exact o
def SIn (K : PySem.W.Frag) (M i : Nat) (s : Sch) (pa f : Addr) (H : Hp) (m : Nat) (σ : St) (H' : Hp) : Prop :=
  ∃ (wl : Addr) (done : List Sch) (L : List (List Nat × Sch)) (fv wv : List V) (v4 v5 : Option V), σ = [some (.ref pa), some (.int ((i : Nat) : Int)), some (.ref f), some (.ref wl), v4, v5] ∧ H' f = some (.lst fv) ∧ H' wl = some (.lst wv) ∧
    Paired (FoundR H' i M) done fv ∧ Paired (WaitR H' i M) L wv ∧ done ++ restOf L = pre 5 s ∧ L.length ≤ 1000 ∧ m = (restOf L).length ∧ Same H H'
def spSchemesIn (ps : List Sch) (i : Nat) : Sp := fun vs H Q _ => ∃ (pa : Addr) (pv : List V) (s : Sch), vs = [.ref pa, .int ((i : Nat) : Int)] ∧ H pa = some (.tup pv) ∧ Paired (SAt H 5) ps pv ∧ ps[i]? = some s ∧ OkS i ps.length 5 s ∧ sz 5 s ≤ 12 ∧
  ∀ (f : Addr) (fv : List V) (H' : Hp), Same H H' → H f = none → H' f = some (.lst fv) → Paired (FoundR H' i ps.length) (pre 5 s) fv → Q (.ref f) H'
theorem paired_get2 {α β : Type} {R : α → β → Prop} : ∀ {xs : List α} {ys : List β}, Paired R xs ys → ∀ {k : Nat} {x : α}, xs[k]? = some x → ∃ y, ys[k]? = some y ∧ R x y
  | _, _, .nil, _, _, h => by simp at h
  | _, _, .cons r t, 0, _, h => by
    simp at h
    subst h
    exact ⟨_, rfl, r⟩
  | _, _, .cons _ t, k + 1, x, h => by
    obtain ⟨y, e, r⟩ := paired_get2 t (k := k) (x := x) (by simpa using h)
    exact ⟨y, by simpa using e, r⟩
theorem rest_len_le : ∀ {H : Hp} {i M : Nat} {L : List (List Nat × Sch)} {wv : List V}, Paired (WaitR H i M) L wv → L.length ≤ (restOf L).length
  | _, _, _, _, _, .nil => Nat.le_refl _
  | H, i, M, x :: L, _, .cons h t => by
    have ih := rest_len_le t
    obtain ⟨b, q, u, e, h1, h2, h3, h4, h5⟩ := h
    obtain ⟨d, hd⟩ : ∃ d, 5 - x.1.length = d + 1 := ⟨4 - x.1.length, by omega⟩
    show (x :: L).length ≤ (restOf ([x] ++ L)).length
    rw [rest_app, List.length_append, List.length_cons]
    have : 1 ≤ (restOf [x]).length := by
      show 1 ≤ ((pre (5 - x.1.length) x.2) ++ []).length
      rw [hd, pre_succ, List.append_nil, List.length_cons]
      omega
    omega
section
variable {P : Program} {w : World} {K : PySem.W.Frag} {mg : Str → Option Value} {base : Heap}
theorem ok_schemes_in {ps : List Sch} {i : Nat} (T : PTx w K mg) (D : Def K mg "schemes_in" s_schemes_in ["paper", "number"]) (DB : Def K mg "can_be" s_can_be ["thing", "number", "many"]) (DF : Def K mg "fits" s_fits psFits) (DN : Def K mg "is_number" s_is_number ["thing"])
    (DI : Def K mg "within" s_within ["scheme"]) (DP : Def K mg "placed" s_placed ["schemes", "place"]) : FnOk P w K mg base CX0 4 D.f D.fd ["paper", "number"] (spSchemesIn ps i) := by
  have GB : FnOk P w K mg base CX0 3 DB.f DB.fd ["thing", "number", "many"] (spCanBe i ps.length) := ok_can_be T DB DF DN
  have GI : FnOk P w K mg base CX0 1 DI.f DI.fd ["scheme"] spWithin := ok_within T DI
  have GP : FnOk P w K mg base CX0 1 DP.f DP.fd ["schemes", "place"] spPlaced := ok_placed T DP
  obtain ⟨tS, gS⟩ := T.mostInScheme
  obtain ⟨tL, gL⟩ := T.longest
  have nd := sc_schemes_in.nd
  refine D.ok sc_schemes_in (fun vs H Q E h => ?_) (fun cdv A outer s H vs Q E hr h => ?_)
  · obtain ⟨pa, pv, s, rfl, _⟩ := h
    rfl
  obtain ⟨pa, pv0, sc, rfl, epv, pp, es, ho, hz, q⟩ := h
  have hr1 : Room 1 _ := hr.mono (by decide)
  refine ⟨_, pss_cons (ps_set (i := 2) nd rfl (Or.inl rfl) (pe_lst pa_nil))
    (pss_cons (ps_set (i := 3) nd rfl (Or.inl rfl) (pe_lst (pa_cons (pe_tup (pa_cons (pe_tup pa_nil) (pa_cons (pe_ix ix_tup (pv 0) (pv 1) (fun _ _ => rfl)) pa_nil))) pa_nil)))
    (pss_cons (ps_while PassesOwn.never (pt_truth (pv 3) (by intro _; rfl))
      (pss_cons (ps_asg (pe_ix ix_list (pv 3) pe_int (fun _ _ => rfl)) (pg_tup (by rfl) (pgs_cons (pg_name (i := 4) nd rfl (Or.inl rfl)) (pgs_cons (pg_name (i := 5) nd rfl (Or.inl rfl)) pgs_nil))))
      (pss_cons (ps_if (PW.pt (pw_or (pt_cmpR op_eq (pe_callB call_len_seq rfl (T.free "len" (by decide +kernel)) PySem.boot_len (pa_cons (pv 2) pa_nil)) (pe_glob rfl gS (v := .int 12) ⟨_, rfl⟩) (nomark _)) (pw_or1 (pt_cmpR op_gt (pe_callB call_len_seq rfl (T.free "len" (by decide +kernel)) PySem.boot_len (pa_cons (pv 4) pa_nil)) (pe_glob rfl gL (v := .int 4) ⟨_, rfl⟩) (nomark _))))) (pss_one ps_never) pss_nil)
      (pss_cons (ps_if (pt_not (pt_val (pcall DB GB hr (pa_cons (pv 5) (pa_cons (pv 1) (pa_cons (pe_callB call_len_seq rfl (T.free "len" (by decide +kernel)) PySem.boot_len (pa_cons (pv 0) pa_nil)) pa_nil)))))) (pss_one ps_never) pss_nil)
      (pss_cons (ps_expr (pe_bm PySem.F.plainAttrs_list PySem.F.slot_list_append PySem.F.type_list_append mt_append (pv 2) (pa_cons (pv 5) pa_nil)))
      (pss_one (ps_set (i := 3) nd rfl (Or.inl rfl) (pe_op op_cat (pcall DP GP hr1 (pa_cons (pcall DI GI hr1 (pa_cons (pv 5) pa_nil)) (pa_cons (pv 4) pa_nil))) (pe_slice sl_list (pv 3) (po_some pe_int) po_none)))))))))
    (pss_one (ps_ret (pv 2))))), ?_⟩
  have hM := Paired.length pp
  have hlen : ((pre 5 sc).length : Int) = sz 5 sc := pre_len 5 sc ho
  obtain ⟨v0, ev0, hs0⟩ := paired_get2 pp es
  refine ⟨Nat.zero_le _, fun f hf => ?_⟩
  have s1 : Same H (upd H f (.lst [])) := Same.new hf
  dsimp only [gName]
  refine ⟨Nat.zero_le _, fun t0 ht0 => ?_⟩
  have s2 := s1.trans (Same.new (o := .tup []) ht0)
  refine ⟨_, rfl, _, rfl, pa, _, _, v0, rfl, rfl, SqT.of (s2 _ _ epv), atI_nat ev0, sz2, fun t1 ht1 => ?_⟩
  have s3 := s2.trans (Same.new (o := .tup [.ref t0, v0]) ht1)
  refine ⟨szN (by show 1 ≤ 1000; decide), fun wl hwl => ?_⟩
  have s4 := s3.trans (Same.new (o := .lst [.ref t1]) hwl)
  dsimp only [gName]
  have b1 := Same.new (o := .lst [V.ref t1]) hwl
  have b2 := (Same.new (o := .tup [.ref t0, v0]) ht1).trans b1
  have b3 := (Same.new (o := .tup []) ht0).trans b2
  have R0 : restOf [(([] : List Nat), sc)] = pre 5 sc := by show pre 5 sc ++ [] = _; rw [List.append_nil]
  refine ⟨fun m σ H' => SIn K ps.length i sc pa f H m σ H', ⟨(restOf [([], sc)]).length, wl, [], [([], sc)], [], [.ref t1], none, none, rfl, b3 _ _ upd_same, upd_same, .nil, .cons ⟨t1, t0, v0, rfl, b1 _ _ upd_same, b2 _ _ upd_same, by show 0 ≤ 4; decide, SAt.keep (Same.tupK s4) _ _ _ hs0, ho⟩ .nil, R0, by show 1 ≤ 1000; decide, rfl, s4⟩, ?_⟩
  rintro m σ H1 ⟨wl1, done, L, fv, wv, v4, v5, rfl, ef, ewl, pf, pw, eall, hL, em, sm⟩
  have lall := congrArg List.length eall
  rw [List.length_append] at lall
  have hrl := rest_len_le pw
  have lfv := Paired.length pf
  have lwv := Paired.length pw
  refine ⟨_, rfl, !wv.isEmpty, .inl ⟨_, SqL.of ewl, rfl⟩, ?_⟩
  cases pw with
  | nil =>
    have e : done = pre 5 sc := by rw [← eall]; show done = done ++ []; rw [List.append_nil]
    rw [e] at pf
    exact iteF ⟨_, rfl, q f fv H1 sm hf ef pf⟩
  | @cons x vb L' wr hx hrest =>
    obtain ⟨b, qa, u, rfl, eb, eqa, hx4, hsx, hox⟩ := hx
    obtain ⟨wh, s'⟩ := x
    have hx4 : wh.length ≤ 4 := hx4
    obtain ⟨d, hd⟩ : ∃ d, 5 - wh.length = d + 1 := ⟨4 - wh.length, by omega⟩
    have hsx : SAt H1 (5 - wh.length) s' u := hsx
    have hox : OkS i ps.length (5 - wh.length) s' := hox
    rw [hd] at hsx hox
    have eR : restOf ((wh, s') :: L') = s' :: (((kidsOf s').map (pre d)).flatten ++ restOf L') := by
      show pre (5 - wh.length) s' ++ restOf L' = _
      rw [hd, pre_succ]
      rfl
    rw [eR] at eall lall em hrl
    rw [List.length_cons] at lall em
    have hrl' : L'.length ≤ 12 := by
      rw [List.length_cons, List.length_cons] at hrl
      omega
    refine iteT ⟨fun σ' H' => ∃ m', m' < m ∧ SIn K ps.length i sc pa f H m' σ' H', fun _ _ z => z, ?_⟩
    refine ⟨_, rfl, wl1, _, 0, .ref b, rfl, rfl, SqL.of ewl, at0, b, _, rfl, SqT.of eb, rfl, _, _, rfl, _, _, rfl, rfl, ?_⟩
    dsimp only [gName]
    refine seq_if (b := false || false) (ev_or (b := false) (c := false) (fun Q q => ⟨_, rfl, f, _, rfl, .inl (SqL.of ef), rfl, _, rfl, by
        rw [decide_eq_false (fun z => by have z2 := V.int.inj z; omega)]
        exact q⟩) (fun Q q => ⟨_, rfl, qa, _, rfl, .inr (SqT.of eqa), _, _, rfl, rfl, _, rfl, by
        rw [decide_eq_false (show ¬ ((4 : Int) < (((natV wh).length : Nat) : Int)) by rw [natV_len]; omega)]
        exact q⟩)) (fun z => nomatch z) (fun _ => ?_)
    refine seq_new (b := false) (fun Q q => ⟨_, rfl, _, rfl, _, rfl, pa, _, rfl, .inr (SqT.of (sm _ _ epv)), u, s', d, by rw [hM]; rfl, hsx, hox, fun H3 s3 => ⟨_, rfl, q H3 s3⟩⟩) (fun z => nomatch z) (fun _ H3 s3 => ?_)
    have ef3 := s3 _ _ ef
    refine ⟨_, rfl, .inl ⟨rfl, _, SqL.of ef3⟩, _, rfl, f, _, _, rfl, rfl, ef3, small1000 (by omega), ?_⟩
    have t4 : TupK H1 (upd H3 f (.lst (fv ++ [u]))) := (Same.tupK s3).trans (TupK.put ef3)
    have ef4 : upd H3 f (.lst (fv ++ [u])) f = some (.lst (fv ++ [u])) := upd_same
    have nfw : wl1 ≠ f := fun z => by
      rw [z, ef] at ewl
      have e2 := HO.lst.inj (Option.some.inj ewl)
      subst e2
      cases pf with
      | @cons s9 v9 _ _ h9 _ =>
        obtain ⟨d9, h9, _⟩ := h9
        obtain ⟨a9, nm9, r9, e9, ea9⟩ := h9.tag
        cases e9
        rw [eb] at ea9
        cases ea9
    have ewl4 : upd H3 f (.lst (fv ++ [u])) wl1 = some (.lst (V.ref b :: wr)) := by rw [upd_ne nfw]; exact s3 _ _ ewl
    have sm4 : Same H (upd H3 f (.lst (fv ++ [u]))) := Same.newer (sm.trans s3) hf
    generalize hH4 : upd H3 f (.lst (fv ++ [u])) = H4 at t4 ef4 ewl4 sm4 ⊢
    refine ⟨_, rfl, u, s', i, ps.length, d, rfl, SAt.keep t4 _ _ _ hsx, hox, fun l kv hl at_ => ?_⟩
    have lkv := Paired.length at_
    have lkf := kids_few hox
    have s5 := Same.new (o := .lst kv) hl
    have t5 := t4.trans (Same.tupK s5)
    refine ⟨_, rfl, l, qa, kv, wh, rfl, upd_same, t5 _ _ eqa, by omega, by omega, fun g pv' H6 s6 hg eg pp6 => ?_⟩
    have s56 := s5.trans s6
    refine ⟨_, rfl, 1, rfl, wl1, _, rfl, SqL.of (s56 _ _ ewl4), fun p hp => ?_⟩
    have ec : cutV (V.ref b :: wr) (some 1) none = wr := cut_from (V.ref b :: wr) 1
    rw [ec]
    have ngp : g ≠ p := ne_of_none eg hp
    have lpv := Paired.length pp6
    have lpl : (placedL wh kv).length = kv.length := by unfold placedL; rw [List.length_map, List.length_zipIdx]
    have lcat : pv'.length + wr.length ≤ 1000 := by
      have := Paired.length hrest
      omega
    refine ⟨g, p, _, _, rfl, rfl, by rw [upd_ne ngp]; exact eg, upd_same, szN lcat, fun r hr => ?_⟩
    have s7 := (s56.trans (Same.new (o := .lst wr) hp)).trans (Same.new (o := .lst (pv' ++ wr)) hr)
    have s67 := (s6.trans (Same.new (o := .lst wr) hp)).trans (Same.new (o := .lst (pv' ++ wr)) hr)
    have t6 := (Same.new (o := .lst wr) hp).trans (Same.new (o := .lst (pv' ++ wr)) hr)
    dsimp only [gName]
    have hd' : 5 - (wh.length + 1) = d := by omega
    have tk7 := t4.trans (Same.tupK s7)
    refine ⟨(restOf (waitsOf wh 0 (kidsOf s') ++ L')).length, ?_, r, done ++ [s'], waitsOf wh 0 (kidsOf s') ++ L', fv ++ [u], pv' ++ wr, _, _, rfl, s7 _ _ ef4, upd_same, ?_, ?_, ?_, ?_, rfl, sm4.trans s7⟩
    · rw [rest_app, rest_waits hd']
      omega
    · exact paired_app (paired_imp pf fun _ _ h => FoundR.keep h tk7) (.cons ⟨d, SAt.keep tk7 _ _ _ hsx, hox⟩ .nil)
    · refine paired_app ?_ (paired_imp hrest fun _ _ h => WaitR.keep h tk7)
      exact waits_at hd' 0 (paired_imp at_ fun _ _ h => SAt.keep (Same.tupK (s5.trans s67)) _ _ _ h) (ok_kids hox) (paired_imp pp6 fun _ _ h => PlR.keep h (Same.tupK t6))
    · rw [rest_app, rest_waits hd', ← eall]
      simp
    · rw [List.length_append]
      unfold waitsOf
      rw [List.length_map, List.length_zipIdx]
      omega
end
end MS
end
section
set_option maxRecDepth 100000
set_option maxHeartbeats 4000000
namespace MS
open PySem L2
/-! ### how many of some names -/
def rGetL (K : PySem.W.Frag) : V → V → Hp → VK → Prop := fun x y H Q => ∃ p xs i v, x = .ref p ∧ y = .int i ∧ SqL K H p xs ∧ 0 ≤ i ∧ xs[i.toNat]? = some v ∧ Q v H
theorem pget_list {X : Cx} : PGet X (rGetL X.K) := by
  intro pins s σ H o i ov iv Q I ro ri h
  obtain ⟨p, xs, k, v, rfl, rfl, hq, h0, he, q⟩ := h
  cases ro
  obtain ⟨t, rfl⟩ := ri
  obtain ⟨its, r, pl, hz⟩ := I.list hq
  obtain ⟨w, ew, rw'⟩ := r.get he
  have hl := r.length
  have hn := line63
  have hk := (List.getElem?_eq_some_iff.mp he).1
  exact PyProof.Rows.getItem_listL pl.isList h0 (by omega) ew ⟨v, H, I, rw', q⟩
theorem ix_nat {n k : Nat} (h : k < n) : ixN n ((k : Nat) : Int) = some k := by
  unfold ixN
  rw [if_pos (by omega), if_pos (by omega)]
  congr 1
def own (E : Bool) (c : Nat → Int) (s : Sch) : Int := match E with
  | true => ownE c s
  | false => ownW c s
def namesV (E : Bool) : List V := match E with
  | true => [.str "step", .str "end"]
  | false => [.str "seen", .str "behind"]
theorem names_flat (E : Bool) : (namesV E).all flatV = true := by cases E <;> rfl
theorem own_tag {H : Hp} {d : Nat} {s : Sch} {a : Addr} {nm : Str} {rest : List V} (h : SAt H (d + 1) s (.ref a)) (ea : H a = some (.tup (.str nm :: rest))) :
    (∃ n, s = .use n ∧ nm = "use" ∧ rest = [.int ((n : Nat) : Int)]) ∨ ((nm == "use") = false ∧ ∀ E c, own E c s = if inV (.str nm) (namesV E) = true then 1 else 0) := by
  have inj : ∀ {a' : Addr} {nm' : Str} {rest' : List V}, (V.ref a = V.ref a') → H a' = some (.tup (.str nm' :: rest')) → nm' = nm ∧ rest' = rest := fun e h => by
    cases e
    rw [ea] at h
    cases h
    exact ⟨rfl, rfl⟩
  cases s with
  | step x p =>
    obtain ⟨a', e, h⟩ := h
    obtain ⟨rfl, rfl⟩ := inj e h
    refine .inr ⟨by decide +kernel, fun E c => ?_⟩
    cases E
    · show (0 : Int) = if inV (.str "step") [.str "seen", .str "behind"] = true then 1 else 0
      decide +kernel
    · show (1 : Int) = if inV (.str "step") [.str "step", .str "end"] = true then 1 else 0
      decide +kernel
  | all k =>
    obtain ⟨a', b, vs, e, h, _⟩ := h
    obtain ⟨rfl, rfl⟩ := inj e h
    refine .inr ⟨by decide +kernel, fun E c => ?_⟩
    cases E
    · show (0 : Int) = if inV (.str "all") [.str "seen", .str "behind"] = true then 1 else 0
      decide +kernel
    · show (0 : Int) = if inV (.str "all") [.str "step", .str "end"] = true then 1 else 0
      decide +kernel
  | best k =>
    obtain ⟨a', b, vs, e, h, _⟩ := h
    obtain ⟨rfl, rfl⟩ := inj e h
    refine .inr ⟨by decide +kernel, fun E c => ?_⟩
    cases E
    · show (0 : Int) = if inV (.str "best") [.str "seen", .str "behind"] = true then 1 else 0
      decide +kernel
    · show (0 : Int) = if inV (.str "best") [.str "step", .str "end"] = true then 1 else 0
      decide +kernel
  | most n s =>
    obtain ⟨a', u, e, h, _⟩ := h
    obtain ⟨rfl, rfl⟩ := inj e h
    refine .inr ⟨by decide +kernel, fun E c => ?_⟩
    cases E
    · show (0 : Int) = if inV (.str "most") [.str "seen", .str "behind"] = true then 1 else 0
      decide +kernel
    · show (0 : Int) = if inV (.str "most") [.str "step", .str "end"] = true then 1 else 0
      decide +kernel
  | half s =>
    obtain ⟨a', u, e, h, _⟩ := h
    obtain ⟨rfl, rfl⟩ := inj e h
    refine .inr ⟨by decide +kernel, fun E c => ?_⟩
    cases E
    · show (0 : Int) = if inV (.str "half") [.str "seen", .str "behind"] = true then 1 else 0
      decide +kernel
    · show (0 : Int) = if inV (.str "half") [.str "step", .str "end"] = true then 1 else 0
      decide +kernel
  | seen x s =>
    obtain ⟨a', u, e, h, _⟩ := h
    obtain ⟨rfl, rfl⟩ := inj e h
    refine .inr ⟨by decide +kernel, fun E c => ?_⟩
    cases E
    · show (1 : Int) = if inV (.str "seen") [.str "seen", .str "behind"] = true then 1 else 0
      decide +kernel
    · show (0 : Int) = if inV (.str "seen") [.str "step", .str "end"] = true then 1 else 0
      decide +kernel
  | behind x s =>
    obtain ⟨a', u, e, h, _⟩ := h
    obtain ⟨rfl, rfl⟩ := inj e h
    refine .inr ⟨by decide +kernel, fun E c => ?_⟩
    cases E
    · show (1 : Int) = if inV (.str "behind") [.str "seen", .str "behind"] = true then 1 else 0
      decide +kernel
    · show (0 : Int) = if inV (.str "behind") [.str "step", .str "end"] = true then 1 else 0
      decide +kernel
  | carry s =>
    obtain ⟨a', u, e, h, _⟩ := h
    obtain ⟨rfl, rfl⟩ := inj e h
    refine .inr ⟨by decide +kernel, fun E c => ?_⟩
    cases E
    · show (0 : Int) = if inV (.str "carry") [.str "seen", .str "behind"] = true then 1 else 0
      decide +kernel
    · show (0 : Int) = if inV (.str "carry") [.str "step", .str "end"] = true then 1 else 0
      decide +kernel
  | fin x p s =>
    obtain ⟨a', u, e, h, _⟩ := h
    obtain ⟨rfl, rfl⟩ := inj e h
    refine .inr ⟨by decide +kernel, fun E c => ?_⟩
    cases E
    · show (0 : Int) = if inV (.str "end") [.str "seen", .str "behind"] = true then 1 else 0
      decide +kernel
    · show (1 : Int) = if inV (.str "end") [.str "step", .str "end"] = true then 1 else 0
      decide +kernel
  | use n =>
    obtain ⟨a', e, h⟩ := h
    obtain ⟨rfl, rfl⟩ := inj e h
    exact .inl ⟨n, rfl, rfl, rfl⟩
def mvOf (N : Nat) (g : Nat → Int) : List V := (List.range N).map fun j => V.int (g j)
theorem mv_len (N : Nat) (g : Nat → Int) : (mvOf N g).length = N := by unfold mvOf; simp
theorem mv_get {N k : Nat} {g : Nat → Int} (h : k < N) : (mvOf N g)[k]? = some (.int (g k)) := by
  unfold mvOf
  rw [List.getElem?_map, List.getElem?_range h]
  rfl
theorem mv_congr {N : Nat} {g g' : Nat → Int} (h : ∀ j, j < N → g j = g' j) : mvOf N g = mvOf N g' := by
  unfold mvOf
  exact List.map_congr_left fun j hj => by rw [h j (List.mem_range.mp hj)]
theorem mv_set (N k : Nat) (g : Nat → Int) (z : Int) : (mvOf N g).set k (.int z) = mvOf N (fun j => if j = k then z else g j) := by
  refine List.ext_getElem (by simp [mvOf]) fun j h1 h2 => ?_
  simp only [mvOf, List.getElem_set, List.getElem_map, List.getElem_range]
  by_cases e : k = j
  · subst e
    simp
  · rw [if_neg e, if_neg (fun z => e z.symm)]
theorem mv_zero {N : Nat} {g : Nat → Int} (h : ∀ j, j < N → g j = 0) : mvOf N g = List.replicate N (V.int 0) := by
  refine List.ext_getElem (by simp [mvOf]) fun j h1 h2 => ?_
  simp only [mvOf, List.getElem_map, List.getElem_range, List.getElem_replicate]
  rw [h j (by simpa [mvOf] using h1)]
/-- the schemes of each of a paper stand at plv -/
def PartsAt (H : Hp) (ps : List Sch) (plv : List V) : Prop := ∀ j s, ps[j]? = some s → ∃ fj fv, plv[j]? = some (V.ref fj) ∧ H fj = some (.lst fv) ∧ Paired (FoundR H j ps.length) (pre 5 s) fv
theorem PartsAt.keep {H H' : Hp} {ps : List Sch} {plv : List V} (h : PartsAt H ps plv) (k : Same H H') : PartsAt H' ps plv := fun j s e => by
  obtain ⟨fj, fv, h1, h2, h3⟩ := h j s e
  exact ⟨fj, fv, h1, k _ _ h2, paired_imp h3 fun _ _ h => FoundR.keep h (Same.tupK k)⟩
def spMany (K : PySem.W.Frag) (E : Bool) (ps : List Sch) (c : Nat → Int) : Sp := fun vs H Q _ => ∃ (na pl : Addr) (plv : List V), vs = [.ref na, .ref pl] ∧ (∀ H', SqT K H' na (namesV E)) ∧ H pl = some (.lst plv) ∧ plv.length = ps.length ∧ 0 < ps.length ∧ ps.length ≤ 5 ∧ PartsAt H ps plv ∧
  (∀ j s, ps[j]? = some s → c j = ((pre 5 s).map (own E c)).sum) ∧ ∀ H', Same H H' → Q (.int (c 0)) H'
section
variable {P : Program} {w : World} {K : PySem.W.Frag} {mg : Str → Option Value} {base : Heap}
theorem ok_many_of {E : Bool} {ps : List Sch} {c : Nat → Int} (T : PTx w K mg) (D : Def K mg "many_of" s_many_of ["names", "parts"]) : FnOk P w K mg base CX0 1 D.f D.fd ["names", "parts"] (spMany K E ps c) := by
  have nd := sc_many_of.nd
  refine D.ok sc_many_of (fun vs H Q E h => ?_) (fun cdv A outer s H vs Q E' hr h => ?_)
  · obtain ⟨na, pl, plv, rfl, _⟩ := h
    rfl
  obtain ⟨na, pl, plv, rfl, hna, epl, hl, h0, h5, hparts, hc, q⟩ := h
  refine ⟨_, pss_cons (ps_set (i := 2) nd rfl (Or.inl rfl) (pe_op op_rep (pe_lst (pa_cons pe_int pa_nil)) (pe_callB call_len_seq rfl (T.free "len" (by decide +kernel)) PySem.boot_len (pa_cons (pv 1) pa_nil))))
    (pss_cons (ps_for PassesOwn.never rfl (pi_revR rfl (T.free "reversed" (by decide +kernel)) (prg_1 rfl (T.free "range" (by decide +kernel)) (pe_callB call_len_seq rfl (T.free "len" (by decide +kernel)) PySem.boot_len (pa_cons (pv 1) pa_nil)))) (pg_name (i := 3) nd rfl (Or.inl rfl))
      (pss_one (ps_for PassesOwn.never rfl (pi_list (pe_ix ix_list (pv 1) (pv 3) (fun _ _ => rfl))) (pg_name (i := 4) nd rfl (Or.inl rfl))
        (pss_one (ps_if (pt_cmpR op_eq (pe_ix ix_tup (pv 4) pe_int (fun _ _ => rfl)) pe_str (nomark _))
          (pss_one (ps_augS (pv 2) (pv 3) pget_list (pe_ix ix_list (pv 2) (pe_ix ix_tup (pv 4) pe_int (fun _ _ => rfl)) (fun _ _ => rfl)) ip_add set_list))
          (pss_one (ps_if (pt_cmpR op_in_seq (pe_ix ix_tup (pv 4) pe_int (fun _ _ => rfl)) (pv 0) (by rfl)) (pss_one (ps_augS (pv 2) (pv 3) pget_list pe_int ip_add set_list)) pss_nil)))))))
    (pss_one (ps_ret (pe_ix ix_list (pv 2) pe_int (fun _ _ => rfl))))), ?_⟩
  have hN : (((plv.length : Nat) : Int) - 0).toNat = ps.length := by rw [hl]; omega
  refine ⟨szN (by show 1 ≤ 1000; decide), fun p0 hp0 => ?_⟩
  have s1 : Same H (upd H p0 (.lst [.int 0])) := Same.new hp0
  refine ⟨_, rfl, pl, _, rfl, .inl (SqL.of (s1 _ _ epl)), p0, _, _, rfl, rfl, upd_same, by omega, by omega, szN (by show 1 * _ ≤ 1000; omega), fun ml hml => ?_⟩
  rw [flat_rep, show (((plv.length : Nat) : Int)).toNat = ps.length by omega]
  have s2 := s1.trans (Same.new (o := .lst (List.replicate ps.length (V.int 0))) hml)
  have hm0 : H ml = none := s1.free hml
  dsimp only [gName]
  refine ⟨_, rfl, pl, _, rfl, .inl (SqL.of (s2 _ _ epl)), _, rfl, by omega, by omega, by omega, by omega, ?_⟩
  refine for_rangeC (lo := 0 + ((((plv.length : Nat) : Int) - 0).toNat : Int) - 1) (c := -1) (n := (((plv.length : Nat) : Int) - 0).toNat) (fun i σ H' => ∃ v3 v4 : Option V, σ = [some (.ref na), some (.ref pl), some (.ref ml), v3, v4] ∧ H' ml = some (.lst (mvOf ps.length fun j => if ps.length - i ≤ j then c j else 0)) ∧ Same H H')
    ⟨none, none, rfl, by rw [mv_zero fun j hj => if_neg (by omega)]; exact upd_same, s2⟩ ?_ ?_
  · rintro i σ H1 hi ⟨v3, v4, rfl, em, sm⟩
    rw [hN] at hi
    dsimp only [gName]
    have ez : 0 + ((((plv.length : Nat) : Int) - 0).toNat : Int) - 1 + ((i : Nat) : Int) * -1 = ((ps.length - 1 - i : Nat) : Int) := by rw [hN]; omega
    rw [ez]
    have hk : ps.length - 1 - i < ps.length := by omega
    obtain ⟨fj, fv, e1, e2, e3⟩ := hparts _ _ (List.getElem?_eq_getElem hk)
    have ck := hc _ _ (List.getElem?_eq_getElem hk)
    have lfv := Paired.length e3
    generalize hs : ps[ps.length - 1 - i]'hk = s at e3 ck lfv
    have hki : ps.length - 1 - i + 1 = ps.length - i := by omega
    generalize ps.length - 1 - i = k at e1 e3 ck hk hki ⊢
    refine ⟨_, rfl, _, rfl, pl, _, _, .ref fj, rfl, rfl, SqL.of (sm _ _ epl), atI_nat e1, fj, rfl, ⟨_, SqL.of (sm _ _ e2)⟩, ?_⟩
    have gt : ∀ t, t < (pre 5 s).length → ∀ s', (pre 5 s)[t]? = some s' → (((pre 5 s).take (t + 1)).map (own E c)).sum = (((pre 5 s).take t).map (own E c)).sum + own E c s' := fun t ht s' e => by
      rw [List.take_succ, e, List.map_append, List.sum_append]
      simp
    have hstart : ∀ j, (if ps.length - i ≤ j then c j else 0) = if j = k then (((pre 5 s).take 0).map (own E c)).sum else if ps.length - i ≤ j then c j else 0 := fun j => by
      by_cases ej : j = k
      · rw [if_pos ej, if_neg (by omega)]
        rfl
      · rw [if_neg ej]
    refine for_list (K := K) (a := fj) (xs := fv) (fun t σ H' => ∃ v4 : Option V, σ = [some (.ref na), some (.ref pl), some (.ref ml), some (.int ((k : Nat) : Int)), v4] ∧ H' ml = some (.lst (mvOf ps.length fun j => if j = k then (((pre 5 s).take t).map (own E c)).sum else if ps.length - i ≤ j then c j else 0)) ∧ Same H H')
      ⟨v4, rfl, by rw [em]; exact congrArg (fun z => some (HO.lst z)) (mv_congr fun j _ => hstart j), sm⟩ (fun t σ H' _ ⟨_, _, _, s5⟩ => SqL.of (s5 _ _ e2)) ?_ ?_
    · rintro t y σ H2 hy ⟨v4', rfl, em2, s5⟩
      obtain ⟨s', es', d, hsx, hox⟩ := paired_get' e3 hy
      have htl := (List.getElem?_eq_some_iff.mp es').1
      have gt1 := gt t htl s' es'
      obtain ⟨a, nm, rest, rfl, ea⟩ := hsx.tag
      have ea2 := s5 _ _ ea
      dsimp only [gName]
      have fin : ∀ z : Int, (((pre 5 s).take (t + 1)).map (own E c)).sum = z → ∃ v4 : Option V, [some (V.ref na), some (V.ref pl), some (V.ref ml), some (V.int ((k : Nat) : Int)), some (V.ref a)] = [some (V.ref na), some (V.ref pl), some (V.ref ml), some (V.int ((k : Nat) : Int)), v4] ∧
          upd H2 ml (.lst ((mvOf ps.length fun j => if j = k then (((pre 5 s).take t).map (own E c)).sum else if ps.length - i ≤ j then c j else 0).set k (.int z))) ml = some (.lst (mvOf ps.length fun j => if j = k then (((pre 5 s).take (t + 1)).map (own E c)).sum else if ps.length - i ≤ j then c j else 0)) ∧
          Same H (upd H2 ml (.lst ((mvOf ps.length fun j => if j = k then (((pre 5 s).take t).map (own E c)).sum else if ps.length - i ≤ j then c j else 0).set k (.int z)))) := fun z hz => by
        refine ⟨_, rfl, ?_, Same.newer s5 hm0⟩
        rw [upd_same, mv_set]
        congr 2
        refine mv_congr fun j hj => ?_
        by_cases ej : j = k
        · rw [if_pos ej, if_pos ej, hz]
        · rw [if_neg ej, if_neg ej, if_neg ej]
      have gk : (mvOf ps.length fun j => if j = k then (((pre 5 s).take t).map (own E c)).sum else if ps.length - i ≤ j then c j else 0)[k]? = some (.int (((pre 5 s).take t).map (own E c)).sum) := by
        rw [mv_get hk, if_pos rfl]
      have ixk : ixN (mvOf ps.length fun j => if j = k then (((pre 5 s).take t).map (own E c)).sum else if ps.length - i ≤ j then c j else 0).length ((k : Nat) : Int) = some k := by rw [mv_len]; exact ix_nat hk
      refine ⟨_, rfl, a, _, 0, .str nm, rfl, rfl, SqT.of ea2, at0, rfl, _, rfl, ?_⟩
      rw [dec_str]
      rcases own_tag hsx ea with ⟨n, rfl, rfl, rfl⟩ | ⟨nu, ho⟩
      · have hn : k < n ∧ n < ps.length := hox
        rw [show (("use" : Str) == "use") = true by decide +kernel]
        have eo : own E c (.use n) = c n := by cases E <;> rfl
        rw [eo] at gt1
        have gn : (mvOf ps.length fun j => if j = k then (((pre 5 s).take t).map (own E c)).sum else if ps.length - i ≤ j then c j else 0)[n]? = some (.int (c n)) := by
          rw [mv_get hn.2, if_neg (by omega), if_pos (by omega)]
        exact iteT ⟨_, rfl, _, rfl, ml, _, _, _, rfl, rfl, SqL.of em2, by omega, gk, _, rfl, _, rfl, a, _, 1, .int ((n : Nat) : Int), rfl, rfl, SqT.of ea2, at1, ml, _, _, .int (c n), rfl, rfl, SqL.of em2, atI_nat gn, _, _, rfl, rfl, ml, _, _, k, rfl, rfl, em2, ixk, fin _ gt1⟩
      · rw [nu]
        rw [ho E c] at gt1
        refine iteF ⟨_, rfl, a, _, 0, .str nm, rfl, rfl, SqT.of ea2, at0, _, rfl, na, _, rfl, .inr (hna _), rfl, names_flat E, _, rfl, ?_⟩
        refine ite2 (fun z => ?_) (fun z => ?_)
        · have z : inV (.str nm) (namesV E) = true := z
          rw [if_pos z] at gt1
          exact ⟨_, rfl, _, rfl, ml, _, _, _, rfl, rfl, SqL.of em2, by omega, gk, _, _, rfl, rfl, ml, _, _, k, rfl, rfl, em2, ixk, fin _ gt1⟩
        · have z : ¬ inV (.str nm) (namesV E) = true := z
          rw [if_neg z, Int.add_zero] at gt1
          refine ⟨_, rfl, ?_, s5⟩
          rw [em2, gt1]
    · rintro σ H2 ⟨v4', rfl, em2, s5⟩
      rw [← lfv, List.take_length, ← ck] at em2
      refine ⟨_, _, rfl, ?_, s5⟩
      rw [em2]
      congr 2
      refine mv_congr fun j hj => ?_
      by_cases ej : j = k
      · rw [if_pos ej, if_pos (by omega), ej]
      · rw [if_neg ej]
        by_cases e2 : ps.length - i ≤ j
        · rw [if_pos e2, if_pos (by omega)]
        · rw [if_neg e2, if_neg (by omega)]
  · rintro σ H1 ⟨v3, v4, rfl, em, sm⟩
    rw [hN] at em
    refine ⟨_, rfl, ml, _, 0, .int (c 0), rfl, rfl, SqL.of em, ?_, q _ sm⟩
    refine atI_nat (j := 0) ?_
    rw [mv_get h0, if_pos (by omega)]
end
end MS
end
section
set_option maxRecDepth 100000
set_option maxHeartbeats 4000000
namespace MS
open PySem L2
/-! ### what can be a paper -/
theorem ev_or_new {t u : TT} {σ : St} {H : Hp} {b c : Bool} (h1 : ∀ Q : Bool → Hp → Prop, (∀ H', Same H H' → Q b H') → t σ H Q) (h2 : b = false → ∀ H', Same H H' → ∀ Q : Bool → Hp → Prop, (∀ H'', Same H' H'' → Q c H'') → u σ H' Q) :
    ∀ Q : Bool → Hp → Prop, (∀ H', Same H H' → Q (b || c) H') → tOr t u σ H Q := fun Q q => h1 _ fun H' s => by
  cases b with
  | true => exact iteT (q H' s)
  | false => exact iteF (h2 rfl H' s _ fun H'' s'' => q H'' (s.trans s''))
def spCheckPaper : Sp := fun vs H Q _ => ∃ (pa : Addr) (ps : List Sch) (pv : List V), vs = [.ref pa] ∧ H pa = some (.tup pv) ∧ Paired (SAt H 5) ps pv ∧ PaperOk ps ∧ ∀ H', Same H H' → Q .non H'
def spCheckPaper1 (ps : List Sch) : Sp := fun vs H Q _ => ∃ (pa : Addr) (pv : List V), vs = [.ref pa] ∧ H pa = some (.tup pv) ∧ Paired (SAt H 5) ps pv ∧ PaperOk ps ∧ ∀ H', Same H H' → Q .non H'
structure DPaper (K : PySem.W.Frag) (mg : Str → Option Value) where
  DN : Def K mg "is_number" s_is_number ["thing"]
  DF : Def K mg "fits" s_fits psFits
  DB : Def K mg "can_be" s_can_be ["thing", "number", "many"]
  DI : Def K mg "within" s_within ["scheme"]
  DP : Def K mg "placed" s_placed ["schemes", "place"]
  DS : Def K mg "schemes_in" s_schemes_in ["paper", "number"]
  DM : Def K mg "many_of" s_many_of ["names", "parts"]
  DC : Def K mg "check_paper" s_check_paper ["paper"]
section
variable {P : Program} {w : World} {K : PySem.W.Frag} {mg : Str → Option Value} {base : Heap}
theorem ok_check_paper1 {ps : List Sch} (T : PTx w K mg) (D : DPaper K mg) : FnOk P w K mg base CX0 5 D.DC.f D.DC.fd ["paper"] (spCheckPaper1 ps) := by
  by_cases hP : PaperOk ps
  case neg =>
    have e : spCheckPaper1 ps = fun _ _ _ _ => False := by
      funext vs H Q E
      refine propext ⟨fun h => ?_, fun h => h.elim⟩
      obtain ⟨_, _, _, _, _, z, _⟩ := h
      exact hP z
    rw [e]
    exact no_sp
  have hPl := hP.1
  have hP5 := hP.2.1
  obtain ⟨ce, cw, tl⟩ := hP.2.2
  have GS : FnOk P w K mg base CX0 4 D.DS.f D.DS.fd ["paper", "number"] (fun vs H Q E => ∃ i, spSchemesIn ps i vs H Q E) := fn_any fun i => ok_schemes_in T D.DS D.DB D.DF D.DN D.DI D.DP
  have GE : FnOk P w K mg base CX0 1 D.DM.f D.DM.fd ["names", "parts"] (spMany K true ps ce) := ok_many_of T D.DM
  have GW : FnOk P w K mg base CX0 1 D.DM.f D.DM.fd ["names", "parts"] (spMany K false ps cw) := ok_many_of T D.DM
  obtain ⟨tP, gP⟩ := T.mostInPaper
  obtain ⟨tE, gE⟩ := T.mostE
  obtain ⟨tW, gW⟩ := T.mostW
  obtain ⟨aE, hE, qE⟩ := T.earners
  obtain ⟨aW, hW, qW⟩ := T.watchers
  have nd := sc_check_paper.nd
  refine D.DC.ok sc_check_paper (fun vs H Q E h => ?_) (fun cdv A outer s H vs Q E hr h => ?_)
  · obtain ⟨pa, pv, rfl, _⟩ := h
    rfl
  obtain ⟨pa, pv0, rfl, epv, pp, _, q⟩ := h
  have hr1 : Room 1 _ := hr.mono (by decide)
  refine ⟨_, pss_cons (ps_if (PW.pt (pw_or (pt_not (pt_val (pe_callB call_isi rfl (T.free "isinstance" (by decide +kernel)) (by decide +kernel) (pa_cons (pv 0) (pa_cons (pe_bltn rfl (T.free "tuple" (by decide +kernel)) (by decide +kernel) (v := .ty "tuple") rfl) pa_nil)))))
      (pw_or1 (pt_not (pt_truth (pv 0) (by intro _; rfl)))))) (pss_one ps_never) pss_nil)
    (pss_cons (ps_set (i := 1) nd rfl (Or.inl rfl) (pe_lst pa_nil))
    (pss_cons (ps_for PassesOwn.never rfl (pi_range1 rfl (T.free "range" (by decide +kernel)) (pa_cons (pe_callB call_len_seq rfl (T.free "len" (by decide +kernel)) PySem.boot_len (pa_cons (pv 0) pa_nil)) pa_nil)) (pg_name (i := 2) nd rfl (Or.inl rfl))
      (pss_cons (ps_if (pt_cmpR op_eq (pv 2) (pe_glob rfl gP (v := .int 5) ⟨_, rfl⟩) (nomark _)) (pss_one ps_never) pss_nil)
      (pss_one (ps_expr (pe_bm PySem.F.plainAttrs_list PySem.F.slot_list_append PySem.F.type_list_append mt_append (pv 1) (pa_cons (pcall D.DS GS hr (pa_cons (pv 0) (pa_cons (pv 2) pa_nil))) pa_nil))))))
    (pss_one (ps_if (PW.pt (pw_or (pt_cmpR op_gt (pcall D.DM GE hr1 (pa_cons (pe_glob rfl hE (v := .ref aE) rfl) (pa_cons (pv 1) pa_nil))) (pe_glob rfl gE (v := .int 7) ⟨_, rfl⟩) (nomark _))
      (pw_or1 (pt_cmpR op_gt (pcall D.DM GW hr1 (pa_cons (pe_glob rfl hW (v := .ref aW) rfl) (pa_cons (pv 1) pa_nil))) (pe_glob rfl gW (v := .int 3) ⟨_, rfl⟩) (nomark _))))) (pss_one ps_never) pss_nil)))), ?_⟩
  have hM := Paired.length pp
  refine seq_if (b := false || false) (ev_or (b := false) (c := false) (fun Q q => ⟨_, rfl, _, .ty "tuple", .type "tuple", .type "tuple", true, rfl, .ty _, .base (.tup epv), kit_ty (by decide +kernel), _, rfl, q⟩)
    (fun Q q => ⟨_, rfl, true, .inr (.inl ⟨_, SqT.of epv, by cases pp with
      | nil => exact absurd hPl (by simp)
      | cons _ _ => rfl⟩), q⟩)) (fun z => nomatch z) (fun _ => ?_)
  refine ⟨Nat.zero_le _, fun p hp => ?_⟩
  have s1 : Same H (upd H p (.lst [])) := Same.new hp
  dsimp only [gName]
  refine ⟨_, rfl, pa, _, rfl, .inr (SqT.of (s1 _ _ epv)), _, rfl, by omega, by omega, ?_⟩
  have hn : (((pv0.length : Nat) : Int)).toNat = ps.length := by omega
  refine for_range (lo := 0) (n := (((pv0.length : Nat) : Int)).toNat) (fun i σ H' => ∃ (plv : List V) (v : Option V), σ = [some (.ref pa), some (.ref p), v] ∧ H' p = some (.lst plv) ∧ plv.length = i ∧
      (∀ j s, j < i → ps[j]? = some s → ∃ fj fv, plv[j]? = some (V.ref fj) ∧ fj ≠ p ∧ H' fj = some (.lst fv) ∧ Paired (FoundR H' j ps.length) (pre 5 s) fv) ∧ Same H H')
    ⟨[], none, rfl, upd_same, rfl, (fun _ _ h => by omega), s1⟩ ?_ ?_
  · rintro i σ H1 hi ⟨plv, v, rfl, ep, hl, hparts, sm⟩
    rw [hn] at hi
    have ez : (0 : Int) + ((i : Nat) : Int) = ((i : Nat) : Int) := by omega
    dsimp only [gName]
    rw [ez]
    refine seq_if (b := false) (fun Q q => ⟨_, rfl, rfl, _, rfl, by rw [decide_eq_false (fun z => by have := V.int.inj z; omega)]; exact q⟩) (fun z => nomatch z) (fun _ => ?_)
    obtain ⟨t1, t2, t3, t4, _⟩ := tl i _ (List.getElem?_eq_getElem hi)
    rw [Nat.zero_add] at t1
    refine ⟨_, rfl, .inl ⟨rfl, _, SqL.of ep⟩, _, rfl, _, rfl, i, pa, pv0, _, rfl, sm _ _ epv, paired_imp pp fun _ _ => SAt.keep (Same.tupK sm) _ _ _, List.getElem?_eq_getElem hi, t1, t4, fun f fv H2 s2 hf ef pf => ?_⟩
    have ep2 := s2 _ _ ep
    have nfp : f ≠ p := fun z => by rw [z, ep] at hf; cases hf
    have tk : TupK H2 (upd H2 p (.lst (plv ++ [.ref f]))) := TupK.put ep2
    refine ⟨p, _, _, rfl, rfl, ep2, small1000 (by omega), ?_⟩
    refine ⟨plv ++ [.ref f], _, rfl, upd_same, by rw [List.length_append, hl]; rfl, fun j s hj es => ?_, Same.newer (sm.trans s2) hp⟩
    by_cases e : j < i
    · obtain ⟨fj, fv', e1, e2, e3, e4⟩ := hparts j s e es
      exact ⟨fj, fv', by rw [List.getElem?_append_left (by omega)]; exact e1, e2, by rw [upd_ne e2]; exact s2 _ _ e3, paired_imp e4 fun _ _ h => FoundR.keep h ((Same.tupK s2).trans tk)⟩
    · have e : j = i := by omega
      subst e
      obtain rfl : ps[j] = s := Option.some.inj ((List.getElem?_eq_getElem hi).symm.trans es)
      refine ⟨f, fv, ?_, nfp, by rw [upd_ne nfp]; exact ef, paired_imp pf fun _ _ h => FoundR.keep h tk⟩
      rw [List.getElem?_append_right (by omega), hl, Nat.sub_self]
      rfl
  · rintro σ H1 ⟨plv, v, rfl, ep, hl, hparts, sm⟩
    rw [hn] at hl hparts
    have hPA : PartsAt H1 ps plv := fun j s es => by
      obtain ⟨fj, fv, e1, _, e3, e4⟩ := hparts j s (List.getElem?_eq_some_iff.mp es).1 es
      exact ⟨fj, fv, e1, e3, e4⟩
    obtain ⟨t1, t2, t3, t4, t5, t6⟩ := tl 0 _ (List.getElem?_eq_getElem hPl)
    rw [Nat.zero_add] at t2 t3
    dsimp only
    refine one_new (u := tNext) (b := false || false) (ev_or_new (b := false) (c := false) (fun Q q => ?_) (fun _ H2 s2 Q q => ?_)) (fun z => nomatch z) (fun _ H2 s2 => ?_)
    · refine ⟨_, rfl, aE, p, plv, rfl, qE, ep, hl, hPl, hP5, hPA, fun j s es => ?_, fun H2 s2 => ?_⟩
      · obtain ⟨u1, u2, _⟩ := tl j s es
        rw [Nat.zero_add] at u1 u2
        rw [u2]
        exact (pre_er ce 5 s u1).symm
      · refine ⟨_, _, rfl, rfl, _, rfl, ?_⟩
        rw [decide_eq_false (show ¬ (7 : Int) < ce 0 by omega)]
        exact q H2 s2
    · refine ⟨_, rfl, aW, p, plv, rfl, qW, s2 _ _ ep, hl, hPl, hP5, hPA.keep s2, fun j s es => ?_, fun H3 s3 => ?_⟩
      · obtain ⟨u1, _, u3, _⟩ := tl j s es
        rw [Nat.zero_add] at u1 u3
        rw [u3]
        exact (pre_wr cw 5 s u1).symm
      · refine ⟨_, _, rfl, rfl, _, rfl, ?_⟩
        rw [decide_eq_false (show ¬ (3 : Int) < cw 0 by omega)]
        exact q H3 s3
    · exact q H2 (sm.trans s2)
theorem ok_check_paper (T : PTx w K mg) (D : DPaper K mg) : FnOk P w K mg base CX0 5 D.DC.f D.DC.fd ["paper"] spCheckPaper := by
  have G : FnOk P w K mg base CX0 5 D.DC.f D.DC.fd ["paper"] (fun vs H Q E => ∃ ps, spCheckPaper1 ps vs H Q E) := fn_any fun ps => ok_check_paper1 T D
  have e : spCheckPaper = fun vs H Q E => ∃ ps, spCheckPaper1 ps vs H Q E := by
    funext vs H Q E
    refine propext ⟨fun h => ?_, fun h => ?_⟩
    · obtain ⟨pa, ps, pv, h⟩ := h
      exact ⟨ps, pa, pv, h⟩
    · obtain ⟨ps, pa, pv, h⟩ := h
      exact ⟨pa, ps, pv, h⟩
  rw [e]
  exact G
end
end MS
end
section
set_option maxRecDepth 100000
set_option maxHeartbeats 4000000
namespace MS
open PySem L2
/-! ### rows of each, of all -/
theorem inner_list {K : PySem.W.Frag} {a : Addr} {xs : List V} {g : TG} {tt : TT} {te : TE} {vs : List Nat} {σ : St} {H1 : Hp} {D : Addr} {Qd : Hp → Prop} (Pv : Nat → Hp → Prop) (h0 : Pv 0 H1) (hl : ∀ i H, i ≤ xs.length → Pv i H → SqL K H a xs)
    (hs : ∀ i x H, xs[i]? = some x → Pv i H → g x (wipe σ vs) H fun σ2 H2 => wipe σ2 vs = wipe σ vs ∧ tt σ2 H2 fun b H3 =>
      if b = true then te σ2 H3 fun y H4 => ∃ acc, H4 D = some (.lst acc) ∧ acc.length < sizeLine ∧ Pv (i + 1) (upd H4 D (.lst (acc ++ [y]))) else Pv (i + 1) H3) (hd : ∀ H, Pv xs.length H → Qd H) :
    ∃ W : Nat → Nat → Hp → Prop, (∃ m, W 0 m H1) ∧ ∀ i m H, W i m H →
      ((Itl K a).stop i H ∧ Qd H) ∨ ((Itl K a).go i H ∧ ∃ Nx : Hp → Prop, (∀ H', Nx H' → ∃ m', m' < m ∧ W (i + 1) m' H') ∧ ∀ x H', (Itl K a).yld i H x H' → g x (wipe σ vs) H' fun σ2 H2 => wipe σ2 vs = wipe σ vs ∧ tt σ2 H2 fun b H3 =>
        if b = true then te σ2 H3 fun y H4 => ∃ acc, H4 D = some (.lst acc) ∧ acc.length < sizeLine ∧ Nx (upd H4 D (.lst (acc ++ [y]))) else Nx H3) := by
  refine ⟨fun i m H => m = xs.length - i ∧ i ≤ xs.length ∧ Pv i H, ⟨xs.length, by simp, Nat.zero_le _, h0⟩, ?_⟩
  rintro i m H ⟨rfl, hi, p⟩
  have q := hl i H hi p
  by_cases hlt : i < xs.length
  · refine .inr ⟨⟨xs, xs[i], q, by simp [hlt]⟩, Pv (i + 1), fun H' p' => ⟨xs.length - (i + 1), by omega, rfl, hlt, p'⟩, fun x H' y => ?_⟩
    obtain ⟨e, y⟩ := y
    subst e
    exact hs i x _ (y xs q) p
  · have e : i = xs.length := by omega
    subst e
    exact .inl ⟨⟨xs, q, Nat.le_refl _⟩, hd H p⟩
theorem outer_list {K : PySem.W.Frag} {a : Addr} {xs : List V} {g g1 : TG} {tt tt1 : TT} {wi1 : TI} {te : TE} {vs vs1 : List Nat} {σ : St} {H1 : Hp} {D : Addr} {Qd : Hp → Prop} (Pv : Nat → Hp → Prop) (h0 : Pv 0 (upd H1 D (.lst []))) (hl : ∀ i H, i ≤ xs.length → Pv i H → SqL K H a xs)
    (hs : ∀ i x H, xs[i]? = some x → Pv i H → g x (wipe σ vs) H fun σ2 H2 => wipe σ2 vs = wipe σ vs ∧ tt σ2 H2 fun b H3 =>
      if b = true then wi1 σ2 H3 fun J1 H4 => ∃ W1 : Nat → Nat → Hp → Prop, (∃ m, W1 0 m H4) ∧ ∀ j k H, W1 j k H →
        (J1.stop j H ∧ Pv (i + 1) H) ∨ (J1.go j H ∧ ∃ Nx1 : Hp → Prop, (∀ H', Nx1 H' → ∃ k', k' < k ∧ W1 (j + 1) k' H') ∧ ∀ x H', J1.yld j H x H' → g1 x (wipe σ2 vs1) H' fun σ3 H5 => wipe σ3 vs1 = wipe σ2 vs1 ∧ tt1 σ3 H5 fun b H6 =>
          if b = true then te σ3 H6 fun y H7 => ∃ acc, H7 D = some (.lst acc) ∧ acc.length < sizeLine ∧ Nx1 (upd H7 D (.lst (acc ++ [y]))) else Nx1 H6)
      else Pv (i + 1) H3) (hd : ∀ H, Pv xs.length H → Qd H) :
    ∃ W : Nat → Nat → Hp → Prop, (∃ m, W 0 m (upd H1 D (.lst []))) ∧ ∀ i m H, W i m H →
      ((Itl K a).stop i H ∧ Qd H) ∨ ((Itl K a).go i H ∧ ∃ Nx : Hp → Prop, (∀ H', Nx H' → ∃ m', m' < m ∧ W (i + 1) m' H') ∧ ∀ x H', (Itl K a).yld i H x H' → g x (wipe σ vs) H' fun σ2 H2 => wipe σ2 vs = wipe σ vs ∧ tt σ2 H2 fun b H3 =>
        if b = true then wi1 σ2 H3 fun J1 H4 => ∃ W1 : Nat → Nat → Hp → Prop, (∃ m, W1 0 m H4) ∧ ∀ j k H, W1 j k H →
          (J1.stop j H ∧ Nx H) ∨ (J1.go j H ∧ ∃ Nx1 : Hp → Prop, (∀ H', Nx1 H' → ∃ k', k' < k ∧ W1 (j + 1) k' H') ∧ ∀ x H', J1.yld j H x H' → g1 x (wipe σ2 vs1) H' fun σ3 H5 => wipe σ3 vs1 = wipe σ2 vs1 ∧ tt1 σ3 H5 fun b H6 =>
            if b = true then te σ3 H6 fun y H7 => ∃ acc, H7 D = some (.lst acc) ∧ acc.length < sizeLine ∧ Nx1 (upd H7 D (.lst (acc ++ [y]))) else Nx1 H6)
        else Nx H3) := by
  refine ⟨fun i m H => m = xs.length - i ∧ i ≤ xs.length ∧ Pv i H, ⟨xs.length, by simp, Nat.zero_le _, h0⟩, ?_⟩
  rintro i m H ⟨rfl, hi, p⟩
  have q := hl i H hi p
  by_cases hlt : i < xs.length
  · refine .inr ⟨⟨xs, xs[i], q, by simp [hlt]⟩, Pv (i + 1), fun H' p' => ⟨xs.length - (i + 1), by omega, rfl, hlt, p'⟩, fun x H' y => ?_⟩
    obtain ⟨e, y⟩ := y
    subst e
    exact hs i x _ (y xs q) p
  · have e : i = xs.length := by omega
    subst e
    exact .inl ⟨⟨xs, q, Nat.le_refl _⟩, hd H p⟩
abbrev psRows : List Str := ["paper", "scheme", "where", "view"]
abbrev psEach : List Str := ["paper", "schemes", "where", "view"]
structure RAt (C : Addr) (H : Hp) (ps : List Sch) (ws : List StepT) (pa wr vw : Addr) (st : Nat) (c : Bool) (wh : List Nat) : Prop where
  paper : ∃ pv, H pa = some (.tup pv) ∧ Paired (SAt H 5) ps pv
  view : ViewAt C H vw ws st c
  wher : H wr = some (.tup (natV wh))
theorem RAt.keep {C : Addr} {H H' : Hp} {ps : List Sch} {ws : List StepT} {pa wr vw : Addr} {st : Nat} {c : Bool} {wh : List Nat} (h : RAt C H ps ws pa wr vw st c wh) (k : Same H H') : RAt C H' ps ws pa wr vw st c wh := by
  obtain ⟨⟨pv, e, p⟩, h2, h3⟩ := h
  exact ⟨⟨pv, k _ _ e, paired_imp p fun s v => SAt.keep (Same.tupK k) _ _ _⟩, h2.keep k, k _ _ h3⟩
def spRows (C : Addr) (ps : List Sch) (ws : List StepT) (ce : Nat → Int) (M k : Nat) : Sp := fun vs H Q _ => ∃ (pa wr vw : Addr) (v : V) (s : Sch) (i d st : Nat) (c : Bool) (wh : List Nat), vs = [.ref pa, v, .ref wr, .ref vw] ∧ RAt C H ps ws pa wr vw st c wh ∧ st ≤ ws.length ∧ SAt H d s v ∧ OkS i M d s ∧ er ce d s ≤ 7 ∧ (M - i) * 5 + d ≤ k ∧ wh.length + k ≤ 100 ∧
  ∀ (f : Addr) (rv : List V) (H' : Hp), Same H H' → H f = none → H' f = some (.lst rv) → Paired (RowR H') (rP ps ws k s st c wh) rv → Q (.ref f) H'
structure KAt (H : Hp) (ce : Nat → Int) (M k i d : Nat) (ks : List Sch) (kv : List V) (b : Addr) : Prop where
  at_ : H b = some (.tup kv)
  pr : Paired (SAt H d) ks kv
  ok : ∀ s ∈ ks, OkS i M d s ∧ er ce d s ≤ 7
  few : ks.length ≤ 4
  fuel : (M - i) * 5 + d ≤ k
theorem KAt.keep {H H' : Hp} {ce : Nat → Int} {M k i d : Nat} {ks : List Sch} {kv : List V} {b : Addr} (h : KAt H ce M k i d ks kv b) (s : Same H H') : KAt H' ce M k i d ks kv b := ⟨s _ _ h.at_, paired_imp h.pr fun _ _ => SAt.keep (Same.tupK s) _ _ _, h.ok, h.few, h.fuel⟩
/-- the rows of each stand at fv -/
def EachAt (H0 H : Hp) (F : Sch → Nat → List Row) (ks : List Sch) (fv : List V) : Prop := fv.length = ks.length ∧ ∀ j s, ks[j]? = some s → ∃ g rv, fv[j]? = some (V.ref g) ∧ H0 g = none ∧ H g = some (.lst rv) ∧ Paired (RowR H) (F s j) rv
def spEach (C : Addr) (ps : List Sch) (ws : List StepT) (ce : Nat → Int) (M k : Nat) : Sp := fun vs H Q _ => ∃ (pa wr vw b : Addr) (ks : List Sch) (kv : List V) (i d st : Nat) (c : Bool) (wh : List Nat), vs = [.ref pa, .ref b, .ref wr, .ref vw] ∧ RAt C H ps ws pa wr vw st c wh ∧ st ≤ ws.length ∧ KAt H ce M k i d ks kv b ∧ wh.length + 1 + k ≤ 100 ∧
  ∀ (f : Addr) (fv : List V) (H' : Hp), Same H H' → H f = none → H' f = some (.lst fv) → EachAt H H' (fun s j => rP ps ws k s st c (wh ++ [j])) ks fv → Q (.ref f) H'
def spAll (C : Addr) (ps : List Sch) (ws : List StepT) (ce : Nat → Int) (M k : Nat) : Sp := fun vs H Q _ => ∃ (pa wr vw b : Addr) (ks : List Sch) (kv : List V) (i d st : Nat) (c : Bool) (wh : List Nat), vs = [.ref pa, .ref b, .ref wr, .ref vw] ∧ RAt C H ps ws pa wr vw st c wh ∧ st ≤ ws.length ∧ KAt H ce M k i d ks kv b ∧ wh.length + 1 + k ≤ 100 ∧
  ∀ (f : Addr) (rv : List V) (H' : Hp), Same H H' → H f = none → H' f = some (.lst rv) → Paired (RowR H') (allU (fun s j => rP ps ws k s st c (wh ++ [j])) ks 0) rv → Q (.ref f) H'
theorem rows_le_pts : ∀ (rs : List Row), (∀ r ∈ rs, 0 < r.2.1) → rs.length ≤ pts rs
  | [], _ => Nat.zero_le _
  | r :: t, h => by
    rw [pts_cons, List.length_cons]
    have := rows_le_pts t fun r hr => h r (List.mem_cons_of_mem _ hr)
    have := h r List.mem_cons_self
    omega
theorem rP_len {ps : List Sch} {ws : List StepT} {ce : Nat → Int} {M : Nat} (hp : ∀ (j : Nat) (s : Sch), ps[j]? = some s → OkS j M 5 s ∧ ce j = er ce 5 s) (h0 : ∀ j, j < M → 0 ≤ ce j) {k i d : Nat} {s : Sch} {st : Nat} {c : Bool} {wh : List Nat} (o : OkS i M d s) (h7 : er ce d s ≤ 7) : (rP ps ws k s st c wh).length ≤ 63 := by
  have h1 := uP_len (ws := ws) hp h0 k i d s st c wh o
  rw [uP_expand, expand_len] at h1
  have h2 := rows_le_pts _ fun r hr => ((rP_good (ws := ws) (fun j s e => (hp j s e).1) k i d s st c wh o).1 r hr).1
  omega
theorem allU_le {α : Type} {f : Sch → Nat → List α} : ∀ (ks : List Sch) (j : Nat), (∀ s ∈ ks, ∀ j, (f s j).length ≤ 63) → (allU f ks j).length ≤ 63 * ks.length
  | [], _, _ => Nat.le_refl _
  | s :: r, j, h => by
    show (f s j ++ allU f r (j + 1)).length ≤ _
    rw [List.length_append, List.length_cons]
    have := h s List.mem_cons_self j
    have := allU_le r (j + 1) fun s hs => h s (List.mem_cons_of_mem _ hs)
    omega
section
variable {P : Program} {w : World} {K : PySem.W.Frag} {mg : Str → Option Value} {base : Heap} {C : Addr} {ps : List Sch} {ws : List StepT} {ce : Nat → Int} {M k L : Nat}
theorem ok_each (T : PTx w K mg) (DR : Def K mg "rows_of" s_rows_of psRows) (D : Def K mg "rows_of_each" s_rows_of_each psEach) (G : FnOk P w K mg base CX0 L DR.f DR.fd psRows (spRows C ps ws ce M k)) : FnOk P w K mg base CX0 (L + 1) D.f D.fd psEach (spEach C ps ws ce M k) := by
  have nd := sc_rows_of_each.nd
  refine D.ok sc_rows_of_each (fun vs H Q E h => ?_) (fun cdv A outer s H vs Q E hr h => ?_)
  · obtain ⟨pa, wr, vw, b, ks, kv, i, d, st, c, wh, rfl, _⟩ := h
    rfl
  obtain ⟨pa, wr, vw, b, ks, kv, i, d, st, c, wh, rfl, R, hst, KA, hwh, q⟩ := h
  refine ⟨_, pss_one (ps_ret (pe_lc (own := [("at", 4), ("scheme", 5)]) (g := gTup K 2 (gCons (gName 4) (gCons (gName 5) gNil))) (tt := tYes) rfl nd (pi_enumT rfl (T.free "enumerate" (by decide +kernel)) (pa_cons (pv 1) pa_nil)) (blkOk_by (N := ["paper", "schemes", "where", "view", "at", "scheme"]) (sc := defScope s_rows_of_each) (by decide +kernel))
      (fun _ _ _ _ _ => pg_tup rfl (pgs_cons (pg_name (i := 4) nd rfl (Or.inl rfl)) (pgs_cons (pg_name (i := 5) nd rfl (Or.inl rfl)) pgs_nil))) (fun _ _ _ _ _ => pts_nil)
      (fun _ _ _ _ _ => pcall DR G hr (pa_cons (pv 0) (pa_cons (pv 5) (pa_cons (pe_op (r := rCatA K) op_catA (pv 2) (pe_tup (pa_cons (pv 4) pa_nil))) (pa_cons (pv 3) pa_nil))))))), ?_⟩
  have hkl := Paired.length KA.pr
  have hfew := KA.few
  have hfu := KA.fuel
  refine ⟨_, rfl, b, _, rfl, SqT.of KA.at_, fun Dd hD => ?_⟩
  refine lc_it (walk_enumT (K := K) (a := b) (xs := kv)) (fun j H'' => ∃ fv, H'' Dd = some (.lst fv) ∧ fv.length = j ∧ (∀ j' s, j' < j → ks[j']? = some s → ∃ g rv, fv[j']? = some (V.ref g) ∧ g ≠ Dd ∧ H g = none ∧ H'' g = some (.lst rv) ∧ Paired (RowR H'') (rP ps ws k s st c (wh ++ [j'])) rv) ∧ Same H H'') ⟨[], upd_same, rfl, (fun _ _ h => by omega), Same.new hD⟩ (fun j H'' _ ⟨_, _, _, _, s3⟩ => SqT.of (s3 _ _ KA.at_)) ?_ ?_
  · rintro j x H2 H3 hj ⟨fv, eD, hl, hfv, s3⟩ ⟨T1, x1, x2, rfl, hT1, rfl, ex1, ex2⟩
    obtain rfl : V.int ((j : Nat) : Int) = x1 := Option.some.inj ex1
    have ex2 : kv[j]? = some x2 := ex2
    obtain ⟨s', es', hs'⟩ := paired_get' KA.pr ex2
    have hm := List.mem_of_getElem? es'
    obtain ⟨hok, h7⟩ := KA.ok s' hm
    have sT := Same.new (o := .tup [.int ((j : Nat) : Int), x2]) hT1
    have s4 := s3.trans sT
    have R4 := R.keep s4
    refine ⟨T1, _, rfl, SqT.of upd_same, rfl, _, _, rfl, _, _, rfl, rfl, rfl, _, rfl, _, rfl, ?_⟩
    refine cat_at (i := 2) (j := j) rfl R4.wher (by omega) (fun Q q => ⟨_, rfl, q⟩) (fun wr' H5 s5 ew => ?_)
    have s45 := s4.trans s5
    have R5 := R4.keep s5
    refine ⟨_, rfl, pa, wr', vw, x2, s', i, d, st, c, wh ++ [j], rfl, ⟨R5.paper, R5.view, ew⟩, hst, SAt.keep (Same.tupK s45) _ _ _ hs', hok, h7, hfu, by rw [List.length_append, List.length_singleton]; omega, fun g rv H6 s6 hg eg pr => ?_⟩
    have s26 := (sT.trans s5).trans s6
    have eD6 := s26 _ _ eD
    have ngD : g ≠ Dd := fun z => by rw [z, (sT.trans s5) _ _ eD] at hg; cases hg
    have tk : TupK H6 (upd H6 Dd (.lst (fv ++ [.ref g]))) := TupK.put eD6
    have hjl := (List.getElem?_eq_some_iff.mp es').1
    refine ⟨_, eD6, small1000 (by omega), fv ++ [.ref g], upd_same, by rw [List.length_append, hl]; rfl, fun j' s'' hj' es'' => ?_, Same.newer (s3.trans s26) hD⟩
    by_cases e : j' < j
    · obtain ⟨g', rv', e1, e2, e3, e4, e5⟩ := hfv j' s'' e es''
      exact ⟨g', rv', by rw [List.getElem?_append_left (by omega)]; exact e1, e2, e3, by rw [upd_ne e2]; exact s26 _ _ e4, paired_imp e5 fun _ _ h => RowR.keep h ((Same.tupK s26).trans tk)⟩
    · have e : j' = j := by omega
      subst e
      rw [es'] at es''
      cases es''
      refine ⟨g, rv, ?_, ngD, s45.free hg, by rw [upd_ne ngD]; exact eg, paired_imp pr fun _ _ h => RowR.keep h tk⟩
      rw [List.getElem?_append_right (by omega), hl, Nat.sub_self]
      rfl
  · rintro H'' ⟨fv, eD, hl, hfv, s3⟩
    refine q Dd fv H'' s3 hD eD ⟨by omega, fun j s' es' => ?_⟩
    have hjl := (List.getElem?_eq_some_iff.mp es').1
    obtain ⟨g', rv', e1, e2, e3, e4, e5⟩ := hfv j s' (by omega) es'
    exact ⟨g', rv', e1, e3, e4, e5⟩
theorem ok_all (hp : ∀ (j : Nat) (s : Sch), ps[j]? = some s → OkS j M 5 s ∧ ce j = er ce 5 s) (h0 : ∀ j, j < M → 0 ≤ ce j) (T : PTx w K mg) (DE : Def K mg "rows_of_each" s_rows_of_each psEach) (D : Def K mg "rows_of_all" s_rows_of_all psEach) (G : FnOk P w K mg base CX0 L DE.f DE.fd psEach (spEach C ps ws ce M k)) : FnOk P w K mg base CX0 (L + 1) D.f D.fd psEach (spAll C ps ws ce M k) := by
  have nd := sc_rows_of_all.nd
  refine D.ok sc_rows_of_all (fun vs H Q E h => ?_) (fun cdv A outer s H vs Q E hr h => ?_)
  · obtain ⟨pa, wr, vw, b, ks, kv, i, d, st, c, wh, rfl, _⟩ := h
    rfl
  obtain ⟨pa, wr, vw, b, ks, kv, i, d, st, c, wh, rfl, R, hst, KA, hwh, q⟩ := h
  refine ⟨_, pss_one (ps_ret (pe_lc2 (own := [("rows", 4), ("row", 5)]) (vs1 := [5]) (g := gName 4) (wi1 := iList K (tVar 4)) (g1 := gName 5) (tt := tYes) (tt1 := tYes) rfl nd (pi_list (pcall DE G hr (pa_cons (pv 0) (pa_cons (pv 1) (pa_cons (pv 2) (pa_cons (pv 3) pa_nil))))))
      (blkOk_by (N := ["paper", "schemes", "where", "view", "rows", "row"]) (sc := defScope s_rows_of_all) (by decide +kernel)) (by intro i hi; rw [List.mem_singleton.mp hi]; decide)
      (fun _ _ _ _ _ => pg_name (i := 4) nd rfl (Or.inl rfl)) (fun _ _ _ _ _ => pts_nil) (fun _ _ _ _ _ => pi_list (pv 4)) (fun _ _ _ _ _ => pg_name (i := 5) nd rfl (Or.inl rfl)) (fun _ _ _ _ _ => pts_nil) (fun _ _ _ _ _ => pv 5))), ?_⟩
  refine ⟨_, rfl, _, rfl, _, rfl, _, rfl, pa, wr, vw, b, ks, kv, i, d, st, c, wh, rfl, R, hst, KA, hwh, fun r fv Hr sr hr0 er' EA => ?_⟩
  have hfew := KA.few
  have lrow : ∀ s ∈ ks, ∀ j, ((fun s j => rP ps ws k s st c (wh ++ [j])) s j).length ≤ 63 := fun s hs j => rP_len hp h0 (KA.ok s hs).1 (KA.ok s hs).2
  generalize (fun s j => rP ps ws k s st c (wh ++ [j])) = F at q EA lrow
  obtain ⟨hfl, hEA⟩ := EA
  refine ⟨r, rfl, ⟨_, SqL.of er'⟩, fun D hD => ?_⟩
  have nrD : r ≠ D := ne_of_none er' hD
  have lAll : ∀ i, (allU F (ks.take i) 0).length ≤ 252 := fun i => by
    have := allU_le (f := F) (ks.take i) 0 fun s hs j => lrow s (List.mem_of_mem_take hs) j
    have : (ks.take i).length ≤ 4 := by rw [List.length_take]; omega
    omega
  refine outer_list (K := K) (a := r) (xs := fv) (fun i H' => ∃ av, H' D = some (.lst av) ∧ Paired (RowR H') (allU F (ks.take i) 0) av ∧ Same Hr H') ⟨[], upd_same, .nil, Same.new hD⟩ (fun i H' _ ⟨_, _, _, s5⟩ => SqL.of (s5 _ _ er')) ?_ ?_
  · rintro j x H5 hj ⟨av, eD, pa5, s5⟩
    have hjl : j < ks.length := by rw [← hfl]; exact (List.getElem?_eq_some_iff.mp hj).1
    have es' : ks[j]? = some (ks[j]'hjl) := List.getElem?_eq_getElem hjl
    obtain ⟨g, rv, e1, e2, e3, e4⟩ := hEA j _ es'
    rw [hj] at e1
    cases e1
    have tk : ks.take (j + 1) = ks.take j ++ [ks[j]'hjl] := by
      rw [List.take_succ, es']
      rfl
    have eF : allU F (ks.take (j + 1)) 0 = allU F (ks.take j) 0 ++ F (ks[j]'hjl) j := by
      rw [tk, allU_snoc, List.length_take, Nat.zero_add, Nat.min_eq_left (Nat.le_of_lt hjl)]
    have lF := lrow _ (List.getElem_mem hjl) j
    have lrv := Paired.length e4
    have lA := lAll j
    refine ⟨rfl, _, rfl, g, rfl, ⟨_, SqL.of (s5 _ _ e3)⟩, ?_⟩
    refine inner_list (K := K) (a := g) (xs := rv) (fun t H' => ∃ av, H' D = some (.lst av) ∧ Paired (RowR H') (allU F (ks.take j) 0 ++ (F (ks[j]'hjl) j).take t) av ∧ Same Hr H') ⟨av, eD, by rw [List.take_zero, List.append_nil]; exact pa5, s5⟩ (fun t H' _ ⟨_, _, _, s6⟩ => SqL.of (s6 _ _ e3)) ?_ ?_
    · rintro t y H6 hy ⟨av6, eD6, pa6, s6⟩
      obtain ⟨row, erow, hrow⟩ := paired_get' e4 hy
      have lav := Paired.length pa6
      rw [List.length_append, List.length_take] at lav
      have tk6 : TupK H6 (upd H6 D (.lst (av6 ++ [y]))) := TupK.put eD6
      refine ⟨rfl, _, rfl, _, eD6, small1000 (by omega), av6 ++ [y], upd_same, ?_, Same.newer s6 hD⟩
      have e : (F (ks[j]'hjl) j).take (t + 1) = (F (ks[j]'hjl) j).take t ++ [row] := by
        rw [List.take_succ, erow]
        rfl
      rw [e, ← List.append_assoc]
      exact paired_app (paired_imp pa6 fun _ _ h => RowR.keep h tk6) (.cons (RowR.keep hrow ((Same.tupK s6).trans tk6)) .nil)
    · rintro H6 ⟨av6, eD6, pa6, s6⟩
      rw [← lrv, List.take_length] at pa6
      exact ⟨av6, eD6, by rw [eF]; exact pa6, s6⟩
  · rintro H5 ⟨av, eD, pa5, s5⟩
    rw [hfl, List.take_length] at pa5
    exact q D av H5 (sr.trans s5) (sr.free hD) eD pa5
end
end MS
end
section
set_option maxRecDepth 100000
set_option maxHeartbeats 4000000
namespace MS
open PySem L2
/-! ### the rows of a scheme -/
theorem case_no {K : PySem.W.Frag} {nm : Str} {is : List Nat} {tb : TS} {tr : TM} {a : Addr} {z : Str} {tl : List V} {D : Ends} {σ : St} {H : Hp} (ea : H a = some (.tup (.str z :: tl))) (hl : tl.length ≤ 1000) (n : z ≠ nm) (h : tr (.ref a) D σ H) : tCase K nm is tb tr (.ref a) D σ H :=
  ⟨a, z, tl, rfl, SqT.of ea, hl, by rw [if_neg (fun q => n q.2)]; exact h⟩
theorem case_yes {K : PySem.W.Frag} {z : Str} {is : List Nat} {tb : TS} {tr : TM} {a : Addr} {tl : List V} {D : Ends} {σ : St} {H : Hp} (ea : H a = some (.tup (.str z :: tl))) (hl : tl.length ≤ 1000) (e : tl.length = is.length) (h : tb D (setAll σ is tl) H) : tCase K z is tb tr (.ref a) D σ H :=
  ⟨a, z, tl, rfl, SqT.of ea, hl, by rw [if_pos ⟨e, rfl⟩]; exact h⟩
def FF (f : Sch → Nat → List Row) (ks : List Sch) (i : Nat) : List Row := match ks[i]? with
  | some s => f s i
  | none => []
theorem bestR_snoc (f : Sch → Nat → List Row) : ∀ (l : List Sch) (s : Sch) (j : Nat) (acc : List Row), bestR f (l ++ [s]) j acc = if pts (bestR f l j acc) < pts (f s (j + l.length)) then f s (j + l.length) else bestR f l j acc
  | [], s, j, acc => rfl
  | a :: l, s, j, acc => by
    show bestR f (l ++ [s]) (j + 1) (if pts acc < pts (f a j) then f a j else acc) = _
    rw [bestR_snoc f l s (j + 1), List.length_cons, show j + 1 + l.length = j + (l.length + 1) by omega]
    rfl
theorem pts_nil' : ∀ {rs : List Row}, (∀ r ∈ rs, 0 < r.2.1) → pts rs = 0 → rs = []
  | [], _, _ => rfl
  | r :: t, h, e => by
    rw [pts_cons] at e
    have := h r List.mem_cons_self
    omega
theorem best_arg {f : Sch → Nat → List Row} {ks : List Sch} (hpos : ∀ s ∈ ks, ∀ j, ∀ r ∈ f s j, 0 < r.2.1) : ∀ m, m < ks.length → bestR f (ks.take (m + 1)) 0 [] = FF f ks (argBest (gtB fun i => ((pts (FF f ks i) : Nat) : Int)) m)
  | 0, h => by
    have e : ks[0]? = some (ks[0]'h) := List.getElem?_eq_getElem h
    have t : ks.take (0 + 1) = [ks[0]'h] := by
      rw [List.take_succ, e]
      rfl
    rw [t]
    have F0 : FF f ks 0 = f (ks[0]'h) 0 := by unfold FF; rw [e]
    show (if pts [] < pts (f (ks[0]'h) 0) then f (ks[0]'h) 0 else []) = FF f ks 0
    rw [F0]
    by_cases c : pts [] < pts (f (ks[0]'h) 0)
    · rw [if_pos c]
    · rw [if_neg c]
      have z : pts (f (ks[0]'h) 0) = 0 := by
        have : pts [] = 0 := rfl
        omega
      exact (pts_nil' (hpos _ (List.getElem_mem h) 0) z).symm
  | m + 1, h => by
    have e : ks[m + 1]? = some (ks[m + 1]'h) := List.getElem?_eq_getElem h
    have t : ks.take (m + 1 + 1) = ks.take (m + 1) ++ [ks[m + 1]'h] := by
      rw [List.take_succ, e]
      rfl
    have F1 : FF f ks (m + 1) = f (ks[m + 1]'h) (m + 1) := by unfold FF; rw [e]
    rw [t, bestR_snoc, best_arg hpos m (by omega), List.length_take, Nat.min_eq_left (Nat.le_of_lt h), Nat.zero_add, ← F1]
    show _ = FF f ks (if gtB (fun i => ((pts (FF f ks i) : Nat) : Int)) (m + 1) (argBest (gtB fun i => ((pts (FF f ks i) : Nat) : Int)) m) then m + 1 else argBest (gtB fun i => ((pts (FF f ks i) : Nat) : Int)) m)
    generalize argBest (gtB fun i => ((pts (FF f ks i) : Nat) : Int)) m = A
    by_cases c : pts (FF f ks A) < pts (FF f ks (m + 1))
    · rw [if_pos c, if_pos (show gtB (fun i => ((pts (FF f ks i) : Nat) : Int)) (m + 1) A = true from decide_eq_true (show ((pts (FF f ks A) : Nat) : Int) < ((pts (FF f ks (m + 1)) : Nat) : Int) by omega))]
    · rw [if_neg c, if_neg (show ¬ gtB (fun i => ((pts (FF f ks i) : Nat) : Int)) (m + 1) A = true from fun z => by
        have z2 : ((pts (FF f ks A) : Nat) : Int) < ((pts (FF f ks (m + 1)) : Nat) : Int) := of_decide_eq_true z
        omega)]
theorem arg_le (bt : Nat → Nat → Bool) : ∀ m, argBest bt m ≤ m
  | 0 => Nat.le_refl _
  | m + 1 => by
    show (if bt (m + 1) (argBest bt m) then m + 1 else argBest bt m) ≤ m + 1
    have := arg_le bt m
    split <;> omega
structure DRows (K : PySem.W.Frag) (mg : Str → Option Value) where
  DPt : Def K mg "points_of" s_points_of ["rows"]
  DFp : Def K mg "first_points" s_first_points ["rows", "limit"]
  DRa : Def K mg "row_at" s_row_at ["place", "points", "where"]
  DE : Def K mg "rows_of_each" s_rows_of_each psEach
  DA : Def K mg "rows_of_all" s_rows_of_all psEach
  DR : Def K mg "rows_of" s_rows_of psRows
  DB : Def K mg "rows_by" s_rows_by ["paper", "work"]
  DI : Def K mg "is_step" s_is_step ["thing"]
  DC : Def K mg "check_work" s_check_work ["work"]
  DN : Def K mg "earned" s_earned ["paper", "work"]
theorem nat_of {p : Int} (h : 0 ≤ p) : ∃ n : Nat, p = ((n : Nat) : Int) := ⟨p.toNat, by omega⟩
section
variable {P : Program} {w : World} {K : PySem.W.Frag} {mg : Str → Option Value} {base : Heap} {C : Addr} {ps : List Sch} {ws : List StepT} {ce : Nat → Int} {M k L : Nat}
theorem rows_turn (hM : ps.length = M) (hw : ∀ p ∈ ws, IsStep p) (hws : ws.length ≤ 12) (hp : ∀ (j : Nat) (s : Sch), ps[j]? = some s → OkS j M 5 s ∧ ce j = er ce 5 s) (h0 : ∀ j, j < M → 0 ≤ ce j) (h7 : ∀ j, j < M → ce j ≤ 7) (T : PTx w K mg) (Y : VCls K mg C) (D : DRows K mg) (hL : 1 ≤ L)
    (G : FnOk P w K mg base CX0 L D.DR.f D.DR.fd psRows (spRows C ps ws ce M k)) : FnOk P w K mg base CX0 (L + 3) D.DR.f D.DR.fd psRows (spRows C ps ws ce M (k + 1)) := by
  have GE : FnOk P w K mg base CX0 (L + 1) D.DE.f D.DE.fd psEach (spEach C ps ws ce M k) := ok_each T D.DR D.DE G
  have GA : FnOk P w K mg base CX0 (L + 2) D.DA.f D.DA.fd psEach (spAll C ps ws ce M k) := ok_all hp h0 T D.DE D.DA GE
  have GPt : FnOk P w K mg base CX0 1 D.DPt.f D.DPt.fd ["rows"] spPoints := ok_points_of T D.DPt
  have GFp : FnOk P w K mg base CX0 1 D.DFp.f D.DFp.fd ["rows", "limit"] spFirst := ok_first_points T D.DFp
  have GRa : FnOk P w K mg base CX0 1 D.DRa.f D.DRa.fd ["place", "points", "where"] spRowAt := ok_row_at T D.DRa
  have GF : FnOk P w K mg base CX0 2 Y.DF.f Y.DF.fd ["self", "word"] (spVFirst C) := ok_vfirst T Y
  have GL : FnOk P w K mg base CX0 2 Y.DL.f Y.DL.fd ["self", "word"] (spVLast C) := ok_vlast T Y
  have GS : FnOk P w K mg base CX0 1 Y.DS.f Y.DS.fd ["self", "word"] (spStands C) := ok_stands T Y
  have GB : FnOk P w K mg base CX0 3 Y.DB.f Y.DB.fd ["self", "place"] (spVBehind C) := ok_vbehind T Y
  have GY : FnOk P w K mg base CX0 3 Y.DY.f Y.DY.fd ["self"] (spCarrying C) := ok_carrying T Y
  have nd := sc_rows_of.nd
  refine D.DR.ok sc_rows_of (fun vs H Q E h => ?_) (fun cdv A outer s H vs Q E hr h => ?_)
  · obtain ⟨pa, wr, vw, v, s, i, d, st, c, wh, rfl, _⟩ := h
    rfl
  obtain ⟨pa, wr, vw, v, sc, i, d, st, c, wh, rfl, R, hst, hs, ho, he7, hk, hwh, q⟩ := h
  have hrL : Room L _ := hr.mono (by omega)
  have hrE : Room (L + 1) _ := hr.mono (by omega)
  have hrA : Room (L + 2) _ := hr.mono (by omega)
  have hr1 : Room 1 _ := hr.mono (by omega)
  have hr2 : Room (1 + 1) _ := hr.mono (by omega)
  have hr3 : Room 3 _ := hr.mono (by omega)
  refine ⟨_, pss_one (ps_match (pv 1)
    (pm_cons rfl nd (.cons (i := 4) rfl (Or.inl rfl) (Or.inr rfl) (.cons (i := 5) rfl (Or.inl rfl) (Or.inr rfl) .nil))
      (pss_one (ps_ret (pcall D.DRa GRa hr1 (pa_cons (pe_meth (pv 3) Y.cl Y.DF.me GF hr2 Y.DF.b .nil pass0 (pa_cons (pv 4) pa_nil)) (pa_cons (pv 5) (pa_cons (pv 2) pa_nil))))))
    (pm_cons rfl nd (.cons (i := 6) rfl (Or.inl rfl) (Or.inr rfl) .nil)
      (pss_one (ps_ret (pcall D.DA GA hrA (pa_cons (pv 0) (pa_cons (pv 6) (pa_cons (pv 2) (pa_cons (pv 3) pa_nil)))))))
    (pm_cons rfl nd (.cons (i := 6) rfl (Or.inl rfl) (Or.inr rfl) .nil)
      (pss_one (ps_ret (pe_callBK (cr_maxKey rfl GPt hr2 D.DPt.b) rfl (T.free "max" (by decide +kernel)) (by decide +kernel) (pa_cons (pcall D.DE GE hrE (pa_cons (pv 0) (pa_cons (pv 6) (pa_cons (pv 2) (pa_cons (pv 3) pa_nil))))) pa_nil) (pk_cons (pe_glob rfl D.DPt.g (v := .ref D.DPt.f) rfl) pk_nil))))
    (pm_cons rfl nd (.cons (i := 7) rfl (Or.inl rfl) (Or.inr rfl) (.cons (i := 8) rfl (Or.inl rfl) (Or.inr rfl) .nil))
      (pss_one (ps_ret (pcall D.DFp GFp hr1 (pa_cons (pcall D.DR G hrL (pa_cons (pv 0) (pa_cons (pv 8) (pa_cons (pe_op (r := rCatA K) op_catA (pv 2) (pe_tup (pa_cons pe_int pa_nil))) (pa_cons (pv 3) pa_nil))))) (pa_cons (pv 7) pa_nil)))))
    (pm_cons rfl nd (.cons (i := 8) rfl (Or.inl rfl) (Or.inr rfl) .nil)
      (pss_cons (ps_set (i := 9) nd rfl (Or.inl rfl) (pcall D.DR G hrL (pa_cons (pv 0) (pa_cons (pv 8) (pa_cons (pe_op (r := rCatA K) op_catA (pv 2) (pe_tup (pa_cons pe_int pa_nil))) (pa_cons (pv 3) pa_nil))))))
        (pss_one (ps_ret (pcall D.DFp GFp hr1 (pa_cons (pv 9) (pa_cons (pe_op op_fdiv (pcall D.DPt GPt hr1 (pa_cons (pv 9) pa_nil)) pe_int) pa_nil))))))
    (pm_cons rfl nd (.cons (i := 4) rfl (Or.inl rfl) (Or.inr rfl) (.cons (i := 8) rfl (Or.inl rfl) (Or.inr rfl) .nil))
      (pss_one (ps_ret (pe_ifExp (pt_val (pe_meth (pv 3) Y.cl Y.DS.me GS hr1 Y.DS.b .nil pass0 (pa_cons (pv 4) pa_nil))) (pcall D.DR G hrL (pa_cons (pv 0) (pa_cons (pv 8) (pa_cons (pe_op (r := rCatA K) op_catA (pv 2) (pe_tup (pa_cons pe_int pa_nil))) (pa_cons (pv 3) pa_nil))))) (pe_lst pa_nil))))
    (pm_cons rfl nd (.cons (i := 4) rfl (Or.inl rfl) (Or.inr rfl) (.cons (i := 8) rfl (Or.inl rfl) (Or.inr rfl) .nil))
      (pss_cons (ps_set (i := 10) nd rfl (Or.inl rfl) (pe_meth (pv 3) Y.cl Y.DF.me GF hr2 Y.DF.b .nil pass0 (pa_cons (pv 4) pa_nil)))
        (pss_one (ps_ret (pe_ifExp (pt_cmpR op_isN (pv 10) pe_non (nomark _)) (pe_lst pa_nil) (pcall D.DR G hrL (pa_cons (pv 0) (pa_cons (pv 8) (pa_cons (pe_op (r := rCatA K) op_catA (pv 2) (pe_tup (pa_cons pe_int pa_nil))) (pa_cons (pe_meth (pv 3) Y.cl Y.DB.me GB hr3 Y.DB.b .nil pass0 (pa_cons (pv 10) pa_nil)) pa_nil)))))))))
    (pm_cons rfl nd (.cons (i := 8) rfl (Or.inl rfl) (Or.inr rfl) .nil)
      (pss_one (ps_ret (pcall D.DR G hrL (pa_cons (pv 0) (pa_cons (pv 8) (pa_cons (pe_op (r := rCatA K) op_catA (pv 2) (pe_tup (pa_cons pe_int pa_nil))) (pa_cons (pe_meth0 (pv 3) Y.cl Y.DY.me GY hr3 Y.DY.b .nil pass0) pa_nil)))))))
    (pm_cons rfl nd (.cons (i := 4) rfl (Or.inl rfl) (Or.inr rfl) (.cons (i := 5) rfl (Or.inl rfl) (Or.inr rfl) (.cons (i := 8) rfl (Or.inl rfl) (Or.inr rfl) .nil)))
      (pss_one (ps_ret (pe_orT (pcall D.DRa GRa hr1 (pa_cons (pe_meth (pv 3) Y.cl Y.DL.me GL hr2 Y.DL.b .nil pass0 (pa_cons (pv 4) pa_nil)) (pa_cons (pv 5) (pa_cons (pv 2) pa_nil)))) (pe_one (pcall D.DR G hrL (pa_cons (pv 0) (pa_cons (pv 8) (pa_cons (pe_op (r := rCatA K) op_catA (pv 2) (pe_tup (pa_cons pe_int pa_nil))) (pa_cons (pv 3) pa_nil)))))))))
    (pm_cons rfl nd (.cons (i := 11) rfl (Or.inl rfl) (Or.inr rfl) .nil)
      (pss_one (ps_ret (pcall D.DR G hrL (pa_cons (pv 0) (pa_cons (pe_ix ix_tup (pv 0) (pv 11) (fun _ _ => rfl)) (pa_cons (pe_op (r := rCatA K) op_catA (pv 2) (pe_tup (pa_cons pe_int pa_nil))) (pa_cons (pv 3) pa_nil)))))))
    pm_nil))))))))))), ?_⟩
  obtain ⟨dxv, wav, wpv, hvw, ewa, ewp⟩ := id R.view
  have lw0 : (wh ++ [0]).length = wh.length + 1 := by rw [List.length_append]; rfl
  cases d with
  | zero => cases hs
  | succ d =>
  have hk' : (M - i) * 5 + d ≤ k := by omega
  have inner : ∀ {H1 : Hp} {wr' vw' : Addr} {u : V} {s' : Sch} {st' : Nat} {c' : Bool} {Q' : VK}, Same H H1 → H1 wr' = some (.tup (natV (wh ++ [0]))) → ViewAt C H1 vw' ws st' c' → st' ≤ ws.length → SAt H1 d s' u → OkS i M d s' → er ce d s' ≤ 7 →
      (∀ (f : Addr) (rv : List V) (H' : Hp), Same H1 H' → H1 f = none → H' f = some (.lst rv) → Paired (RowR H') (rP ps ws k s' st' c' (wh ++ [0])) rv → Q' (.ref f) H') → spRows C ps ws ce M k [.ref pa, u, .ref wr', .ref vw'] H1 Q' E0 := fun s1 ew hv hst' hs' ho' h7' q' =>
    ⟨pa, _, _, _, _, i, d, _, _, wh ++ [0], rfl, ⟨(R.keep s1).paper, hv, ew⟩, hst', hs', ho', h7', hk', by omega, q'⟩
  cases sc with
  | step x p =>
    obtain ⟨a, rfl, ea⟩ := hs
    obtain ⟨pn, rfl⟩ := nat_of (p := p) (by have := ho.2.1; omega)
    refine ⟨_, rfl, case_yes ea (by show 2 ≤ 1000; decide) rfl ?_⟩
    refine ⟨_, rfl, vw, dxv, _, rfl, hvw, vf_first _ _ _, _, rfl, vw, x, ws, st, c, rfl, R.view, hw, by omega, by omega, ?_⟩
    refine ⟨_, rfl, _, rfl, (hits ws c x st).head?, pn, wr, wh, rfl, R.wher, fun f rv H' s1 hf ef pr => q f rv H' s1 hf ef ?_⟩
    show Paired (RowR H') (match hits ws c x st with
      | [] => []
      | i :: _ => [(i, ((pn : Nat) : Int).toNat, wh)]) rv
    cases e : hits ws c x st with
    | nil => rw [e] at pr; exact pr
    | cons i r => rw [e] at pr; exact pr
  | all ks =>
    obtain ⟨a, b, kv, rfl, ea, eb, pr⟩ := hs
    have hsum : ∀ s ∈ ks, er ce d s ≤ 7 := fun s hs' => by
      have z : (ks.map (er ce d)).sum ≤ 7 := he7
      have := le_sum (l := ks.map (er ce d)) (fun x hx => by
        obtain ⟨s2, hs2, rfl⟩ := List.mem_map.mp hx
        exact er_nonneg (c := ce) (fun j _ hj => h0 j hj) d s2 (ho.2.2 s2 hs2)) _ (List.mem_map_of_mem hs')
      omega
    refine ⟨_, rfl, case_no ea (by show 1 ≤ 1000; decide) (by decide +kernel) (case_yes ea (by show 1 ≤ 1000; decide) rfl ?_)⟩
    refine ⟨_, rfl, _, rfl, _, rfl, _, rfl, pa, wr, vw, b, ks, kv, i, d, st, c, wh, rfl, R, hst, ⟨eb, pr, fun s hs' => ⟨ho.2.2 s hs', hsum s hs'⟩, ho.2.1, hk'⟩, by omega, fun f rv H' s1 hf ef pr' => q f rv H' s1 hf ef pr'⟩
  | best ks =>
    obtain ⟨a, b, kv, rfl, ea, eb, pr⟩ := hs
    have hsum : ∀ s ∈ ks, er ce d s ≤ 7 := fun s hs' => by
      have z : (ks.map (er ce d)).sum ≤ 7 := he7
      have := le_sum (l := ks.map (er ce d)) (fun x hx => by
        obtain ⟨s2, hs2, rfl⟩ := List.mem_map.mp hx
        exact er_nonneg (c := ce) (fun j _ hj => h0 j hj) d s2 (ho.2.2 s2 hs2)) _ (List.mem_map_of_mem hs')
      omega
    refine ⟨_, rfl, case_no ea (by show 1 ≤ 1000; decide) (by decide +kernel) (case_no ea (by show 1 ≤ 1000; decide) (by decide +kernel) (case_yes ea (by show 1 ≤ 1000; decide) rfl ?_))⟩
    refine ⟨_, rfl, _, rfl, _, rfl, _, rfl, pa, wr, vw, b, ks, kv, i, d, st, c, wh, rfl, R, hst, ⟨eb, pr, fun s hs' => ⟨ho.2.2 s hs', hsum s hs'⟩, ho.2.1, hk'⟩, by omega, fun r fv Hr sr hr0 er' EA => ?_⟩
    have hpos : ∀ s ∈ ks, ∀ j, ∀ r ∈ (fun s j => rP ps ws k s st c (wh ++ [j])) s j, 0 < r.2.1 := fun s hs' j r hr => ((rP_good (ws := ws) (fun j s e => (hp j s e).1) k i d s st c (wh ++ [j]) (ho.2.2 s hs')).1 r hr).1
    have hlen : ∀ s ∈ ks, ∀ j, ((fun s j => rP ps ws k s st c (wh ++ [j])) s j).length ≤ 63 := fun s hs' j => rP_len hp h0 (ho.2.2 s hs') (hsum s hs')
    have q : ∀ (f : Addr) (rv : List V) (H' : Hp), Same H H' → H f = none → H' f = some (.lst rv) → Paired (RowR H') (bestR (fun s j => rP ps ws k s st c (wh ++ [j])) ks 0 []) rv → Q (.ref f) H' := q
    generalize (fun s j => rP ps ws k s st c (wh ++ [j])) = F at q EA hpos hlen
    obtain ⟨hfl, hEA⟩ := EA
    have hk0 : 0 < ks.length := ho.1
    refine ⟨r, fv, fun i => ((pts (FF F ks i) : Nat) : Int), rfl, rfl, er', fun x hx => ?_, by omega, fun H' i' x sm ex => ?_, fun x H' sm ex => ?_⟩
    · obtain ⟨j, hj⟩ := List.getElem?_of_mem hx
      have hjl : j < ks.length := by rw [← hfl]; exact (List.getElem?_eq_some_iff.mp hj).1
      obtain ⟨g, rv, e1, _⟩ := hEA j _ (List.getElem?_eq_getElem hjl)
      rw [hj] at e1
      exact ⟨g, Option.some.inj e1⟩
    · have hjl : i' < ks.length := by rw [← hfl]; exact (List.getElem?_eq_some_iff.mp ex).1
      have es := List.getElem?_eq_getElem hjl
      obtain ⟨g, rv, e1, e2, e3, e4⟩ := hEA i' _ es
      rw [ex] at e1
      cases e1
      have l63 := hlen _ (List.getElem_mem hjl) i'
      refine ⟨g, F (ks[i']'hjl) i', rv, rfl, sm _ _ e3, paired_imp e4 fun _ _ h => RowR.keep h (Same.tupK sm), by omega, fun H'' s2 => ⟨?_, s2⟩⟩
      have eFF : FF F ks i' = F (ks[i']'hjl) i' := by unfold FF; rw [es]
      show V.int ((pts (F (ks[i']'hjl) i') : Nat) : Int) = V.int ((pts (FF F ks i') : Nat) : Int)
      rw [eFF]
    · rw [hfl] at ex
      have ha := arg_le (gtB fun i => ((pts (FF F ks i) : Nat) : Int)) (ks.length - 1)
      have hb := best_arg (f := F) hpos (ks.length - 1) (by omega)
      rw [show ks.length - 1 + 1 = ks.length by omega, List.take_length] at hb
      generalize argBest (gtB fun i => ((pts (FF F ks i) : Nat) : Int)) (ks.length - 1) = j at ex ha hb
      have hjl : j < ks.length := by omega
      have es := List.getElem?_eq_getElem hjl
      obtain ⟨g, rv, e1, e2, e3, e4⟩ := hEA j _ es
      rw [ex] at e1
      cases e1
      refine q g rv H' (sr.trans sm) e2 (sm _ _ e3) ?_
      rw [hb]
      unfold FF
      rw [es]
      exact paired_imp e4 fun _ _ h => RowR.keep h (Same.tupK sm)
  | most n s' =>
    obtain ⟨a, u, rfl, ea, hs'⟩ := hs
    obtain ⟨nn, rfl⟩ := nat_of (p := n) ho.1.1
    refine ⟨_, rfl, case_no ea (by show 2 ≤ 1000; decide) (by decide +kernel) (case_no ea (by show 2 ≤ 1000; decide) (by decide +kernel) (case_no ea (by show 2 ≤ 1000; decide) (by decide +kernel) (case_yes ea (by show 2 ≤ 1000; decide) rfl ?_)))⟩
    refine ⟨_, rfl, _, rfl, ?_⟩
    refine cat_at (i := 2) (j := 0) rfl R.wher (by omega) (fun Q q => q) (fun wr' H1 s1 ew => ?_)
    refine ⟨_, rfl, ?_⟩
    dsimp only [tNil]
    refine inner s1 ew (R.view.keep s1) hst (SAt.keep (Same.tupK s1) _ _ _ hs') ho.2 he7 fun f rv H2 s2 hf ef pr => ?_
    have l63 := rP_len (ws := ws) hp h0 (k := k) (st := st) (c := c) (wh := wh ++ [0]) ho.2 he7
    refine ⟨_, rfl, f, nn, _, rv, rfl, ef, pr, by omega, fun f3 rv3 H3 s3 hf3 ef3 pr3 => q f3 rv3 H3 ((s1.trans s2).trans s3) ((s1.trans s2).free hf3) ef3 ?_⟩
    show Paired (RowR H3) (firstP (rP ps ws k s' st c (wh ++ [0])) ((nn : Nat) : Int).toNat) rv3
    rw [Int.toNat_natCast]
    exact pr3
  | half s' =>
    obtain ⟨a, u, rfl, ea, hs'⟩ := hs
    refine ⟨_, rfl, case_no ea (by show 1 ≤ 1000; decide) (by decide +kernel) (case_no ea (by show 1 ≤ 1000; decide) (by decide +kernel) (case_no ea (by show 1 ≤ 1000; decide) (by decide +kernel) (case_no ea (by show 1 ≤ 1000; decide) (by decide +kernel) (case_yes ea (by show 1 ≤ 1000; decide) rfl ?_))))⟩
    refine ⟨_, rfl, _, rfl, ?_⟩
    refine cat_at (i := 2) (j := 0) rfl R.wher (by omega) (fun Q q => q) (fun wr' H1 s1 ew => ?_)
    refine ⟨_, rfl, ?_⟩
    dsimp only [tNil]
    refine inner s1 ew (R.view.keep s1) hst (SAt.keep (Same.tupK s1) _ _ _ hs') ho he7 fun f rv H2 s2 hf ef pr => ?_
    have l63 := rP_len (ws := ws) hp h0 (k := k) (i := i) (d := d) (s := s') (st := st) (c := c) (wh := wh ++ [0]) ho he7
    dsimp only [gName]
    refine ⟨_, rfl, _, rfl, f, _, rv, rfl, ef, pr, by omega, fun H3 s3 => ?_⟩
    refine ⟨_, _, rfl, rfl, ⟨by decide, by decide⟩, ?_⟩
    refine ⟨f, pts (rP ps ws k s' st c (wh ++ [0])) / 2, _, rv, congrArg (fun z => [V.ref f, V.int z]) (show ((pts (rP ps ws k s' st c (wh ++ [0])) : Nat) : Int) / 2 = ((pts (rP ps ws k s' st c (wh ++ [0])) / 2 : Nat) : Int) by omega), s3 _ _ ef, paired_imp pr fun _ _ h => RowR.keep h (Same.tupK s3), by omega, fun f4 rv4 H4 s4 hf4 ef4 pr4 => ?_⟩
    have sm := ((s1.trans s2).trans s3)
    exact q f4 rv4 H4 (sm.trans s4) (sm.free hf4) ef4 pr4
  | seen x s' =>
    obtain ⟨a, u, rfl, ea, hs'⟩ := hs
    refine ⟨_, rfl, case_no ea (by show 2 ≤ 1000; decide) (by decide +kernel) (case_no ea (by show 2 ≤ 1000; decide) (by decide +kernel) (case_no ea (by show 2 ≤ 1000; decide) (by decide +kernel) (case_no ea (by show 2 ≤ 1000; decide) (by decide +kernel) (case_no ea (by show 2 ≤ 1000; decide) (by decide +kernel) (case_yes ea (by show 2 ≤ 1000; decide) rfl ?_)))))⟩
    refine ⟨_, rfl, vw, dxv, _, rfl, hvw, vf_stands _ _ _, _, rfl, vw, x, ws, st, c, rfl, R.view, hw, by omega, fun H0 s0 => ⟨_, rfl, ?_⟩⟩
    have q : ∀ (f : Addr) (rv : List V) (H' : Hp), Same H H' → H f = none → H' f = some (.lst rv) → Paired (RowR H') (if (ws.any fun p => p.1 == x) = true then rP ps ws k s' st c (wh ++ [0]) else []) rv → Q (.ref f) H' := q
    have R0 := R.keep s0
    cases e : ws.any fun p => p.1 == x with
    | true =>
      rw [if_pos e] at q
      refine iteT ⟨_, rfl, _, rfl, ?_⟩
      refine cat_at (i := 2) (j := 0) rfl R0.wher (by omega) (fun Q q => q) (fun wr' H1 s1 ew => ?_)
      have s01 := s0.trans s1
      exact ⟨_, rfl, inner s01 ew (R.view.keep s01) hst (SAt.keep (Same.tupK s01) _ _ _ hs') ho.2 he7 fun f rv H2 s2 hf ef pr => q f rv H2 (s01.trans s2) (s01.free hf) ef pr⟩
    | false =>
      rw [if_neg (by rw [e]; decide)] at q
      exact iteF ⟨Nat.zero_le _, fun f hf => q f [] _ (s0.trans (Same.new hf)) (s0.free hf) upd_same .nil⟩
  | behind x s' =>
    obtain ⟨a, u, rfl, ea, hs'⟩ := hs
    refine ⟨_, rfl, case_no ea (by show 2 ≤ 1000; decide) (by decide +kernel) (case_no ea (by show 2 ≤ 1000; decide) (by decide +kernel) (case_no ea (by show 2 ≤ 1000; decide) (by decide +kernel) (case_no ea (by show 2 ≤ 1000; decide) (by decide +kernel) (case_no ea (by show 2 ≤ 1000; decide) (by decide +kernel) (case_no ea (by show 2 ≤ 1000; decide) (by decide +kernel) (case_yes ea (by show 2 ≤ 1000; decide) rfl ?_))))))⟩
    refine ⟨_, rfl, vw, dxv, _, rfl, hvw, vf_first _ _ _, _, rfl, vw, x, ws, st, c, rfl, R.view, hw, by omega, by omega, ?_⟩
    dsimp only [gName]
    have q : ∀ (f : Addr) (rv : List V) (H' : Hp), Same H H' → H f = none → H' f = some (.lst rv) → Paired (RowR H') (match hits ws c x st with
      | [] => []
      | i :: _ => rP ps ws k s' (i + 1) c (wh ++ [0])) rv → Q (.ref f) H' := q
    cases e : hits ws c x st with
    | nil =>
      rw [e] at q
      refine ⟨_, rfl, rfl, _, rfl, ?_⟩
      exact iteT ⟨Nat.zero_le _, fun f hf => q f [] _ (Same.new hf) hf upd_same .nil⟩
    | cons i0 r =>
      rw [e] at q
      have hin := hits_in e
      refine ⟨_, rfl, rfl, _, rfl, ?_⟩
      refine iteF ⟨_, rfl, _, rfl, ?_⟩
      refine cat_at (i := 2) (j := 0) rfl R.wher (by omega) (fun Q q => q) (fun wr' H1 s1 ew => ?_)
      refine ⟨_, rfl, vw, dxv, _, rfl, s1 _ _ hvw, vf_behind _ _ _, _, rfl, vw, i0, ws, st, c, rfl, R.view.keep s1, fun vw2 H2 s2 hv2 => ?_⟩
      have s12 := s1.trans s2
      exact inner s12 (s2 _ _ ew) hv2 (by omega) (SAt.keep (Same.tupK s12) _ _ _ hs') ho.2 he7 fun f rv H3 s3 hf ef pr => q f rv H3 (s12.trans s3) (s12.free hf) ef pr
  | carry s' =>
    obtain ⟨a, u, rfl, ea, hs'⟩ := hs
    refine ⟨_, rfl, case_no ea (by show 1 ≤ 1000; decide) (by decide +kernel) (case_no ea (by show 1 ≤ 1000; decide) (by decide +kernel) (case_no ea (by show 1 ≤ 1000; decide) (by decide +kernel) (case_no ea (by show 1 ≤ 1000; decide) (by decide +kernel) (case_no ea (by show 1 ≤ 1000; decide) (by decide +kernel) (case_no ea (by show 1 ≤ 1000; decide) (by decide +kernel) (case_no ea (by show 1 ≤ 1000; decide) (by decide +kernel) (case_yes ea (by show 1 ≤ 1000; decide) rfl ?_)))))))⟩
    refine ⟨_, rfl, _, rfl, ?_⟩
    refine cat_at (i := 2) (j := 0) rfl R.wher (by omega) (fun Q q => q) (fun wr' H1 s1 ew => ?_)
    refine ⟨_, rfl, vw, dxv, _, rfl, s1 _ _ hvw, vf_carrying _ _ _, vw, ws, st, c, rfl, R.view.keep s1, fun vw2 H2 s2 hv2 => ?_⟩
    have s12 := s1.trans s2
    exact inner s12 (s2 _ _ ew) hv2 hst (SAt.keep (Same.tupK s12) _ _ _ hs') ho he7 fun f rv H3 s3 hf ef pr => q f rv H3 (s12.trans s3) (s12.free hf) ef pr
  | fin x p s' =>
    obtain ⟨a, u, rfl, ea, hs'⟩ := hs
    obtain ⟨pn, rfl⟩ := nat_of (p := p) (by have := ho.1.2.1; omega)
    have he7' : er ce d s' ≤ 7 := by
      have z : 1 + er ce d s' ≤ 7 := he7
      omega
    refine ⟨_, rfl, case_no ea (by show 3 ≤ 1000; decide) (by decide +kernel) (case_no ea (by show 3 ≤ 1000; decide) (by decide +kernel) (case_no ea (by show 3 ≤ 1000; decide) (by decide +kernel) (case_no ea (by show 3 ≤ 1000; decide) (by decide +kernel) (case_no ea (by show 3 ≤ 1000; decide) (by decide +kernel) (case_no ea (by show 3 ≤ 1000; decide) (by decide +kernel) (case_no ea (by show 3 ≤ 1000; decide) (by decide +kernel) (case_no ea (by show 3 ≤ 1000; decide) (by decide +kernel) (case_yes ea (by show 3 ≤ 1000; decide) rfl ?_))))))))⟩
    refine ⟨_, rfl, vw, dxv, _, rfl, hvw, vf_last _ _ _, _, rfl, vw, x, ws, st, c, rfl, R.view, hw, by omega, ?_⟩
    have q : ∀ (f : Addr) (rv : List V) (H' : Hp), Same H H' → H f = none → H' f = some (.lst rv) → Paired (RowR H') (if lastOk ws c x st = true then [(ws.length - 1, ((pn : Nat) : Int).toNat, wh)] else rP ps ws k s' st c (wh ++ [0])) rv → Q (.ref f) H' := q
    refine ⟨_, rfl, _, rfl, if lastOk ws c x st = true then some (ws.length - 1) else none, pn, wr, wh, rfl, R.wher, fun f rv H1 s1 hf ef pr => ?_⟩
    cases e : lastOk ws c x st with
    | true =>
      rw [if_pos e] at q
      rw [e] at pr
      rw [Int.toNat_natCast] at q
      have pr : Paired (RowR H1) [(ws.length - 1, pn, wh)] rv := pr
      refine ⟨true, .inl ⟨rv, SqL.of ef, ?_⟩, iteT (q f rv H1 s1 hf ef pr)⟩
      cases pr
      rfl
    | false =>
      rw [if_neg (by rw [e]; decide)] at q
      rw [e] at pr
      have pr : Paired (RowR H1) [] rv := pr
      refine ⟨false, .inl ⟨rv, SqL.of ef, by cases pr; rfl⟩, iteF ⟨_, rfl, _, rfl, ?_⟩⟩
      have R1 := R.keep s1
      refine cat_at (i := 2) (j := 0) rfl R1.wher (by omega) (fun Q q => q) (fun wr' H2 s2 ew => ?_)
      have s12 := s1.trans s2
      exact ⟨_, rfl, inner s12 ew (R.view.keep s12) hst (SAt.keep (Same.tupK s12) _ _ _ hs') ho.2 he7' fun f rv H3 s3 hf ef pr => q f rv H3 (s12.trans s3) (s12.free hf) ef pr⟩
  | use n =>
    obtain ⟨a, rfl, ea⟩ := hs
    obtain ⟨pv0, epv, pp⟩ := R.paper
    have nl : n < ps.length := by rw [hM]; exact ho.2
    obtain ⟨v', ev', hs'⟩ := paired_get2 pp (List.getElem?_eq_getElem nl)
    obtain ⟨ho', ec⟩ := hp n _ (List.getElem?_eq_getElem nl)
    have hin : i < n := ho.1
    have hnM : n < M := ho.2
    refine ⟨_, rfl, case_no ea (by show 1 ≤ 1000; decide) (by decide +kernel) (case_no ea (by show 1 ≤ 1000; decide) (by decide +kernel) (case_no ea (by show 1 ≤ 1000; decide) (by decide +kernel) (case_no ea (by show 1 ≤ 1000; decide) (by decide +kernel) (case_no ea (by show 1 ≤ 1000; decide) (by decide +kernel) (case_no ea (by show 1 ≤ 1000; decide) (by decide +kernel) (case_no ea (by show 1 ≤ 1000; decide) (by decide +kernel) (case_no ea (by show 1 ≤ 1000; decide) (by decide +kernel) (case_no ea (by show 1 ≤ 1000; decide) (by decide +kernel) (case_yes ea (by show 1 ≤ 1000; decide) rfl ?_)))))))))⟩
    refine ⟨_, rfl, _, rfl, _, rfl, pa, pv0, _, _, rfl, rfl, SqT.of epv, atI_nat ev', ?_⟩
    refine cat_at (i := 2) (j := 0) rfl R.wher (by omega) (fun Q q => q) (fun wr' H1 s1 ew => ?_)
    have R1 := R.keep s1
    have q : ∀ (f : Addr) (rv : List V) (H' : Hp), Same H H' → H f = none → H' f = some (.lst rv) → Paired (RowR H') (match ps[n]? with
      | none => []
      | some s => rP ps ws k s st c (wh ++ [0])) rv → Q (.ref f) H' := q
    rw [List.getElem?_eq_getElem nl] at q
    exact ⟨_, rfl, pa, wr', vw, v', _, n, 5, st, c, wh ++ [0], rfl, ⟨R1.paper, R1.view, ew⟩, hst, SAt.keep (Same.tupK s1) _ _ _ hs', ho', by rw [← ec]; exact h7 n hnM, by omega, by omega, fun f rv H2 s2 hf ef pr => q f rv H2 (s1.trans s2) (s1.free hf) ef pr⟩
theorem ok_rows_of (hM : ps.length = M) (hw : ∀ p ∈ ws, IsStep p) (hws : ws.length ≤ 12) (hp : ∀ (j : Nat) (s : Sch), ps[j]? = some s → OkS j M 5 s ∧ ce j = er ce 5 s) (h0 : ∀ j, j < M → 0 ≤ ce j) (h7 : ∀ j, j < M → ce j ≤ 7) (T : PTx w K mg) (Y : VCls K mg C) (D : DRows K mg) : ∀ k : Nat, FnOk P w K mg base CX0 (3 * k + 3) D.DR.f D.DR.fd psRows (spRows C ps ws ce M k)
  | 0 => by
    have e : spRows C ps ws ce M 0 = fun _ _ _ _ => False := by
      funext vs H Q E
      refine propext ⟨fun h => ?_, fun h => h.elim⟩
      obtain ⟨pa, wr, vw, v, s, i, d, st, c, wh, _, _, _, _, ho, _, hk, _⟩ := h
      have : d = 0 := by omega
      subst this
      cases ho
    rw [e]
    exact no_sp
  | k + 1 => rows_turn hM hw hws hp h0 h7 T Y D (by omega) (ok_rows_of hM hw hws hp h0 h7 T Y D k)
end
end MS
end
section
set_option maxRecDepth 100000
set_option maxHeartbeats 4000000
namespace MS
open PySem L2
/-! ### what a work earns -/
abbrev PW : Type := { x : List Sch × List StepT // PaperOk x.1 ∧ WorkOk x.2 }
def spRowsBy1 (x : PW) : Sp := fun vs H Q _ => ∃ pa wa, vs = [.ref pa, .ref wa] ∧ PWAt H x.1.1 x.1.2 pa wa ∧ ∀ (f : Addr) (rv : List V) (H' : Hp), Same H H' → H f = none → H' f = some (.lst rv) → Paired (RowR H') (rAll x.1.1 x.1.2) rv → Q (.ref f) H'
def spMarked1 (x : PW) : Sp := fun vs H Q _ => ∃ pa wa, vs = [.ref pa, .ref wa] ∧ PWAt H x.1.1 x.1.2 pa wa ∧ ∀ H', Same H H' → Q (.int ((pts (rAll x.1.1 x.1.2) : Nat) : Int)) H'
section
variable {P : Program} {w : World} {K : PySem.W.Frag} {mg : Str → Option Value} {base : Heap} {C : Addr}
theorem rAll_len (x : PW) : (rAll x.1.1 x.1.2).length ≤ 63 := by
  obtain ⟨⟨ps, ws⟩, hP, hW⟩ := x
  obtain ⟨ce, hp, h0, h7⟩ := hP.facts
  cases ps with
  | nil => exact Nat.zero_le _
  | cons s r =>
    obtain ⟨o, e⟩ := hp 0 s rfl
    exact rP_len hp h0 (k := 30) (st := 0) (c := false) (wh := []) o (by rw [← e]; exact h7 0 hP.1)
theorem ok_rows_by (x : PW) (T : PTx w K mg) (Y : VCls K mg C) (D : DRows K mg) : FnOk P w K mg base CX0 94 D.DB.f D.DB.fd ["paper", "work"] (spRowsBy1 x) := by
  obtain ⟨⟨ps, ws⟩, hP, hW⟩ := x
  have hP : PaperOk ps := hP
  have hW : WorkOk ws := hW
  obtain ⟨ce, hp, h0, h7⟩ := hP.facts
  have GI : FnOk P w K mg base CX0 1 Y.DI.f Y.DI.fd ["self", "steps", "start", "ways"] (spVInit C) := ok_vinit Y
  have G : FnOk P w K mg base CX0 93 D.DR.f D.DR.fd psRows (spRows C ps ws ce ps.length 30) := ok_rows_of rfl hW.1.all hW.2 hp h0 h7 T Y D 30
  obtain ⟨tr, gr⟩ := T.right
  refine D.DB.ok sc_rows_by (fun vs H Q E h => ?_) (fun cdv A outer s H vs Q E hr h => ?_)
  · obtain ⟨pa, wa, rfl, _⟩ := h
    rfl
  obtain ⟨pa, wa, rfl, R, q⟩ := h
  have R : PWAt H ps ws pa wa := R
  have hr2 : Room (1 + 1) _ := hr.mono (by decide)
  refine ⟨_, pss_one (ps_ret (pcall D.DR G hr (pa_cons (pv 0) (pa_cons (pe_ix ix_tup (pv 0) pe_int (fun _ _ => rfl)) (pa_cons (pe_tup pa_nil) (pa_cons (pe_make Y.mk' GI hr2 rfl Y.mgC Y.DI.b .nil pass0 (pa_cons (pv 1) (pa_cons pe_int (pa_cons (pe_tup (pa_cons (pe_glob rfl gr (v := .str "r") ⟨_, rfl⟩) pa_nil)) pa_nil)))) pa_nil)))))), ?_⟩
  obtain ⟨pv0, epv, pp⟩ := R.paper
  have hPl := hP.1
  have hP5 := hP.2.1
  cases ps with
  | nil => exact absurd hPl (by decide)
  | cons s0 pr =>
  obtain ⟨v0, ev0, hs0⟩ := paired_get2 pp (k := 0) rfl
  obtain ⟨o0, e0⟩ := hp 0 s0 rfl
  refine ⟨_, rfl, _, rfl, pa, pv0, 0, v0, rfl, rfl, SqT.of epv, atI_nat (j := 0) ev0, Nat.zero_le _, fun t ht => ?_⟩
  have s1 : Same H (upd H t (.tup [])) := Same.new ht
  refine ⟨_, rfl, (by show 1 ≤ sizeLine; decide), fun t2 ht2 => ?_⟩
  have s2 := s1.trans (Same.new (o := .tup [.str "r"]) ht2)
  have et : upd (upd H t (.tup [])) t2 (.tup [.str "r"]) t = some (.tup []) := Same.new ht2 _ _ upd_same
  intro x dx hx hdx ne
  refine view_made (C := C) (ws := ws) (st := 0) (c := false) (Q := fun v H2 => spRows C (s0 :: pr) ws ce (s0 :: pr).length 30 [.ref pa, v0, .ref t, v] H2 Q E0) (s2 _ _ R.work) upd_same hx hdx ne rfl fun u H' sm hu => ?_
  have s3 := s2.trans sm
  have R3 := R.keep s3
  refine ⟨pa, t, u, v0, s0, 0, 5, 0, false, [], rfl, ⟨R3.paper, hu, sm _ _ et⟩, Nat.zero_le _, SAt.keep (Same.tupK s3) _ _ _ hs0, o0, by rw [← e0]; exact h7 0 hPl, by omega, by decide, fun f rv H4 s4 hf ef pr4 => ?_⟩
  exact q f rv H4 (s3.trans s4) (s3.free hf) ef pr4
theorem ok_earned_p (x : PW) (T : PTx w K mg) (Y : VCls K mg C) (D : DRows K mg) (DP : DPaper K mg) : FnOk P w K mg base CX0 95 D.DN.f D.DN.fd ["paper", "work"] (spRowsBy1 x) := by
  have GC : FnOk P w K mg base CX0 5 DP.DC.f DP.DC.fd ["paper"] spCheckPaper := ok_check_paper T DP
  have GW : FnOk P w K mg base CX0 2 D.DC.f D.DC.fd ["work"] spCheckWork := ok_check_work T D.DC D.DI
  have GB : FnOk P w K mg base CX0 94 D.DB.f D.DB.fd ["paper", "work"] (spRowsBy1 x) := ok_rows_by x T Y D
  refine D.DN.ok sc_earned (fun vs H Q E h => ?_) (fun cdv A outer s H vs Q E hr h => ?_)
  · obtain ⟨pa, wa, rfl, _⟩ := h
    rfl
  obtain ⟨pa, wa, rfl, R, q⟩ := h
  have hr5 : Room 5 _ := hr.mono (by decide)
  have hr2 : Room 2 _ := hr.mono (by decide)
  refine ⟨_, pss_cons (ps_expr (pcall DP.DC GC hr5 (pa_cons (pv 0) pa_nil))) (pss_cons (ps_expr (pcall D.DC GW hr2 (pa_cons (pv 1) pa_nil)))
    (pss_one (ps_ret (pcall D.DB GB hr (pa_cons (pv 0) (pa_cons (pv 1) pa_nil)))))), ?_⟩
  obtain ⟨pv0, epv, pp⟩ := R.paper
  refine ⟨_, rfl, pa, x.1.1, pv0, rfl, epv, pp, x.2.1, fun H1 s1 => ?_⟩
  refine ⟨_, rfl, wa, x.1.2, rfl, s1 _ _ R.work, x.2.2, fun H2 s2 => ?_⟩
  have s12 := s1.trans s2
  exact ⟨_, rfl, _, rfl, pa, wa, rfl, R.keep s12, fun f rv H3 s3 hf ef pr => q f rv H3 (s12.trans s3) (s12.free hf) ef pr⟩
end
end MS
end
section
set_option maxRecDepth 100000
set_option maxHeartbeats 4000000
namespace MS
open PySem L2
/-! ### where steps and ends stand, who may earn -/
def lvP (ps : List Sch) : Nat → Sch → List Nat → List (List Nat)
  | 0, _, _ => []
  | _ + 1, .step _ _, wh => [wh]
  | k + 1, .use n, wh => match ps[n]? with
    | none => []
    | some s => lvP ps k s (wh ++ [0])
  | k + 1, .all ks, wh => allU (fun s j => lvP ps k s (wh ++ [j])) ks 0
  | k + 1, .best ks, wh => allU (fun s j => lvP ps k s (wh ++ [j])) ks 0
  | k + 1, .fin _ _ s, wh => wh :: lvP ps k s (wh ++ [0])
  | k + 1, .most _ s, wh => lvP ps k s (wh ++ [0])
  | k + 1, .half s, wh => lvP ps k s (wh ++ [0])
  | k + 1, .seen _ s, wh => lvP ps k s (wh ++ [0])
  | k + 1, .behind _ s, wh => lvP ps k s (wh ++ [0])
  | k + 1, .carry s, wh => lvP ps k s (wh ++ [0])
def whs (rs : List Row) : List (List Nat) := rs.map fun r => r.2.2
theorem whs_app (a b : List Row) : whs (a ++ b) = whs a ++ whs b := by
  unfold whs
  rw [List.map_append]
theorem sub_all {f : Sch → Nat → List Row} {g : Sch → Nat → List (List Nat)} : ∀ (ks : List Sch) (j : Nat), (∀ s ∈ ks, ∀ j, (whs (f s j)).Sublist (g s j)) → (whs (allU f ks j)).Sublist (allU g ks j)
  | [], _, _ => List.Sublist.slnil
  | s :: r, j, h => by
    show (whs (f s j ++ allU f r (j + 1))).Sublist (g s j ++ allU g r (j + 1))
    rw [whs_app]
    exact (h s List.mem_cons_self j).append (sub_all r (j + 1) fun s hs => h s (List.mem_cons_of_mem _ hs))
theorem sub_best {f : Sch → Nat → List Row} {g : Sch → Nat → List (List Nat)} : ∀ (ks : List Sch) (j : Nat) (acc : List Row) (L : List (List Nat)), (∀ s ∈ ks, ∀ j, (whs (f s j)).Sublist (g s j)) → (whs acc).Sublist L → (whs (bestR f ks j acc)).Sublist (L ++ allU g ks j)
  | [], _, acc, L, _, h => h.trans (List.sublist_append_left _ _)
  | s :: r, j, acc, L, h, hL => by
    have := sub_best r (j + 1) (if pts acc < pts (f s j) then f s j else acc) (L ++ g s j) (fun s hs => h s (List.mem_cons_of_mem _ hs)) (by
      split
      · exact (h s List.mem_cons_self j).trans (List.sublist_append_right _ _)
      · exact hL.trans (List.sublist_append_left _ _))
    rw [List.append_assoc] at this
    exact this
theorem rP_sub {ps : List Sch} {ws : List StepT} : ∀ (k : Nat) (s : Sch) (st : Nat) (c : Bool) (wh : List Nat), (whs (rP ps ws k s st c wh)).Sublist (lvP ps k s wh)
  | 0, _, _, _, _ => List.Sublist.slnil
  | k + 1, .step x p, st, c, wh => by
    unfold rP lvP
    split
    · exact List.nil_sublist _
    · exact List.Sublist.refl _
  | k + 1, .behind x s, st, c, wh => by
    unfold rP lvP
    split
    · exact List.nil_sublist _
    · exact rP_sub k s _ c _
  | k + 1, .use n, st, c, wh => by
    unfold rP lvP
    cases ps[n]? with
    | none => exact List.Sublist.refl _
    | some s => exact rP_sub k s st c _
  | k + 1, .all ks, st, c, wh => sub_all ks 0 fun s _ j => rP_sub k s st c _
  | k + 1, .best ks, st, c, wh => by
    have := sub_best (f := fun s j => rP ps ws k s st c (wh ++ [j])) (g := fun s j => lvP ps k s (wh ++ [j])) ks 0 [] [] (fun s _ j => rP_sub k s st c _) List.Sublist.slnil
    exact this
  | k + 1, .fin x p s, st, c, wh => by
    unfold rP lvP
    split
    · exact List.Sublist.cons_cons _ (List.nil_sublist _)
    · exact (rP_sub k s st c _).cons _
  | k + 1, .seen x s, st, c, wh => by
    unfold rP lvP
    split
    · exact rP_sub k s st c _
    · exact List.nil_sublist _
  | k + 1, .most n s, st, c, wh => (first_sub _ _).trans (rP_sub k s st c _)
  | k + 1, .half s, st, c, wh => (first_sub _ _).trans (rP_sub k s st c _)
  | k + 1, .carry s, st, c, wh => rP_sub k s st true _
/-- each behind its own place, no place twice -/
def LvOk (wh : List Nat) (l : List (List Nat)) : Prop := (∀ x ∈ l, wh <+: x) ∧ l.Nodup
theorem LvOk.up {wh : List Nat} {j : Nat} {l : List (List Nat)} (h : LvOk (wh ++ [j]) l) : LvOk wh l := ⟨fun x hx => (List.prefix_append _ _).trans (h.1 x hx), h.2⟩
theorem LvOk.nil (wh : List Nat) : LvOk wh [] := ⟨(fun _ h => nomatch h), List.nodup_nil⟩
theorem lv_all {wh : List Nat} {f : Sch → Nat → List (List Nat)} : ∀ (ks : List Sch) (j : Nat), (∀ s ∈ ks, ∀ j, LvOk (wh ++ [j]) (f s j)) → (∀ x ∈ allU f ks j, ∃ j', j ≤ j' ∧ wh ++ [j'] <+: x) ∧ (allU f ks j).Nodup
  | [], _, _ => ⟨(fun _ h => nomatch h), List.nodup_nil⟩
  | s :: t, j, h => by
    obtain ⟨a1, a2⟩ := lv_all t (j + 1) fun s hs => h s (List.mem_cons_of_mem _ hs)
    have g := h s List.mem_cons_self j
    show (∀ x ∈ f s j ++ allU f t (j + 1), _) ∧ (f s j ++ allU f t (j + 1)).Nodup
    refine ⟨fun x hx => ?_, List.nodup_append.mpr ⟨g.2, a2, fun x hx y hy e => ?_⟩⟩
    · rcases List.mem_append.mp hx with hx | hx
      · exact ⟨j, Nat.le_refl _, g.1 x hx⟩
      · obtain ⟨j', h1, h2⟩ := a1 x hx
        exact ⟨j', by omega, h2⟩
    · subst e
      obtain ⟨j', h1, h2⟩ := a1 x hy
      have := pre_eq (g.1 x hx) h2
      omega
theorem lv_ok {ps : List Sch} : ∀ (k : Nat) (s : Sch) (wh : List Nat), LvOk wh (lvP ps k s wh)
  | 0, _, _ => LvOk.nil _
  | k + 1, .step x p, wh => ⟨fun x hx => by rw [List.mem_singleton.mp hx]; exact List.prefix_refl _, by show [wh].Nodup; simp⟩
  | k + 1, .behind x s, wh => (lv_ok k s _).up
  | k + 1, .use n, wh => by
    unfold lvP
    cases ps[n]? with
    | none => exact LvOk.nil _
    | some s => exact (lv_ok k s _).up
  | k + 1, .all ks, wh => by
    obtain ⟨a1, a2⟩ := lv_all (wh := wh) (f := fun s j => lvP ps k s (wh ++ [j])) ks 0 fun s _ j => lv_ok k s _
    exact ⟨fun x hx => by
      obtain ⟨j', _, h⟩ := a1 x hx
      exact (List.prefix_append _ _).trans h, a2⟩
  | k + 1, .best ks, wh => by
    obtain ⟨a1, a2⟩ := lv_all (wh := wh) (f := fun s j => lvP ps k s (wh ++ [j])) ks 0 fun s _ j => lv_ok k s _
    exact ⟨fun x hx => by
      obtain ⟨j', _, h⟩ := a1 x hx
      exact (List.prefix_append _ _).trans h, a2⟩
  | k + 1, .fin x p s, wh => by
    have g := lv_ok (ps := ps) k s (wh ++ [0])
    refine ⟨fun x hx => ?_, List.nodup_cons.mpr ⟨fun h => ?_, g.2⟩⟩
    · rcases List.mem_cons.mp hx with rfl | hx
      · exact List.prefix_refl _
      · exact g.up.1 x hx
    · have := (g.1 _ h).length_le
      rw [List.length_append, List.length_singleton] at this
      omega
  | k + 1, .seen x s, wh => (lv_ok k s _).up
  | k + 1, .most n s, wh => (lv_ok k s _).up
  | k + 1, .half s, wh => (lv_ok k s _).up
  | k + 1, .carry s, wh => (lv_ok k s _).up
theorem allU_len1 {α : Type} {f : Sch → Nat → List α} {g : Sch → Int} : ∀ (ks : List Sch) (j : Nat), (∀ s ∈ ks, ∀ j, ((f s j).length : Int) ≤ g s) → ((allU f ks j).length : Int) ≤ (ks.map g).sum
  | [], _, _ => Int.le_refl _
  | s :: r, j, h => by
    show (((f s j) ++ allU f r (j + 1)).length : Int) ≤ _
    rw [List.map_cons, List.sum_cons, List.length_append]
    have := h s List.mem_cons_self j
    have := allU_len1 r (j + 1) fun s hs => h s (List.mem_cons_of_mem _ hs)
    omega
theorem lv_len {ps : List Sch} {ce : Nat → Int} {M : Nat} (hp : ∀ (j : Nat) (s : Sch), ps[j]? = some s → OkS j M 5 s ∧ ce j = er ce 5 s) (h0 : ∀ j, j < M → 0 ≤ ce j) :
    ∀ (k : Nat) (i d : Nat) (s : Sch) (wh : List Nat), OkS i M d s → ((lvP ps k s wh).length : Int) ≤ er ce d s
  | 0, i, d, s, wh, o => er_nonneg (c := ce) (fun j _ hj => h0 j hj) d s o
  | k + 1, i, 0, s, wh, o => by cases o
  | k + 1, i, d + 1, .step x p, wh, o => by show (1 : Int) ≤ 1; decide
  | k + 1, i, d + 1, .behind x s, wh, o => lv_len hp h0 k i d s _ o.2
  | k + 1, i, d + 1, .use n, wh, o => by
    show ((match ps[n]? with
      | none => []
      | some s => lvP ps k s (wh ++ [0])).length : Int) ≤ ce n
    have := h0 n o.2
    split
    · show (0 : Int) ≤ _
      omega
    · rename_i s e
      obtain ⟨o', e'⟩ := hp n s e
      rw [e']
      exact lv_len hp h0 k n 5 s _ o'
  | k + 1, i, d + 1, .all ks, wh, o => allU_len1 ks 0 fun s hs j => lv_len hp h0 k i d s _ (o.2.2 s hs)
  | k + 1, i, d + 1, .best ks, wh, o => allU_len1 ks 0 fun s hs j => lv_len hp h0 k i d s _ (o.2.2 s hs)
  | k + 1, i, d + 1, .fin x p s, wh, o => by
    have := lv_len hp h0 k i d s (wh ++ [0]) o.2
    show (((wh :: lvP ps k s (wh ++ [0])).length : Nat) : Int) ≤ 1 + er ce d s
    rw [List.length_cons]
    omega
  | k + 1, i, d + 1, .seen x s, wh, o => lv_len hp h0 k i d s _ o.2
  | k + 1, i, d + 1, .most n s, wh, o => lv_len hp h0 k i d s _ o.2
  | k + 1, i, d + 1, .half s, wh, o => lv_len hp h0 k i d s _ o
  | k + 1, i, d + 1, .carry s, wh, o => lv_len hp h0 k i d s _ o
theorem mem_allI {α : Type} {f : Sch → Nat → List α} {r : α} : ∀ (ks : List Sch) (j : Nat), r ∈ allU f ks j → ∃ q s, ks[q]? = some s ∧ r ∈ f s (j + q)
  | [], _, h => by cases h
  | s :: t, j, h => by
    have h : r ∈ f s j ++ allU f t (j + 1) := h
    rcases List.mem_append.mp h with h | h
    · exact ⟨0, s, rfl, h⟩
    · obtain ⟨q, s', h1, h2⟩ := mem_allI t (j + 1) h
      exact ⟨q + 1, s', by rw [List.getElem?_cons_succ]; exact h1, by rw [show j + (q + 1) = j + 1 + q by omega]; exact h2⟩
theorem lv_wlen {ps : List Sch} : ∀ (k : Nat) (s : Sch) (wh : List Nat), ∀ x ∈ lvP ps k s wh, x.length ≤ wh.length + k
  | 0, _, _ => fun _ h => nomatch h
  | k + 1, .step _ p, wh => fun x h => by
    rw [List.mem_singleton.mp h]
    omega
  | k + 1, .behind _ s, wh => fun x h => by
    have := lv_wlen k s _ x h
    rw [List.length_append, List.length_singleton] at this
    omega
  | k + 1, .use n, wh => fun x h => by
    unfold lvP at h
    split at h
    · cases h
    · have := lv_wlen k _ _ x h
      rw [List.length_append, List.length_singleton] at this
      omega
  | k + 1, .all ks, wh => fun x h => by
    obtain ⟨q, s, _, h⟩ := mem_allI (f := fun s j => lvP ps k s (wh ++ [j])) ks 0 h
    have := lv_wlen k s _ x h
    rw [List.length_append, List.length_singleton] at this
    omega
  | k + 1, .best ks, wh => fun x h => by
    obtain ⟨q, s, _, h⟩ := mem_allI (f := fun s j => lvP ps k s (wh ++ [j])) ks 0 h
    have := lv_wlen k s _ x h
    rw [List.length_append, List.length_singleton] at this
    omega
  | k + 1, .fin _ p s, wh => fun x h => by
    rcases List.mem_cons.mp h with rfl | h
    · omega
    · have := lv_wlen k s _ x h
      rw [List.length_append, List.length_singleton] at this
      omega
  | k + 1, .seen _ s, wh => fun x h => by
    have := lv_wlen k s _ x h
    rw [List.length_append, List.length_singleton] at this
    omega
  | k + 1, .most n s, wh => fun x h => by
    have := lv_wlen k s _ x h
    rw [List.length_append, List.length_singleton] at this
    omega
  | k + 1, .half s, wh => fun x h => by
    have := lv_wlen k s _ x h
    rw [List.length_append, List.length_singleton] at this
    omega
  | k + 1, .carry s, wh => fun x h => by
    have := lv_wlen k s _ x h
    rw [List.length_append, List.length_singleton] at this
    omega
/-- what stands behind these places may earn so many points by the step i -/
inductive Goes (ps : List Sch) (ws : List StepT) (i n : Nat) : Sch → Nat → Bool → List Nat → Prop
  | step {x : Str} {p : Int} {st : Nat} {c : Bool} {q : StepT} (h1 : st ≤ i) (h2 : ws[i]? = some q) (h3 : okAt c x q = true) (h4 : 1 ≤ n) (h5 : (n : Int) ≤ p) : Goes ps ws i n (.step x p) st c []
  | here {x : Str} {p : Int} {s : Sch} {st : Nat} {c : Bool} {q : StepT} (h0 : i + 1 = ws.length) (h1 : st ≤ i) (h2 : ws[i]? = some q) (h3 : okAt c x q = true) (h4 : 1 ≤ n) (h5 : (n : Int) ≤ p) : Goes ps ws i n (.fin x p s) st c []
  | fin {x : Str} {p : Int} {s : Sch} {st : Nat} {c : Bool} {r : List Nat} (h : Goes ps ws i n s st c r) : Goes ps ws i n (.fin x p s) st c (0 :: r)
  | behind {x : Str} {s : Sch} {st : Nat} {c : Bool} {r : List Nat} {j : Nat} {t : List Nat} (hh : hits ws c x st = j :: t) (h : Goes ps ws i n s (j + 1) c r) : Goes ps ws i n (.behind x s) st c (0 :: r)
  | use {m : Nat} {s : Sch} {st : Nat} {c : Bool} {r : List Nat} (e : ps[m]? = some s) (h : Goes ps ws i n s st c r) : Goes ps ws i n (.use m) st c (0 :: r)
  | all {ks : List Sch} {s : Sch} {st : Nat} {c : Bool} {j : Nat} {r : List Nat} (e : ks[j]? = some s) (h : Goes ps ws i n s st c r) : Goes ps ws i n (.all ks) st c (j :: r)
  | best {ks : List Sch} {s : Sch} {st : Nat} {c : Bool} {j : Nat} {r : List Nat} (e : ks[j]? = some s) (h : Goes ps ws i n s st c r) : Goes ps ws i n (.best ks) st c (j :: r)
  | seen {x : Str} {s : Sch} {st : Nat} {c : Bool} {r : List Nat} (e : (ws.any fun p => p.1 == x) = true) (h : Goes ps ws i n s st c r) : Goes ps ws i n (.seen x s) st c (0 :: r)
  | most {m : Int} {s : Sch} {st : Nat} {c : Bool} {r : List Nat} (e : (n : Int) ≤ m) (h : Goes ps ws i n s st c r) : Goes ps ws i n (.most m s) st c (0 :: r)
  | half {s : Sch} {st : Nat} {c : Bool} {r : List Nat} (h : Goes ps ws i n s st c r) : Goes ps ws i n (.half s) st c (0 :: r)
  | carry {s : Sch} {st : Nat} {c : Bool} {r : List Nat} (h : Goes ps ws i n s st true r) : Goes ps ws i n (.carry s) st c (0 :: r)
theorem Goes.less {ps : List Sch} {ws : List StepT} {i n m : Nat} (h1 : 1 ≤ m) (h2 : m ≤ n) {s : Sch} {st : Nat} {c : Bool} {r : List Nat} (h : Goes ps ws i n s st c r) : Goes ps ws i m s st c r := by
  induction h with
  | step a1 a2 a3 a4 a5 => exact .step a1 a2 a3 h1 (by omega)
  | here a0 a1 a2 a3 a4 a5 => exact .here a0 a1 a2 a3 h1 (by omega)
  | fin _ ih => exact .fin ih
  | behind hh _ ih => exact .behind hh ih
  | use e _ ih => exact .use e ih
  | all e _ ih => exact .all e ih
  | best e _ ih => exact .best e ih
  | seen e _ ih => exact .seen e ih
  | most e _ ih => exact .most (by omega) ih
  | half _ ih => exact .half ih
  | carry _ ih => exact .carry ih
theorem mem_bestI {f : Sch → Nat → List Row} {r : Row} : ∀ (ks : List Sch) (j : Nat) (acc : List Row), r ∈ bestR f ks j acc → r ∈ acc ∨ ∃ q s, ks[q]? = some s ∧ r ∈ f s (j + q)
  | [], _, _, h => .inl h
  | s :: t, j, acc, h => by
    have h : r ∈ bestR f t (j + 1) (if pts acc < pts (f s j) then f s j else acc) := h
    rcases mem_bestI t (j + 1) _ h with h | ⟨q, s', h1, h2⟩
    · by_cases c : pts acc < pts (f s j)
      · rw [if_pos c] at h
        exact .inr ⟨0, s, rfl, h⟩
      · rw [if_neg c] at h
        exact .inl h
    · exact .inr ⟨q + 1, s', by rw [List.getElem?_cons_succ]; exact h1, by rw [show j + (q + 1) = j + 1 + q by omega]; exact h2⟩
theorem first_less : ∀ (rs : List Row) (n : Nat) (r : Row), r ∈ firstP rs n → (∀ r ∈ rs, 0 < r.2.1) → ∃ r' ∈ rs, r'.1 = r.1 ∧ r'.2.2 = r.2.2 ∧ 1 ≤ r.2.1 ∧ r.2.1 ≤ r'.2.1 ∧ r.2.1 ≤ n
  | [], _, _, h, _ => by cases h
  | (i, m, w) :: t, n, r, h, hp => by
    unfold firstP at h
    by_cases hn : n = 0
    · rw [if_pos hn] at h
      cases h
    · rw [if_neg hn] at h
      rcases List.mem_cons.mp h with rfl | h
      · have : 0 < m := hp _ List.mem_cons_self
        exact ⟨_, List.mem_cons_self, rfl, rfl, by show 1 ≤ min m n; omega, by show min m n ≤ m; omega, by show min m n ≤ n; omega⟩
      · obtain ⟨r', h1, h2, h3, h4, h5, h6⟩ := first_less t _ r h fun r hr => hp r (List.mem_cons_of_mem _ hr)
        exact ⟨r', List.mem_cons_of_mem _ h1, h2, h3, h4, h5, by omega⟩
theorem hits_at {ws : List StepT} {c : Bool} {x : Str} {st i : Nat} {r : List Nat} (h : hits ws c x st = i :: r) : st ≤ i ∧ ∃ q, ws[i]? = some q ∧ okAt c x q = true := by
  have m : i ∈ hits ws c x st := by rw [h]; exact List.mem_cons_self
  obtain ⟨m1, m2⟩ := List.mem_filter.mp m
  have z := List.mem_range'_1.mp m1
  refine ⟨z.1, ?_⟩
  revert m2
  cases ws[i]? with
  | none => intro z; cases z
  | some q => exact fun z => ⟨q, rfl, z⟩
theorem rP_goes {ps : List Sch} {ws : List StepT} {M : Nat} (hp : ∀ (j : Nat) (s : Sch), ps[j]? = some s → OkS j M 5 s) : ∀ (k : Nat) (i d : Nat) (s : Sch) (st : Nat) (c : Bool) (wh : List Nat), OkS i M d s → ∀ r ∈ rP ps ws k s st c wh, ∃ t, r.2.2 = wh ++ t ∧ Goes ps ws r.1 r.2.1 s st c t
  | 0, _, _, _, _, _, _, _ => fun _ h => nomatch h
  | k + 1, i, 0, s, st, c, wh, o => by cases o
  | k + 1, i, d + 1, .step x p, st, c, wh, o => fun r h => by
    unfold rP at h
    have := o.2.1
    split at h
    · cases h
    · rename_i j t e
      rw [List.mem_singleton.mp h]
      obtain ⟨h1, q, h2, h3⟩ := hits_at e
      exact ⟨[], (List.append_nil _).symm, .step h1 h2 h3 (by show 1 ≤ p.toNat; omega) (by show ((p.toNat : Nat) : Int) ≤ p; omega)⟩
  | k + 1, i, d + 1, .behind x s, st, c, wh, o => fun r h => by
    unfold rP at h
    split at h
    · cases h
    · rename_i j t e
      obtain ⟨u, h1, h2⟩ := rP_goes hp k i d s _ c _ o.2 r h
      exact ⟨0 :: u, by rw [h1, List.append_assoc]; rfl, .behind e h2⟩
  | k + 1, i, d + 1, .use n, st, c, wh, o => fun r h => by
    unfold rP at h
    split at h
    · cases h
    · rename_i s e
      obtain ⟨u, h1, h2⟩ := rP_goes hp k n 5 s st c _ (hp n s e) r h
      exact ⟨0 :: u, by rw [h1, List.append_assoc]; rfl, .use e h2⟩
  | k + 1, i, d + 1, .all ks, st, c, wh, o => fun r h => by
    obtain ⟨q, s, e, h⟩ := mem_allI (f := fun s j => rP ps ws k s st c (wh ++ [j])) ks 0 h
    rw [Nat.zero_add] at h
    obtain ⟨u, h1, h2⟩ := rP_goes hp k i d s st c _ (o.2.2 s (List.mem_of_getElem? e)) r h
    exact ⟨q :: u, by rw [h1, List.append_assoc]; rfl, .all e h2⟩
  | k + 1, i, d + 1, .best ks, st, c, wh, o => fun r h => by
    rcases mem_bestI (f := fun s j => rP ps ws k s st c (wh ++ [j])) ks 0 [] h with h | ⟨q, s, e, h⟩
    · cases h
    · rw [Nat.zero_add] at h
      obtain ⟨u, h1, h2⟩ := rP_goes hp k i d s st c _ (o.2.2 s (List.mem_of_getElem? e)) r h
      exact ⟨q :: u, by rw [h1, List.append_assoc]; rfl, .best e h2⟩
  | k + 1, i, d + 1, .fin x p s, st, c, wh, o => fun r h => by
    unfold rP at h
    have := o.1.2.1
    split at h
    · rename_i hl
      unfold lastOk at hl
      rw [Bool.and_eq_true] at hl
      have hlt := of_decide_eq_true hl.1
      have hg := last_get (ws := ws) (by omega)
      have hq : okAt c x (ws[ws.length - 1]'(by omega)) = true := by
        have := hl.2
        rw [hg] at this
        exact this
      rw [List.mem_singleton.mp h]
      refine ⟨[], (List.append_nil _).symm, .here ?_ ?_ (List.getElem?_eq_getElem (by omega)) hq (by show 1 ≤ p.toNat; omega) (by show ((p.toNat : Nat) : Int) ≤ p; omega)⟩
      · show ws.length - 1 + 1 = _
        omega
      · show st ≤ ws.length - 1
        omega
    · obtain ⟨u, h1, h2⟩ := rP_goes hp k i d s st c _ o.2 r h
      exact ⟨0 :: u, by rw [h1, List.append_assoc]; rfl, .fin h2⟩
  | k + 1, i, d + 1, .seen x s, st, c, wh, o => fun r h => by
    unfold rP at h
    split at h
    · rename_i e
      obtain ⟨u, h1, h2⟩ := rP_goes hp k i d s st c _ o.2 r h
      exact ⟨0 :: u, by rw [h1, List.append_assoc]; rfl, .seen e h2⟩
    · cases h
  | k + 1, i, d + 1, .most n s, st, c, wh, o => fun r h => by
    have h : r ∈ firstP (rP ps ws k s st c (wh ++ [0])) n.toNat := h
    obtain ⟨r', m1, e1, e2, e3, e4, e5⟩ := first_less _ _ r h fun r hr => ((rP_good hp k i d s st c _ o.2).1 r hr).1
    obtain ⟨u, h1, h2⟩ := rP_goes hp k i d s st c _ o.2 r' m1
    rw [e1] at h2
    have := o.1.1
    exact ⟨0 :: u, by rw [← e2, h1, List.append_assoc]; rfl, .most (by omega) (h2.less e3 e4)⟩
  | k + 1, i, d + 1, .half s, st, c, wh, o => fun r h => by
    have h : r ∈ firstP (rP ps ws k s st c (wh ++ [0])) (pts (rP ps ws k s st c (wh ++ [0])) / 2) := h
    obtain ⟨r', m1, e1, e2, e3, e4, e5⟩ := first_less _ _ r h fun r hr => ((rP_good hp k i d s st c _ o).1 r hr).1
    obtain ⟨u, h1, h2⟩ := rP_goes hp k i d s st c _ o r' m1
    rw [e1] at h2
    exact ⟨0 :: u, by rw [← e2, h1, List.append_assoc]; rfl, .half (h2.less e3 e4)⟩
  | k + 1, i, d + 1, .carry s, st, c, wh, o => fun r h => by
    obtain ⟨u, h1, h2⟩ := rP_goes hp k i d s st true _ o r h
    exact ⟨0 :: u, by rw [h1, List.append_assoc]; rfl, .carry h2⟩
/-- all places of a paper's first scheme -/
def lvAll (ps : List Sch) : List (List Nat) := match ps with
  | [] => []
  | s :: _ => lvP ps 30 s []
theorem rAll_sub (ps : List Sch) (ws : List StepT) : (whs (rAll ps ws)).Sublist (lvAll ps) := by
  cases ps with
  | nil => exact List.Sublist.slnil
  | cons s r => exact rP_sub 30 s 0 false []
theorem lvAll_nodup (ps : List Sch) : (lvAll ps).Nodup := by
  cases ps with
  | nil => exact List.nodup_nil
  | cons s r => exact (lv_ok 30 s []).2
theorem lvAll_len {ps : List Sch} (h : PaperOk ps) : (lvAll ps).length ≤ 7 := by
  obtain ⟨ce, hp, h0, h7⟩ := h.facts
  have hl := h.1
  cases ps with
  | nil => exact Nat.zero_le _
  | cons s r =>
    obtain ⟨o, e⟩ := hp 0 s rfl
    have := lv_len hp h0 30 0 5 s [] o
    have := h7 0 hl
    show (lvP (s :: r) 30 s []).length ≤ 7
    omega
theorem lvAll_wlen (ps : List Sch) : ∀ x ∈ lvAll ps, x.length ≤ 30 := by
  cases ps with
  | nil => exact fun _ h => nomatch h
  | cons s t =>
    intro x h
    have := lv_wlen 30 s [] x h
    simpa using this
/-- the places of a sublist rise -/
theorem idx_rise {α : Type} [BEq α] [LawfulBEq α] : ∀ {l m : List α}, l.Sublist m → m.Nodup → (l.map fun x => m.idxOf x).Pairwise (· < ·)
  | _, _, .slnil, _ => List.Pairwise.nil
  | l, b :: m, .cons _ h, hn => by
    have ih := idx_rise h (List.nodup_cons.mp hn).2
    have nb := (List.nodup_cons.mp hn).1
    rw [List.pairwise_map] at ih ⊢
    refine List.Pairwise.imp_of_mem (fun {x y} hx hy hxy => ?_) ih
    have e : ∀ z ∈ l, (b :: m).idxOf z = m.idxOf z + 1 := fun z hz => by
      have : b ≠ z := fun e => nb (e ▸ h.subset hz)
      rw [List.idxOf_cons, show (b == z) = false from beq_false_of_ne this]
      rfl
    rw [e x hx, e y hy]
    omega
  | _ :: l, b :: m, .cons_cons _ h, hn => by
    have ih := idx_rise h (List.nodup_cons.mp hn).2
    have nb := (List.nodup_cons.mp hn).1
    have e : ∀ z ∈ l, (b :: m).idxOf z = m.idxOf z + 1 := fun z hz => by
      have : b ≠ z := fun e => nb (e ▸ h.subset hz)
      rw [List.idxOf_cons, show (b == z) = false from beq_false_of_ne this]
      rfl
    rw [List.map_cons, List.pairwise_cons]
    refine ⟨fun y hy => ?_, ?_⟩
    · obtain ⟨z, hz, rfl⟩ := List.mem_map.mp hy
      rw [List.idxOf_cons_self, e z hz]
      omega
    · rw [List.pairwise_map] at ih ⊢
      refine List.Pairwise.imp_of_mem (fun {x y} hx hy hxy => ?_) ih
      rw [e x hx, e y hy]
      omega
end MS
end
section
set_option maxRecDepth 100000
set_option maxHeartbeats 4000000
namespace MS
open PySem L2
/-! ### the law's own places of steps and ends -/
abbrev s_L_leaves : Stmt := topS 52
/-- slots: 0 paper, 1 scheme, 2 where, 3 found, 4 kids, 5 k -/
theorem sc_L_leaves : FnScope ["_law_paper_here", "_law_scheme_here", "_law_where", "_law_found", "_law_kids", "_law_k"] ["_law_paper_here", "_law_scheme_here", "_law_where"] (defScope s_L_leaves) := ⟨rfl, rfl, rfl, by decide +kernel, rfl, by decide +kernel, by decide +kernel⟩
abbrev psLeaves : List Str := ["_law_paper_here", "_law_scheme_here", "_law_where"]
def WhR (H : Hp) (x : List Nat) (v : V) : Prop := ∃ b, v = V.ref b ∧ H b = some (.tup (natV x))
theorem WhR.keep {H H' : Hp} {x : List Nat} {v : V} (h : WhR H x v) (k : TupK H H') : WhR H' x v := by
  obtain ⟨b, e, h1⟩ := h
  exact ⟨b, e, k _ _ h1⟩
theorem allU_app {α : Type} (f : Sch → Nat → List α) : ∀ (l r : List Sch) (j : Nat), allU f (l ++ r) j = allU f l j ++ allU f r (j + l.length)
  | [], r, j => rfl
  | a :: l, r, j => by
    show f a j ++ allU f (l ++ r) (j + 1) = (f a j ++ allU f l (j + 1)) ++ allU f r (j + (l.length + 1))
    rw [allU_app f l r (j + 1), List.append_assoc, show j + 1 + l.length = j + (l.length + 1) by omega]
theorem allU_cut {α : Type} {f : Sch → Nat → List α} {ks : List Sch} {q : Nat} {s : Sch} (e : ks[q]? = some s) : allU f (ks.take (q + 1)) 0 = allU f (ks.take q) 0 ++ f s q ∧ (allU f (ks.take q) 0).length + (f s q).length ≤ (allU f ks 0).length := by
  have hq := (List.getElem?_eq_some_iff.mp e).1
  have tk : ks.take (q + 1) = ks.take q ++ [s] := by
    rw [List.take_succ, e]
    rfl
  have lt : (ks.take q).length = q := by rw [List.length_take]; omega
  have e1 : allU f (ks.take (q + 1)) 0 = allU f (ks.take q) 0 ++ f s q := by
    rw [tk, allU_snoc, lt, Nat.zero_add]
  refine ⟨e1, ?_⟩
  have e2 := allU_app f (ks.take (q + 1)) (ks.drop (q + 1)) 0
  rw [List.take_append_drop] at e2
  rw [e2, e1, List.length_append, List.length_append]
  omega
structure LV (H : Hp) (i M d : Nat) (ps : List Sch) (k : Nat) (sc : Sch) (nm : Str) (rest : List V) (wh : List Nat) (ks : List Sch) (kv : List V) : Prop where
  ns : (nm == "step") = false
  nu : (nm == "use") = false
  eq : lvP ps (k + 1) sc wh = (if (nm == "end") = true then [wh] else []) ++ allU (fun s j => lvP ps k s (wh ++ [j])) ks 0
  kl : ks.length ≤ 4
  ok : ∀ s ∈ ks, OkS i M d s
  at_ : Paired (SAt H d) ks kv
  k2 : inV (.str nm) [.str "all", .str "best"] = true → ∃ b, atI (.str nm :: rest) 1 = some (.ref b) ∧ H b = some (.tup kv)
  k1 : inV (.str nm) [.str "all", .str "best"] = false → ∃ u, atI (.str nm :: rest) (-1) = some u ∧ kv = [u]
theorem SKind.leaves {H : Hp} {i M d : Nat} {ps : List Sch} {k : Nat} {sc : Sch} {nm : Str} {rest : List V} (h : SKind H i M d sc nm rest) (wh : List Nat) : (∃ x p, sc = .step x p ∧ nm = "step") ∨ (∃ n : Nat, rest = [.int ((n : Nat) : Int)] ∧ sc = .use n ∧ nm = "use" ∧ i < n ∧ n < M) ∨ ∃ ks kv, LV H i M d ps k sc nm rest wh ks kv := by
  cases h with
  | @step x p hx _ _ => exact .inl ⟨x, p, rfl, rfl⟩
  | @behind x s u hx hs ho => exact .inr (.inr ⟨[s], [u], by decide +kernel, by decide +kernel, by rw [if_neg (by decide +kernel)]; show lvP ps k s (wh ++ [0]) = [] ++ (lvP ps k s (wh ++ [0]) ++ []); rw [List.append_nil]; rfl, by simp, (fun s' h' => by rw [List.mem_singleton.mp h']; exact ho), .cons hs .nil, (fun z => absurd z (by decide +kernel)), fun _ => ⟨u, rfl, rfl⟩⟩)
  | use h1 h2 => exact .inr (.inl ⟨_, rfl, rfl, rfl, h1, h2⟩)
  | @all ks b vs eb hk ho hl => exact .inr (.inr ⟨ks, vs, by decide +kernel, by decide +kernel, by rw [if_neg (by decide +kernel)]; rfl, hl, ho, hk, fun _ => ⟨b, at1, eb⟩, (fun z => absurd z (by decide +kernel))⟩)
  | @best ks b vs eb hk ho hl => exact .inr (.inr ⟨ks, vs, by decide +kernel, by decide +kernel, by rw [if_neg (by decide +kernel)]; rfl, hl, ho, hk, fun _ => ⟨b, at1, eb⟩, (fun z => absurd z (by decide +kernel))⟩)
  | one h =>
    obtain ⟨u, s', hlast, hs', ho', c5, c6, cm, chh, cc, x1, ex1⟩ := h.kid
    have a1 : ∀ s ∈ [s'], OkS i M d s := fun s h' => by rw [List.mem_singleton.mp h']; exact ho'
    have ns : (nm == "step") = false := by
      rcases h.nm5 with e | e | e | e | e <;> rw [e] <;> decide +kernel
    have key : lvP ps (k + 1) sc wh = (if (nm == "end") = true then [wh] else []) ++ allU (fun s j => lvP ps k s (wh ++ [j])) [s'] 0 := by
      show _ = _ ++ (lvP ps k s' (wh ++ [0]) ++ [])
      rw [List.append_nil]
      rcases h.nm5 with e | e | e | e | e
      · obtain ⟨n, hsc, _⟩ := cm e
        rw [hsc, if_neg (by rw [e]; decide +kernel)]
        rfl
      · obtain ⟨hsc, _⟩ := chh e
        rw [hsc, if_neg (by rw [e]; decide +kernel)]
        rfl
      · obtain ⟨x, hsc, _⟩ := c6 e
        rw [hsc, if_neg (by rw [e]; decide +kernel)]
        rfl
      · obtain ⟨hsc, _⟩ := cc e
        rw [hsc, if_neg (by rw [e]; decide +kernel)]
        rfl
      · obtain ⟨x, p, hsc, _⟩ := c5 e
        rw [hsc, if_pos (by rw [e]; decide +kernel)]
        rfl
    exact .inr (.inr ⟨[s'], [u], ns, h.nu, key, by simp, a1, .cons hs' .nil, (fun z => by rw [h.na] at z; cases z), fun _ => ⟨u, hlast, rfl⟩⟩)
def spLeaves (ps : List Sch) (M k : Nat) : Sp := fun vs H Q _ => ∃ (pa wr : Addr) (v : V) (s : Sch) (i d : Nat) (wh : List Nat), vs = [.ref pa, v, .ref wr] ∧ (∃ pv, H pa = some (.tup pv) ∧ Paired (SAt H 5) ps pv) ∧ SAt H d s v ∧ OkS i M d s ∧ (M - i) * 5 + d ≤ k ∧ wh.length + k ≤ 100 ∧ (lvP ps k s wh).length ≤ 100 ∧
  H wr = some (.tup (natV wh)) ∧ ∀ (f : Addr) (uv : List V) (H' : Hp), Same H H' → H f = none → H' f = some (.lst uv) → Paired (WhR H') (lvP ps k s wh) uv → Q (.ref f) H'
section
variable {P : Program} {w : World} {K : PySem.W.Frag} {mg : Str → Option Value} {base : Heap}
theorem leaves_turn {ps : List Sch} {M k : Nat} (hM : ps.length = M) (hp : ∀ (j : Nat) (s : Sch), ps[j]? = some s → OkS j M 5 s)
    (D : Def K mg "_law_leaves" s_L_leaves psLeaves) (mli : mg "list" = none) (mr : mg "range" = none) (ml : mg "len" = none) (G : FnOk P w K mg base CX0 k D.f D.fd psLeaves (spLeaves ps M k)) : FnOk P w K mg base CX0 (k + 1) D.f D.fd psLeaves (spLeaves ps M (k + 1)) := by
  have nd := sc_L_leaves.nd
  refine D.ok sc_L_leaves (fun vs H Q E h => ?_) (fun cdv A outer s H vs Q E hr h => ?_)
  · obtain ⟨pa, wr, v, s, i, d, wh, rfl, _⟩ := h
    rfl
  obtain ⟨pa, wr, v, sc, i, d, wh, rfl, ⟨pv0, epv, pp⟩, hs, ho, hk, hwl, h10, ewr, q⟩ := h
  refine ⟨_, pss_cons (ps_if (pt_cmpR op_eq (pe_ix ix_tup (pv 1) pe_int (fun _ _ => rfl)) pe_str (nomark _)) (pss_one (ps_ret (pe_lst (pa_cons (pv 2) pa_nil)))) pss_nil)
    (pss_cons (ps_if (pt_cmpR op_eq (pe_ix ix_tup (pv 1) pe_int (fun _ _ => rfl)) pe_str (nomark _))
      (pss_one (ps_ret (pcall D G hr (pa_cons (pv 0) (pa_cons (pe_ix ix_tup (pv 0) (pe_ix ix_tup (pv 1) pe_int (fun _ _ => rfl)) (fun _ _ => rfl)) (pa_cons (pe_op op_catA (pv 2) (pe_tup (pa_cons pe_int pa_nil))) pa_nil)))))) pss_nil)
    (pss_cons (ps_set (i := 3) nd rfl (Or.inl rfl) (pe_ifExp (pt_cmpR op_eq (pe_ix ix_tup (pv 1) pe_int (fun _ _ => rfl)) pe_str (nomark _)) (pe_lst (pa_cons (pv 2) pa_nil)) (pe_lst pa_nil)))
    (pss_cons (ps_set (i := 4) nd rfl (Or.inl rfl) (pe_ifExp (pt_cmpR op_in_seq (pe_ix ix_tup (pv 1) pe_int (fun _ _ => rfl)) (pe_tup (pa_cons pe_str (pa_cons pe_str pa_nil))) (by rfl)) (pe_callTy call_list_of rfl mli (by decide +kernel) (pa_cons (pe_ix ix_tup (pv 1) pe_int (fun _ _ => rfl)) pa_nil))
        (pe_lst (pa_cons (pe_ix ix_tup (pv 1) (pe_un un_neg pe_int) (fun _ _ => rfl)) pa_nil))))
    (pss_cons (ps_for PassesOwn.never rfl (pi_range1 rfl mr (pa_cons (pe_callB call_len_seq rfl ml PySem.boot_len (pa_cons (pv 4) pa_nil)) pa_nil)) (pg_name (i := 5) nd rfl (Or.inl rfl))
      (pss_one (ps_set (i := 3) nd rfl (Or.inl rfl) (pe_op op_cat (pv 3) (pcall D G hr (pa_cons (pv 0) (pa_cons (pe_ix ix_list (pv 4) (pv 5) (fun _ _ => rfl)) (pa_cons (pe_op op_catA (pv 2) (pe_tup (pa_cons (pv 5) pa_nil))) pa_nil))))))))
    (pss_one (ps_ret (pv 3))))))), ?_⟩
  obtain ⟨a, nm, rest, rfl, ea⟩ := hs.tag
  cases d with
  | zero => cases hs
  | succ d =>
  have tag : ∀ {σ : St} {H1 : Hp} {x : Str} {b : Bool}, σ[1]? = some (some (.ref a)) → H1 a = some (.tup (.str nm :: rest)) → (nm == x) = b → ∀ Q : Bool → Hp → Prop, Q b H1 → tTest (tOp rEq (tOp (rIxT K) (tVar 1) (tC (.int 0))) (tC (.str x))) σ H1 Q := fun s1 e1 e2 Q q => ⟨_, s1, a, _, 0, .str nm, rfl, rfl, SqT.of e1, at0, rfl, _, rfl, by rw [dec_str, e2]; exact q⟩
  rcases (hs.kind ho ea).leaves (ps := ps) (k := k) wh with ⟨x, p, rfl, rfl⟩ | ⟨n, rfl, rfl, rfl, h1, h2⟩ | ⟨ks, kv, W⟩
  · refine seq_if (b := true) (tag rfl ea (by decide +kernel)) (fun _ => ?_) (fun z => nomatch z)
    refine ⟨_, rfl, (by show 1 ≤ sizeLine; decide), fun f hf => ?_⟩
    exact q f _ _ (Same.new hf) hf upd_same (.cons ⟨wr, rfl, Same.new hf _ _ ewr⟩ .nil)
  · refine seq_if (b := false) (tag rfl ea (by decide +kernel)) (fun z => nomatch z) (fun _ => ?_)
    refine seq_if (b := true) (tag rfl ea (by decide +kernel)) (fun _ => ?_) (fun z => nomatch z)
    have nl : n < pv0.length := by rw [← Paired.length pp]; omega
    have epn : pv0[n]? = some (pv0[n]'nl) := List.getElem?_eq_getElem nl
    obtain ⟨s', es', hs'⟩ := paired_get' pp epn
    have ho' := hp n s' es'
    refine ⟨_, rfl, _, rfl, _, rfl, a, _, 1, .int ((n : Nat) : Int), rfl, rfl, SqT.of ea, at1, pa, pv0, _, _, rfl, rfl, SqT.of epv, atI_nat epn, ?_⟩
    refine cat_at (j := 0) rfl ewr (by omega) (fun Q q => q) (fun wr' H1 s1 ewr' => ?_)
    have h10' : (lvP ps k s' (wh ++ [0])).length ≤ 100 := by
      have z : ((match ps[n]? with
        | none => []
        | some s => lvP ps k s (wh ++ [0])) : List (List Nat)).length ≤ 100 := h10
      rw [es'] at z
      exact z
    refine ⟨pa, wr', _, s', n, 5, wh ++ [0], rfl, ⟨pv0, s1 _ _ epv, paired_imp pp fun _ _ => SAt.keep (Same.tupK s1) _ _ _⟩, SAt.keep (Same.tupK s1) _ _ _ hs', ho', by omega, by rw [List.length_append]; show wh.length + 1 + k ≤ 100; omega, h10', ewr', fun f uv H' sm fr ef pr => q f uv H' (s1.trans sm) (s1.free fr) ef ?_⟩
    show Paired _ (match ps[n]? with
      | none => []
      | some s => lvP ps k s (wh ++ [0])) _
    rw [es']
    exact pr
  · refine seq_if (b := false) (tag rfl ea W.ns) (fun z => nomatch z) (fun _ => ?_)
    refine seq_if (b := false) (tag rfl ea W.nu) (fun z => nomatch z) (fun _ => ?_)
    let F : Sch → Nat → List (List Nat) := fun s j => lvP ps k s (wh ++ [j])
    let pre : List (List Nat) := if (nm == "end") = true then [wh] else []
    have e10 : (pre ++ allU F ks 0).length ≤ 100 := by rw [← W.eq]; exact h10
    rw [List.length_append] at e10
    let preV : List V := if (nm == "end") = true then [.ref wr] else []
    have ppre : ∀ {H'}, Same H H' → Paired (WhR H') pre preV := fun sm => by
      show Paired _ (if (nm == "end") = true then [wh] else []) (if (nm == "end") = true then [V.ref wr] else [])
      cases nm == "end" with
      | true => exact .cons ⟨wr, rfl, sm _ _ ewr⟩ .nil
      | false => exact .nil
    have lpre : preV.length ≤ 1 := by
      show (if (nm == "end") = true then [V.ref wr] else []).length ≤ 1
      cases nm == "end" <;> simp
    refine ⟨_, rfl, a, _, 0, .str nm, rfl, rfl, SqT.of ea, at0, rfl, _, rfl, ?_⟩
    rw [dec_str]
    refine found_if (pre := preV) (fun z R hR => ?_) (fun z => ?_) (by omega) (fun f hf => ?_)
    · rw [show preV = [.ref wr] from if_pos z] at hR
      exact ⟨_, rfl, hR⟩
    · exact if_neg (by rw [z]; exact fun z => nomatch z)
    have s2 : Same H (upd H f (.lst preV)) := Same.new hf
    dsimp only [gName]
    refine ⟨_, rfl, a, _, 0, .str nm, rfl, rfl, SqT.of (s2 _ _ ea), at0, sz2, fun t2 ht2 => ⟨t2, _, rfl, .inr (SqT.of upd_same), rfl, rfl, _, rfl, ?_⟩⟩
    have s3 := s2.trans (Same.new (o := .tup [.str "all", .str "best"]) ht2)
    have hkv := Paired.length W.at_
    have hkl := W.kl
    refine kids_if (kv := kv) (fun z R hR => ?_) (fun z R hR => ?_) (fun l hl => ?_)
    · obtain ⟨b, e1, e2⟩ := W.k2 z
      exact ⟨_, rfl, a, _, 1, .ref b, rfl, rfl, SqT.of (s3 _ _ ea), e1, b, kv, rfl, .inr (SqT.of (s3 _ _ e2)), hR⟩
    · obtain ⟨u, e1, e2⟩ := W.k1 z
      rw [e2] at hR
      exact ⟨_, rfl, 1, rfl, a, _, -1, u, rfl, rfl, SqT.of (s3 _ _ ea), e1, (by show 1 ≤ sizeLine; decide), hR⟩
    have ef3 : upd (upd (upd H f (.lst preV)) t2 (.tup [.str "all", .str "best"])) l (.lst kv) f = some (.lst preV) := Same.new hl _ _ (Same.new ht2 _ _ upd_same)
    have s4 := s3.trans (Same.new (o := .lst kv) hl)
    dsimp only [gName]
    generalize hH4 : upd (upd (upd H f (.lst preV)) t2 (.tup [.str "all", .str "best"])) l (.lst kv) = H4 at s4 ef3 ⊢
    have el4 : H4 l = some (.lst kv) := by rw [← hH4]; exact upd_same
    refine ⟨_, rfl, l, kv, rfl, .inl (SqL.of el4), _, rfl, by omega, by omega, ?_⟩
    rw [Int.toNat_natCast]
    refine for_range (lo := 0) (n := kv.length) (fun j σ H' => ∃ (f : Addr) (v5 : Option V) (uv : List V), σ = [some (.ref pa), some (.ref a), some (.ref wr), some (.ref f), some (.ref l), v5] ∧ H' f = some (.lst uv) ∧ Paired (WhR H') (pre ++ allU F (ks.take j) 0) uv ∧ H f = none ∧ Same H4 H')
      ⟨f, none, preV, rfl, ef3, by rw [List.take_zero]; show Paired _ (pre ++ []) _; rw [List.append_nil]; exact ppre s4, hf, Same.refl _⟩ ?_ ?_
    · rintro j σ H' hj ⟨f5, v5, uv, rfl, ef5, puv, hf5, s5⟩
      have ekv : kv[j]? = some (kv[j]'hj) := List.getElem?_eq_getElem hj
      generalize kv[j]'hj = x at ekv
      obtain ⟨s', es', hs'⟩ := paired_get' W.at_ ekv
      have hm := List.mem_of_getElem? es'
      obtain ⟨fe, fl⟩ := allU_cut (f := F) es'
      have s6 := s4.trans s5
      simp only [Int.zero_add]
      dsimp only [gName]
      refine ⟨_, rfl, _, rfl, _, rfl, _, rfl, l, kv, _, x, rfl, rfl, SqL.of (s5 _ _ el4), atI_nat ekv, ?_⟩
      refine cat_at (j := j) rfl (s6 _ _ ewr) (by omega) (fun Q q => ⟨_, rfl, q⟩) (fun wr' H1 s7 ewr' => ?_)
      have s8 := s6.trans s7
      have lF : (F s' j).length ≤ 100 := by omega
      refine ⟨pa, wr', x, s', i, d, wh ++ [j], rfl, ⟨pv0, s8 _ _ epv, paired_imp pp fun _ _ => SAt.keep (Same.tupK s8) _ _ _⟩, SAt.keep (Same.tupK s8) _ _ _ hs', W.ok s' hm, by omega, by rw [List.length_append]; show wh.length + 1 + k ≤ 100; omega, lF, ewr', fun f2 uv2 H6 s9 fr ef6 pr => ?_⟩
      have lu := Paired.length puv
      have lu2 := Paired.length pr
      rw [List.length_append] at lu
      have lu2 : (F s' j).length = uv2.length := lu2
      refine ⟨f5, f2, uv, uv2, rfl, rfl, (s7.trans s9) _ _ ef5, ef6, szN (by omega), fun p hp' => ?_⟩
      have s10 := Same.new (o := .lst (uv ++ uv2)) hp'
      refine ⟨p, _, _, rfl, upd_same, ?_, ((s6.trans s7).trans s9).free hp', s5.trans ((s7.trans s9).trans s10)⟩
      rw [fe, ← List.append_assoc]
      exact paired_app (paired_imp puv fun _ _ h => WhR.keep h (Same.tupK ((s7.trans s9).trans s10))) (paired_imp pr fun _ _ h => WhR.keep h (Same.tupK s10))
    · rintro σ H' ⟨f5, v5, uv, rfl, ef5, puv, hf5, s5⟩
      rw [← hkv, List.take_length, ← W.eq] at puv
      exact ⟨_, rfl, q f5 uv H' (s4.trans s5) hf5 ef5 puv⟩
theorem ok_leaves {ps : List Sch} (hp : ∀ (j : Nat) (s : Sch), ps[j]? = some s → OkS j ps.length 5 s) (D : Def K mg "_law_leaves" s_L_leaves psLeaves) (mli : mg "list" = none) (mr : mg "range" = none) (ml : mg "len" = none) : ∀ k : Nat, FnOk P w K mg base CX0 k D.f D.fd psLeaves (spLeaves ps ps.length k)
  | 0 => by
    have e : spLeaves ps ps.length 0 = fun _ _ _ _ => False := by
      funext vs H Q E
      refine propext ⟨fun h => ?_, fun h => h.elim⟩
      obtain ⟨pa, wr, v, s, i, d, wh, _, _, _, ho, hk, _⟩ := h
      have : d = 0 := by omega
      subst this
      cases ho
    rw [e]
    exact no_sp
  | k + 1 => leaves_turn rfl hp D mli mr ml (ok_leaves hp D mli mr ml k)
end
end MS
end
section
set_option maxRecDepth 100000
set_option maxHeartbeats 4000000
namespace MS
open PySem L2
/-! ### the law's own way to a row's place -/
abbrev s_L_is_earned : Stmt := topS 53
abbrev nmIs : List Str := ["_law_paper_here", "_law_work_here", "_law_row", "_law_place", "_law_points", "_law_where", "_law_scheme_here", "_law_is_carried", "_law_least", "_law_k", "_law_signs", "_law_some", "_law_j", "_law_step_here"]
abbrev psIs : List Str := ["_law_paper_here", "_law_work_here", "_law_row"]
theorem sc_L_is_earned : FnScope nmIs psIs (defScope s_L_is_earned) := ⟨rfl, rfl, rfl, by decide +kernel, rfl, by decide +kernel, by decide +kernel⟩
/-- one place further -/
structure GS (H : Hp) (ps : List Sch) (ws : List StepT) (i n : Nat) (pv : List V) (nm : Str) (rest : List V) (st : Nat) (c : Bool) (k : Nat) (r : List Nat) (st2 : Nat) (c2 : Bool) (s2 : Sch) (u : V) (d2 : Nat) : Prop where
  hb : (nm == "behind") = true → ∃ (x : Str) (y : V) (j : Nat) (t : List Nat), rest = [.str x, y] ∧ hits ws c x st = j :: t ∧ st2 = j + 1
  hb0 : (nm == "behind") = false → st2 = st
  hs : (nm == "seen") = true → ∃ (x : Str) (y : V), rest = [.str x, y] ∧ (ws.any fun p => p.1 == x) = true
  hm : (nm == "most") = true → ∃ (m : Int) (y : V), rest = [.int m, y] ∧ (n : Int) ≤ m
  hc : c2 = (c || nm == "carry")
  hl : inV (.str nm) [.str "all", .str "best"] = true → ∃ (b : Addr) (vs : List V), rest = [.ref b] ∧ H b = some (.tup vs) ∧ vs[k]? = some u
  hu : (nm == "use") = true → ∃ m : Nat, rest = [.int ((m : Nat) : Int)] ∧ pv[m]? = some u
  h1 : inV (.str nm) [.str "all", .str "best"] = false → (nm == "use") = false → atI (.str nm :: rest) (-1) = some u
  at_ : SAt H d2 s2 u
  go : Goes ps ws i n s2 st2 c2 r
theorem Goes.next {H : Hp} {ps : List Sch} {ws : List StepT} {i n : Nat} {pv : List V} {d : Nat} {s : Sch} {a : Addr} {nm : Str} {rest : List V} {st : Nat} {c : Bool} {k : Nat} {r : List Nat} (g : Goes ps ws i n s st c (k :: r)) (hs : SAt H (d + 1) s (.ref a)) (ea : H a = some (.tup (.str nm :: rest))) (pp : Paired (SAt H 5) ps pv) :
    ∃ st2 c2 s2 u d2, GS H ps ws i n pv nm rest st c k r st2 c2 s2 u d2 := by
  have inj : ∀ {a' : Addr} {nm' : Str} {rest' : List V}, (V.ref a = V.ref a') → H a' = some (.tup (.str nm' :: rest')) → nm' = nm ∧ rest' = rest := fun e h => by
    cases e
    rw [ea] at h
    cases h
    exact ⟨rfl, rfl⟩
  cases g with
  | @fin x p s2 _ _ _ g =>
    obtain ⟨a', u, e, h, hs2⟩ := hs
    obtain ⟨rfl, rfl⟩ := inj e h
    exact ⟨st, c, s2, u, d, ⟨(fun z => absurd z (by decide +kernel)), fun _ => rfl, (fun z => absurd z (by decide +kernel)), (fun z => absurd z (by decide +kernel)), by rw [show (("end" : Str) == "carry") = false by decide +kernel, Bool.or_false], (fun z => absurd z (by decide +kernel)), (fun z => absurd z (by decide +kernel)), fun _ _ => rfl, hs2, g⟩⟩
  | @behind x s2 _ _ _ j t hh g =>
    obtain ⟨a', u, e, h, hs2⟩ := hs
    obtain ⟨rfl, rfl⟩ := inj e h
    exact ⟨j + 1, c, s2, u, d, ⟨fun _ => ⟨x, u, j, t, rfl, hh, rfl⟩, (fun z => absurd z (by decide +kernel)), (fun z => absurd z (by decide +kernel)), (fun z => absurd z (by decide +kernel)), by rw [show (("behind" : Str) == "carry") = false by decide +kernel, Bool.or_false], (fun z => absurd z (by decide +kernel)), (fun z => absurd z (by decide +kernel)), fun _ _ => rfl, hs2, g⟩⟩
  | @use m s2 _ _ _ e0 g =>
    obtain ⟨a', e, h⟩ := hs
    obtain ⟨rfl, rfl⟩ := inj e h
    obtain ⟨u, eu, hs2⟩ := paired_get2 pp e0
    exact ⟨st, c, s2, u, 5, ⟨(fun z => absurd z (by decide +kernel)), fun _ => rfl, (fun z => absurd z (by decide +kernel)), (fun z => absurd z (by decide +kernel)), by rw [show (("use" : Str) == "carry") = false by decide +kernel, Bool.or_false], (fun z => absurd z (by decide +kernel)), fun _ => ⟨m, rfl, eu⟩, (fun _ z => absurd z (by decide +kernel)), hs2, g⟩⟩
  | @all ks s2 _ _ _ _ e0 g =>
    obtain ⟨a', b, vs, e, h, eb, hk⟩ := hs
    obtain ⟨rfl, rfl⟩ := inj e h
    obtain ⟨u, eu, hs2⟩ := paired_get2 hk e0
    exact ⟨st, c, s2, u, d, ⟨(fun z => absurd z (by decide +kernel)), fun _ => rfl, (fun z => absurd z (by decide +kernel)), (fun z => absurd z (by decide +kernel)), by rw [show (("all" : Str) == "carry") = false by decide +kernel, Bool.or_false], fun _ => ⟨b, vs, rfl, eb, eu⟩, (fun z => absurd z (by decide +kernel)), (fun z => absurd z (by decide +kernel)), hs2, g⟩⟩
  | @best ks s2 _ _ _ _ e0 g =>
    obtain ⟨a', b, vs, e, h, eb, hk⟩ := hs
    obtain ⟨rfl, rfl⟩ := inj e h
    obtain ⟨u, eu, hs2⟩ := paired_get2 hk e0
    exact ⟨st, c, s2, u, d, ⟨(fun z => absurd z (by decide +kernel)), fun _ => rfl, (fun z => absurd z (by decide +kernel)), (fun z => absurd z (by decide +kernel)), by rw [show (("best" : Str) == "carry") = false by decide +kernel, Bool.or_false], fun _ => ⟨b, vs, rfl, eb, eu⟩, (fun z => absurd z (by decide +kernel)), (fun z => absurd z (by decide +kernel)), hs2, g⟩⟩
  | @seen x s2 _ _ _ e0 g =>
    obtain ⟨a', u, e, h, hs2⟩ := hs
    obtain ⟨rfl, rfl⟩ := inj e h
    exact ⟨st, c, s2, u, d, ⟨(fun z => absurd z (by decide +kernel)), fun _ => rfl, fun _ => ⟨x, u, rfl, e0⟩, (fun z => absurd z (by decide +kernel)), by rw [show (("seen" : Str) == "carry") = false by decide +kernel, Bool.or_false], (fun z => absurd z (by decide +kernel)), (fun z => absurd z (by decide +kernel)), fun _ _ => rfl, hs2, g⟩⟩
  | @most m s2 _ _ _ e0 g =>
    obtain ⟨a', u, e, h, hs2⟩ := hs
    obtain ⟨rfl, rfl⟩ := inj e h
    exact ⟨st, c, s2, u, d, ⟨(fun z => absurd z (by decide +kernel)), fun _ => rfl, (fun z => absurd z (by decide +kernel)), fun _ => ⟨m, u, rfl, e0⟩, by rw [show (("most" : Str) == "carry") = false by decide +kernel, Bool.or_false], (fun z => absurd z (by decide +kernel)), (fun z => absurd z (by decide +kernel)), fun _ _ => rfl, hs2, g⟩⟩
  | @half s2 _ _ _ g =>
    obtain ⟨a', u, e, h, hs2⟩ := hs
    obtain ⟨rfl, rfl⟩ := inj e h
    exact ⟨st, c, s2, u, d, ⟨(fun z => absurd z (by decide +kernel)), fun _ => rfl, (fun z => absurd z (by decide +kernel)), (fun z => absurd z (by decide +kernel)), by rw [show (("half" : Str) == "carry") = false by decide +kernel, Bool.or_false], (fun z => absurd z (by decide +kernel)), (fun z => absurd z (by decide +kernel)), fun _ _ => rfl, hs2, g⟩⟩
  | @carry s2 _ _ _ g =>
    obtain ⟨a', u, e, h, hs2⟩ := hs
    obtain ⟨rfl, rfl⟩ := inj e h
    exact ⟨st, true, s2, u, d, ⟨(fun z => absurd z (by decide +kernel)), fun _ => rfl, (fun z => absurd z (by decide +kernel)), (fun z => absurd z (by decide +kernel)), by rw [show (("carry" : Str) == "carry") = true by decide +kernel, Bool.or_true], (fun z => absurd z (by decide +kernel)), (fun z => absurd z (by decide +kernel)), fun _ _ => rfl, hs2, g⟩⟩
/-- at the place -/
theorem Goes.last {H : Hp} {ps : List Sch} {ws : List StepT} {i n : Nat} {d : Nat} {s : Sch} {a : Addr} {nm : Str} {rest : List V} {st : Nat} {c : Bool} (g : Goes ps ws i n s st c []) (hs : SAt H (d + 1) s (.ref a)) (ea : H a = some (.tup (.str nm :: rest))) :
    ∃ (x : Str) (p : Int) (q : StepT) (more : List V), rest = .str x :: .int p :: more ∧ inV (.str nm) [.str "step", .str "end"] = true ∧ ((nm == "end") = true → i + 1 = ws.length) ∧ st ≤ i ∧ ws[i]? = some q ∧ okAt c x q = true ∧ 1 ≤ n ∧ (n : Int) ≤ p := by
  have inj : ∀ {a' : Addr} {nm' : Str} {rest' : List V}, (V.ref a = V.ref a') → H a' = some (.tup (.str nm' :: rest')) → nm' = nm ∧ rest' = rest := fun e h => by
    cases e
    rw [ea] at h
    cases h
    exact ⟨rfl, rfl⟩
  cases g with
  | @step x p _ _ q h1 h2 h3 h4 h5 =>
    obtain ⟨a', e, h⟩ := hs
    obtain ⟨rfl, rfl⟩ := inj e h
    exact ⟨x, p, q, [], rfl, by decide +kernel, (fun z => absurd z (by decide +kernel)), h1, h2, h3, h4, h5⟩
  | @here x p s2 _ _ q h0 h1 h2 h3 h4 h5 =>
    obtain ⟨a', u, e, h, hs2⟩ := hs
    obtain ⟨rfl, rfl⟩ := inj e h
    exact ⟨x, p, q, [u], rfl, by decide +kernel, fun _ => h0, h1, h2, h3, h4, h5⟩
end MS
end
section
set_option maxRecDepth 100000
set_option maxHeartbeats 4000000
namespace MS
open PySem L2
def spIs (x : PW) : Sp := fun vs H Q _ => ∃ (pa wa : Addr) (v : V) (r : Row), vs = [.ref pa, .ref wa, v] ∧ PWAt H x.1.1 x.1.2 pa wa ∧ RowR H r v ∧ (∃ s0 t0, x.1.1 = s0 :: t0 ∧ Goes x.1.1 x.1.2 r.1 r.2.1 s0 0 false r.2.2) ∧ ∀ H', Same H H' → Q (.bl true) H'
theorem hits_in' {ws : List StepT} {c : Bool} {x : Str} {st i : Nat} {r : List Nat} (h : hits ws c x st = i :: r) : i < ws.length := (hits_in h).2
section
variable {P : Program} {w : World} {K : PySem.W.Frag} {mg : Str → Option Value} {base : Heap}
theorem ok_is_earned (x : PW) (D : Def K mg "_law_is_earned" s_L_is_earned psIs) (ml : mg "len" = none) (mr : mg "range" = none) (mi : mg "int" = none) : FnOk P w K mg base CX0 1 D.f D.fd psIs (spIs x) := by
  obtain ⟨⟨ps, ws⟩, hP, hW⟩ := x
  have hP : PaperOk ps := hP
  have hW : WorkOk ws := hW
  have hw := hW.1.all
  have hws := hW.2
  have nd := sc_L_is_earned.nd
  refine D.ok sc_L_is_earned (fun vs H Q E h => ?_) (fun cdv A outer s H vs Q E hr h => ?_)
  · obtain ⟨pa, wa, v, r, rfl, _⟩ := h
    rfl
  obtain ⟨pa, wa, v, ⟨i, n, wl⟩, rfl, R, ⟨ra, wr, rfl, era, ewr⟩, ⟨s0, t0, hps, g0⟩, q⟩ := h
  have hps : ps = s0 :: t0 := hps
  have g0 : Goes ps ws i n s0 0 false wl := g0
  have R : PWAt H ps ws pa wa := R
  have era : H ra = some (.tup [.int ((i : Nat) : Int), .int ((n : Nat) : Int), .ref wr]) := era
  have ewr : H wr = some (.tup (natV wl)) := ewr
  refine ⟨_, pss_cons (ps_asg (pv 2) (pg_tup (by rfl) (pgs_cons (pg_name (i := 3) nd rfl (Or.inl rfl)) (pgs_cons (pg_name (i := 4) nd rfl (Or.inl rfl)) (pgs_cons (pg_name (i := 5) nd rfl (Or.inl rfl)) pgs_nil)))))
    (pss_cons (ps_asg (pe_tup (pa_cons (pe_ix ix_tup (pv 0) pe_int (fun _ _ => rfl)) (pa_cons pe_bl (pa_cons pe_int pa_nil)))) (pg_tup (by rfl) (pgs_cons (pg_name (i := 6) nd rfl (Or.inr rfl)) (pgs_cons (pg_name (i := 7) nd rfl (Or.inl rfl)) (pgs_cons (pg_name (i := 8) nd rfl (Or.inl rfl)) pgs_nil)))))
    (pss_cons (ps_for PassesOwn.never rfl (pi_tup (pv 5)) (pg_name (i := 9) nd rfl (Or.inl rfl))
      (pss_cons (ps_if (pt_cmpR op_eq (pe_ix ix_tup (pv 6) pe_int (fun _ _ => rfl)) pe_str (nomark _))
        (pss_cons (ps_set (i := 10) nd rfl (Or.inr rfl) (pe_slice sl_list (pe_lst (pa_cons pe_str (pa_cons pe_str pa_nil))) po_none (po_some (pe_op op_add pe_int (pe_callTy call_int1 rfl mi (by decide +kernel) (pa_cons (pv 7) pa_nil))))))
        (pss_cons (ps_setLc (i := 11) (own := [("_law_j", 12)]) (g := gName 12) rfl nd rfl (by kernel_rfl) (sw_true rfl (by kernel_rfl) rfl (by decide +kernel)) (pi_range2 rfl mr (pa_cons (pv 8) (pa_cons (pe_callB call_len_seq rfl ml PySem.boot_len (pa_cons (pv 1) pa_nil)) pa_nil))) (blkOk_by (N := nmIs) (sc := defScope s_L_is_earned) (by decide +kernel)) (fun _ _ _ _ _ => pg_name (i := 12) nd rfl (Or.inl rfl))
            (fun _ _ _ _ _ => pts_one (PW.pt (pw_and (pt_cmpR op_eq (pe_ix ix_str (pe_ix (r := rIxL K) ix_list (pv 1) (pv 12) (fun _ _ => rfl)) pe_int (fun _ _ => rfl)) (pe_ix (r := rIxT K) ix_tup (pv 6) pe_int (fun _ _ => rfl)) (nomark _)) (pw_and1 (pt_cmpR (r := rIn K false) op_in_seq (pe_ix ix_str (pe_ix (r := rIxL K) ix_list (pv 1) (pv 12) (fun _ _ => rfl)) pe_int (fun _ _ => rfl)) (pv 10) (by rfl))))))
            (fun _ _ _ _ _ => pv 12))
        (pss_cons (ps_if (pt_cmpR (op_eqD hr.units) (pv 11) (pe_lst pa_nil) (nomark _)) (pss_one (ps_ret pe_bl)) pss_nil)
        (pss_one (ps_set (i := 8) nd rfl (Or.inl rfl) (pe_op op_add (pe_ix ix_list (pv 11) pe_int (fun _ _ => rfl)) pe_int)))))) pss_nil)
      (pss_cons (ps_if (PW.pt (pw_and (pt_cmpR op_eq (pe_ix ix_tup (pv 6) pe_int (fun _ _ => rfl)) pe_str (nomark _)) (pw_and1 (pt_cmpR op_notIn_seq (pe_ix ix_tup (pv 6) pe_int (fun _ _ => rfl))
          (pe_lc (own := [("_law_step_here", 13)]) (g := gName 13) (tt := tYes) rfl nd (pi_list (pv 1)) (blkOk_by (N := nmIs) (sc := defScope s_L_is_earned) (by decide +kernel)) (fun _ _ _ _ _ => pg_name (i := 13) nd rfl (Or.inl rfl)) (fun _ _ _ _ _ => pts_nil)
            (fun _ _ _ _ _ => pe_ix ix_str (pv 13) pe_int (fun _ _ => rfl))) (by rfl)))))
        (pss_one (ps_ret pe_bl)) pss_nil)
      (pss_cons (ps_if (PW.pt (pw_and (pt_cmpR op_eq (pe_ix ix_tup (pv 6) pe_int (fun _ _ => rfl)) pe_str (nomark _)) (pw_and1 (pt_cmpR op_gt (pv 4) (pe_ix ix_tup (pv 6) pe_int (fun _ _ => rfl)) (nomark _))))) (pss_one (ps_ret pe_bl)) pss_nil)
      (pss_cons (ps_set (i := 7) nd rfl (Or.inl rfl) (pe_or (pv 7) (pe_one (pe_cmpR op_eq (pe_ix ix_tup (pv 6) pe_int (fun _ _ => rfl)) pe_str (nomark _)))))
      (pss_one (ps_if (pt_cmpR op_in_seq (pe_ix ix_tup (pv 6) pe_int (fun _ _ => rfl)) (pe_tup (pa_cons pe_str (pa_cons pe_str pa_nil))) (by rfl))
        (pss_one (ps_set (i := 6) nd rfl (Or.inr rfl) (pe_ix ix_tup (pe_ix ix_tup (pv 6) pe_int (fun _ _ => rfl)) (pv 9) (fun _ _ => rfl))))
        (pss_one (ps_set (i := 6) nd rfl (Or.inr rfl) (pe_ifExp (pt_cmpR op_eq (pe_ix ix_tup (pv 6) pe_int (fun _ _ => rfl)) pe_str (nomark _)) (pe_ix ix_tup (pv 0) (pe_ix ix_tup (pv 6) pe_int (fun _ _ => rfl)) (fun _ _ => rfl)) (pe_ix ix_tup (pv 6) (pe_un un_neg pe_int) (fun _ _ => rfl))))))))))))
    (pss_cons (ps_if (PW.pt (pw_or (pt_cmpR op_notIn_seq (pe_ix ix_tup (pv 6) pe_int (fun _ _ => rfl)) (pe_tup (pa_cons pe_str (pa_cons pe_str pa_nil))) (by rfl)) (pw_or1 (PW.pt (pw_and (pt_cmpR op_eq (pe_ix ix_tup (pv 6) pe_int (fun _ _ => rfl)) pe_str (nomark _)) (pw_and1 (pt_cmpR op_ne (pv 3) (pe_op op_sub (pe_callB call_len_seq rfl ml PySem.boot_len (pa_cons (pv 1) pa_nil)) pe_int) (nomark _)))))))) (pss_one (ps_ret pe_bl)) pss_nil)
    (pss_cons (ps_if (PW.pt (pw_or (pt_not (pt_chain op_le op_lt (pv 8) (pv 3) (pe_callB call_len_seq rfl ml PySem.boot_len (pa_cons (pv 1) pa_nil)))) (pw_or (pt_cmpR op_ne (pe_ix ix_str (pe_ix ix_list (pv 1) (pv 3) (fun _ _ => rfl)) pe_int (fun _ _ => rfl)) (pe_ix ix_tup (pv 6) pe_int (fun _ _ => rfl)) (nomark _)) (pw_or1 (pt_not (pt_chain op_le op_le pe_int (pv 4) (pe_ix ix_tup (pv 6) pe_int (fun _ _ => rfl)))))))) (pss_one (ps_ret pe_bl)) pss_nil)
    (pss_one (ps_ret (pe_or (pe_cmpR op_eq (pe_ix ix_str (pe_ix ix_list (pv 1) (pv 3) (fun _ _ => rfl)) pe_int (fun _ _ => rfl)) pe_str (nomark _)) (pe_one (pe_and (pe_cmpR op_eq (pe_ix ix_str (pe_ix ix_list (pv 1) (pv 3) (fun _ _ => rfl)) pe_int (fun _ _ => rfl)) pe_str (nomark _)) (pe_one (pv 7))))))))))), ?_⟩
  obtain ⟨pv0, epv, pp⟩ := R.paper
  have ewa := R.work
  obtain ⟨v0, ev0, hs0⟩ : ∃ y, pv0[0]? = some y ∧ SAt H 5 s0 y := paired_get2 pp (k := 0) (by rw [hps]; rfl)
  refine ⟨_, rfl, ra, _, rfl, SqT.of era, rfl, _, _, rfl, _, _, rfl, _, _, rfl, rfl, ?_⟩
  refine ⟨_, rfl, pa, pv0, 0, v0, rfl, rfl, SqT.of epv, atI_nat (j := 0) ev0, (by show 3 ≤ sizeLine; decide), fun T hT => ?_⟩
  have s1 : Same H (upd H T (.tup [v0, .bl false, .int 0])) := Same.new hT
  refine ⟨T, _, rfl, SqT.of upd_same, rfl, _, _, rfl, _, _, rfl, _, _, rfl, rfl, ?_⟩
  dsimp only [gName]
  have lws : (stepsV ws).length = ws.length := List.length_map _
  have lwl := natV_len wl
  let σ0 : V → Bool → Nat → Option V → Option V → Option V → St := fun v c st v9 v10 v11 => [some (.ref pa), some (.ref wa), some (.ref ra), some (.int ((i : Nat) : Int)), some (.int ((n : Nat) : Int)), some (.ref wr), some v, some (.bl c), some (.int ((st : Nat) : Int)), v9, v10, v11, none, none]
  have tag : ∀ {v6 : V} {c : Bool} {st : Nat} {v9 v10 v11 : Option V} {H1 : Hp} {a : Addr} {nm : Str} {rest : List V} {z : Str} {b : Bool}, v6 = .ref a → H1 a = some (.tup (.str nm :: rest)) → (nm == z) = b → ∀ Q : Bool → Hp → Prop, Q b H1 → tTest (tOp rEq (tOp (rIxT K) (tVar 6) (tC (.int 0))) (tC (.str z))) (σ0 v6 c st v9 v10 v11) H1 Q := fun e0 e1 e2 Q q => ⟨_, rfl, _, _, 0, _, e0, rfl, SqT.of e1, at0, rfl, _, rfl, by rw [dec_str, e2]; exact q⟩
  have orC : ∀ {a : Addr} {c : Bool} {st : Nat} {v9 v10 v11 : Option V} {H1 : Hp} {nm : Str} {rest : List V} {Q : VK}, H1 a = some (.tup (.str nm :: rest)) → Q (.bl (c || nm == "carry")) H1 → tOrV (tVar 7) (tOp rEq (tOp (rIxT K) (tVar 6) (tC (.int 0))) (tC (.str "carry"))) (σ0 (.ref a) c st v9 v10 v11) H1 Q := fun {a c st v9 v10 v11 H1 nm rest Q} e q => ⟨_, rfl, c, rfl, by
    cases c with
    | true => exact iteT q
    | false => exact iteF ⟨_, rfl, a, _, 0, _, rfl, rfl, SqT.of e, at0, rfl, by rw [dec_str]; exact q⟩⟩
  have in2 : ∀ {a : Addr} {c : Bool} {st : Nat} {v9 v10 v11 : Option V} {H1 : Hp} {nm : Str} {rest : List V} {z1 z2 : Str} {b : Bool}, H1 a = some (.tup (.str nm :: rest)) → inV (.str nm) [.str z1, .str z2] = b → ∀ Q : Bool → Hp → Prop, (∀ H', Same H1 H' → Q b H') → tTest (tOp (rIn K false) (tOp (rIxT K) (tVar 6) (tC (.int 0))) (tTup (tCons (tC (.str z1)) (tCons (tC (.str z2)) tNil)))) (σ0 (.ref a) c st v9 v10 v11) H1 Q := fun {a c st v9 v10 v11 H1 nm rest z1 z2 b} e1 e2 Q q => ⟨_, rfl, a, _, 0, .str nm, rfl, rfl, SqT.of e1, at0, sz2, fun t2 ht2 => ⟨t2, _, rfl, .inr (SqT.of upd_same), rfl, rfl, _, rfl, by
    show Q (inV (.str nm) [.str z1, .str z2]) _
    rw [e2]
    exact q _ (Same.new ht2)⟩⟩
  refine ⟨_, rfl, wr, rfl, ⟨_, SqT.of (s1 _ _ ewr)⟩, for_tup (K := K) (a := wr) (xs := natV wl) (fun j σ H' => ∃ (v6 : V) (c : Bool) (st : Nat) (v9 v10 v11 : Option V) (s : Sch) (d : Nat), σ = σ0 v6 c st v9 v10 v11 ∧ SAt H' d s v6 ∧ Goes ps ws i n s st c (wl.drop j) ∧ st ≤ ws.length ∧ Same H H')
    ⟨v0, false, 0, none, none, none, s0, 5, rfl, SAt.keep (Same.tupK s1) _ _ _ hs0, g0, Nat.zero_le _, s1⟩ (fun j σ H' _ ⟨_, _, _, _, _, _, _, _, _, _, _, _, s2⟩ => SqT.of (s2 _ _ ewr)) ?_ ?_⟩
  · rintro j xx σ H2 hj ⟨v6, c, st, v9, v10, v11, s, d, rfl, hs, g, hst, s2⟩
    have hjl : j < wl.length := by
      have z := (List.getElem?_eq_some_iff.mp hj).1
      omega
    have ewl : wl[j]? = some (wl[j]'hjl) := List.getElem?_eq_getElem hjl
    rw [List.drop_eq_getElem_cons hjl] at g
    have ex : xx = V.int ((wl[j]'hjl : Nat) : Int) := by
      unfold natV at hj
      rw [List.getElem?_map, ewl] at hj
      exact (Option.some.inj hj).symm
    subst ex
    generalize wl[j]'hjl = k0 at g ewl
    obtain ⟨a, nm, rest, rfl, ea⟩ := hs.tag
    cases d with
    | zero => cases hs
    | succ d =>
    have pp2 := paired_imp pp fun _ _ => SAt.keep (Same.tupK s2) 5 _ _
    obtain ⟨st2, c2, s', u, d2, G⟩ := g.next hs ea pp2
    dsimp only [gName]
    refine seq_if_to (b := nm == "behind") (fun σ' H' => ∃ v10 v11, σ' = σ0 (.ref a) c st2 (some (.int ((k0 : Nat) : Int))) v10 v11 ∧ Same H2 H' ∧ st2 ≤ ws.length) (tag rfl ea rfl) ?_ ?_ (fun z => ?_)
    · rintro σ' H3 ⟨v10, v11, rfl, s3, hst2⟩
      have s23 := s2.trans s3
      have ea3 := s3 _ _ ea
      -- seen
      refine seq_new (b := (nm == "seen") && false) (ev_and_new (b := nm == "seen") (c := false) (to_new (Same.refl _) (tag rfl ea3 rfl)) (fun z9 H9 s9 Q q => ?_)) (fun z => by rw [Bool.and_false] at z; cases z) (fun _ H4 s4 => ?_)
      · obtain ⟨x, y, hre, hany⟩ := G.hs z9
        have ea9 := s9 _ _ ea3
        have ewa9 := (s23.trans s9) _ _ ewa
        rw [hre] at ea9
        refine ⟨_, rfl, a, _, 1, .str x, rfl, rfl, SqT.of ea9, at1, _, rfl, wa, rfl, ⟨_, SqL.of ewa9⟩, fun D2 hD2 => ?_⟩
        have nw2 : wa ≠ D2 := ne_of_none ewa9 hD2
        refine lc_list (K := K) (a := wa) (xs := stepsV ws) (fun j H'' => H'' = upd H9 D2 (.lst ((ws.take j).map fun p : StepT => V.str p.1))) rfl (fun j H'' _ e => by rw [e]; exact SqL.of (by rw [upd_ne nw2]; exact ewa9)) ?_ ?_
        · rintro j xx H'' hj rfl
          have hjl : j < ws.length := by
            have z := (List.getElem?_eq_some_iff.mp hj).1
            rw [lws] at z
            exact z
          have exx : xx = V.str (stepS (ws[j]'hjl)) := by
            have z := get_map (fun p => V.str (stepS p)) ws hjl
            exact Option.some.inj (hj.symm.trans z)
          subst exx
          have hs9 := hw _ (List.getElem_mem hjl)
          obtain ⟨k0, e0, em⟩ := hs9.at0
          refine ⟨rfl, _, rfl, _, 0, k0, rfl, rfl, strl2 hs9.len, e0, _, upd_same, ?_, ?_⟩
          · rw [List.length_map, List.length_take]
            exact small1000 (by omega)
          · rw [upd_upd, em, List.take_succ_eq_append_getElem hjl, List.map_append]
            rfl
        · rintro H'' rfl
          rw [lws, List.take_length]
          refine ⟨D2, _, rfl, .inl (SqL.of upd_same), rfl, ?_, _, rfl, ?_⟩
          · rw [List.all_map]
            exact List.all_eq_true.mpr fun _ _ => rfl
          · show Q (!inV (.str x) (ws.map fun p : StepT => V.str p.1)) _
            rw [in_words, hany]
            exact q _ (Same.new hD2)
      have ea4 := s4 _ _ ea3
      -- most
      refine seq_if (b := (nm == "most") && false) (fun Q q => (tag rfl ea4 (z := "most") rfl) _ ?_) (fun z => by rw [Bool.and_false] at z; cases z) (fun _ => ?_)
      · rw [Bool.and_false] at q
        refine ite2 (fun z => ?_) (fun _ => q)
        obtain ⟨m, y, hre, hle⟩ := G.hm z
        have ea5 := ea4
        rw [hre] at ea5
        refine ⟨_, rfl, _, rfl, a, _, 1, .int m, rfl, rfl, SqT.of ea5, at1, _, _, rfl, rfl, _, rfl, ?_⟩
        rw [decide_eq_false (by omega)]
        exact q
      refine orC ea4 ?_
      dsimp only [gName]
      have hc2 := G.hc
      subst hc2
      refine one_new (u := _) (b := inV (.str nm) [.str "all", .str "best"]) (in2 ea4 rfl) (fun z H5 s5 => ?_) (fun z H5 s5 => ?_)
      · obtain ⟨b, vs, hre, eb, ev⟩ := G.hl z
        have s6 := (s3.trans s4).trans s5
        have ea6 := s6 _ _ ea
        rw [hre] at ea6
        refine ⟨_, rfl, a, _, 1, .ref b, rfl, rfl, SqT.of ea6, at1, _, rfl, b, vs, _, _, rfl, rfl, SqT.of (s6 _ _ eb), atI_nat ev, ?_⟩
        dsimp only [gName]
        exact ⟨u, _, st2, _, v10, v11, s', d2, rfl, SAt.keep (Same.tupK s6) _ _ _ G.at_, G.go, hst2, s2.trans s6⟩
      · have s6 := (s3.trans s4).trans s5
        have ea6 := s6 _ _ ea
        refine ⟨_, rfl, a, _, 0, .str nm, rfl, rfl, SqT.of ea6, at0, rfl, _, rfl, ?_⟩
        rw [dec_str]
        refine ite2 (fun zu => ?_) (fun zu => ?_)
        · obtain ⟨m, hre, em⟩ := G.hu zu
          rw [hre] at ea6
          refine ⟨_, rfl, _, rfl, a, _, 1, .int ((m : Nat) : Int), rfl, rfl, SqT.of ea6, at1, pa, pv0, _, _, rfl, rfl, SqT.of ((s2.trans s6) _ _ epv), atI_nat em, ?_⟩
          dsimp only [gName]
          exact ⟨u, _, st2, _, v10, v11, s', d2, rfl, SAt.keep (Same.tupK s6) _ _ _ G.at_, G.go, hst2, s2.trans s6⟩
        · refine ⟨_, rfl, 1, rfl, a, _, -1, u, rfl, rfl, SqT.of ea6, G.h1 z (Bool.eq_false_iff.mpr zu), ?_⟩
          dsimp only [gName]
          exact ⟨u, _, st2, _, v10, v11, s', d2, rfl, SAt.keep (Same.tupK s6) _ _ _ G.at_, G.go, hst2, s2.trans s6⟩
    · -- behind
      intro z rest'
      obtain ⟨x, y, j0, t1, hre, hh, hst2⟩ := G.hb z
      have j0l := hits_in' hh
      refine ⟨sz2, fun L hL => ?_⟩
      have s3 : Same H2 (upd H2 L (.lst [.str "r", .str "c"])) := Same.new hL
      refine ⟨_, rfl, .inr ⟨c, rfl, _, _, rfl, rfl, _, rfl, L, _, rfl, SqL.of upd_same, fun sg hsg => ?_⟩⟩
      have s4 := s3.trans (Same.new (o := .lst (sgL c)) hsg)
      dsimp only [gName]
      have esg : upd (upd H2 L (.lst [.str "r", .str "c"])) sg (.lst (sgL c)) sg = some (.lst (sgL c)) := upd_same
      have hsg0 := s3.free hsg
      let H4 : Hp := upd (upd H2 L (.lst [.str "r", .str "c"])) sg (.lst (sgL c))
      have s4 : Same H2 H4 := s4
      have esg : H4 sg = some (.lst (sgL c)) := esg
      have s24 := s2.trans s4
      have ewa4 := s24 _ _ ewa
      have ea4 := s4 _ _ ea
      rw [hre] at ea4
      refine ⟨_, rfl, _, rfl, wa, _, rfl, .inl (SqL.of ewa4), _, _, rfl, ⟨by omega, by omega, by omega, by rw [lws]; omega⟩, fun Dd hD => ?_⟩
      have hD : H4 Dd = none := hD
      have eN : (((stepsV ws).length : Int) - ((st : Nat) : Int)).toNat = ws.length - st := by rw [lws]; omega
      rw [eN]
      have ngD : sg ≠ Dd := ne_of_none esg hD
      have naD : a ≠ Dd := ne_of_none ea4 hD
      have nwD : wa ≠ Dd := ne_of_none ewa4 hD
      let pr : Nat → Bool := fun i => match ws[i]? with
        | some p => okAt c x p
        | none => false
      refine lc_range (lo := ((st : Nat) : Int)) (n := ws.length - st) (fun j H'' => H'' = upd H4 Dd (.lst (natV (((List.range' st (ws.length - st)).take j).filter pr)))) rfl ?_ ?_
      · rintro j H'' hjl rfl
        have gr : (List.range' st (ws.length - st))[j]? = some (st + j) := by
          rw [List.getElem?_range' hjl, Nat.one_mul]
        rw [show ((st : Nat) : Int) + ((j : Nat) : Int) = ((st + j : Nat) : Int) by omega]
        have hwl : st + j < ws.length := by omega
        have ep : ws[st + j]? = some (ws[st + j]'hwl) := List.getElem?_eq_getElem hwl
        have hp' := hw _ (List.getElem_mem hwl)
        obtain ⟨c0, e0, y0⟩ := hp'.at0
        obtain ⟨c1, e1, y1⟩ := hp'.at1
        have eaD : ∀ o, upd H4 Dd o a = some (.tup [.str nm, .str x, y]) := fun o => by rw [upd_ne naD]; exact ea4
        have ewD : ∀ o, upd H4 Dd o wa = some (.lst (stepsV ws)) := fun o => by rw [upd_ne nwD]; exact ewa4
        have egD : ∀ o, upd H4 Dd o sg = some (.lst (sgL c)) := fun o => by rw [upd_ne ngD]; exact esg
        have aw : atI (stepsV ws) ((st + j : Nat) : Int) = some (V.str (stepS (ws[st + j]'hwl))) := atI_nat (get_map (fun p => V.str (stepS p)) ws hwl)
        have ok : pr (st + j) = (((ws[st + j]'hwl).1 == x) && ((ws[st + j]'hwl).2 == "r" || (c && (ws[st + j]'hwl).2 == "c"))) := by
          show (match ws[st + j]? with
            | some p => okAt c x p
            | none => false) = _
          rw [ep]
          rfl
        have tk : (List.range' st (ws.length - st)).take (j + 1) = (List.range' st (ws.length - st)).take j ++ [st + j] := by
          rw [List.take_succ, gr]
          rfl
        refine ⟨rfl, ev_and (b := (ws[st + j]'hwl).1 == x) (c := (ws[st + j]'hwl).2 == "r" || (c && (ws[st + j]'hwl).2 == "c"))
          (fun Q q => ⟨_, rfl, _, rfl, wa, _, _, _, rfl, rfl, SqL.of (ewD _), aw, _, 0, c0, rfl, rfl, strl2 hp'.len, e0, _, rfl, a, _, 1, .str x, rfl, rfl, SqT.of (eaD _), at1, rfl, _, rfl, by rw [y0, dec_str]; exact q⟩)
          (fun Q q => ⟨_, rfl, _, rfl, wa, _, _, _, rfl, rfl, SqL.of (ewD _), aw, _, 1, c1, rfl, rfl, strl2 hp'.len, e1, _, rfl, sg, _, rfl, .inl (SqL.of (egD _)), rfl, sg_flat c, _, rfl, by rw [y1]; show Q (inV _ (sgL c)) _; rw [sg_in hp'.2]; exact q⟩) _ ?_⟩
        rw [← ok]
        refine ite2 (fun z => ?_) (fun z => ?_)
        · refine ⟨_, rfl, _, upd_same, ?_, ?_⟩
          · rw [natV_len]
            refine small1000 (Nat.le_trans (List.length_filter_le _ _) ?_)
            rw [List.length_take]
            omega
          · rw [upd_upd, natV_snoc, tk, List.filter_append]
            congr 4
            rw [List.filter_cons_of_pos z]
            rfl
        · rw [tk, List.filter_append, List.filter_cons_of_neg z, List.filter_nil, List.append_nil]
      · rintro H'' rfl
        rw [List.take_of_length_le (by rw [List.length_range']; omega)]
        have s6 := s4.trans (Same.new (o := .lst (natV (hits ws c x st))) hD)
        have eD : upd H4 Dd (.lst (natV (hits ws c x st))) Dd = some (.lst ((((hits ws c x st)).map fun j : Nat => ((j : Nat) : Int)).map V.int)) := by rw [← natV_ints]; exact upd_same
        dsimp only [gName]
        refine seq_new (b := (((hits ws c x st)).map fun j : Nat => ((j : Nat) : Int)).isEmpty) (fun Q q => ⟨_, rfl, Nat.zero_le _, fun p hp => ⟨.list _, .list [], .lst (SqL.of (Same.new hp _ _ eD)) (dp_ints _), .lst (SqL.of upd_same) .nil, (ShN.lst (sh_ints 0 _)).ok (by decide), rfl, _, rfl, by rw [ints_nil]; exact q _ (Same.new hp)⟩⟩) (fun z H7 s7 => ?_) (fun z H7 s7 => ?_)
        · rw [hh] at z
          cases z
        · have eD7 := s7 _ _ eD
          rw [hh] at eD7
          refine ⟨_, rfl, Dd, _, 0, .int ((j0 : Nat) : Int), rfl, rfl, SqL.of eD7, at0, _, _, rfl, rfl, ?_⟩
          dsimp only [gName]
          refine rest' _ _ ⟨some (.ref sg), some (.ref Dd), ?_, s6.trans s7, by omega⟩
          rw [hst2]
          rfl
    · have := G.hb0 z
      subst this
      exact ⟨v10, v11, rfl, Same.refl _, hst⟩
  · rintro σ H2 ⟨v6, c, st, v9, v10, v11, s, d, rfl, hs, g, hst, s2⟩
    rw [List.drop_of_length_le (by omega)] at g
    obtain ⟨a, nm, rest, rfl, ea⟩ := hs.tag
    cases d with
    | zero => cases hs
    | succ d =>
    obtain ⟨x, p, qq, more, hre, htag, hend, hsi, hwi, hok, h1n, hnp⟩ := g.last hs ea
    have hil : i < ws.length := (List.getElem?_eq_some_iff.mp hwi).1
    have hqs : IsStep qq := hw _ (List.mem_of_getElem? hwi)
    obtain ⟨c0, e0, y0⟩ := hqs.at0
    obtain ⟨c1, e1, y1⟩ := hqs.at1
    have ewa2 := s2 _ _ ewa
    have aw : atI (stepsV ws) ((i : Nat) : Int) = some (V.str (stepS qq)) := atI_nat (by unfold stepsV; rw [List.getElem?_map, hwi]; rfl)
    unfold okAt at hok
    rw [Bool.and_eq_true] at hok
    dsimp only
    refine seq_new (b := false) (ev_or_new (b := false) (c := false) (fun Q q => ⟨_, rfl, a, _, 0, .str nm, rfl, rfl, SqT.of ea, at0, sz2, fun t2 ht2 => ⟨t2, _, rfl, .inr (SqT.of upd_same), rfl, rfl, _, rfl, ?_⟩⟩) (fun _ H3 s3 => ?_)) (fun z => nomatch z) (fun _ H3 s3 => ?_)
    · show Q (!inV (.str nm) [.str "step", .str "end"]) _
      rw [htag]
      exact q _ (Same.new ht2)
    · intro Q q
      refine (tag rfl (s3 _ _ ea) (z := "end") rfl) _ ?_
      refine ite2 (fun z => ?_) (fun _ => q _ (Same.refl _))
      have := hend z
      refine ⟨_, rfl, _, rfl, wa, _, rfl, .inl (SqL.of (s3 _ _ ewa2)), _, _, rfl, rfl, rfl, _, rfl, ?_⟩
      have e : decide (V.int ((i : Nat) : Int) = V.int (((stepsV ws).length : Int) - 1)) = true := decide_eq_true (by
        rw [lws]
        congr 1
        omega)
      rw [e]
      exact q _ (Same.refl _)
    · have ea3 := s3 _ _ ea
      rw [hre] at ea3
      have ewa3 := s3 _ _ ewa2
      refine seq_if (b := false || (false || false)) (ev_or (fun Q q => ?_) (ev_or (fun Q q => ?_) (fun Q q => ?_))) (fun z => nomatch z) (fun _ => ?_)
      · refine ⟨_, rfl, _, rfl, _, _, rfl, rfl, _, rfl, ?_⟩
        rw [decide_eq_true (by omega)]
        refine iteT ⟨_, rfl, wa, _, rfl, .inl (SqL.of ewa3), _, _, rfl, rfl, _, rfl, ?_⟩
        rw [decide_eq_true (by rw [lws]; omega)]
        exact q
      · refine ⟨_, rfl, _, rfl, wa, _, _, _, rfl, rfl, SqL.of ewa3, aw, _, 0, c0, rfl, rfl, strl2 hqs.len, e0, _, rfl, a, _, 1, .str x, rfl, rfl, SqT.of ea3, at1, rfl, _, rfl, ?_⟩
        rw [y0, dec_str, hok.1]
        exact q
      · refine ⟨_, rfl, _, _, rfl, rfl, _, rfl, ?_⟩
        rw [decide_eq_true (by omega)]
        refine iteT ⟨_, rfl, a, _, 2, .int p, rfl, rfl, SqT.of ea3, at2, _, _, rfl, rfl, _, rfl, ?_⟩
        rw [decide_eq_true (by omega)]
        exact q
      · have s4 := s2.trans s3
        refine ⟨_, rfl, _, rfl, wa, _, _, _, rfl, rfl, SqL.of ewa3, aw, _, 1, c1, rfl, rfl, strl2 hqs.len, e1, rfl, _, rfl, ?_⟩
        rw [y1, dec_str]
        refine ite2 (fun z => q _ s4) (fun z => ?_)
        have z0 : (qq.2 == "r") = false := Bool.eq_false_iff.mpr z
        have zc := hok.2
        rw [z0, Bool.false_or, Bool.and_eq_true] at zc
        refine ⟨_, rfl, _, rfl, wa, _, _, _, rfl, rfl, SqL.of ewa3, aw, _, 1, c1, rfl, rfl, strl2 hqs.len, e1, rfl, _, rfl, ?_⟩
        rw [y1, dec_str, zc.2]
        refine iteT ⟨_, rfl, ?_⟩
        rw [zc.1]
        exact q _ s4
end
end MS
end
section
set_option maxRecDepth 100000
set_option maxHeartbeats 4000000
/-! sorted(set(a list of whole numbers)) -/
namespace SSI
open PySem PySem.Spec PyProof.Rows L2
section
variable {prog : Program} {w : World} {A : Around} {E : Value → Shared → Prop} {s : Shared}
theorem call_setI {l : Addr} {items : Array Value} {ns : List Int} {Q : Value → Shared → Prop}
    (hh : A.handled = none) (hl : s.heap.IsList l items) (hi : PyProof.Rows.IntsAre items.toList ns) (hn1 : ns.length ≤ 1000)
    (h : ∀ (h' : Heap) (tk : Nat), (∃ c, c ≤ ns.length ∧ SetR w h' s.heap.objs.size (fun j => decide (j ∈ ns)) c) →
      (∀ b o, b < s.heap.objs.size → s.heap.get? b = some o → h'.get? b = some o) → Q (.ref s.heap.objs.size) { s with heap := h', toks := tk }) :
    wpAny (model prog w) A (call (.type "set") [.ref l]) Q E s := by
  obtain ⟨c, tl, hmro⟩ := PySem.F.called_set.mro
  have hmade := PySem.F.called_set.made
  have hsub := PySem.F.called_set.sub
  refine wpAny_call (codeAny_of_tree ?_)
  show wpAny _ _ (callAny (.type "set") _) _ _ _
  refine wpAny_pure ⟨Code.quiet_builtin _ (by decide +kernel), codeAny_builtin PySem.F.entry_type_call ?_⟩
  rw [Around.under_plain (weight_type_call_type "set" [.ref l] []) rfl]
  have h1 := PySem.F.called_set.notType
  have h2 := PySem.F.called_set.canCreate
  have hct := PySem.F.typeCall_set_1 (.ref l)
  repeat (any_goals (first | assumption | wp_step))
  refine codeAny_mono (code_set_led1 (P := prog) (w := w) (.ref l) (E := E) (Q₁ := fun obj s₁ => obj = .ref s.heap.objs.size ∧ s₁ = { s with heap := s.heap.push { cls := .type "set", dict := none, data := .set #[] 0 (.fresh 0 0 (!w.params.followText "set-order")) } }) ⟨rfl, rfl⟩) fun r s₁ hr => ?_
  generalize hled : (!w.params.followText "set-order") = led at hr
  cases r with
  | error e => exact hr
  | ok fl =>
    cases fl with
    | ret obj =>
      obtain ⟨rfl, rfl⟩ := hr
      have hS : (s.heap.push { cls := .type "set", dict := none, data := .set #[] 0 (.fresh 0 0 led) }).get? s.heap.objs.size = some { cls := .type "set", dict := none, data := .set #[] 0 (.fresh 0 0 led) } := Heap.get?_push_size _ rfl
      have hT : Shared.TypeIs { s with heap := s.heap.push { cls := .type "set", dict := none, data := .set #[] 0 (.fresh 0 0 led) } } (.ref s.heap.objs.size) "set" := ⟨_, hS, rfl⟩
      have hli := PySem.F.called_set.init.lookup
      have hbi := PySem.F.called_set.init.bind (.ref s.heap.objs.size)
      repeat (any_goals (first | assumption | wp_step))
      refine codeAny_mono (codeAny_call_builtin (R := wants (fun r s₂ => r = .none ∧ ∃ h' tk, s₂ = { s with heap := h', toks := tk } ∧
          (∃ c, c ≤ ns.length ∧ SetR w h' s.heap.objs.size (fun j => decide (j ∈ ns)) c) ∧
          (∀ b o, b < s.heap.objs.size → s.heap.get? b = some o → h'.get? b = some o)) E) PySem.F.called_set.init.plain PySem.F.entry_set_init (check_set_init_1 hT ?_)) fun r₂ s₂ hr₂ => ?_
      · obtain ⟨ol, hol, hcl, nl, hdl⟩ := hl
        obtain ⟨ocls, odict, odata, oslots⟩ := ol
        simp only at hcl hdl
        subst hcl; subst hdl
        have hol' : (s.heap.push { cls := .type "set", dict := none, data := .set #[] 0 (.fresh 0 0 led) }).get? l = some { cls := .type "list", dict := odict, data := .seq items nl, slots := oslots } := Heap.get?_push_of_some _ hol
        have hsls := PySem.F.sub_list_set
        have hslf := PySem.F.sub_list_frozenset
        have hne : (Value.type "list" == Value.type "dict") = false := by decide
        have hl1 : (s.heap.push { cls := .type "set", dict := none, data := .set #[] 0 (.fresh 0 0 led) }).IsList l items := ⟨_, hol', rfl, nl, rfl⟩
        unfold Builtin.«set.__init__» noKeywords Builtin.Frozenset.updateFrom
        generalize hPI : pyIter = PI
        wp_walk
        subst hPI
        refine wpAny_pyIter_list hl1 ?_
        refine wpAny_bind (wpAny_runValue ?_)
        have hlS : l < s.heap.objs.size := Heap.lt_size hol
        have hh3 : A.in1.in1.in1.handled = none := by simp [hh]
        have hneI : l ≠ (s.heap.push { cls := .type "set", dict := none, data := .set #[] 0 (.fresh 0 0 led) }).objs.size := by
          rw [Heap.size_push]; exact Nat.ne_of_lt (Nat.lt_succ_of_lt hlS)
        have hSf : s.heap.objs.size ∉ [(s.heap.push { cls := .type "set", dict := none, data := .set #[] 0 (.fresh 0 0 led) }).objs.size, l] := by
          rw [Heap.size_push]; simp only [List.mem_cons, List.mem_singleton, List.not_mem_nil, or_false, not_or]
          exact ⟨Nat.ne_of_lt (Nat.lt_succ_self _), Nat.ne_of_gt hlS⟩
        have hisz : items.size = ns.length := by
          have q := PyProof.Rows.IntsAre.length hi
          rw [Array.length_toList] at q
          exact q
        have hval : ∀ (i : Nat) (v : Value), items[i]? = some v → ∃ k t, ns[i]? = some k ∧ v = .int k t := fun i v hv => by
          have hil : i < ns.length := by rw [← hisz]; exact (Array.getElem?_eq_some_iff.mp hv).1
          obtain ⟨t, e⟩ := PyProof.Rows.IntsAre.int_at hi i v (by rw [Array.getElem?_toList]; exact hv)
          exact ⟨ns[i], t, List.getElem?_eq_getElem hil, by rw [e, List.getD_eq_getElem?_getD, List.getElem?_eq_getElem hil] <;> rfl⟩
        refine set_update_ints ((Walks.list hh3 _ l hneI items).toS) s.heap.objs.size
          hSf ns hisz (by unfold scanBound; omega) hval (items.size - 0) 0 _ (by omega) (Nat.zero_le _)
          ⟨⟨_, Heap.get?_push_size _ rfl, rfl, rfl⟩, (hl1.push _)⟩ ?hS0 ?hR
        case hS0 =>
          refine ⟨0, Nat.le_refl 0, setR_new_at ?_⟩
          rw [hled]
          exact Heap.get?_push_of_some _ hS
        case hR =>
          intro s' c' hm hc' hS'
          obtain ⟨h', g', d', tk', os'⟩ := s'
          have eg : g' = s.gens := hm.gens
          have ed : d' = s.drawn := hm.drawn
          have eo : os' = s.os := hm.os
          subst eg; subst ed; subst eo
          show wpAny _ _ _ _ _ _
          refine wpAny_pure ?_
          show wpAny _ _ (ret Value.none) _ _ _
          rw [hisz] at hc'
          refine wpAny_pure ⟨rfl, h', tk', rfl, ⟨c', hc', hS'⟩, fun b o hb e => ?_⟩
          have hb1 : b ≠ s.heap.objs.size := Nat.ne_of_lt hb
          have hb2 : b ≠ (s.heap.push { cls := .type "set", dict := none, data := .set #[] 0 (.fresh 0 0 led) }).objs.size := by
            rw [Heap.size_push]; exact Nat.ne_of_lt (Nat.lt_succ_of_lt hb)
          exact hm.heap b o (by simp only [List.mem_cons, List.mem_singleton, List.not_mem_nil, or_false, not_or]; exact ⟨hb1, hb2⟩) (Heap.get?_push_of_some _ (Heap.get?_push_of_some _ e))
      · cases r₂ with
        | error e => exact hr₂
        | ok fl₂ =>
          cases fl₂ with
          | ret r =>
            obtain ⟨rfl, h', tk, rfl, hS', hk'⟩ := hr₂
            repeat (any_goals (first | assumption | wp_step))
            exact h _ _ hS' hk'
          | _ => exact hr₂.elim
    | _ => exact hr.elim
end
/-- sorted(set(xs)), xs a list of whole numbers -/
def tSortSetI (K : PySem.W.Frag) (ta : TE) : TE := fun σ H Q => ta σ H fun x H1 => ∃ (l : Addr) (ns : List Int), x = .ref l ∧ SqL K H1 l (ns.map V.int) ∧ ns.length ≤ 60 ∧ ∀ (p : Addr) (ss : List Int), H1 p = none → ss.Pairwise (· < ·) → (∀ k, k ∈ ss ↔ k ∈ ns) → Q (.ref p) (upd H1 p (.lst (ss.map V.int)))
theorem pe_sortSetI {X : Cx} {a : Expr} {ta : TE} {p p2 q pos : Pos} (hc : X.calm = true) (hg : Gl X "sorted") (hm : X.mg "sorted" = none) (hg2 : Gl X "set") (hm2 : X.mg "set" = none) (ha : PE X a ta)
    (na : starEach [a] X.env = (false, eval a X.env) :: starEach [] X.env := by rfl) : PE X (.Call (.Name "sorted" p) [.Call (.Name "set" p2) [a] [] q] [] pos) (tSortSetI X.K ta) := by
  refine ⟨fun pins s σ H Q I h => ?_⟩
  refine Call_ (ld_blt I hg hm boot_sorted ?_)
  refine PyProof.Rows.callWith_builtin1 (PyProof.Rows.args_cons ?_ rfl) rfl rfl
  refine Call_ (ld_blt I hg2 hm2 boot_set ?_)
  refine PyProof.Rows.callWith_type1 (PyProof.Rows.args_cons (thn (ha.run pins s σ H _ I h) fun v s1 ⟨x, H1, I1, r1, q1⟩ => PyProof.Rows.args_nil ?_) na) na rfl
  obtain ⟨l, ns, rfl, hq, h1, q1⟩ := q1
  cases r1
  obtain ⟨its, r, pl, hz⟩ := I1.list hq
  refine call_setI (I1.ok.hd hc) pl.isList (ints_of_vals r) (by omega) fun h' tk ⟨c, hc', hS⟩ hk => ?_
  refine PyProof.Rows.args_nil ?_
  have I2 : Inv X pins σ H1 { s1 with heap := h', toks := tk } := I1.kept fun b o e => hk b o (Heap.lt_size e) e
  refine sorted_set hS (I2.ok.hd hc) (by omega) fun s' p out c2 ss k2 g2 o2 hp hget hss srt hmem hle => ?_
  have hlen : (ss.map V.int).length ≤ sizeLine := by rw [List.length_map, sizeLine_eq]; omega
  have hn : H1 p = none := I2.hok.fresh hp
  have J : L2.Inv X pins σ (upd H1 p (.lst (ss.map V.int))) { ({ heap := h', gens := s1.gens, drawn := s1.drawn, toks := tk, os := s1.os } : Shared) with heap := s'.heap, gens := s'.gens, drawn := s'.drawn, toks := s'.toks } :=
    I2.call (ch := []) (Un.laid k2 hp hn) (I2.hok.laid k2 hp ⟨hlen, out.toList, c2, vals_of_ints hss, hget⟩) (by rw [g2]; exact I2.bare) (fun _ z => nomatch z)
  have e : s' = { s1 with heap := s'.heap, gens := s'.gens, drawn := s'.drawn, toks := s'.toks } := by
    obtain ⟨h3, g3, d3, t3, os3⟩ := s'
    obtain rfl : os3 = s1.os := o2
    rfl
  rw [e]
  exact ⟨.ref p, _, J, rfl, q1 p ss hn srt fun k => by rw [hmem k, decide_eq_true_eq]⟩
end SSI
end
section
set_option maxRecDepth 100000
set_option maxHeartbeats 4000000
namespace MS
open PySem L2
/-! ### the law -/
abbrev s_law : Stmt := topS 54
abbrev nmLaw : List Str := ["_law_script", "_law_box", "_law_letters_here", "_law_paper_here", "_law_leaves_here", "_law_turn", "_law_work_here", "_law_rows", "_law_places", "_law_row"]
theorem sc_law : FnScope nmLaw ["_law_script"] (defScope s_law) := ⟨rfl, rfl, rfl, by decide +kernel, rfl, by decide +kernel, by decide +kernel⟩
def whD (x : List Nat) : PyData := .tuple (x.map fun j => PyData.int ((j : Nat) : Int))
theorem whD_eq : ∀ x y : List Nat, PyData.eqv (whD x) (whD y) = decide (x = y) := by
  have key : ∀ x y : List Nat, PyData.eqvAll (x.map fun j => PyData.int ((j : Nat) : Int)) (y.map fun j => PyData.int ((j : Nat) : Int)) = decide (x = y) := by
    intro x
    induction x with
    | nil => intro y; cases y with
      | nil => simp [PyData.eqvAll]
      | cons b s => simp [PyData.eqvAll]
    | cons a r ih => intro y; cases y with
      | nil => simp [PyData.eqvAll]
      | cons b s =>
        simp only [List.map_cons, PyData.eqvAll, ih s, PyData.eqv]
        by_cases e : a = b
        · subst e
          simp
        · have : ((a : Int) == (b : Int)) = false := beq_false_of_ne (by omega)
          rw [this]
          simp [e]
  intro x y
  unfold whD
  rw [PyData.eqv]
  exact key x y
theorem whD_sh (x : List Nat) : ShN 1 (whD x) := ShN.tup (ShAll.of fun d hd => by
  obtain ⟨j, _, rfl⟩ := List.mem_map.mp hd
  exact .int _)
theorem whs_sh (l : List (List Nat)) : SeqAt.shaped (.list (l.map whD)) = true := (ShN.lst (n := 1) (ShAll.of fun d hd => by
  obtain ⟨x, _, rfl⟩ := List.mem_map.mp hd
  exact whD_sh x)).ok (by decide)
theorem nat_dp {K : PySem.W.Frag} {H : Hp} : ∀ x : List Nat, DpAll K H (natV x) (x.map fun j => PyData.int ((j : Nat) : Int))
  | [] => .nil
  | j :: r => .cons (.int _) (nat_dp r)
theorem whD_dp {K : PySem.W.Frag} {H : Hp} {b : Addr} {x : List Nat} (h : H b = some (.tup (natV x))) : Dp K H (.ref b) (whD x) := .tup (SqT.of h) (nat_dp x)
theorem whs_dp {K : PySem.W.Frag} {H : Hp} : ∀ {l : List (List Nat)} {uv : List V}, Paired (WhR H) l uv → DpAll K H uv (l.map whD)
  | _, _, .nil => .nil
  | _, _, .cons h t => by
    obtain ⟨b, rfl, e⟩ := h
    exact .cons (whD_dp e) (whs_dp t)
theorem rise_uniq : ∀ {a b : List Int}, a.Pairwise (· < ·) → b.Pairwise (· < ·) → (∀ k, k ∈ a ↔ k ∈ b) → a = b
  | [], [], _, _, _ => rfl
  | [], y :: ys, _, _, h => absurd ((h y).2 List.mem_cons_self) (by simp)
  | x :: xs, [], _, _, h => absurd ((h x).1 List.mem_cons_self) (by simp)
  | x :: xs, y :: ys, ha, hb, h => by
    obtain ⟨a1, a2⟩ := List.pairwise_cons.mp ha
    obtain ⟨b1, b2⟩ := List.pairwise_cons.mp hb
    have e : x = y := by
      rcases List.mem_cons.mp ((h x).1 List.mem_cons_self) with e | m
      · exact e
      · rcases List.mem_cons.mp ((h y).2 List.mem_cons_self) with e | m2
        · exact e.symm
        · have := b1 x m
          have := a1 y m2
          omega
    subst e
    rw [rise_uniq a2 b2 fun k => ⟨fun m => ?_, fun m => ?_⟩]
    · rcases List.mem_cons.mp ((h k).1 (List.mem_cons_of_mem _ m)) with e | m2
      · have := a1 k m
        omega
      · exact m2
    · rcases List.mem_cons.mp ((h k).2 (List.mem_cons_of_mem _ m)) with e | m2
      · have := b1 k m
        omega
      · exact m2
structure DLaw (K : PySem.W.Frag) (mg : Str → Option Value) where
  DBg : Def K mg "_law_begun" s_L_begun ["_law_script"]
  DT : Def K mg "_law_take" s_L_take ["_law_box", "_law_many"]
  DLe : Def K mg "_law_letters" s_L_letters ["_law_box"]
  DSc : Def K mg "_law_scheme" s_L_scheme psScheme
  DCo : Def K mg "_law_counted" s_L_counted psCounted
  DPa : Def K mg "_law_paper" s_L_paper ["_law_box", "_law_letters_here"]
  DSt : Def K mg "_law_step" s_L_step ["_law_box", "_law_letters_here", "_law_was_wrong"]
  DWk : Def K mg "_law_work" s_L_work ["_law_box", "_law_letters_here", "_law_most"]
  DLv : Def K mg "_law_leaves" s_L_leaves psLeaves
  DIs : Def K mg "_law_is_earned" s_L_is_earned psIs
def spLaw (K : PySem.W.Frag) : Sp := fun vs H Q _ => ∃ (a : Addr) (ns : List Int), vs = [.ref a] ∧ SqL K H a (ns.map V.int) ∧ ns.length ≤ 63 ∧ ∀ H', Q (.bl true) H'
abbrev POk : Type := { ps : List Sch // PaperOk ps }
def spERs : Sp := fun vs H Q E => ∃ x : PW, spRowsBy1 x vs H Q E
def spLVs : Sp := fun vs H Q E => ∃ x : POk, spLeaves x.1 x.1.length 30 vs H Q E
def spISs : Sp := fun vs H Q E => ∃ x : PW, spIs x vs H Q E
section
variable {P : Program} {w : World} {K : PySem.W.Frag} {mg : Str → Option Value} {base : Heap} {C : Addr}
theorem ok_law (T : PTx w K mg) (Y : VCls K mg C) (D : DRows K mg) (DP : DPaper K mg) (DL : DLaw K mg) (DW : Def K mg "law" s_law ["_law_script"]) : FnOk P w K mg base CX0 96 DW.f DW.fd ["_law_script"] (spLaw K) := by
  have ml : mg "len" = none := T.free "len" (by decide +kernel)
  have mli : mg "list" = none := T.free "list" (by decide +kernel)
  have mi : mg "int" = none := T.free "int" (by decide +kernel)
  have mr : mg "range" = none := T.free "range" (by decide +kernel)
  have mt : mg "tuple" = none := T.free "tuple" (by decide +kernel)
  have mis : mg "isinstance" = none := T.free "isinstance" (by decide +kernel)
  have ma : mg "any" = none := T.free "any" (by decide +kernel)
  have mso : mg "sorted" = none := T.free "sorted" (by decide +kernel)
  have mse : mg "set" = none := T.free "set" (by decide +kernel)
  have GBg : FnOk P w K mg base CX0 1 DL.DBg.f DL.DBg.fd ["_law_script"] (spBegun K) := ok_begun DL.DBg ml mli mi
  have GLe : FnOk P w K mg base CX0 2 DL.DLe.f DL.DLe.fd ["_law_box"] spLetters := ok_letters DL.DLe DL.DT ml mli mr
  have GPa : FnOk P w K mg base CX0 7 DL.DPa.f DL.DPa.fd ["_law_box", "_law_letters_here"] spPaper := ok_paper DL.DPa DL.DT DL.DSc DL.DCo ml mr mt mi mis mli
  have GWk : FnOk P w K mg base CX0 3 DL.DWk.f DL.DWk.fd ["_law_box", "_law_letters_here", "_law_most"] spWork := ok_work DL.DWk DL.DT DL.DSt ml mr ma
  have GLv : FnOk P w K mg base CX0 30 DL.DLv.f DL.DLv.fd psLeaves spLVs := fn_any fun x : POk => by
    obtain ⟨ce, hf, _, _⟩ := x.2.facts
    exact ok_leaves (fun j s e => (hf j s e).1) DL.DLv mli mr ml 30
  have GER : FnOk P w K mg base CX0 95 D.DN.f D.DN.fd ["paper", "work"] spERs := fn_any fun x => ok_earned_p x T Y D DP
  have GIs : FnOk P w K mg base CX0 1 DL.DIs.f DL.DIs.fd psIs spISs := fn_any fun x => ok_is_earned x DL.DIs ml mr mi
  have nd := sc_law.nd
  refine DW.ok sc_law (fun vs H Q E h => ?_) (fun cdv A outer s H vs Q E hr h => ?_)
  · obtain ⟨a, ns, rfl, _⟩ := h
    rfl
  obtain ⟨a, ns, rfl, hS, hlen, q⟩ := h
  have r1 : Room 1 _ := hr.mono (by decide)
  have r2 : Room 2 _ := hr.mono (by decide)
  have r3 : Room 3 _ := hr.mono (by decide)
  have r7 : Room 7 _ := hr.mono (by decide)
  have r30 : Room 30 _ := hr.mono (by decide)
  have hu : (A.deeper (PyProof.Rows.envOfC "law" (defScope s_law) s.heap.objs.size DW.f cdv)).units + 65 < cLine := by have := hr.un; omega
  refine ⟨_, pss_cons (ps_set (i := 1) nd rfl (Or.inl rfl) (pcall DL.DBg GBg r1 (pa_cons (pv 0) pa_nil)))
    (pss_cons (ps_set (i := 2) nd rfl (Or.inl rfl) (pcall DL.DLe GLe r2 (pa_cons (pv 1) pa_nil)))
    (pss_cons (ps_set (i := 3) nd rfl (Or.inr rfl) (pcall DL.DPa GPa r7 (pa_cons (pv 1) (pa_cons (pv 2) pa_nil))))
    (pss_cons (ps_set (i := 4) nd rfl (Or.inr rfl) (pcall DL.DLv GLv r30 (pa_cons (pv 3) (pa_cons (pe_ix ix_tup (pv 3) pe_int (fun _ _ => rfl)) (pa_cons (pe_tup pa_nil) pa_nil)))))
    (pss_cons (ps_for PassesOwn.never rfl (pi_range1 rfl mr (pa_cons pe_int pa_nil)) (pg_name (i := 5) nd rfl (Or.inl rfl))
      (pss_cons (ps_set (i := 6) nd rfl (Or.inr rfl) (pcall DL.DWk GWk r3 (pa_cons (pv 1) (pa_cons (pv 2) (pa_cons pe_int pa_nil)))))
      (pss_cons (ps_set (i := 7) nd rfl (Or.inl rfl) (pcall D.DN GER hr (pa_cons (pv 3) (pa_cons (pv 6) pa_nil))))
      (pss_cons (ps_setLc (i := 8) (own := [("_law_row", 9)]) (g := gName 9) (te := tBM K "list" (rIndexD K) (tVar 4) (tCons (tOp (rIxT K) (tVar 9) (tC (.int 2))) tNil)) rfl nd rfl (by kernel_rfl) (sw_true rfl (by kernel_rfl) rfl (by decide +kernel)) (pi_list (pv 7)) (blkOk_by (N := nmLaw) (sc := defScope s_law) (by decide +kernel)) (fun _ _ _ _ _ => pg_name (i := 9) nd rfl (Or.inl rfl))
          (fun _ _ _ _ _ => pts_one (pt_cmpR (r := rInD K) (op_inD hu) (pe_ix (r := rIxT K) ix_tup (pv 9) pe_int (fun _ _ => rfl)) (pv 4) (by rfl)))
          (fun _ _ _ _ _ => pe_bm (r := rIndexD K) PySem.F.plainAttrs_list PySem.F.slot_list_index PySem.F.type_list_index (mt_indexD hu) (pv 4) (pa_cons (pe_ix (r := rIxT K) ix_tup (pv 9) pe_int (fun _ _ => rfl)) pa_nil)))
      (pss_cons (ps_if (PW.pt (pw_or (pt_cmpR op_ne (pe_callB call_len_seq rfl ml PySem.boot_len (pa_cons (pv 8) pa_nil)) (pe_callB call_len_seq rfl ml PySem.boot_len (pa_cons (pv 7) pa_nil)) (nomark _)) (pw_or1 (pt_cmpR (op_neD hr.units) (pv 8) (SSI.pe_sortSetI rfl rfl mso rfl mse (pv 8)) (nomark _))))) (pss_one (ps_ret pe_bl)) pss_nil)
      (pss_one (ps_if (pt_cmpR (op_neD hr.units) (pe_lc (own := [("_law_row", 9)]) (g := gName 9) rfl nd (pi_list (pv 7)) (blkOk_by (N := nmLaw) (sc := defScope s_law) (by decide +kernel)) (fun _ _ _ _ _ => pg_name (i := 9) nd rfl (Or.inl rfl))
          (fun _ _ _ _ _ => pts_one (pt_not (pt_val (pcall DL.DIs GIs r1 (pa_cons (pv 3) (pa_cons (pv 6) (pa_cons (pv 9) pa_nil)))))))
          (fun _ _ _ _ _ => pv 9)) (pe_lst pa_nil) (nomark _)) (pss_one (ps_ret pe_bl)) pss_nil)))))))
    (pss_one (ps_ret pe_bl)))))), ?_⟩
  refine ⟨_, rfl, a, ns, rfl, hS, hlen, fun b l H1 hb hl B1 s1 => ?_⟩
  dsimp only [gName]
  refine ⟨_, rfl, b, l, rfl, B1, fun L F H2 hL eL w1 l0 l1 B2 k2 => ?_⟩
  dsimp only [gName]
  have nL := B1.ne_new hL
  have nLi : L ∉ [b, l] := by simp [nL.1, nL.2]
  refine ⟨_, rfl, _, rfl, b, l, L, F, rfl, B2, nL.1, nL.2, eL, w1, l0, l1, fun v ps H3 hp hP B3 k3 => ?_⟩
  dsimp only [gName]
  obtain ⟨pa, pv0, rfl, epv, pp⟩ := hp
  have eL3 := k3 L _ eL nLi
  have keepP : ∀ {H H' : Hp}, TupK H H' → Paired (SAt H 5) ps pv0 → Paired (SAt H' 5) ps pv0 := fun k p => paired_imp p fun _ _ => SAt.keep k _ _ _
  have hPl := hP.1
  have h5 := hP.2.1
  have hl7 := lvAll_len hP
  obtain ⟨ce, hfacts, _, _⟩ := hP.facts
  obtain ⟨s0, t0, rfl⟩ : ∃ s0 t0, ps = s0 :: t0 := by
    cases ps with
    | nil => exact absurd hPl (by decide)
    | cons s0 t0 => exact ⟨_, _, rfl⟩
  obtain ⟨o0, _⟩ := hfacts 0 s0 rfl
  obtain ⟨v0, ev0, hs0⟩ := paired_get2 pp (k := 0) rfl
  refine ⟨_, rfl, _, rfl, pa, pv0, 0, v0, rfl, rfl, SqT.of epv, atI_nat (j := 0) ev0, Nat.zero_le _, fun e he => ?_⟩
  have s4 : Same H3 (upd H3 e (.tup [])) := Same.new he
  have toB : ∀ {H H' : Hp}, Box H b l → Same H H' → Box H' b l := fun B k => B.keep (Same.keep (S := []) k) (by simp) (by simp)
  refine ⟨⟨s0 :: t0, hP⟩, pa, e, v0, s0, 0, 5, [], rfl, ⟨pv0, s4 _ _ epv, keepP (Same.tupK s4) pp⟩, SAt.keep (Same.tupK s4) _ _ _ hs0, o0, ?_, by decide, ?_, upd_same, fun La uv H5 s5 hLa eLa plv => ?_⟩
  · show ((s0 :: t0).length - 0) * 5 + 5 ≤ 30
    omega
  · show (lvAll (s0 :: t0)).length ≤ 100
    omega
  have plv : Paired (WhR H5) (lvAll (s0 :: t0)) uv := plv
  have s45 := s4.trans s5
  have hLa3 := s4.free hLa
  have B5 := toB B3 s45
  have nLa := B3.ne_new hLa3
  have nLai : La ∉ [b, l] := by simp [nLa.1, nLa.2]
  dsimp only [gName]
  generalize hps : s0 :: t0 = ps at *
  refine ⟨8, rfl, by decide, by decide, ?_⟩
  refine for_range (lo := 0) (n := 8) (fun i σ H' => ∃ v5 v6 v7 v8 : Option V, σ = [some (.ref a), some (.ref b), some (.ref L), some (.ref pa), some (.ref La), v5, v6, v7, v8, none] ∧ Box H' b l ∧ H' L = some (.lst (F.map V.str)) ∧ H' pa = some (.tup pv0) ∧ Paired (SAt H' 5) ps pv0 ∧ H' La = some (.lst uv) ∧ Paired (WhR H') (lvAll ps) uv)
    ⟨none, none, none, none, rfl, B5, s45 _ _ eL3, s45 _ _ epv, keepP (Same.tupK s45) pp, eLa, plv⟩ ?_ ?_
  · rintro i σ H6 hi ⟨v5, v6, v7, v8, rfl, B6, eL6, epv6, pp6, eLa6, plv6⟩
    dsimp only [gName]
    refine ⟨_, rfl, _, rfl, b, l, L, F, rfl, B6, nL.1, nL.2, eL6, w1, l0, l1, fun wa ws H7 hwa ewa hW B7 k7 => ?_⟩
    dsimp only [gName]
    have tk7 := B6.tup k7
    have eL7 := k7 L _ eL6 nLi
    have eLa7 := k7 La _ eLa6 nLai
    have epv7 := tk7 _ _ epv6
    have pp7 := keepP tk7 pp6
    have plv7 := paired_imp plv6 fun _ _ h => WhR.keep h tk7
    let xx : PW := ⟨(ps, ws), hP, hW⟩
    refine ⟨_, rfl, _, rfl, xx, pa, wa, rfl, ⟨⟨pv0, epv7, pp7⟩, ewa⟩, fun f rv H8 s8 hf ef pr => ?_⟩
    dsimp only [gName]
    have pr : Paired (RowR H8) (rAll ps ws) rv := pr
    have lrv := Paired.length pr
    have l63 : (rAll ps ws).length ≤ 63 := rAll_len xx
    have lsub : (rAll ps ws).length ≤ 7 := by
      have := (rAll_sub ps ws).length_le
      have e : (whs (rAll ps ws)).length = (rAll ps ws).length := List.length_map _
      omega
    have eLa8 := s8 _ _ eLa7
    have plv8 := paired_imp plv7 fun _ _ h => WhR.keep h (Same.tupK s8)
    let ix : Row → Int := fun r => (((lvAll ps).idxOf r.2.2 : Nat) : Int)
    refine ⟨_, rfl, f, rfl, ⟨_, SqL.of ef⟩, fun Dd hD => ?_⟩
    have nfD : f ≠ Dd := ne_of_none ef hD
    have nlD : La ≠ Dd := ne_of_none eLa8 hD
    refine lc_list (K := K) (a := f) (xs := rv) (fun j H'' => H'' = upd H8 Dd (.lst (((rAll ps ws).take j).map fun r => V.int (ix r)))) rfl (fun j H'' _ e => by rw [e]; exact SqL.of (by rw [upd_ne nfD]; exact ef)) ?_ ?_
    · rintro j x H'' hj rfl
      obtain ⟨r, er, ⟨t, c, rfl, et, ec⟩⟩ := paired_get' pr hj
      have hjl := (List.getElem?_eq_some_iff.mp er).1
      have sD : ∀ o, Same H8 (upd H8 Dd o) := fun o => Same.new hD
      have hm : r.2.2 ∈ lvAll ps := (rAll_sub ps ws).subset (List.mem_map_of_mem (List.mem_of_getElem? er))
      have hix := List.idxOf_lt_length_of_mem hm
      have gix : (lvAll ps)[(lvAll ps).idxOf r.2.2]? = some r.2.2 := by
        rw [List.getElem?_eq_getElem hix, List.getElem_idxOf hix]
      have dl : ∀ o, Dp K (upd H8 Dd o) (.ref La) (.list ((lvAll ps).map whD)) := fun o => .lst (SqL.of (sD o _ _ eLa8)) (whs_dp (paired_imp plv8 fun _ _ h => WhR.keep h (Same.tupK (sD o))))
      have hany : (((lvAll ps).map whD).any fun z => PyData.eqv z (whD r.2.2)) = true := List.any_eq_true.mpr ⟨_, List.mem_map_of_mem hm, by rw [whD_eq]; simp⟩
      refine ⟨rfl, _, rfl, t, _, 2, .ref c, rfl, rfl, SqT.of (sD _ _ _ et), at2, _, rfl, whD r.2.2, _, whD_dp (sD _ _ _ ec), dl _, (whD_sh _).ok (by decide), whs_sh _, _, rfl, ?_⟩
      rw [hany]
      refine iteT ?_
      refine ⟨_, rfl, .inl ⟨rfl, _, SqL.of (sD _ _ _ eLa8)⟩, _, rfl, t, _, 2, .ref c, rfl, rfl, SqT.of (sD _ _ _ et), at2, La, .ref c, whD r.2.2, _, (lvAll ps).idxOf r.2.2, whD r.2.2, rfl, rfl, dl _, whD_dp (sD _ _ _ ec), whs_sh _, (whD_sh _).ok (by decide), ?_, ?_, ?_, ?_⟩
      · rw [List.getElem?_map, gix]
        rfl
      · rw [whD_eq]
        simp
      · intro m z hm hz
        rw [List.getElem?_map] at hz
        have hml : m < (lvAll ps).length := by omega
        rw [List.getElem?_eq_getElem hml] at hz
        obtain rfl := Option.some.inj hz
        rw [whD_eq]
        refine decide_eq_false fun e => ?_
        exact absurd hm (by
          have := (List.Nodup.idxOf_getElem (lvAll_nodup ps) m hml)
          rw [e] at this
          omega)
      · refine ⟨_, upd_same, ?_, ?_⟩
        · rw [List.length_map, List.length_take]
          exact small1000 (by omega)
        · rw [upd_upd, List.take_succ, er, List.map_append]
          rfl
    · rintro H'' rfl
      rw [← lrv, List.take_length]
      have s9 : Same H8 (upd H8 Dd (.lst ((rAll ps ws).map fun r => V.int (ix r)))) := Same.new hD
      have eD9 : upd H8 Dd (.lst ((rAll ps ws).map fun r => V.int (ix r))) Dd = some (.lst (((rAll ps ws).map ix).map V.int)) := by rw [upd_same, List.map_map]; rfl
      dsimp only [gName]
      generalize upd H8 Dd (.lst ((rAll ps ws).map fun r => V.int (ix r))) = H9 at s9 eD9
      have rise : ((rAll ps ws).map ix).Pairwise (· < ·) := by
        have := idx_rise (rAll_sub ps ws) (lvAll_nodup ps)
        unfold whs at this
        rw [List.map_map, List.pairwise_map] at this
        rw [List.pairwise_map]
        exact this.imp fun h => Int.ofNat_lt.mpr h
      have lix : (((rAll ps ws).map ix).map V.int).length = rv.length := by rw [List.length_map, List.length_map, lrv]
      refine seq_new (b := false || false) (ev_or_new (b := false) (c := false) (fun Q q => ⟨_, rfl, Dd, _, rfl, .inl (SqL.of eD9), _, rfl, f, _, rfl, .inl (SqL.of (s9 _ _ ef)), rfl, _, rfl, ?_⟩) (fun _ H10 s10 Q q => ⟨_, rfl, _, rfl, Dd, _, rfl, SqL.of (s10 _ _ eD9), ?_, fun p ss hp srt hmem => ?_⟩)) (fun z => nomatch z) (fun _ H10 s10 => ?_)
      · rw [lix]
        have e : decide (V.int ((rv.length : Nat) : Int) = V.int ((rv.length : Nat) : Int)) = true := decide_eq_true rfl
        rw [e]
        exact q _ (Same.refl _)
      · rw [List.length_map]
        omega
      · have e := rise_uniq srt rise hmem
        subst e
        have sp : Same H10 (upd H10 p (.lst ((((rAll ps ws).map ix)).map V.int))) := Same.new hp
        have shD : ShN 1 (.list (((rAll ps ws).map ix).map PyData.int)) := ShN.lst (sh_ints 0 _)
        refine ⟨.list (((rAll ps ws).map ix).map PyData.int), .list (((rAll ps ws).map ix).map PyData.int), .lst (SqL.of (sp _ _ (s10 _ _ eD9))) (dp_ints _), .lst (SqL.of upd_same) (dp_ints _), shD.ok (by decide), shD.ok (by decide), _, rfl, ?_⟩
        rw [SeqAt.eqv_refl _ shD.1]
        exact q _ sp
      · have s810 := s9.trans s10
        have ef10 := s810 _ _ ef
        have pr10 := paired_imp pr fun _ _ h => RowR.keep h (Same.tupK s810)
        have fin : ∀ H', Same H10 H' → Box H' b l ∧ H' L = some (.lst (F.map V.str)) ∧ H' pa = some (.tup pv0) ∧ Paired (SAt H' 5) ps pv0 ∧ H' La = some (.lst uv) ∧ Paired (WhR H') (lvAll ps) uv := fun H' s => by
          have sm := (s8.trans s810).trans s
          exact ⟨toB B7 sm, sm _ _ eL7, sm _ _ epv7, keepP (Same.tupK sm) pp7, sm _ _ eLa7, paired_imp plv7 fun _ _ h => WhR.keep h (Same.tupK sm)⟩
        refine one_new (u := tNext) (b := false) (fun Q q => ?_) (fun z => nomatch z) (fun _ H11 s11 => ?_)
        · refine ⟨_, rfl, f, rfl, ⟨_, SqL.of ef10⟩, fun D2 hD2 => ?_⟩
          refine lc_list (K := K) (a := f) (xs := rv) (fun j H'' => H'' D2 = some (.lst []) ∧ Same H10 H'') ⟨upd_same, Same.new hD2⟩ (fun j H'' _ e => SqL.of (e.2 _ _ ef10)) ?_ ?_
          · rintro j x H'' hj ⟨e2, s12⟩
            obtain ⟨r, er, hr'⟩ := paired_get' pr10 hj
            have sm := (s8.trans s810).trans s12
            have hrm := List.mem_of_getElem? er
            have gg : ∃ s1 t1, ps = s1 :: t1 ∧ Goes ps ws r.1 r.2.1 s1 0 false r.2.2 := by
              refine ⟨s0, t0, hps.symm, ?_⟩
              have hrm' : r ∈ rP ps ws 30 s0 0 false [] := by
                rw [← hps] at hrm ⊢
                exact hrm
              obtain ⟨u, e1, g⟩ := rP_goes (fun j s e => (hfacts j s e).1) 30 0 5 s0 0 false [] o0 r hrm'
              rw [List.nil_append] at e1
              rw [e1]
              exact g
            refine ⟨rfl, _, rfl, _, rfl, _, rfl, xx, pa, wa, x, r, rfl, ⟨⟨pv0, sm _ _ epv7, keepP (Same.tupK sm) pp7⟩, sm _ _ ewa⟩, RowR.keep hr' (Same.tupK s12), gg, fun H13 s13 => ?_⟩
            refine ⟨true, rfl, ?_⟩
            exact ⟨s13 _ _ e2, s12.trans s13⟩
          · rintro H'' ⟨e2, s12⟩
            refine ⟨Nat.zero_le _, fun p hp => ⟨.list [], .list [], .lst (SqL.of (Same.new hp _ _ e2)) .nil, .lst (SqL.of upd_same) .nil, rfl, rfl, _, rfl, q _ (s12.trans (Same.new hp))⟩⟩
        · exact ⟨_, _, _, _, rfl, fin H11 s11⟩
  · rintro σ H6 ⟨v5, v6, v7, v8, rfl, _⟩
    exact q H6
end
end MS
end
section
set_option maxRecDepth 100000
set_option maxHeartbeats 0
namespace K3H
open PySem PySem.W PySem.Calls PyProof.Rows
abbrev R : OpenRow := OpenLaw.row PySem.Challenge.rw_markscript_k21_whole_who_earns
abbrev qv : Program := view R.prog [54]
def names0 : List PySem.Str := ["MarkError", "BadPaper", "BadWork", "WORDS", "RIGHT", "WRONG", "CARRIED", "MOST_STEPS", "is_step", "check_work", "SHAPES", "BOUNDS", "MOST_WITHIN", "is_number", "fits", "can_be", "within", "MOST_IN_PAPER", "MOST_IN_SCHEME", "LONGEST_PLACE", "EARNERS", "MOST_EARNERS", "WATCHERS", "MOST_WATCHERS", "placed", "schemes_in", "many_of"]
def names1 : List PySem.Str := ["check_paper", "View", "points_of", "first_points", "row_at", "rows_of_each", "rows_of_all", "rows_of", "rows_by", "earned", "_law_begun", "_law_take", "_law_alike", "_law_letters", "_law_scheme", "_law_counted", "_law_paper", "_law_step", "_law_work", "_law_leaves", "_law_is_earned"]
def names : List PySem.Str := names0 ++ names1
/-- a def of the top -/
def dG (x : PySem.Str) (st : Stmt) : He.DefD := ⟨(x, none), x, x, L2.defArgs st, L2.defBody st, L2.defScope st, [], []⟩
def dM (m q : PySem.Str) (st : Stmt) : He.DefD := ⟨("View", some m), m, q, L2.defArgs st, L2.defBody st, L2.defScope st, [], []⟩
def fn0 : List He.DefD := [dG "is_step" MS.s_is_step, dG "check_work" MS.s_check_work, dG "is_number" MS.s_is_number, dG "fits" MS.s_fits, dG "can_be" MS.s_can_be, dG "within" MS.s_within, dG "placed" MS.s_placed, dG "schemes_in" MS.s_schemes_in, dG "many_of" MS.s_many_of, dG "check_paper" MS.s_check_paper, dG "points_of" MS.s_points_of, dG "first_points" MS.s_first_points, dG "row_at" MS.s_row_at, dG "rows_of_each" MS.s_rows_of_each, dG "rows_of_all" MS.s_rows_of_all, dG "rows_of" MS.s_rows_of, dG "rows_by" MS.s_rows_by, dG "earned" MS.s_earned]
def fn1 : List He.DefD := [dG "_law_begun" MS.s_L_begun, dG "_law_take" MS.s_L_take, dG "_law_alike" MS.s_L_alike, dG "_law_letters" MS.s_L_letters, dG "_law_scheme" MS.s_L_scheme, dG "_law_counted" MS.s_L_counted, dG "_law_paper" MS.s_L_paper, dG "_law_step" MS.s_L_step, dG "_law_work" MS.s_L_work, dG "_law_leaves" MS.s_L_leaves, dG "_law_is_earned" MS.s_L_is_earned, dG "law" MS.s_law]
def fnM : List He.DefD := [dM "__init__" "View.__init__" MS.s_View_init, dM "counts" "View.counts" MS.s_View_counts, dM "first" "View.first" MS.s_View_first, dM "last" "View.last" MS.s_View_last, dM "stands" "View.stands" MS.s_View_stands, dM "behind" "View.behind" MS.s_View_behind, dM "carrying" "View.carrying" MS.s_View_carrying]
def fn : List He.DefD := fn0 ++ (fn1 ++ (fnM))
def glo0 : List PySem.Str := ["WORDS", "is_step", "check_work", "SHAPES", "BOUNDS", "is_number", "fits", "can_be", "within", "EARNERS", "WATCHERS", "placed", "schemes_in", "many_of", "check_paper", "View", "points_of", "first_points", "row_at", "rows_of_each", "rows_of_all", "rows_of"]
def glo1 : List PySem.Str := ["rows_by", "earned", "_law_begun", "_law_take", "_law_alike", "_law_letters", "_law_scheme", "_law_counted", "_law_paper", "_law_step", "_law_work", "_law_leaves", "_law_is_earned", "law"]
def gloL : List PySem.Str := glo0 ++ glo1
def freeL : List PySem.Str := ["len", "list", "range", "tuple", "int", "isinstance", "any", "all", "zip", "enumerate", "str", "bool", "min", "max", "sum", "sorted", "set", "reversed"]
def restF : List He.Fa := [.str "RIGHT" "r", .str "WRONG" "w", .str "CARRIED" "c", .int "MOST_STEPS" 12, .int "MOST_WITHIN" 4, .int "MOST_IN_PAPER" 5, .int "MOST_IN_SCHEME" 12, .int "LONGEST_PLACE" 4, .int "MOST_EARNERS" 7, .int "MOST_WATCHERS" 3,
  .cls "View", .noat "View" "steps", .noat "View" "start", .noat "View" "ways", .mkr "View"]
def methF : List He.Fa := [.meth "View" "__init__", .meth "View" "counts", .meth "View" "first", .meth "View" "last", .meth "View" "stands", .meth "View" "behind", .meth "View" "carrying"]
def fa : List He.Fa := gloL.map .glo ++ (freeL.map .free ++ (restF ++ methF))
/-- what stands at a key of a dict of the top, if it is an object -/
def inD (x k : PySem.Str) (K : Frag) : Addr := match nsIn K (He.ga K x) k with
  | some (some (.ref a)) => a
  | _ => 0
/-- a tuple of these stands there -/
def tupAt (K : Frag) (a : Addr) (vs : List L2.V) : Bool := match K.lookup a with
  | some ⟨.type c, _, .seq its _, _⟩ => decide (c = "tuple") && (decide (its.size ≤ sizeLine) && He.relAll vs its.toList)
  | _ => false
def entB (x : PySem.Str) (k : PySem.Str) (vs : List L2.V) (K : Frag) : Bool := He.eqO (nsIn K (He.ga K x) k) (some (some (.ref (inD x k K)))) && tupAt K (inD x k K) vs
def shapesV : List (PySem.Str × List L2.V) := [("step", [.str "word", .str "points"]), ("all", [.str "schemes"]), ("best", [.str "schemes"]), ("most", [.str "limit", .str "scheme"]), ("half", [.str "scheme"]), ("seen", [.str "word", .str "scheme"]), ("behind", [.str "word", .str "scheme"]), ("carry", [.str "scheme"]), ("end", [.str "word", .str "points", .str "scheme"]), ("use", [.str "later"])]
def boundsV : List (PySem.Str × List L2.V) := [("points", [.int 1, .int 9]), ("limit", [.int 0, .int 30])]
def wordsD : List He.Dv := [.str "a", .str "b", .str "c", .str "d", .str "e", .str "f", .str "g", .str "h"]
def ex (K : Frag) : Bool := He.tupB K "WORDS" wordsD && (He.tupB K "EARNERS" [.str "step", .str "end"] && (He.tupB K "WATCHERS" [.str "seen", .str "behind"] && (shapesV.all (fun p => entB "SHAPES" p.1 p.2 K) && boundsV.all (fun p => entB "BOUNDS" p.1 p.2 K))))
def ts : List He.Tab := [(fun K => He.ga K "SHAPES", shapesV.map (·.1)), (fun K => He.ga K "BOUNDS", boundsV.map (·.1))]
abbrev hk : Hook := He.hookX 5 fa fn ts [] ex
def ob (s : SharedT) : He.AlX := He.obsX 5 fa fn ts [] ex (HandSHeadRun.getT s)
theorem ob_eq (s : SharedT) : ob s = hk.obs s.abs := He.obsX_eq (HandSHeadRun.getT_eq s)
theorem run (w : World) : HandSHeadRun.RunEq R qv hk ob 4000 names w :=
  byRow2 "special-get-raises" (P := fun w => HandSHeadRun.RunEq R qv hk ob 4000 names w) (fun w os => by kernel_rfl) (fun w os => by kernel_rfl) w
end K3H
end
section
set_option maxRecDepth 100000
set_option maxHeartbeats 4000000
namespace MS
open PySem L2
/-! ### the head: what the top has left -/
theorem tupAt_ok {K : PySem.W.Frag} {a : Addr} {vs : List V} (h : K3H.tupAt K a vs = true) (H : Hp) : SqT K H a vs := by
  unfold K3H.tupAt at h
  cases q : K.lookup a with
  | none =>
    rw [q] at h
    cases h
  | some o =>
    obtain ⟨oc, od, dt, osl⟩ := o
    rw [q] at h
    cases oc with
    | type c =>
      cases dt with
      | seq its n =>
        obtain ⟨g1, g2⟩ := He.ba (show (decide (c = "tuple") && (decide (its.size ≤ sizeLine) && He.relAll vs its.toList)) = true from h)
        obtain ⟨g3, g4⟩ := He.ba g2
        exact .inr ⟨_, its, n, q, congrArg Value.type (of_decide_eq_true g1), rfl, of_decide_eq_true g3, He.relAll_ok g4⟩
      | _ => cases h
    | _ => cases dt <;> cases h
theorem ent_ok {w : World} {K : PySem.W.Frag} {x k : Str} {vs : List V} (hd : ∃ es n, KDict K w (He.ga K x) es n) (h : K3H.entB x k vs K = true) : ∃ t, KDct K w (He.ga K x) k (.ref t) ∧ ∀ H, SqT K H t vs := by
  obtain ⟨h1, h2⟩ := He.ba h
  obtain ⟨es, n, l, kl, _⟩ := hd
  exact ⟨K3H.inD x k K, ⟨es, n, _, l, kl, He.eqO_ok h1, rfl⟩, fun H => tupAt_ok h2 H⟩
section
variable {w : World} {K : PySem.W.Frag} {h : Heap} {mg : Str → Option Value}
theorem fa_glo (c : He.SaysD K3H.fa K3H.fn K) {x : Str} (hx : x ∈ K3H.gloL) : (He.Fa.glo x).ok K = true := c.facts (List.mem_append_left _ (List.mem_map_of_mem hx))
theorem fa_free (c : He.SaysD K3H.fa K3H.fn K) {x : Str} (hx : x ∈ K3H.freeL) : (He.Fa.free x).ok K = true := c.facts (List.mem_append_right _ (List.mem_append_left _ (List.mem_map_of_mem hx)))
theorem fa_rest (c : He.SaysD K3H.fa K3H.fn K) (i : Nat) {f : He.Fa} (hi : K3H.restF[i]? = some f := by rfl) : f.ok K = true := c.facts (List.mem_append_right _ (List.mem_append_right _ (List.mem_append_left _ (List.mem_of_getElem? hi))))
theorem fa_meth (c : He.SaysD K3H.fa K3H.fn K) (i : Nat) {f : He.Fa} (hi : K3H.methF[i]? = some f := by rfl) : f.ok K = true := c.facts (List.mem_append_right _ (List.mem_append_right _ (List.mem_append_right _ (List.mem_of_getElem? hi))))
theorem fn_0 (c : He.SaysD K3H.fa K3H.fn K) (i : Nat) {d : He.DefD} (hi : K3H.fn0[i]? = some d := by rfl) : ∃ fd, FunD K d.name d.qual d.params d.body d.scope (d.dvs K) (d.kws K) (He.fAd K d.at_) fd := c.defs (List.mem_append_left _ (List.mem_of_getElem? hi))
theorem fn_1 (c : He.SaysD K3H.fa K3H.fn K) (i : Nat) {d : He.DefD} (hi : K3H.fn1[i]? = some d := by rfl) : ∃ fd, FunD K d.name d.qual d.params d.body d.scope (d.dvs K) (d.kws K) (He.fAd K d.at_) fd := c.defs (List.mem_append_right _ (List.mem_append_left _ (List.mem_of_getElem? hi)))
theorem fn_M (c : He.SaysD K3H.fa K3H.fn K) (i : Nat) {d : He.DefD} (hi : K3H.fnM[i]? = some d := by rfl) : ∃ fd, FunD K d.name d.qual d.params d.body d.scope (d.dvs K) (d.kws K) (He.fAd K d.at_) fd := c.defs (List.mem_append_right _ (List.mem_append_right _ (List.mem_of_getElem? hi)))
noncomputable def mkDef (X : K.In h) (G : h.Ns mainGlobals mg) (x : Str) (st : Stmt) (ps : List Str) (hg : (He.Fa.glo x).ok K = true) (hd : ∃ fd, FnP K x st (He.ga K x) fd) (hb : ∀ fd, FnP K x st (He.ga K x) fd → Binds K fd ps []) : Def K mg x st ps :=
  ⟨He.ga K x, hd.choose, hd.choose_spec, He.glo_ok X G hg, hb _ hd.choose_spec⟩
noncomputable def mkDefM (m q : Str) (st : Stmt) (ps : List Str) (hm : (He.Fa.meth "View" m).ok K = true) (hd : ∃ fd, FunD K m q (defArgs st) (defBody st) (defScope st) [] [] (He.ma K (He.ga K "View") m) fd) (hb : ∀ fd, FunD K m q (defArgs st) (defBody st) (defScope st) [] [] (He.ma K (He.ga K "View") m) fd → Binds K fd ps []) : DefM K (He.ga K "View") m q st ps :=
  ⟨He.ma K (He.ga K "View") m, hd.choose, hd.choose_spec, He.meth_ok hm, hb _ hd.choose_spec⟩
theorem ptx (X : K.In h) (G : h.Ns mainGlobals mg) (c : He.SaysT K3H.fa K3H.fn K3H.ts w K) (e : K3H.ex K = true) : PTx w K mg := by
  have d := c.d
  obtain ⟨e1, e⟩ := He.ba e
  obtain ⟨e2, e⟩ := He.ba e
  obtain ⟨e3, e⟩ := He.ba e
  obtain ⟨e4, e5⟩ := He.ba e
  have tS := c.tab 0 (t := (fun K => He.ga K "SHAPES", K3H.shapesV.map (·.1))) rfl
  have tB := c.tab 1 (t := (fun K => He.ga K "BOUNDS", K3H.boundsV.map (·.1))) rfl
  have bS : ∀ p ∈ K3H.boundsV, ∃ t, KDct K w (He.ga K "BOUNDS") p.1 (.ref t) ∧ ∀ H, SqT K H t p.2 := fun p hp => ent_ok tB (List.all_eq_true.mp e5 p hp)
  obtain ⟨t1, k1, q1⟩ := bS ("points", [.int 1, .int 9]) List.mem_cons_self
  obtain ⟨t2, k2, q2⟩ := bS ("limit", [.int 0, .int 30]) (List.mem_cons_of_mem _ List.mem_cons_self)
  have hSh : ∀ p ∈ shapesL, ∃ t, KDct K w (He.ga K "SHAPES") p.1 (.ref t) ∧ ∀ H, SqT K H t (p.2.map V.str) := fun p hp => by
    have hm : (p.1, p.2.map V.str) ∈ K3H.shapesV := by
      have hp' : (p.1, p.2.map V.str) ∈ shapesL.map fun p => (p.1, p.2.map V.str) := List.mem_map_of_mem (f := fun p : Str × List Str => (p.1, p.2.map V.str)) hp
      exact hp'
    exact ent_ok (x := "SHAPES") (k := p.1) (vs := p.2.map V.str) tS (List.all_eq_true.mp e4 _ hm)
  exact {
    words := ⟨_, He.glo_ok X G (fa_glo d (x := "WORDS") (by decide +kernel)), fun H => He.tupB_ok e1 H⟩
    right := He.str_ok X G (fa_rest d 0)
    wrong := He.str_ok X G (fa_rest d 1)
    carried := He.str_ok X G (fa_rest d 2)
    mostSteps := He.int_ok X G (fa_rest d 3)
    mostWithin := He.int_ok X G (fa_rest d 4)
    mostInPaper := He.int_ok X G (fa_rest d 5)
    mostInScheme := He.int_ok X G (fa_rest d 6)
    longest := He.int_ok X G (fa_rest d 7)
    mostE := He.int_ok X G (fa_rest d 8)
    mostW := He.int_ok X G (fa_rest d 9)
    earners := ⟨_, He.glo_ok X G (fa_glo d (x := "EARNERS") (by decide +kernel)), fun H => He.tupB_ok e2 H⟩
    watchers := ⟨_, He.glo_ok X G (fa_glo d (x := "WATCHERS") (by decide +kernel)), fun H => He.tupB_ok e3 H⟩
    shapes := ⟨_, He.glo_ok X G (fa_glo d (x := "SHAPES") (by decide +kernel)), by
      obtain ⟨_, _, _, _, z⟩ := tS
      exact z, hSh⟩
    bounds := ⟨_, He.glo_ok X G (fa_glo d (x := "BOUNDS") (by decide +kernel)), t1, t2, k1, q1, k2, q2⟩
    free := fun x hx => He.free_ok X G (fa_free d hx) }
end
end MS
end
section
set_option maxRecDepth 100000
set_option maxHeartbeats 4000000
namespace MS
open PySem L2
section
set_option maxHeartbeats 0
theorem facts {P : Program} {w : World} {K : PySem.W.Frag} {h : Heap} {mg : Str → Option Value} {f : Addr} (X : K.In h) (G : h.Ns mainGlobals mg) (hfa : mg ("law" : Str) = some (.ref f)) (c : He.SaysX K3H.fa K3H.fn K3H.ts [] K3H.ex w h K) :
    ∃ fd : FuncData, (∀ (s : Shared) (v : Value), BindsTo s fd ⟨[v], []⟩ [("_law_script", v)]) ∧ ∀ base : Heap, K.In base → base.Ns mainGlobals mg → FnOk P w K mg base CX0 96 f fd ["_law_script"] (spLaw K) := by
  have d := c.t.d
  have T := ptx X G c.t c.more
  let Y : VCls K mg (He.ga K "View") := {
    cl := He.cls_ok (fa_rest d 10)
    nSteps := He.noat_ok (fa_rest d 11)
    nStart := He.noat_ok (fa_rest d 12)
    nWays := He.noat_ok (fa_rest d 13)
    mgC := He.glo_ok X G (fa_glo d (x := "View") (by decide +kernel))
    makes := (He.mkr_ok (fa_rest d 14)).makes
    kp := (He.mkr_ok (fa_rest d 14)).kp
    DI := mkDefM "__init__" "View.__init__" s_View_init ["self", "steps", "start", "ways"] (fa_meth d 0) (fn_M d 0 (d := K3H.dM "__init__" "View.__init__" s_View_init)) fun fd F => F.bindsN fun _ _ _ _ _ _ us hl => match us, hl with | [_, _, _, _], _ => rfl
    DC := mkDefM "counts" "View.counts" s_View_counts ["self", "place", "word"] (fa_meth d 1) (fn_M d 1 (d := K3H.dM "counts" "View.counts" s_View_counts)) fun fd F => F.bindsN fun _ _ _ _ _ _ us hl => match us, hl with | [_, _, _], _ => rfl
    DF := mkDefM "first" "View.first" s_View_first ["self", "word"] (fa_meth d 2) (fn_M d 2 (d := K3H.dM "first" "View.first" s_View_first)) fun fd F => F.bindsN fun _ _ _ _ _ _ us hl => match us, hl with | [_, _], _ => rfl
    DL := mkDefM "last" "View.last" s_View_last ["self", "word"] (fa_meth d 3) (fn_M d 3 (d := K3H.dM "last" "View.last" s_View_last)) fun fd F => F.bindsN fun _ _ _ _ _ _ us hl => match us, hl with | [_, _], _ => rfl
    DS := mkDefM "stands" "View.stands" s_View_stands ["self", "word"] (fa_meth d 4) (fn_M d 4 (d := K3H.dM "stands" "View.stands" s_View_stands)) fun fd F => F.bindsN fun _ _ _ _ _ _ us hl => match us, hl with | [_, _], _ => rfl
    DB := mkDefM "behind" "View.behind" s_View_behind ["self", "place"] (fa_meth d 5) (fn_M d 5 (d := K3H.dM "behind" "View.behind" s_View_behind)) fun fd F => F.bindsN fun _ _ _ _ _ _ us hl => match us, hl with | [_, _], _ => rfl
    DY := mkDefM "carrying" "View.carrying" s_View_carrying ["self"] (fa_meth d 6) (fn_M d 6 (d := K3H.dM "carrying" "View.carrying" s_View_carrying)) fun fd F => F.bindsN fun _ _ _ _ _ _ us hl => match us, hl with | [_], _ => rfl }
  let D : DRows K mg := {
    DPt := (mkDef X G "points_of" s_points_of ["rows"] (fa_glo d (by decide +kernel)) (fn_0 d 10 (d := K3H.dG "points_of" s_points_of)) fun fd F => F.bindsN fun _ _ _ _ _ _ us hl => match us, hl with | [_], _ => rfl)
    DFp := (mkDef X G "first_points" s_first_points ["rows", "limit"] (fa_glo d (by decide +kernel)) (fn_0 d 11 (d := K3H.dG "first_points" s_first_points)) fun fd F => F.bindsN fun _ _ _ _ _ _ us hl => match us, hl with | [_, _], _ => rfl)
    DRa := (mkDef X G "row_at" s_row_at ["place", "points", "where"] (fa_glo d (by decide +kernel)) (fn_0 d 12 (d := K3H.dG "row_at" s_row_at)) fun fd F => F.bindsN fun _ _ _ _ _ _ us hl => match us, hl with | [_, _, _], _ => rfl)
    DE := (mkDef X G "rows_of_each" s_rows_of_each ["paper", "schemes", "where", "view"] (fa_glo d (by decide +kernel)) (fn_0 d 13 (d := K3H.dG "rows_of_each" s_rows_of_each)) fun fd F => F.bindsN fun _ _ _ _ _ _ us hl => match us, hl with | [_, _, _, _], _ => rfl)
    DA := (mkDef X G "rows_of_all" s_rows_of_all ["paper", "schemes", "where", "view"] (fa_glo d (by decide +kernel)) (fn_0 d 14 (d := K3H.dG "rows_of_all" s_rows_of_all)) fun fd F => F.bindsN fun _ _ _ _ _ _ us hl => match us, hl with | [_, _, _, _], _ => rfl)
    DR := (mkDef X G "rows_of" s_rows_of ["paper", "scheme", "where", "view"] (fa_glo d (by decide +kernel)) (fn_0 d 15 (d := K3H.dG "rows_of" s_rows_of)) fun fd F => F.bindsN fun _ _ _ _ _ _ us hl => match us, hl with | [_, _, _, _], _ => rfl)
    DB := (mkDef X G "rows_by" s_rows_by ["paper", "work"] (fa_glo d (by decide +kernel)) (fn_0 d 16 (d := K3H.dG "rows_by" s_rows_by)) fun fd F => F.bindsN fun _ _ _ _ _ _ us hl => match us, hl with | [_, _], _ => rfl)
    DI := (mkDef X G "is_step" s_is_step ["thing"] (fa_glo d (by decide +kernel)) (fn_0 d 0 (d := K3H.dG "is_step" s_is_step)) fun fd F => F.bindsN fun _ _ _ _ _ _ us hl => match us, hl with | [_], _ => rfl)
    DC := (mkDef X G "check_work" s_check_work ["work"] (fa_glo d (by decide +kernel)) (fn_0 d 1 (d := K3H.dG "check_work" s_check_work)) fun fd F => F.bindsN fun _ _ _ _ _ _ us hl => match us, hl with | [_], _ => rfl)
    DN := (mkDef X G "earned" s_earned ["paper", "work"] (fa_glo d (by decide +kernel)) (fn_0 d 17 (d := K3H.dG "earned" s_earned)) fun fd F => F.bindsN fun _ _ _ _ _ _ us hl => match us, hl with | [_, _], _ => rfl) }
  let DP : DPaper K mg := {
    DN := (mkDef X G "is_number" s_is_number ["thing"] (fa_glo d (by decide +kernel)) (fn_0 d 2 (d := K3H.dG "is_number" s_is_number)) fun fd F => F.bindsN fun _ _ _ _ _ _ us hl => match us, hl with | [_], _ => rfl)
    DF := (mkDef X G "fits" s_fits ["part", "kind", "number", "many"] (fa_glo d (by decide +kernel)) (fn_0 d 3 (d := K3H.dG "fits" s_fits)) fun fd F => F.bindsN fun _ _ _ _ _ _ us hl => match us, hl with | [_, _, _, _], _ => rfl)
    DB := (mkDef X G "can_be" s_can_be ["thing", "number", "many"] (fa_glo d (by decide +kernel)) (fn_0 d 4 (d := K3H.dG "can_be" s_can_be)) fun fd F => F.bindsN fun _ _ _ _ _ _ us hl => match us, hl with | [_, _, _], _ => rfl)
    DI := (mkDef X G "within" s_within ["scheme"] (fa_glo d (by decide +kernel)) (fn_0 d 5 (d := K3H.dG "within" s_within)) fun fd F => F.bindsN fun _ _ _ _ _ _ us hl => match us, hl with | [_], _ => rfl)
    DP := (mkDef X G "placed" s_placed ["schemes", "place"] (fa_glo d (by decide +kernel)) (fn_0 d 6 (d := K3H.dG "placed" s_placed)) fun fd F => F.bindsN fun _ _ _ _ _ _ us hl => match us, hl with | [_, _], _ => rfl)
    DS := (mkDef X G "schemes_in" s_schemes_in ["paper", "number"] (fa_glo d (by decide +kernel)) (fn_0 d 7 (d := K3H.dG "schemes_in" s_schemes_in)) fun fd F => F.bindsN fun _ _ _ _ _ _ us hl => match us, hl with | [_, _], _ => rfl)
    DM := (mkDef X G "many_of" s_many_of ["names", "parts"] (fa_glo d (by decide +kernel)) (fn_0 d 8 (d := K3H.dG "many_of" s_many_of)) fun fd F => F.bindsN fun _ _ _ _ _ _ us hl => match us, hl with | [_, _], _ => rfl)
    DC := (mkDef X G "check_paper" s_check_paper ["paper"] (fa_glo d (by decide +kernel)) (fn_0 d 9 (d := K3H.dG "check_paper" s_check_paper)) fun fd F => F.bindsN fun _ _ _ _ _ _ us hl => match us, hl with | [_], _ => rfl) }
  let DL : DLaw K mg := {
    DBg := (mkDef X G "_law_begun" s_L_begun ["_law_script"] (fa_glo d (by decide +kernel)) (fn_1 d 0 (d := K3H.dG "_law_begun" s_L_begun)) fun fd F => F.bindsN fun _ _ _ _ _ _ us hl => match us, hl with | [_], _ => rfl)
    DT := (mkDef X G "_law_take" s_L_take ["_law_box", "_law_many"] (fa_glo d (by decide +kernel)) (fn_1 d 1 (d := K3H.dG "_law_take" s_L_take)) fun fd F => F.bindsN fun _ _ _ _ _ _ us hl => match us, hl with | [_, _], _ => rfl)
    DLe := (mkDef X G "_law_letters" s_L_letters ["_law_box"] (fa_glo d (by decide +kernel)) (fn_1 d 3 (d := K3H.dG "_law_letters" s_L_letters)) fun fd F => F.bindsN fun _ _ _ _ _ _ us hl => match us, hl with | [_], _ => rfl)
    DSc := (mkDef X G "_law_scheme" s_L_scheme ["_law_box", "_law_letters_here", "_law_left", "_law_deep", "_law_uses"] (fa_glo d (by decide +kernel)) (fn_1 d 4 (d := K3H.dG "_law_scheme" s_L_scheme)) fun fd F => F.bindsN fun _ _ _ _ _ _ us hl => match us, hl with | [_, _, _, _, _], _ => rfl)
    DCo := (mkDef X G "_law_counted" s_L_counted ["_law_scheme_here", "_law_uses"] (fa_glo d (by decide +kernel)) (fn_1 d 5 (d := K3H.dG "_law_counted" s_L_counted)) fun fd F => F.bindsN fun _ _ _ _ _ _ us hl => match us, hl with | [_, _], _ => rfl)
    DPa := (mkDef X G "_law_paper" s_L_paper ["_law_box", "_law_letters_here"] (fa_glo d (by decide +kernel)) (fn_1 d 6 (d := K3H.dG "_law_paper" s_L_paper)) fun fd F => F.bindsN fun _ _ _ _ _ _ us hl => match us, hl with | [_, _], _ => rfl)
    DSt := (mkDef X G "_law_step" s_L_step ["_law_box", "_law_letters_here", "_law_was_wrong"] (fa_glo d (by decide +kernel)) (fn_1 d 7 (d := K3H.dG "_law_step" s_L_step)) fun fd F => F.bindsN fun _ _ _ _ _ _ us hl => match us, hl with | [_, _, _], _ => rfl)
    DWk := (mkDef X G "_law_work" s_L_work ["_law_box", "_law_letters_here", "_law_most"] (fa_glo d (by decide +kernel)) (fn_1 d 8 (d := K3H.dG "_law_work" s_L_work)) fun fd F => F.bindsN fun _ _ _ _ _ _ us hl => match us, hl with | [_, _, _], _ => rfl)
    DLv := (mkDef X G "_law_leaves" s_L_leaves ["_law_paper_here", "_law_scheme_here", "_law_where"] (fa_glo d (by decide +kernel)) (fn_1 d 9 (d := K3H.dG "_law_leaves" s_L_leaves)) fun fd F => F.bindsN fun _ _ _ _ _ _ us hl => match us, hl with | [_, _, _], _ => rfl)
    DIs := (mkDef X G "_law_is_earned" s_L_is_earned ["_law_paper_here", "_law_work_here", "_law_row"] (fa_glo d (by decide +kernel)) (fn_1 d 10 (d := K3H.dG "_law_is_earned" s_L_is_earned)) fun fd F => F.bindsN fun _ _ _ _ _ _ us hl => match us, hl with | [_, _, _], _ => rfl) }
  let DW : Def K mg "law" s_law ["_law_script"] := (mkDef X G "law" s_law ["_law_script"] (fa_glo d (by decide +kernel)) (fn_1 d 11 (d := K3H.dG "law" s_law)) fun fd F => F.bindsN fun _ _ _ _ _ _ us hl => match us, hl with | [_], _ => rfl)
  have e : f = DW.f := by
    have e := hfa.symm.trans DW.g
    cases e
    rfl
  subst e
  exact ⟨DW.fd, fun s v => FunD.bindsA (ps := ["_law_script"]) DW.F (fun _ _ _ _ _ _ us hl => match us, hl with | [_], _ => rfl) s [v] rfl, fun base _ _ => ok_law T Y D DP DL DW⟩
end
end MS
end
set_option Elab.async false
open PySem PySem.W PySem.Calls PyProof.Rows
set_option maxRecDepth 100000 in
set_option maxHeartbeats 0 in
theorem PySem.Challenge.cw_markscript_k21_whole_who_earns_holds : PySem.Challenge.rw_markscript_k21_whole_who_earns.Holds := by
  w_on; o_law
  refine HandSHeadRun.head_any (r := OpenLaw.row PySem.Challenge.rw_markscript_k21_whole_who_earns) (q := view (OpenLaw.row PySem.Challenge.rw_markscript_k21_whole_who_earns).prog [54]) (H := K3H.hk) (ob := K3H.ob) (M := 4000) (loose := K3H.names) (d := HandSHeadRun.topDef (OpenLaw.row PySem.Challenge.rw_markscript_k21_whole_who_earns).prog 54) (kwd := []) K3H.ob_eq
    (by kernel_rfl) (fun s => by kernel_rfl) K3H.run (by kernel_rfl) (by kernel_rfl) (by kernel_rfl) (by rfl) (by first | assumption | decide +kernel) (by decide +kernel) ⟨rfl, rfl, rfl, rfl, rfl, by decide +kernel⟩ ?hw ?hc
  case hw => w_witness2
  case hc =>
    refine L2.walk_ofE (l := PySem.Challenge.rw_markscript_k21_whole_who_earns) (n := 63) (k := 96) (x := "_law_script") (CX := L2.CX0) rfl (by decide) (by kernel_rfl) ⟨rfl, by decide, by decide⟩ ?F (fun _ _ _ _ z => z)
    intro w mg fa h Y G hmg0
    obtain ⟨K, KX, c⟩ := Y
    have hmg : mg ("law" : PySem.Str) = some (.ref fa) := by
      have e : (HandSHeadRun.topDef (OpenLaw.row PySem.Challenge.rw_markscript_k21_whole_who_earns).prog 54).name = ("law" : PySem.Str) := by kernel_rfl
      rw [← e]
      exact hmg0
    obtain ⟨fd, hb, hF⟩ := MS.facts (P := (PySem.Challenge.rw_markscript_k21_whole_who_earns).prog) (w := w) KX G hmg c
    exact ⟨K, fd, MS.spLaw K, KX, hb, fun H a ns hl _ hS => ⟨a, ns, rfl, hS, hl, fun _ => rfl⟩, hF⟩
#print axioms PySem.Challenge.cw_markscript_k21_whole_who_earns_holds
