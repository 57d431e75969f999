import PyProof.Rows.All
import Wide.All
import OpenK.AllK
import Wide.FinOn
import KE.KStateDown
import HandS.Walk
import HandS.Conv
import HandS.Head0
import HandS.Head1
import HandS.Head2
import HandS.HeadEnd
import HandS.HeadHook1
import HandS.HeadHook2
import HandS.HeadHook3
import HandS.HeadHook4
import HandS.NestedK
import HandS.EndTab
import HandS.HeadWalk
import Lean
import KE.DataMinKey
import HandS.ForMost
import HandS.Exc
import HandS.TryOnly
import HandS.ExcOwn
import HandS.WordsExc
import HandS.Defaults
import HandS.Flow
import HandS.Style
import HandS.TupAny
import HandS.Zip
import HandS.IsInst
import HandS.RevRange
import HandS.SetKeys
import HandS.WrittenGet
import HandS.Strs
import HandS.SortKw
import KE.GoesEnum
import HandS.Set
import PyProof.Rows.SortStr
import PyProof.Rows.SortShellK
import KE.KExcSuper
import HandS.ExcInit
import HandS.ExcSuper
import HandS.Nested
import HandS.FStr
import KE.KExcIs
import HandS.ExcIs
import HandS.ExcField
import KE.SortData
import KE.LtSeq
import KE.LtData
import KE.KSortTup
import HandS.Base
import HandS.Call
import HandS.List
import HandS.TupSets
import PyProof.EqAt
import PyProof.EqKinds
import PyProof.TupleCall
import PyProof.DictCompW
import KE.KEqDict
import KE.KDictCopyH
import KE.KDictList
import HandS.Comp
import HandS.Dict
import HandS.More
import HandS.DictComp
import HandS.ExcCtx
import HandS.Hot
import HandS.HotCalls
import HandS.SuiteRaise
import HandS.RaiseFrom
import HandS.ExcInitHot
import KE.KAssignIn
import PyProof.NeKinds
import HandS.Lambda
import HandS.RaiseMore
import HandS.StrMore
import HandS.TupLe
import HandS.Deep
import PySem.Challenge.RW_markscript_k22_whole_there_and_back
set_option Elab.async false
set_option linter.all false
set_option maxRecDepth 100000
section
set_option maxRecDepth 100000
set_option maxHeartbeats 4000000
namespace MS
open PySem L2
def topS (i : Nat) : Stmt := PySem.Challenge.pw_markscript_k22_whole_there_and_back.main.body.getD i (.Pass ⟨0, 0, 0, 0⟩)
abbrev s_is_step : Stmt := topS 14
/-- slots: 0 thing -/
theorem sc_is_step : FnScope ["thing"] ["thing"] (defScope s_is_step) := ⟨rfl, rfl, rfl, by decide +kernel, rfl, by decide +kernel, by decide +kernel⟩
abbrev s_check_work : Stmt := topS 15
/-- slots: 0 work, 1 went_wrong, 2 number, 3 step -/
theorem sc_check_work : FnScope ["work", "went_wrong", "number", "step"] ["work"] (defScope s_check_work) := ⟨rfl, rfl, rfl, by decide +kernel, rfl, by decide +kernel, by decide +kernel⟩
abbrev s_is_number : Stmt := topS 20
/-- slots: 0 thing -/
theorem sc_is_number : FnScope ["thing"] ["thing"] (defScope s_is_number) := ⟨rfl, rfl, rfl, by decide +kernel, rfl, by decide +kernel, by decide +kernel⟩
abbrev s_fits : Stmt := topS 21
/-- slots: 0 part, 1 kind, 2 number, 3 many, 4 least, 5 most -/
theorem sc_fits : FnScope ["part", "kind", "number", "many", "least", "most"] ["part", "kind", "number", "many"] (defScope s_fits) := ⟨rfl, rfl, rfl, by decide +kernel, rfl, by decide +kernel, by decide +kernel⟩
abbrev s_can_be : Stmt := topS 22
/-- slots: 0 thing, 1 number, 2 many, 3 shape, 4 part, 5 kind -/
theorem sc_can_be : FnScope ["thing", "number", "many", "shape", "part", "kind"] ["thing", "number", "many"] (defScope s_can_be) := ⟨rfl, rfl, rfl, by decide +kernel, rfl, by decide +kernel, by decide +kernel⟩
abbrev s_within : Stmt := topS 23
/-- slots: 0 scheme, 1 last -/
theorem sc_within : FnScope ["scheme", "last"] ["scheme"] (defScope s_within) := ⟨rfl, rfl, rfl, by decide +kernel, rfl, by decide +kernel, by decide +kernel⟩
abbrev s_placed : Stmt := topS 32
/-- slots: 0 schemes, 1 place, 2 at, 3 scheme -/
theorem sc_placed : FnScope ["schemes", "place", "at", "scheme"] ["schemes", "place"] (defScope s_placed) := ⟨rfl, rfl, rfl, by decide +kernel, rfl, by decide +kernel, by decide +kernel⟩
abbrev s_schemes_in : Stmt := topS 33
/-- slots: 0 paper, 1 number, 2 found, 3 waiting, 4 place, 5 scheme -/
theorem sc_schemes_in : FnScope ["paper", "number", "found", "waiting", "place", "scheme"] ["paper", "number"] (defScope s_schemes_in) := ⟨rfl, rfl, rfl, by decide +kernel, rfl, by decide +kernel, by decide +kernel⟩
abbrev s_many_of : Stmt := topS 34
/-- slots: 0 names, 1 parts, 2 many, 3 number, 4 scheme -/
theorem sc_many_of : FnScope ["names", "parts", "many", "number", "scheme"] ["names", "parts"] (defScope s_many_of) := ⟨rfl, rfl, rfl, by decide +kernel, rfl, by decide +kernel, by decide +kernel⟩
abbrev s_check_paper : Stmt := topS 35
/-- slots: 0 paper, 1 parts, 2 number -/
theorem sc_check_paper : FnScope ["paper", "parts", "number"] ["paper"] (defScope s_check_paper) := ⟨rfl, rfl, rfl, by decide +kernel, rfl, by decide +kernel, by decide +kernel⟩
abbrev s_View_init : Stmt := inClass (topS 37) 0
/-- slots: 0 self, 1 steps, 2 start, 3 ways -/
theorem sc_View_init : FnScope ["self", "steps", "start", "ways"] ["self", "steps", "start", "ways"] (defScope s_View_init) := ⟨rfl, rfl, rfl, by decide +kernel, rfl, by decide +kernel, by decide +kernel⟩
abbrev s_View_counts : Stmt := inClass (topS 37) 1
/-- slots: 0 self, 1 place, 2 word, 3 step -/
theorem sc_View_counts : FnScope ["self", "place", "word", "step"] ["self", "place", "word"] (defScope s_View_counts) := ⟨rfl, rfl, rfl, by decide +kernel, rfl, by decide +kernel, by decide +kernel⟩
abbrev s_View_first : Stmt := inClass (topS 37) 2
/-- slots: 0 self, 1 word, 2 place -/
theorem sc_View_first : FnScope ["self", "word", "place"] ["self", "word"] (defScope s_View_first) := ⟨rfl, rfl, rfl, by decide +kernel, rfl, by decide +kernel, by decide +kernel⟩
abbrev s_View_last : Stmt := inClass (topS 37) 3
/-- slots: 0 self, 1 word, 2 place -/
theorem sc_View_last : FnScope ["self", "word", "place"] ["self", "word"] (defScope s_View_last) := ⟨rfl, rfl, rfl, by decide +kernel, rfl, by decide +kernel, by decide +kernel⟩
abbrev s_View_stands : Stmt := inClass (topS 37) 4
/-- slots: 0 self, 1 word, 2 step -/
theorem sc_View_stands : FnScope ["self", "word", "step"] ["self", "word"] (defScope s_View_stands) := ⟨rfl, rfl, rfl, by decide +kernel, rfl, by decide +kernel, by decide +kernel⟩
abbrev s_View_behind : Stmt := inClass (topS 37) 5
/-- slots: 0 self, 1 place -/
theorem sc_View_behind : FnScope ["self", "place"] ["self", "place"] (defScope s_View_behind) := ⟨rfl, rfl, rfl, by decide +kernel, rfl, by decide +kernel, by decide +kernel⟩
abbrev s_View_carrying : Stmt := inClass (topS 37) 6
/-- slots: 0 self -/
theorem sc_View_carrying : FnScope ["self"] ["self"] (defScope s_View_carrying) := ⟨rfl, rfl, rfl, by decide +kernel, rfl, by decide +kernel, by decide +kernel⟩
abbrev s_points_of : Stmt := topS 38
/-- slots: 0 rows, 1 place, 2 points, 3 where -/
theorem sc_points_of : FnScope ["rows", "place", "points", "where"] ["rows"] (defScope s_points_of) := ⟨rfl, rfl, rfl, by decide +kernel, rfl, by decide +kernel, by decide +kernel⟩
abbrev s_first_points : Stmt := topS 39
/-- slots: 0 rows, 1 limit, 2 kept, 3 left, 4 place, 5 points, 6 where, 7 taken -/
theorem sc_first_points : FnScope ["rows", "limit", "kept", "left", "place", "points", "where", "taken"] ["rows", "limit"] (defScope s_first_points) := ⟨rfl, rfl, rfl, by decide +kernel, rfl, by decide +kernel, by decide +kernel⟩
abbrev s_row_at : Stmt := topS 40
/-- slots: 0 place, 1 points, 2 where -/
theorem sc_row_at : FnScope ["place", "points", "where"] ["place", "points", "where"] (defScope s_row_at) := ⟨rfl, rfl, rfl, by decide +kernel, rfl, by decide +kernel, by decide +kernel⟩
abbrev s_rows_of_each : Stmt := topS 41
/-- slots: 0 paper, 1 schemes, 2 where, 3 view, 4 at, 5 scheme -/
theorem sc_rows_of_each : FnScope ["paper", "schemes", "where", "view", "at", "scheme"] ["paper", "schemes", "where", "view"] (defScope s_rows_of_each) := ⟨rfl, rfl, rfl, by decide +kernel, rfl, by decide +kernel, by decide +kernel⟩
abbrev s_rows_of_all : Stmt := topS 42
/-- slots: 0 paper, 1 schemes, 2 where, 3 view, 4 rows, 5 row -/
theorem sc_rows_of_all : FnScope ["paper", "schemes", "where", "view", "rows", "row"] ["paper", "schemes", "where", "view"] (defScope s_rows_of_all) := ⟨rfl, rfl, rfl, by decide +kernel, rfl, by decide +kernel, by decide +kernel⟩
abbrev s_rows_of : Stmt := topS 43
/-- slots: 0 paper, 1 scheme, 2 where, 3 view, 4 word, 5 points, 6 schemes, 7 limit, 8 inner, 9 rows, 10 place, 11 number -/
theorem sc_rows_of : FnScope ["paper", "scheme", "where", "view", "word", "points", "schemes", "limit", "inner", "rows", "place", "number"] ["paper", "scheme", "where", "view"] (defScope s_rows_of) := ⟨rfl, rfl, rfl, by decide +kernel, rfl, by decide +kernel, by decide +kernel⟩
abbrev s_L_begun : Stmt := topS 53
/-- slots: 0 _law_script, 1 _law_stirred, 2 _law_cell -/
theorem sc_L_begun : FnScope ["_law_script", "_law_stirred", "_law_cell"] ["_law_script"] (defScope s_L_begun) := ⟨rfl, rfl, rfl, by decide +kernel, rfl, by decide +kernel, by decide +kernel⟩
abbrev s_L_take : Stmt := topS 54
/-- slots: 0 _law_box, 1 _law_many, 2 _law_number -/
theorem sc_L_take : FnScope ["_law_box", "_law_many", "_law_number"] ["_law_box", "_law_many"] (defScope s_L_take) := ⟨rfl, rfl, rfl, by decide +kernel, rfl, by decide +kernel, by decide +kernel⟩
abbrev s_L_alike : Stmt := topS 55
/-- slots: 0 _law_found, 1 _law_due, 2 _law_k -/
theorem sc_L_alike : FnScope ["_law_found", "_law_due", "_law_k"] ["_law_found", "_law_due"] (defScope s_L_alike) := ⟨rfl, rfl, rfl, by decide +kernel, rfl, by decide +kernel, by decide +kernel⟩
abbrev s_L_letters : Stmt := topS 57
/-- slots: 0 _law_box, 1 _law_left, 2 _law_found, 3 _law_turn -/
theorem sc_L_letters : FnScope ["_law_box", "_law_left", "_law_found", "_law_turn"] ["_law_box"] (defScope s_L_letters) := ⟨rfl, rfl, rfl, by decide +kernel, rfl, by decide +kernel, by decide +kernel⟩
abbrev s_L_scheme : Stmt := topS 58
/-- slots: 0 _law_box, 1 _law_letters_here, 2 _law_left, 3 _law_deep, 4 _law_uses, 5 _law_word, 6 _law_way, 7 _law_one, 8 _law_some, 9 _law_kids, 10 _law_turn -/
theorem sc_L_scheme : FnScope ["_law_box", "_law_letters_here", "_law_left", "_law_deep", "_law_uses", "_law_word", "_law_way", "_law_one", "_law_some", "_law_kids", "_law_turn"] ["_law_box", "_law_letters_here", "_law_left", "_law_deep", "_law_uses"] (defScope s_L_scheme) := ⟨rfl, rfl, rfl, by decide +kernel, rfl, by decide +kernel, by decide +kernel⟩
abbrev s_L_counted : Stmt := topS 59
/-- slots: 0 _law_scheme_here, 1 _law_uses, 2 _law_found, 3 _law_kid, 4 _law_more, 5 _law_one -/
theorem sc_L_counted : FnScope ["_law_scheme_here", "_law_uses", "_law_found", "_law_kid", "_law_more", "_law_one"] ["_law_scheme_here", "_law_uses"] (defScope s_L_counted) := ⟨rfl, rfl, rfl, by decide +kernel, rfl, by decide +kernel, by decide +kernel⟩
abbrev s_L_paper : Stmt := topS 60
/-- slots: 0 _law_box, 1 _law_letters_here, 2 _law_left, 3 _law_words, 4 _law_turn, 5 _law_steps, 6 _law_whole, 7 _law_many, 8 _law_found, 9 _law_uses, 10 _law_number, 11 _law_scheme_here, 12 _law_word -/
theorem sc_L_paper : FnScope ["_law_box", "_law_letters_here", "_law_left", "_law_words", "_law_turn", "_law_steps", "_law_whole", "_law_many", "_law_found", "_law_uses", "_law_number", "_law_scheme_here", "_law_word"] ["_law_box", "_law_letters_here"] (defScope s_L_paper) := ⟨rfl, rfl, rfl, by decide +kernel, rfl, by decide +kernel, by decide +kernel⟩
abbrev s_L_step : Stmt := topS 61
/-- slots: 0 _law_box, 1 _law_letters_here, 2 _law_was_wrong, 3 _law_sign -/
theorem sc_L_step : FnScope ["_law_box", "_law_letters_here", "_law_was_wrong", "_law_sign"] ["_law_box", "_law_letters_here", "_law_was_wrong"] (defScope s_L_step) := ⟨rfl, rfl, rfl, by decide +kernel, rfl, by decide +kernel, by decide +kernel⟩
abbrev s_L_work : Stmt := topS 62
/-- slots: 0 _law_box, 1 _law_letters_here, 2 _law_most, 3 _law_found, 4 _law_turn, 5 _law_step_here -/
theorem sc_L_work : FnScope ["_law_box", "_law_letters_here", "_law_most", "_law_found", "_law_turn", "_law_step_here"] ["_law_box", "_law_letters_here", "_law_most"] (defScope s_L_work) := ⟨rfl, rfl, rfl, by decide +kernel, rfl, by decide +kernel, by decide +kernel⟩
abbrev s_rows_by : Stmt := topS 44
/-- slots: 0 paper, 1 work -/
theorem sc_rows_by : FnScope ["paper", "work"] ["paper", "work"] (defScope s_rows_by) := ⟨rfl, rfl, rfl, by decide +kernel, rfl, by decide +kernel, by decide +kernel⟩
abbrev FnP (K : PySem.W.Frag) (x : Str) (st : Stmt) (f : Addr) (fd : FuncData) : Prop := FunD K x x (defArgs st) (defBody st) (defScope st) [] [] f fd
/-- a def of the text: where it stands, by which name it is called -/
structure Def (K : PySem.W.Frag) (mg : Str → Option Value) (x : Str) (st : Stmt) (ps : List Str) where
  f : Addr
  fd : FuncData
  F : FnP K x st f fd
  g : mg x = some (.ref f)
  b : Binds K fd ps []
theorem pcall {X : Cx} {x : Str} {st : Stmt} {ps : List Str} {k : Nat} {sp : Sp} {e : Expr} {es : List Expr} {t : TA} {p pos : Pos} (D : Def X.K X.mg x st ps) (G : FnOk X.prog X.w X.K X.mg X.base CX0 k D.f D.fd ps sp) (hr : Room k X.A)
    (ha : PA X (e :: es) t) (hg : Gl X x := by rfl) (hdb : (x == ("__debug__" : Str)) = false := by decide) (he : starEach (e :: es) X.env = (false, eval e X.env) :: starEach es X.env := by rfl) (hpl : (backTo pos (starEach es X.env)).any (·.1) = false := by rfl) : PE X (.Call (.Name x p) (e :: es) [] pos) (tCall sp [] E0 t) :=
  pe_call G hr hg D.g D.F.kp D.b .nil pass0 ha hdb he hpl

/-- THE RULE for a def that lets nothing out -/
theorem Def.ok {P : Program} {w : World} {K : PySem.W.Frag} {mg : Str → Option Value} {base : Heap} {x : Str} {st : Stmt} {ps N : List Str} {k : Nat} {sp : Sp} (D : Def K mg x st ps) (S : FnScope N ps (defScope st)) (len : ∀ vs H Q E, sp vs H Q E → vs.length = ps.length)
    (hbody : ∀ (cdv : Value) (A : Around) (outer : List Env) (s : Shared) (H : Hp) (vs : List V) (Q : VK) (E : XK), Room k (A.deeper (PyProof.Rows.envOfC x (defScope st) s.heap.objs.size D.f cdv)) → sp vs H Q E →
      ∃ t, PSs (cxOf CX0 P w K mg base N x (defScope st) D.f cdv A outer s H E).nox (defBody st) t ∧ t { nx := fun _ H' => Q .non H', rt := Q } (start N vs) H) : FnOk P w K mg base CX0 (k + 1) D.f D.fd ps sp :=
  D.F.ok S len fun cdv A outer s H vs Q E hr hsp => by
    obtain ⟨t, h, q⟩ := hbody cdv A outer s H vs Q E hr hsp
    exact ⟨t, h.nox, q⟩

/-! ### what stays -/
/-- all but what stands at these addresses is as it was -/
def Keep (S : List Addr) (H H' : Hp) : Prop := ∀ a o, H a = some o → a ∉ S → H' a = some o
theorem Keep.refl (S : List Addr) (H : Hp) : Keep S H H := fun _ _ h _ => h
theorem Keep.trans {S : List Addr} {H H1 H2 : Hp} (a : Keep S H H1) (b : Keep S H1 H2) : Keep S H H2 := fun c o h n => b c o (a c o h n) n
theorem Keep.mono {S T : List Addr} {H H' : Hp} (a : Keep S H H') (h : ∀ x ∈ S, x ∈ T) : Keep T H H' := fun c o e n => a c o e fun z => n (h c z)
theorem Keep.same {H H' : Hp} (a : Keep [] H H') : Same H H' := fun b o h => a b o h (by simp)
theorem Same.keep {S : List Addr} {H H' : Hp} (a : Same H H') : Keep S H H' := fun b o h _ => a b o h
theorem Keep.new {S : List Addr} {H : Hp} {p : Addr} {o : HO} (h : H p = none) : Keep S H (upd H p o) := fun b u q _ => by rw [upd_ne (ne_of_none q h)]; exact q
theorem Same.new {H : Hp} {p : Addr} {o : HO} (h : H p = none) : Same H (upd H p o) := fun b u q => by rw [upd_ne (ne_of_none q h)]; exact q
theorem Keep.put {S : List Addr} {H : Hp} {p : Addr} {o : HO} (h : p ∈ S) : Keep S H (upd H p o) := fun b u q n => by rw [upd_ne (fun z => n (by rw [z]; exact h))]; exact q
theorem Keep.free {S : List Addr} {H H' : Hp} (e : Keep S H H') {l : Addr} (h : H' l = none) (hS : ∀ x ∈ S, H x ≠ none → H' x ≠ none) : H l = none := by
  cases q : H l with
  | none => rfl
  | some o =>
    by_cases m : l ∈ S
    · exact absurd h (hS l m (by rw [q]; exact fun z => nomatch z))
    · rw [e l o q m] at h; cases h

/-! ### data that may be compared -/
def ShN (n : Nat) (d : PyData) : Prop := d.canLay0 = true ∧ d.depth ≤ n
def ShAll (n : Nat) (ds : List PyData) : Prop := PyData.canLayAll0 ds = true ∧ PyData.depthAll ds ≤ n
theorem ShAll.nil {n : Nat} : ShAll n [] := ⟨rfl, Nat.zero_le _⟩
theorem ShAll.cons {n : Nat} {d : PyData} {ds : List PyData} (h : ShN n d) (r : ShAll n ds) : ShAll n (d :: ds) :=
  ⟨by rw [PyData.canLayAll0, h.1, r.1]; rfl, by rw [PyData.depthAll]; exact Nat.max_le.mpr ⟨h.2, r.2⟩⟩
theorem ShN.int {n : Nat} (i : Int) : ShN n (.int i) := ⟨by rw [PyData.canLay0], by rw [PyData.depth]; exact Nat.zero_le _⟩
theorem ShN.str {n : Nat} {x : Str} (h : PyData.strOk x = true) : ShN n (.str x) := ⟨by rw [PyData.canLay0]; exact h, by rw [PyData.depth]; exact Nat.zero_le _⟩
theorem ShN.lst {n : Nat} {ds : List PyData} (h : ShAll n ds) : ShN (n + 1) (.list ds) := ⟨by rw [PyData.canLay0]; exact h.1, by rw [PyData.depth]; exact Nat.succ_le_succ h.2⟩
theorem ShN.tup {n : Nat} {ds : List PyData} (h : ShAll n ds) : ShN (n + 1) (.tuple ds) := ⟨by rw [PyData.canLay0]; exact h.1, by rw [PyData.depth]; exact Nat.succ_le_succ h.2⟩
theorem ShN.mono {n m : Nat} {d : PyData} (h : ShN n d) (hm : n ≤ m) : ShN m d := ⟨h.1, Nat.le_trans h.2 hm⟩
theorem ShN.ok {n : Nat} {d : PyData} (h : ShN n d) (hn : n ≤ 64) : SeqAt.shaped d = true := by
  unfold SeqAt.shaped
  rw [h.1, decide_eq_true (Nat.le_trans h.2 hn)]
  rfl
theorem ShAll.of {n : Nat} : ∀ {ds : List PyData}, (∀ d ∈ ds, ShN n d) → ShAll n ds
  | [], _ => .nil
  | d :: r, h => .cons (h d List.mem_cons_self) (ShAll.of fun e he => h e (List.mem_cons_of_mem _ he))
theorem sh_ints (n : Nat) (ns : List Int) : ShAll n (ns.map PyData.int) := ShAll.of fun d h => by
  obtain ⟨i, _, rfl⟩ := List.mem_map.mp h
  exact .int i
/-! ### the box of draws: the script's numbers left, and the number behind them -/
def Box (H : Hp) (b l : Addr) : Prop := b ≠ l ∧ (∃ n : Int, H b = some (.lst [.ref l, .int n])) ∧ ∃ ns : List Int, H l = some (.lst (ns.map V.int))
theorem Box.keep {S : List Addr} {H H' : Hp} {b l : Addr} (h : Box H b l) (k : Keep S H H') (hb : b ∉ S) (hl : l ∉ S) : Box H' b l := by
  obtain ⟨ne, ⟨n, e1⟩, ns, e2⟩ := h
  exact ⟨ne, ⟨n, k _ _ e1 hb⟩, ns, k _ _ e2 hl⟩
def spTake : Sp := fun vs H Q _ => ∃ (b l : Addr) (m : Int), vs = [.ref b, .int m] ∧ 0 < m ∧ m < 1073741824 ∧ Box H b l ∧
  ∀ (r : Int) (H' : Hp), 0 ≤ r → r < m → Box H' b l → Keep [b, l] H H' → Q (.int r) H'
section
variable {P : Program} {w : World} {K : PySem.W.Frag} {mg : Str → Option Value} {base : Heap}
theorem dp_ints {K : PySem.W.Frag} {H : Hp} : ∀ ns : List Int, DpAll K H (ns.map V.int) (ns.map PyData.int)
  | [] => .nil
  | n :: r => .cons (.int n) (dp_ints r)
theorem at0 {x : V} {xs : List V} : atI (x :: xs) 0 = some x := at_of rfl rfl
theorem at1 {x y : V} {xs : List V} : atI (x :: y :: xs) 1 = some y := at_of rfl rfl
theorem at2 {x y z : V} {xs : List V} : atI (x :: y :: z :: xs) 2 = some z := at_of rfl rfl
theorem ix0 {n : Nat} : ixN (n + 1) 0 = some 0 := by
  unfold ixN
  rw [if_pos (by omega), if_pos (by omega)]
  rfl
theorem seq0 {n : Nat} : seqIndex? 0 (n + 1) = some 0 := (ixN_seq ix0).1
theorem ok_take (D : Def K mg "_law_take" s_L_take ["_law_box", "_law_many"]) : FnOk P w K mg base CX0 1 D.f D.fd ["_law_box", "_law_many"] spTake := by
  refine D.ok sc_L_take (fun vs H Q E h => ?_) (fun cdv A outer s H vs Q E hr h => ?_)
  · obtain ⟨b, l, m, rfl, _⟩ := h
    rfl
  obtain ⟨b, l, m, rfl, m0, m1, ⟨nbl, ⟨n, eb⟩, ns, el⟩, q⟩ := h
  refine ⟨_, pss_cons (ps_if (pt_cmpR (op_eqD hr.units) (pe_ix ix_list (pv 0) pe_int (fun _ _ => rfl)) (pe_lst pa_nil) (nomark _))
      (pss_cons (ps_asg (pe_op op_mod (pe_op op_mul (pe_ix ix_list (pv 0) pe_int (fun _ _ => rfl)) pe_int) pe_int) (pg_sub (pv 0) pe_int set_list))
        (pss_one (ps_ret (pe_op op_mod (pe_op op_fdiv (pe_ix ix_list (pv 0) pe_int (fun _ _ => rfl)) pe_int) (pv 1))))) pss_nil)
    (pss_cons (ps_set (i := 2) sc_L_take.nd rfl (Or.inl rfl) (pe_ix ix_list (pe_ix ix_list (pv 0) pe_int (fun _ _ => rfl)) pe_int (fun _ _ => rfl)))
    (pss_cons (ps_asg (pe_op op_fdiv (pv 2) (pv 1)) (pg_sub (pe_ix ix_list (pv 0) pe_int (fun _ _ => rfl)) pe_int set_list))
    (pss_cons (ps_if (PW.pt (pw_or (pt_cmpR op_eq (pe_ix ix_list (pe_ix ix_list (pv 0) pe_int (fun _ _ => rfl)) pe_int (fun _ _ => rfl)) pe_int (nomark _))
        (pw_or1 (pt_cmpR op_eq (pe_ix ix_list (pe_ix ix_list (pv 0) pe_int (fun _ _ => rfl)) pe_int (fun _ _ => rfl)) (pe_un un_neg pe_int) (nomark _)))))
        (pss_one (ps_expr (pe_bm PySem.F.plainAttrs_list PySem.F.slot_list_pop PySem.F.type_list_pop mt_popAt (pe_ix ix_list (pv 0) pe_int (fun _ _ => rfl)) (pa_cons pe_int pa_nil)))) pss_nil)
    (pss_one (ps_ret (pe_op op_mod (pv 2) (pv 1))))))), ?_⟩
  refine ⟨_, rfl, b, _, 0, .ref l, rfl, rfl, SqL.of eb, rfl, ?_⟩
  refine ⟨Nat.zero_le _, fun p hp => ?_⟩
  have nlp : l ≠ p := ne_of_none el hp
  have nbp : b ≠ p := ne_of_none eb hp
  have eb1 : upd H p (.lst []) b = some (.lst [.ref l, .int n]) := by rw [upd_ne nbp]; exact eb
  have el1 : upd H p (.lst []) l = some (.lst (ns.map V.int)) := by rw [upd_ne nlp]; exact el
  have k1 : Keep [b, l] H (upd H p (.lst [])) := Keep.new hp
  refine ⟨.list (ns.map PyData.int), .list [], .lst (SqL.of el1) (dp_ints ns), .lst (SqL.of upd_same) .nil, ?_, rfl, ?_⟩
  · exact (ShN.lst (sh_ints 0 ns)).ok (by decide)
  refine ⟨_, rfl, ?_⟩
  refine ite2 (fun c => ?_) (fun c => ?_)
  · refine ⟨_, rfl, b, _, 1, .int n, rfl, rfl, SqL.of eb1, rfl, _, _, rfl, rfl, .inr ⟨by decide, by decide⟩, _, _, rfl, rfl, (by show (0 : Int) < 2147483647; decide), ?_⟩
    refine ⟨_, rfl, b, _, 1, 1, rfl, rfl, eb1, rfl, ?_⟩
    refine ⟨_, rfl, b, _, 1, _, rfl, rfl, SqL.of upd_same, rfl, _, _, rfl, rfl, ⟨by decide, by decide⟩, _, rfl, _, _, rfl, rfl, m0, ?_⟩
    refine q _ _ (Int.emod_nonneg _ (by omega)) (Int.emod_lt_of_pos _ m0) ⟨nbl, ⟨_, upd_same⟩, ns, ?_⟩ (k1.trans (Keep.put (by simp)))
    rw [upd_ne nbl.symm]
    exact el1
  · have hne : ns ≠ [] := fun z => c (by rw [z]; rfl)
    obtain ⟨z, r, rfl⟩ : ∃ z r, ns = z :: r := by
      cases ns with
      | nil => exact absurd rfl hne
      | cons z r => exact ⟨z, r, rfl⟩
    refine ⟨_, rfl, b, _, 0, .ref l, rfl, rfl, SqL.of eb1, rfl, l, _, 0, .int z, rfl, rfl, SqL.of el1, at0, ?_⟩
    refine ⟨_, rfl, _, rfl, _, _, rfl, rfl, ⟨m0, m1⟩, _, rfl, b, _, 0, .ref l, rfl, rfl, SqL.of eb1, rfl, l, _, 0, 0, rfl, rfl, el1, ix0, ?_⟩
    have eb2 : ∀ o, upd (upd H p (.lst [])) l o b = some (.lst [.ref l, .int n]) := fun o => by rw [upd_ne nbl]; exact eb1
    refine ⟨_, rfl, b, _, 0, .ref l, rfl, rfl, SqL.of (eb2 _), rfl, l, _, 0, .int (z / m), rfl, rfl, SqL.of upd_same, at0, rfl, _, rfl, ?_⟩
    have fin : ∀ (H' : Hp), Box H' b l → Keep [b, l] H H' → Q (.int (z % m)) H' := fun H' B k => q _ _ (Int.emod_nonneg _ (by omega)) (Int.emod_lt_of_pos _ m0) B k
    have k2 : ∀ o, Keep [b, l] H (upd (upd H p (.lst [])) l o) := fun o => k1.trans (Keep.put (by simp))
    refine ite2 (fun c2 => ?_) (fun c2 => ?_)
    · refine iteT ⟨_, rfl, b, _, 0, .ref l, rfl, rfl, SqL.of (eb2 _), rfl, .inl ⟨rfl, _, SqL.of upd_same⟩, l, _, 0, 0, _, rfl, rfl, upd_same, by decide, by decide, seq0, rfl, ?_⟩
      refine ⟨_, rfl, _, rfl, _, _, rfl, rfl, m0, fin _ ⟨nbl, ⟨n, by rw [upd_ne nbl]; exact eb2 _⟩, r, upd_same⟩ ((k2 _).trans (Keep.put (by simp)))⟩
    · refine ⟨_, rfl, b, _, 0, .ref l, rfl, rfl, SqL.of (eb2 _), rfl, l, _, 0, .int (z / m), rfl, rfl, SqL.of upd_same, at0, _, rfl, rfl, _, rfl, ?_⟩
      by_cases c3 : decide (V.int (z / m) = V.int (-1)) = true
      · show (if decide (V.int (z / m) = V.int (-1)) = true then _ else _)
        rw [if_pos c3]
        refine ⟨_, rfl, b, _, 0, .ref l, rfl, rfl, SqL.of (eb2 _), rfl, .inl ⟨rfl, _, SqL.of upd_same⟩, l, _, 0, 0, _, rfl, rfl, upd_same, by decide, by decide, seq0, rfl, ?_⟩
        refine ⟨_, rfl, _, rfl, _, _, rfl, rfl, m0, fin _ ⟨nbl, ⟨n, by rw [upd_ne nbl]; exact eb2 _⟩, r, upd_same⟩ ((k2 _).trans (Keep.put (by simp)))⟩
      · show (if decide (V.int (z / m) = V.int (-1)) = true then _ else _)
        rw [if_neg c3]
        refine ⟨_, rfl, _, rfl, _, _, rfl, rfl, m0, fin _ ⟨nbl, ⟨n, eb2 _⟩, (z / m) :: r, upd_same⟩ (k2 _)⟩
end
end MS
end
section
set_option maxRecDepth 100000
set_option maxHeartbeats 4000000
namespace MS
open PySem L2
/-! ### words, steps -/
def wordsL : List Str := ["a", "b", "c", "d", "e", "f", "g", "h"]
def marksL : List Str := ["r", "w", "c"]
def IsW (x : Str) : Prop := x ∈ wordsL
def IsM (x : Str) : Prop := x ∈ marksL
theorem IsW.len {x : Str} (h : IsW x) : x.length = 1 := by
  have h' : x ∈ wordsL := h
  have q : ∀ y ∈ wordsL, y.length = 1 := by decide +kernel
  exact q x h'
theorem IsM.len {x : Str} (h : IsM x) : x.length = 1 := by
  have h' : x ∈ marksL := h
  have q : ∀ y ∈ marksL, y.length = 1 := by decide +kernel
  exact q x h'
theorem IsW.ok {x : Str} (h : IsW x) : PyData.strOk x = true := by
  have h' : x ∈ wordsL := h
  have q : ∀ y ∈ wordsL, PyData.strOk y = true := by decide +kernel
  exact q x h'
/-- a step: its word, how it was done -/
abbrev StepT := Str × Str
def stepS (p : StepT) : Str := p.1 ++ p.2
def IsStep (p : StepT) : Prop := IsW p.1 ∧ IsM p.2
theorem step_look : ∀ x ∈ wordsL, ∀ m ∈ marksL, (∃ c, atI (stepS (x, m)).cps.toList 0 = some c ∧ (⟨#[c]⟩ : Str) = x) ∧ (∃ c, atI (stepS (x, m)).cps.toList 1 = some c ∧ (⟨#[c]⟩ : Str) = m) ∧ (stepS (x, m)).length = 2 ∧ PyData.strOk (stepS (x, m)) = true := by
  intro x hx m hm
  simp only [wordsL, marksL, List.mem_cons, List.not_mem_nil, or_false] at hx hm
  rcases hx with rfl | rfl | rfl | rfl | rfl | rfl | rfl | rfl <;> rcases hm with rfl | rfl | rfl <;> exact ⟨⟨_, rfl, by decide +kernel⟩, ⟨_, rfl, by decide +kernel⟩, by decide +kernel, by decide +kernel⟩
theorem IsStep.at0 {p : StepT} (h : IsStep p) : ∃ c, atI (stepS p).cps.toList 0 = some c ∧ (⟨#[c]⟩ : Str) = p.1 := (step_look p.1 h.1 p.2 h.2).1
theorem IsStep.at1 {p : StepT} (h : IsStep p) : ∃ c, atI (stepS p).cps.toList 1 = some c ∧ (⟨#[c]⟩ : Str) = p.2 := (step_look p.1 h.1 p.2 h.2).2.1
theorem IsStep.len {p : StepT} (h : IsStep p) : (stepS p).length = 2 := (step_look p.1 h.1 p.2 h.2).2.2.1
theorem IsStep.ok {p : StepT} (h : IsStep p) : PyData.strOk (stepS p) = true := (step_look p.1 h.1 p.2 h.2).2.2.2
/-- steps of which none is carried on without a wrong one ahead; w: there was one -/
def WorkFrom : Bool → List StepT → Prop
  | _, [] => True
  | w, p :: r => IsStep p ∧ (p.2 = "c" → w = true) ∧ WorkFrom (w || p.2 == "w") r
def WorkOk (ws : List StepT) : Prop := WorkFrom false ws ∧ ws.length ≤ 12
def anyWrong (ws : List StepT) : Bool := ws.any fun p => p.2 == "w"
theorem WorkFrom.snoc : ∀ {ws : List StepT} {w : Bool} {p : StepT}, WorkFrom w ws → IsStep p → (p.2 = "c" → (w || anyWrong ws) = true) → WorkFrom w (ws ++ [p])
  | [], w, p, _, hp, hc => ⟨hp, fun e => by
      have z := hc e
      rw [show anyWrong [] = false from rfl, Bool.or_false] at z
      exact z, trivial⟩
  | q :: r, w, p, h, hp, hc => ⟨h.1, h.2.1, WorkFrom.snoc h.2.2 hp fun e => by
      have z := hc e
      rw [show anyWrong (q :: r) = ((q.2 == "w") || anyWrong r) from rfl] at z
      rw [Bool.or_assoc]
      exact z⟩
theorem WorkFrom.all : ∀ {ws : List StepT} {w : Bool}, WorkFrom w ws → ∀ p ∈ ws, IsStep p
  | [], _, _, p, h => by cases h
  | q :: r, _, h, p, hp => by
    rcases List.mem_cons.mp hp with rfl | hp
    · exact h.1
    · exact WorkFrom.all h.2.2 p hp
def stepsV (ws : List StepT) : List V := ws.map fun p => V.str (stepS p)

/-! ### list(text) -/
def rListS : List V → Hp → VK → Prop := fun xs H Q => ∃ x : Str, xs = [.str x] ∧ x.cps.size ≤ sizeLine ∧ ∀ p, H p = none → Q (.ref p) (upd H p (.lst (x.cps.toList.map fun c => V.str ⟨#[c]⟩)))
theorem cr_listStr {X : Cx} (hc : X.calm = true) : CallR X (.type "list") rListS := by
  intro pins s σ H xs us Q I r h
  obtain ⟨x, rfl, hz, q⟩ := h
  obtain ⟨u, rfl, ru⟩ := vals1 r
  obtain ⟨t, rfl⟩ := ru
  refine call_list_str (hn := hz) (I.ok.hd hc) x t fun h' tk acc c' hk e hi => ?_
  refine (fun (hv : Vals (x.cps.toList.map fun c => V.str ⟨#[c]⟩) acc.toList) => ?_) ?_
  · exact ⟨.ref s.heap.objs.size, upd H s.heap.objs.size (.lst (x.cps.toList.map fun c => V.str ⟨#[c]⟩)), I.laid hk (Nat.le_refl _) ⟨by rw [List.length_map, Array.length_toList]; exact hz, acc.toList, c', hv, by rw [Array.toArray_toList]; exact e⟩, rfl, q _ (I.hok.fresh (Nat.le_refl _))⟩
  refine vals_of_idx _ _ (by rw [List.length_map, Array.length_toList, Array.length_toList]; exact hi.1) fun j u hj => ?_
  obtain ⟨c, t', hc, rfl⟩ := hi.2 j u (by rw [← Array.getElem?_toList]; exact hj)
  exact ⟨.str ⟨#[c]⟩, by simp [hc], ⟨_, rfl⟩⟩
theorem letters_of : (("abcdefgh" : Str).cps.toList.map fun c => V.str ⟨#[c]⟩) = wordsL.map V.str := by decide +kernel

/-! ### the draws' begin -/
def spBegun (K : PySem.W.Frag) : Sp := fun vs H Q _ => ∃ (a : Addr) (ns : List Int), vs = [.ref a] ∧ SqL K H a (ns.map V.int) ∧ ns.length ≤ 63 ∧
  ∀ (b l : Addr) (H' : Hp), H b = none → H l = none → Box H' b l → Same H H' → Q (.ref b) H'
section
variable {P : Program} {w : World} {K : PySem.W.Frag} {mg : Str → Option Value} {base : Heap}
theorem ok_begun (D : Def K mg "_law_begun" s_L_begun ["_law_script"]) (ml : mg "len" = none) (mli : mg "list" = none) (mi : mg "int" = none) : FnOk P w K mg base CX0 1 D.f D.fd ["_law_script"] (spBegun K) := by
  refine D.ok sc_L_begun (fun vs H Q E h => ?_) (fun cdv A outer s H vs Q E hr h => ?_)
  · obtain ⟨a, ns, rfl, _⟩ := h
    rfl
  obtain ⟨a, ns, rfl, hS, hlen, q⟩ := h
  refine ⟨_, pss_cons (ps_set (i := 1) sc_L_begun.nd rfl (Or.inl rfl) pe_int)
    (pss_cons (ps_for PassesOwn.never rfl (pi_list (pv 0)) (pg_name (i := 2) sc_L_begun.nd rfl (Or.inl rfl))
      (pss_one (ps_set (i := 1) sc_L_begun.nd rfl (Or.inl rfl) (pe_op op_mod (pe_op op_add (pe_op op_add (pe_op op_mul (pv 1) pe_int) (pe_op op_mul (pv 2) pe_int)) pe_int) pe_int))))
    (pss_one (ps_ret (pe_lst (pa_cons (pe_callTy call_list_of rfl mli (by decide +kernel) (pa_cons (pv 0) pa_nil))
      (pa_cons (pe_op op_mul (pv 1) (pe_callTy call_int1 rfl mi (by decide +kernel) (pa_cons (pe_cmpR op_gt (pe_callB call_len_seq rfl ml PySem.boot_len (pa_cons (pv 0) pa_nil)) pe_int (nomark _)) pa_nil))) pa_nil)))))), ?_⟩
  refine ⟨_, rfl, a, rfl, ⟨_, hS⟩, for_list (K := K) (a := a) (xs := ns.map V.int) (fun i σ H' => ∃ (z : Int) (v : Option V), σ = [some (.ref a), some (.int z), v] ∧ H' = H)
    ⟨0, none, rfl, rfl⟩ (fun i σ H' _ ⟨_, _, _, e⟩ => by rw [e]; exact hS) ?_ ?_⟩
  · rintro i y σ H' hi ⟨z, v, rfl, rfl⟩
    obtain ⟨u, rfl⟩ : ∃ u, y = V.int u := by
      obtain ⟨u, _, e⟩ := List.mem_map.mp (List.mem_of_getElem? hi)
      exact ⟨u, e.symm⟩
    exact ⟨_, rfl, _, _, rfl, rfl, .inr ⟨by decide, by decide⟩, _, rfl, _, _, rfl, rfl, .inr ⟨by decide, by decide⟩, _, _, rfl, rfl, _, _, rfl, rfl, _, _, rfl, rfl, (by show (0 : Int) < 2147483647; decide), _, _, rfl, rfl⟩
  · rintro σ H' ⟨z, v, rfl, rfl⟩
    refine ⟨_, rfl, a, _, rfl, .inl hS, fun l hl => ?_⟩
    have s1 : Same H' (upd H' l (.lst (ns.map V.int))) := Same.new hl
    refine ⟨_, rfl, _, rfl, a, _, rfl, .inl (s1.seq hS), _, _, rfl, rfl, .inr ⟨_, rfl, ?_⟩⟩
    refine ⟨_, _, rfl, rfl, .inr ?_, ?_⟩
    · split <;> exact ⟨by decide, by decide⟩
    refine ⟨(by show 2 ≤ sizeLine; decide), fun b hb => ?_⟩
    have nb : l ≠ b := ne_of_none upd_same hb
    have hb0 : H' b = none := s1.free hb
    refine q b l _ hb0 hl ⟨nb.symm, ⟨_, upd_same⟩, ns, by rw [upd_ne nb]; exact upd_same⟩ (s1.trans (Same.new hb))
/-! ### the letters -/
def spLetters : Sp := fun vs H Q _ => ∃ (b l : Addr), vs = [.ref b] ∧ Box H b l ∧
  ∀ (p : Addr) (F : List Str) (H' : Hp), H p = none → H' p = some (.lst (F.map V.str)) → (∀ x ∈ F, IsW x) → 0 < F.length → F.length ≤ 8 → Box H' b l → Keep [b, l] H H' → Q (.ref p) H'
end
end MS
end
section
set_option maxRecDepth 100000
set_option maxHeartbeats 4000000
namespace MS
open PySem L2
theorem mem_eraseIdx {α : Type} {l : List α} {k : Nat} {x : α} (h : x ∈ l.eraseIdx k) : x ∈ l := List.mem_of_mem_eraseIdx h
theorem map_erase {α β : Type} (f : α → β) : ∀ (l : List α) (k : Nat), (l.map f).eraseIdx k = (l.eraseIdx k).map f
  | [], _ => rfl
  | _ :: _, 0 => rfl
  | a :: r, k + 1 => congrArg (f a :: ·) (map_erase f r k)
theorem seq_of {n : Nat} {i : Int} (h0 : 0 ≤ i) (h1 : i < n) : seqIndex? i n = some i.toNat := by
  have e : ixN n i = some i.toNat := by
    unfold ixN
    rw [if_pos h0, if_pos h1]
  exact (ixN_seq e).1
theorem atI_of {α : Type} {l : List α} {i : Int} {x : α} (h0 : 0 ≤ i) (h : l[i.toNat]? = some x) : atI l i = some x := by
  have e : i = ((i.toNat : Nat) : Int) := by omega
  rw [e]
  exact atI_nat h
theorem get_map {α β : Type} (f : α → β) (l : List α) {i : Nat} (h : i < l.length) : (l.map f)[i]? = some (f (l[i]'h)) := by
  rw [List.getElem?_map, List.getElem?_eq_getElem h]
  rfl
theorem Keep.newer {S : List Addr} {H H1 : Hp} {p : Addr} {o : HO} (k : Keep S H H1) (h : H p = none) : Keep S H (upd H1 p o) := fun b u q n => by
  rw [upd_ne (ne_of_none q h)]
  exact k b u q n
theorem Box.ne_new {H : Hp} {b l x : Addr} (B : Box H b l) (hx : H x = none) : x ≠ b ∧ x ≠ l := by
  obtain ⟨_, ⟨n, e1⟩, ns, e2⟩ := B
  exact ⟨(ne_of_none e1 hx).symm, (ne_of_none e2 hx).symm⟩
theorem Box.nin {H : Hp} {b l x : Addr} (B : Box H b l) (hx : H x = none) : x ∉ [b, l] := fun hm => by
  rcases List.mem_cons.mp hm with e | hm
  · exact (B.ne_new hx).1 e
  · exact (B.ne_new hx).2 (List.mem_singleton.mp hm)
theorem Box.put {H : Hp} {b l x : Addr} {o : HO} (B : Box H b l) (hb : x ≠ b) (hl : x ≠ l) : Box (upd H x o) b l := by
  obtain ⟨ne, ⟨n, e1⟩, ns, e2⟩ := B
  exact ⟨ne, ⟨n, by rw [upd_ne hb.symm]; exact e1⟩, ns, by rw [upd_ne hl.symm]; exact e2⟩
theorem Box.new {H : Hp} {b l x : Addr} {o : HO} (B : Box H b l) (hx : H x = none) : Box (upd H x o) b l := B.put (B.ne_new hx).1 (B.ne_new hx).2
theorem sz2 : 2 ≤ sizeLine := by decide
theorem szN {n : Nat} (h : n ≤ 1000) : n ≤ sizeLine := Nat.le_of_lt (small1000 h)
/-- one of two numbers, by a draw -/
theorem pick2 {x y r m : Int} (hx : 0 ≤ x ∧ x < m) (hy : 0 ≤ y ∧ y < m) (h0 : 0 ≤ r) (h1 : r < 2) : ∃ z, atI [V.int x, V.int y] r = some (.int z) ∧ 0 ≤ z ∧ z < m := by
  have e : r = 0 ∨ r = 1 := by omega
  rcases e with rfl | rfl
  · exact ⟨x, at0, hx⟩
  · exact ⟨y, at1, hy⟩
section
variable {P : Program} {w : World} {K : PySem.W.Frag} {mg : Str → Option Value} {base : Heap}
theorem ok_letters (D : Def K mg "_law_letters" s_L_letters ["_law_box"]) (DT : Def K mg "_law_take" s_L_take ["_law_box", "_law_many"]) (ml : mg "len" = none) (mli : mg "list" = none) (mr : mg "range" = none) : FnOk P w K mg base CX0 2 D.f D.fd ["_law_box"] spLetters := by
  have GT : FnOk P w K mg base CX0 1 DT.f DT.fd ["_law_box", "_law_many"] spTake := ok_take DT
  refine D.ok sc_L_letters (fun vs H Q E h => ?_) (fun cdv A outer s H vs Q E hr h => ?_)
  · obtain ⟨b, l, rfl, _⟩ := h
    rfl
  obtain ⟨b, l, rfl, B, q⟩ := h
  refine ⟨_, pss_cons (ps_par (i := 1) (j := 2) (by rfl) sc_L_letters.nd rfl rfl (by decide) rfl rfl (pa_cons (pe_callTy (cr_listStr rfl) rfl mli (by decide +kernel) (pa_cons pe_str pa_nil)) (pa_cons (pe_lst pa_nil) pa_nil)) (by rfl))
    (pss_cons (ps_for PassesOwn.never rfl (pi_range1 rfl mr (pa_cons (pe_op op_add pe_int (pe_ix ix_list (pe_lst (pa_cons (pcall DT GT hr (pa_cons (pv 0) (pa_cons pe_int pa_nil))) (pa_cons (pcall DT GT hr (pa_cons (pv 0) (pa_cons pe_int pa_nil))) pa_nil))) (pcall DT GT hr (pa_cons (pv 0) (pa_cons pe_int pa_nil))) (fun _ _ => rfl))) pa_nil)) (pg_name (i := 3) sc_L_letters.nd rfl (Or.inl rfl))
      (pss_one (ps_expr (pe_bm PySem.F.plainAttrs_list PySem.F.slot_list_append PySem.F.type_list_append mt_append (pv 2)
        (pa_cons (pe_bm PySem.F.plainAttrs_list PySem.F.slot_list_pop PySem.F.type_list_pop mt_popAt (pv 1) (pa_cons (pcall DT GT hr (pa_cons (pv 0) (pa_cons (pe_callB call_len_seq rfl ml PySem.boot_len (pa_cons (pv 1) pa_nil)) pa_nil))) pa_nil)) pa_nil)))))
    (pss_one (ps_ret (pv 2)))), ?_⟩
  refine ⟨_, rfl, by decide, fun p hp => ?_⟩
  rw [letters_of]
  refine ⟨Nat.zero_le _, fun f hf => ?_⟩
  have npf : p ≠ f := ne_of_none upd_same hf
  have hpf : upd (upd H p (.lst (wordsL.map V.str))) f (.lst []) p = some (.lst (wordsL.map V.str)) := by rw [upd_ne npf]; exact upd_same
  have k1 : Keep [b, l] H (upd (upd H p (.lst (wordsL.map V.str))) f (.lst [])) := (Keep.new hp).trans (Keep.new hf)
  have hf0 : H f = none := (Same.new hp).free hf
  have nfb := B.ne_new hf0
  have npb := B.ne_new hp
  have B1 : Box (upd (upd H p (.lst (wordsL.map V.str))) f (.lst [])) b l := (B.new hp).put nfb.1 nfb.2
  refine ⟨_, _, rfl, ?_⟩
  refine ⟨_, rfl, b, l, 2, rfl, by decide, by decide, B1, fun r1 H1 a0 a1 B2 k2 => ?_⟩
  refine ⟨_, rfl, b, l, 7, rfl, by decide, by decide, B2, fun r2 H2 b0 b1 B3 k3 => ?_⟩
  refine ⟨sz2, fun L hL => ?_⟩
  refine ⟨_, rfl, b, l, 2, rfl, by decide, by decide, B3.new hL, fun r3 H3 c0 c1 B4 k4 => ?_⟩
  have k5 : Keep [b, l] H2 H3 := (Keep.new hL).trans k4
  have nL := B3.ne_new hL
  have eL : H3 L = some (.lst [.int r1, .int r2]) := k4 L _ upd_same (by simp [nL.1, nL.2])
  obtain ⟨z, ez, z0, z1⟩ := pick2 (x := r1) (y := r2) (m := 7) ⟨a0, by omega⟩ ⟨b0, b1⟩ c0 c1
  refine ⟨L, _, r3, .int z, rfl, rfl, SqL.of eL, ez, _, _, rfl, rfl, _, rfl, by omega, by omega, ?_⟩
  have k6 : Keep [b, l] (upd (upd H p (.lst (wordsL.map V.str))) f (.lst [])) H3 := k2.trans (k3.trans k5)
  have nin : ∀ {x : Addr}, x ≠ b ∧ x ≠ l → x ∉ [b, l] := fun {x} h => by simp [h.1, h.2]
  refine for_range (lo := 0) (n := (2 + z).toNat) (fun i σ H' => ∃ (W F : List Str) (v : Option V), σ = [some (.ref b), some (.ref p), some (.ref f), v] ∧ H' p = some (.lst (W.map V.str)) ∧ H' f = some (.lst (F.map V.str)) ∧
      W.length + i = 8 ∧ F.length = i ∧ (∀ x ∈ W, IsW x) ∧ (∀ x ∈ F, IsW x) ∧ Box H' b l ∧ Keep [b, l] H H')
    ⟨wordsL, [], none, rfl, k6 _ _ hpf (nin npb), k6 _ _ upd_same (nin nfb), rfl, rfl, fun _ h => h, fun _ h => (nomatch h), B4, k1.trans k6⟩ ?_ ?_
  · rintro i σ H' hi ⟨W, F, v, rfl, e1, e2, l1, l2, w1, w2, B', k'⟩
    have hW : 0 < W.length := by omega
    refine ⟨_, rfl, .inl ⟨rfl, _, SqL.of e2⟩, _, rfl, .inl ⟨rfl, _, SqL.of e1⟩, _, rfl, _, rfl, p, _, rfl, .inl (SqL.of e1), b, l, _, rfl, (by rw [List.length_map]; omega), (by rw [List.length_map]; omega), B', fun r H2' r0 r1' B2' k2' => ?_⟩
    rw [List.length_map] at r1'
    have hr' : r.toNat < W.length := by omega
    have e1' := k2' _ _ e1 (nin npb)
    have e2' := k2' _ _ e2 (nin nfb)
    refine ⟨p, _, r, r.toNat, .str (W[r.toNat]'hr'), rfl, rfl, e1', by omega, by omega, seq_of r0 (by rw [List.length_map]; exact r1'), get_map V.str W hr', ?_⟩
    refine ⟨f, _, _, rfl, rfl, (by rw [upd_ne npf.symm]; exact e2'), (by rw [List.length_map]; exact small1000 (by omega)), ?_⟩
    refine ⟨W.eraseIdx r.toNat, F ++ [W[r.toNat]'hr'], _, rfl, ?_, ?_, ?_, ?_, fun x hx => w1 x (mem_eraseIdx hx), fun x hx => ?_, (B2'.put npb.1 npb.2).put nfb.1 nfb.2, ((k'.trans k2').newer hp).newer hf0⟩
    · rw [upd_ne npf, upd_same, map_erase]
    · rw [upd_same, List.map_append]
      rfl
    · rw [List.length_eraseIdx_of_lt hr']
      omega
    · rw [List.length_append, l2]
      rfl
    · rcases List.mem_append.mp hx with hx | hx
      · exact w2 x hx
      · rw [List.mem_singleton.mp hx]
        exact w1 _ (List.getElem_mem hr')
  · rintro σ H' ⟨W, F, v, rfl, e1, e2, l1, l2, w1, w2, B', k'⟩
    exact ⟨_, rfl, q f F H' hf0 e2 w2 (by omega) (by omega) B' k'⟩
end
end MS
end
section
set_option maxRecDepth 100000
set_option maxHeartbeats 4000000
namespace MS
open PySem L2
def spStep : Sp := fun vs H Q _ => ∃ (b l L : Addr) (F : List Str) (c : Bool), vs = [.ref b, .ref L, .bl c] ∧ Box H b l ∧ L ≠ b ∧ L ≠ l ∧ H L = some (.lst (F.map V.str)) ∧ (∀ x ∈ F, IsW x) ∧ 0 < F.length ∧ F.length ≤ 8 ∧
  ∀ (p : StepT) (H' : Hp), IsStep p → (p.2 = "c" → c = true) → Box H' b l → Keep [b, l] H H' → Q (.str (stepS p)) H'
theorem pick_mark {r : Int} (h0 : 0 ≤ r) (h1 : r < 4) : ∃ m, atI [V.str "r", V.str "w", V.str "r", V.str "c"] r = some (.str m) ∧ IsM m := by
  have e : r = 0 ∨ r = 1 ∨ r = 2 ∨ r = 3 := by omega
  rcases e with rfl | rfl | rfl | rfl
  · exact ⟨"r", at0, by unfold IsM; decide +kernel⟩
  · exact ⟨"w", at1, by unfold IsM; decide +kernel⟩
  · exact ⟨"r", at2, by unfold IsM; decide +kernel⟩
  · exact ⟨"c", at_of (j := 3) rfl rfl, by unfold IsM; decide +kernel⟩
theorem pick_word {F : List Str} {r : Int} (w1 : ∀ x ∈ F, IsW x) (h0 : 0 ≤ r) (h1 : r < ((F.map V.str).length : Nat)) : ∃ x, atI (F.map V.str) r = some (.str x) ∧ IsW x ∧ x ∈ F := by
  rw [List.length_map] at h1
  have hr : r.toNat < F.length := by omega
  exact ⟨F[r.toNat]'hr, atI_of h0 (get_map V.str F hr), w1 _ (List.getElem_mem hr), List.getElem_mem hr⟩
section
variable {P : Program} {w : World} {K : PySem.W.Frag} {mg : Str → Option Value} {base : Heap}
theorem ok_step (D : Def K mg "_law_step" s_L_step ["_law_box", "_law_letters_here", "_law_was_wrong"]) (DT : Def K mg "_law_take" s_L_take ["_law_box", "_law_many"]) (ml : mg "len" = none) : FnOk P w K mg base CX0 2 D.f D.fd ["_law_box", "_law_letters_here", "_law_was_wrong"] spStep := by
  have GT : FnOk P w K mg base CX0 1 DT.f DT.fd ["_law_box", "_law_many"] spTake := ok_take DT
  refine D.ok sc_L_step (fun vs H Q E h => ?_) (fun cdv A outer s H vs Q E hr h => ?_)
  · obtain ⟨b, l, L, F, c, rfl, _⟩ := h
    rfl
  obtain ⟨b, l, L, F, c, rfl, B, nb, nl, eL, w1, l0, l1, q⟩ := h
  refine ⟨_, pss_cons (ps_set (i := 3) sc_L_step.nd rfl (Or.inl rfl) (pe_ix ix_list (pe_lst (pa_cons pe_str (pa_cons pe_str (pa_cons pe_str (pa_cons pe_str pa_nil))))) (pcall DT GT hr (pa_cons (pv 0) (pa_cons pe_int pa_nil))) (fun _ _ => rfl)))
    (pss_one (ps_ret (pe_op op_add_str (pe_ix ix_list (pv 1) (pcall DT GT hr (pa_cons (pv 0) (pa_cons (pe_callB call_len_seq rfl ml PySem.boot_len (pa_cons (pv 1) pa_nil)) pa_nil))) (fun _ _ => rfl))
      (pe_ifExp (PW.pt (pw_or (pt_cmpR op_ne (pv 3) pe_str (nomark _)) (pw_or1 (pt_val (pv 2))))) (pv 3) pe_str)))), ?_⟩
  refine ⟨(by show 4 ≤ sizeLine; decide), fun T hT => ?_⟩
  refine ⟨_, rfl, b, l, 4, rfl, by decide, by decide, B.new hT, fun r H1 a0 a1 B1 k1 => ?_⟩
  have k2 : Keep [b, l] H H1 := (Keep.new hT).trans k1
  have eT := k1 T _ upd_same (B.nin hT)
  obtain ⟨m, em, hm⟩ := pick_mark a0 a1
  refine ⟨T, _, r, .str m, rfl, rfl, SqL.of eT, em, ?_⟩
  have eL1 := k2 L _ eL (by simp [nb, nl])
  refine ⟨_, rfl, _, rfl, _, rfl, L, _, rfl, .inl (SqL.of eL1), b, l, _, rfl, (by rw [List.length_map]; omega), (by rw [List.length_map]; omega), B1, fun r2 H2 b0 b1 B2 k3 => ?_⟩
  have eL2 := k3 L _ eL1 (by simp [nb, nl])
  obtain ⟨x, ex, hx, _⟩ := pick_word w1 b0 b1
  refine ⟨L, _, r2, .str x, rfl, rfl, SqL.of eL2, ex, ?_⟩
  have fin : ∀ m' : Str, IsM m' → (m' = "c" → c = true) → x.length + m'.length ≤ sizeLine ∧ Q (.str (x ++ m')) H2 := fun m' h1 h2 =>
    ⟨by rw [hx.len, h1.len]; decide, q (x, m') H2 ⟨hx, h1⟩ h2 B2 (k2.trans k3)⟩
  refine ⟨_, rfl, rfl, _, rfl, ?_⟩
  refine ite2 (fun c1 => ?_) (fun c1 => ?_)
  · refine iteT ⟨_, rfl, x, m, rfl, rfl, fin m hm fun e => ?_⟩
    subst e
    exact absurd c1 (by decide +kernel)
  · have e : m = "c" := by
      by_cases z : m = "c"
      · exact z
      · refine absurd ?_ c1
        rw [decide_eq_false (fun y => z (V.str.inj y))]
        rfl
    subst e
    refine ⟨_, rfl, c, rfl, ?_⟩
    cases c with
    | true => exact iteT ⟨_, rfl, x, "c", rfl, rfl, fin "c" hm fun _ => rfl⟩
    | false => exact iteF ⟨x, "w", rfl, rfl, fin "w" (by unfold IsM; decide +kernel) fun e => absurd e (by decide +kernel)⟩
/-! ### a work -/
def spWork : Sp := fun vs H Q _ => ∃ (b l L : Addr) (F : List Str), vs = [.ref b, .ref L, .int 12] ∧ Box H b l ∧ L ≠ b ∧ L ≠ l ∧ H L = some (.lst (F.map V.str)) ∧ (∀ x ∈ F, IsW x) ∧ 0 < F.length ∧ F.length ≤ 8 ∧
  ∀ (p : Addr) (ws : List StepT) (H' : Hp), H p = none → H' p = some (.lst (stepsV ws)) → WorkOk ws → Box H' b l → Keep [b, l] H H' → Q (.ref p) H'
theorem ok_work (D : Def K mg "_law_work" s_L_work ["_law_box", "_law_letters_here", "_law_most"]) (DT : Def K mg "_law_take" s_L_take ["_law_box", "_law_many"]) (DS : Def K mg "_law_step" s_L_step ["_law_box", "_law_letters_here", "_law_was_wrong"]) (ml : mg "len" = none) (mr : mg "range" = none) (ma : mg "any" = none) :
    FnOk P w K mg base CX0 3 D.f D.fd ["_law_box", "_law_letters_here", "_law_most"] spWork := by
  have GT : FnOk P w K mg base CX0 1 DT.f DT.fd ["_law_box", "_law_many"] spTake := ok_take DT
  have GS : FnOk P w K mg base CX0 2 DS.f DS.fd ["_law_box", "_law_letters_here", "_law_was_wrong"] spStep := ok_step DS DT ml
  refine D.ok sc_L_work (fun vs H Q E h => ?_) (fun cdv A outer s H vs Q E hr h => ?_)
  · obtain ⟨b, l, L, F, rfl, _⟩ := h
    rfl
  obtain ⟨b, l, L, F, rfl, B, nb, nl, eL, w1, l0, l1, q⟩ := h
  have hr1 : Room 1 _ := hr.mono (by decide)
  have nd := sc_L_work.nd
  refine ⟨_, pss_cons (ps_set (i := 3) nd rfl (Or.inl rfl) (pe_lst pa_nil))
    (pss_cons (ps_for PassesOwn.never rfl (pi_range1 rfl mr (pa_cons (pcall DT GT hr1 (pa_cons (pv 0) (pa_cons (pe_op op_add (pv 2) pe_int) pa_nil))) pa_nil)) (pg_name (i := 4) nd rfl (Or.inl rfl))
      (pss_one (ps_expr (pe_bm PySem.F.plainAttrs_list PySem.F.slot_list_append PySem.F.type_list_append mt_append (pv 3)
        (pa_cons (pcall DS GS hr (pa_cons (pv 0) (pa_cons (pv 1) (pa_cons (pe_callB (cr_any rfl) rfl ma (by decide +kernel) (pa_cons
          (pe_lc (own := [("_law_step_here", 5)]) (g := gName 5) (tt := tYes) rfl nd (pi_list (pv 3)) (blkOk_by (N := ["_law_box", "_law_letters_here", "_law_most", "_law_found", "_law_turn", "_law_step_here"]) (sc := defScope s_L_work) (by decide +kernel)) (fun _ _ _ _ _ => pg_name (i := 5) nd rfl (Or.inl rfl)) (fun _ _ _ _ _ => pts_nil)
            (fun _ _ _ _ _ => pe_cmpR op_eq (pe_ix ix_str (pv 5) pe_int (fun _ _ => rfl)) pe_str (nomark _))) pa_nil)) pa_nil)))) pa_nil)))))
    (pss_one (ps_ret (pv 3)))), ?_⟩
  refine ⟨Nat.zero_le _, fun f hf => ?_⟩
  have nfb := B.ne_new hf
  refine ⟨_, rfl, _, rfl, _, _, rfl, rfl, b, l, _, rfl, by decide, by decide, B.new hf, fun r H1 a0 a1 B1 k1 => ?_⟩
  have a1' : r < 13 := a1
  have nin : ∀ {x : Addr}, x ≠ b ∧ x ≠ l → x ∉ [b, l] := fun {x} h => by simp [h.1, h.2]
  refine ⟨_, rfl, by omega, by omega, ?_⟩
  refine for_range (lo := 0) (n := r.toNat) (fun i σ H' => ∃ (ws : List StepT) (v : Option V), σ = [some (.ref b), some (.ref L), some (.int 12), some (.ref f), v, none] ∧ H' f = some (.lst (stepsV ws)) ∧ ws.length = i ∧ WorkFrom false ws ∧ Box H' b l ∧ Keep [b, l] H H')
    ⟨[], none, rfl, k1 _ _ upd_same (nin nfb), rfl, trivial, B1, (Keep.new hf).trans k1⟩ ?_ ?_
  · rintro i σ H' hi ⟨ws, v, rfl, ef, hl, hw, B', k'⟩
    have lws : (stepsV ws).length = ws.length := List.length_map _
    have all := hw.all
    refine ⟨_, rfl, .inl ⟨rfl, _, SqL.of ef⟩, _, rfl, _, rfl, _, rfl, f, rfl, ⟨_, SqL.of ef⟩, fun D hD => ?_⟩
    have nfD : f ≠ D := ne_of_none ef hD
    refine lc_list (K := K) (a := f) (xs := stepsV ws) (fun j H'' => H'' = upd H' D (.lst ((ws.take j).map fun p : StepT => V.bl (p.2 == ("w" : Str))))) rfl (fun j H'' _ e => by rw [e]; exact SqL.of (by rw [upd_ne nfD]; exact ef)) ?_ ?_
    · rintro j x H'' hj rfl
      have hjl : j < ws.length := by
        have z := (List.getElem?_eq_some_iff.mp hj).1
        rw [lws] at z
        exact z
      have ex : x = V.str (stepS (ws[j]'hjl)) := by
        have z := get_map (fun p => V.str (stepS p)) ws hjl
        exact Option.some.inj (hj.symm.trans z)
      subst ex
      have hs := all _ (List.getElem_mem hjl)
      obtain ⟨c, ec, em⟩ := hs.at1
      refine ⟨rfl, _, rfl, _, 1, c, rfl, rfl, by rw [hs.len]; decide, ec, rfl, _, upd_same, ?_, ?_⟩
      · rw [List.length_map, List.length_take]
        exact small1000 (by omega)
      · rw [upd_upd, em, List.take_succ_eq_append_getElem hjl, List.map_append, dec_str]
        rfl
    · rintro H'' rfl
      rw [lws, List.take_length]
      refine ⟨D, ws.map fun p : StepT => p.2 == ("w" : Str), rfl, SqL.of (by rw [upd_same, List.map_map]; rfl), ?_⟩
      have kD : Keep [b, l] H' (upd H' D (.lst (ws.map fun p : StepT => V.bl (p.2 == ("w" : Str))))) := Keep.new hD
      refine ⟨b, l, L, F, _, rfl, B'.new hD, nb, nl, (k'.trans kD) L _ eL (by simp [nb, nl]), w1, l0, l1, fun p H2 hp hc B2 k2 => ?_⟩
      have ef2 := (kD.trans k2) f _ ef (nin nfb)
      refine ⟨f, _, _, rfl, rfl, ef2, by rw [lws]; exact small1000 (by omega), ?_⟩
      refine ⟨ws ++ [p], _, rfl, ?_, ?_, hw.snoc hp fun e => ?_, B2.put nfb.1 nfb.2, ((k'.trans (kD.trans k2)).newer hf)⟩
      · rw [upd_same]
        unfold stepsV
        rw [List.map_append]
        rfl
      · rw [List.length_append, hl]
        rfl
      · have z := hc e
        rw [Bool.false_or]
        unfold anyWrong
        rw [List.any_map] at z
        exact z
  · rintro σ H' ⟨ws, v, rfl, ef, hl, hw, B', k'⟩
    exact ⟨_, rfl, q f ws H' hf ef ⟨hw, by omega⟩ B' k'⟩
end
end MS
end
section
set_option maxRecDepth 100000
set_option maxHeartbeats 4000000
namespace MS
open PySem L2
/-! ### schemes -/
inductive Sch where
  | step (w : Str) (p : Int)
  | all (k : List Sch)
  | best (k : List Sch)
  | most (n : Int) (s : Sch)
  | half (s : Sch)
  | seen (w : Str) (s : Sch)
  | behind (w : Str) (s : Sch)
  | carry (s : Sch)
  | fin (w : Str) (p : Int) (s : Sch)
  | use (n : Nat)
/-- a scheme of at most d levels stands in the heap -/
def SAt (H : Hp) : Nat → Sch → V → Prop
  | 0, _, _ => False
  | _ + 1, .step w p, v => ∃ a, v = .ref a ∧ H a = some (.tup [.str "step", .str w, .int p])
  | d + 1, .all k, v => ∃ a b vs, v = .ref a ∧ H a = some (.tup [.str "all", .ref b]) ∧ H b = some (.tup vs) ∧ Paired (SAt H d) k vs
  | d + 1, .best k, v => ∃ a b vs, v = .ref a ∧ H a = some (.tup [.str "best", .ref b]) ∧ H b = some (.tup vs) ∧ Paired (SAt H d) k vs
  | d + 1, .most n s, v => ∃ a u, v = .ref a ∧ H a = some (.tup [.str "most", .int n, u]) ∧ SAt H d s u
  | d + 1, .half s, v => ∃ a u, v = .ref a ∧ H a = some (.tup [.str "half", u]) ∧ SAt H d s u
  | d + 1, .seen w s, v => ∃ a u, v = .ref a ∧ H a = some (.tup [.str "seen", .str w, u]) ∧ SAt H d s u
  | d + 1, .behind w s, v => ∃ a u, v = .ref a ∧ H a = some (.tup [.str "behind", .str w, u]) ∧ SAt H d s u
  | d + 1, .carry s, v => ∃ a u, v = .ref a ∧ H a = some (.tup [.str "carry", u]) ∧ SAt H d s u
  | d + 1, .fin w p s, v => ∃ a u, v = .ref a ∧ H a = some (.tup [.str "end", .str w, .int p, u]) ∧ SAt H d s u
  | _ + 1, .use n, v => ∃ a, v = .ref a ∧ H a = some (.tup [.str "use", .int (n : Int)])
/-- tuples stay -/
def TupK (H H' : Hp) : Prop := ∀ a xs, H a = some (.tup xs) → H' a = some (.tup xs)
theorem TupK.refl (H : Hp) : TupK H H := fun _ _ h => h
theorem TupK.trans {H H1 H2 : Hp} (a : TupK H H1) (b : TupK H1 H2) : TupK H H2 := fun c o h => b c o (a c o h)
theorem TupK.new {H : Hp} {p : Addr} {o : HO} (h : H p = none) : TupK H (upd H p o) := fun b u q => by rw [upd_ne (ne_of_none q h)]; exact q
theorem TupK.put {H : Hp} {p : Addr} {o : HO} {ys : List V} (h : H p = some (.lst ys)) : TupK H (upd H p o) := fun b u q => by rw [upd_ne (ne_of q h (by intro z; cases z))]; exact q
theorem Keep.tup {S : List Addr} {H H' : Hp} (k : Keep S H H') (nt : ∀ a ∈ S, ∃ ys, H a = some (.lst ys)) : TupK H H' := fun a xs e => k a _ e fun hm => by
  obtain ⟨ys, z⟩ := nt a hm
  rw [e] at z
  cases z
theorem paired_imp {α β : Type} {R T : α → β → Prop} : ∀ {xs : List α} {ys : List β}, Paired R xs ys → (∀ x y, R x y → T x y) → Paired T xs ys
  | _, _, .nil, _ => .nil
  | _, _, .cons r t, h => .cons (h _ _ r) (paired_imp t h)
theorem SAt.keep {H H' : Hp} (k : TupK H H') : ∀ (d : Nat) (s : Sch) (v : V), SAt H d s v → SAt H' d s v
  | 0, _, _, h => by cases h
  | _ + 1, .step w p, v, ⟨a, e, h⟩ => ⟨a, e, k _ _ h⟩
  | d + 1, .all ks, v, ⟨a, b, vs, e, h1, h2, h3⟩ => ⟨a, b, vs, e, k _ _ h1, k _ _ h2, paired_imp h3 fun s v => SAt.keep k d s v⟩
  | d + 1, .best ks, v, ⟨a, b, vs, e, h1, h2, h3⟩ => ⟨a, b, vs, e, k _ _ h1, k _ _ h2, paired_imp h3 fun s v => SAt.keep k d s v⟩
  | d + 1, .most n s, v, ⟨a, u, e, h1, h2⟩ => ⟨a, u, e, k _ _ h1, SAt.keep k d s u h2⟩
  | d + 1, .half s, v, ⟨a, u, e, h1, h2⟩ => ⟨a, u, e, k _ _ h1, SAt.keep k d s u h2⟩
  | d + 1, .seen w s, v, ⟨a, u, e, h1, h2⟩ => ⟨a, u, e, k _ _ h1, SAt.keep k d s u h2⟩
  | d + 1, .behind w s, v, ⟨a, u, e, h1, h2⟩ => ⟨a, u, e, k _ _ h1, SAt.keep k d s u h2⟩
  | d + 1, .carry s, v, ⟨a, u, e, h1, h2⟩ => ⟨a, u, e, k _ _ h1, SAt.keep k d s u h2⟩
  | d + 1, .fin w p s, v, ⟨a, u, e, h1, h2⟩ => ⟨a, u, e, k _ _ h1, SAt.keep k d s u h2⟩
  | _ + 1, .use n, v, ⟨a, e, h⟩ => ⟨a, e, k _ _ h⟩
/-- a scheme that can be, in scheme i of M -/
def OkS (i M : Nat) : Nat → Sch → Prop
  | 0, _ => False
  | _ + 1, .step w p => IsW w ∧ 1 ≤ p ∧ p ≤ 9
  | d + 1, .all k => 0 < k.length ∧ k.length ≤ 4 ∧ ∀ s ∈ k, OkS i M d s
  | d + 1, .best k => 0 < k.length ∧ k.length ≤ 4 ∧ ∀ s ∈ k, OkS i M d s
  | d + 1, .most n s => (0 ≤ n ∧ n ≤ 30) ∧ OkS i M d s
  | d + 1, .half s => OkS i M d s
  | d + 1, .seen w s => IsW w ∧ OkS i M d s
  | d + 1, .behind w s => IsW w ∧ OkS i M d s
  | d + 1, .carry s => OkS i M d s
  | d + 1, .fin w p s => (IsW w ∧ 1 ≤ p ∧ p ≤ 9) ∧ OkS i M d s
  | _ + 1, .use n => i < n ∧ n < M
def sz : Nat → Sch → Int
  | 0, _ => 0
  | _ + 1, .step _ _ => 1
  | d + 1, .all k => 1 + (k.map (sz d)).sum
  | d + 1, .best k => 1 + (k.map (sz d)).sum
  | d + 1, .most _ s => 1 + sz d s
  | d + 1, .half s => 1 + sz d s
  | d + 1, .seen _ s => 1 + sz d s
  | d + 1, .behind _ s => 1 + sz d s
  | d + 1, .carry s => 1 + sz d s
  | d + 1, .fin _ _ s => 1 + sz d s
  | _ + 1, .use _ => 1
/-- steps and ends; c: those of the used ones -/
def er (c : Nat → Int) : Nat → Sch → Int
  | 0, _ => 0
  | _ + 1, .step _ _ => 1
  | d + 1, .all k => (k.map (er c d)).sum
  | d + 1, .best k => (k.map (er c d)).sum
  | d + 1, .most _ s => er c d s
  | d + 1, .half s => er c d s
  | d + 1, .seen _ s => er c d s
  | d + 1, .behind _ s => er c d s
  | d + 1, .carry s => er c d s
  | d + 1, .fin _ _ s => 1 + er c d s
  | _ + 1, .use n => c n
/-- seens and behinds -/
def wr (c : Nat → Int) : Nat → Sch → Int
  | 0, _ => 0
  | _ + 1, .step _ _ => 0
  | d + 1, .all k => (k.map (wr c d)).sum
  | d + 1, .best k => (k.map (wr c d)).sum
  | d + 1, .most _ s => wr c d s
  | d + 1, .half s => wr c d s
  | d + 1, .seen _ s => 1 + wr c d s
  | d + 1, .behind _ s => 1 + wr c d s
  | d + 1, .carry s => wr c d s
  | d + 1, .fin _ _ s => wr c d s
  | _ + 1, .use n => c n
/-- what is told of the later schemes: number, steps and ends, seens and behinds -/
def UAt (H : Hp) (i M : Nat) (ce cw : Nat → Int) (u : Addr) : Prop := ∃ (js : List Nat) (vs : List V), H u = some (.lst vs) ∧ js.length ≤ 5 ∧ (∀ j ∈ js, i < j ∧ j < M) ∧
  Paired (fun j v => ∃ t, v = V.ref t ∧ H t = some (.tup [.int ((j : Nat) : Int), .int (ce j), .int (cw j)])) js vs
theorem UAt.keep {H H' : Hp} {i M : Nat} {ce cw : Nat → Int} {u : Addr} (h : UAt H i M ce cw u) (k : TupK H H') (hu : ∀ vs, H u = some (.lst vs) → H' u = some (.lst vs)) : UAt H' i M ce cw u := by
  obtain ⟨js, vs, e, l, r, p⟩ := h
  exact ⟨js, vs, hu vs e, l, r, paired_imp p fun j v ⟨t, e1, e2⟩ => ⟨t, e1, k _ _ e2⟩⟩
end MS
end
section
set_option maxRecDepth 100000
set_option maxHeartbeats 4000000
namespace MS
open PySem L2
theorem ev_or {t u : TT} {σ : St} {H : Hp} {b c : Bool} (h1 : ∀ Q : Bool → Hp → Prop, Q b H → t σ H Q) (h2 : ∀ Q : Bool → Hp → Prop, Q c H → u σ H Q) : ∀ Q : Bool → Hp → Prop, Q (b || c) H → tOr t u σ H Q := fun Q q => h1 _ (by
  cases b with
  | true => exact iteT q
  | false => exact iteF (h2 _ q))
theorem ev_and {t u : TT} {σ : St} {H : Hp} {b c : Bool} (h1 : ∀ Q : Bool → Hp → Prop, Q b H → t σ H Q) (h2 : ∀ Q : Bool → Hp → Prop, Q c H → u σ H Q) : ∀ Q : Bool → Hp → Prop, Q (b && c) H → tAnd t u σ H Q := fun Q q => h1 _ (by
  cases b with
  | true => exact iteT (h2 _ q)
  | false => exact iteF q)
theorem seq_if {tc : TT} {t r : TS} {D : Ends} {σ : St} {H : Hp} {b : Bool} (h : ∀ Q : Bool → Hp → Prop, Q b H → tc σ H Q) (k1 : b = true → t { D with nx := r D } σ H) (k2 : b = false → r D σ H) : tSeq (tIfS tc t tNext) r D σ H := h _ (by
  cases b with
  | true => exact iteT (k1 rfl)
  | false => exact iteF (k2 rfl))
theorem one_if {tc : TT} {t : TS} {D : Ends} {σ : St} {H : Hp} {b : Bool} (h : ∀ Q : Bool → Hp → Prop, Q b H → tc σ H Q) (k1 : b = true → t D σ H) (k2 : b = false → D.nx σ H) : tIfS tc t tNext D σ H := h _ (by
  cases b with
  | true => exact iteT (k1 rfl)
  | false => exact iteF (k2 rfl))
theorem seq_if_to {tc : TT} {t r : TS} {D : Ends} {σ : St} {H : Hp} {b : Bool} (R : St → Hp → Prop) (h : ∀ Q : Bool → Hp → Prop, Q b H → tc σ H Q) (rest : ∀ σ' H', R σ' H' → r D σ' H')
    (k1 : b = true → (∀ σ' H', R σ' H' → r D σ' H') → t { D with nx := r D } σ H) (k2 : b = false → R σ H) : tSeq (tIfS tc t tNext) r D σ H := seq_if h (fun e => k1 e rest) fun e => rest _ _ (k2 e)
theorem paired_get' {α β : Type} {R : α → β → Prop} : ∀ {xs : List α} {ys : List β}, Paired R xs ys → ∀ {k : Nat} {y : β}, ys[k]? = some y → ∃ x, xs[k]? = some x ∧ R x y
  | _, _, .nil, _, _, h => by simp at h
  | _, _, .cons r t, 0, _, h => by
    simp at h
    subst h
    exact ⟨_, rfl, r⟩
  | _, _, .cons _ t, k + 1, y, h => by
    obtain ⟨x, e, r⟩ := paired_get' t (k := k) (y := y) (by simpa using h)
    exact ⟨x, by simpa using e, r⟩
theorem paired_snoc {α β : Type} {R : α → β → Prop} : ∀ {xs : List α} {ys : List β} {x : α} {y : β}, Paired R xs ys → R x y → Paired R (xs ++ [x]) (ys ++ [y])
  | _, _, _, _, .nil, h => .cons h .nil
  | _, _, _, _, .cons r t, h => .cons r (paired_snoc t h)
theorem pick_name {a b : Str} {r : Int} (h0 : 0 ≤ r) (h1 : r < 2) : atI [V.str a, V.str b] r = some (.str (if r = 0 then a else b)) := by
  have e : r = 0 ∨ r = 1 := by omega
  rcases e with rfl | rfl
  · exact at0
  · exact at1
structure GenAt (i M : Nat) (ce cw : Nat → Int) (H : Hp) (b l L m u : Addr) (F : List Str) (x y z : Int) : Prop where
  box : Box H b l
  left : H m = some (.lst [.int x, .int y, .int z])
  lets : H L = some (.lst (F.map V.str))
  words : ∀ x ∈ F, IsW x
  pos : 0 < F.length
  few : F.length ≤ 8
  uses : UAt H i M ce cw u
  bm : m ≠ b ∧ m ≠ l
  nL : L ∉ [b, l, m]
  nu : u ∉ [b, l, m]
section
variable {i M : Nat} {ce cw : Nat → Int} {H H' : Hp} {b l L m u : Addr} {F : List Str} {x y z x' y' z' : Int}
theorem GenAt.lists (G : GenAt i M ce cw H b l L m u F x y z) : ∀ a ∈ [b, l, m], ∃ ys, H a = some (.lst ys) := fun a ha => by
  obtain ⟨_, ⟨n, e1⟩, ns, e2⟩ := G.box
  rcases List.mem_cons.mp ha with rfl | ha
  · exact ⟨_, e1⟩
  · rcases List.mem_cons.mp ha with rfl | ha
    · exact ⟨_, e2⟩
    · rw [List.mem_singleton.mp ha]
      exact ⟨_, G.left⟩
theorem GenAt.tup (G : GenAt i M ce cw H b l L m u F x y z) (k : Keep [b, l, m] H H') : TupK H H' := k.tup G.lists
theorem GenAt.move (G : GenAt i M ce cw H b l L m u F x y z) (k : Keep [b, l, m] H H') (B : Box H' b l) (e : H' m = some (.lst [.int x', .int y', .int z'])) : GenAt i M ce cw H' b l L m u F x' y' z' :=
  ⟨B, e, k _ _ G.lets G.nL, G.words, G.pos, G.few, G.uses.keep (G.tup k) (fun vs h => k _ _ h G.nu), G.bm, G.nL, G.nu⟩
theorem GenAt.nm (G : GenAt i M ce cw H b l L m u F x y z) : m ∉ [b, l] := by simp [G.bm.1, G.bm.2]
theorem GenAt.draw (G : GenAt i M ce cw H b l L m u F x y z) (k : Keep [b, l] H H') (B : Box H' b l) : GenAt i M ce cw H' b l L m u F x y z :=
  G.move (k.mono fun _ h => by simp only [List.mem_cons, List.not_mem_nil, or_false] at h ⊢; rcases h with h | h <;> simp [h]) B (k _ _ G.left G.nm)
theorem GenAt.new (G : GenAt i M ce cw H b l L m u F x y z) {p : Addr} {o : HO} (h : H p = none) : GenAt i M ce cw (upd H p o) b l L m u F x y z :=
  G.draw (Keep.new h) (G.box.new h)
theorem GenAt.put (G : GenAt i M ce cw H b l L m u F x y z) : GenAt i M ce cw (upd H m (.lst [.int x', .int y', .int z'])) b l L m u F x' y' z' :=
  G.move (Keep.put (by simp)) (G.box.put G.bm.1 G.bm.2) upd_same
theorem k3 {b l m : Addr} {H H' : Hp} (k : Keep [b, l] H H') : Keep [b, l, m] H H' := k.mono fun _ h => by simp only [List.mem_cons, List.not_mem_nil, or_false] at h ⊢; rcases h with h | h <;> simp [h]
end
def spScheme (i M : Nat) (ce cw : Nat → Int) (d : Nat) : Sp := fun vs H Q _ => ∃ (b l L m u : Addr) (F : List Str) (x y z : Int), vs = [.ref b, .ref L, .ref m, .int (d : Int), .ref u] ∧ GenAt i M ce cw H b l L m u F x y z ∧ 1 ≤ x ∧ 1 ≤ y ∧ 0 ≤ z ∧
  ∀ (v : V) (s : Sch) (H' : Hp) (x' y' z' : Int), SAt H' (d + 1) s v → OkS i M (d + 1) s → sz (d + 1) s = x - x' → er ce (d + 1) s = y - y' → wr cw (d + 1) s = z - z' → 0 ≤ x' → 0 ≤ y' → 0 ≤ z' →
    H' m = some (.lst [.int x', .int y', .int z']) → Box H' b l → Keep [b, l, m] H H' → Q v H'
abbrev nmScheme : List Str := ["_law_box", "_law_letters_here", "_law_left", "_law_deep", "_law_uses", "_law_word", "_law_way", "_law_one", "_law_some", "_law_kids", "_law_turn"]
abbrev psScheme : List Str := ["_law_box", "_law_letters_here", "_law_left", "_law_deep", "_law_uses"]
section
variable {P : Program} {w : World} {K : PySem.W.Frag} {mg : Str → Option Value} {base : Heap}
theorem scheme_turn {i M d : Nat} {ce cw : Nat → Int} {sp' : Sp} (D : Def K mg "_law_scheme" s_L_scheme psScheme) (DT : Def K mg "_law_take" s_L_take ["_law_box", "_law_many"]) (ml : mg "len" = none) (mr : mg "range" = none) (mt : mg "tuple" = none)
    (G : FnOk P w K mg base CX0 (d + 1) D.f D.fd psScheme sp') (hs : ∀ d', d = d' + 1 → sp' = spScheme i M ce cw d') : FnOk P w K mg base CX0 (d + 2) D.f D.fd psScheme (spScheme i M ce cw d) := by
  have GT : FnOk P w K mg base CX0 1 DT.f DT.fd ["_law_box", "_law_many"] spTake := ok_take DT
  have nd := sc_L_scheme.nd
  refine D.ok sc_L_scheme (fun vs H Q E h => ?_) (fun cdv A outer s H vs Q E hr h => ?_)
  · obtain ⟨b, l, L, m, u, F, x, y, z, rfl, _⟩ := h
    rfl
  obtain ⟨b, l, L, m, u, F, x, y, z, rfl, g, hx, hy, hz, q⟩ := h
  have hr1 : Room 1 _ := hr.mono (by omega)
  refine ⟨_, pss_cons (ps_asg (pe_op op_sub (pe_ix ix_list (pv 2) pe_int (fun _ _ => rfl)) pe_int) (pg_sub (pv 2) pe_int set_list))
    (pss_cons (ps_set (i := 5) nd rfl (Or.inl rfl) (pe_ix ix_list (pv 1) (pcall DT GT hr1 (pa_cons (pv 0) (pa_cons (pe_callB call_len_seq rfl ml PySem.boot_len (pa_cons (pv 1) pa_nil)) pa_nil))) (fun _ _ => rfl)))
    (pss_cons (ps_set (i := 6) nd rfl (Or.inl rfl) (pcall DT GT hr1 (pa_cons (pv 0) (pa_cons pe_int pa_nil))))
    (pss_cons (ps_if (PW.pt (pw_or (pt_cmpR op_eq (pv 3) pe_int (nomark _)) (pw_or (pt_cmpR op_lt (pe_ix ix_list (pv 2) pe_int (fun _ _ => rfl)) pe_int (nomark _)) (pw_or (pt_cmpR op_lt (pe_ix ix_list (pv 2) pe_int (fun _ _ => rfl)) pe_int (nomark _)) (pw_or1 (pt_cmpR op_lt (pv 6) pe_int (nomark _)))))))
      (pss_cons (ps_asg (pe_op op_sub (pe_ix ix_list (pv 2) pe_int (fun _ _ => rfl)) pe_int) (pg_sub (pv 2) pe_int set_list)) (pss_one (ps_ret (pe_tup (pa_cons pe_str (pa_cons (pv 5) (pa_cons (pe_op op_add pe_int (pcall DT GT hr1 (pa_cons (pv 0) (pa_cons pe_int pa_nil)))) pa_nil))))))) pss_nil)
    (pss_cons (ps_if (pt_cmpR op_eq (pv 6) pe_int (nomark _))
      (pss_cons (ps_setLc (i := 8) (own := [("_law_one", 7)]) (g := gName 7) rfl nd rfl rfl (sw_true rfl rfl rfl (by decide +kernel)) (pi_list (pv 4)) (blkOk_by (N := nmScheme) (sc := defScope s_L_scheme) (by decide +kernel)) (fun _ _ _ _ _ => pg_name (i := 7) nd rfl (Or.inl rfl))
          (fun _ _ _ _ _ => pts_one (PW.pt (pw_and (pt_cmpR op_le (pe_ix (r := rIxT K) ix_tup (pv 7) pe_int (fun _ _ => rfl)) (pe_ix (r := rIxL K) ix_list (pv 2) pe_int (fun _ _ => rfl)) (nomark _)) (pw_and1 (pt_cmpR op_le (pe_ix (r := rIxT K) ix_tup (pv 7) pe_int (fun _ _ => rfl)) (pe_ix (r := rIxL K) ix_list (pv 2) pe_int (fun _ _ => rfl)) (nomark _))))))
          (fun _ _ _ _ _ => pv 7))
        (pss_one (ps_if (pt_cmpR (op_neD hr.units) (pv 8) (pe_lst pa_nil) (nomark _))
          (pss_cons (ps_set (i := 7) nd rfl (Or.inl rfl) (pe_ix ix_list (pv 8) (pcall DT GT hr1 (pa_cons (pv 0) (pa_cons (pe_callB call_len_seq rfl ml PySem.boot_len (pa_cons (pv 8) pa_nil)) pa_nil))) (fun _ _ => rfl)))
          (pss_cons (ps_asg (pe_tup (pa_cons (pe_op op_sub (pe_ix ix_list (pv 2) pe_int (fun _ _ => rfl)) (pe_ix ix_tup (pv 7) pe_int (fun _ _ => rfl))) (pa_cons (pe_op op_sub (pe_ix ix_list (pv 2) pe_int (fun _ _ => rfl)) (pe_ix ix_tup (pv 7) pe_int (fun _ _ => rfl))) pa_nil)))
              (pg_tup (by rfl) (pgs_cons (pg_sub (pv 2) pe_int set_list) (pgs_cons (pg_sub (pv 2) pe_int set_list) pgs_nil))))
          (pss_one (ps_ret (pe_tup (pa_cons pe_str (pa_cons (pe_ix ix_tup (pv 7) pe_int (fun _ _ => rfl)) pa_nil))))))) pss_nil))) pss_nil)
    (pss_cons (ps_if (pt_cmpR op_lt (pv 6) pe_int (nomark _))
      (pss_cons (ps_set (i := 9) nd rfl (Or.inl rfl) (pe_lst pa_nil))
      (pss_cons (ps_for PassesOwn.never rfl (pi_range1 rfl mr (pa_cons (pe_op op_add pe_int (pcall DT GT hr1 (pa_cons (pv 0) (pa_cons pe_int pa_nil)))) pa_nil)) (pg_name (i := 10) nd rfl (Or.inl rfl))
        (pss_one (ps_if (PW.pt (pw_and (pt_cmpR op_gt (pe_ix ix_list (pv 2) pe_int (fun _ _ => rfl)) pe_int (nomark _)) (pw_and1 (pt_cmpR op_gt (pe_ix ix_list (pv 2) pe_int (fun _ _ => rfl)) pe_int (nomark _)))))
          (pss_one (ps_expr (pe_bm PySem.F.plainAttrs_list PySem.F.slot_list_append PySem.F.type_list_append mt_append (pv 9) (pa_cons (pcall D G hr (pa_cons (pv 0) (pa_cons (pv 1) (pa_cons (pv 2) (pa_cons (pe_op op_sub (pv 3) pe_int) (pa_cons (pv 4) pa_nil)))))) pa_nil)))) pss_nil)))
      (pss_one (ps_ret (pe_tup (pa_cons (pe_ix ix_list (pe_lst (pa_cons pe_str (pa_cons pe_str pa_nil))) (pe_op op_mod (pv 6) pe_int) (fun _ _ => rfl)) (pa_cons (pe_callTy call_tuple_of rfl mt (by decide +kernel) (pa_cons (pv 9) pa_nil)) pa_nil))))))) pss_nil)
    (pss_cons (ps_if (PW.pt (pw_and (pt_cmpR op_lt (pv 6) pe_int (nomark _)) (pw_and1 (pt_cmpR op_gt (pe_ix ix_list (pv 2) pe_int (fun _ _ => rfl)) pe_int (nomark _)))))
      (pss_cons (ps_asg (pe_op op_sub (pe_ix ix_list (pv 2) pe_int (fun _ _ => rfl)) pe_int) (pg_sub (pv 2) pe_int set_list))
        (pss_one (ps_ret (pe_tup (pa_cons (pe_ix ix_list (pe_lst (pa_cons pe_str (pa_cons pe_str pa_nil))) (pe_op op_mod (pv 6) pe_int) (fun _ _ => rfl)) (pa_cons (pv 5) (pa_cons (pcall D G hr (pa_cons (pv 0) (pa_cons (pv 1) (pa_cons (pv 2) (pa_cons (pe_op op_sub (pv 3) pe_int) (pa_cons (pv 4) pa_nil)))))) pa_nil))))))) pss_nil)
    (pss_cons (ps_if (PW.pt (pw_and (pt_cmpR op_eq (pv 6) pe_int (nomark _)) (pw_and1 (pt_cmpR op_gt (pe_ix ix_list (pv 2) pe_int (fun _ _ => rfl)) pe_int (nomark _)))))
      (pss_cons (ps_asg (pe_op op_sub (pe_ix ix_list (pv 2) pe_int (fun _ _ => rfl)) pe_int) (pg_sub (pv 2) pe_int set_list))
        (pss_one (ps_ret (pe_tup (pa_cons pe_str (pa_cons (pv 5) (pa_cons (pe_op op_add pe_int (pcall DT GT hr1 (pa_cons (pv 0) (pa_cons pe_int pa_nil)))) (pa_cons (pcall D G hr (pa_cons (pv 0) (pa_cons (pv 1) (pa_cons (pv 2) (pa_cons (pe_op op_sub (pv 3) pe_int) (pa_cons (pv 4) pa_nil)))))) pa_nil)))))))) pss_nil)
    (pss_cons (ps_if (pt_cmpR op_eq (pv 6) pe_int (nomark _))
      (pss_one (ps_ret (pe_tup (pa_cons pe_str (pa_cons (pcall DT GT hr1 (pa_cons (pv 0) (pa_cons (pe_ix ix_list (pe_lst (pa_cons pe_int (pa_cons pe_int (pa_cons pe_int pa_nil)))) (pcall DT GT hr1 (pa_cons (pv 0) (pa_cons pe_int pa_nil))) (fun _ _ => rfl)) pa_nil))) (pa_cons (pcall D G hr (pa_cons (pv 0) (pa_cons (pv 1) (pa_cons (pv 2) (pa_cons (pe_op op_sub (pv 3) pe_int) (pa_cons (pv 4) pa_nil)))))) pa_nil)))))) pss_nil)
    (pss_one (ps_ret (pe_tup (pa_cons (pe_ix ix_list (pe_lst (pa_cons pe_str (pa_cons pe_str pa_nil))) (pe_op op_mod (pv 6) pe_int) (fun _ _ => rfl)) (pa_cons (pcall D G hr (pa_cons (pv 0) (pa_cons (pv 1) (pa_cons (pv 2) (pa_cons (pe_op op_sub (pv 3) pe_int) (pa_cons (pv 4) pa_nil)))))) pa_nil))))))))))))), ?_⟩
  -- left[0] = left[0] - 1
  refine ⟨_, rfl, m, _, 0, .int x, rfl, rfl, SqL.of g.left, at0, _, _, rfl, rfl, _, rfl, m, _, 0, 0, rfl, rfl, g.left, rfl, ?_⟩
  have g1 : GenAt i M ce cw (upd H m (.lst [.int (x - 1), .int y, .int z])) b l L m u F (x - 1) y z := g.put
  -- word
  refine ⟨_, rfl, _, rfl, _, rfl, L, _, rfl, .inl (SqL.of g1.lets), b, l, _, rfl, (by have := g.pos; rw [List.length_map]; omega), (by have := g.few; rw [List.length_map]; omega), g1.box, fun r1 H2 a0 a1 B2 k2 => ?_⟩
  have g2 := g1.draw k2 B2
  obtain ⟨wd, ew, hw, _⟩ := pick_word g.words a0 a1
  refine ⟨L, _, r1, .str wd, rfl, rfl, SqL.of g2.lets, ew, ?_⟩
  -- way
  refine ⟨_, rfl, b, l, 16, rfl, by decide, by decide, g2.box, fun way H3 c0 c1 B3 k3' => ?_⟩
  have g3 := g2.draw k3' B3
  have kk3 : Keep [b, l, m] H H3 := (Keep.put (by simp)).trans (k3 (k2.trans k3'))
  dsimp only [gName]
  refine seq_if (b := decide ((d : Int) = 0) || (decide (x - 1 < 2) || (decide (y < 2) || decide (way < 3)))) (ev_or (fun Q q => ⟨_, rfl, rfl, _, rfl, by rw [dec_int]; exact q⟩) (ev_or (fun Q q => ⟨_, rfl, m, _, 0, .int (x - 1), rfl, rfl, SqL.of g3.left, at0, _, _, rfl, rfl, _, rfl, q⟩)
    (ev_or (fun Q q => ⟨_, rfl, m, _, 1, .int y, rfl, rfl, SqL.of g3.left, at1, _, _, rfl, rfl, _, rfl, q⟩) (fun Q q => ⟨_, rfl, _, _, rfl, rfl, _, rfl, q⟩)))) (fun cc => ?_) (fun cc => ?_)
  · -- a step
    refine ⟨_, rfl, m, _, 1, .int y, rfl, rfl, SqL.of g3.left, at1, _, _, rfl, rfl, _, rfl, m, _, 1, 1, rfl, rfl, g3.left, rfl, ?_⟩
    have g4 : GenAt i M ce cw (upd H3 m (.lst [.int (x - 1), .int (y - 1), .int z])) b l L m u F (x - 1) (y - 1) z := g3.put
    refine ⟨_, rfl, _, rfl, b, l, 9, rfl, by decide, by decide, g4.box, fun r H5 d0 d1 B5 k5 => ?_⟩
    have g5 := g4.draw k5 B5
    refine ⟨_, _, rfl, rfl, (by show 3 ≤ sizeLine; decide), fun p hp => ?_⟩
    have g6 := g5.new (o := .tup [.str "step", .str wd, .int (1 + r)]) hp
    refine q _ (.step wd (1 + r)) _ (x - 1) (y - 1) z ⟨p, rfl, upd_same⟩ ⟨hw, by omega, by omega⟩ ?_ ?_ ?_ (by omega) (by omega) hz g6.left g6.box (kk3.trans ((Keep.put (by simp)).trans ((k3 k5).trans (Keep.new hp))))
    · show (1 : Int) = x - (x - 1)
      omega
    · show (1 : Int) = y - (y - 1)
      omega
    · show (0 : Int) = z - z
      omega
  simp only [Bool.or_eq_false_iff, decide_eq_false_iff_not] at cc
  obtain ⟨cd, cx, cy, cw'⟩ := cc
  obtain ⟨d', rfl⟩ : ∃ d', d = d' + 1 := ⟨d - 1, by omega⟩
  obtain rfl := hs d' rfl
  refine seq_if_to (b := decide (way = 3)) (fun σ' H' => ∃ v7 v8 : Option V, σ' = [some (.ref b), some (.ref L), some (.ref m), some (.int ((d' + 1 : Nat) : Int)), some (.ref u), some (.str wd), some (.int way), v7, v8, none, none] ∧ GenAt i M ce cw H' b l L m u F (x - 1) y z ∧ Keep [b, l, m] H H')
    (fun Q q => ⟨_, rfl, rfl, _, rfl, by rw [dec_int]; exact q⟩) ?_ ?_ (fun _ => ⟨none, none, rfl, g3, kk3⟩)
  · rintro σ' H4 ⟨v7, v8, rfl, g4, kk4⟩
    have recE : (.int (((d' + 1 : Nat) : Int) - 1) : V) = .int (d' : Int) := by rw [show (((d' + 1 : Nat) : Int) - 1) = (d' : Int) by omega]
    refine seq_if (b := decide (way < 9)) (fun Q q => ⟨_, rfl, _, _, rfl, rfl, _, rfl, q⟩) (fun _ => ?_) (fun c9 => ?_)
    · -- all, best
      refine ⟨Nat.zero_le _, fun kd hkd => ?_⟩
      have nkd := g4.box.ne_new hkd
      have nkm : kd ≠ m := (ne_of_none g4.left hkd).symm
      have gk := g4.new (o := .lst []) hkd
      have hkd0 : ∀ {S : List Addr} {H' : Hp} {o : HO}, Keep [b, l, m] H4 H' → Keep [b, l, m] H4 (upd H' kd o) := fun k => k.newer hkd
      have nin : kd ∉ [b, l, m] := by simp [nkd.1, nkd.2, nkm]
      refine ⟨_, rfl, b, l, 4, rfl, by decide, by decide, gk.box, fun r H5 e0 e1 B5 k5 => ?_⟩
      have g5 := gk.draw k5 B5
      refine ⟨_, _, rfl, rfl, _, rfl, by omega, by omega, ?_⟩
      refine for_range (lo := 0) (n := (1 + r).toNat) (fun k σ H' => ∃ (ks : List Sch) (vs : List V) (x' y' z' : Int) (v10 : Option V), σ = [some (.ref b), some (.ref L), some (.ref m), some (.int ((d' + 1 : Nat) : Int)), some (.ref u), some (.str wd), some (.int way), v7, v8, some (.ref kd), v10] ∧
          H' kd = some (.lst vs) ∧ Paired (SAt H' (d' + 1)) ks vs ∧ (∀ s ∈ ks, OkS i M (d' + 1) s) ∧ (ks.map (sz (d' + 1))).sum = (x - 1) - x' ∧ (ks.map (er ce (d' + 1))).sum = y - y' ∧ (ks.map (wr cw (d' + 1))).sum = z - z' ∧ 0 ≤ x' ∧ 0 ≤ y' ∧ 0 ≤ z' ∧
          ks.length ≤ k ∧ (0 < k → 0 < ks.length) ∧ (k = 0 → x' = x - 1 ∧ y' = y) ∧ GenAt i M ce cw H' b l L m u F x' y' z' ∧ Keep [b, l, m] H4 H')
        ⟨[], [], x - 1, y, z, none, rfl, k5 _ _ upd_same (by simp [nkd.1, nkd.2]), .nil, (fun _ h => nomatch h), by simp, by simp, by simp, by omega, by omega, hz, Nat.le_refl _, fun h => absurd h (Nat.lt_irrefl _), fun _ => ⟨rfl, rfl⟩, g5, (Keep.new hkd).trans (k3 k5)⟩ ?_ ?_
      · rintro k σ H' hk ⟨ks, vs, x', y', z', v10, rfl, ekd, pk, ok, s1, s2, s3, p1, p2, p3, len, pos, ini, g', kk'⟩
        refine one_if (b := decide (0 < x') && decide (0 < y')) (ev_and (fun Q q => ⟨_, rfl, m, _, 0, .int x', rfl, rfl, SqL.of g'.left, at0, _, _, rfl, rfl, _, rfl, q⟩) (fun Q q => ⟨_, rfl, m, _, 1, .int y', rfl, rfl, SqL.of g'.left, at1, _, _, rfl, rfl, _, rfl, q⟩)) (fun cc => ?_) (fun cc => ?_)
        · simp only [Bool.and_eq_true, decide_eq_true_eq] at cc
          refine ⟨_, rfl, .inl ⟨rfl, _, SqL.of ekd⟩, _, rfl, _, rfl, _, rfl, _, rfl, _, _, rfl, rfl, _, rfl, b, l, L, m, u, F, x', y', z', by rw [← recE] <;> rfl, g', by omega, by omega, p3, fun v s H6 x2 y2 z2 sa so q1 q2 q3 n1 n2 n3 el B6 k6 => ?_⟩
          have g6 := g'.move k6 B6 el
          have t6 := g'.tup k6
          refine ⟨kd, vs, v, rfl, rfl, k6 _ _ ekd nin, ?_, ?_⟩
          · have hl := Paired.length pk
            exact small1000 (by omega)
          · have g7 : GenAt i M ce cw (upd H6 kd (.lst (vs ++ [v]))) b l L m u F x2 y2 z2 := g4.move ((kk'.trans k6).newer hkd) (g6.box.put nkd.1 nkd.2) (by rw [upd_ne nkm.symm]; exact g6.left)
            have t7 : TupK H6 (upd H6 kd (.lst (vs ++ [v]))) := TupK.put (k6 _ _ ekd nin)
            refine ⟨ks ++ [s], vs ++ [v], x2, y2, z2, _, rfl, upd_same, paired_snoc (paired_imp pk fun s' v' h => SAt.keep (t6.trans t7) _ _ _ h) (SAt.keep t7 _ _ _ sa), ?_, ?_, ?_, ?_, n1, n2, n3, ?_, fun _ => by simp, fun h => absurd h (Nat.succ_ne_zero _), g7, (kk'.trans k6).newer hkd⟩
            · intro s' hs'
              rcases List.mem_append.mp hs' with h | h
              · exact ok s' h
              · rw [List.mem_singleton.mp h]
                exact so
            · simp only [List.map_append, List.sum_append, List.map_cons, List.map_nil, List.sum_cons, List.sum_nil]
              omega
            · simp only [List.map_append, List.sum_append, List.map_cons, List.map_nil, List.sum_cons, List.sum_nil]
              omega
            · simp only [List.map_append, List.sum_append, List.map_cons, List.map_nil, List.sum_cons, List.sum_nil]
              omega
            · simp only [List.length_append, List.length_cons, List.length_nil]
              omega
        · simp only [Bool.and_eq_false_iff, decide_eq_false_iff_not] at cc
          refine ⟨ks, vs, x', y', z', _, rfl, ekd, pk, ok, s1, s2, s3, p1, p2, p3, by omega, fun _ => pos ?_, fun h => absurd h (Nat.succ_ne_zero _), g', kk'⟩
          by_cases hk0 : k = 0
          · have := ini hk0
            omega
          · omega
      · rintro σ H' ⟨ks, vs, x', y', z', v10, rfl, ekd, pk, ok, s1, s2, s3, p1, p2, p3, len, pos, ini, g', kk'⟩
        have hm := Int.emod_nonneg way (show (2 : Int) ≠ 0 by decide)
        have hm2 := Int.emod_lt_of_pos way (show (0 : Int) < 2 by decide)
        refine ⟨sz2, fun T hT => ?_⟩
        have gT := g'.new (o := .lst [.str "all", .str "best"]) hT
        refine ⟨_, rfl, _, _, rfl, rfl, (by show (0 : Int) < 2; decide), T, _, way % 2, _, rfl, rfl, SqL.of upd_same, pick_name hm hm2, ?_⟩
        have nkT : kd ≠ T := ne_of_none ekd hT
        have ekT : upd H' T (.lst [.str "all", .str "best"]) kd = some (.lst vs) := by rw [upd_ne nkT]; exact ekd
        refine ⟨_, rfl, kd, vs, rfl, .inl ⟨SqL.of ekT, fun t ht => ?_⟩⟩
        have gt := gT.new (o := .tup vs) ht
        refine ⟨sz2, fun p hp => ?_⟩
        have tt : TupK H' (upd (upd (upd H' T (.lst [.str "all", .str "best"])) t (.tup vs)) p (.tup [.str (if way % 2 = 0 then "all" else "best"), .ref t])) := (TupK.new hT).trans ((TupK.new ht).trans (TupK.new hp))
        have gp := gt.new (o := .tup [.str (if way % 2 = 0 then "all" else "best"), .ref t]) hp
        have kp : Keep [b, l, m] H (upd (upd (upd H' T (.lst [.str "all", .str "best"])) t (.tup vs)) p (.tup [.str (if way % 2 = 0 then "all" else "best"), .ref t])) := kk4.trans (kk'.trans ((Keep.new hT).trans ((Keep.new ht).trans (Keep.new hp))))
        have et : (upd (upd (upd H' T (.lst [.str "all", .str "best"])) t (.tup vs)) p (.tup [.str (if way % 2 = 0 then "all" else "best"), .ref t])) t = some (.tup vs) := by rw [upd_ne (ne_of_none upd_same hp)]; exact upd_same
        have pk' := paired_imp pk fun s' v' h => SAt.keep tt _ _ _ h
        have hlen : 0 < ks.length ∧ ks.length ≤ 4 := ⟨pos (by omega), by omega⟩
        by_cases hw2 : way % 2 = 0
        · refine q _ (.all ks) _ x' y' z' ⟨p, t, vs, rfl, by rw [upd_same, if_pos hw2], et, pk'⟩ ⟨hlen.1, hlen.2, ok⟩ ?_ ?_ ?_ p1 p2 p3 gp.left gp.box kp
          · show 1 + (ks.map (sz (d' + 1))).sum = x - x'
            omega
          · exact s2
          · exact s3
        · refine q _ (.best ks) _ x' y' z' ⟨p, t, vs, rfl, by rw [upd_same, if_neg hw2], et, pk'⟩ ⟨hlen.1, hlen.2, ok⟩ ?_ ?_ ?_ p1 p2 p3 gp.left gp.box kp
          · show 1 + (ks.map (sz (d' + 1))).sum = x - x'
            omega
          · exact s2
          · exact s3
    have hm := Int.emod_nonneg way (show (2 : Int) ≠ 0 by decide)
    have hm2 := Int.emod_lt_of_pos way (show (0 : Int) < 2 by decide)
    refine seq_if (b := decide (way < 12) && decide (0 < z)) (ev_and (fun Q q => ⟨_, rfl, _, _, rfl, rfl, _, rfl, q⟩) (fun Q q => ⟨_, rfl, m, _, 2, .int z, rfl, rfl, SqL.of g4.left, at2, _, _, rfl, rfl, _, rfl, q⟩)) (fun cc => ?_) (fun c12 => ?_)
    · -- seen, behind
      simp only [Bool.and_eq_true, decide_eq_true_eq] at cc
      refine ⟨_, rfl, m, _, 2, .int z, rfl, rfl, SqL.of g4.left, at2, _, _, rfl, rfl, _, rfl, m, _, 2, 2, rfl, rfl, g4.left, rfl, ?_⟩
      have g5 : GenAt i M ce cw (upd H4 m (.lst [.int (x - 1), .int y, .int (z - 1)])) b l L m u F (x - 1) y (z - 1) := g4.put
      refine ⟨sz2, fun T hT => ?_⟩
      have g6 := g5.new (o := .lst [.str "seen", .str "behind"]) hT
      refine ⟨_, rfl, _, _, rfl, rfl, (by show (0 : Int) < 2; decide), T, _, way % 2, _, rfl, rfl, SqL.of upd_same, pick_name hm hm2, ?_⟩
      refine ⟨_, rfl, _, rfl, _, rfl, _, rfl, _, rfl, _, _, rfl, rfl, _, rfl, b, l, L, m, u, F, x - 1, y, z - 1, by rw [← recE] <;> rfl, g6, by omega, by omega, by omega, fun v s H6 x2 y2 z2 sa so q1 q2 q3 n1 n2 n3 el B6 k6 => ?_⟩
      have g7 := g6.move k6 B6 el
      refine ⟨(by show 3 ≤ sizeLine; decide), fun p hp => ?_⟩
      have tp : TupK H6 (upd H6 p (.tup [.str (if way % 2 = 0 then "seen" else "behind"), .str wd, v])) := TupK.new hp
      have g8 := g7.new (o := .tup [.str (if way % 2 = 0 then "seen" else "behind"), .str wd, v]) hp
      have kp : Keep [b, l, m] H (upd H6 p (.tup [.str (if way % 2 = 0 then "seen" else "behind"), .str wd, v])) := kk4.trans ((Keep.put (by simp)).trans ((Keep.new hT).trans (k6.trans (Keep.new hp))))
      by_cases hw2 : way % 2 = 0
      · refine q _ (.seen wd s) _ x2 y2 z2 ⟨p, v, rfl, by rw [upd_same, if_pos hw2], SAt.keep tp _ _ _ sa⟩ ⟨hw, so⟩ ?_ ?_ ?_ n1 n2 n3 g8.left g8.box kp
        · show 1 + sz (d' + 1) s = x - x2
          omega
        · exact q2
        · show 1 + wr cw (d' + 1) s = z - z2
          omega
      · refine q _ (.behind wd s) _ x2 y2 z2 ⟨p, v, rfl, by rw [upd_same, if_neg hw2], SAt.keep tp _ _ _ sa⟩ ⟨hw, so⟩ ?_ ?_ ?_ n1 n2 n3 g8.left g8.box kp
        · show 1 + sz (d' + 1) s = x - x2
          omega
        · exact q2
        · show 1 + wr cw (d' + 1) s = z - z2
          omega
    refine seq_if (b := decide (way = 12) && decide (1 < y)) (ev_and (fun Q q => ⟨_, rfl, rfl, _, rfl, by rw [dec_int]; exact q⟩) (fun Q q => ⟨_, rfl, m, _, 1, .int y, rfl, rfl, SqL.of g4.left, at1, _, _, rfl, rfl, _, rfl, q⟩)) (fun cc => ?_) (fun c13 => ?_)
    · -- end
      simp only [Bool.and_eq_true, decide_eq_true_eq] at cc
      refine ⟨_, rfl, m, _, 1, .int y, rfl, rfl, SqL.of g4.left, at1, _, _, rfl, rfl, _, rfl, m, _, 1, 1, rfl, rfl, g4.left, rfl, ?_⟩
      have g5 : GenAt i M ce cw (upd H4 m (.lst [.int (x - 1), .int (y - 1), .int z])) b l L m u F (x - 1) (y - 1) z := g4.put
      refine ⟨_, rfl, _, rfl, b, l, 9, rfl, by decide, by decide, g5.box, fun r H5 d0 d1 B5 k5 => ?_⟩
      have g6 := g5.draw k5 B5
      refine ⟨_, _, rfl, rfl, ?_⟩
      refine ⟨_, rfl, _, rfl, _, rfl, _, rfl, _, _, rfl, rfl, _, rfl, b, l, L, m, u, F, x - 1, y - 1, z, by rw [← recE] <;> rfl, g6, by omega, by omega, hz, fun v s H6 x2 y2 z2 sa so q1 q2 q3 n1 n2 n3 el B6 k6 => ?_⟩
      have g7 := g6.move k6 B6 el
      refine ⟨(by show 4 ≤ sizeLine; decide), fun p hp => ?_⟩
      have g8 := g7.new (o := .tup [.str "end", .str wd, .int (1 + r), v]) hp
      refine q _ (.fin wd (1 + r) s) _ x2 y2 z2 ⟨p, v, rfl, upd_same, SAt.keep (TupK.new hp) _ _ _ sa⟩ ⟨⟨hw, by omega, by omega⟩, so⟩ ?_ ?_ q3 n1 n2 n3 g8.left g8.box (kk4.trans ((Keep.put (by simp)).trans ((k3 k5).trans (k6.trans (Keep.new hp)))))
      · show 1 + sz (d' + 1) s = x - x2
        omega
      · show 1 + er ce (d' + 1) s = y - y2
        omega
    refine seq_if (b := decide (way = 13)) (fun Q q => ⟨_, rfl, rfl, _, rfl, by rw [dec_int]; exact q⟩) (fun _ => ?_) (fun _ => ?_)
    · -- most
      refine ⟨_, rfl, (by show 3 ≤ sizeLine; decide), fun T hT => ?_⟩
      have g5 := g4.new (o := .lst [.int 4, .int 12, .int 31]) hT
      refine ⟨_, rfl, b, l, 3, rfl, by decide, by decide, g5.box, fun r H5 d0 d1 B5 k5 => ?_⟩
      have g6 := g5.draw k5 B5
      have eT := k5 _ _ upd_same (g4.box.nin hT)
      obtain ⟨mm, em, mb⟩ : ∃ mm : Int, atI [V.int 4, V.int 12, V.int 31] r = some (.int mm) ∧ (0 < mm ∧ mm ≤ 31) := by
        have e : r = 0 ∨ r = 1 ∨ r = 2 := by omega
        rcases e with rfl | rfl | rfl
        · exact ⟨4, at0, by decide⟩
        · exact ⟨12, at1, by decide⟩
        · exact ⟨31, at2, by decide⟩
      refine ⟨T, _, r, .int mm, rfl, rfl, SqL.of eT, em, b, l, mm, rfl, mb.1, by omega, g6.box, fun r2 H6 f0 f1 B6 k6 => ?_⟩
      have g7 := g6.draw k6 B6
      refine ⟨_, rfl, _, rfl, _, rfl, _, rfl, _, _, rfl, rfl, _, rfl, b, l, L, m, u, F, x - 1, y, z, by rw [← recE] <;> rfl, g7, by omega, by omega, hz, fun v s H7 x2 y2 z2 sa so q1 q2 q3 n1 n2 n3 el B7 k7 => ?_⟩
      have g8 := g7.move k7 B7 el
      refine ⟨(by show 3 ≤ sizeLine; decide), fun p hp => ?_⟩
      have g9 := g8.new (o := .tup [.str "most", .int r2, v]) hp
      refine q _ (.most r2 s) _ x2 y2 z2 ⟨p, v, rfl, upd_same, SAt.keep (TupK.new hp) _ _ _ sa⟩ ⟨⟨f0, by omega⟩, so⟩ ?_ q2 q3 n1 n2 n3 g9.left g9.box (kk4.trans ((Keep.new hT).trans ((k3 (k5.trans k6)).trans (k7.trans (Keep.new hp)))))
      show 1 + sz (d' + 1) s = x - x2
      omega
    -- half, carry
    refine ⟨sz2, fun T hT => ?_⟩
    have g6 := g4.new (o := .lst [.str "half", .str "carry"]) hT
    refine ⟨_, rfl, _, _, rfl, rfl, (by show (0 : Int) < 2; decide), T, _, way % 2, _, rfl, rfl, SqL.of upd_same, pick_name hm hm2, ?_⟩
    refine ⟨_, rfl, _, rfl, _, rfl, _, rfl, _, _, rfl, rfl, _, rfl, b, l, L, m, u, F, x - 1, y, z, by rw [← recE] <;> rfl, g6, by omega, by omega, hz, fun v s H6 x2 y2 z2 sa so q1 q2 q3 n1 n2 n3 el B6 k6 => ?_⟩
    have g7 := g6.move k6 B6 el
    refine ⟨sz2, fun p hp => ?_⟩
    have tp : TupK H6 (upd H6 p (.tup [.str (if way % 2 = 0 then "half" else "carry"), v])) := TupK.new hp
    have g8 := g7.new (o := .tup [.str (if way % 2 = 0 then "half" else "carry"), v]) hp
    have kp : Keep [b, l, m] H (upd H6 p (.tup [.str (if way % 2 = 0 then "half" else "carry"), v])) := kk4.trans ((Keep.new hT).trans (k6.trans (Keep.new hp)))
    by_cases hw2 : way % 2 = 0
    · refine q _ (.half s) _ x2 y2 z2 ⟨p, v, rfl, by rw [upd_same, if_pos hw2], SAt.keep tp _ _ _ sa⟩ so ?_ q2 q3 n1 n2 n3 g8.left g8.box kp
      show 1 + sz (d' + 1) s = x - x2
      omega
    · refine q _ (.carry s) _ x2 y2 z2 ⟨p, v, rfl, by rw [upd_same, if_neg hw2], SAt.keep tp _ _ _ sa⟩ so ?_ q2 q3 n1 n2 n3 g8.left g8.box kp
      show 1 + sz (d' + 1) s = x - x2
      omega
  · -- a use
    intro _ rest
    obtain ⟨js, uv, eu, jl, jr, pu⟩ := g3.uses
    have gu : UAt H3 i M ce cw u := ⟨js, uv, eu, jl, jr, pu⟩
    have ul := Paired.length pu
    refine ⟨_, rfl, u, rfl, ⟨_, SqL.of eu⟩, fun Dd hD => ?_⟩
    have nuD : u ≠ Dd := ne_of_none eu hD
    refine lc_list (K := K) (a := u) (xs := uv) (fun k H'' => ∃ (js' : List Nat) (vs' : List V), H'' = upd H3 Dd (.lst vs') ∧ js'.length ≤ k ∧ (∀ j ∈ js', j ∈ js ∧ ce j ≤ y ∧ cw j ≤ z) ∧ Paired (fun j v => ∃ t, v = V.ref t ∧ H3 t = some (.tup [.int ((j : Nat) : Int), .int (ce j), .int (cw j)])) js' vs')
      ⟨[], [], rfl, Nat.le_refl _, (fun _ h => nomatch h), .nil⟩ (fun k H'' _ ⟨_, _, e, _⟩ => by rw [e]; exact SqL.of (by rw [upd_ne nuD]; exact eu)) ?_ ?_
    · rintro k xk H'' hk ⟨js', vs', rfl, l', sub, pu'⟩
      obtain ⟨j, ej, t, rfl, et⟩ := paired_get' pu hk
      have et' : upd H3 Dd (.lst vs') t = some (.tup [.int ((j : Nat) : Int), .int (ce j), .int (cw j)]) := by rw [upd_ne (ne_of_none et hD)]; exact et
      have em : upd H3 Dd (.lst vs') m = some (.lst [.int (x - 1), .int y, .int z]) := (g3.new hD).left
      refine ⟨rfl, ev_and (b := decide (ce j ≤ y)) (c := decide (cw j ≤ z)) (fun Q q => ⟨_, rfl, t, _, 1, .int (ce j), rfl, rfl, SqT.of et', at1, _, rfl, m, _, 1, .int y, rfl, rfl, SqL.of em, at1, _, _, rfl, rfl, _, rfl, q⟩)
        (fun Q q => ⟨_, rfl, t, _, 2, .int (cw j), rfl, rfl, SqT.of et', at2, _, rfl, m, _, 2, .int z, rfl, rfl, SqL.of em, at2, _, _, rfl, rfl, _, rfl, q⟩) _ ?_⟩
      have lv := Paired.length pu'
      have hkl := (List.getElem?_eq_some_iff.mp hk).1
      refine ite2 (fun c => ?_) (fun c => ?_)
      · simp only [Bool.and_eq_true, decide_eq_true_eq] at c
        refine ⟨_, rfl, vs', upd_same, small1000 (by omega), js' ++ [j], vs' ++ [.ref t], upd_upd, by simp only [List.length_append, List.length_cons, List.length_nil]; omega, fun j' hj' => ?_, paired_snoc pu' ⟨t, rfl, et⟩⟩
        rcases List.mem_append.mp hj' with h | h
        · exact sub j' h
        · rw [List.mem_singleton.mp h]
          exact ⟨List.mem_of_getElem? ej, c⟩
      · exact ⟨js', vs', rfl, by omega, sub, pu'⟩
    · rintro H'' ⟨js', vs', rfl, l', sub, pu'⟩
      have lv := Paired.length pu'
      have g4 := g3.new (o := .lst vs') hD
      have kk4 : Keep [b, l, m] H (upd H3 Dd (.lst vs')) := kk3.trans (Keep.new hD)
      dsimp only [gName]
      refine ⟨_, rfl, Nat.zero_le _, fun p hp => ?_⟩
      have g5 := g4.new (o := .lst []) hp
      have nDp : Dd ≠ p := ne_of_none upd_same hp
      have eD : upd (upd H3 Dd (.lst vs')) p (.lst []) Dd = some (.lst vs') := by rw [upd_ne nDp]; exact upd_same
      have kk5 : Keep [b, l, m] H (upd (upd H3 Dd (.lst vs')) p (.lst [])) := kk4.trans (Keep.new hp)
      have tk5 : TupK H3 (upd (upd H3 Dd (.lst vs')) p (.lst [])) := (TupK.new hD).trans (TupK.new hp)
      have pu5 : Paired (fun (j : Nat) (v : V) => ∃ t, v = V.ref t ∧ (upd (upd H3 Dd (.lst vs')) p (.lst [])) t = some (HO.tup [.int ((j : Nat) : Int), .int (ce j), .int (cw j)])) js' vs' := paired_imp pu' fun j v ⟨t, e1, e2⟩ => ⟨t, e1, tk5 _ _ e2⟩
      have dp : ∀ {js' : List Nat} {vs' : List V} {Hx : Hp}, Paired (fun j v => ∃ t, v = V.ref t ∧ Hx t = some (.tup [.int ((j : Nat) : Int), .int (ce j), .int (cw j)])) js' vs' → DpAll K Hx vs' (js'.map fun j => .tuple [.int ((j : Nat) : Int), .int (ce j), .int (cw j)]) := by
        intro js' vs' Hx h
        induction h with
        | nil => exact .nil
        | cons h1 _ ih =>
          obtain ⟨t, rfl, e⟩ := h1
          exact .cons (.tup (SqT.of e) (.cons (.int _) (.cons (.int _) (.cons (.int _) .nil)))) ih
      refine ⟨.list (js'.map fun j => .tuple [.int ((j : Nat) : Int), .int (ce j), .int (cw j)]), .list [], .lst (SqL.of eD) (dp pu5), .lst (SqL.of upd_same) .nil, (ShN.lst (n := 1) (ShAll.of fun dd h => ?_)).ok (by decide), rfl, _, rfl, ?_⟩
      · obtain ⟨j, _, rfl⟩ := List.mem_map.mp h
        exact ShN.tup (.cons (.int _) (.cons (.int _) (.cons (.int _) .nil)))
      refine ite2 (fun c => ?_) (fun c => ?_)
      · have hne : 0 < vs'.length := by
          cases js' with
          | nil => exact absurd c (by simp [PyData.eqv, PyData.eqvAll])
          | cons a r => rw [← lv]; exact Nat.succ_pos _
        refine ⟨_, rfl, _, rfl, _, rfl, Dd, _, rfl, .inl (SqL.of eD), b, l, _, rfl, by omega, by omega, g5.box, fun r H6 a0 a1 B6 k6 => ?_⟩
        have g6 := g5.draw k6 B6
        have eD6 := k6 _ _ eD (g3.box.nin hD)
        have hr' : r.toNat < vs'.length := by omega
        have ev : vs'[r.toNat]? = some (vs'[r.toNat]'hr') := List.getElem?_eq_getElem hr'
        obtain ⟨j, ej, t, et0, et⟩ := paired_get' pu5 ev
        have ht6 := g5.tup (k3 k6) _ _ et
        refine ⟨Dd, _, r, .ref t, rfl, rfl, SqL.of eD6, atI_of a0 (by rw [ev, et0]), ?_⟩
        obtain ⟨jin, j1, j2⟩ := sub j (List.mem_of_getElem? ej)
        refine ⟨_, rfl, m, _, 1, .int y, rfl, rfl, SqL.of g6.left, at1, _, rfl, t, _, 1, .int (ce j), rfl, rfl, SqT.of ht6, at1, _, _, rfl, rfl, ?_⟩
        refine ⟨_, rfl, m, _, 2, .int z, rfl, rfl, SqL.of g6.left, at2, _, rfl, t, _, 2, .int (cw j), rfl, rfl, SqT.of ht6, at2, _, _, rfl, rfl, ?_⟩
        refine ⟨sz2, fun T hT => ?_⟩
        have g7 := g6.new (o := .tup [.int (y - ce j), .int (z - cw j)]) hT
        refine ⟨T, _, rfl, SqT.of upd_same, rfl, _, _, rfl, _, rfl, m, _, 1, 1, rfl, rfl, g7.left, rfl, _, _, rfl, _, rfl, m, _, 2, 2, rfl, rfl, upd_same, rfl, rfl, ?_⟩
        have g7a : GenAt i M ce cw (upd (upd H6 T (.tup [.int (y - ce j), .int (z - cw j)])) m (.lst [.int (x - 1), .int (y - ce j), .int z])) b l L m u F (x - 1) (y - ce j) z := g7.put
        have g8 : GenAt i M ce cw (upd (upd (upd H6 T (.tup [.int (y - ce j), .int (z - cw j)])) m (.lst [.int (x - 1), .int (y - ce j), .int z])) m (.lst [.int (x - 1), .int (y - ce j), .int (z - cw j)])) b l L m u F (x - 1) (y - ce j) (z - cw j) := g7a.put
        have ht8 : (upd (upd (upd H6 T (.tup [.int (y - ce j), .int (z - cw j)])) m (.lst [.int (x - 1), .int (y - ce j), .int z])) m (.lst [.int (x - 1), .int (y - ce j), .int (z - cw j)])) t = some (.tup [.int ((j : Nat) : Int), .int (ce j), .int (cw j)]) := (TupK.put g7a.left) _ _ ((TupK.put g7.left) _ _ ((TupK.new hT) _ _ ht6))
        refine ⟨_, rfl, t, _, 0, .int ((j : Nat) : Int), rfl, rfl, SqT.of ht8, at0, sz2, fun p2 hp2 => ?_⟩
        have g9 := g8.new (o := .tup [.str "use", .int ((j : Nat) : Int)]) hp2
        refine q _ (.use j) _ (x - 1) (y - ce j) (z - cw j) ⟨p2, rfl, upd_same⟩ (jr j jin) ?_ ?_ ?_ (by omega) (by omega) (by omega) g9.left g9.box (kk5.trans ((k3 k6).trans ((Keep.new hT).trans ((Keep.put (by simp)).trans ((Keep.put (by simp)).trans (Keep.new hp2))))))
        · show (1 : Int) = x - (x - 1)
          omega
        · show ce j = y - (y - ce j)
          omega
        · show cw j = z - (z - cw j)
          omega
      · exact rest _ _ ⟨none, some (.ref Dd), rfl, g5, kk5⟩
end
end MS
end
section
set_option maxRecDepth 100000
set_option maxHeartbeats 4000000
namespace MS
open PySem L2
section
variable {P : Program} {w : World} {K : PySem.W.Frag} {mg : Str → Option Value} {base : Heap}
theorem no_sp {k : Nat} {f : Addr} {fd : FuncData} {ps : List Str} : FnOk P w K mg base CX0 k f fd ps (fun _ _ _ _ => False) := ⟨fun vs H Q E h => h.elim, fun A outer s H args us vs Q E _ _ _ _ h => h.elim⟩
theorem ok_scheme {i M : Nat} {ce cw : Nat → Int} (D : Def K mg "_law_scheme" s_L_scheme psScheme) (DT : Def K mg "_law_take" s_L_take ["_law_box", "_law_many"]) (ml : mg "len" = none) (mr : mg "range" = none) (mt : mg "tuple" = none) :
    ∀ d : Nat, FnOk P w K mg base CX0 (d + 2) D.f D.fd psScheme (spScheme i M ce cw d)
  | 0 => scheme_turn D DT ml mr mt (sp' := fun _ _ _ _ => False) no_sp fun d' h => by omega
  | d + 1 => scheme_turn D DT ml mr mt (ok_scheme D DT ml mr mt d) fun d' h => by
      have e : d = d' := by omega
      rw [e]
end
/-! ### counts -/
/-- all later schemes are told -/
def UFull (H : Hp) (i M : Nat) (ce cw : Nat → Int) (u : Addr) : Prop := ∃ (js : List Nat) (vs : List V), H u = some (.lst vs) ∧ js.length ≤ 5 ∧ (∀ j, i < j → j < M → j ∈ js) ∧
  Paired (fun j v => ∃ t, v = V.ref t ∧ H t = some (.tup [.int ((j : Nat) : Int), .int (ce j), .int (cw j)])) js vs
theorem UFull.keep {H H' : Hp} {i M : Nat} {ce cw : Nat → Int} {u : Addr} (h : UFull H i M ce cw u) (k : Same H H') : UFull H' i M ce cw u := by
  obtain ⟨js, vs, e, l, r, p⟩ := h
  exact ⟨js, vs, k _ _ e, l, r, paired_imp p fun j v ⟨t, e1, e2⟩ => ⟨t, e1, k _ _ e2⟩⟩
theorem Same.tupK {H H' : Hp} (k : Same H H') : TupK H H' := fun a xs e => k a _ e
/-- what a value within a scheme counts -/
def KidR (i M : Nat) (ce cw : Nat → Int) (H : Hp) (d : Nat) (p : Int × Int) (v : V) : Prop := (∃ n, v = .int n ∧ p = (0, 0)) ∨ ∃ s, SAt H d s v ∧ OkS i M d s ∧ p = (er ce d s, wr cw d s)
def isAB (nm : Str) : Bool := inV (.str nm) [.str "all", .str "best"]
def n0 (nm : Str) : Int := if inV (.str nm) [.str "step", .str "end"] then 1 else 0
def n1 (nm : Str) : Int := if inV (.str nm) [.str "seen", .str "behind"] then 1 else 0
structure KidsOf (i M : Nat) (ce cw : Nat → Int) (H : Hp) (d : Nat) (nm : Str) (rest : List V) (e w : Int) : Prop where
  no : nm ≠ "use"
  kids : (isAB nm = true ∧ ∃ (b : Addr) (vs : List V) (ps : List (Int × Int)), rest = [.ref b] ∧ H b = some (.tup vs) ∧ Paired (KidR i M ce cw H d) ps vs ∧ e = n0 nm + (ps.map (·.1)).sum ∧ w = n1 nm + (ps.map (·.2)).sum) ∨
    (isAB nm = false ∧ ∃ (u : V) (p : Int × Int), cutV (.str nm :: rest) (some (-1)) none = [u] ∧ ¬ (HT.sIx (V.str nm :: rest).length 0 (some (-1)) = 0 ∧ HT.sIx (V.str nm :: rest).length (V.str nm :: rest).length none = (V.str nm :: rest).length) ∧ KidR i M ce cw H d p u ∧ e = n0 nm + p.1 ∧ w = n1 nm + p.2)
theorem kid_list {i M : Nat} {ce cw : Nat → Int} {H : Hp} {d : Nat} : ∀ {ks : List Sch} {vs : List V}, Paired (SAt H d) ks vs → (∀ s ∈ ks, OkS i M d s) → Paired (KidR i M ce cw H d) (ks.map fun s => (er ce d s, wr cw d s)) vs
  | _, _, .nil, _ => .nil
  | _, _, .cons r t, h => .cons (.inr ⟨_, r, h _ List.mem_cons_self, rfl⟩) (kid_list t fun s hs => h s (List.mem_cons_of_mem _ hs))
theorem SAt.view {i M : Nat} {ce cw : Nat → Int} {H : Hp} {d : Nat} {s : Sch} {v : V} (h : SAt H (d + 1) s v) (o : OkS i M (d + 1) s) :
    (∃ a j, v = .ref a ∧ s = .use j ∧ H a = some (.tup [.str "use", .int ((j : Nat) : Int)])) ∨
    ∃ a nm rest, v = .ref a ∧ H a = some (.tup (.str nm :: rest)) ∧ KidsOf i M ce cw H d nm rest (er ce (d + 1) s) (wr cw (d + 1) s) := by
  cases s with
  | step x p =>
    obtain ⟨a, rfl, e⟩ := h
    exact .inr ⟨a, "step", _, rfl, e, by decide +kernel, .inr ⟨by decide +kernel, .int p, (0, 0), rfl, (by show ¬ (HT.sIx 3 0 (some (-1)) = 0 ∧ HT.sIx 3 3 none = 3); decide), .inl ⟨p, rfl, rfl⟩, by show (1 : Int) = n0 "step" + 0; decide +kernel, by show (0 : Int) = n1 "step" + 0; decide +kernel⟩⟩
  | all k =>
    obtain ⟨a, b, vs, rfl, e, e2, pk⟩ := h
    refine .inr ⟨a, "all", _, rfl, e, by decide +kernel, .inl ⟨by decide +kernel, b, vs, _, rfl, e2, kid_list pk o.2.2, ?_, ?_⟩⟩
    · rw [List.map_map, show n0 "all" = 0 by decide +kernel, Int.zero_add]; rfl
    · rw [List.map_map, show n1 "all" = 0 by decide +kernel, Int.zero_add]; rfl
  | best k =>
    obtain ⟨a, b, vs, rfl, e, e2, pk⟩ := h
    refine .inr ⟨a, "best", _, rfl, e, by decide +kernel, .inl ⟨by decide +kernel, b, vs, _, rfl, e2, kid_list pk o.2.2, ?_, ?_⟩⟩
    · rw [List.map_map, show n0 "best" = 0 by decide +kernel, Int.zero_add]; rfl
    · rw [List.map_map, show n1 "best" = 0 by decide +kernel, Int.zero_add]; rfl
  | most n s =>
    obtain ⟨a, u, rfl, e, hs⟩ := h
    refine .inr ⟨a, "most", _, rfl, e, by decide +kernel, .inr ⟨by decide +kernel, u, _, rfl, (by show ¬ (HT.sIx 3 0 (some (-1)) = 0 ∧ HT.sIx 3 3 none = 3); decide), .inr ⟨s, hs, o.2, rfl⟩, ?_, ?_⟩⟩
    · rw [show n0 "most" = 0 by decide +kernel, Int.zero_add]; rfl
    · rw [show n1 "most" = 0 by decide +kernel, Int.zero_add]; rfl
  | half s =>
    obtain ⟨a, u, rfl, e, hs⟩ := h
    refine .inr ⟨a, "half", _, rfl, e, by decide +kernel, .inr ⟨by decide +kernel, u, _, rfl, (by show ¬ (HT.sIx 2 0 (some (-1)) = 0 ∧ HT.sIx 2 2 none = 2); decide), .inr ⟨s, hs, o, rfl⟩, ?_, ?_⟩⟩
    · rw [show n0 "half" = 0 by decide +kernel, Int.zero_add]; rfl
    · rw [show n1 "half" = 0 by decide +kernel, Int.zero_add]; rfl
  | seen x s =>
    obtain ⟨a, u, rfl, e, hs⟩ := h
    refine .inr ⟨a, "seen", _, rfl, e, by decide +kernel, .inr ⟨by decide +kernel, u, _, rfl, (by show ¬ (HT.sIx 3 0 (some (-1)) = 0 ∧ HT.sIx 3 3 none = 3); decide), .inr ⟨s, hs, o.2, rfl⟩, ?_, ?_⟩⟩
    · rw [show n0 "seen" = 0 by decide +kernel, Int.zero_add]; rfl
    · rw [show n1 "seen" = 1 by decide +kernel]; rfl
  | behind x s =>
    obtain ⟨a, u, rfl, e, hs⟩ := h
    refine .inr ⟨a, "behind", _, rfl, e, by decide +kernel, .inr ⟨by decide +kernel, u, _, rfl, (by show ¬ (HT.sIx 3 0 (some (-1)) = 0 ∧ HT.sIx 3 3 none = 3); decide), .inr ⟨s, hs, o.2, rfl⟩, ?_, ?_⟩⟩
    · rw [show n0 "behind" = 0 by decide +kernel, Int.zero_add]; rfl
    · rw [show n1 "behind" = 1 by decide +kernel]; rfl
  | carry s =>
    obtain ⟨a, u, rfl, e, hs⟩ := h
    refine .inr ⟨a, "carry", _, rfl, e, by decide +kernel, .inr ⟨by decide +kernel, u, _, rfl, (by show ¬ (HT.sIx 2 0 (some (-1)) = 0 ∧ HT.sIx 2 2 none = 2); decide), .inr ⟨s, hs, o, rfl⟩, ?_, ?_⟩⟩
    · rw [show n0 "carry" = 0 by decide +kernel, Int.zero_add]; rfl
    · rw [show n1 "carry" = 0 by decide +kernel, Int.zero_add]; rfl
  | fin x p s =>
    obtain ⟨a, u, rfl, e, hs⟩ := h
    refine .inr ⟨a, "end", _, rfl, e, by decide +kernel, .inr ⟨by decide +kernel, u, _, rfl, (by show ¬ (HT.sIx 4 0 (some (-1)) = 0 ∧ HT.sIx 4 4 none = 4); decide), .inr ⟨s, hs, o.2, rfl⟩, ?_, ?_⟩⟩
    · rw [show n0 "end" = 1 by decide +kernel]; rfl
    · rw [show n1 "end" = 0 by decide +kernel, Int.zero_add]; rfl
  | use n =>
    obtain ⟨a, rfl, e⟩ := h
    exact .inl ⟨a, n, rfl, rfl, e⟩
theorem KidR.keep {i M : Nat} {ce cw : Nat → Int} {H H' : Hp} {d : Nat} {p : Int × Int} {v : V} (h : KidR i M ce cw H d p v) (k : TupK H H') : KidR i M ce cw H' d p v := by
  rcases h with h | ⟨s, h1, h2⟩
  · exact .inl h
  · exact .inr ⟨s, SAt.keep k _ _ _ h1, h2⟩
theorem KidsOf.keep {i M : Nat} {ce cw : Nat → Int} {H H' : Hp} {d : Nat} {nm : Str} {rest : List V} {e w : Int} (h : KidsOf i M ce cw H d nm rest e w) (k : TupK H H') : KidsOf i M ce cw H' d nm rest e w := by
  refine ⟨h.no, ?_⟩
  rcases h.kids with ⟨hb, b, vs, ps, e1, eb, pk, ee, ew⟩ | ⟨hb, u, p, eu, nw, hk, ee, ew⟩
  · exact .inl ⟨hb, b, vs, ps, e1, k _ _ eb, paired_imp pk fun _ _ z => z.keep k, ee, ew⟩
  · exact .inr ⟨hb, u, p, eu, nw, hk.keep k, ee, ew⟩
theorem SAt.ref {H : Hp} {d : Nat} {s : Sch} {v : V} (h : SAt H d s v) : ∃ a xs, v = .ref a ∧ H a = some (.tup xs) := by
  cases d with
  | zero => cases h
  | succ d =>
    cases s with
    | step x p => obtain ⟨a, e, h⟩ := h; exact ⟨a, _, e, h⟩
    | all k => obtain ⟨a, b, vs, e, h, _⟩ := h; exact ⟨a, _, e, h⟩
    | best k => obtain ⟨a, b, vs, e, h, _⟩ := h; exact ⟨a, _, e, h⟩
    | most n s => obtain ⟨a, u, e, h, _⟩ := h; exact ⟨a, _, e, h⟩
    | half s => obtain ⟨a, u, e, h, _⟩ := h; exact ⟨a, _, e, h⟩
    | seen x s => obtain ⟨a, u, e, h, _⟩ := h; exact ⟨a, _, e, h⟩
    | behind x s => obtain ⟨a, u, e, h, _⟩ := h; exact ⟨a, _, e, h⟩
    | carry s => obtain ⟨a, u, e, h, _⟩ := h; exact ⟨a, _, e, h⟩
    | fin x p s => obtain ⟨a, u, e, h, _⟩ := h; exact ⟨a, _, e, h⟩
    | use n => obtain ⟨a, e, h⟩ := h; exact ⟨a, _, e, h⟩
/-- what the laws' walks go through within a scheme -/
def tKids (K : PySem.W.Frag) : TE := tIf (tTest (tOp (rIn K false) (tOp (rIxT K) (tVar 0) (tC (.int 0))) (tTup (tCons (tC (.str "all")) (tCons (tC (.str "best")) tNil))))) (tOp (rIxT K) (tVar 0) (tC (.int 1)))
  (tSl (rSlA K) (tVar 0) (tPart (tUn (rU fun i => .int (-i)) (tC (.int 1)))) tNoPart)
theorem kids_ev {K : PySem.W.Frag} {i M : Nat} {ce cw : Nat → Int} {σ : St} {H : Hp} {d : Nat} {a : Addr} {nm : Str} {rest : List V} {e w : Int} {Q : VK} (s0 : σ[0]? = some (some (.ref a))) (ea : H a = some (.tup (.str nm :: rest))) (k : KidsOf i M ce cw H d nm rest e w)
    (h : ∀ (kd : Addr) (kv : List V) (ps : List (Int × Int)) (H1 : Hp), Same H H1 → H1 kd = some (.tup kv) → Paired (KidR i M ce cw H d) ps kv → e = n0 nm + (ps.map (·.1)).sum → w = n1 nm + (ps.map (·.2)).sum → Q (.ref kd) H1) : tKids K σ H Q := by
  refine ⟨_, s0, a, _, 0, .str nm, rfl, rfl, SqT.of ea, at0, sz2, fun t ht => ⟨t, _, rfl, .inr (SqT.of upd_same), rfl, rfl, _, rfl, ?_⟩⟩
  have s1 : Same H (upd H t (.tup [.str "all", .str "best"])) := Same.new ht
  have ea1 := s1 _ _ ea
  rcases k.kids with ⟨hb, b, vs, ps, rfl, eb, pk, ee, ew⟩ | ⟨hb, u, p, eu, nw, hk, ee, ew⟩
  · show (if isAB nm = true then _ else _)
    rw [if_pos hb]
    exact ⟨_, s0, a, _, 1, .ref b, rfl, rfl, SqT.of ea1, at1, h b vs ps _ s1 (s1 _ _ eb) pk ee ew⟩
  · show (if isAB nm = true then _ else _)
    rw [if_neg (by rw [hb]; decide)]
    refine ⟨_, s0, 1, rfl, -1, rfl, a, _, rfl, SqT.of ea1, fun z => absurd z nw, fun _ q hq => ?_⟩
    refine h q [u] [p] _ (s1.trans (Same.new hq)) (by rw [upd_same, eu]) (.cons hk .nil) ?_ ?_
    · rw [ee, List.map_singleton, List.sum_singleton]
    · rw [ew, List.map_singleton, List.sum_singleton]
def spCounted (K : PySem.W.Frag) (i M : Nat) (ce cw : Nat → Int) (d : Nat) : Sp := fun vs H Q _ => ∃ (v : V) (u : Addr) (s : Sch), vs = [v, .ref u] ∧ SAt H d s v ∧ OkS i M d s ∧ UFull H i M ce cw u ∧
  ∀ (p : Addr) (H' : Hp), Same H H' → H' p = some (.tup [.int (er ce d s), .int (wr cw d s)]) → Q (.ref p) H'
abbrev nmCounted : List Str := ["_law_scheme_here", "_law_uses", "_law_found", "_law_kid", "_law_more", "_law_one"]
abbrev psCounted : List Str := ["_law_scheme_here", "_law_uses"]
section
variable {P : Program} {w : World} {K : PySem.W.Frag} {mg : Str → Option Value} {base : Heap}
theorem counted_turn {i M d : Nat} {ce cw : Nat → Int} (D : Def K mg "_law_counted" s_L_counted psCounted) (mi : mg "int" = none) (mt : mg "tuple" = none) (mis : mg "isinstance" = none)
    (G : FnOk P w K mg base CX0 d D.f D.fd psCounted (spCounted K i M ce cw d)) : FnOk P w K mg base CX0 (d + 1) D.f D.fd psCounted (spCounted K i M ce cw (d + 1)) := by
  have nd := sc_L_counted.nd
  refine D.ok sc_L_counted (fun vs H Q E h => ?_) (fun cdv A outer s H vs Q E hr h => ?_)
  · obtain ⟨v, u, s, rfl, _⟩ := h
    rfl
  obtain ⟨v, u, sc, rfl, hs, ho, hu, q⟩ := h
  refine ⟨_, pss_cons (ps_if (pt_cmpR op_eq (pe_ix ix_tup (pv 0) pe_int (fun _ _ => rfl)) pe_str (nomark _))
      (pss_one (ps_ret (pe_ix ix_list (pe_lc (own := [("_law_one", 5)]) (g := gName 5) rfl nd (pi_list (pv 1)) (blkOk_by (N := nmCounted) (sc := defScope s_L_counted) (by decide +kernel)) (fun _ _ _ _ _ => pg_name (i := 5) nd rfl (Or.inl rfl))
          (fun _ _ _ _ _ => pts_one (pt_cmpR op_eq (pe_ix (r := rIxT K) ix_tup (pv 5) pe_int (fun _ _ => rfl)) (pe_ix (r := rIxT K) ix_tup (pv 0) pe_int (fun _ _ => rfl)) (nomark _)))
          (fun _ _ _ _ _ => pe_slice (r := rSlA K) sl_tupA (pv 5) (po_some pe_int) po_none)) pe_int (fun _ _ => rfl)))) pss_nil)
    (pss_cons (ps_set (i := 2) nd rfl (Or.inl rfl) (pe_lst (pa_cons (pe_callTy call_int1 rfl mi (by decide +kernel) (pa_cons (pe_cmpR op_in_seq (pe_ix ix_tup (pv 0) pe_int (fun _ _ => rfl)) (pe_tup (pa_cons pe_str (pa_cons pe_str pa_nil))) (by rfl)) pa_nil))
      (pa_cons (pe_callTy call_int1 rfl mi (by decide +kernel) (pa_cons (pe_cmpR op_in_seq (pe_ix ix_tup (pv 0) pe_int (fun _ _ => rfl)) (pe_tup (pa_cons pe_str (pa_cons pe_str pa_nil))) (by rfl)) pa_nil)) pa_nil))))
    (pss_cons (ps_for PassesOwn.never rfl (pi_tup (pe_ifExp (pt_cmpR op_in_seq (pe_ix ix_tup (pv 0) pe_int (fun _ _ => rfl)) (pe_tup (pa_cons pe_str (pa_cons pe_str pa_nil))) (by rfl)) (pe_ix ix_tup (pv 0) pe_int (fun _ _ => rfl)) (pe_slice sl_tupA (pv 0) (po_some (pe_un un_neg pe_int)) po_none))) (pg_name (i := 3) nd rfl (Or.inl rfl))
      (pss_one (ps_if (pt_val (pe_callB call_isi rfl mis (by decide +kernel) (pa_cons (pv 3) (pa_cons (pe_bltn rfl mt (by decide +kernel) (v := .ty "tuple") rfl) pa_nil))))
        (pss_cons (ps_set (i := 4) nd rfl (Or.inl rfl) (pcall D G hr (pa_cons (pv 3) (pa_cons (pv 1) pa_nil))))
        (pss_one (ps_set (i := 2) nd rfl (Or.inl rfl) (pe_lst (pa_cons (pe_op op_add (pe_ix ix_list (pv 2) pe_int (fun _ _ => rfl)) (pe_ix ix_tup (pv 4) pe_int (fun _ _ => rfl))) (pa_cons (pe_op op_add (pe_ix ix_list (pv 2) pe_int (fun _ _ => rfl)) (pe_ix ix_tup (pv 4) pe_int (fun _ _ => rfl))) pa_nil)))))) pss_nil)))
    (pss_one (ps_ret (pe_callTy call_tuple_of rfl mt (by decide +kernel) (pa_cons (pv 2) pa_nil)))))), ?_⟩
  rcases hs.view (ce := ce) (cw := cw) ho with ⟨a, j, rfl, rfl, ea⟩ | ⟨a, nm, rest, rfl, ea, kk⟩
  · -- a use
    refine seq_if (b := true) (fun Q q => ⟨_, rfl, a, _, 0, .str "use", rfl, rfl, SqT.of ea, at0, rfl, _, rfl, by rw [dec_str]; exact q⟩) (fun _ => ?_) (fun z => nomatch z)
    obtain ⟨js, uv, eu, jl, jf, pu⟩ := hu
    have ul := Paired.length pu
    refine ⟨_, rfl, u, rfl, ⟨_, SqL.of eu⟩, fun Dd hD => ?_⟩
    have jin : j ∈ js := jf j ho.1 ho.2
    refine lc_list (K := K) (a := u) (xs := uv) (fun k H'' => ∃ rs : List Addr, H'' Dd = some (.lst (rs.map V.ref)) ∧ Same H H'' ∧ (∀ r ∈ rs, H'' r = some (.tup [.int (ce j), .int (cw j)])) ∧ rs.length ≤ k ∧ (j ∈ js.take k → rs ≠ []))
      ⟨[], upd_same, Same.new hD, (fun _ h => nomatch h), Nat.le_refl _, fun h => by simp at h⟩ (fun k H'' _ ⟨_, _, s1, _⟩ => SqL.of (s1 _ _ eu)) ?_ ?_
    · rintro k xk H'' hk ⟨rs, eD, s1, hrs, lr, hin⟩
      obtain ⟨j', ej, t, rfl, et⟩ := paired_get' pu hk
      have et' := s1 _ _ et
      have ea' := s1 _ _ ea
      have hkl := (List.getElem?_eq_some_iff.mp hk).1
      have tk : js.take (k + 1) = js.take k ++ [j'] := by
        rw [List.take_succ, ej]
        rfl
      refine ⟨rfl, _, rfl, t, _, 0, .int ((j' : Nat) : Int), rfl, rfl, SqT.of et', at0, _, rfl, a, _, 1, .int ((j : Nat) : Int), rfl, rfl, SqT.of ea', at1, rfl, _, rfl, ?_⟩
      refine ite2 (fun c => ?_) (fun c => ?_)
      · have e : j' = j := by
          have z := V.int.inj (of_decide_eq_true c)
          omega
        subst e
        refine ⟨_, rfl, 1, rfl, t, _, rfl, SqT.of et', fun z => absurd z (by show ¬ (HT.sIx 3 0 (some 1) = 0 ∧ HT.sIx 3 3 none = 3); decide), fun _ p hp => ?_⟩
        refine ⟨_, (by rw [upd_ne (ne_of_none eD hp)]; exact eD), (by rw [List.length_map]; exact small1000 (by omega)), rs ++ [p], ?_, fun b o e => ?_, fun r hr => ?_, by simp only [List.length_append, List.length_cons, List.length_nil]; omega, fun _ => by simp⟩
        · rw [upd_same, List.map_append]
          rfl
        · rw [upd_ne (ne_of_none e hD)]
          exact Same.new hp _ _ (s1 _ _ e)
        · have nD : ∀ x xs, H'' x = some (HO.tup xs) → x ≠ Dd := fun x xs e => ne_of e eD (by intro z; cases z)
          rcases List.mem_append.mp hr with h | h
          · rw [upd_ne (nD r _ (hrs r h))]
            exact Same.new hp _ _ (hrs r h)
          · rw [List.mem_singleton.mp h, upd_ne (ne_of_none eD hp).symm, upd_same]
            rfl
      · refine ⟨rs, eD, s1, hrs, by omega, fun h => hin ?_⟩
        rw [tk] at h
        rcases List.mem_append.mp h with h | h
        · exact h
        · exact absurd (by rw [List.mem_singleton.mp h]; exact decide_eq_true rfl) c
    · rintro H'' ⟨rs, eD, s1, hrs, lr, hin⟩
      have hne := hin (by rw [List.take_of_length_le (by omega)]; exact jin)
      cases rs with
      | nil => exact absurd rfl hne
      | cons r0 rr => exact ⟨Dd, _, 0, .ref r0, rfl, rfl, SqL.of eD, at0, q r0 H'' s1 (hrs r0 List.mem_cons_self)⟩
  · refine seq_if (b := false) (fun Q q => ⟨_, rfl, a, _, 0, .str nm, rfl, rfl, SqT.of ea, at0, rfl, _, rfl, by rw [dec_str, beq_eq_false_iff_ne.mpr kk.no]; exact q⟩) (fun z => nomatch z) (fun _ => ?_)
    refine ⟨_, rfl, a, _, 0, .str nm, rfl, rfl, SqT.of ea, at0, sz2, fun t1 h1 => ⟨t1, _, rfl, .inr (SqT.of upd_same), rfl, rfl, .inr ⟨_, rfl, ?_⟩⟩⟩
    have s1 : Same H (upd H t1 (.tup [.str "step", .str "end"])) := Same.new h1
    refine ⟨_, rfl, a, _, 0, .str nm, rfl, rfl, SqT.of (s1 _ _ ea), at0, sz2, fun t2 h2 => ⟨t2, _, rfl, .inr (SqT.of upd_same), rfl, rfl, .inr ⟨_, rfl, sz2, fun fd0 hf0 => ?_⟩⟩⟩
    have s2 : Same H (upd (upd H t1 (.tup [.str "step", .str "end"])) t2 (.tup [.str "seen", .str "behind"])) := s1.trans (Same.new h2)
    have hf00 : H fd0 = none := s2.free hf0
    have s3 : Same H (upd (upd (upd H t1 (.tup [.str "step", .str "end"])) t2 (.tup [.str "seen", .str "behind"])) fd0 (.lst [.int (n0 nm), .int (n1 nm)])) := s2.trans (Same.new hf0)
    dsimp only [gName]
    refine kids_ev (K := K) (d := d) rfl (s3 _ _ ea) (kk.keep (Same.tupK s3)) (fun kd kv ps H1 s4 ekd pk ee ew => ?_)
    have s5 := s3.trans s4
    have pk1 := paired_imp pk fun _ _ z => z.keep (Same.tupK s4)
    refine ⟨kd, rfl, ⟨_, SqT.of ekd⟩, for_tup (K := K) (a := kd) (xs := kv) (fun k σ H' => ∃ (f : Addr) (v3 v4 : Option V), σ = [some (.ref a), some (.ref u), some (.ref f), v3, v4, none] ∧ H' f = some (.lst [.int (n0 nm + ((ps.take k).map (·.1)).sum), .int (n1 nm + ((ps.take k).map (·.2)).sum)]) ∧ Same H1 H')
      ⟨fd0, none, none, rfl, by rw [List.take_zero, List.map_nil, List.map_nil, List.sum_nil, Int.add_zero, Int.add_zero]; exact s4 _ _ upd_same, Same.refl _⟩ (fun k σ H' _ ⟨_, _, _, _, _, s6⟩ => SqT.of (s6 _ _ ekd)) ?_ ?_⟩
    · rintro k x σ H' hk ⟨f, v3, v4, rfl, ef, s6⟩
      obtain ⟨p, ep, hp⟩ := paired_get' pk1 hk
      have hkl := (List.getElem?_eq_some_iff.mp ep).1
      have tk : ps.take (k + 1) = ps.take k ++ [p] := by rw [List.take_succ, ep]; rfl
      rcases hp with ⟨n, rfl, rfl⟩ | ⟨s', hs', ho', rfl⟩
      · refine one_if (b := false) (fun Q q => ⟨_, rfl, _, .ty "tuple", .type "int", .type "tuple", false, rfl, .ty _, .base (.int n), kit_ty (by decide +kernel), _, rfl, q⟩) (fun z => nomatch z) (fun _ => ?_)
        refine ⟨f, _, v4, rfl, ?_, s6⟩
        rw [tk]
        simpa using ef
      · obtain ⟨t, xs, rfl, et⟩ := hs'.ref
        have et' := s6 _ _ et
        refine one_if (b := true) (fun Q q => ⟨_, rfl, _, .ty "tuple", .type "tuple", .type "tuple", true, rfl, .ty _, .base (.tup et'), kit_ty (by decide +kernel), _, rfl, q⟩) (fun _ => ?_) (fun z => nomatch z)
        refine ⟨_, rfl, _, rfl, .ref t, u, s', rfl, SAt.keep (Same.tupK s6) _ _ _ hs', ho', hu.keep (s5.trans s6), fun p H2 s7 ep => ?_⟩
        have ef' := s7 _ _ ef
        refine ⟨_, rfl, f, _, 0, .int _, rfl, rfl, SqL.of ef', at0, _, rfl, p, _, 0, .int _, rfl, rfl, SqT.of ep, at0, _, _, rfl, rfl, _, rfl, f, _, 1, .int _, rfl, rfl, SqL.of ef', at1, _, rfl, p, _, 1, .int _, rfl, rfl, SqT.of ep, at1, _, _, rfl, rfl, sz2, fun f2 hf2 => ?_⟩
        refine ⟨f2, _, _, rfl, ?_, s6.trans (s7.trans (Same.new hf2))⟩
        rw [upd_same, tk]
        simp only [List.map_append, List.sum_append, List.map_cons, List.map_nil, List.sum_cons, List.sum_nil, Int.add_zero, Int.add_assoc]
    · rintro σ H' ⟨f, v3, v4, rfl, ef, s6⟩
      have lp := Paired.length pk
      rw [← lp, List.take_length, ← ee, ← ew] at ef
      exact ⟨_, rfl, f, _, rfl, .inl ⟨SqL.of ef, fun t ht => q t _ ((s5.trans s6).trans (Same.new ht)) upd_same⟩⟩
end
end MS
end
section
set_option maxRecDepth 100000
set_option maxHeartbeats 4000000
namespace MS
open PySem L2
theorem er_congr {i M : Nat} {c c' : Nat → Int} (h : ∀ j, i < j → j < M → c j = c' j) : ∀ (d : Nat) (s : Sch), OkS i M d s → er c d s = er c' d s
  | 0, _, o => by cases o
  | _ + 1, .step _ _, _ => rfl
  | d + 1, .all k, o => by
    show (k.map (er c d)).sum = (k.map (er c' d)).sum
    rw [List.map_congr_left fun s hs => er_congr h d s (o.2.2 s hs)]
  | d + 1, .best k, o => by
    show (k.map (er c d)).sum = (k.map (er c' d)).sum
    rw [List.map_congr_left fun s hs => er_congr h d s (o.2.2 s hs)]
  | d + 1, .most _ s, o => er_congr h d s o.2
  | d + 1, .half s, o => er_congr h d s o
  | d + 1, .seen _ s, o => er_congr h d s o.2
  | d + 1, .behind _ s, o => er_congr h d s o.2
  | d + 1, .carry s, o => er_congr h d s o
  | d + 1, .fin _ _ s, o => congrArg (1 + ·) (er_congr h d s o.2)
  | _ + 1, .use n, o => h n o.1 o.2
theorem wr_congr {i M : Nat} {c c' : Nat → Int} (h : ∀ j, i < j → j < M → c j = c' j) : ∀ (d : Nat) (s : Sch), OkS i M d s → wr c d s = wr c' d s
  | 0, _, o => by cases o
  | _ + 1, .step _ _, _ => rfl
  | d + 1, .all k, o => by
    show (k.map (wr c d)).sum = (k.map (wr c' d)).sum
    rw [List.map_congr_left fun s hs => wr_congr h d s (o.2.2 s hs)]
  | d + 1, .best k, o => by
    show (k.map (wr c d)).sum = (k.map (wr c' d)).sum
    rw [List.map_congr_left fun s hs => wr_congr h d s (o.2.2 s hs)]
  | d + 1, .most _ s, o => wr_congr h d s o.2
  | d + 1, .half s, o => wr_congr h d s o
  | d + 1, .seen _ s, o => congrArg (1 + ·) (wr_congr h d s o.2)
  | d + 1, .behind _ s, o => congrArg (1 + ·) (wr_congr h d s o.2)
  | d + 1, .carry s, o => wr_congr h d s o
  | d + 1, .fin _ _ s, o => wr_congr h d s o.2
  | _ + 1, .use n, o => h n o.1 o.2
/-- a paper stands in the heap -/
def PaperAt (H : Hp) (ps : List Sch) (v : V) : Prop := ∃ a vs, v = .ref a ∧ H a = some (.tup vs) ∧ Paired (SAt H 5) ps vs
theorem PaperAt.keep {H H' : Hp} {ps : List Sch} {v : V} (h : PaperAt H ps v) (k : TupK H H') : PaperAt H' ps v := by
  obtain ⟨a, vs, e, h1, h2⟩ := h
  exact ⟨a, vs, e, k _ _ h1, paired_imp h2 fun s v => SAt.keep k _ _ _⟩
/-- the later ones from the n-th on can be -/
def TailOk (ce cw : Nat → Int) (M n : Nat) (ps : List Sch) : Prop := ∀ k s, ps[k]? = some s → OkS (n + k) M 5 s ∧ ce (n + k) = er ce 5 s ∧ cw (n + k) = wr cw 5 s ∧ sz 5 s ≤ 12 ∧ er ce 5 s ≤ 7 ∧ wr cw 5 s ≤ 3
def PaperOk (ps : List Sch) : Prop := 0 < ps.length ∧ ps.length ≤ 5 ∧ ∃ ce cw : Nat → Int, TailOk ce cw ps.length 0 ps
theorem TailOk.cons {ce cw : Nat → Int} {M n : Nat} {ps : List Sch} {s : Sch} (h : TailOk ce cw M (n + 1) ps) (o : OkS n M 5 s) (hM : n + 1 + ps.length ≤ M) (h1 : sz 5 s ≤ 12) (h2 : er ce 5 s ≤ 7) (h3 : wr cw 5 s ≤ 3) :
    TailOk (fun j => if j = n then er ce 5 s else ce j) (fun j => if j = n then wr cw 5 s else cw j) M n (s :: ps) := by
  have key : ∀ i t, n ≤ i → OkS i M 5 t → er (fun j => if j = n then er ce 5 s else ce j) 5 t = er ce 5 t ∧ wr (fun j => if j = n then wr cw 5 s else cw j) 5 t = wr cw 5 t := fun i t hi ot =>
    ⟨er_congr (fun j hj _ => if_neg (by omega)) 5 t ot, wr_congr (fun j hj _ => if_neg (by omega)) 5 t ot⟩
  intro k t e
  cases k with
  | zero =>
    obtain rfl : s = t := by simpa using e
    obtain ⟨k1, k2⟩ := key n s (Nat.le_refl _) o
    rw [k1, k2]
    exact ⟨o, if_pos rfl, if_pos rfl, h1, h2, h3⟩
  | succ k =>
    obtain ⟨q1, q2, q3, q4, q5, q6⟩ := h k t (by simpa using e)
    have en : n + 1 + k = n + (k + 1) := by omega
    rw [en] at q1 q2 q3
    obtain ⟨k1, k2⟩ := key (n + (k + 1)) t (by omega) q1
    rw [k1, k2]
    exact ⟨q1, by rw [← q2]; exact if_neg (by omega), by rw [← q3]; exact if_neg (by omega), q4, q5, q6⟩
theorem fn_any {P : Program} {w : World} {K : PySem.W.Frag} {mg : Str → Option Value} {base : Heap} {ι : Type} {sp : ι → Sp} {k : Nat} {f : Addr} {fd : FuncData} {ps : List Str} (G : ∀ i, FnOk P w K mg base CX0 k f fd ps (sp i)) : FnOk P w K mg base CX0 k f fd ps (fun vs H Q E => ∃ i, sp i vs H Q E) :=
  ⟨fun vs H Q E ⟨i, h⟩ => (G i).1 vs H Q E h, fun A outer s H args us vs Q E a1 a2 a3 a4 ⟨i, h⟩ => (G i).2 A outer s H args us vs Q E a1 a2 a3 a4 h⟩
structure Gp where
  i : Nat
  M : Nat
  ce : Nat → Int
  cw : Nat → Int
theorem cut_to (xs : List V) (k : Nat) : cutV xs none (some (k : Int)) = xs.take k := by
  unfold cutV
  rw [HT.sIx_none, HT.sIx_nat, List.drop_zero, Nat.sub_zero]
  by_cases h : k ≤ xs.length
  · rw [Nat.min_eq_left h]
  · rw [Nat.min_eq_right (by omega), List.take_of_length_le (Nat.le_refl _), List.take_of_length_le (by omega)]
theorem cut_from (xs : List V) (k : Nat) : cutV xs (some (k : Int)) none = xs.drop k := by
  unfold cutV
  rw [HT.sIx_none, HT.sIx_nat]
  by_cases h : k ≤ xs.length
  · rw [Nat.min_eq_left h, List.take_of_length_le (by rw [List.length_drop]; exact Nat.le_refl _)]
  · rw [Nat.min_eq_right (by omega), List.drop_eq_nil_of_le (Nat.le_refl _), List.drop_eq_nil_of_le (by omega)]
    simp
/-- plain steps in a row -/
def StepR (H : Hp) (s : Sch) (v : V) : Prop := ∃ x p a, s = .step x p ∧ v = V.ref a ∧ H a = some (.tup [.str "step", .str x, .int p]) ∧ IsW x ∧ 1 ≤ p ∧ p ≤ 9
theorem StepR.keep {H H' : Hp} {s : Sch} {v : V} (h : StepR H s v) (k : TupK H H') : StepR H' s v := by
  obtain ⟨x, p, a, e1, e2, e3, r⟩ := h
  exact ⟨x, p, a, e1, e2, k _ _ e3, r⟩
theorem StepR.at {H : Hp} {s : Sch} {v : V} (h : StepR H s v) (d : Nat) : SAt H (d + 1) s v := by
  obtain ⟨x, p, a, rfl, e2, e3, r⟩ := h
  exact ⟨a, e2, e3⟩
theorem steps_ok {H : Hp} {i M : Nat} {ce cw : Nat → Int} (d : Nat) : ∀ {ss : List Sch} {vs : List V}, Paired (StepR H) ss vs → (∀ s ∈ ss, OkS i M (d + 1) s) ∧ (ss.map (sz (d + 1))).sum = ss.length ∧ (ss.map (er ce (d + 1))).sum = ss.length ∧ (ss.map (wr cw (d + 1))).sum = 0
  | _, _, .nil => ⟨(fun _ h => nomatch h), rfl, rfl, rfl⟩
  | _, _, .cons h t => by
    obtain ⟨h1, h2, h3, h4⟩ := steps_ok (i := i) (M := M) (ce := ce) (cw := cw) d t
    obtain ⟨x, p, a, rfl, _, _, r1, r2⟩ := h
    refine ⟨fun s' hs' => ?_, ?_, ?_, ?_⟩
    · rcases List.mem_cons.mp hs' with rfl | hs'
      · exact ⟨r1, r2⟩
      · exact h1 s' hs'
    · rw [List.map_cons, List.sum_cons, h2, List.length_cons]
      show (1 : Int) + _ = _
      omega
    · rw [List.map_cons, List.sum_cons, h3, List.length_cons]
      show (1 : Int) + _ = _
      omega
    · rw [List.map_cons, List.sum_cons, h4]
      rfl
theorem paired_take {α β : Type} {R : α → β → Prop} : ∀ {xs : List α} {ys : List β}, Paired R xs ys → ∀ n, Paired R (xs.take n) (ys.take n)
  | _, _, .nil, n => by simp; exact .nil
  | _, _, .cons r t, 0 => .nil
  | _, _, .cons r t, n + 1 => .cons r (paired_take t n)
theorem paired_drop {α β : Type} {R : α → β → Prop} : ∀ {xs : List α} {ys : List β}, Paired R xs ys → ∀ n, Paired R (xs.drop n) (ys.drop n)
  | _, _, .nil, n => by simp; exact .nil
  | _, _, .cons r t, 0 => .cons r t
  | _, _, .cons r t, n + 1 => paired_drop t n
theorem Keep.drop {b l m : Addr} {H H1 H2 : Hp} (k1 : Keep [b, l] H H1) (k2 : Keep [b, l, m] H1 H2) (hm : H m = none) : Keep [b, l] H H2 := fun a o e n => k2 a o (k1 a o e n) fun h => by
  have ne : a ≠ m := ne_of_none e hm
  simp only [List.mem_cons, List.not_mem_nil, or_false] at h n
  rcases h with h | h | h
  · exact n (.inl h)
  · exact n (.inr h)
  · exact ne h
theorem Keep.freeN {S : List Addr} {H H' : Hp} {m : Addr} (k : Keep S H H') (hm : H' m = none) (n : m ∉ S) : H m = none := by
  cases q : H m with
  | none => rfl
  | some o =>
    have z := k m o q n
    rw [hm] at z
    cases z
theorem pick3 {x y z r : Int} (h0 : 0 ≤ r) (h1 : r < 3) : ∃ w, atI [V.int x, V.int y, V.int z] r = some (.int w) ∧ (w = x ∨ w = y ∨ w = z) := by
  have e : r = 0 ∨ r = 1 ∨ r = 2 := by omega
  rcases e with rfl | rfl | rfl
  · exact ⟨x, at0, .inl rfl⟩
  · exact ⟨y, at1, .inr (.inl rfl)⟩
  · exact ⟨z, at2, .inr (.inr rfl)⟩
theorem pick2' {x y r : Int} (h0 : 0 ≤ r) (h1 : r < 2) : ∃ w, atI [V.int x, V.int y] r = some (.int w) ∧ (w = x ∨ w = y) := by
  have e : r = 0 ∨ r = 1 := by omega
  rcases e with rfl | rfl
  · exact ⟨x, at0, .inl rfl⟩
  · exact ⟨y, at1, .inr rfl⟩
def UseR (ce cw : Nat → Int) (H : Hp) (j : Nat) (v : V) : Prop := ∃ t, v = V.ref t ∧ H t = some (.tup [.int ((j : Nat) : Int), .int (ce j), .int (cw j)])
theorem use_other {ce cw : Nat → Int} {H : Hp} {n : Nat} {x y : Int} : ∀ {js : List Nat} {uv : List V}, Paired (UseR ce cw H) js uv → (∀ j ∈ js, j ≠ n) → Paired (UseR (fun j => if j = n then x else ce j) (fun j => if j = n then y else cw j) H) js uv
  | _, _, .nil, _ => .nil
  | _, _, .cons h t, al => .cons (by
      obtain ⟨t, e1, e2⟩ := h
      exact ⟨t, e1, by simp [e2, al _ List.mem_cons_self]⟩) (use_other t fun j hj => al j (List.mem_cons_of_mem _ hj))
theorem use_new {ce cw : Nat → Int} {H : Hp} {n : Nat} {x y : Int} {p : Addr} (h : H p = some (.tup [.int ((n : Nat) : Int), .int x, .int y])) : UseR (fun j => if j = n then x else ce j) (fun j => if j = n then y else cw j) H n (.ref p) :=
  ⟨p, rfl, by simp [h]⟩
theorem Box.tup {H H' : Hp} {b l : Addr} (B : Box H b l) (k : Keep [b, l] H H') : TupK H H' := k.tup fun a ha => by
  obtain ⟨_, ⟨n, e1⟩, ns, e2⟩ := B
  rcases List.mem_cons.mp ha with rfl | ha
  · exact ⟨_, e1⟩
  · rw [List.mem_singleton.mp ha]; exact ⟨_, e2⟩
def spPaper : Sp := fun vs H Q _ => ∃ (b l L : Addr) (F : List Str), vs = [.ref b, .ref L] ∧ Box H b l ∧ L ≠ b ∧ L ≠ l ∧ H L = some (.lst (F.map V.str)) ∧ (∀ x ∈ F, IsW x) ∧ 0 < F.length ∧ F.length ≤ 8 ∧
  ∀ (v : V) (ps : List Sch) (H' : Hp), PaperAt H' ps v → PaperOk ps → Box H' b l → Keep [b, l] H H' → Q v H'
abbrev nmPaper : List Str := ["_law_box", "_law_letters_here", "_law_left", "_law_words", "_law_turn", "_law_steps", "_law_whole", "_law_many", "_law_found", "_law_uses", "_law_number", "_law_scheme_here", "_law_word"]
section
variable {P : Program} {w : World} {K : PySem.W.Frag} {mg : Str → Option Value} {base : Heap}
theorem ok_counted {i M : Nat} {ce cw : Nat → Int} (D : Def K mg "_law_counted" s_L_counted psCounted) (mi : mg "int" = none) (mt : mg "tuple" = none) (mis : mg "isinstance" = none) : ∀ d : Nat, FnOk P w K mg base CX0 d D.f D.fd psCounted (spCounted K i M ce cw d)
  | 0 => by
    have no : ∀ vs H Q E, ¬ spCounted K i M ce cw 0 vs H Q E := fun vs H Q E h => by
      obtain ⟨v, u, s, _, h, _⟩ := h
      cases h
    exact ⟨fun vs H Q E h => absurd h (no vs H Q E), fun A outer s H args us vs Q E _ _ _ _ h => absurd h (no vs H Q E)⟩
  | d + 1 => counted_turn D mi mt mis (ok_counted D mi mt mis d)
theorem ok_paper (D : Def K mg "_law_paper" s_L_paper ["_law_box", "_law_letters_here"]) (DT : Def K mg "_law_take" s_L_take ["_law_box", "_law_many"]) (DS : Def K mg "_law_scheme" s_L_scheme psScheme) (DC : Def K mg "_law_counted" s_L_counted psCounted)
    (ml : mg "len" = none) (mr : mg "range" = none) (mt : mg "tuple" = none) (mi : mg "int" = none) (mis : mg "isinstance" = none) (mli : mg "list" = none) : FnOk P w K mg base CX0 7 D.f D.fd ["_law_box", "_law_letters_here"] spPaper := by
  have GT : FnOk P w K mg base CX0 1 DT.f DT.fd ["_law_box", "_law_many"] spTake := ok_take DT
  have GS : FnOk P w K mg base CX0 6 DS.f DS.fd psScheme (fun vs H Q E => ∃ g : Gp, spScheme g.i g.M g.ce g.cw 4 vs H Q E) := fn_any fun g => ok_scheme DS DT ml mr mt 4
  have GC : FnOk P w K mg base CX0 5 DC.f DC.fd psCounted (fun vs H Q E => ∃ g : Gp, spCounted K g.i g.M g.ce g.cw 5 vs H Q E) := fn_any fun g => ok_counted DC mi mt mis 5
  have nd := sc_L_paper.nd
  refine D.ok sc_L_paper (fun vs H Q E h => ?_) (fun cdv A outer s H vs Q E hr h => ?_)
  · obtain ⟨b, l, L, F, rfl, _⟩ := h
    rfl
  obtain ⟨b, l, L, F, rfl, B, nb, nl, eL, w1, l0, l1, q⟩ := h
  have hr1 : Room 1 _ := hr.mono (by decide)
  have hr5 : Room 5 _ := hr.mono (by decide)
  refine ⟨_, pss_cons (ps_if (pt_cmpR op_eq (pcall DT GT hr1 (pa_cons (pv 0) (pa_cons pe_int pa_nil))) pe_int (nomark _))
      (pss_cons (ps_par (i := 2) (j := 3) (by rfl) nd rfl rfl (by decide) rfl rfl (pa_cons (pe_callTy (cr_listStr rfl) rfl mli (by decide +kernel) (pa_cons pe_str pa_nil)) (pa_cons (pe_lst pa_nil) pa_nil)) (by rfl))
      (pss_cons (ps_for PassesOwn.never rfl (pi_range1 rfl mr (pa_cons (pe_op op_add pe_int (pcall DT GT hr1 (pa_cons (pv 0) (pa_cons pe_int pa_nil)))) pa_nil)) (pg_name (i := 4) nd rfl (Or.inl rfl))
        (pss_one (ps_expr (pe_bm PySem.F.plainAttrs_list PySem.F.slot_list_append PySem.F.type_list_append mt_append (pv 3)
          (pa_cons (pe_bm PySem.F.plainAttrs_list PySem.F.slot_list_pop PySem.F.type_list_pop mt_popAt (pv 2) (pa_cons (pcall DT GT hr1 (pa_cons (pv 0) (pa_cons (pe_callB call_len_seq rfl ml PySem.boot_len (pa_cons (pv 2) pa_nil)) pa_nil))) pa_nil)) pa_nil)))))
      (pss_cons (ps_setLc (i := 5) (own := [("_law_word", 12)]) (g := gName 12) (tt := tYes) rfl nd rfl rfl (sw_true rfl rfl rfl (by decide +kernel)) (pi_list (pe_slice sl_list (pv 3) po_none (po_some pe_int))) (blkOk_by (N := nmPaper) (sc := defScope s_L_paper) (by decide +kernel)) (fun _ _ _ _ _ => pg_name (i := 12) nd rfl (Or.inl rfl)) (fun _ _ _ _ _ => pts_nil)
          (fun _ _ _ _ _ => pe_tup (pa_cons pe_str (pa_cons (pv 12) (pa_cons (pe_op op_add pe_int (pcall DT GT hr1 (pa_cons (pv 0) (pa_cons pe_int pa_nil)))) pa_nil)))))
      (pss_cons (ps_set (i := 6) nd rfl (Or.inl rfl) (pe_tup (pa_cons pe_str (pa_cons (pe_tup (pa_cons (pe_tup (pa_cons pe_str (pa_cons (pe_callTy call_tuple_of rfl mt (by decide +kernel) (pa_cons (pe_slice sl_list (pv 5) po_none (po_some pe_int)) pa_nil)) pa_nil)))
          (pa_cons (pe_tup (pa_cons pe_str (pa_cons (pe_callTy call_tuple_of rfl mt (by decide +kernel) (pa_cons (pe_slice sl_list (pv 5) (po_some pe_int) po_none) pa_nil)) pa_nil))) pa_nil))) pa_nil))))
      (pss_one (ps_ret (pe_tup (pa_cons (pe_ifExp (pt_cmpR op_gt (pe_callB call_len_seq rfl ml PySem.boot_len (pa_cons (pv 3) pa_nil)) pe_int (nomark _)) (pe_tup (pa_cons pe_str (pa_cons (pe_ix ix_list (pv 3) pe_int (fun _ _ => rfl)) (pa_cons (pv 6) pa_nil)))) (pv 6)) pa_nil)))))))) pss_nil)
    (pss_cons (ps_set (i := 7) nd rfl (Or.inl rfl) (pe_op op_add pe_int (pe_ix ix_list (pe_lst (pa_cons pe_int (pa_cons (pcall DT GT hr1 (pa_cons (pv 0) (pa_cons pe_int pa_nil))) (pa_cons (pcall DT GT hr1 (pa_cons (pv 0) (pa_cons pe_int pa_nil))) pa_nil)))) (pcall DT GT hr1 (pa_cons (pv 0) (pa_cons pe_int pa_nil))) (fun _ _ => rfl))))
    (pss_cons (ps_par (i := 8) (j := 9) (by rfl) nd rfl rfl (by decide) rfl rfl (pa_cons (pe_lst pa_nil) (pa_cons (pe_lst pa_nil) pa_nil)) (by rfl))
    (pss_cons (ps_for PassesOwn.never rfl (pi_range3 rfl mr (pa_cons (pe_op op_sub (pv 7) pe_int) (pa_cons (pe_un un_neg pe_int) (pa_cons (pe_un un_neg pe_int) pa_nil)))) (pg_name (i := 10) nd rfl (Or.inl rfl))
      (pss_cons (ps_set (i := 2) nd rfl (Or.inl rfl) (pe_lst (pa_cons (pe_ix ix_list (pe_lst (pa_cons pe_int (pa_cons pe_int (pa_cons pe_int pa_nil)))) (pcall DT GT hr1 (pa_cons (pv 0) (pa_cons pe_int pa_nil))) (fun _ _ => rfl))
          (pa_cons (pe_ix ix_list (pe_lst (pa_cons pe_int (pa_cons pe_int (pa_cons pe_int pa_nil)))) (pcall DT GT hr1 (pa_cons (pv 0) (pa_cons pe_int pa_nil))) (fun _ _ => rfl))
          (pa_cons (pe_ix ix_list (pe_lst (pa_cons pe_int (pa_cons pe_int pa_nil))) (pcall DT GT hr1 (pa_cons (pv 0) (pa_cons pe_int pa_nil))) (fun _ _ => rfl)) pa_nil)))))
      (pss_cons (ps_set (i := 11) nd rfl (Or.inl rfl) (pcall DS GS hr (pa_cons (pv 0) (pa_cons (pv 1) (pa_cons (pv 2) (pa_cons pe_int (pa_cons (pv 9) pa_nil)))))))
      (pss_cons (ps_set (i := 8) nd rfl (Or.inl rfl) (pe_op op_cat (pe_lst (pa_cons (pv 11) pa_nil)) (pv 8)))
      (pss_one (ps_set (i := 9) nd rfl (Or.inl rfl) (pe_op op_cat (pv 9) (pe_lst (pa_cons (pe_op op_catA (pe_tup (pa_cons (pv 10) pa_nil)) (pe_callTy call_tuple_of rfl mt (by decide +kernel) (pa_cons (pcall DC GC hr5 (pa_cons (pv 11) (pa_cons (pv 9) pa_nil))) pa_nil))) pa_nil)))))))))
    (pss_one (ps_ret (pe_callTy call_tuple_of rfl mt (by decide +kernel) (pa_cons (pv 8) pa_nil))))))), ?_⟩
  refine ⟨_, rfl, b, l, 12, rfl, by decide, by decide, B, fun r0 H1 a0 a1 B1 k1 => ?_⟩
  have nin : ∀ {x : Addr}, x ≠ b ∧ x ≠ l → x ∉ [b, l] := fun {x} h => by simp [h.1, h.2]
  refine ⟨rfl, _, rfl, ?_⟩
  refine ite2 (fun _ => ?_) (fun _ => ?_)
  · -- a paper of many words
    refine ⟨_, rfl, by decide, fun p hp => ?_⟩
    rw [letters_of]
    refine ⟨Nat.zero_le _, fun f hf => ⟨_, _, rfl, ?_⟩⟩
    have npf : p ≠ f := ne_of_none upd_same hf
    have hpf : upd (upd H1 p (.lst (wordsL.map V.str))) f (.lst []) p = some (.lst (wordsL.map V.str)) := by rw [upd_ne npf]; exact upd_same
    have k2 : Keep [b, l] H1 (upd (upd H1 p (.lst (wordsL.map V.str))) f (.lst [])) := (Keep.new hp).trans (Keep.new hf)
    have hf0 : H1 f = none := (Same.new hp).free hf
    have nfb := B1.ne_new hf0
    have npb := B1.ne_new hp
    have B2 : Box (upd (upd H1 p (.lst (wordsL.map V.str))) f (.lst [])) b l := (B1.new hp).put nfb.1 nfb.2
    refine ⟨_, rfl, b, l, 3, rfl, by decide, by decide, B2, fun r H3 b0 b1 B3 k3 => ⟨_, _, rfl, rfl, _, rfl, by omega, by omega, ?_⟩⟩
    refine for_range (lo := 0) (n := (6 + r).toNat) (fun i σ H' => ∃ (W F : List Str) (v : Option V), σ = [some (.ref b), some (.ref L), some (.ref p), some (.ref f), v, none, none, none, none, none, none, none, none] ∧ H' p = some (.lst (W.map V.str)) ∧ H' f = some (.lst (F.map V.str)) ∧
        W.length + i = 8 ∧ F.length = i ∧ (∀ x ∈ W, IsW x) ∧ (∀ x ∈ F, IsW x) ∧ Box H' b l ∧ Keep [b, l] H1 H')
      ⟨wordsL, [], none, rfl, k3 _ _ hpf (nin npb), k3 _ _ upd_same (nin nfb), rfl, rfl, fun _ h => h, (fun _ h => nomatch h), B3, k2.trans k3⟩ ?_ ?_
    · rintro i σ H' hi ⟨W, F, v, rfl, e1, e2, l1, l2, w1, w2, B', k'⟩
      have hW : 0 < W.length := by omega
      refine ⟨_, rfl, .inl ⟨rfl, _, SqL.of e2⟩, _, rfl, .inl ⟨rfl, _, SqL.of e1⟩, _, rfl, _, rfl, p, _, rfl, .inl (SqL.of e1), b, l, _, rfl, (by rw [List.length_map]; omega), (by rw [List.length_map]; omega), B', fun r H2' r0 r1' B2' k2' => ?_⟩
      rw [List.length_map] at r1'
      have hr' : r.toNat < W.length := by omega
      have e1' := k2' _ _ e1 (nin npb)
      have e2' := k2' _ _ e2 (nin nfb)
      refine ⟨p, _, r, r.toNat, .str (W[r.toNat]'hr'), rfl, rfl, e1', by omega, by omega, seq_of r0 (by rw [List.length_map]; exact r1'), get_map V.str W hr', ?_⟩
      refine ⟨f, _, _, rfl, rfl, (by rw [upd_ne npf.symm]; exact e2'), (by rw [List.length_map]; exact small1000 (by omega)), ?_⟩
      refine ⟨W.eraseIdx r.toNat, F ++ [W[r.toNat]'hr'], _, rfl, ?_, ?_, ?_, ?_, fun x hx => w1 x (mem_eraseIdx hx), fun x hx => ?_, (B2'.put npb.1 npb.2).put nfb.1 nfb.2, ((k'.trans k2').newer hp).newer hf0⟩
      · rw [upd_ne npf, upd_same, map_erase]
      · rw [upd_same, List.map_append]
        rfl
      · rw [List.length_eraseIdx_of_lt hr']
        omega
      · rw [List.length_append, l2]
        rfl
      · rcases List.mem_append.mp hx with hx | hx
        · exact w2 x hx
        · rw [List.mem_singleton.mp hx]
          exact w1 _ (List.getElem_mem hr')
    · rintro σ H4 ⟨W, F, v, rfl, e1, e2, l1, l2, w1, w2, B4, k4⟩
      have F6 : 6 ≤ F.length ∧ F.length ≤ 8 := by omega
      refine ⟨_, rfl, 7, rfl, f, _, rfl, SqL.of e2, fun q1 hq1 => ?_⟩
      have ec : cutV (F.map V.str) none (some 7) = (F.take 7).map V.str := by rw [List.map_take]; exact cut_to _ 7
      rw [ec]
      refine ⟨q1, rfl, ⟨_, SqL.of upd_same⟩, fun Dd hD => ?_⟩
      have nqD : q1 ≠ Dd := ne_of_none upd_same hD
      have B5 := B4.new (o := .lst ((F.take 7).map V.str)) hq1
      have hD4 : H4 Dd = none := (Same.new hq1).free hD
      have k5 : Keep [b, l] H1 (upd (upd H4 q1 (.lst ((F.take 7).map V.str))) Dd (.lst [])) := k4.trans ((Keep.new hq1).trans (Keep.new hD))
      have nDb := B4.ne_new hD4
      refine lc_list (K := K) (a := q1) (xs := (F.take 7).map V.str) (fun k H'' => ∃ (ss : List Sch) (vs' : List V), H'' Dd = some (.lst vs') ∧ ss.length = k ∧ Paired (StepR H'') ss vs' ∧ Box H'' b l ∧ Keep [b, l] (upd H4 q1 (.lst ((F.take 7).map V.str))) H'')
        ⟨[], [], upd_same, rfl, .nil, B5.put nDb.1 nDb.2, Keep.new hD⟩ (fun k H'' _ ⟨_, _, _, _, _, _, kk⟩ => SqL.of (kk _ _ upd_same (B4.nin hq1))) ?_ ?_
      · rintro k x H'' hk ⟨ss, vs', eD, ls, pw, B6, k6⟩
        obtain ⟨y, hy, rfl⟩ := List.mem_map.mp (List.mem_of_getElem? hk)
        have yw := w2 y (List.mem_of_mem_take hy)
        have hkl := (List.getElem?_eq_some_iff.mp hk).1
        rw [List.length_map, List.length_take] at hkl
        refine ⟨rfl, _, rfl, _, rfl, b, l, 9, rfl, by decide, by decide, B6, fun r H7 c0 c1 B7 k7 => ⟨_, _, rfl, rfl, (by show 3 ≤ sizeLine; decide), fun t ht => ?_⟩⟩
        have eD7 := k7 _ _ eD (nin nDb)
        have nDt : Dd ≠ t := ne_of_none eD7 ht
        have lv := Paired.length pw
        have t7 : TupK H'' H7 := k7.tup fun a ha => by
          obtain ⟨_, ⟨n, e1⟩, ns, e2⟩ := B6
          rcases List.mem_cons.mp ha with rfl | ha
          · exact ⟨_, e1⟩
          · rw [List.mem_singleton.mp ha]; exact ⟨_, e2⟩
        have eD8 : upd H7 t (.tup [.str "step", .str y, .int (1 + r)]) Dd = some (.lst vs') := by rw [upd_ne nDt]; exact eD7
        have t8 : TupK H7 (upd (upd H7 t (.tup [.str "step", .str y, .int (1 + r)])) Dd (.lst (vs' ++ [.ref t]))) := (TupK.new ht).trans (TupK.put eD8)
        refine ⟨vs', eD8, small1000 (by omega), ss ++ [.step y (1 + r)], vs' ++ [.ref t], upd_same, by simp [ls], paired_snoc (paired_imp pw fun s' v' h => h.keep (t7.trans t8)) ⟨y, 1 + r, t, rfl, rfl, by rw [upd_ne nDt.symm]; exact upd_same, yw, by omega, by omega⟩, ((B7.new ht).put nDb.1 nDb.2), ?_⟩
        exact ((k6.trans k7).trans (Keep.new ht)).newer (by rw [upd_ne (ne_of_none upd_same hD).symm] <;> exact hD4)
      · rintro H5 ⟨ss, vs', eD, ls, pw, B6, k6⟩
        rw [List.length_map, List.length_take] at ls
        have k4' : Keep [b, l] H4 H5 := (Keep.new hq1).trans k6
        have e2' := k4' _ _ e2 (nin nfb)
        dsimp only [gName]
        refine ⟨_, rfl, 4, rfl, Dd, _, rfl, SqL.of eD, fun s2 hs2 => ⟨s2, _, rfl, .inl ⟨SqL.of upd_same, fun t2 ht2 => ⟨sz2, fun A1 hA1 => ?_⟩⟩⟩⟩
        have eDx := Same.new (o := .tup [.str "all", .ref t2]) hA1 _ _ (Same.new (o := .tup (cutV vs' none (some 4))) ht2 _ _ (Same.new (o := .lst (cutV vs' none (some 4))) hs2 _ _ eD))
        refine ⟨_, rfl, 4, rfl, Dd, _, rfl, SqL.of eDx, fun s3 hs3 => ⟨s3, _, rfl, .inl ⟨SqL.of upd_same, fun t3 ht3 => ⟨sz2, fun A2 hA2 => ⟨sz2, fun A3 hA3 => ⟨sz2, fun A4 hA4 => ?_⟩⟩⟩⟩⟩⟩
        have c1 : cutV vs' none (some 4) = vs'.take 4 := cut_to _ 4
        have c2 : cutV vs' (some 4) none = vs'.drop 4 := cut_from _ 4
        have o4 := Same.new (o := .tup [.str "all", .ref A3]) hA4
        have o3 := (Same.new (o := .tup [.ref A1, .ref A2]) hA3).trans o4
        have o2 := (Same.new (o := .tup [.str "best", .ref t3]) hA2).trans o3
        have ot3 := (Same.new (o := .tup (cutV vs' (some 4) none)) ht3).trans o2
        have os3 := (Same.new (o := .lst (cutV vs' (some 4) none)) hs3).trans ot3
        have o1 := (Same.new (o := .tup [.str "all", .ref t2]) hA1).trans os3
        have ot2 := (Same.new (o := .tup (cutV vs' none (some 4))) ht2).trans o1
        have o5 := (Same.new (o := .lst (cutV vs' none (some 4))) hs2).trans ot2
        have f3 := o4 _ _ (upd_same (a := A3) (o := .tup [.ref A1, .ref A2]))
        have f2 := o3 _ _ (upd_same (a := A2) (o := .tup [.str "best", .ref t3]))
        have ft3 := o2 _ _ (upd_same (a := t3) (o := .tup (cutV vs' (some 4) none)))
        have f1 := os3 _ _ (upd_same (a := A1) (o := .tup [.str "all", .ref t2]))
        have ft2 := o1 _ _ (upd_same (a := t2) (o := .tup (cutV vs' none (some 4))))
        dsimp only [gName]
        have e2f := o5 _ _ e2'
        have lF : (F.map V.str).length = F.length := List.length_map _
        have ss6 : 6 ≤ ss.length ∧ ss.length ≤ 7 := by omega
        have pwA := paired_take pw 4
        have pwB := paired_drop pw 4
        have B8 : Box _ b l := B6.keep (S := []) (fun a o e _ => o5 _ _ e) (by simp) (by simp)
        have k8 : Keep [b, l] H _ := k1.trans (k4.trans (k4'.trans (fun a o e _ => o5 _ _ e)))
        -- the whole, at any depth
        have wholeAt : ∀ (d : Nat) (Hf : Hp), TupK _ Hf → SAt Hf (d + 3) (.all [.all (ss.take 4), .best (ss.drop 4)]) (.ref A4) := fun d Hf kt =>
          ⟨A4, A3, _, rfl, kt _ _ upd_same, kt _ _ f3, .cons ⟨A1, t2, _, rfl, kt _ _ f1, (show Hf t2 = some (.tup (vs'.take 4)) by rw [← c1]; exact kt _ _ ft2), paired_imp pwA fun s' v' h => ((h.keep (Same.tupK o5)).keep kt).at d⟩ (.cons ⟨A2, t3, _, rfl, kt _ _ f2, (show Hf t3 = some (.tup (vs'.drop 4)) by rw [← c2]; exact kt _ _ ft3), paired_imp pwB fun s' v' h => ((h.keep (Same.tupK o5)).keep kt).at d⟩ .nil)⟩
        have wholeOk : ∀ d, OkS 0 1 (d + 3) (.all [.all (ss.take 4), .best (ss.drop 4)]) ∧ sz (d + 3) (.all [.all (ss.take 4), .best (ss.drop 4)]) ≤ 10 ∧ er (fun _ => 0) (d + 3) (.all [.all (ss.take 4), .best (ss.drop 4)]) ≤ 7 ∧ wr (fun _ => 0) (d + 3) (.all [.all (ss.take 4), .best (ss.drop 4)]) = 0 := fun d => by
          obtain ⟨a1, a2, a3, a4⟩ := steps_ok (i := 0) (M := 1) (ce := fun _ => 0) (cw := fun _ => 0) d pwA
          obtain ⟨d1, d2, d3, d4⟩ := steps_ok (i := 0) (M := 1) (ce := fun _ => 0) (cw := fun _ => 0) d pwB
          rw [List.length_take] at a2 a3
          rw [List.length_drop] at d2 d3
          have lA : (ss.take 4).length = 4 := by rw [List.length_take]; omega
          have lB : (ss.drop 4).length = ss.length - 4 := List.length_drop
          refine ⟨⟨by simp, by simp, fun s' hs' => ?_⟩, ?_, ?_, ?_⟩
          · rcases List.mem_cons.mp hs' with rfl | hs'
            · exact ⟨by omega, by omega, a1⟩
            · rw [List.mem_singleton.mp hs']
              exact ⟨by omega, by omega, d1⟩
          · show 1 + ((1 + ((ss.take 4).map (sz (d + 1))).sum) + ((1 + ((ss.drop 4).map (sz (d + 1))).sum) + 0)) ≤ 10
            omega
          · show (((ss.take 4).map (er (fun _ => 0) (d + 1))).sum) + ((((ss.drop 4).map (er (fun _ => 0) (d + 1))).sum) + 0) ≤ 7
            omega
          · show (((ss.take 4).map (wr (fun _ => 0) (d + 1))).sum) + ((((ss.drop 4).map (wr (fun _ => 0) (d + 1))).sum) + 0) = 0
            omega
        refine ⟨_, rfl, f, _, rfl, .inl (SqL.of e2f), _, _, rfl, rfl, _, rfl, ?_⟩
        refine ite2 (fun c => ?_) (fun c => ?_)
        · have c8 : 7 < F.length := by
            have z := of_decide_eq_true c
            rw [lF] at z
            omega
          refine ⟨_, rfl, f, _, 7, .str (F[7]'c8), rfl, rfl, SqL.of e2f, at_of (j := 7) rfl (get_map V.str F c8), _, rfl, (by show 3 ≤ sizeLine; decide), fun A5 hA5 => ?_⟩
          refine ⟨(by show 1 ≤ sizeLine; decide), fun R hR => ?_⟩
          have oR := (Same.new (o := .tup [.str "seen", .str (F[7]'c8), .ref A4]) hA5).trans (Same.new (o := .tup [.ref A5]) hR)
          obtain ⟨w1', w2', w3', w4'⟩ := wholeOk 1
          refine q (.ref R) [.seen (F[7]'c8) (.all [.all (ss.take 4), .best (ss.drop 4)])] _ ⟨R, _, rfl, upd_same, .cons ⟨A5, _, rfl, Same.new hR _ _ upd_same, wholeAt 1 _ (Same.tupK oR)⟩ .nil⟩ ⟨by simp, by simp, fun _ => er (fun _ => 0) 5 (.seen (F[7]'c8) (.all [.all (ss.take 4), .best (ss.drop 4)])), fun _ => wr (fun _ => 0) 5 (.seen (F[7]'c8) (.all [.all (ss.take 4), .best (ss.drop 4)])), ?_⟩
            (B8.keep (S := []) (fun a o e _ => oR _ _ e) (by simp) (by simp)) (k8.trans (fun a o e _ => oR _ _ e))
          intro k s' hk
          cases k with
          | succ k => simp at hk
          | zero =>
            obtain rfl : _ = s' := by simpa using hk
            have o := (show OkS 0 1 5 (.seen (F[7]'c8) (.all [.all (ss.take 4), .best (ss.drop 4)])) from ⟨w2 _ (List.getElem_mem c8), w1'⟩)
            refine ⟨o, (er_congr (fun j h1 h2 => by omega) 5 _ o), (wr_congr (fun j h1 h2 => by omega) 5 _ o), ?_, ?_, ?_⟩
            · show 1 + sz (1 + 3) _ ≤ 12
              omega
            · rw [er_congr (c' := fun _ => 0) (fun j h1 h2 => by omega) 5 _ o]
              exact w3'
            · rw [wr_congr (c' := fun _ => 0) (fun j h1 h2 => by omega) 5 _ o]
              show 1 + wr (fun _ => 0) (1 + 3) _ ≤ 3
              omega
        · refine ⟨_, rfl, (by show 1 ≤ sizeLine; decide), fun R hR => ?_⟩
          have oR := (Same.new (o := .tup [.ref A4]) hR)
          obtain ⟨w1', w2', w3', w4'⟩ := wholeOk 2
          refine q (.ref R) [.all [.all (ss.take 4), .best (ss.drop 4)]] _ ⟨R, _, rfl, upd_same, .cons (wholeAt 2 _ (Same.tupK oR)) .nil⟩ ⟨by simp, by simp, fun _ => er (fun _ => 0) 5 (.all [.all (ss.take 4), .best (ss.drop 4)]), fun _ => wr (fun _ => 0) 5 (.all [.all (ss.take 4), .best (ss.drop 4)]), ?_⟩
            (B8.keep (S := []) (fun a o e _ => oR _ _ e) (by simp) (by simp)) (k8.trans (fun a o e _ => oR _ _ e))
          intro k s' hk
          cases k with
          | succ k => simp at hk
          | zero =>
            obtain rfl : _ = s' := by simpa using hk
            refine ⟨w1', (er_congr (fun j h1 h2 => by omega) 5 _ w1'), (wr_congr (fun j h1 h2 => by omega) 5 _ w1'), Int.le_trans w2' (by decide), ?_, ?_⟩
            · rw [er_congr (c' := fun _ => 0) (fun j h1 h2 => by omega) 5 _ w1']
              exact w3'
            · rw [wr_congr (c' := fun _ => 0) (fun j h1 h2 => by omega) 5 _ w1']
              exact Int.le_trans (Int.le_of_eq w4') (by decide)
  · refine ⟨_, rfl, b, l, 3, rfl, by decide, by decide, B1, fun r1 H2 b0 b1 B2 k2 => ?_⟩
    refine ⟨_, rfl, b, l, 5, rfl, by decide, by decide, B2, fun r2 H3 c0 c1 B3 k3 => ⟨(by show 3 ≤ sizeLine; decide), fun T hT => ?_⟩⟩
    refine ⟨_, rfl, b, l, 3, rfl, by decide, by decide, B3.new hT, fun r3 H4 d0 d1 B4 k4 => ?_⟩
    have eT := k4 _ _ upd_same (B3.nin hT)
    obtain ⟨mm, em, hmm⟩ := pick3 (x := 0) (y := r1) (z := r2) d0 d1
    have mm0 : 0 ≤ mm ∧ mm ≤ 4 := by omega
    refine ⟨T, _, r3, .int mm, rfl, rfl, SqL.of eT, em, _, _, rfl, rfl, ?_⟩
    have kk4 : Keep [b, l] H H4 := k1.trans (k2.trans (k3.trans ((Keep.new hT).trans k4)))
    refine ⟨Nat.zero_le _, fun f0 hf0 => ⟨Nat.zero_le _, fun u0 hu0 => ⟨_, _, rfl, ?_⟩⟩⟩
    have hu00 : H4 u0 = none := (Same.new hf0).free hu0
    have nfu : f0 ≠ u0 := ne_of_none upd_same hu0
    have B5 := (B4.new (o := .lst []) hf0).new (o := .lst []) hu0
    have kk5 : Keep [b, l] H (upd (upd H4 f0 (.lst [])) u0 (.lst [])) := kk4.trans ((Keep.new hf0).trans (Keep.new hu0))
    have hM : ∃ M : Nat, (M : Int) = 1 + mm := ⟨(1 + mm).toNat, by omega⟩
    obtain ⟨M, eM⟩ := hM
    refine ⟨_, rfl, _, _, rfl, rfl, 1, rfl, 1, rfl, 1 + mm - 1, -1, -1, (1 + mm - 1 - -1).toNat, rfl, RgC.neg (by omega) (by omega) (by decide) (by decide), ?_⟩
    have en : (1 + mm - 1 - -1).toNat = M := by omega
    rw [en]
    refine for_rangeC (lo := 1 + mm - 1) (c := -1) (n := M) (fun k σ H' => ∃ (f u : Addr) (vs : List V) (ps : List Sch) (js : List Nat) (uv : List V) (ce cw : Nat → Int) (v2 v10 v11 : Option V), σ = [some (.ref b), some (.ref L), v2, none, none, none, none, some (.int (1 + mm)), some (.ref f), some (.ref u), v10, v11, none] ∧
        H' f = some (.lst vs) ∧ H' u = some (.lst uv) ∧ (u ≠ b ∧ u ≠ l) ∧ (f ≠ b ∧ f ≠ l) ∧ Paired (SAt H' 5) ps vs ∧ ps.length = k ∧ k ≤ M ∧ TailOk ce cw M (M - k) ps ∧ Paired (UseR ce cw H') js uv ∧ (∀ j, j ∈ js ↔ M - k ≤ j ∧ j < M) ∧ js.length = k ∧ Box H' b l ∧ Keep [b, l] H H')
      ⟨f0, u0, [], [], [], [], fun _ => 0, fun _ => 0, none, none, none, rfl, by rw [upd_ne nfu]; exact upd_same, upd_same, B4.ne_new hu00, B4.ne_new hf0, .nil, rfl, Nat.zero_le _, (fun k s h => by simp at h), .nil, (fun j => ⟨(fun h => nomatch h), fun h => by omega⟩), rfl, B5, kk5⟩ ?_ ?_
    · rintro k σ H' hk ⟨f, u, vs, ps, js, uv, ce, cw, v2, v10, v11, rfl, ef, eu, nu, nf, pp, lp, kM, tl, pu, iff, lj, B', k'⟩
      refine ⟨(by show 3 ≤ sizeLine; decide), fun T1 hT1 => ⟨_, rfl, b, l, 3, rfl, by decide, by decide, B'.new hT1, fun q1 H5 _ _ B5 k5 => ?_⟩⟩
      have eT1 := k5 _ _ upd_same (B'.nin hT1)
      obtain ⟨x, ex, hx⟩ := pick3 (x := 4) (y := 8) (z := 12) (r := q1) (by assumption) (by assumption)
      refine ⟨T1, _, q1, .int x, rfl, rfl, SqL.of eT1, ex, ?_⟩
      refine ⟨(by show 3 ≤ sizeLine; decide), fun T2 hT2 => ⟨_, rfl, b, l, 3, rfl, by decide, by decide, B5.new hT2, fun q2 H6 g0 g1 B6 k6 => ?_⟩⟩
      have eT2 := k6 _ _ upd_same (B5.nin hT2)
      obtain ⟨y, ey, hy⟩ := pick3 (x := 2) (y := 4) (z := 7) (r := q2) g0 g1
      refine ⟨T2, _, q2, .int y, rfl, rfl, SqL.of eT2, ey, ?_⟩
      refine ⟨sz2, fun T3 hT3 => ⟨_, rfl, b, l, 2, rfl, by decide, by decide, B6.new hT3, fun q3 H7 h0 h1 B7 k7 => ?_⟩⟩
      have eT3 := k7 _ _ upd_same (B6.nin hT3)
      obtain ⟨z, ez, hz⟩ := pick2' (x := 1) (y := 3) (r := q3) h0 h1
      refine ⟨T3, _, q3, .int z, rfl, rfl, SqL.of eT3, ez, ?_⟩
      refine ⟨(by show 3 ≤ sizeLine; decide), fun m hm => ?_⟩
      have kk7 : Keep [b, l] H' H7 := (Keep.new hT1).trans (k5.trans ((Keep.new hT2).trans (k6.trans ((Keep.new hT3).trans k7))))
      have B8 := B7.new (o := .lst [.int x, .int y, .int z]) hm
      have kk8 : Keep [b, l] H' (upd H7 m (.lst [.int x, .int y, .int z])) := kk7.trans (Keep.new hm)
      have t8 := B'.tup kk8
      have eu8 := kk8 _ _ eu (nin nu)
      have nmb := B7.ne_new hm
      have eL7 := (k'.trans kk7) _ _ eL (nin ⟨nb, nl⟩)
      have eu7 := kk7 _ _ eu (nin nu)
      have nLm : L ≠ m := ne_of_none eL7 hm
      have num : u ≠ m := ne_of_none eu7 hm
      have pu8 : Paired (UseR ce cw (upd H7 m (.lst [.int x, .int y, .int z]))) js uv := paired_imp pu fun j v ⟨t, e1, e2⟩ => ⟨t, e1, t8 _ _ e2⟩
      have jM : js.length ≤ 5 := by omega
      have g : GenAt (M - 1 - k) M ce cw (upd H7 m (.lst [.int x, .int y, .int z])) b l L m u F x y z :=
        ⟨B8, upd_same, by rw [upd_ne nLm]; exact eL7, w1, l0, l1, ⟨js, uv, eu8, jM, fun j hj => (by have := (iff j).mp hj; omega), pu8⟩, nmb, by simp [nb, nl, nLm], by simp [nu.1, nu.2, num]⟩
      dsimp only [gName]
      refine ⟨_, rfl, _, rfl, _, rfl, _, rfl, ⟨M - 1 - k, M, ce, cw⟩, b, l, L, m, u, F, x, y, z, rfl, g, by omega, by omega, by omega, fun v s H9 x' y' z' sa so e1 e2 e3 p1 p2 p3 el B9 k9 => ?_⟩
      have g9 := g.move k9 B9 el
      have hm' : H' m = none := kk7.freeN hm (nin nmb)
      have k10 : Keep [b, l] H' H9 := Keep.drop kk8 k9 hm'
      have t10 := B'.tup k10
      have ef10 := k10 _ _ ef (nin nf)
      have eu10 := k10 _ _ eu (nin nu)
      have lv := Paired.length pp
      have lu := Paired.length pu
      dsimp only [gName]
      refine ⟨_, rfl, (by show 1 ≤ sizeLine; decide), fun X1 hX1 => ⟨_, rfl, X1, f, _, _, rfl, rfl, upd_same, Same.new hX1 _ _ ef10, szN (by simp only [List.length_cons, List.length_nil]; omega), fun f2 hf2 => ?_⟩⟩
      have o1 := (Same.new (o := .lst [v]) hX1).trans (Same.new (o := .lst ([v] ++ vs)) hf2)
      refine ⟨_, rfl, _, rfl, (by show 1 ≤ sizeLine; decide), fun t1 ht1 => ?_⟩
      have o2 := o1.trans (Same.new (o := .tup [.int (1 + mm - 1 + ((k : Nat) : Int) * -1)]) ht1)
      have eNum : 1 + mm - 1 + ((k : Nat) : Int) * -1 = ((M - 1 - k : Nat) : Int) := by omega
      refine ⟨_, rfl, _, rfl, ⟨M - 1 - k, M, ce, cw⟩, v, u, s, rfl, SAt.keep (Same.tupK o2) _ _ _ sa, so, ⟨js, uv, o2 _ _ eu10, jM, fun j h1 h2 => (iff j).mpr ⟨by have h1' : M - 1 - k < j := h1; omega, h2⟩, paired_imp pu fun j v ⟨t, e1, e2⟩ => ⟨t, e1, (Same.tupK o2) _ _ (t10 _ _ e2)⟩⟩, fun p H6 s6 ep => ?_⟩
      have o3 := o2.trans s6
      refine ⟨p, _, rfl, .inr ⟨SqT.of ep, t1, p, _, _, rfl, rfl, SqT.of (s6 _ _ upd_same), SqT.of ep, (by show 3 ≤ sizeLine; decide), (fun z => nomatch z), (fun _ z => nomatch z), fun _ _ p2 hp2 => ⟨(by show 1 ≤ sizeLine; decide), fun w1 hw1 => ?_⟩⟩⟩
      have o4 := (Same.new (o := .tup ([.int (1 + mm - 1 + ((k : Nat) : Int) * -1)] ++ [.int (er ce 5 s), .int (wr cw 5 s)])) hp2)
      have o5 := o4.trans (Same.new (o := .lst [.ref p2]) hw1)
      refine ⟨u, w1, _, _, rfl, rfl, o5 _ _ (o3 _ _ eu10), upd_same, szN (by simp only [List.length_cons, List.length_nil]; omega), fun u2 hu2 => ?_⟩
      have o6 := o5.trans (Same.new (o := .lst (uv ++ [.ref p2])) hu2)
      have oAll := o3.trans o6
      have tAll := Same.tupK oAll
      have B10 := B9.keep (S := []) (fun a o e _ => oAll _ _ e) (by simp) (by simp)
      have kAll : Keep [b, l] H' _ := k10.trans (fun a o e _ => oAll _ _ e)
      have hN : M - (k + 1) = M - 1 - k := by omega
      have hN1 : M - 1 - k + 1 = M - k := by omega
      have e1' : sz 5 s = x - x' := e1
      have e2' : er ce 5 s = y - y' := e2
      have e3' : wr cw 5 s = z - z' := e3
      have tl0 : TailOk ce cw M (M - 1 - k + 1) ps := by rw [hN1]; exact tl
      have tl' := TailOk.cons (n := M - 1 - k) (s := s) tl0 so (show M - 1 - k + 1 + ps.length ≤ M by omega) (show sz 5 s ≤ 12 by omega) (show er ce 5 s ≤ 7 by omega) (show wr cw 5 s ≤ 3 by omega)
      have f2b := B9.ne_new (hX1 : H9 X1 = none)
      refine ⟨f2, u2, [v] ++ vs, s :: ps, js ++ [M - 1 - k], uv ++ [.ref p2], _, _, _, _, _, rfl, ?_, upd_same, ?_, ?_, ?_, by simp only [List.length_cons]; omega, by omega, by rw [hN]; exact tl', ?_, fun j => ?_, by simp only [List.length_append, List.length_cons, List.length_nil]; omega, B10, k'.trans kAll⟩
      · exact (Same.new (o := .tup [.int (1 + mm - 1 + ((k : Nat) : Int) * -1)]) ht1).trans (s6.trans o6) _ _ upd_same
      · exact (B9.keep (S := []) (fun a o e _ => o3.trans o5 _ _ e) (by simp) (by simp)).ne_new hu2
      · exact (B9.new (o := .lst [v]) hX1).ne_new hf2
      · exact .cons (SAt.keep tAll _ _ _ sa) (paired_imp pp fun s' v' h => SAt.keep (t10.trans tAll) _ _ _ h)
      · have al : ∀ j ∈ js, j ≠ M - 1 - k := fun j hj => by have := (iff j).mp hj; omega
        have z := ((Same.new (o := .lst [.ref p2]) hw1).trans (Same.new (o := .lst (uv ++ [.ref p2])) hu2)) _ _ (upd_same (a := p2) (o := .tup ([.int (1 + mm - 1 + ((k : Nat) : Int) * -1)] ++ [.int (er ce 5 s), .int (wr cw 5 s)])))
        have z2 := z.trans (by rw [eNum]; rfl : some (HO.tup ([V.int (1 + mm - 1 + ((k : Nat) : Int) * -1)] ++ [V.int (er ce 5 s), V.int (wr cw 5 s)])) = some (.tup [V.int ((M - 1 - k : Nat) : Int), V.int (er ce 5 s), V.int (wr cw 5 s)]))
        exact paired_snoc (use_other (paired_imp pu fun j v ⟨t, e1, e2⟩ => ⟨t, e1, tAll _ _ (t10 _ _ e2)⟩) al) (use_new z2)
      · rw [List.mem_append, List.mem_singleton, iff j]
        omega
    · rintro σ H' ⟨f, u, vs, ps, js, uv, ce, cw, v2, v10, v11, rfl, ef, eu, nu, nf, pp, lp, kM, tl, pu, iff, lj, B', k'⟩
      refine ⟨_, rfl, f, _, rfl, .inl ⟨SqL.of ef, fun t ht => ?_⟩⟩
      refine q (.ref t) ps _ ⟨t, vs, rfl, upd_same, paired_imp pp fun s v h => SAt.keep (TupK.new ht) _ _ _ h⟩ ⟨by omega, by omega, ce, cw, ?_⟩ (B'.new ht) (k'.trans (Keep.new ht))
      rw [lp]
      rw [Nat.sub_self] at tl
      exact tl
end
end MS
end
section
set_option maxRecDepth 100000
set_option maxHeartbeats 4000000
namespace MS
open PySem L2
def shapesL : List (Str × List Str) := [("step", ["word", "points"]), ("all", ["schemes"]), ("best", ["schemes"]), ("most", ["limit", "scheme"]), ("half", ["scheme"]), ("seen", ["word", "scheme"]), ("behind", ["word", "scheme"]), ("carry", ["scheme"]), ("end", ["word", "points", "scheme"]), ("use", ["later"])]
def freeL : List Str := ["len", "list", "range", "tuple", "int", "isinstance", "any", "all", "zip", "enumerate", "str", "bool", "min", "max", "sum", "sorted", "set", "reversed"]
/-- what the program's top leaves -/
structure PTx (w : World) (K : PySem.W.Frag) (mg : Str → Option Value) : Prop where
  words : ∃ a, mg "WORDS" = some (.ref a) ∧ ∀ H, SqT K H a (wordsL.map V.str)
  right : ∃ t, mg "RIGHT" = some (.str "r" t)
  wrong : ∃ t, mg "WRONG" = some (.str "w" t)
  carried : ∃ t, mg "CARRIED" = some (.str "c" t)
  mostSteps : ∃ t, mg "MOST_STEPS" = some (.int 12 t)
  mostWithin : ∃ t, mg "MOST_WITHIN" = some (.int 4 t)
  mostInPaper : ∃ t, mg "MOST_IN_PAPER" = some (.int 5 t)
  mostInScheme : ∃ t, mg "MOST_IN_SCHEME" = some (.int 12 t)
  longest : ∃ t, mg "LONGEST_PLACE" = some (.int 4 t)
  mostE : ∃ t, mg "MOST_EARNERS" = some (.int 7 t)
  mostW : ∃ t, mg "MOST_WATCHERS" = some (.int 3 t)
  earners : ∃ a, mg "EARNERS" = some (.ref a) ∧ ∀ H, SqT K H a [.str "step", .str "end"]
  watchers : ∃ a, mg "WATCHERS" = some (.ref a) ∧ ∀ H, SqT K H a [.str "seen", .str "behind"]
  shapes : ∃ a, mg "SHAPES" = some (.ref a) ∧ (a == sysModules) = false ∧ ∀ p ∈ shapesL, ∃ t, KDct K w a p.1 (.ref t) ∧ ∀ H, SqT K H t (p.2.map V.str)
  bounds : ∃ a, mg "BOUNDS" = some (.ref a) ∧ ∃ t1 t2, KDct K w a "points" (.ref t1) ∧ (∀ H, SqT K H t1 [.int 1, .int 9]) ∧ KDct K w a "limit" (.ref t2) ∧ ∀ H, SqT K H t2 [.int 0, .int 30]
  free : ∀ x ∈ freeL, mg x = none
theorem str_len2 {z : Str} (h : z.length = 2) : z.length ≤ sizeLine := by rw [h]; decide
def spIsStep : Sp := fun vs H Q _ => ∃ p : StepT, vs = [.str (stepS p)] ∧ IsStep p ∧ ∀ H', Same H H' → Q (.bl true) H'
theorem inV_words {x : Str} (h : IsW x) : inV (.str x) (wordsL.map V.str) = true := by
  have h' : x ∈ wordsL := h
  have q : ∀ y ∈ wordsL, inV (.str y) (wordsL.map V.str) = true := by decide +kernel
  exact q x h'
theorem inV_marks {x : Str} (h : IsM x) : inV (.str x) [.str "r", .str "w", .str "c"] = true := by
  have h' : x ∈ marksL := h
  have q : ∀ y ∈ marksL, inV (.str y) [.str "r", .str "w", .str "c"] = true := by decide +kernel
  exact q x h'
section
variable {P : Program} {w : World} {K : PySem.W.Frag} {mg : Str → Option Value} {base : Heap}
theorem ok_is_step (T : PTx w K mg) (D : Def K mg "is_step" s_is_step ["thing"]) : FnOk P w K mg base CX0 1 D.f D.fd ["thing"] spIsStep := by
  obtain ⟨aW, gW, qW⟩ := T.words
  obtain ⟨tr, gr⟩ := T.right
  obtain ⟨tw, gw⟩ := T.wrong
  obtain ⟨tc, gc⟩ := T.carried
  refine D.ok sc_is_step (fun vs H Q E h => ?_) (fun cdv A outer s H vs Q E hr h => ?_)
  · obtain ⟨p, rfl, _⟩ := h
    rfl
  obtain ⟨p, rfl, hp, q⟩ := h
  refine ⟨_, pss_cons (ps_if (PW.pt (pw_or (pt_not (pt_val (pe_callB call_isi rfl (T.free "isinstance" (by decide +kernel)) (by decide +kernel) (pa_cons (pv 0) (pa_cons (pe_bltn rfl (T.free "str" (by decide +kernel)) (by decide +kernel) (v := .ty "str") rfl) pa_nil)))))
      (pw_or1 (pt_cmpR op_ne (pe_callB call_len_str rfl (T.free "len" (by decide +kernel)) PySem.boot_len (pa_cons (pv 0) pa_nil)) pe_int (nomark _))))) (pss_one ps_never) pss_nil)
    (pss_one (ps_ret (pe_and (pe_cmpR op_in_seq (pe_ix ix_str (pv 0) pe_int (fun _ _ => rfl)) (pe_glob rfl gW (v := .ref aW) rfl) (by rfl))
      (pe_one (pe_cmpR op_in_seq (pe_ix ix_str (pv 0) pe_int (fun _ _ => rfl)) (pe_tup (pa_cons (pe_glob rfl gr (v := .str "r") ⟨_, rfl⟩) (pa_cons (pe_glob rfl gw (v := .str "w") ⟨_, rfl⟩) (pa_cons (pe_glob rfl gc (v := .str "c") ⟨_, rfl⟩) pa_nil)))) (by rfl)))))), ?_⟩
  obtain ⟨c0, e0, x0⟩ := hp.at0
  obtain ⟨c1, e1, x1⟩ := hp.at1
  refine seq_if (b := false) (fun Q q => ?_) (fun z => nomatch z) (fun _ => ?_)
  · refine ⟨_, rfl, _, .ty "str", .type "str", .type "str", true, rfl, .ty _, .base (.str _), kit_ty (by decide +kernel), _, rfl, ?_⟩
    refine ⟨_, rfl, _, rfl, str_len2 hp.len, rfl, _, rfl, ?_⟩
    rw [hp.len]
    exact q
  · refine ⟨_, rfl, _, 0, c0, rfl, rfl, str_len2 hp.len, e0, ?_⟩
    rw [x0]
    refine ⟨aW, _, rfl, .inr (qW _), rfl, by decide +kernel, _, rfl, ?_⟩
    show (if inV (.str p.1) (wordsL.map V.str) = true then _ else _)
    rw [if_pos (inV_words hp.1)]
    refine ⟨_, rfl, _, 1, c1, rfl, rfl, str_len2 hp.len, e1, ?_⟩
    rw [x1]
    refine ⟨(by show 3 ≤ sizeLine; decide), fun t ht => ⟨t, _, rfl, .inr (SqT.of upd_same), rfl, rfl, ?_⟩⟩
    show Q (.bl (inV (.str p.2) [.str "r", .str "w", .str "c"])) _
    rw [inV_marks hp.2]
    exact q _ (Same.new ht)
def spCheckWork : Sp := fun vs H Q _ => ∃ (a : Addr) (ws : List StepT), vs = [.ref a] ∧ H a = some (.lst (stepsV ws)) ∧ WorkOk ws ∧ ∀ H', Same H H' → Q .non H'
theorem WorkFrom.at : ∀ {ws : List StepT} {w : Bool} {i : Nat} {p : StepT}, WorkFrom w ws → ws[i]? = some p → IsStep p ∧ (p.2 = "c" → (w || anyWrong (ws.take i)) = true)
  | [], _, _, _, _, h => by simp at h
  | q :: r, w, 0, p, h, e => by
    obtain rfl : q = p := by simpa using e
    exact ⟨h.1, fun z => by rw [h.2.1 z]; rfl⟩
  | q :: r, w, i + 1, p, h, e => by
    obtain ⟨h1, h2⟩ := WorkFrom.at (i := i) h.2.2 (by simpa using e)
    refine ⟨h1, fun z => ?_⟩
    have z2 := h2 z
    rw [Bool.or_assoc] at z2
    exact z2
theorem ok_check_work (T : PTx w K mg) (D : Def K mg "check_work" s_check_work ["work"]) (DI : Def K mg "is_step" s_is_step ["thing"]) : FnOk P w K mg base CX0 2 D.f D.fd ["work"] spCheckWork := by
  have GI : FnOk P w K mg base CX0 1 DI.f DI.fd ["thing"] spIsStep := ok_is_step T DI
  obtain ⟨tw, gw⟩ := T.wrong
  obtain ⟨tc, gc⟩ := T.carried
  obtain ⟨tm, gm⟩ := T.mostSteps
  have nd := sc_check_work.nd
  refine D.ok sc_check_work (fun vs H Q E h => ?_) (fun cdv A outer s H vs Q E hr h => ?_)
  · obtain ⟨a, ws, rfl, _⟩ := h
    rfl
  obtain ⟨a, ws, rfl, ea, hw, q⟩ := h
  refine ⟨_, pss_cons (ps_if (pt_not (pt_val (pe_callB call_isi rfl (T.free "isinstance" (by decide +kernel)) (by decide +kernel) (pa_cons (pv 0) (pa_cons (pe_bltn rfl (T.free "list" (by decide +kernel)) (by decide +kernel) (v := .ty "list") rfl) pa_nil))))) (pss_one ps_never) pss_nil)
    (pss_cons (ps_set (i := 1) nd rfl (Or.inl rfl) pe_bl)
    (pss_one (ps_for PassesOwn.never rfl (pi_enum rfl (T.free "enumerate" (by decide +kernel)) (pa_cons (pv 0) pa_nil)) (pg_tup (by rfl) (pgs_cons (pg_name (i := 2) nd rfl (Or.inl rfl)) (pgs_cons (pg_name (i := 3) nd rfl (Or.inl rfl)) pgs_nil)))
      (pss_cons (ps_if (PW.pt (pw_or (pt_cmpR op_eq (pv 2) (pe_glob rfl gm (v := .int 12) ⟨_, rfl⟩) (nomark _)) (pw_or1 (pt_not (pt_val (pcall DI GI hr (pa_cons (pv 3) pa_nil))))))) (pss_one ps_never) pss_nil)
      (pss_cons (ps_if (PW.pt (pw_and (pt_cmpR op_eq (pe_ix ix_str (pv 3) pe_int (fun _ _ => rfl)) (pe_glob rfl gc (v := .str "c") ⟨_, rfl⟩) (nomark _)) (pw_and1 (pt_not (pt_val (pv 1)))))) (pss_one ps_never) pss_nil)
      (pss_one (ps_set (i := 1) nd rfl (Or.inl rfl) (pe_or (pv 1) (pe_one (pe_cmpR op_eq (pe_ix ix_str (pv 3) pe_int (fun _ _ => rfl)) (pe_glob rfl gw (v := .str "w") ⟨_, rfl⟩) (nomark _))))))))))), ?_⟩
  refine seq_if (b := false) (fun Q q => ⟨_, rfl, _, .ty "list", .type "list", .type "list", true, rfl, .ty _, .base (.lst ea), kit_ty (by decide +kernel), _, rfl, q⟩) (fun z => nomatch z) (fun _ => ?_)
  have lws : (stepsV ws).length = ws.length := List.length_map _
  refine ⟨_, rfl, a, _, rfl, SqL.of ea, for_it (walk_enum (K := K) (a := a) (xs := stepsV ws)) (fun i σ H' => ∃ v2 v3 : Option V, σ = [some (.ref a), some (.bl (anyWrong (ws.take i))), v2, v3] ∧ Same H H')
    ⟨none, none, rfl, Same.refl _⟩ (fun i σ H' _ ⟨_, _, _, sm⟩ => SqL.of (sm _ _ ea)) ?_ ?_⟩
  · rintro i x σ H1 H2 hi ⟨v2, v3, rfl, sm⟩ ⟨T1, x1, x2, rfl, hT1, rfl, ex1, ex2⟩
    obtain rfl : V.int ((i : Nat) : Int) = x1 := Option.some.inj ex1
    rw [lws] at hi
    have ep : ws[i]? = some (ws[i]'hi) := List.getElem?_eq_getElem hi
    obtain rfl : V.str (stepS (ws[i]'hi)) = x2 := Option.some.inj ((get_map (fun p => V.str (stepS p)) ws hi).symm.trans ex2)
    obtain ⟨hp, hc⟩ := hw.1.at ep
    obtain ⟨c1, e1, y1⟩ := hp.at1
    have sm1 : Same H (upd H1 T1 (.tup [.int ((i : Nat) : Int), .str (stepS (ws[i]'hi))])) := sm.trans (Same.new hT1)
    refine ⟨T1, _, rfl, SqT.of upd_same, rfl, _, _, rfl, _, _, rfl, rfl, ?_⟩
    have hlen := hw.2
    refine ⟨_, rfl, rfl, _, rfl, ?_⟩
    have ne : decide (V.int ((i : Nat) : Int) = V.int 12) = false := decide_eq_false (fun z => by have := V.int.inj z; omega)
    rw [ne]
    refine iteF ⟨_, rfl, _, rfl, hp, fun H3 s3 => ⟨_, rfl, iteF ?_⟩⟩
    dsimp only [tNext]
    refine seq_if (b := (ws[i]'hi).2 == "c" && !anyWrong (ws.take i)) (ev_and (fun Q q => ⟨_, rfl, _, 1, c1, rfl, rfl, str_len2 hp.len, e1, rfl, _, rfl, by rw [y1, dec_str]; exact q⟩) (fun Q q => ⟨_, rfl, _, rfl, q⟩)) (fun z => ?_) (fun _ => ?_)
    · rw [Bool.and_eq_true] at z
      have z1 := hc (eq_of_beq z.1)
      rw [Bool.false_or] at z1
      rw [z1] at z
      exact absurd z.2 (by decide)
    · refine ⟨_, rfl, _, rfl, ?_⟩
      have tk : anyWrong (ws.take (i + 1)) = (anyWrong (ws.take i) || ((ws[i]'hi).2 == "w")) := by
        rw [List.take_succ_eq_append_getElem hi]
        unfold anyWrong
        rw [List.any_append]
        simp
      refine ite2 (fun z => ?_) (fun z => ?_)
      · exact ⟨_, _, by rw [tk, z]; rfl, (sm1.trans s3)⟩
      · refine ⟨_, rfl, _, 1, c1, rfl, rfl, str_len2 hp.len, e1, rfl, ?_⟩
        rw [y1]
        refine ⟨some (.int ((i : Nat) : Int)), some (.str (stepS (ws[i]'hi))), ?_, (sm1.trans s3)⟩
        rw [tk, Bool.eq_false_iff.mpr z, Bool.false_or, dec_str]
        rfl
  · rintro σ H' ⟨v2, v3, rfl, sm⟩
    exact q H' sm
end
end MS
end
section
set_option maxRecDepth 100000
set_option maxHeartbeats 4000000
namespace MS
open PySem L2
/-! ### a written dict: get -/
def tKGet2 (K : PySem.W.Frag) (w : World) (td ty tx : TE) : TE := fun σ H Q => td σ H fun x H1 => ∃ a, x = .ref a ∧ (a == sysModules) = false ∧ (∃ z0 v0, KDct K w a z0 v0) ∧ ty σ H1 fun y H2 => tx σ H2 fun d H3 => ∃ z, y = .str z ∧ ((∃ v, KDct K w a z v ∧ Q v H3) ∨ (KMiss K w a z ∧ Q d H3))
theorem pe_kget2 {X : Cx} {o e f : Expr} {apos cpos : Pos} {td ty tx : TE} (ho : PE X o td) (he : PE X e ty) (hf : PE X f tx) (m : M2 X o "get" apos e f cpos) : PE X (.Call (.Attribute o "get" apos) [e, f] [] cpos) (tKGet2 X.K X.w td ty tx) := by
  refine ⟨fun pins s σ H Q I h => ?_⟩
  refine wpAny_Call_method m.base m.few m.line PySem.F.plainAttrs_dict PySem.F.slot_dict_get PySem.F.type_dict_get (thn (ho.run pins s σ H _ I h) fun u s1 ⟨x, H1, I1, rx, a, ex, low, ⟨z0, v0, es, n, u0, hl, hk, e0, ru⟩, q1⟩ => ?_)
  subst ex
  obtain rfl : u = Value.ref a := rx
  refine ⟨(PySem.W.mapOf_K (prog := X.prog) (w := X.w) I1.kIn hl hk).typeIs, (fun b q => by
    cases q
    exact ⟨_, I1.kIn _ _ hl, rfl⟩), ?_⟩
  rw [m.trees]
  refine Calls.callWith_builtin rfl (Calls.evalArgs_plain (Calls.spliced_cons (thn (he.run pins s1 σ H1 _ I1 q1) fun iv s2 ⟨y, H2, I2, ry, q2⟩ =>
    Calls.spliced_cons (thn (hf.run pins s2 σ H2 _ I2 q2) fun fv s3 ⟨d, H3, I3, rz, z, ey, q3⟩ => Calls.spliced_nil ?_))))
  subst ey
  obtain ⟨t, rfl⟩ := ry
  have hm := PySem.W.mapOf_K (prog := X.prog) (w := X.w) I3.kIn hl hk
  refine call_meetsIn PySem.F.slot_dict_get hm.typeIs PySem.F.entry_dict_get (PySem.F.args_dict_get_3 _ _ _) (meets_dict_get_default (strKind X.prog X.w) a (strKind_is X.prog X.w z t) low fv) ⟨_, hm, ?_⟩
  rcases q3 with ⟨v, ⟨es2, n2, u2, hl2, hk2, e2, ru2⟩, q3⟩ | ⟨⟨es2, n2, hl2, hk2, low2, e2⟩, q3⟩
  · rw [hl] at hl2
    cases hl2
    rw [PySem.W.find_K hl e2]
    exact ⟨v, H3, I3.tok _, ru2, q3⟩
  · rw [hl] at hl2
    cases hl2
    rw [PySem.W.find_K hl e2]
    exact ⟨d, H3, I3.tok _, rz, q3⟩
end MS
end
section
set_option maxRecDepth 100000
set_option maxHeartbeats 4000000
namespace MS
open PySem L2
def FitsR (H : Hp) (i M : Nat) (part : V) (kind : Str) : Prop :=
  (kind = "word" ∧ ∃ x, part = .str x ∧ IsW x) ∨ (kind = "points" ∧ ∃ p : Int, part = .int p ∧ 1 ≤ p ∧ p ≤ 9) ∨ (kind = "limit" ∧ ∃ p : Int, part = .int p ∧ 0 ≤ p ∧ p ≤ 30) ∨
  (kind = "schemes" ∧ ∃ b vs, part = .ref b ∧ H b = some (.tup vs) ∧ 0 < vs.length ∧ vs.length ≤ 4) ∨ kind = "scheme" ∨ (kind = "later" ∧ ∃ j : Nat, part = .int (j : Int) ∧ i < j ∧ j < M)
def spIsNumber : Sp := fun vs H Q _ => ∃ i : Int, vs = [.int i] ∧ Q (.bl true) H
def spFits (i M : Nat) : Sp := fun vs H Q _ => ∃ (part : V) (kind : Str), vs = [part, .str kind, .int (i : Int), .int (M : Int)] ∧ FitsR H i M part kind ∧ Q (.bl true) H
section
variable {P : Program} {w : World} {K : PySem.W.Frag} {mg : Str → Option Value} {base : Heap}
theorem ok_is_number (T : PTx w K mg) (D : Def K mg "is_number" s_is_number ["thing"]) : FnOk P w K mg base CX0 1 D.f D.fd ["thing"] spIsNumber := by
  refine D.ok sc_is_number (fun vs H Q E h => ?_) (fun cdv A outer s H vs Q E hr h => ?_)
  · obtain ⟨i, rfl, _⟩ := h
    rfl
  obtain ⟨i, rfl, q⟩ := h
  refine ⟨_, pss_one (ps_ret (pe_and (pe_callB call_isi rfl (T.free "isinstance" (by decide +kernel)) (by decide +kernel) (pa_cons (pv 0) (pa_cons (pe_bltn rfl (T.free "int" (by decide +kernel)) (by decide +kernel) (v := .ty "int") rfl) pa_nil)))
    (pe_one (pe_not (pe_callB call_isi rfl (T.free "isinstance" (by decide +kernel)) (by decide +kernel) (pa_cons (pv 0) (pa_cons (pe_bltn rfl (T.free "bool" (by decide +kernel)) (by decide +kernel) (v := .ty "bool") rfl) pa_nil))))))), ?_⟩
  exact ⟨_, rfl, _, .ty "int", .type "int", .type "int", true, rfl, .ty _, .base (.int _), kit_ty (by decide +kernel), _, rfl, _, rfl, _, .ty "bool", .type "int", .type "bool", false, rfl, .ty _, .base (.int _), kit_ty (by decide +kernel), _, rfl, q⟩
theorem ok_fits {i M : Nat} (T : PTx w K mg) (D : Def K mg "fits" s_fits ["part", "kind", "number", "many"]) (DN : Def K mg "is_number" s_is_number ["thing"]) : FnOk P w K mg base CX0 2 D.f D.fd ["part", "kind", "number", "many"] (spFits i M) := by
  have GN : FnOk P w K mg base CX0 1 DN.f DN.fd ["thing"] spIsNumber := ok_is_number T DN
  obtain ⟨aW, gW, qW⟩ := T.words
  obtain ⟨tm, gm⟩ := T.mostWithin
  obtain ⟨aB, gB, t1, t2, kb1, qb1, kb2, qb2⟩ := T.bounds
  have nd := sc_fits.nd
  refine D.ok sc_fits (fun vs H Q E h => ?_) (fun cdv A outer s H vs Q E hr h => ?_)
  · obtain ⟨part, kind, rfl, _⟩ := h
    rfl
  obtain ⟨part, kind, rfl, hf, q⟩ := h
  refine ⟨_, pss_cons (ps_if (pt_cmpR op_eq (pv 1) pe_str (nomark _)) (pss_one (ps_ret (pe_cmpR op_in_seq (pv 0) (pe_glob rfl gW (v := .ref aW) rfl) (by rfl)))) pss_nil)
    (pss_cons (ps_if (pt_cmpR op_eq (pv 1) pe_str (nomark _)) (pss_one (ps_ret (pe_and (pe_callB call_isi rfl (T.free "isinstance" (by decide +kernel)) (by decide +kernel) (pa_cons (pv 0) (pa_cons (pe_bltn rfl (T.free "tuple" (by decide +kernel)) (by decide +kernel) (v := .ty "tuple") rfl) pa_nil)))
        (pe_one (pe_chain op_le op_le pe_int (pe_callB call_len_seq rfl (T.free "len" (by decide +kernel)) PySem.boot_len (pa_cons (pv 0) pa_nil)) (pe_glob rfl gm (v := .int 4) ⟨_, rfl⟩)))))) pss_nil)
    (pss_cons (ps_if (pt_cmpR op_eq (pv 1) pe_str (nomark _)) (pss_one (ps_ret pe_bl)) pss_nil)
    (pss_cons (ps_if (pt_cmpR op_eq (pv 1) pe_str (nomark _)) (pss_one (ps_ret (pe_and (pcall DN GN hr (pa_cons (pv 0) pa_nil)) (pe_one (pe_chain op_lt op_lt (pv 2) (pv 0) (pv 3)))))) pss_nil)
    (pss_cons (ps_asg (pe_ix ix_kdict (pe_glob rfl gB (v := .ref aB) rfl) (pv 1) (fun _ _ => rfl)) (pg_tup (by rfl) (pgs_cons (pg_name (i := 4) nd rfl (Or.inl rfl)) (pgs_cons (pg_name (i := 5) nd rfl (Or.inl rfl)) pgs_nil))))
    (pss_one (ps_ret (pe_and (pcall DN GN hr (pa_cons (pv 0) pa_nil)) (pe_one (pe_chain op_le op_le (pv 4) (pv 0) (pv 5)))))))))), ?_⟩
  have tst : ∀ {c : Str} {σ : St} {b : Bool}, σ[1]? = some (some (.str kind)) → (kind == c) = b → ∀ Q : Bool → Hp → Prop, Q b H → tTest (tOp rEq (tVar 1) (tC (.str c))) σ H Q := fun s1 e Q q => ⟨_, s1, rfl, _, rfl, by rw [dec_str, e]; exact q⟩
  rcases hf with ⟨rfl, x, rfl, hx⟩ | ⟨rfl, p, rfl, p1, p2⟩ | ⟨rfl, p, rfl, p1, p2⟩ | ⟨rfl, b, vs, rfl, eb, v1, v2⟩ | rfl | ⟨rfl, j, rfl, j1, j2⟩
  · refine seq_if (b := true) (tst rfl (by decide +kernel)) (fun _ => ?_) (fun z => nomatch z)
    refine ⟨_, rfl, aW, _, rfl, .inr (qW _), rfl, by decide +kernel, ?_⟩
    show Q (.bl (inV (.str x) (wordsL.map V.str))) _
    rw [inV_words hx]
    exact q
  · refine seq_if (b := false) (tst rfl (by decide +kernel)) (fun z => nomatch z) (fun _ => seq_if (b := false) (tst rfl (by decide +kernel)) (fun z => nomatch z) (fun _ => seq_if (b := false) (tst rfl (by decide +kernel)) (fun z => nomatch z) (fun _ => seq_if (b := false) (tst rfl (by decide +kernel)) (fun z => nomatch z) (fun _ => ?_))))
    refine ⟨_, rfl, aB, "points", .ref t1, rfl, rfl, kb1, t1, _, rfl, qb1 _, rfl, _, _, rfl, _, _, rfl, rfl, ?_⟩
    refine ⟨_, rfl, p, rfl, _, rfl, ?_⟩
    refine ⟨_, rfl, _, rfl, _, _, rfl, rfl, _, rfl, ?_⟩
    rw [decide_eq_true p1]
    refine iteT ⟨_, rfl, _, _, rfl, rfl, ?_⟩
    show Q (V.bl (decide _)) H
    rw [decide_eq_true p2]
    exact q
  · refine seq_if (b := false) (tst rfl (by decide +kernel)) (fun z => nomatch z) (fun _ => seq_if (b := false) (tst rfl (by decide +kernel)) (fun z => nomatch z) (fun _ => seq_if (b := false) (tst rfl (by decide +kernel)) (fun z => nomatch z) (fun _ => seq_if (b := false) (tst rfl (by decide +kernel)) (fun z => nomatch z) (fun _ => ?_))))
    refine ⟨_, rfl, aB, "limit", .ref t2, rfl, rfl, kb2, t2, _, rfl, qb2 _, rfl, _, _, rfl, _, _, rfl, rfl, ?_⟩
    refine ⟨_, rfl, p, rfl, _, rfl, ?_⟩
    refine ⟨_, rfl, _, rfl, _, _, rfl, rfl, _, rfl, ?_⟩
    rw [decide_eq_true p1]
    refine iteT ⟨_, rfl, _, _, rfl, rfl, ?_⟩
    show Q (V.bl (decide _)) H
    rw [decide_eq_true p2]
    exact q
  · refine seq_if (b := false) (tst rfl (by decide +kernel)) (fun z => nomatch z) (fun _ => seq_if (b := true) (tst rfl (by decide +kernel)) (fun _ => ?_) (fun z => nomatch z))
    refine ⟨_, rfl, _, .ty "tuple", .type "tuple", .type "tuple", true, rfl, .ty _, .base (.tup eb), kit_ty (by decide +kernel), _, rfl, ?_⟩
    refine iteT ⟨_, rfl, b, vs, rfl, .inr (SqT.of eb), _, _, rfl, rfl, _, rfl, ?_⟩
    rw [decide_eq_true (show (1 : Int) ≤ (vs.length : Int) by omega)]
    refine iteT ⟨_, _, rfl, rfl, ?_⟩
    show Q (V.bl (decide _)) H
    rw [decide_eq_true (show (vs.length : Int) ≤ 4 by omega)]
    exact q
  · refine seq_if (b := false) (tst rfl (by decide +kernel)) (fun z => nomatch z) (fun _ => seq_if (b := false) (tst rfl (by decide +kernel)) (fun z => nomatch z) (fun _ => seq_if (b := true) (tst rfl (by decide +kernel)) (fun _ => q) (fun z => nomatch z)))
  · refine seq_if (b := false) (tst rfl (by decide +kernel)) (fun z => nomatch z) (fun _ => seq_if (b := false) (tst rfl (by decide +kernel)) (fun z => nomatch z) (fun _ => seq_if (b := false) (tst rfl (by decide +kernel)) (fun z => nomatch z) (fun _ => seq_if (b := true) (tst rfl (by decide +kernel)) (fun _ => ?_) (fun z => nomatch z))))
    refine ⟨_, rfl, _, rfl, _, rfl, ?_⟩
    refine iteT ⟨_, rfl, _, rfl, _, _, rfl, rfl, _, rfl, ?_⟩
    rw [decide_eq_true (show ((i : Nat) : Int) < ((j : Nat) : Int) by omega)]
    refine iteT ⟨_, rfl, _, _, rfl, rfl, ?_⟩
    show Q (V.bl (decide _)) H
    rw [decide_eq_true (show ((j : Nat) : Int) < ((M : Nat) : Int) by omega)]
    exact q
end
end MS
end
section
set_option maxRecDepth 100000
set_option maxHeartbeats 4000000
namespace MS
open PySem L2
/-! ### what the law earns, point by point -/
/-- a point: the place of the step, the place in the paper -/
abbrev Un := Nat × List Nat
def okAt (c : Bool) (x : Str) (p : StepT) : Bool := (p.1 == x) && (p.2 == "r" || (c && p.2 == "c"))
/-- the places from st on where a step of a word counts -/
def hits (ws : List StepT) (c : Bool) (x : Str) (st : Nat) : List Nat := (List.range' st (ws.length - st)).filter fun i => match ws[i]? with
  | some p => okAt c x p
  | none => false
def lastOk (ws : List StepT) (c : Bool) (x : Str) (st : Nat) : Bool := decide (st < ws.length) && match ws.getLast? with
  | some p => okAt c x p
  | none => false
def allU {α : Type} (f : Sch → Nat → List α) : List Sch → Nat → List α
  | [], _ => []
  | s :: r, j => f s j ++ allU f r (j + 1)
def bestU {α : Type} (f : Sch → Nat → List α) : List Sch → Nat → List α → List α
  | [], _, acc => acc
  | s :: r, j, acc => bestU f r (j + 1) (if acc.length < (f s j).length then f s j else acc)
def uP (ps : List Sch) (ws : List StepT) : Nat → Sch → Nat → Bool → List Nat → List Un
  | 0, _, _, _, _ => []
  | k + 1, .step x p, st, c, wh => match hits ws c x st with
    | [] => []
    | i :: _ => List.replicate p.toNat (i, wh)
  | k + 1, .behind x s, st, c, wh => match hits ws c x st with
    | [] => []
    | i :: _ => uP ps ws k s (i + 1) c (wh ++ [0])
  | k + 1, .use n, st, c, wh => match ps[n]? with
    | none => []
    | some s => uP ps ws k s st c (wh ++ [0])
  | k + 1, .all ks, st, c, wh => allU (fun s j => uP ps ws k s st c (wh ++ [j])) ks 0
  | k + 1, .best ks, st, c, wh => bestU (fun s j => uP ps ws k s st c (wh ++ [j])) ks 0 []
  | k + 1, .fin x p s, st, c, wh => if lastOk ws c x st = true then List.replicate p.toNat (ws.length - 1, wh) else uP ps ws k s st c (wh ++ [0])
  | k + 1, .seen x s, st, c, wh => if (ws.any fun p => p.1 == x) = true then uP ps ws k s st c (wh ++ [0]) else []
  | k + 1, .most n s, st, c, wh => (uP ps ws k s st c (wh ++ [0])).take n.toNat
  | k + 1, .half s, st, c, wh => (uP ps ws k s st c (wh ++ [0])).take ((uP ps ws k s st c (wh ++ [0])).length / 2)
  | k + 1, .carry s, st, c, wh => uP ps ws k s st true (wh ++ [0])
def natV (l : List Nat) : List V := l.map fun j : Nat => V.int ((j : Nat) : Int)
def UnR (H : Hp) (u : Un) (v : V) : Prop := ∃ a b, v = V.ref a ∧ H a = some (.tup [.int ((u.1 : Nat) : Int), .ref b]) ∧ H b = some (.tup (natV u.2))
theorem UnR.keep {H H' : Hp} {u : Un} {v : V} (h : UnR H u v) (k : TupK H H') : UnR H' u v := by
  obtain ⟨a, b, e, h1, h2⟩ := h
  exact ⟨a, b, e, k _ _ h1, k _ _ h2⟩
/-- how many points at most -/
theorem take_le {α : Type} (l : List α) (n : Nat) : (l.take n).length ≤ l.length := by
  rw [List.length_take]
  exact Nat.min_le_right _ _
theorem er_nonneg {i M : Nat} {c : Nat → Int} (h : ∀ j, i < j → j < M → 0 ≤ c j) : ∀ (d : Nat) (s : Sch), OkS i M d s → 0 ≤ er c d s
  | 0, _, o => by cases o
  | _ + 1, .step _ _, _ => by show (0 : Int) ≤ 1; decide
  | d + 1, .all k, o => by
    show 0 ≤ (k.map (er c d)).sum
    have : ∀ s ∈ k, 0 ≤ er c d s := fun s hs => er_nonneg h d s (o.2.2 s hs)
    clear o
    induction k with
    | nil => exact Int.le_refl _
    | cons a r ih =>
      rw [List.map_cons, List.sum_cons]
      have := ih fun s hs => this s (List.mem_cons_of_mem _ hs)
      have := ‹∀ s ∈ a :: r, 0 ≤ er c d s› a List.mem_cons_self
      omega
  | d + 1, .best k, o => by
    show 0 ≤ (k.map (er c d)).sum
    have : ∀ s ∈ k, 0 ≤ er c d s := fun s hs => er_nonneg h d s (o.2.2 s hs)
    clear o
    induction k with
    | nil => exact Int.le_refl _
    | cons a r ih =>
      rw [List.map_cons, List.sum_cons]
      have := ih fun s hs => this s (List.mem_cons_of_mem _ hs)
      have := ‹∀ s ∈ a :: r, 0 ≤ er c d s› a List.mem_cons_self
      omega
  | d + 1, .most _ s, o => er_nonneg h d s o.2
  | d + 1, .half s, o => er_nonneg h d s o
  | d + 1, .seen _ s, o => er_nonneg h d s o.2
  | d + 1, .behind _ s, o => er_nonneg h d s o.2
  | d + 1, .carry s, o => er_nonneg h d s o
  | d + 1, .fin _ _ s, o => by
    have := er_nonneg h d s o.2
    show 0 ≤ 1 + er c d s
    omega
  | _ + 1, .use n, o => h n o.1 o.2
theorem allU_len {α : Type} {f : Sch → Nat → List α} {g : Sch → Int} : ∀ (ks : List Sch) (j : Nat), (∀ s ∈ ks, ∀ j, ((f s j).length : Int) ≤ 9 * g s) → ((allU f ks j).length : Int) ≤ 9 * (ks.map g).sum
  | [], _, _ => by show (0 : Int) ≤ 9 * 0; decide
  | s :: r, j, h => by
    show (((f s j) ++ allU f r (j + 1)).length : Int) ≤ _
    rw [List.map_cons, List.sum_cons, List.length_append]
    have := h s List.mem_cons_self j
    have := allU_len r (j + 1) fun s hs => h s (List.mem_cons_of_mem _ hs)
    omega
theorem bestU_len {α : Type} {f : Sch → Nat → List α} {g : Sch → Int} : ∀ (ks : List Sch) (j : Nat) (acc : List α), (∀ s ∈ ks, ∀ j, ((f s j).length : Int) ≤ 9 * g s) → (∀ s ∈ ks, 0 ≤ g s) → ∀ B : Int, ((acc.length : Int) ≤ 9 * B) → 0 ≤ B → ((bestU f ks j acc).length : Int) ≤ 9 * (B + (ks.map g).sum)
  | [], _, acc, _, _, B, h, hB => by
    show (acc.length : Int) ≤ 9 * (B + 0)
    omega
  | s :: r, j, acc, h, h0, B, hb, hB => by
    show ((bestU f r (j + 1) (if acc.length < (f s j).length then f s j else acc)).length : Int) ≤ _
    rw [List.map_cons, List.sum_cons]
    have a1 := h s List.mem_cons_self j
    have a0 := h0 s List.mem_cons_self
    have := bestU_len r (j + 1) (if acc.length < (f s j).length then f s j else acc) (fun s hs => h s (List.mem_cons_of_mem _ hs)) (fun s hs => h0 s (List.mem_cons_of_mem _ hs)) (B + g s) (by
      split
      · omega
      · omega) (by omega)
    omega
theorem uP_len {ps : List Sch} {ws : List StepT} {ce : Nat → Int} {M : Nat} (hp : ∀ (j : Nat) (s : Sch), ps[j]? = some s → OkS j M 5 s ∧ ce j = er ce 5 s) (h0 : ∀ j, j < M → 0 ≤ ce j) :
    ∀ (k : Nat) (i d : Nat) (s : Sch) (st : Nat) (c : Bool) (wh : List Nat), OkS i M d s → ((uP ps ws k s st c wh).length : Int) ≤ 9 * er ce d s
  | 0, i, d, s, st, c, wh, o => by
    have := er_nonneg (c := ce) (fun j _ hj => h0 j hj) d s o
    show (0 : Int) ≤ _
    omega
  | k + 1, i, 0, s, st, c, wh, o => by cases o
  | k + 1, i, d + 1, .step x p, st, c, wh, o => by
    show ((match hits ws c x st with
      | [] => []
      | i :: _ => List.replicate p.toNat (i, wh)).length : Int) ≤ 9 * 1
    have := o.2.2
    split
    · simp
    · rw [List.length_replicate]
      omega
  | k + 1, i, d + 1, .behind x s, st, c, wh, o => by
    show ((match hits ws c x st with
      | [] => []
      | i :: _ => uP ps ws k s (i + 1) c (wh ++ [0])).length : Int) ≤ 9 * er ce d s
    have := er_nonneg (c := ce) (fun j _ hj => h0 j hj) d s o.2
    split
    · show (0 : Int) ≤ _
      omega
    · exact uP_len hp h0 k i d s _ c _ o.2
  | k + 1, i, d + 1, .use n, st, c, wh, o => by
    show ((match ps[n]? with
      | none => []
      | some s => uP ps ws k s st c (wh ++ [0])).length : Int) ≤ 9 * ce n
    have := h0 n o.2
    split
    · show (0 : Int) ≤ _
      omega
    · rename_i s e
      obtain ⟨o', e'⟩ := hp n s e
      rw [e']
      exact uP_len hp h0 k n 5 s st c _ o'
  | k + 1, i, d + 1, .all ks, st, c, wh, o => allU_len ks 0 fun s hs j => uP_len hp h0 k i d s st c _ (o.2.2 s hs)
  | k + 1, i, d + 1, .best ks, st, c, wh, o => by
    have := bestU_len (f := fun s j => uP ps ws k s st c (wh ++ [j])) (g := er ce d) ks 0 [] (fun s hs j => uP_len hp h0 k i d s st c _ (o.2.2 s hs)) (fun s hs => er_nonneg (c := ce) (fun j _ hj => h0 j hj) d s (o.2.2 s hs)) 0 (by simp) (Int.le_refl _)
    rw [Int.zero_add] at this
    exact this
  | k + 1, i, d + 1, .fin x p s, st, c, wh, o => by
    show ((if lastOk ws c x st = true then List.replicate p.toNat (ws.length - 1, wh) else uP ps ws k s st c (wh ++ [0])).length : Int) ≤ 9 * (1 + er ce d s)
    have := er_nonneg (c := ce) (fun j _ hj => h0 j hj) d s o.2
    have := o.1.2.2
    have := uP_len (ws := ws) hp h0 k i d s st c (wh ++ [0]) o.2
    split
    · rw [List.length_replicate]
      omega
    · omega
  | k + 1, i, d + 1, .seen x s, st, c, wh, o => by
    show ((if (ws.any fun p => p.1 == x) = true then uP ps ws k s st c (wh ++ [0]) else []).length : Int) ≤ 9 * er ce d s
    have := er_nonneg (c := ce) (fun j _ hj => h0 j hj) d s o.2
    split
    · exact uP_len hp h0 k i d s st c _ o.2
    · show (0 : Int) ≤ _
      omega
  | k + 1, i, d + 1, .most n s, st, c, wh, o => by
    have := uP_len (ws := ws) hp h0 k i d s st c (wh ++ [0]) o.2
    have := take_le (uP ps ws k s st c (wh ++ [0])) n.toNat
    show (((uP ps ws k s st c (wh ++ [0])).take n.toNat).length : Int) ≤ 9 * er ce d s
    omega
  | k + 1, i, d + 1, .half s, st, c, wh, o => by
    have := uP_len (ws := ws) hp h0 k i d s st c (wh ++ [0]) o
    have := take_le (uP ps ws k s st c (wh ++ [0])) ((uP ps ws k s st c (wh ++ [0])).length / 2)
    show (((uP ps ws k s st c (wh ++ [0])).take _).length : Int) ≤ 9 * er ce d s
    omega
  | k + 1, i, d + 1, .carry s, st, c, wh, o => uP_len hp h0 k i d s st true (wh ++ [0]) o
end MS
end
section
set_option maxRecDepth 100000
set_option maxHeartbeats 4000000
namespace MS
open PySem L2
abbrev nmUnits : List Str := ["_law_paper_here", "_law_scheme_here", "_law_work_here", "_law_look", "_law_is_carried", "_law_where", "_law_word", "_law_signs", "_law_some", "_law_later", "_law_found", "_law_k", "_law_place", "_law_step_here"]
abbrev psUnits : List Str := ["_law_paper_here", "_law_scheme_here", "_law_work_here", "_law_look", "_law_is_carried", "_law_where"]
/-- the paper, the work, the places looked at -/
structure UCtx (H : Hp) (ps : List Sch) (ws : List StepT) (pa wa la : Addr) (st : Nat) : Prop where
  paper : ∃ pv, H pa = some (.tup pv) ∧ Paired (SAt H 5) ps pv
  work : H wa = some (.lst (stepsV ws))
  look : H la = some (.lst (natV (List.range' st (ws.length - st))))
theorem UCtx.keep {H H' : Hp} {ps : List Sch} {ws : List StepT} {pa wa la : Addr} {st : Nat} (h : UCtx H ps ws pa wa la st) (k : Same H H') : UCtx H' ps ws pa wa la st := by
  obtain ⟨⟨pv, e, p⟩, h2, h3⟩ := h
  exact ⟨⟨pv, k _ _ e, paired_imp p fun s v => SAt.keep (Same.tupK k) _ _ _⟩, k _ _ h2, k _ _ h3⟩
def spUnits (ps : List Sch) (ws : List StepT) (ce : Nat → Int) (M k : Nat) : Sp := fun vs H Q _ => ∃ (pa wa la wr : Addr) (v : V) (c : Bool) (s : Sch) (i d st : Nat) (wh : List Nat), vs = [.ref pa, v, .ref wa, .ref la, .bl c, .ref wr] ∧
  UCtx H ps ws pa wa la st ∧ st ≤ ws.length ∧ SAt H d s v ∧ OkS i M d s ∧ er ce d s ≤ 7 ∧ (M - i) * 5 + d ≤ k ∧ wh.length + k ≤ 100 ∧ H wr = some (.tup (natV wh)) ∧
  ∀ (r : Addr) (uv : List V) (H' : Hp), Same H H' → H r = none → H' r = some (.lst uv) → Paired (UnR H') (uP ps ws k s st c wh) uv → Q (.ref r) H'
theorem strl2 {z : Str} (h : z.length = 2) : z.length ≤ sizeLine := by rw [h]; decide
/-- a test that may make new things -/
theorem seq_new {tc : TT} {t r : TS} {D : Ends} {σ : St} {H : Hp} {b : Bool} (h : ∀ Q : Bool → Hp → Prop, (∀ H', Same H H' → Q b H') → tc σ H Q) (k1 : b = true → ∀ H', Same H H' → t { D with nx := r D } σ H') (k2 : b = false → ∀ H', Same H H' → r D σ H') : tSeq (tIfS tc t tNext) r D σ H := h _ fun H' s => by
  cases b with
  | true => exact iteT (k1 rfl H' s)
  | false => exact iteF (k2 rfl H' s)
theorem in_two {K : PySem.W.Frag} {σ : St} {H : Hp} {i : Nat} {nm x y : Str} {b : Bool} (s : σ[i]? = some (some (.str nm))) (e : inV (.str nm) [.str x, .str y] = b) : ∀ Q : Bool → Hp → Prop, (∀ H', Same H H' → Q b H') → tTest (tOp (rIn K false) (tVar i) (tTup (tCons (tC (.str x)) (tCons (tC (.str y)) tNil)))) σ H Q := fun Q q =>
  ⟨_, s, sz2, fun t ht => ⟨t, _, rfl, .inr (SqT.of upd_same), rfl, rfl, _, rfl, by
    show Q (inV (.str nm) [.str x, .str y]) _
    rw [e]
    exact q _ (Same.new ht)⟩⟩
theorem is_word {σ : St} {H : Hp} {i : Nat} {nm x : Str} {b : Bool} (s : σ[i]? = some (some (.str nm))) (e : (nm == x) = b) : ∀ Q : Bool → Hp → Prop, Q b H → tTest (tOp rEq (tVar i) (tC (.str x))) σ H Q := fun Q q =>
  ⟨_, s, rfl, _, rfl, by rw [dec_str, e]; exact q⟩
def sgL (c : Bool) : List V := cutV [.str "r", .str "c"] none (some (1 + if c then 1 else 0))
theorem sg_in {c : Bool} {m : Str} (h : IsM m) : inV (.str m) (sgL c) = (m == "r" || (c && m == "c")) := by
  have h' : m ∈ marksL := h
  have q : ∀ c : Bool, ∀ y ∈ marksL, inV (.str y) (sgL c) = (y == "r" || (c && y == "c")) := by decide +kernel
  exact q c m h'
theorem sg_flat (c : Bool) : (sgL c).all flatV = true := by cases c <;> rfl
theorem SAt.tag {H : Hp} {d : Nat} {s : Sch} {v : V} (h : SAt H d s v) : ∃ a nm rest, v = V.ref a ∧ H a = some (.tup (.str nm :: rest)) := by
  cases d with
  | zero => cases h
  | succ d =>
    cases s with
    | step x p => obtain ⟨a, e, h⟩ := h; exact ⟨a, _, _, e, h⟩
    | all k => obtain ⟨a, b, vs, e, h, _⟩ := h; exact ⟨a, _, _, e, h⟩
    | best k => obtain ⟨a, b, vs, e, h, _⟩ := h; exact ⟨a, _, _, e, h⟩
    | most n s => obtain ⟨a, u, e, h, _⟩ := h; exact ⟨a, _, _, e, h⟩
    | half s => obtain ⟨a, u, e, h, _⟩ := h; exact ⟨a, _, _, e, h⟩
    | seen x s => obtain ⟨a, u, e, h, _⟩ := h; exact ⟨a, _, _, e, h⟩
    | behind x s => obtain ⟨a, u, e, h, _⟩ := h; exact ⟨a, _, _, e, h⟩
    | carry s => obtain ⟨a, u, e, h, _⟩ := h; exact ⟨a, _, _, e, h⟩
    | fin x p s => obtain ⟨a, u, e, h, _⟩ := h; exact ⟨a, _, _, e, h⟩
    | use n => obtain ⟨a, e, h⟩ := h; exact ⟨a, _, _, e, h⟩
/-- what has one scheme within, but no `behind` -/
structure OneR (H : Hp) (i M d : Nat) (sc : Sch) (nm : Str) (rest : List V) : Prop where
  nb : inV (.str nm) [.str "step", .str "behind"] = false
  nu : (nm == "use") = false
  na : inV (.str nm) [.str "all", .str "best"] = false
  nm5 : nm = "most" ∨ nm = "half" ∨ nm = "seen" ∨ nm = "carry" ∨ nm = "end"
  kid : ∃ u s', atI (.str nm :: rest) (-1) = some u ∧ SAt H d s' u ∧ OkS i M d s' ∧ (nm = "end" → ∃ x p, sc = .fin x p s' ∧ rest = [.str x, .int p, u] ∧ IsW x ∧ 1 ≤ p ∧ p ≤ 9) ∧ (nm = "seen" → ∃ x, sc = .seen x s' ∧ rest = [.str x, u] ∧ IsW x) ∧
    (nm = "most" → ∃ n, sc = .most n s' ∧ rest = [.int n, u] ∧ 0 ≤ n) ∧ (nm = "half" → sc = .half s' ∧ rest = [u]) ∧ (nm = "carry" → sc = .carry s' ∧ rest = [u]) ∧ ∃ x1, atI (.str nm :: rest) 1 = some x1
inductive SKind (H : Hp) (i M d : Nat) : Sch → Str → List V → Prop
  | step {x : Str} {p : Int} (hx : IsW x) (h1 : 1 ≤ p) (h2 : p ≤ 9) : SKind H i M d (.step x p) "step" [.str x, .int p]
  | behind {x : Str} {s : Sch} {u : V} (hx : IsW x) (hs : SAt H d s u) (ho : OkS i M d s) : SKind H i M d (.behind x s) "behind" [.str x, u]
  | use {n : Nat} (h1 : i < n) (h2 : n < M) : SKind H i M d (.use n) "use" [.int ((n : Nat) : Int)]
  | all {ks : List Sch} {b : Addr} {vs : List V} (eb : H b = some (.tup vs)) (hk : Paired (SAt H d) ks vs) (ho : ∀ s ∈ ks, OkS i M d s) (hl : ks.length ≤ 4) : SKind H i M d (.all ks) "all" [.ref b]
  | best {ks : List Sch} {b : Addr} {vs : List V} (eb : H b = some (.tup vs)) (hk : Paired (SAt H d) ks vs) (ho : ∀ s ∈ ks, OkS i M d s) (hl : ks.length ≤ 4) : SKind H i M d (.best ks) "best" [.ref b]
  | one {sc : Sch} {nm : Str} {rest : List V} (h : OneR H i M d sc nm rest) : SKind H i M d sc nm rest
theorem SAt.kind {H : Hp} {i M d : Nat} {sc : Sch} {a : Addr} {nm : Str} {rest : List V} (h : SAt H (d + 1) sc (.ref a)) (o : OkS i M (d + 1) sc) (ea : H a = some (.tup (.str nm :: rest))) : SKind H i M d sc nm rest := by
  have inj : ∀ {a' : Addr} {nm' : Str} {rest' : List V}, (V.ref a = V.ref a') → H a' = some (.tup (.str nm' :: rest')) → nm' = nm ∧ rest' = rest := fun e h => by
    cases e
    rw [ea] at h
    cases h
    exact ⟨rfl, rfl⟩
  cases sc with
  | step x p =>
    obtain ⟨a', e, h⟩ := h
    obtain ⟨rfl, rfl⟩ := inj e h
    exact .step o.1 o.2.1 o.2.2
  | all k =>
    obtain ⟨a', b, vs, e, h, eb, hk⟩ := h
    obtain ⟨rfl, rfl⟩ := inj e h
    exact .all eb hk o.2.2 o.2.1
  | best k =>
    obtain ⟨a', b, vs, e, h, eb, hk⟩ := h
    obtain ⟨rfl, rfl⟩ := inj e h
    exact .best eb hk o.2.2 o.2.1
  | most n s =>
    obtain ⟨a', u, e, h, hs⟩ := h
    obtain ⟨rfl, rfl⟩ := inj e h
    exact .one ⟨by decide +kernel, by decide +kernel, by decide +kernel, .inl rfl, u, s, rfl, hs, o.2, (fun z => absurd z (by decide +kernel)), (fun z => absurd z (by decide +kernel)), fun _ => ⟨n, rfl, rfl, o.1.1⟩, (fun z => absurd z (by decide +kernel)), (fun z => absurd z (by decide +kernel)), _, at1⟩
  | half s =>
    obtain ⟨a', u, e, h, hs⟩ := h
    obtain ⟨rfl, rfl⟩ := inj e h
    exact .one ⟨by decide +kernel, by decide +kernel, by decide +kernel, .inr (.inl rfl), u, s, rfl, hs, o, (fun z => absurd z (by decide +kernel)), (fun z => absurd z (by decide +kernel)), (fun z => absurd z (by decide +kernel)), fun _ => ⟨rfl, rfl⟩, (fun z => absurd z (by decide +kernel)), _, at1⟩
  | seen x s =>
    obtain ⟨a', u, e, h, hs⟩ := h
    obtain ⟨rfl, rfl⟩ := inj e h
    exact .one ⟨by decide +kernel, by decide +kernel, by decide +kernel, .inr (.inr (.inl rfl)), u, s, rfl, hs, o.2, (fun z => absurd z (by decide +kernel)), (fun _ => ⟨x, rfl, rfl, o.1⟩), (fun z => absurd z (by decide +kernel)), (fun z => absurd z (by decide +kernel)), (fun z => absurd z (by decide +kernel)), _, at1⟩
  | behind x s =>
    obtain ⟨a', u, e, h, hs⟩ := h
    obtain ⟨rfl, rfl⟩ := inj e h
    exact .behind o.1 hs o.2
  | carry s =>
    obtain ⟨a', u, e, h, hs⟩ := h
    obtain ⟨rfl, rfl⟩ := inj e h
    exact .one ⟨by decide +kernel, by decide +kernel, by decide +kernel, .inr (.inr (.inr (.inl rfl))), u, s, rfl, hs, o, (fun z => absurd z (by decide +kernel)), (fun z => absurd z (by decide +kernel)), (fun z => absurd z (by decide +kernel)), (fun z => absurd z (by decide +kernel)), fun _ => ⟨rfl, rfl⟩, _, at1⟩
  | fin x p s =>
    obtain ⟨a', u, e, h, hs⟩ := h
    obtain ⟨rfl, rfl⟩ := inj e h
    exact .one ⟨by decide +kernel, by decide +kernel, by decide +kernel, .inr (.inr (.inr (.inr rfl))), u, s, rfl, hs, o.2, (fun _ => ⟨x, p, rfl, rfl, o.1.1, o.1.2.1, o.1.2.2⟩), (fun z => absurd z (by decide +kernel)), (fun z => absurd z (by decide +kernel)), (fun z => absurd z (by decide +kernel)), (fun z => absurd z (by decide +kernel)), _, at1⟩
  | use n =>
    obtain ⟨a', e, h⟩ := h
    obtain ⟨rfl, rfl⟩ := inj e h
    exact .use o.1 o.2
theorem natV_len (l : List Nat) : (natV l).length = l.length := List.length_map _
theorem natV_snoc (l : List Nat) (j : Nat) : natV l ++ [V.int ((j : Nat) : Int)] = natV (l ++ [j]) := by
  unfold natV
  rw [List.map_append]
  rfl
theorem range_after {st n i : Nat} (h1 : st ≤ i) (h2 : i < n) : (List.range' st (n - st)).filter (fun q => decide (i < q)) = List.range' (i + 1) (n - (i + 1)) := by
  have e : List.range' st (n - st) = List.range' st (i + 1 - st) ++ List.range' (i + 1) (n - (i + 1)) := by
    have z := List.range'_append (s := st) (m := i + 1 - st) (n := n - (i + 1)) (step := 1)
    rw [Nat.one_mul, show st + (i + 1 - st) = i + 1 by omega, show i + 1 - st + (n - (i + 1)) = n - st by omega] at z
    exact z.symm
  have e1 : (List.range' st (i + 1 - st)).filter (fun q => decide (i < q)) = [] := List.filter_eq_nil_iff.mpr fun q hq => by
    have := (List.mem_range'_1.mp hq).2
    simp
    omega
  have e2 : (List.range' (i + 1) (n - (i + 1))).filter (fun q => decide (i < q)) = List.range' (i + 1) (n - (i + 1)) := List.filter_eq_self.mpr fun q hq => by
    have := (List.mem_range'_1.mp hq).1
    simp
    omega
  rw [e, List.filter_append, e1, e2, List.nil_append]
theorem hits_in {ws : List StepT} {c : Bool} {x : Str} {st i : Nat} {r : List Nat} (h : hits ws c x st = i :: r) : st ≤ i ∧ i < ws.length := by
  have m : i ∈ hits ws c x st := by rw [h]; exact List.mem_cons_self
  have z := List.mem_range'_1.mp (List.mem_filter.mp m).1
  omega
theorem flat_rep {α : Type} (x : α) : ∀ n : Nat, (List.replicate n [x]).flatten = List.replicate n x
  | 0 => rfl
  | n + 1 => by
    show [x] ++ (List.replicate n [x]).flatten = x :: List.replicate n x
    rw [flat_rep x n]
    rfl
theorem paired_rep {α β : Type} {R : α → β → Prop} {x : α} {y : β} (h : R x y) : ∀ n : Nat, Paired R (List.replicate n x) (List.replicate n y)
  | 0 => .nil
  | n + 1 => .cons h (paired_rep h n)
theorem natV_ints (l : List Nat) : natV l = (l.map fun j : Nat => ((j : Nat) : Int)).map V.int := by
  unfold natV
  rw [List.map_map]
  rfl
theorem ints_nil (ns : List Int) : PyData.eqv (.list (ns.map PyData.int)) (.list []) = ns.isEmpty := by
  cases ns with
  | nil => rfl
  | cons a r => rfl
theorem cat_where {K : PySem.W.Frag} {σ : St} {H : Hp} {wr : Addr} {wh : List Nat} {j : Nat} {te : TE} {Q : VK} (s5 : σ[5]? = some (some (.ref wr))) (ewr : H wr = some (.tup (natV wh))) (hl : wh.length ≤ 200) (ht : ∀ Q : VK, Q (.int ((j : Nat) : Int)) H → te σ H Q)
    (q : ∀ (wr' : Addr) (H' : Hp), Same H H' → H' wr' = some (.tup (natV (wh ++ [j]))) → Q (.ref wr') H') : tOp (rCatA K) (tVar 5) (tTup (tCons te tNil)) σ H Q := by
  refine ⟨_, s5, ht _ ⟨(by show 1 ≤ sizeLine; decide), fun t htn => ⟨wr, t, natV wh, [.int ((j : Nat) : Int)], rfl, rfl, SqT.of (Same.new htn _ _ ewr), SqT.of upd_same, szN (by rw [natV_len]; show wh.length + 1 ≤ 1000; omega), (fun z => ?_), (fun _ z => nomatch z), fun z _ p hp => ?_⟩⟩⟩
  · have z' : wh = [] := List.map_eq_nil_iff.mp z
    subst z'
    exact q t _ (Same.new htn) upd_same
  · exact q p _ ((Same.new htn).trans (Same.new hp)) (by rw [upd_same, natV_snoc])
theorem allU_snoc {α : Type} (f : Sch → Nat → List α) : ∀ (l : List Sch) (s : Sch) (j : Nat), allU f (l ++ [s]) j = allU f l j ++ f s (j + l.length)
  | [], s, j => by
    show f s j ++ [] = [] ++ f s (j + 0)
    rw [List.append_nil]
    rfl
  | a :: l, s, j => by
    show f a j ++ allU f (l ++ [s]) (j + 1) = (f a j ++ allU f l (j + 1)) ++ f s (j + (l.length + 1))
    rw [allU_snoc f l s (j + 1), List.append_assoc, show j + 1 + l.length = j + (l.length + 1) by omega]
theorem bestU_snoc {α : Type} (f : Sch → Nat → List α) : ∀ (l : List Sch) (s : Sch) (j : Nat) (acc : List α), bestU f (l ++ [s]) j acc = if (bestU f l j acc).length < (f s (j + l.length)).length then f s (j + l.length) else bestU f l j acc
  | [], s, j, acc => rfl
  | a :: l, s, j, acc => by
    show bestU f (l ++ [s]) (j + 1) _ = if (bestU f l (j + 1) _).length < (f s (j + (l.length + 1))).length then f s (j + (l.length + 1)) else bestU f l (j + 1) _
    rw [bestU_snoc f l s (j + 1), show j + 1 + l.length = j + (l.length + 1) by omega]
theorem le_sum {l : List Int} (h : ∀ x ∈ l, 0 ≤ x) : ∀ x ∈ l, x ≤ l.sum := by
  induction l with
  | nil => intro x hx; cases hx
  | cons a r ih =>
    intro x hx
    have nn : ∀ {r : List Int}, (∀ x ∈ r, 0 ≤ x) → 0 ≤ r.sum := by
      intro r
      induction r with
      | nil => intro _; exact Int.le_refl _
      | cons b t ih2 =>
        intro h2
        have := ih2 fun x hx => h2 x (List.mem_cons_of_mem _ hx)
        have := h2 b List.mem_cons_self
        rw [List.sum_cons]
        omega
    have n1 := nn fun x hx => h x (List.mem_cons_of_mem _ hx)
    rw [List.sum_cons]
    rcases List.mem_cons.mp hx with rfl | hx
    · omega
    · have := ih (fun x hx => h x (List.mem_cons_of_mem _ hx)) x hx
      have := h a List.mem_cons_self
      omega
theorem ev_and_new {t u : TT} {σ : St} {H : Hp} {b c : Bool} (h1 : ∀ Q : Bool → Hp → Prop, (∀ H', Same H H' → Q b H') → t σ H Q) (h2 : b = true → ∀ H', Same H H' → ∀ Q : Bool → Hp → Prop, (∀ H'', Same H' H'' → Q c H'') → u σ H' Q) :
    ∀ Q : Bool → Hp → Prop, (∀ H', Same H H' → Q (b && c) H') → tAnd t u σ H Q := fun Q q => h1 _ fun H' s => by
  cases b with
  | true => exact iteT (h2 rfl H' s _ fun H'' s'' => q H'' (s.trans s''))
  | false => exact iteF (q H' s)
theorem seq_to {C : Prop} {tc : TT} {t r : TS} {D : Ends} {σ : St} {H : Hp} {b : Bool} (h : ∀ Q : Bool → Hp → Prop, (∀ H', Same H H' → Q b H') → tc σ H Q) (k1 : b = true → ∀ H', Same H H' → (C → ∀ H'', Same H H'' → r D σ H'') → t { D with nx := r D } σ H') (k2 : b = false → C)
    (rest : C → ∀ H', Same H H' → r D σ H') : tSeq (tIfS tc t tNext) r D σ H := seq_new h (fun e H' s => k1 e H' s rest) (fun e H' s => rest (k2 e) H' s)
theorem to_new {t : TT} {σ : St} {H H0 : Hp} {b : Bool} (s : Same H0 H) (h : ∀ Q : Bool → Hp → Prop, Q b H → t σ H Q) : ∀ Q : Bool → Hp → Prop, (∀ H', Same H0 H' → Q b H') → t σ H Q := fun Q q => h Q (q H s)
theorem range_last {st n : Nat} (h : st < n) : List.range' st (n - st) = List.range' st (n - st - 1) ++ [n - 1] := by
  have e : n - st = (n - st - 1) + 1 := by omega
  have z := List.range'_concat (s := st) (n := n - st - 1) (step := 1)
  rw [← e, Nat.one_mul, show st + (n - st - 1) = n - 1 by omega] at z
  exact z
theorem paired_app {α β : Type} {R : α → β → Prop} {as cs : List α} {bs ds : List β} (h : Paired R as bs) (g : Paired R cs ds) : Paired R (as ++ cs) (bs ++ ds) := by
  induction h with
  | nil => exact g
  | cons r _ ih => exact .cons r ih
theorem in_words (x : Str) (ws : List StepT) : inV (.str x) (ws.map fun p : StepT => V.str p.1) = ws.any fun p => p.1 == x := by
  unfold inV
  rw [List.any_map]
  rfl
theorem or_carry {σ : St} {H : Hp} {c : Bool} {nm : Str} {Q : VK} (s4 : σ[4]? = some (some (.bl c))) (s6 : σ[6]? = some (some (.str nm))) (q : Q (.bl (c || nm == "carry")) H) : tOrV (tVar 4) (tOp rEq (tVar 6) (tC (.str "carry"))) σ H Q :=
  ⟨_, s4, c, rfl, by
    cases c with
    | true => exact iteT q
    | false => exact iteF ⟨_, s6, rfl, by rw [dec_str]; exact q⟩⟩
theorem look_last {st n : Nat} (h : st < n) : atI (natV (List.range' st (n - st))) (-1) = some (V.int ((n - 1 : Nat) : Int)) := by
  rw [range_last h, ← natV_snoc]
  exact atI_last _ _
theorem last_get {ws : List StepT} (h : 0 < ws.length) : ws.getLast? = some (ws[ws.length - 1]'(by omega)) := by
  rw [List.getLast?_eq_getElem?, List.getElem?_eq_getElem (by omega)]
theorem steps_last {ws : List StepT} (h : 0 < ws.length) : atI (stepsV ws) (-1) = some (V.str (stepS (ws[ws.length - 1]'(by omega)))) := by
  have hl : (stepsV ws).length = ws.length := List.length_map _
  unfold atI ixN
  rw [hl, if_neg (by decide), if_pos (by omega), show ((-1 : Int) + (ws.length : Int)).toNat = ws.length - 1 by omega]
  exact get_map (fun p => V.str (stepS p)) ws (by omega)
def seenW : Sch → Str
  | .seen x _ => x
  | _ => ""
theorem get_most {x y : V} : valV (mergeK [] [((.inr "most" : Key), x), (.inr "half", y)]) (.inr "most") = some x := by
  have h1 : ((.inr "most" : Key) = .inr "half") = False := by simp; decide +kernel
  have h2 : ((.inr "half" : Key) = .inr "most") = False := by simp; decide +kernel
  simp [mergeK, putK, valV, h1, h2]
theorem get_half {x y : V} : valV (mergeK [] [((.inr "most" : Key), x), (.inr "half", y)]) (.inr "half") = some y := by
  have h1 : ((.inr "most" : Key) = .inr "half") = False := by simp; decide +kernel
  have h2 : ((.inr "half" : Key) = .inr "most") = False := by simp; decide +kernel
  simp [mergeK, putK, valV, h1, h2]
theorem get_none {x y : V} {nm : Str} (n1 : ("most" : Str) ≠ nm) (n2 : ("half" : Str) ≠ nm) : valV (mergeK [] [((.inr "most" : Key), x), (.inr "half", y)]) (.inr nm) = none := by
  have h1 : ((.inr "most" : Key) = .inr "half") = False := by simp; decide +kernel
  have h3 : ((.inr "most" : Key) = .inr nm) = False := by simpa using n1
  have h4 : ((.inr "half" : Key) = .inr nm) = False := by simpa using n2
  simp [mergeK, putK, valV, h1, h3, h4]
section
variable {P : Program} {w : World} {K : PySem.W.Frag} {mg : Str → Option Value} {base : Heap}
end
end MS
end
section
set_option maxRecDepth 100000
set_option maxHeartbeats 4000000
namespace MS
open PySem L2
theorem rg_nat (n : Nat) : rgV 0 (n : Int) = natV (List.range' 0 n) := by
  unfold rgV natV
  rw [show ((n : Int) - 0).toNat = n by omega, List.range_eq_range']
  refine List.map_congr_left fun i _ => ?_
  rw [Int.zero_add]
theorem PaperOk.facts {ps : List Sch} (h : PaperOk ps) : ∃ ce : Nat → Int, (∀ (j : Nat) (s : Sch), ps[j]? = some s → OkS j ps.length 5 s ∧ ce j = er ce 5 s) ∧ (∀ j, j < ps.length → 0 ≤ ce j) ∧ ∀ j, j < ps.length → ce j ≤ 7 := by
  obtain ⟨_, _, ce, cw, t⟩ := h
  have hp : ∀ (j : Nat) (s : Sch), ps[j]? = some s → OkS j ps.length 5 s ∧ ce j = er ce 5 s := fun j s e => by
    obtain ⟨q1, q2, _⟩ := t j s e
    rw [Nat.zero_add] at q1 q2
    exact ⟨q1, q2⟩
  have h0 : ∀ n j, ps.length - j ≤ n → j < ps.length → 0 ≤ ce j := by
    intro n
    induction n with
    | zero => intro j a b; omega
    | succ n ih =>
      intro j a b
      obtain ⟨o, e⟩ := hp j _ (List.getElem?_eq_getElem b)
      rw [e]
      exact er_nonneg (fun j' h1 h2 => ih j' (by omega) h2) 5 _ o
  refine ⟨ce, hp, fun j hj => h0 _ j (Nat.le_refl _) hj, fun j hj => ?_⟩
  obtain ⟨_, q2, _, _, q5, _⟩ := t j _ (List.getElem?_eq_getElem hj)
  rw [Nat.zero_add] at q2
  rw [q2]
  exact q5
/-- a paper, a work -/
structure PWAt (H : Hp) (ps : List Sch) (ws : List StepT) (pa wa : Addr) : Prop where
  paper : ∃ pv, H pa = some (.tup pv) ∧ Paired (SAt H 5) ps pv
  work : H wa = some (.lst (stepsV ws))
theorem PWAt.keep {H H' : Hp} {ps : List Sch} {ws : List StepT} {pa wa : Addr} (h : PWAt H ps ws pa wa) (k : Same H H') : PWAt H' ps ws pa wa := by
  obtain ⟨⟨pv, e, p⟩, h2⟩ := h
  exact ⟨⟨pv, k _ _ e, paired_imp p fun s v => SAt.keep (Same.tupK k) _ _ _⟩, k _ _ h2⟩
/-- all that is earned, point by point -/
def uAll (ps : List Sch) (ws : List StepT) : List Un := match ps with
  | [] => []
  | s :: _ => uP ps ws 30 s 0 false []
/-- the rows of points -/
abbrev Row := Nat × Nat × List Nat
def addU (acc : List Row) (u : Un) : List Row := match acc.getLast? with
  | some (_, n, wh) => if wh = u.2 then acc.dropLast ++ [(u.1, n + 1, u.2)] else acc ++ [(u.1, 1, u.2)]
  | none => [(u.1, 1, u.2)]
def eP (us : List Un) : List Row := us.foldl addU []
def RowR (H : Hp) (u : Row) (v : V) : Prop := ∃ a b, v = V.ref a ∧ H a = some (.tup [.int ((u.1 : Nat) : Int), .int ((u.2.1 : Nat) : Int), .ref b]) ∧ H b = some (.tup (natV u.2.2))
theorem RowR.keep {H H' : Hp} {u : Row} {v : V} (h : RowR H u v) (k : TupK H H') : RowR H' u v := by
  obtain ⟨a, b, e, h1, h2⟩ := h
  exact ⟨a, b, e, k _ _ h1, k _ _ h2⟩
def spMarks (ps : List Sch) (ws : List StepT) : Sp := fun vs H Q _ => ∃ pa wa, vs = [.ref pa, .ref wa] ∧ PWAt H ps ws pa wa ∧ ∀ H', Same H H' → Q (.int (((uAll ps ws).length : Nat) : Int)) H'
def spEarned (ps : List Sch) (ws : List StepT) : Sp := fun vs H Q _ => ∃ pa wa, vs = [.ref pa, .ref wa] ∧ PWAt H ps ws pa wa ∧ ∀ (f : Addr) (rv : List V) (H' : Hp), Same H H' → H f = none → H' f = some (.lst rv) → Paired (RowR H') (eP (uAll ps ws)) rv → Q (.ref f) H'
theorem one_new {tc : TT} {t u : TS} {D : Ends} {σ : St} {H : Hp} {b : Bool} (h : ∀ Q : Bool → Hp → Prop, (∀ H', Same H H' → Q b H') → tc σ H Q) (k1 : b = true → ∀ H', Same H H' → t D σ H') (k2 : b = false → ∀ H', Same H H' → u D σ H') : tIfS tc t u D σ H := h _ fun H' s => by
  cases b with
  | true => exact iteT (k1 rfl H' s)
  | false => exact iteF (k2 rfl H' s)
theorem list_nil (ds : List PyData) : PyData.eqv (.list ds) (.list []) = ds.isEmpty := by
  cases ds with
  | nil => simp only [PyData.eqv, PyData.eqvAll]; rfl
  | cons a r => simp only [PyData.eqv, PyData.eqvAll]; rfl
def natD (l : List Nat) : List PyData := l.map fun j : Nat => PyData.int ((j : Nat) : Int)
theorem natD_eqvAll : ∀ l m : List Nat, PyData.eqvAll (natD l) (natD m) = decide (l = m)
  | [], [] => by show PyData.eqvAll [] [] = _; simp only [PyData.eqvAll]; rfl
  | [], b :: m => by show PyData.eqvAll [] (_ :: _) = _; simp only [PyData.eqvAll]; rfl
  | a :: l, [] => by show PyData.eqvAll (_ :: _) [] = _; simp only [PyData.eqvAll]; rfl
  | a :: l, b :: m => by
    have ih := natD_eqvAll l m
    show PyData.eqvAll (PyData.int ((a : Nat) : Int) :: natD l) (PyData.int ((b : Nat) : Int) :: natD m) = _
    simp only [PyData.eqvAll, PyData.eqv, ih]
    by_cases h1 : a = b
    · subst h1
      by_cases h2 : l = m
      · subst h2; simp
      · simp [h2]
    · have : ((a : Nat) : Int) ≠ ((b : Nat) : Int) := by omega
      simp [h1, this]
theorem natD_eqv (l m : List Nat) : PyData.eqv (.tuple (natD l)) (.tuple (natD m)) = decide (l = m) := by
  simp only [PyData.eqv]
  exact natD_eqvAll l m
theorem natD_sh (n : Nat) (l : List Nat) : ShAll n (natD l) := ShAll.of fun d h => by
  obtain ⟨i, _, rfl⟩ := List.mem_map.mp h
  exact .int _
theorem natD_dp {K : PySem.W.Frag} {H : Hp} : ∀ l : List Nat, DpAll K H (natV l) (natD l)
  | [] => .nil
  | n :: r => .cons (.int _) (natD_dp r)
def rowD (r : Row) : PyData := .tuple [.int ((r.1 : Nat) : Int), .int ((r.2.1 : Nat) : Int), .tuple (natD r.2.2)]
theorem rowD_sh (r : Row) : ShN 2 (rowD r) := .tup (.cons (.int _) (.cons (.int _) (.cons (.tup (natD_sh 0 _)) .nil)))
theorem rows_sh (rs : List Row) : ShN 3 (.list (rs.map rowD)) := .lst (ShAll.of fun d h => by
  obtain ⟨r, _, rfl⟩ := List.mem_map.mp h
  exact rowD_sh r)
theorem rows_dp {K : PySem.W.Frag} {H : Hp} : ∀ {rs : List Row} {rv : List V}, Paired (RowR H) rs rv → DpAll K H rv (rs.map rowD)
  | _, _, .nil => .nil
  | _, _, .cons h t => by
    obtain ⟨a, b, rfl, h1, h2⟩ := h
    exact .cons (.tup (SqT.of h1) (.cons (.int _) (.cons (.int _) (.cons (.tup (SqT.of h2) (natD_dp _)) .nil)))) (rows_dp t)
theorem paired_snoc_inv {α β : Type} {R : α → β → Prop} : ∀ {xs : List α} {x : α} {ys : List β}, Paired R (xs ++ [x]) ys → ∃ ys' y, ys = ys' ++ [y] ∧ Paired R xs ys' ∧ R x y
  | [], x, _, .cons h .nil => ⟨[], _, rfl, .nil, h⟩
  | a :: xs, x, _, .cons h t => by
    obtain ⟨ys', y, e, h1, h2⟩ := paired_snoc_inv t
    exact ⟨_ :: ys', y, by rw [e]; rfl, .cons h h1, h2⟩
theorem last_set (xs : List V) (x y : V) : (xs ++ [x]).set xs.length y = xs ++ [y] := by
  rw [List.set_append_right _ _ (Nat.le_refl _), Nat.sub_self]
  rfl
theorem ixN_last {n : Nat} : ixN (n + 1) (-1) = some n := by
  unfold ixN
  rw [if_neg (by decide), if_pos (by omega)]
  congr 1
  omega
theorem addU_len (acc : List Row) (u : Un) : (addU acc u).length ≤ acc.length + 1 := by
  unfold addU
  split
  · split
    · rw [List.length_append, List.length_dropLast, List.length_singleton]
      omega
    · simp
  · simp
def sameW (acc : List Row) (u : Un) : Bool := match acc.getLast? with
  | some r => decide (r.2.2 = u.2)
  | none => false
theorem sameW_snoc (ini : List Row) (r : Row) (u : Un) : sameW (ini ++ [r]) u = decide (r.2.2 = u.2) := by
  unfold sameW
  rw [show (ini ++ [r]).getLast? = some r by simp]
theorem addU_same (ini : List Row) (r : Row) (u : Un) (h : r.2.2 = u.2) : addU (ini ++ [r]) u = ini ++ [(u.1, r.2.1 + 1, u.2)] := by
  unfold addU
  rw [show (ini ++ [r]).getLast? = some r by simp]
  obtain ⟨a, b, c⟩ := r
  show (if c = u.2 then _ else _) = _
  rw [if_pos h]
  simp
theorem addU_else (acc : List Row) (u : Un) (h : ((!acc.isEmpty) && sameW acc u) = false) : addU acc u = acc ++ [(u.1, 1, u.2)] := by
  rcases List.eq_nil_or_concat acc with rfl | ⟨ini, r, rfl⟩
  · rfl
  · rw [List.concat_eq_append] at h ⊢
    rw [sameW_snoc] at h
    have h2 : r.2.2 ≠ u.2 := fun z => by
      rw [z, decide_eq_true rfl, Bool.and_true] at h
      cases ini <;> cases h
    unfold addU
    rw [show (ini ++ [r]).getLast? = some r by simp]
    obtain ⟨a, b, c⟩ := r
    show (if c = u.2 then _ else _) = _
    rw [if_neg h2]
section
variable {P : Program} {w : World} {K : PySem.W.Frag} {mg : Str → Option Value} {base : Heap}
end
end MS
end
section
set_option maxRecDepth 100000
set_option maxHeartbeats 4000000
namespace MS
open PySem L2
/-! ### the words of a scheme -/
def wP (ps : List Sch) : Nat → Sch → List Str
  | 0, _ => []
  | _ + 1, .step x _ => [x]
  | k + 1, .seen x s => x :: wP ps k s
  | k + 1, .behind x s => x :: wP ps k s
  | k + 1, .fin x _ s => x :: wP ps k s
  | k + 1, .most _ s => wP ps k s
  | k + 1, .half s => wP ps k s
  | k + 1, .carry s => wP ps k s
  | k + 1, .all ks => (ks.map (wP ps k)).flatten
  | k + 1, .best ks => (ks.map (wP ps k)).flatten
  | k + 1, .use n => match ps[n]? with
    | none => []
    | some s => wP ps k s
theorem wr_nonneg {i M : Nat} {c : Nat → Int} (h : ∀ j, i < j → j < M → 0 ≤ c j) : ∀ (d : Nat) (s : Sch), OkS i M d s → 0 ≤ wr c d s
  | 0, _, o => by cases o
  | _ + 1, .step _ _, _ => by show (0 : Int) ≤ 0; decide
  | d + 1, .all k, o => by
    show 0 ≤ (k.map (wr c d)).sum
    have : ∀ s ∈ k, 0 ≤ wr c d s := fun s hs => wr_nonneg h d s (o.2.2 s hs)
    clear o
    induction k with
    | nil => exact Int.le_refl _
    | cons a r ih =>
      rw [List.map_cons, List.sum_cons]
      have := ih fun s hs => this s (List.mem_cons_of_mem _ hs)
      have := ‹∀ s ∈ a :: r, 0 ≤ wr c d s› a List.mem_cons_self
      omega
  | d + 1, .best k, o => by
    show 0 ≤ (k.map (wr c d)).sum
    have : ∀ s ∈ k, 0 ≤ wr c d s := fun s hs => wr_nonneg h d s (o.2.2 s hs)
    clear o
    induction k with
    | nil => exact Int.le_refl _
    | cons a r ih =>
      rw [List.map_cons, List.sum_cons]
      have := ih fun s hs => this s (List.mem_cons_of_mem _ hs)
      have := ‹∀ s ∈ a :: r, 0 ≤ wr c d s› a List.mem_cons_self
      omega
  | d + 1, .most _ s, o => wr_nonneg h d s o.2
  | d + 1, .half s, o => wr_nonneg h d s o
  | d + 1, .seen _ s, o => by
    have := wr_nonneg h d s o.2
    show 0 ≤ 1 + wr c d s
    omega
  | d + 1, .behind _ s, o => by
    have := wr_nonneg h d s o.2
    show 0 ≤ 1 + wr c d s
    omega
  | d + 1, .carry s, o => wr_nonneg h d s o
  | d + 1, .fin _ _ s, o => wr_nonneg h d s o.2
  | _ + 1, .use n, o => h n o.1 o.2
/-- its words, the schemes within -/
structure WV (H : Hp) (i M d : Nat) (ps : List Sch) (k : Nat) (sc : Sch) (nm : Str) (rest : List V) (pre : List Str) (ks : List Sch) (kv : List V) : Prop where
  nu : (nm == "use") = false
  eq : wP ps (k + 1) sc = pre ++ (ks.map (wP ps k)).flatten
  pl : pre.length ≤ 1
  kl : ks.length ≤ 4
  ok : ∀ s ∈ ks, OkS i M d s
  at_ : Paired (SAt H d) ks kv
  w1 : inV (.str nm) [.str "step", .str "seen", .str "behind", .str "end"] = true → ∃ x, pre = [x] ∧ atI (.str nm :: rest) 1 = some (.str x)
  w0 : inV (.str nm) [.str "step", .str "seen", .str "behind", .str "end"] = false → pre = []
  k2 : inV (.str nm) [.str "all", .str "best"] = true → ∃ b, atI (.str nm :: rest) 1 = some (.ref b) ∧ H b = some (.tup kv)
  k1 : inV (.str nm) [.str "all", .str "best"] = false → nm ≠ "step" → ∃ u, atI (.str nm :: rest) (-1) = some u ∧ kv = [u]
  k0 : nm = "step" → kv = []
theorem SKind.words {H : Hp} {i M d : Nat} {ps : List Sch} {k : Nat} {sc : Sch} {nm : Str} {rest : List V} (h : SKind H i M d sc nm rest) : (∃ n : Nat, rest = [.int ((n : Nat) : Int)] ∧ sc = .use n ∧ nm = "use" ∧ i < n ∧ n < M) ∨ ∃ pre ks kv, WV H i M d ps k sc nm rest pre ks kv := by
  cases h with
  | @step x p hx _ _ => exact .inr ⟨[x], [], [], by decide +kernel, rfl, by simp, by simp, (fun s h => nomatch h), .nil, fun _ => ⟨x, rfl, at1⟩, (fun z => absurd z (by decide +kernel)), (fun z => absurd z (by decide +kernel)), fun _ z => absurd rfl z, fun _ => rfl⟩
  | @behind x s u hx hs ho => exact .inr ⟨[x], [s], [u], by decide +kernel, by show x :: wP ps k s = [x] ++ (wP ps k s ++ []); rw [List.append_nil]; rfl, by simp, by simp, (fun s' h' => by rw [List.mem_singleton.mp h']; exact ho), .cons hs .nil, fun _ => ⟨x, rfl, at1⟩, (fun z => absurd z (by decide +kernel)), (fun z => absurd z (by decide +kernel)), fun _ _ => ⟨u, rfl, rfl⟩, (fun z => absurd z (by decide +kernel))⟩
  | use h1 h2 => exact .inl ⟨_, rfl, rfl, rfl, h1, h2⟩
  | @all ks b vs eb hk ho hl => exact .inr ⟨[], ks, vs, by decide +kernel, rfl, by simp, hl, ho, hk, (fun z => absurd z (by decide +kernel)), fun _ => rfl, fun _ => ⟨b, at1, eb⟩, (fun z => absurd z (by decide +kernel)), (fun z => absurd z (by decide +kernel))⟩
  | @best ks b vs eb hk ho hl => exact .inr ⟨[], ks, vs, by decide +kernel, rfl, by simp, hl, ho, hk, (fun z => absurd z (by decide +kernel)), fun _ => rfl, fun _ => ⟨b, at1, eb⟩, (fun z => absurd z (by decide +kernel)), (fun z => absurd z (by decide +kernel))⟩
  | one h =>
    obtain ⟨u, s', hlast, hs', ho', c5, c6, cm, chh, cc, x1, ex1⟩ := h.kid
    have nst : nm ≠ "step" := fun e => by
      have := h.nb
      rw [e] at this
      exact absurd this (by decide +kernel)
    have a1 : ∀ s ∈ [s'], OkS i M d s := fun s h' => by rw [List.mem_singleton.mp h']; exact ho'
    rcases h.nm5 with e | e | e | e | e
    · obtain ⟨n, hsc, hre, _⟩ := cm e
      exact .inr ⟨[], [s'], [u], h.nu, by rw [hsc]; show wP ps k s' = [] ++ (wP ps k s' ++ []); rw [List.append_nil]; rfl, by simp, by simp, a1, .cons hs' .nil, (fun z => by rw [e] at z; exact absurd z (by decide +kernel)), fun _ => rfl, (fun z => by rw [h.na] at z; cases z), fun _ _ => ⟨u, hlast, rfl⟩, fun z => absurd z nst⟩
    · obtain ⟨hsc, hre⟩ := chh e
      exact .inr ⟨[], [s'], [u], h.nu, by rw [hsc]; show wP ps k s' = [] ++ (wP ps k s' ++ []); rw [List.append_nil]; rfl, by simp, by simp, a1, .cons hs' .nil, (fun z => by rw [e] at z; exact absurd z (by decide +kernel)), fun _ => rfl, (fun z => by rw [h.na] at z; cases z), fun _ _ => ⟨u, hlast, rfl⟩, fun z => absurd z nst⟩
    · obtain ⟨x, hsc, hre, hx⟩ := c6 e
      exact .inr ⟨[x], [s'], [u], h.nu, by rw [hsc]; show x :: wP ps k s' = [x] ++ (wP ps k s' ++ []); rw [List.append_nil]; rfl, by simp, by simp, a1, .cons hs' .nil, fun _ => ⟨x, rfl, by rw [hre]; exact at1⟩, (fun z => by rw [e] at z; exact absurd z (by decide +kernel)), (fun z => by rw [h.na] at z; cases z), fun _ _ => ⟨u, hlast, rfl⟩, fun z => absurd z nst⟩
    · obtain ⟨hsc, hre⟩ := cc e
      exact .inr ⟨[], [s'], [u], h.nu, by rw [hsc]; show wP ps k s' = [] ++ (wP ps k s' ++ []); rw [List.append_nil]; rfl, by simp, by simp, a1, .cons hs' .nil, (fun z => by rw [e] at z; exact absurd z (by decide +kernel)), fun _ => rfl, (fun z => by rw [h.na] at z; cases z), fun _ _ => ⟨u, hlast, rfl⟩, fun z => absurd z nst⟩
    · obtain ⟨x, p, hsc, hre, hx, _⟩ := c5 e
      exact .inr ⟨[x], [s'], [u], h.nu, by rw [hsc]; show x :: wP ps k s' = [x] ++ (wP ps k s' ++ []); rw [List.append_nil]; rfl, by simp, by simp, a1, .cons hs' .nil, fun _ => ⟨x, rfl, by rw [hre]; exact at1⟩, (fun z => by rw [e] at z; exact absurd z (by decide +kernel)), (fun z => by rw [h.na] at z; cases z), fun _ _ => ⟨u, hlast, rfl⟩, fun z => absurd z nst⟩
theorem flat_len {g : Sch → Int} {f : Sch → List Str} : ∀ (ks : List Sch), (∀ s ∈ ks, ((f s).length : Int) ≤ g s) → (((ks.map f).flatten).length : Int) ≤ (ks.map g).sum
  | [], _ => Int.le_refl _
  | s :: r, h => by
    rw [List.map_cons, List.flatten_cons, List.length_append, List.map_cons, List.sum_cons]
    have := h s List.mem_cons_self
    have := flat_len r fun s hs => h s (List.mem_cons_of_mem _ hs)
    omega
theorem sum_two {g h : Sch → Int} : ∀ (ks : List Sch), (ks.map fun s => g s + h s).sum = (ks.map g).sum + (ks.map h).sum
  | [] => rfl
  | s :: r => by
    rw [List.map_cons, List.sum_cons, List.map_cons, List.sum_cons, List.map_cons, List.sum_cons, sum_two r]
    omega
theorem wP_len {ps : List Sch} {ce cw : Nat → Int} {M : Nat} (hp : ∀ (j : Nat) (s : Sch), ps[j]? = some s → OkS j M 5 s ∧ ce j = er ce 5 s ∧ cw j = wr cw 5 s) (h0 : ∀ j, j < M → 0 ≤ ce j) (h1 : ∀ j, j < M → 0 ≤ cw j) :
    ∀ (k : Nat) (i d : Nat) (s : Sch), OkS i M d s → ((wP ps k s).length : Int) ≤ er ce d s + wr cw d s
  | 0, i, d, s, o => by
    have := er_nonneg (c := ce) (fun j _ hj => h0 j hj) d s o
    have := wr_nonneg (c := cw) (fun j _ hj => h1 j hj) d s o
    show (0 : Int) ≤ _
    omega
  | k + 1, i, 0, s, o => by cases o
  | k + 1, i, d + 1, .step x p, o => by show (1 : Int) ≤ 1 + 0; decide
  | k + 1, i, d + 1, .behind x s, o => by
    have := wP_len hp h0 h1 k i d s o.2
    show (((x :: wP ps k s).length : Nat) : Int) ≤ er ce d s + (1 + wr cw d s)
    rw [List.length_cons]
    omega
  | k + 1, i, d + 1, .seen x s, o => by
    have := wP_len hp h0 h1 k i d s o.2
    show (((x :: wP ps k s).length : Nat) : Int) ≤ er ce d s + (1 + wr cw d s)
    rw [List.length_cons]
    omega
  | k + 1, i, d + 1, .fin x p s, o => by
    have := wP_len hp h0 h1 k i d s o.2
    show (((x :: wP ps k s).length : Nat) : Int) ≤ (1 + er ce d s) + wr cw d s
    rw [List.length_cons]
    omega
  | k + 1, i, d + 1, .use n, o => by
    show ((match ps[n]? with
      | none => []
      | some s => wP ps k s).length : Int) ≤ ce n + cw n
    have := h0 n o.2
    have := h1 n o.2
    split
    · show (0 : Int) ≤ _
      omega
    · rename_i s e
      obtain ⟨o', e1, e2⟩ := hp n s e
      rw [e1, e2]
      exact wP_len hp h0 h1 k n 5 s o'
  | k + 1, i, d + 1, .all ks, o => by
    have := flat_len (f := wP ps k) (g := fun s => er ce d s + wr cw d s) ks fun s hs => wP_len hp h0 h1 k i d s (o.2.2 s hs)
    rw [sum_two] at this
    exact this
  | k + 1, i, d + 1, .best ks, o => by
    have := flat_len (f := wP ps k) (g := fun s => er ce d s + wr cw d s) ks fun s hs => wP_len hp h0 h1 k i d s (o.2.2 s hs)
    rw [sum_two] at this
    exact this
  | k + 1, i, d + 1, .most n s, o => wP_len hp h0 h1 k i d s o.2
  | k + 1, i, d + 1, .half s, o => wP_len hp h0 h1 k i d s o
  | k + 1, i, d + 1, .carry s, o => wP_len hp h0 h1 k i d s o
def spWords (ps : List Sch) (M k : Nat) : Sp := fun vs H Q _ => ∃ (pa : Addr) (v : V) (s : Sch) (i d : Nat), vs = [.ref pa, v] ∧ (∃ pv, H pa = some (.tup pv) ∧ Paired (SAt H 5) ps pv) ∧ SAt H d s v ∧ OkS i M d s ∧ (M - i) * 5 + d ≤ k ∧ (wP ps k s).length ≤ 100 ∧
  ∀ (f : Addr) (H' : Hp), Same H H' → H f = none → H' f = some (.lst ((wP ps k s).map V.str)) → Q (.ref f) H'
abbrev psWords : List Str := ["_law_paper_here", "_law_scheme_here"]
theorem flat_split {f : Sch → List Str} : ∀ (ks : List Sch) (j : Nat) (s : Sch), ks[j]? = some s → (((ks.take j).map f).flatten).length + (f s).length ≤ ((ks.map f).flatten).length
  | [], _, _, h => by simp at h
  | a :: r, 0, s, h => by
    obtain rfl : a = s := by simpa using h
    rw [List.map_cons, List.flatten_cons, List.length_append]
    show 0 + _ ≤ _
    omega
  | a :: r, j + 1, s, h => by
    have ih := flat_split (f := f) r j s (by simpa using h)
    rw [List.take_succ_cons, List.map_cons, List.flatten_cons, List.length_append, List.map_cons, List.flatten_cons, List.length_append]
    omega
theorem found_if {σ : St} {H1 : Hp} {Q : VK} {b : Bool} {ta : TA} {pre : List V} (h1 : b = true → ∀ R : List V → Hp → Prop, R pre H1 → ta σ H1 R) (h2 : b = false → pre = []) (lp : pre.length ≤ 1000) (c : ∀ f, H1 f = none → Q (.ref f) (upd H1 f (.lst pre))) : if b = true then tLst ta σ H1 Q else tLst tNil σ H1 Q := by
  cases b with
  | true => exact iteT (h1 rfl _ ⟨szN lp, c⟩)
  | false =>
    have e := h2 rfl
    subst e
    exact iteF ⟨Nat.zero_le _, c⟩
theorem kids_if {σ : St} {H1 : Hp} {Q : VK} {b : Bool} {t1 t2 : TE} {kv : List V} (h1 : b = true → ∀ R : VK, (∀ l, H1 l = none → R (.ref l) (upd H1 l (.lst kv))) → t1 σ H1 R) (h2 : b = false → ∀ R : VK, (∀ l, H1 l = none → R (.ref l) (upd H1 l (.lst kv))) → t2 σ H1 R)
    (c : ∀ l, H1 l = none → Q (.ref l) (upd H1 l (.lst kv))) : if b = true then t1 σ H1 Q else t2 σ H1 Q := by
  cases b with
  | true => exact iteT (h1 rfl _ c)
  | false => exact iteF (h2 rfl _ c)
section
variable {P : Program} {w : World} {K : PySem.W.Frag} {mg : Str → Option Value} {base : Heap}
end
section
variable {P : Program} {w : World} {K : PySem.W.Frag} {mg : Str → Option Value} {base : Heap}
end
/-- the words of a paper that can be are few -/
theorem wAll_len {ps : List Sch} (h : PaperOk ps) {s : Sch} {j : Nat} (e : ps[j]? = some s) (k : Nat) : (wP ps k s).length ≤ 10 := by
  obtain ⟨_, _, ce, cw, t⟩ := h
  have hp : ∀ (j : Nat) (s : Sch), ps[j]? = some s → OkS j ps.length 5 s ∧ ce j = er ce 5 s ∧ cw j = wr cw 5 s := fun j s e => by
    obtain ⟨q1, q2, q3, _⟩ := t j s e
    rw [Nat.zero_add] at q1 q2 q3
    exact ⟨q1, q2, q3⟩
  have h0 : ∀ n j, ps.length - j ≤ n → j < ps.length → 0 ≤ ce j ∧ 0 ≤ cw j := by
    intro n
    induction n with
    | zero => intro j a b; omega
    | succ n ih =>
      intro j a b
      obtain ⟨o, e1, e2⟩ := hp j _ (List.getElem?_eq_getElem b)
      rw [e1, e2]
      exact ⟨er_nonneg (fun j' h1 h2 => (ih j' (by omega) h2).1) 5 _ o, wr_nonneg (fun j' h1 h2 => (ih j' (by omega) h2).2) 5 _ o⟩
  obtain ⟨_, _, _, _, q5, q6⟩ := t j s e
  have := wP_len hp (fun j hj => (h0 _ j (Nat.le_refl _) hj).1) (fun j hj => (h0 _ j (Nat.le_refl _) hj).2) k j 5 s (hp j s e).1
  omega
end MS
end
section
set_option maxRecDepth 100000
set_option maxHeartbeats 4000000
namespace MS
open PySem L2
/-! ### rows and points: the same told twice -/
def pts (rs : List Row) : Nat := (rs.map fun r => r.2.1).sum
def expand (rs : List Row) : List Un := rs.flatMap fun r => List.replicate r.2.1 (r.1, r.2.2)
/-- the first so many points of rows -/
def firstP : List Row → Nat → List Row
  | [], _ => []
  | (i, n, wh) :: r, left => if left = 0 then [] else (i, min n left, wh) :: firstP r (left - min n left)
def bestR (f : Sch → Nat → List Row) : List Sch → Nat → List Row → List Row
  | [], _, acc => acc
  | s :: r, j, acc => bestR f r (j + 1) (if pts acc < pts (f s j) then f s j else acc)
def rP (ps : List Sch) (ws : List StepT) : Nat → Sch → Nat → Bool → List Nat → List Row
  | 0, _, _, _, _ => []
  | k + 1, .step x p, st, c, wh => match hits ws c x st with
    | [] => []
    | i :: _ => [(i, p.toNat, wh)]
  | k + 1, .behind x s, st, c, wh => match hits ws c x st with
    | [] => []
    | i :: _ => rP ps ws k s (i + 1) c (wh ++ [0])
  | k + 1, .use n, st, c, wh => match ps[n]? with
    | none => []
    | some s => rP ps ws k s st c (wh ++ [0])
  | k + 1, .all ks, st, c, wh => allU (fun s j => rP ps ws k s st c (wh ++ [j])) ks 0
  | k + 1, .best ks, st, c, wh => bestR (fun s j => rP ps ws k s st c (wh ++ [j])) ks 0 []
  | k + 1, .fin x p s, st, c, wh => if lastOk ws c x st = true then [(ws.length - 1, p.toNat, wh)] else rP ps ws k s st c (wh ++ [0])
  | k + 1, .seen x s, st, c, wh => if (ws.any fun p => p.1 == x) = true then rP ps ws k s st c (wh ++ [0]) else []
  | k + 1, .most n s, st, c, wh => firstP (rP ps ws k s st c (wh ++ [0])) n.toNat
  | k + 1, .half s, st, c, wh => firstP (rP ps ws k s st c (wh ++ [0])) (pts (rP ps ws k s st c (wh ++ [0])) / 2)
  | k + 1, .carry s, st, c, wh => rP ps ws k s st true (wh ++ [0])
theorem pts_zero : pts [] = 0 := rfl
theorem pts_cons (r : Row) (rs : List Row) : pts (r :: rs) = r.2.1 + pts rs := by
  unfold pts
  rw [List.map_cons, List.sum_cons]
theorem expand_cons (r : Row) (rs : List Row) : expand (r :: rs) = List.replicate r.2.1 (r.1, r.2.2) ++ expand rs := by
  unfold expand
  rw [List.flatMap_cons]
theorem expand_app (as bs : List Row) : expand (as ++ bs) = expand as ++ expand bs := by
  unfold expand
  rw [List.flatMap_append]
theorem expand_len : ∀ rs : List Row, (expand rs).length = pts rs
  | [] => rfl
  | r :: rs => by rw [expand_cons, List.length_append, List.length_replicate, expand_len rs, pts_cons]
theorem expand_first : ∀ (rs : List Row) (n : Nat), expand (firstP rs n) = (expand rs).take n
  | [], n => by
    show [] = List.take n []
    rw [List.take_nil]
  | (i, m, wh) :: r, n => by
    unfold firstP
    by_cases h : n = 0
    · rw [if_pos h, h, List.take_zero]
      rfl
    · rw [if_neg h, expand_cons, expand_cons, expand_first r, List.take_append, List.length_replicate, List.take_replicate]
      show List.replicate (min m n) _ ++ _ = List.replicate (min n m) _ ++ _
      rw [Nat.min_comm m n, show n - min n m = n - m by omega]
theorem expand_all {f : Sch → Nat → List Row} {g : Sch → Nat → List Un} : ∀ (ks : List Sch) (j : Nat), (∀ s ∈ ks, ∀ j, g s j = expand (f s j)) → allU g ks j = expand (allU f ks j)
  | [], _, _ => rfl
  | s :: r, j, h => by
    show g s j ++ allU g r (j + 1) = expand (f s j ++ allU f r (j + 1))
    rw [expand_app, h s List.mem_cons_self j, expand_all r (j + 1) fun s hs => h s (List.mem_cons_of_mem _ hs)]
theorem expand_best {f : Sch → Nat → List Row} {g : Sch → Nat → List Un} : ∀ (ks : List Sch) (j : Nat) (acc : List Row), (∀ s ∈ ks, ∀ j, g s j = expand (f s j)) → bestU g ks j (expand acc) = expand (bestR f ks j acc)
  | [], _, _, _ => rfl
  | s :: r, j, acc, h => by
    show bestU g r (j + 1) (if (expand acc).length < (g s j).length then g s j else expand acc) = expand (bestR f r (j + 1) (if pts acc < pts (f s j) then f s j else acc))
    rw [h s List.mem_cons_self j, expand_len, expand_len, ← expand_best r (j + 1) _ fun s hs => h s (List.mem_cons_of_mem _ hs)]
    split <;> rfl
/-- the points are those of the rows -/
theorem uP_expand {ps : List Sch} {ws : List StepT} : ∀ (k : Nat) (s : Sch) (st : Nat) (c : Bool) (wh : List Nat), uP ps ws k s st c wh = expand (rP ps ws k s st c wh)
  | 0, _, _, _, _ => rfl
  | k + 1, .step x p, st, c, wh => by
    unfold uP rP
    cases hits ws c x st with
    | nil => rfl
    | cons i r => show List.replicate _ _ = expand [_]; rw [expand_cons]; show _ = List.replicate _ _ ++ []; rw [List.append_nil]
  | k + 1, .behind x s, st, c, wh => by
    unfold uP rP
    cases hits ws c x st with
    | nil => rfl
    | cons i r => exact uP_expand k s _ c _
  | k + 1, .use n, st, c, wh => by
    unfold uP rP
    cases ps[n]? with
    | none => rfl
    | some s => exact uP_expand k s st c _
  | k + 1, .all ks, st, c, wh => expand_all ks 0 fun s _ j => uP_expand k s st c _
  | k + 1, .best ks, st, c, wh => expand_best ks 0 [] fun s _ j => uP_expand k s st c _
  | k + 1, .fin x p s, st, c, wh => by
    unfold uP rP
    split
    · rw [expand_cons]
      show _ = List.replicate _ _ ++ []
      rw [List.append_nil]
    · exact uP_expand k s st c _
  | k + 1, .seen x s, st, c, wh => by
    unfold uP rP
    split
    · exact uP_expand k s st c _
    · rfl
  | k + 1, .most n s, st, c, wh => by
    unfold uP rP
    rw [uP_expand k s st c _, expand_first]
  | k + 1, .half s, st, c, wh => by
    unfold uP rP
    rw [uP_expand k s st c _, expand_first, expand_len]
  | k + 1, .carry s, st, c, wh => uP_expand k s st true _
/-- rows that can stand side by side: each has points, no two one place -/
def Good (wh : List Nat) (rs : List Row) : Prop := (∀ r ∈ rs, 0 < r.2.1 ∧ wh <+: r.2.2) ∧ (rs.map fun r => r.2.2).Nodup
theorem Good.nil (wh : List Nat) : Good wh [] := ⟨(fun _ h => nomatch h), List.nodup_nil⟩
theorem Good.one {i n : Nat} (wh : List Nat) (h : 0 < n) : Good wh [(i, n, wh)] := ⟨fun r hr => by rw [List.mem_singleton.mp hr]; exact ⟨h, List.prefix_refl _⟩, by simp⟩
theorem Good.up {wh : List Nat} {j : Nat} {rs : List Row} (h : Good (wh ++ [j]) rs) : Good wh rs := ⟨fun r hr => ⟨(h.1 r hr).1, (List.prefix_append _ _).trans (h.1 r hr).2⟩, h.2⟩
theorem first_mem : ∀ (rs : List Row) (n : Nat) (r : Row), r ∈ firstP rs n → (∀ r ∈ rs, 0 < r.2.1) → 0 < r.2.1 ∧ ∃ r' ∈ rs, r'.2.2 = r.2.2
  | [], _, _, h, _ => by cases h
  | (i, m, w) :: t, n, r, h, hp => by
    unfold firstP at h
    by_cases hn : n = 0
    · rw [if_pos hn] at h
      cases h
    · rw [if_neg hn] at h
      rcases List.mem_cons.mp h with rfl | h
      · have : 0 < m := hp _ List.mem_cons_self
        exact ⟨by show 0 < min m n; omega, _, List.mem_cons_self, rfl⟩
      · obtain ⟨h1, r', h2, h3⟩ := first_mem t _ r h fun r hr => hp r (List.mem_cons_of_mem _ hr)
        exact ⟨h1, r', List.mem_cons_of_mem _ h2, h3⟩
theorem first_sub : ∀ (rs : List Row) (n : Nat), ((firstP rs n).map fun r => r.2.2).Sublist (rs.map fun r => r.2.2)
  | [], _ => List.Sublist.slnil
  | (i, m, w) :: t, n => by
    unfold firstP
    split
    · exact List.nil_sublist _
    · exact (first_sub t _).cons_cons _
theorem Good.first {wh : List Nat} {rs : List Row} (h : Good wh rs) (n : Nat) : Good wh (firstP rs n) := ⟨fun r hr => by
  obtain ⟨h1, r', h2, h3⟩ := first_mem rs n r hr fun r hr => (h.1 r hr).1
  exact ⟨h1, by rw [← h3]; exact (h.1 r' h2).2⟩, h.2.sublist (first_sub rs n)⟩
theorem pre_eq {wh t : List Nat} {i j : Nat} (h1 : wh ++ [i] <+: t) (h2 : wh ++ [j] <+: t) : i = j := by
  have h := List.prefix_of_prefix_length_le h1 h2 (by simp)
  obtain ⟨u, hu⟩ := h
  rw [List.append_assoc] at hu
  have := List.append_cancel_left hu
  simp at this
  exact this.1
theorem good_all {wh : List Nat} {f : Sch → Nat → List Row} : ∀ (ks : List Sch) (j : Nat), (∀ s ∈ ks, ∀ j, Good (wh ++ [j]) (f s j)) → (∀ r ∈ allU f ks j, 0 < r.2.1 ∧ ∃ j', j ≤ j' ∧ wh ++ [j'] <+: r.2.2) ∧ ((allU f ks j).map fun r => r.2.2).Nodup
  | [], _, _ => ⟨(fun _ h => nomatch h), List.nodup_nil⟩
  | s :: t, j, h => by
    obtain ⟨a1, a2⟩ := good_all t (j + 1) fun s hs => h s (List.mem_cons_of_mem _ hs)
    have g := h s List.mem_cons_self j
    show (∀ r ∈ f s j ++ allU f t (j + 1), _) ∧ ((f s j ++ allU f t (j + 1)).map fun r => r.2.2).Nodup
    refine ⟨fun r hr => ?_, ?_⟩
    · rcases List.mem_append.mp hr with hr | hr
      · exact ⟨(g.1 r hr).1, j, Nat.le_refl _, (g.1 r hr).2⟩
      · obtain ⟨p, j', h1, h2⟩ := a1 r hr
        exact ⟨p, j', by omega, h2⟩
    · rw [List.map_append]
      refine List.nodup_append.mpr ⟨g.2, a2, fun x hx y hy e => ?_⟩
      obtain ⟨r1, m1, rfl⟩ := List.mem_map.mp hx
      obtain ⟨r2, m2, e2⟩ := List.mem_map.mp hy
      obtain ⟨_, j', h1, h2⟩ := a1 r2 m2
      have p1 := (g.1 r1 m1).2
      rw [e, ← e2] at p1
      have := pre_eq p1 h2
      omega
theorem good_best {wh : List Nat} {f : Sch → Nat → List Row} : ∀ (ks : List Sch) (j : Nat) (acc : List Row), (∀ s ∈ ks, ∀ j, Good (wh ++ [j]) (f s j)) → Good wh acc → Good wh (bestR f ks j acc)
  | [], _, _, _, g => g
  | s :: t, j, acc, h, g => good_best t (j + 1) _ (fun s hs => h s (List.mem_cons_of_mem _ hs)) (by
    split
    · exact (h s List.mem_cons_self j).up
    · exact g)
theorem rP_good {ps : List Sch} {ws : List StepT} {M : Nat} (hp : ∀ (j : Nat) (s : Sch), ps[j]? = some s → OkS j M 5 s) : ∀ (k : Nat) (i d : Nat) (s : Sch) (st : Nat) (c : Bool) (wh : List Nat), OkS i M d s → Good wh (rP ps ws k s st c wh)
  | 0, _, _, _, _, _, _, _ => Good.nil _
  | k + 1, i, 0, s, st, c, wh, o => by cases o
  | k + 1, i, d + 1, .step x p, st, c, wh, o => by
    unfold rP
    have := o.2.1
    split
    · exact Good.nil _
    · exact Good.one _ (by omega)
  | k + 1, i, d + 1, .behind x s, st, c, wh, o => by
    unfold rP
    split
    · exact Good.nil _
    · exact (rP_good hp k i d s _ c _ o.2).up
  | k + 1, i, d + 1, .use n, st, c, wh, o => by
    unfold rP
    split
    · exact Good.nil _
    · rename_i s e
      exact (rP_good hp k n 5 s st c _ (hp n s e)).up
  | k + 1, i, d + 1, .all ks, st, c, wh, o => by
    obtain ⟨a1, a2⟩ := good_all (wh := wh) (f := fun s j => rP ps ws k s st c (wh ++ [j])) ks 0 fun s hs j => rP_good hp k i d s st c _ (o.2.2 s hs)
    exact ⟨fun r hr => by
      obtain ⟨p, j', _, h2⟩ := a1 r hr
      exact ⟨p, (List.prefix_append _ _).trans h2⟩, a2⟩
  | k + 1, i, d + 1, .best ks, st, c, wh, o => good_best ks 0 [] (fun s hs j => rP_good hp k i d s st c _ (o.2.2 s hs)) (Good.nil _)
  | k + 1, i, d + 1, .fin x p s, st, c, wh, o => by
    unfold rP
    have := o.1.2.1
    split
    · exact Good.one _ (by omega)
    · exact (rP_good hp k i d s st c _ o.2).up
  | k + 1, i, d + 1, .seen x s, st, c, wh, o => by
    unfold rP
    split
    · exact (rP_good hp k i d s st c _ o.2).up
    · exact Good.nil _
  | k + 1, i, d + 1, .most n s, st, c, wh, o => ((rP_good hp k i d s st c _ o.2).up).first _
  | k + 1, i, d + 1, .half s, st, c, wh, o => ((rP_good hp k i d s st c _ o).up).first _
  | k + 1, i, d + 1, .carry s, st, c, wh, o => (rP_good hp k i d s st true _ o).up
theorem add_more (acc : List Row) (i : Nat) (w : List Nat) : ∀ (n m : Nat), (List.replicate n ((i, w) : Un)).foldl addU (acc ++ [(i, m, w)]) = acc ++ [(i, m + n, w)]
  | 0, m => rfl
  | n + 1, m => by
    show (List.replicate n ((i, w) : Un)).foldl addU (addU (acc ++ [(i, m, w)]) (i, w)) = _
    rw [addU_same acc (i, m, w) (i, w) rfl]
    show (List.replicate n ((i, w) : Un)).foldl addU (acc ++ [(i, m + 1, w)]) = _
    rw [add_more acc i w n (m + 1), show m + 1 + n = m + (n + 1) by omega]
theorem add_rows : ∀ (rs acc : List Row), (∀ r ∈ rs, 0 < r.2.1) → ((acc ++ rs).map fun r => r.2.2).Nodup → (expand rs).foldl addU acc = acc ++ rs
  | [], acc, _, _ => by rw [List.append_nil]; rfl
  | (i, n, w) :: t, acc, hp, hn => by
    have n0 : 0 < n := hp _ List.mem_cons_self
    obtain ⟨m, rfl⟩ : ∃ m, n = m + 1 := ⟨n - 1, by omega⟩
    have hnw : w ∉ acc.map fun r => r.2.2 := fun z => by
      rw [List.map_append] at hn
      exact (List.nodup_append.mp hn).2.2 w z w List.mem_cons_self rfl
    have he : addU acc (i, w) = acc ++ [(i, 1, w)] := addU_else acc (i, w) (by
      have : sameW acc (i, w) = false := by
        unfold sameW
        cases hl : acc.getLast? with
        | none => rfl
        | some r =>
          refine decide_eq_false fun e => hnw ?_
          rw [← show r.2.2 = w from e]
          exact List.mem_map_of_mem (List.mem_of_getLast? hl)
      rw [this, Bool.and_false])
    rw [expand_cons, List.foldl_append]
    show (expand t).foldl addU ((List.replicate m ((i, w) : Un)).foldl addU (addU acc (i, w))) = _
    rw [he, add_more, add_rows t _ (fun r hr => hp r (List.mem_cons_of_mem _ hr)) (by
      rw [show acc ++ [(i, 1 + m, w)] ++ t = acc ++ ((i, 1 + m, w) :: t) by simp]
      rw [List.map_append] at hn ⊢
      exact hn)]
    rw [show 1 + m = m + 1 by omega]
    simp
theorem eP_expand {wh : List Nat} {rs : List Row} (h : Good wh rs) : eP (expand rs) = rs := by
  have := add_rows rs [] (fun r hr => (h.1 r hr).1) (by simpa using h.2)
  simpa [eP] using this
/-- all rows that a work earns -/
def rAll (ps : List Sch) (ws : List StepT) : List Row := match ps with
  | [] => []
  | s :: _ => rP ps ws 30 s 0 false []
theorem eP_all {ps : List Sch} {ws : List StepT} (h : PaperOk ps) : eP (uAll ps ws) = rAll ps ws := by
  obtain ⟨ce, hp, _, _⟩ := h.facts
  cases ps with
  | nil => rfl
  | cons s r =>
    show eP (uP (s :: r) ws 30 s 0 false []) = rP (s :: r) ws 30 s 0 false []
    rw [uP_expand]
    exact eP_expand (rP_good (fun j s e => (hp j s e).1) 30 0 5 s 0 false [] (hp 0 s rfl).1)
theorem uAll_len {ps : List Sch} {ws : List StepT} : (uAll ps ws).length = pts (rAll ps ws) := by
  cases ps with
  | nil => rfl
  | cons s r =>
    show (uP (s :: r) ws 30 s 0 false []).length = pts (rP (s :: r) ws 30 s 0 false [])
    rw [uP_expand, expand_len]
end MS
end
section
set_option maxRecDepth 100000
set_option maxHeartbeats 4000000
namespace MS
open PySem L2
/-! ### the view: what a scheme looks at -/
def waysV (c : Bool) : List V := if c then [.str "r", .str "c"] else [.str "r"]
theorem ways_in {c : Bool} {m : Str} (h : IsM m) : inV (.str m) (waysV c) = (m == "r" || (c && m == "c")) := by
  have h' : m ∈ marksL := h
  have q : ∀ c : Bool, ∀ y ∈ marksL, inV (.str y) (waysV c) = (y == "r" || (c && y == "c")) := by decide +kernel
  exact q c m h'
theorem ways_flat (c : Bool) : (waysV c).all flatV = true := by cases c <;> rfl
theorem n_sw : ¬ (("steps" : Str) = "ways") := by decide +kernel
theorem n_ss : ¬ (("steps" : Str) = "start") := by decide +kernel
theorem n_tw : ¬ (("start" : Str) = "ways") := by decide +kernel
def vf (wa : Addr) (st : Nat) (wp : Addr) : List (Str × V) := putF "ways" (.ref wp) (putF "start" (.int ((st : Nat) : Int)) (putF "steps" (.ref wa) []))
theorem vf_steps (wa : Addr) (st : Nat) (wp : Addr) : (vf wa st wp).lookup ("steps" : Str) = some (.ref wa) := by
  unfold vf
  rw [lookup_putF, if_neg n_sw, lookup_putF, if_neg n_ss, lookup_putF, if_pos rfl]
theorem vf_start (wa : Addr) (st : Nat) (wp : Addr) : (vf wa st wp).lookup ("start" : Str) = some (.int ((st : Nat) : Int)) := by
  unfold vf
  rw [lookup_putF, if_neg n_tw, lookup_putF, if_pos rfl]
theorem vf_ways (wa : Addr) (st : Nat) (wp : Addr) : (vf wa st wp).lookup ("ways" : Str) = some (.ref wp) := by
  unfold vf
  rw [lookup_putF, if_pos rfl]
theorem vf_no (wa : Addr) (st : Nat) (wp : Addr) {m : Str} (h1 : ¬ m = "ways") (h2 : ¬ m = "start") (h3 : ¬ m = "steps") : (vf wa st wp).lookup m = none := by
  unfold vf
  rw [lookup_putF, if_neg h1, lookup_putF, if_neg h2, lookup_putF, if_neg h3]
  all_goals rfl
theorem vf_counts (wa : Addr) (st : Nat) (wp : Addr) : (vf wa st wp).lookup ("counts" : Str) = none := vf_no wa st wp (by decide +kernel) (by decide +kernel) (by decide +kernel)
theorem vf_first (wa : Addr) (st : Nat) (wp : Addr) : (vf wa st wp).lookup ("first" : Str) = none := vf_no wa st wp (by decide +kernel) (by decide +kernel) (by decide +kernel)
theorem vf_last (wa : Addr) (st : Nat) (wp : Addr) : (vf wa st wp).lookup ("last" : Str) = none := vf_no wa st wp (by decide +kernel) (by decide +kernel) (by decide +kernel)
theorem vf_stands (wa : Addr) (st : Nat) (wp : Addr) : (vf wa st wp).lookup ("stands" : Str) = none := vf_no wa st wp (by decide +kernel) (by decide +kernel) (by decide +kernel)
theorem vf_behind (wa : Addr) (st : Nat) (wp : Addr) : (vf wa st wp).lookup ("behind" : Str) = none := vf_no wa st wp (by decide +kernel) (by decide +kernel) (by decide +kernel)
theorem vf_carrying (wa : Addr) (st : Nat) (wp : Addr) : (vf wa st wp).lookup ("carrying" : Str) = none := vf_no wa st wp (by decide +kernel) (by decide +kernel) (by decide +kernel)
/-- a view stands in the heap -/
def ViewAt (C : Addr) (H : Hp) (v : Addr) (ws : List StepT) (st : Nat) (c : Bool) : Prop := ∃ dx wa wp, H v = some (.ins C dx (vf wa st wp)) ∧ H wa = some (.lst (stepsV ws)) ∧ H wp = some (.tup (waysV c))
theorem ViewAt.keep {C : Addr} {H H' : Hp} {v : Addr} {ws : List StepT} {st : Nat} {c : Bool} (h : ViewAt C H v ws st c) (k : Same H H') : ViewAt C H' v ws st c := by
  obtain ⟨dx, wa, wp, h1, h2, h3⟩ := h
  exact ⟨dx, wa, wp, k _ _ h1, k _ _ h2, k _ _ h3⟩
/-- a method of the text -/
structure DefM (K : PySem.W.Frag) (C : Addr) (m q : Str) (st : Stmt) (ps : List Str) where
  f : Addr
  fd : FuncData
  F : FunD K m q (defArgs st) (defBody st) (defScope st) [] [] f fd
  me : Meth K C m f
  b : Binds K fd ps []
theorem DefM.ok {P : Program} {w : World} {K : PySem.W.Frag} {mg : Str → Option Value} {base : Heap} {C : Addr} {m x : Str} {st : Stmt} {ps N : List Str} {k : Nat} {sp : Sp} (D : DefM K C m x st ps) (S : FnScope N ps (defScope st)) (len : ∀ vs H Q E, sp vs H Q E → vs.length = ps.length)
    (hbody : ∀ (cdv : Value) (A : Around) (outer : List Env) (s : Shared) (H : Hp) (vs : List V) (Q : VK) (E : XK), Room k (A.deeper (PyProof.Rows.envOfC x (defScope st) s.heap.objs.size D.f cdv)) → sp vs H Q E →
      ∃ t, PSs (cxOf CX0 P w K mg base N x (defScope st) D.f cdv A outer s H E).nox (defBody st) t ∧ t { nx := fun _ H' => Q .non H', rt := Q } (start N vs) H) : FnOk P w K mg base CX0 (k + 1) D.f D.fd ps sp :=
  D.F.ok S len fun cdv A outer s H vs Q E hr hsp => by
    obtain ⟨t, h, q⟩ := hbody cdv A outer s H vs Q E hr hsp
    exact ⟨t, h.nox, q⟩
/-- what the text says of the class -/
structure VCls (K : PySem.W.Frag) (mg : Str → Option Value) (C : Addr) where
  cl : Cls K C
  nSteps : NoAttr K C "steps"
  nStart : NoAttr K C "start"
  nWays : NoAttr K C "ways"
  mgC : mg "View" = some (.ref C)
  makes : PySem.W.makesIn K C = true
  kp : PySem.W.keepIn K (.ref C) = true
  DI : DefM K C "__init__" "View.__init__" s_View_init ["self", "steps", "start", "ways"]
  DC : DefM K C "counts" "View.counts" s_View_counts ["self", "place", "word"]
  DF : DefM K C "first" "View.first" s_View_first ["self", "word"]
  DL : DefM K C "last" "View.last" s_View_last ["self", "word"]
  DS : DefM K C "stands" "View.stands" s_View_stands ["self", "word"]
  DB : DefM K C "behind" "View.behind" s_View_behind ["self", "place"]
  DY : DefM K C "carrying" "View.carrying" s_View_carrying ["self"]
theorem VCls.mk' {K : PySem.W.Frag} {mg : Str → Option Value} {C : Addr} (V : VCls K mg C) : Mk K C V.DI.f := ⟨V.makes, V.DI.me.at_, V.DI.me.fn, V.kp⟩
def spVInit (C : Addr) : Sp := fun vs H Q _ => ∃ (p dx wa wp : Addr) (st : Nat), vs = [.ref p, .ref wa, .int ((st : Nat) : Int), .ref wp] ∧ H p = some (.ins C dx []) ∧ ∀ H' : Hp, H' p = some (.ins C dx (vf wa st wp)) → (∀ b, b ≠ p → H' b = H b) → Q .non H'
def spCounts (C : Addr) : Sp := fun vs H Q _ => ∃ (v : Addr) (i : Nat) (x : Str) (ws : List StepT) (st : Nat) (c : Bool) (p : StepT), vs = [.ref v, .int ((i : Nat) : Int), .str x] ∧ ViewAt C H v ws st c ∧ ws[i]? = some p ∧ IsStep p ∧ Q (.bl (okAt c x p)) H
def natO (o : Option Nat) : V := match o with
  | some i => V.int ((i : Nat) : Int)
  | none => V.non
def spVFirst (C : Addr) : Sp := fun vs H Q _ => ∃ (v : Addr) (x : Str) (ws : List StepT) (st : Nat) (c : Bool), vs = [.ref v, .str x] ∧ ViewAt C H v ws st c ∧ (∀ p ∈ ws, IsStep p) ∧ ws.length ≤ 1000 ∧ st ≤ 1000 ∧ Q (natO (hits ws c x st).head?) H
def spVLast (C : Addr) : Sp := fun vs H Q _ => ∃ (v : Addr) (x : Str) (ws : List StepT) (st : Nat) (c : Bool), vs = [.ref v, .str x] ∧ ViewAt C H v ws st c ∧ (∀ p ∈ ws, IsStep p) ∧ ws.length ≤ 1000 ∧ Q (natO (if lastOk ws c x st = true then some (ws.length - 1) else none)) H
def spStands (C : Addr) : Sp := fun vs H Q _ => ∃ (v : Addr) (x : Str) (ws : List StepT) (st : Nat) (c : Bool), vs = [.ref v, .str x] ∧ ViewAt C H v ws st c ∧ (∀ p ∈ ws, IsStep p) ∧ ws.length ≤ 900 ∧ ∀ H', Same H H' → Q (.bl (ws.any fun p => p.1 == x)) H'
def spVBehind (C : Addr) : Sp := fun vs H Q _ => ∃ (v : Addr) (i : Nat) (ws : List StepT) (st : Nat) (c : Bool), vs = [.ref v, .int ((i : Nat) : Int)] ∧ ViewAt C H v ws st c ∧ ∀ (u : Addr) (H' : Hp), Same H H' → ViewAt C H' u ws (i + 1) c → Q (.ref u) H'
def spCarrying (C : Addr) : Sp := fun vs H Q _ => ∃ (v : Addr) (ws : List StepT) (st : Nat) (c : Bool), vs = [.ref v] ∧ ViewAt C H v ws st c ∧ ∀ (u : Addr) (H' : Hp), Same H H' → ViewAt C H' u ws st true → Q (.ref u) H'
theorem hits_cons {ws : List StepT} {c : Bool} {x : Str} {i : Nat} {p : StepT} (h : ws[i]? = some p) : hits ws c x i = if okAt c x p = true then i :: hits ws c x (i + 1) else hits ws c x (i + 1) := by
  have hi := (List.getElem?_eq_some_iff.mp h).1
  unfold hits
  rw [show ws.length - i = (ws.length - (i + 1)) + 1 by omega, List.range'_succ, List.filter_cons]
  simp only [h]
theorem hits_end {ws : List StepT} {c : Bool} {x : Str} {i : Nat} (h : ws.length ≤ i) : hits ws c x i = [] := by
  unfold hits
  rw [show ws.length - i = 0 by omega]
  rfl
section
variable {P : Program} {w : World} {K : PySem.W.Frag} {mg : Str → Option Value} {base : Heap} {C : Addr}
theorem ok_vinit (Y : VCls K mg C) : FnOk P w K mg base CX0 1 Y.DI.f Y.DI.fd ["self", "steps", "start", "ways"] (spVInit C) := by
  refine Y.DI.ok sc_View_init (fun vs H Q E h => ?_) (fun cdv A outer s H vs Q E hr h => ?_)
  · obtain ⟨p, dx, wa, wp, st, rfl, _⟩ := h
    rfl
  obtain ⟨p, dx, wa, wp, st, rfl, hp, q⟩ := h
  refine ⟨_, pss_cons (ps_fld (pv 0) (pv 1) rfl) (pss_cons (ps_fld (pv 0) (pv 2) rfl) (pss_one (ps_fld (pv 0) (pv 3) rfl))), ?_⟩
  refine ⟨_, rfl, _, rfl, p, C, dx, _, rfl, hp, Y.cl, Y.nSteps, (by show 0 < 1000; decide), ?_⟩
  refine ⟨_, rfl, _, rfl, p, C, dx, _, rfl, upd_same, Y.cl, Y.nStart, (by show 1 < 1000; decide), ?_⟩
  refine ⟨_, rfl, _, rfl, p, C, dx, _, rfl, upd_same, Y.cl, Y.nWays, Nat.lt_of_le_of_lt (length_putF _ _ _) (by show 1 + 1 < 1000; decide), ?_⟩
  exact q _ upd_same fun b hb => by rw [upd_ne hb, upd_ne hb, upd_ne hb]
theorem ok_counts (Y : VCls K mg C) : FnOk P w K mg base CX0 1 Y.DC.f Y.DC.fd ["self", "place", "word"] (spCounts C) := by
  have nd := sc_View_counts.nd
  refine Y.DC.ok sc_View_counts (fun vs H Q E h => ?_) (fun cdv A outer s H vs Q E hr h => ?_)
  · obtain ⟨v, i, x, ws, st, c, p, rfl, _⟩ := h
    rfl
  obtain ⟨v, i, x, ws, st, c, p, rfl, ⟨dx, wa, wp, hv, ewa, ewp⟩, hi, hp, q⟩ := h
  refine ⟨_, pss_cons (ps_set (i := 3) nd rfl (Or.inl rfl) (pe_ix ix_list (pe_fld (pv 0) rfl) (pv 1) (fun _ _ => rfl)))
    (pss_one (ps_ret (pe_and (pe_cmpR op_eq (pe_ix ix_str (pv 3) pe_int (fun _ _ => rfl)) (pv 2) (nomark _)) (pe_one (pe_cmpR op_in_seq (pe_ix ix_str (pv 3) pe_int (fun _ _ => rfl)) (pe_fld (pv 0) rfl) (by rfl)))))), ?_⟩
  obtain ⟨c0, e0, x0⟩ := hp.at0
  obtain ⟨c1, e1, x1⟩ := hp.at1
  have eit : (stepsV ws)[i]? = some (V.str (stepS p)) := by
    unfold stepsV
    rw [List.getElem?_map, hi]
    rfl
  refine ⟨_, rfl, v, C, dx, _, _, rfl, hv, Y.cl, Y.nSteps, vf_steps _ _ _, _, rfl, wa, _, _, _, rfl, rfl, SqL.of ewa, atI_nat eit, ?_⟩
  dsimp only [gName]
  refine ⟨_, rfl, _, 0, c0, rfl, rfl, str_len2 hp.len, e0, ?_⟩
  rw [x0]
  refine ⟨_, rfl, rfl, _, rfl, ?_⟩
  rw [dec_str]
  unfold okAt at q
  cases e : p.1 == x with
  | false =>
    rw [e, Bool.false_and] at q
    exact iteF q
  | true =>
    rw [e, Bool.true_and] at q
    refine iteT ⟨_, rfl, _, 1, c1, rfl, rfl, str_len2 hp.len, e1, ?_⟩
    rw [x1]
    refine ⟨_, rfl, v, C, dx, _, _, rfl, hv, Y.cl, Y.nWays, vf_ways _ _ _, wp, _, rfl, .inr (SqT.of ewp), rfl, ways_flat c, ?_⟩
    show Q (.bl (inV (.str p.2) (waysV c))) H
    rw [ways_in hp.2]
    exact q
theorem ok_vfirst (T : PTx w K mg) (Y : VCls K mg C) : FnOk P w K mg base CX0 2 Y.DF.f Y.DF.fd ["self", "word"] (spVFirst C) := by
  have GC : FnOk P w K mg base CX0 1 Y.DC.f Y.DC.fd ["self", "place", "word"] (spCounts C) := ok_counts Y
  have nd := sc_View_first.nd
  refine Y.DF.ok sc_View_first (fun vs H Q E h => ?_) (fun cdv A outer s H vs Q E hr h => ?_)
  · obtain ⟨v, x, ws, st, c, rfl, _⟩ := h
    rfl
  obtain ⟨v, x, ws, st, c, rfl, hva, hw, hl, hst, q⟩ := h
  obtain ⟨dx, wa, wp, hv, ewa, ewp⟩ := id hva
  refine ⟨_, pss_cons (ps_for PassesOwn.never rfl (pi_range2 rfl (T.free "range" (by decide +kernel)) (pa_cons (pe_fld (pv 0) rfl) (pa_cons (pe_callB call_len_seq rfl (T.free "len" (by decide +kernel)) PySem.boot_len (pa_cons (pe_fld (pv 0) rfl) pa_nil)) pa_nil))) (pg_name (i := 2) nd rfl (Or.inl rfl))
      (pss_one (ps_if (pt_val (pe_meth (pv 0) Y.cl Y.DC.me GC hr Y.DC.b .nil pass0 (pa_cons (pv 2) (pa_cons (pv 1) pa_nil)))) (pss_one (ps_ret (pv 2))) pss_nil)))
    (pss_one (ps_ret pe_non)), ?_⟩
  have lws : (stepsV ws).length = ws.length := List.length_map _
  have en : (((stepsV ws).length : Int) - ((st : Nat) : Int)).toNat = ws.length - st := by rw [lws]; omega
  refine ⟨_, rfl, v, C, dx, _, _, rfl, hv, Y.cl, Y.nStart, vf_start _ _ _, _, rfl, v, C, dx, _, _, rfl, hv, Y.cl, Y.nSteps, vf_steps _ _ _, wa, _, rfl, .inl (SqL.of ewa), _, _, rfl, ⟨by omega, by omega, by omega, by omega⟩, ?_⟩
  refine for_range (lo := ((st : Nat) : Int)) (n := (((stepsV ws).length : Int) - ((st : Nat) : Int)).toNat) (fun i σ H' => ∃ v2 : Option V, σ = [some (.ref v), some (.str x), v2] ∧ H' = H ∧ hits ws c x st = hits ws c x (st + i)) ⟨none, rfl, rfl, rfl⟩ ?_ ?_
  · rintro i σ H' hi ⟨v2, rfl, rfl, eh⟩
    rw [en] at hi
    have hil : st + i < ws.length := by omega
    have ei : ws[st + i]? = some (ws[st + i]'hil) := List.getElem?_eq_getElem hil
    rw [hits_cons ei] at eh
    have ez : ((st : Nat) : Int) + ((i : Nat) : Int) = ((st + i : Nat) : Int) := by omega
    dsimp only [gName]
    rw [ez]
    refine ⟨_, rfl, v, dx, _, rfl, hv, vf_counts _ _ _, _, rfl, _, rfl, v, st + i, x, ws, st, c, _, rfl, hva, ei, hw _ (List.getElem_mem hil), _, rfl, ?_⟩
    cases e : okAt c x (ws[st + i]'hil) with
    | true =>
      rw [if_pos e] at eh
      rw [eh] at q
      exact iteT ⟨_, rfl, q⟩
    | false =>
      rw [if_neg (by rw [e]; decide)] at eh
      exact iteF ⟨_, rfl, rfl, eh⟩
  · rintro σ H' ⟨v2, rfl, rfl, eh⟩
    rw [en] at eh
    rw [eh, hits_end (show ws.length ≤ st + (ws.length - st) by omega)] at q
    exact q
theorem ok_vlast (T : PTx w K mg) (Y : VCls K mg C) : FnOk P w K mg base CX0 2 Y.DL.f Y.DL.fd ["self", "word"] (spVLast C) := by
  have GC : FnOk P w K mg base CX0 1 Y.DC.f Y.DC.fd ["self", "place", "word"] (spCounts C) := ok_counts Y
  have nd := sc_View_last.nd
  refine Y.DL.ok sc_View_last (fun vs H Q E h => ?_) (fun cdv A outer s H vs Q E hr h => ?_)
  · obtain ⟨v, x, ws, st, c, rfl, _⟩ := h
    rfl
  obtain ⟨v, x, ws, st, c, rfl, hva, hw, hl, q⟩ := h
  obtain ⟨dx, wa, wp, hv, ewa, ewp⟩ := id hva
  refine ⟨_, pss_cons (ps_set (i := 2) nd rfl (Or.inl rfl) (pe_op op_sub (pe_callB call_len_seq rfl (T.free "len" (by decide +kernel)) PySem.boot_len (pa_cons (pe_fld (pv 0) rfl) pa_nil)) pe_int))
    (pss_one (ps_ret (pe_ifExp (PW.pt (pw_and (pt_cmpR op_ge (pv 2) (pe_fld (pv 0) rfl) (nomark _)) (pw_and1 (pt_val (pe_meth (pv 0) Y.cl Y.DC.me GC hr Y.DC.b .nil pass0 (pa_cons (pv 2) (pa_cons (pv 1) pa_nil))))))) (pv 2) pe_non))), ?_⟩
  have lws : (stepsV ws).length = ws.length := List.length_map _
  refine ⟨_, rfl, v, C, dx, _, _, rfl, hv, Y.cl, Y.nSteps, vf_steps _ _ _, wa, _, rfl, .inl (SqL.of ewa), _, _, rfl, rfl, ?_⟩
  dsimp only [gName]
  refine ⟨_, rfl, _, rfl, v, C, dx, _, _, rfl, hv, Y.cl, Y.nStart, vf_start _ _ _, _, _, rfl, rfl, _, rfl, ?_⟩
  rw [lws]
  by_cases hlt : st < ws.length
  · rw [decide_eq_true (show ((st : Nat) : Int) ≤ ((ws.length : Nat) : Int) - 1 by omega)]
    have hil : ws.length - 1 < ws.length := by omega
    have ei : ws[ws.length - 1]? = some (ws[ws.length - 1]'hil) := List.getElem?_eq_getElem hil
    have ez : ((ws.length : Nat) : Int) - 1 = ((ws.length - 1 : Nat) : Int) := by omega
    rw [ez]
    have elo : lastOk ws c x st = okAt c x (ws[ws.length - 1]'hil) := by
      unfold lastOk
      rw [decide_eq_true hlt, Bool.true_and, last_get (by omega)]
    rw [elo] at q
    refine iteT ⟨_, rfl, v, dx, _, rfl, hv, vf_counts _ _ _, _, rfl, _, rfl, v, ws.length - 1, x, ws, st, c, _, rfl, hva, ei, hw _ (List.getElem_mem hil), _, rfl, ?_⟩
    cases e : okAt c x (ws[ws.length - 1]'hil) with
    | true =>
      rw [if_pos e] at q
      exact iteT ⟨_, rfl, q⟩
    | false =>
      rw [if_neg (by rw [e]; decide)] at q
      exact iteF q
  · rw [decide_eq_false (show ¬ ((st : Nat) : Int) ≤ ((ws.length : Nat) : Int) - 1 by omega)]
    have elo : lastOk ws c x st = false := by
      unfold lastOk
      rw [decide_eq_false hlt, Bool.false_and]
    rw [elo] at q
    exact iteF (iteF q)
theorem ok_stands (T : PTx w K mg) (Y : VCls K mg C) : FnOk P w K mg base CX0 1 Y.DS.f Y.DS.fd ["self", "word"] (spStands C) := by
  have nd := sc_View_stands.nd
  refine Y.DS.ok sc_View_stands (fun vs H Q E h => ?_) (fun cdv A outer s H vs Q E hr h => ?_)
  · obtain ⟨v, x, ws, st, c, rfl, _⟩ := h
    rfl
  obtain ⟨v, x, ws, st, c, rfl, hva, hw, hl, q⟩ := h
  obtain ⟨dx, wa, wp, hv, ewa, ewp⟩ := id hva
  refine ⟨_, pss_one (ps_ret (pe_callB (cr_any rfl) rfl (T.free "any" (by decide +kernel)) (by decide +kernel) (pa_cons
      (pe_lc (own := [("step", 2)]) (g := gName 2) (tt := tYes) rfl nd (pi_list (pe_fld (pv 0) rfl)) (blkOk_by (N := ["self", "word", "step"]) (sc := defScope s_View_stands) (by decide +kernel)) (fun _ _ _ _ _ => pg_name (i := 2) nd rfl (Or.inl rfl)) (fun _ _ _ _ _ => pts_nil)
            (fun _ _ _ _ _ => pe_cmpR op_eq (pe_ix ix_str (pv 2) pe_int (fun _ _ => rfl)) (pv 1) (nomark _))) pa_nil))), ?_⟩
  have lws : (stepsV ws).length = ws.length := List.length_map _
  refine ⟨_, rfl, v, C, dx, _, _, rfl, hv, Y.cl, Y.nSteps, vf_steps _ _ _, wa, rfl, ⟨_, SqL.of ewa⟩, fun D hD => ?_⟩
  have nwD : wa ≠ D := ne_of_none ewa hD
  refine lc_list (K := K) (a := wa) (xs := stepsV ws) (fun j H'' => H'' = upd H D (.lst ((ws.take j).map fun p : StepT => V.bl (p.1 == x)))) rfl (fun j H'' _ e => by rw [e]; exact SqL.of (by rw [upd_ne nwD]; exact ewa)) ?_ ?_
  · rintro j y H'' hj rfl
    have hjl : j < ws.length := by
      have z := (List.getElem?_eq_some_iff.mp hj).1
      rw [lws] at z
      exact z
    have ey : y = V.str (stepS (ws[j]'hjl)) := by
      have z := get_map (fun p => V.str (stepS p)) ws hjl
      exact Option.some.inj (hj.symm.trans z)
    subst ey
    have hs := hw _ (List.getElem_mem hjl)
    obtain ⟨c0, ec, em⟩ := hs.at0
    refine ⟨rfl, _, rfl, _, 0, c0, rfl, rfl, by rw [hs.len]; decide, ec, ?_⟩
    rw [em]
    refine ⟨_, rfl, rfl, _, upd_same, ?_, ?_⟩
    · rw [List.length_map, List.length_take]
      exact small1000 (by omega)
    · rw [upd_upd, List.take_succ_eq_append_getElem hjl, List.map_append, dec_str]
      rfl
  · rintro H'' rfl
    rw [lws, List.take_length]
    refine ⟨D, ws.map fun p : StepT => p.1 == x, rfl, SqL.of (by rw [upd_same, List.map_map]; rfl), ?_⟩
    rw [show (ws.map fun p : StepT => p.1 == x).any id = ws.any fun p => p.1 == x by rw [List.any_map]; rfl]
    exact q _ (Same.new hD)
/-- a view is made -/
theorem view_made {C wa wp x dx : Addr} {H H1 : Hp} {ws : List StepT} {st : Nat} {c : Bool} {Q : VK} (ewa : H wa = some (.lst (stepsV ws))) (ewp : H wp = some (.tup (waysV c))) (hx : H x = none) (hdx : H dx = none) (ne : dx ≠ x) (e1 : H1 = upd (upd H dx (.own x)) x (.ins C dx []))
    (q : ∀ (u : Addr) (H' : Hp), Same H H' → ViewAt C H' u ws st c → Q (.ref u) H') : spVInit C [.ref x, .ref wa, .int ((st : Nat) : Int), .ref wp] H1 (fun v H2 => v = .non ∧ Q (.ref x) H2) E0 := by
  subst e1
  refine ⟨x, dx, wa, wp, st, rfl, upd_same, fun H' h1 h2 => ⟨rfl, ?_⟩⟩
  have sm : Same H H' := fun b o e => by
    have nb : b ≠ x := ne_of_none e hx
    have nd : b ≠ dx := ne_of_none e hdx
    rw [h2 b nb, upd_ne nb, upd_ne nd]
    exact e
  exact q x H' sm ⟨dx, wa, wp, h1, sm _ _ ewa, sm _ _ ewp⟩
theorem ok_vbehind (T : PTx w K mg) (Y : VCls K mg C) : FnOk P w K mg base CX0 3 Y.DB.f Y.DB.fd ["self", "place"] (spVBehind C) := by
  have GI : FnOk P w K mg base CX0 1 Y.DI.f Y.DI.fd ["self", "steps", "start", "ways"] (spVInit C) := ok_vinit Y
  refine Y.DB.ok sc_View_behind (fun vs H Q E h => ?_) (fun cdv A outer s H vs Q E hr h => ?_)
  · obtain ⟨v, i, ws, st, c, rfl, _⟩ := h
    rfl
  obtain ⟨v, i, ws, st, c, rfl, hva, q⟩ := h
  obtain ⟨dx, wa, wp, hv, ewa, ewp⟩ := id hva
  refine ⟨_, pss_one (ps_ret (pe_make Y.mk' GI hr rfl Y.mgC Y.DI.b .nil pass0 (pa_cons (pe_fld (pv 0) rfl) (pa_cons (pe_op op_add (pv 1) pe_int) (pa_cons (pe_fld (pv 0) rfl) pa_nil))))), ?_⟩
  refine ⟨_, rfl, v, C, dx, _, _, rfl, hv, Y.cl, Y.nSteps, vf_steps _ _ _, _, rfl, _, _, rfl, rfl, _, rfl, v, C, dx, _, _, rfl, hv, Y.cl, Y.nWays, vf_ways _ _ _, fun x dx' hx hdx ne => ?_⟩
  exact view_made (st := i + 1) ewa ewp hx hdx ne rfl q
theorem ok_carrying (T : PTx w K mg) (Y : VCls K mg C) : FnOk P w K mg base CX0 3 Y.DY.f Y.DY.fd ["self"] (spCarrying C) := by
  have GI : FnOk P w K mg base CX0 1 Y.DI.f Y.DI.fd ["self", "steps", "start", "ways"] (spVInit C) := ok_vinit Y
  obtain ⟨tr, gr⟩ := T.right
  obtain ⟨tc, gc⟩ := T.carried
  refine Y.DY.ok sc_View_carrying (fun vs H Q E h => ?_) (fun cdv A outer s H vs Q E hr h => ?_)
  · obtain ⟨v, ws, st, c, rfl, _⟩ := h
    rfl
  obtain ⟨v, ws, st, c, rfl, hva, q⟩ := h
  obtain ⟨dx, wa, wp, hv, ewa, ewp⟩ := id hva
  refine ⟨_, pss_one (ps_ret (pe_make Y.mk' GI hr rfl Y.mgC Y.DI.b .nil pass0 (pa_cons (pe_fld (pv 0) rfl) (pa_cons (pe_fld (pv 0) rfl) (pa_cons (pe_tup (pa_cons (pe_glob rfl gr (v := .str "r") ⟨_, rfl⟩) (pa_cons (pe_glob rfl gc (v := .str "c") ⟨_, rfl⟩) pa_nil))) pa_nil))))), ?_⟩
  refine ⟨_, rfl, v, C, dx, _, _, rfl, hv, Y.cl, Y.nSteps, vf_steps _ _ _, _, rfl, v, C, dx, _, _, rfl, hv, Y.cl, Y.nStart, vf_start _ _ _, sz2, fun t ht => ?_⟩
  intro x dx' hx hdx ne
  have s1 : Same H (upd H t (.tup [.str "r", .str "c"])) := Same.new ht
  exact view_made (st := st) (c := true) (s1 _ _ ewa) upd_same hx hdx ne rfl fun u H' sm hu => q u H' (s1.trans sm) hu
end
end MS
end
section
set_option maxRecDepth 100000
set_option maxHeartbeats 4000000
namespace MS
open PySem L2
/-- the word that a scheme names itself -/
def wordOf : Sch → Str
  | .step x _ => x
  | .seen x _ => x
  | .behind x _ => x
  | .fin x _ _ => x
  | _ => ""
/-- the schemes within -/
def kidsOf : Sch → List Sch
  | .step _ _ => []
  | .all k => k
  | .best k => k
  | .most _ s => [s]
  | .half s => [s]
  | .seen _ s => [s]
  | .behind _ s => [s]
  | .carry s => [s]
  | .fin _ _ s => [s]
  | .use _ => []
structure Shp (H : Hp) (i M d : Nat) (sc : Sch) (nm : Str) (rest : List V) (kinds : List Str) (kv : List V) : Prop where
  mem : (nm, kinds) ∈ shapesL
  fit : Paired (FitsR H i M) rest kinds
  ok : ∀ s ∈ kidsOf sc, OkS i M d s
  at_ : Paired (SAt H d) (kidsOf sc) kv
  w1 : ∃ k0 kr, kinds = k0 :: kr ∧ ((k0 = "word" ∧ atI (.str nm :: rest) 1 = some (.str (wordOf sc))) ∨ (k0 ≠ "word" ∧ wordOf sc = ""))
  k1 : ∃ kl, atI (kinds.map V.str) (-1) = some (.str kl) ∧ ((kl = "schemes" ∧ ∃ b, atI (.str nm :: rest) (-1) = some (.ref b) ∧ H b = some (.tup kv)) ∨ (kl = "scheme" ∧ ∃ u, atI (.str nm :: rest) (-1) = some u ∧ kv = [u]) ∨ (kl ≠ "schemes" ∧ kl ≠ "scheme" ∧ kv = []))
theorem SAt.shape {H : Hp} {i M d : Nat} {sc : Sch} {a : Addr} {nm : Str} {rest : List V} (h : SAt H (d + 1) sc (.ref a)) (o : OkS i M (d + 1) sc) (ea : H a = some (.tup (.str nm :: rest))) : ∃ kinds kv, Shp H i M d sc nm rest kinds kv := by
  have inj : ∀ {a' : Addr} {nm' : Str} {rest' : List V}, (V.ref a = V.ref a') → H a' = some (.tup (.str nm' :: rest')) → nm' = nm ∧ rest' = rest := fun e h => by
    cases e
    rw [ea] at h
    cases h
    exact ⟨rfl, rfl⟩
  have fw : ∀ {x : Str}, IsW x → FitsR H i M (.str x) "word" := fun hx => .inl ⟨rfl, _, rfl, hx⟩
  have fp : ∀ {p : Int}, 1 ≤ p → p ≤ 9 → FitsR H i M (.int p) "points" := fun h1 h2 => .inr (.inl ⟨rfl, _, rfl, h1, h2⟩)
  have fs : ∀ {u : V}, FitsR H i M u "scheme" := .inr (.inr (.inr (.inr (.inl rfl))))
  have one : ∀ {s : Sch}, OkS i M d s → ∀ s' ∈ [s], OkS i M d s' := fun o s' h' => by rw [List.mem_singleton.mp h']; exact o
  cases sc with
  | step x p =>
    obtain ⟨a', e, h⟩ := h
    obtain ⟨rfl, rfl⟩ := inj e h
    exact ⟨["word", "points"], [], by decide +kernel, .cons (fw o.1) (.cons (fp o.2.1 o.2.2) .nil), (fun _ h => nomatch h), .nil, ⟨_, _, rfl, .inl ⟨rfl, at1⟩⟩, ⟨"points", rfl, .inr (.inr ⟨by decide +kernel, by decide +kernel, rfl⟩)⟩⟩
  | all k =>
    obtain ⟨a', b, vs, e, h, eb, hk⟩ := h
    obtain ⟨rfl, rfl⟩ := inj e h
    have := Paired.length hk
    have h1 := o.1
    have h2 := o.2.1
    exact ⟨["schemes"], vs, by decide +kernel, .cons (.inr (.inr (.inr (.inl ⟨rfl, b, vs, rfl, eb, by omega, by omega⟩)))) .nil, o.2.2, hk, ⟨_, _, rfl, .inr ⟨by decide +kernel, rfl⟩⟩, ⟨"schemes", rfl, .inl ⟨rfl, b, rfl, eb⟩⟩⟩
  | best k =>
    obtain ⟨a', b, vs, e, h, eb, hk⟩ := h
    obtain ⟨rfl, rfl⟩ := inj e h
    have := Paired.length hk
    have h1 := o.1
    have h2 := o.2.1
    exact ⟨["schemes"], vs, by decide +kernel, .cons (.inr (.inr (.inr (.inl ⟨rfl, b, vs, rfl, eb, by omega, by omega⟩)))) .nil, o.2.2, hk, ⟨_, _, rfl, .inr ⟨by decide +kernel, rfl⟩⟩, ⟨"schemes", rfl, .inl ⟨rfl, b, rfl, eb⟩⟩⟩
  | most n s =>
    obtain ⟨a', u, e, h, hs⟩ := h
    obtain ⟨rfl, rfl⟩ := inj e h
    exact ⟨["limit", "scheme"], [u], by decide +kernel, .cons (.inr (.inr (.inl ⟨rfl, n, rfl, o.1.1, o.1.2⟩))) (.cons fs .nil), one o.2, .cons hs .nil, ⟨_, _, rfl, .inr ⟨by decide +kernel, rfl⟩⟩, ⟨"scheme", rfl, .inr (.inl ⟨rfl, u, rfl, rfl⟩)⟩⟩
  | half s =>
    obtain ⟨a', u, e, h, hs⟩ := h
    obtain ⟨rfl, rfl⟩ := inj e h
    exact ⟨["scheme"], [u], by decide +kernel, .cons fs .nil, one o, .cons hs .nil, ⟨_, _, rfl, .inr ⟨by decide +kernel, rfl⟩⟩, ⟨"scheme", rfl, .inr (.inl ⟨rfl, u, rfl, rfl⟩)⟩⟩
  | seen x s =>
    obtain ⟨a', u, e, h, hs⟩ := h
    obtain ⟨rfl, rfl⟩ := inj e h
    exact ⟨["word", "scheme"], [u], by decide +kernel, .cons (fw o.1) (.cons fs .nil), one o.2, .cons hs .nil, ⟨_, _, rfl, .inl ⟨rfl, at1⟩⟩, ⟨"scheme", rfl, .inr (.inl ⟨rfl, u, rfl, rfl⟩)⟩⟩
  | behind x s =>
    obtain ⟨a', u, e, h, hs⟩ := h
    obtain ⟨rfl, rfl⟩ := inj e h
    exact ⟨["word", "scheme"], [u], by decide +kernel, .cons (fw o.1) (.cons fs .nil), one o.2, .cons hs .nil, ⟨_, _, rfl, .inl ⟨rfl, at1⟩⟩, ⟨"scheme", rfl, .inr (.inl ⟨rfl, u, rfl, rfl⟩)⟩⟩
  | carry s =>
    obtain ⟨a', u, e, h, hs⟩ := h
    obtain ⟨rfl, rfl⟩ := inj e h
    exact ⟨["scheme"], [u], by decide +kernel, .cons fs .nil, one o, .cons hs .nil, ⟨_, _, rfl, .inr ⟨by decide +kernel, rfl⟩⟩, ⟨"scheme", rfl, .inr (.inl ⟨rfl, u, rfl, rfl⟩)⟩⟩
  | fin x p s =>
    obtain ⟨a', u, e, h, hs⟩ := h
    obtain ⟨rfl, rfl⟩ := inj e h
    exact ⟨["word", "points", "scheme"], [u], by decide +kernel, .cons (fw o.1.1) (.cons (fp o.1.2.1 o.1.2.2) (.cons fs .nil)), one o.2, .cons hs .nil, ⟨_, _, rfl, .inl ⟨rfl, at1⟩⟩, ⟨"scheme", rfl, .inr (.inl ⟨rfl, u, rfl, rfl⟩)⟩⟩
  | use n =>
    obtain ⟨a', e, h⟩ := h
    obtain ⟨rfl, rfl⟩ := inj e h
    exact ⟨["later"], [], by decide +kernel, .cons (.inr (.inr (.inr (.inr (.inr ⟨rfl, n, rfl, o.1, o.2⟩))))) .nil, (fun _ h => nomatch h), .nil, ⟨_, _, rfl, .inr ⟨by decide +kernel, rfl⟩⟩, ⟨"later", rfl, .inr (.inr ⟨by decide +kernel, by decide +kernel, rfl⟩)⟩⟩
def spWordIn : Sp := fun vs H Q _ => ∃ (v : V) (sc : Sch) (i M d : Nat), vs = [v] ∧ SAt H (d + 1) sc v ∧ OkS i M (d + 1) sc ∧ Q (.str (wordOf sc)) H
def spWithin : Sp := fun vs H Q _ => ∃ (v : V) (sc : Sch) (i M d : Nat), vs = [v] ∧ SAt H (d + 1) sc v ∧ OkS i M (d + 1) sc ∧ ∀ (f : Addr) (kv : List V), H f = none → Paired (SAt H d) (kidsOf sc) kv → Q (.ref f) (upd H f (.lst kv))
section
variable {P : Program} {w : World} {K : PySem.W.Frag} {mg : Str → Option Value} {base : Heap}
theorem ok_within (T : PTx w K mg) (D : Def K mg "within" s_within ["scheme"]) : FnOk P w K mg base CX0 1 D.f D.fd ["scheme"] spWithin := by
  obtain ⟨aS, gS, low, hS⟩ := T.shapes
  have nd := sc_within.nd
  refine D.ok sc_within (fun vs H Q E h => ?_) (fun cdv A outer s H vs Q E hr h => ?_)
  · obtain ⟨v, sc, i, M, d, rfl, _⟩ := h
    rfl
  obtain ⟨v, sc, i, M, d, rfl, hs, ho, q⟩ := h
  refine ⟨_, pss_cons (ps_set (i := 1) nd rfl (Or.inl rfl) (pe_ix ix_tup (pe_ix ix_kdict (pe_glob rfl gS (v := .ref aS) rfl) (pe_ix ix_tup (pv 0) pe_int (fun _ _ => rfl)) (fun _ _ => rfl)) (pe_un un_neg pe_int) (fun _ _ => rfl)))
    (pss_cons (ps_if (pt_cmpR op_eq (pv 1) pe_str (nomark _)) (pss_one (ps_ret (pe_callTy call_list_of rfl (T.free "list" (by decide +kernel)) (by decide +kernel) (pa_cons (pe_ix ix_tup (pv 0) (pe_un un_neg pe_int) (fun _ _ => rfl)) pa_nil)))) pss_nil)
    (pss_one (ps_ret (pe_ifExp (pt_cmpR op_eq (pv 1) pe_str (nomark _)) (pe_lst (pa_cons (pe_ix ix_tup (pv 0) (pe_un un_neg pe_int) (fun _ _ => rfl)) pa_nil)) (pe_lst pa_nil))))), ?_⟩
  obtain ⟨a, nm, rest, rfl, ea⟩ := hs.tag
  obtain ⟨kinds, kv, S⟩ := hs.shape ho ea
  obtain ⟨t, kd, qt⟩ := hS _ S.mem
  obtain ⟨kl, hl, hk⟩ := S.k1
  refine ⟨_, rfl, a, _, 0, .str nm, rfl, rfl, SqT.of ea, at0, aS, nm, .ref t, rfl, rfl, kd, 1, rfl, t, _, -1, .str kl, rfl, rfl, qt _, hl, ?_⟩
  have S_at := S.at_
  rcases hk with ⟨e, b, e1, eb⟩ | ⟨e, u, e1, ek⟩ | ⟨n1, n2, ek⟩
  · refine seq_if (b := true) (is_word rfl (by rw [e]; decide +kernel)) (fun _ => ?_) (fun z => nomatch z)
    exact ⟨_, rfl, 1, rfl, a, _, -1, .ref b, rfl, rfl, SqT.of ea, e1, b, kv, rfl, .inr (SqT.of eb), fun l hl' => q l kv hl' S_at⟩
  · refine seq_if (b := false) (is_word rfl (by rw [e]; decide +kernel)) (fun z => nomatch z) (fun _ => ?_)
    refine is_word (b := true) rfl (by rw [e]; decide +kernel) _ (iteT ?_)
    exact ⟨_, rfl, 1, rfl, a, _, -1, u, rfl, rfl, SqT.of ea, e1, szN (by show 1 ≤ 1000; decide), fun l hl' => q l _ hl' (by rw [← ek]; exact S_at)⟩
  · refine seq_if (b := false) (is_word rfl (beq_eq_false_iff_ne.mpr n1)) (fun z => nomatch z) (fun _ => ?_)
    refine is_word (b := false) rfl (beq_eq_false_iff_ne.mpr n2) _ (iteF ?_)
    exact ⟨Nat.zero_le _, fun l hl' => q l _ hl' (by rw [← ek]; exact S_at)⟩
end
end MS
end
section
set_option maxRecDepth 100000
set_option maxHeartbeats 4000000
namespace MS
open PySem L2
/-! ### rows in the program -/
theorem pts_sum : ∀ rs : List Row, (rs.map fun r => ((r.2.1 : Nat) : Int)).sum = ((pts rs : Nat) : Int)
  | [] => rfl
  | r :: t => by
    rw [List.map_cons, List.sum_cons, pts_sum t, pts_cons]
    omega
def spPoints : Sp := fun vs H Q _ => ∃ (a : Addr) (rs : List Row) (rv : List V), vs = [.ref a] ∧ H a = some (.lst rv) ∧ Paired (RowR H) rs rv ∧ rs.length ≤ 1000 ∧ ∀ H', Same H H' → Q (.int ((pts rs : Nat) : Int)) H'
def spFirst : Sp := fun vs H Q _ => ∃ (a : Addr) (n : Nat) (rs : List Row) (rv : List V), vs = [.ref a, .int ((n : Nat) : Int)] ∧ H a = some (.lst rv) ∧ Paired (RowR H) rs rv ∧ rs.length ≤ 1000 ∧
  ∀ (f : Addr) (rv' : List V) (H' : Hp), Same H H' → H f = none → H' f = some (.lst rv') → Paired (RowR H') (firstP rs n) rv' → Q (.ref f) H'
theorem first_step (r : Row) (t : List Row) (left : Nat) : firstP (r :: t) left = if left = 0 then [] else (r.1, min r.2.1 left, r.2.2) :: firstP t (left - min r.2.1 left) := rfl
theorem first_zero (rs : List Row) : firstP rs 0 = [] := by
  cases rs with
  | nil => rfl
  | cons r t => rw [first_step, if_pos rfl]
theorem Same.newer {H H1 : Hp} {p : Addr} {o : HO} (k : Same H H1) (h : H p = none) : Same H (upd H1 p o) := fun b u q => by
  rw [upd_ne (ne_of_none q h)]
  exact k b u q
section
variable {P : Program} {w : World} {K : PySem.W.Frag} {mg : Str → Option Value} {base : Heap}
theorem ok_points_of (T : PTx w K mg) (D : Def K mg "points_of" s_points_of ["rows"]) : FnOk P w K mg base CX0 1 D.f D.fd ["rows"] spPoints := by
  have nd := sc_points_of.nd
  refine D.ok sc_points_of (fun vs H Q E h => ?_) (fun cdv A outer s H vs Q E hr h => ?_)
  · obtain ⟨a, rs, rv, rfl, _⟩ := h
    rfl
  obtain ⟨a, rs, rv, rfl, ea, pr, hl, q⟩ := h
  refine ⟨_, pss_one (ps_ret (pe_callB (cr_sum rfl) rfl (T.free "sum" (by decide +kernel)) (by decide +kernel) (pa_cons
    (pe_lc (own := [("place", 1), ("points", 2), ("where", 3)]) (g := gTup K 3 (gCons (gName 1) (gCons (gName 2) (gCons (gName 3) gNil)))) (tt := tYes) rfl nd (pi_list (pv 0)) (blkOk_by (N := ["rows", "place", "points", "where"]) (sc := defScope s_points_of) (by decide +kernel))
      (fun _ _ _ _ _ => pg_tup rfl (pgs_cons (pg_name (i := 1) nd rfl (Or.inl rfl)) (pgs_cons (pg_name (i := 2) nd rfl (Or.inl rfl)) (pgs_cons (pg_name (i := 3) nd rfl (Or.inl rfl)) pgs_nil)))) (fun _ _ _ _ _ => pts_nil) (fun _ _ _ _ _ => pv 2)) pa_nil))), ?_⟩
  have lr := Paired.length pr
  refine ⟨_, rfl, a, rfl, ⟨_, SqL.of ea⟩, fun Dd hD => ?_⟩
  have naD : a ≠ Dd := ne_of_none ea hD
  refine lc_list (K := K) (a := a) (xs := rv) (fun j H'' => H'' = upd H Dd (.lst (((rs.take j).map fun r => ((r.2.1 : Nat) : Int)).map V.int))) rfl (fun j H'' _ e => by rw [e]; exact SqL.of (by rw [upd_ne naD]; exact ea)) ?_ ?_
  · rintro j x H'' hj rfl
    obtain ⟨r, er', ⟨b, c, rfl, eb, ec⟩⟩ := paired_get' pr hj
    have hjl := (List.getElem?_eq_some_iff.mp er').1
    have tk : rs.take (j + 1) = rs.take j ++ [r] := by
      rw [List.take_succ, er']
      rfl
    refine ⟨b, _, rfl, SqT.of (Same.new hD _ _ eb), rfl, _, _, rfl, _, _, rfl, _, _, rfl, rfl, rfl, _, rfl, _, upd_same, ?_, ?_⟩
    · rw [List.length_map, List.length_map, List.length_take]
      exact small1000 (by omega)
    · rw [upd_upd, tk, List.map_append, List.map_append]
      rfl
  · rintro H'' rfl
    rw [← lr, List.take_length]
    refine ⟨Dd, _, rfl, SqL.of upd_same, ?_⟩
    rw [pts_sum]
    exact q _ (Same.new hD)
theorem ok_first_points (T : PTx w K mg) (D : Def K mg "first_points" s_first_points ["rows", "limit"]) : FnOk P w K mg base CX0 1 D.f D.fd ["rows", "limit"] spFirst := by
  have nd := sc_first_points.nd
  refine D.ok sc_first_points (fun vs H Q E h => ?_) (fun cdv A outer s H vs Q E hr h => ?_)
  · obtain ⟨a, n, rs, rv, rfl, _⟩ := h
    rfl
  obtain ⟨a, n, rs, rv, rfl, ea, pr, hl, q⟩ := h
  refine ⟨_, pss_cons (ps_set (i := 2) nd rfl (Or.inl rfl) (pe_lst pa_nil))
    (pss_cons (ps_set (i := 3) nd rfl (Or.inl rfl) (pv 1))
    (pss_cons (ps_for PassesOwn.never rfl (pi_list (pv 0)) (pg_tup (by rfl) (pgs_cons (pg_name (i := 4) nd rfl (Or.inl rfl)) (pgs_cons (pg_name (i := 5) nd rfl (Or.inl rfl)) (pgs_cons (pg_name (i := 6) nd rfl (Or.inl rfl)) pgs_nil))))
      (pss_cons (ps_if (pt_cmpR op_eq (pv 3) pe_int (nomark _)) (pss_one ps_break) pss_nil)
      (pss_cons (ps_set (i := 7) nd rfl (Or.inl rfl) (pe_callB (call_min2 rfl) rfl (T.free "min" (by decide +kernel)) (by decide +kernel) (pa_cons (pv 5) (pa_cons (pv 3) pa_nil))))
      (pss_cons (ps_expr (pe_bm PySem.F.plainAttrs_list PySem.F.slot_list_append PySem.F.type_list_append mt_append (pv 2) (pa_cons (pe_tup (pa_cons (pv 4) (pa_cons (pv 7) (pa_cons (pv 6) pa_nil)))) pa_nil)))
      (pss_one (ps_aug (i := 3) nd rfl (Or.inl rfl) (pv 7) ip_sub))))))
    (pss_one (ps_ret (pv 2))))), ?_⟩
  have lr := Paired.length pr
  refine ⟨Nat.zero_le _, fun f hf => ?_⟩
  dsimp only [gName]
  refine ⟨_, rfl, ?_⟩
  dsimp only [gName]
  have s1 : Same H (upd H f (.lst [])) := Same.new hf
  refine ⟨_, rfl, a, rfl, ⟨_, SqL.of (s1 _ _ ea)⟩, for_list (K := K) (a := a) (xs := rv) (fun j σ H'' => ∃ (kj : List Row) (kv : List V) (left : Nat) (v4 v5 v6 v7 : Option V), σ = [some (.ref a), some (.int ((n : Nat) : Int)), some (.ref f), some (.int ((left : Nat) : Int)), v4, v5, v6, v7] ∧ H'' f = some (.lst kv) ∧ Paired (RowR H'') kj kv ∧ kj.length ≤ j ∧ firstP rs n = kj ++ firstP (rs.drop j) left ∧ Same H H'')
    ⟨[], [], n, none, none, none, none, rfl, upd_same, .nil, Nat.le_refl _, rfl, s1⟩ (fun j σ H'' _ ⟨_, _, _, _, _, _, _, _, _, _, _, _, s2⟩ => SqL.of (s2 _ _ ea)) ?_ ?_⟩
  · rintro j x σ H5 hj ⟨kj, kv, left, v4, v5, v6, v7, rfl, ef, pk, lk, hf1, s2⟩
    obtain ⟨r, er', ⟨b, c, rfl, eb, ec⟩⟩ := paired_get' pr hj
    have eb5 := s2 _ _ eb
    have ec5 := s2 _ _ ec
    have hjl := (List.getElem?_eq_some_iff.mp er').1
    have dr : rs.drop j = r :: rs.drop (j + 1) := by
      rw [List.drop_eq_getElem_cons hjl]
      congr 1
      exact Option.some.inj ((List.getElem?_eq_getElem hjl).symm.trans er')
    rw [dr, first_step] at hf1
    refine ⟨b, _, rfl, SqT.of eb5, rfl, _, _, rfl, _, _, rfl, _, _, rfl, rfl, ?_⟩
    refine seq_if (b := ((left : Nat) : Int) == 0) (fun Q q => ⟨_, rfl, rfl, _, rfl, by rw [dec_int]; exact q⟩) (fun z => ?_) (fun z => ?_)
    · have z0 : left = 0 := by have := eq_of_beq z; omega
      rw [if_pos z0, List.append_nil] at hf1
      exact ⟨_, rfl, q f kv H5 s2 hf ef (by rw [hf1]; exact pk)⟩
    · have z0 : left ≠ 0 := fun e => by rw [e] at z; cases z
      rw [if_neg z0] at hf1
      have hmin : (if ((left : Nat) : Int) < ((r.2.1 : Nat) : Int) then ((left : Nat) : Int) else ((r.2.1 : Nat) : Int)) = ((min r.2.1 left : Nat) : Int) := by split <;> omega
      refine ⟨_, rfl, _, rfl, _, _, rfl, ?_⟩
      rw [hmin]
      dsimp only [gName]
      refine ⟨_, rfl, .inl ⟨rfl, _, SqL.of ef⟩, _, rfl, _, rfl, _, rfl, szN (by show 3 ≤ 1000; decide), fun t ht => ?_⟩
      have ntf : f ≠ t := ne_of_none ef ht
      have ef7 : upd H5 t (.tup [.int ((r.1 : Nat) : Int), .int ((min r.2.1 left : Nat) : Int), .ref c]) f = some (.lst kv) := by rw [upd_ne ntf]; exact ef
      have tk : ∀ o, TupK H5 (upd (upd H5 t (.tup [.int ((r.1 : Nat) : Int), .int ((min r.2.1 left : Nat) : Int), .ref c])) f o) := fun o => (TupK.new ht).trans (TupK.put ef7)
      have lkv := Paired.length pk
      refine ⟨f, _, _, rfl, rfl, ef7, small1000 (by omega), ?_⟩
      refine ⟨_, rfl, _, rfl, _, _, rfl, rfl, ?_⟩
      refine ⟨kj ++ [(r.1, min r.2.1 left, r.2.2)], _, left - min r.2.1 left, some (.int ((r.1 : Nat) : Int)), some (.int ((r.2.1 : Nat) : Int)), some (.ref c), some (.int ((min r.2.1 left : Nat) : Int)), ?_, upd_same, paired_app (paired_imp pk fun _ _ h => RowR.keep h (tk _)) (.cons ⟨t, c, rfl, ?_, tk _ _ _ ec5⟩ .nil), ?_, ?_, ?_⟩
      · rw [show (((left - min r.2.1 left : Nat)) : Int) = ((left : Nat) : Int) - ((min r.2.1 left : Nat) : Int) by omega]
        rfl
      · rw [upd_ne ntf.symm, upd_same]
      · rw [List.length_append]
        simp
        omega
      · rw [hf1]
        simp
      · exact Same.newer (s2.trans (Same.new ht)) hf
  · rintro σ H5 ⟨kj, kv, left, v4, v5, v6, v7, rfl, ef, pk, lk, hf1, s2⟩
    rw [← lr, List.drop_length] at hf1
    have e : firstP rs n = kj := by rw [hf1]; show kj ++ [] = kj; rw [List.append_nil]
    exact ⟨_, rfl, q f kv H5 s2 hf ef (by rw [e]; exact pk)⟩
end
end MS
end
section
set_option maxRecDepth 100000
set_option maxHeartbeats 4000000
namespace MS
open PySem L2
theorem word_ne {x : Str} (h : IsW x) : x.length ≠ 0 := by rw [h.len]; decide
theorem wP_shape {ps : List Sch} {k i M d : Nat} {sc : Sch} (o : OkS i M (d + 1) sc) (nu : ∀ n, sc ≠ .use n) : wP ps (k + 1) sc = (if (wordOf sc).length ≠ 0 then [wordOf sc] else []) ++ ((kidsOf sc).map (wP ps k)).flatten := by
  have one : ∀ s, ([s].map (wP ps k)).flatten = wP ps k s := fun s => by
    show wP ps k s ++ [] = _
    rw [List.append_nil]
  have z0 : ¬ (Str.length "" ≠ 0) := by decide
  cases sc with
  | step x p => rw [if_pos (show (wordOf (Sch.step x p)).length ≠ 0 from word_ne o.1)]; rfl
  | all ks => rw [if_neg (show ¬ (wordOf (Sch.all ks)).length ≠ 0 from z0)]; rfl
  | best ks => rw [if_neg (show ¬ (wordOf (Sch.best ks)).length ≠ 0 from z0)]; rfl
  | most n s => rw [if_neg (show ¬ (wordOf (Sch.most n s)).length ≠ 0 from z0)]; exact (one s).symm
  | half s => rw [if_neg (show ¬ (wordOf (Sch.half s)).length ≠ 0 from z0)]; exact (one s).symm
  | seen x s => rw [if_pos (show (wordOf (Sch.seen x s)).length ≠ 0 from word_ne o.1)]; show x :: wP ps k s = x :: ([s].map (wP ps k)).flatten; rw [one]
  | behind x s => rw [if_pos (show (wordOf (Sch.behind x s)).length ≠ 0 from word_ne o.1)]; show x :: wP ps k s = x :: ([s].map (wP ps k)).flatten; rw [one]
  | carry s => rw [if_neg (show ¬ (wordOf (Sch.carry s)).length ≠ 0 from z0)]; exact (one s).symm
  | fin x p s => rw [if_pos (show (wordOf (Sch.fin x p s)).length ≠ 0 from word_ne o.1.1)]; show x :: wP ps k s = x :: ([s].map (wP ps k)).flatten; rw [one]
  | use n => exact absurd rfl (nu n)
theorem wordOf_len {i M d : Nat} {sc : Sch} (o : OkS i M (d + 1) sc) : (wordOf sc).length ≤ 1 := by
  cases sc with
  | step x p => exact Nat.le_of_eq (IsW.len o.1)
  | seen x s => exact Nat.le_of_eq (IsW.len o.1)
  | behind x s => exact Nat.le_of_eq (IsW.len o.1)
  | fin x p s => exact Nat.le_of_eq (IsW.len o.1.1)
  | all ks => show Str.length "" ≤ 1; decide
  | best ks => show Str.length "" ≤ 1; decide
  | most n s => show Str.length "" ≤ 1; decide
  | half s => show Str.length "" ≤ 1; decide
  | carry s => show Str.length "" ≤ 1; decide
  | use n => show Str.length "" ≤ 1; decide

theorem paired_impM {α β : Type} {R T : α → β → Prop} : ∀ {xs : List α} {ys : List β}, Paired R xs ys → (∀ x ∈ xs, ∀ y, R x y → T x y) → Paired T xs ys
  | _, _, .nil, _ => .nil
  | _, _, .cons r t, h => .cons (h _ List.mem_cons_self _ r) (paired_impM t fun x hx => h x (List.mem_cons_of_mem _ hx))
/-- the schemes within, of a use the used one -/
def partsOf (ps : List Sch) : Sch → List Sch
  | .use n => (ps[n]?).toList
  | s => kidsOf s
theorem parts_kids {ps : List Sch} {sc : Sch} (nu : ∀ n, sc ≠ .use n) : partsOf ps sc = kidsOf sc := by
  cases sc with
  | use n => exact absurd rfl (nu n)
  | _ => rfl
theorem wP_parts {ps : List Sch} {k i M d : Nat} {sc : Sch} (o : OkS i M (d + 1) sc) : wP ps (k + 1) sc = (if (wordOf sc).length ≠ 0 then [wordOf sc] else []) ++ ((partsOf ps sc).map (wP ps k)).flatten := by
  by_cases h : ∃ n, sc = .use n
  · obtain ⟨n, rfl⟩ := h
    have z0 : ¬ (Str.length "" ≠ 0) := by decide
    rw [if_neg (show ¬ (wordOf (Sch.use n)).length ≠ 0 from z0)]
    show (match ps[n]? with
      | none => []
      | some s => wP ps k s) = [] ++ (((ps[n]?).toList).map (wP ps k)).flatten
    cases ps[n]? with
    | none => rfl
    | some s => show wP ps k s = wP ps k s ++ []; rw [List.append_nil]
  · have nu : ∀ n, sc ≠ .use n := fun n e => h ⟨n, e⟩
    rw [parts_kids nu]
    exact wP_shape o nu
def PartR (H : Hp) (M k : Nat) (s : Sch) (v : V) : Prop := ∃ i d, SAt H d s v ∧ OkS i M d s ∧ (M - i) * 5 + d ≤ k
def spParts (ps : List Sch) (M k : Nat) : Sp := fun vs H Q _ => ∃ (pa : Addr) (v : V) (s : Sch) (i d : Nat), vs = [.ref pa, v] ∧ (∃ pv, H pa = some (.tup pv) ∧ Paired (SAt H 5) ps pv) ∧ SAt H (d + 1) s v ∧ OkS i M (d + 1) s ∧ (M - i) * 5 + (d + 1) ≤ k + 1 ∧
  ∀ (f : Addr) (kv : List V), H f = none → Paired (PartR H M k) (partsOf ps s) kv → (partsOf ps s).length ≤ 4 → Q (.ref f) (upd H f (.lst kv))
section
variable {P : Program} {w : World} {K : PySem.W.Frag} {mg : Str → Option Value} {base : Heap}
theorem kids_few {i M d : Nat} {sc : Sch} (o : OkS i M (d + 1) sc) : (kidsOf sc).length ≤ 4 := by
  cases sc with
  | all k => exact o.2.1
  | best k => exact o.2.1
  | _ => first | (show 0 ≤ 4; decide) | (show 1 ≤ 4; decide)
theorem PartR.keep {H H' : Hp} {M k : Nat} {s : Sch} {v : V} (h : PartR H M k s v) (t : TupK H H') : PartR H' M k s v := by
  obtain ⟨i, d, h1, h2, h3⟩ := h
  exact ⟨i, d, SAt.keep t _ _ _ h1, h2, h3⟩
end
end MS
end
section
set_option maxRecDepth 100000
set_option maxHeartbeats 4000000
namespace MS
open PySem L2
theorem walk_zipT {K : PySem.W.Frag} {a b : Addr} {xs ys : List V} {n : Nat} (hn : n = min xs.length ys.length) : Walk (RZ.ItzT K a b) n (fun H => SqT K H a xs ∧ SqT K H b ys) (YPair (fun i => xs[i]?) (fun i => ys[i]?)) := by
  subst hn
  refine ⟨fun i _ hi q => ?_, fun _ q => ⟨xs, ys, q.1, q.2, by omega⟩, fun i H v H' _ q y => ?_⟩
  · have h1 : i < xs.length := by omega
    have h2 : i < ys.length := by omega
    exact ⟨xs, ys, xs[i], ys[i], q.1, q.2, by simp [h1], by simp [h2]⟩
  · obtain ⟨T, x, z, h1, h2, h3, h4, h5⟩ := y
    exact ⟨T, x, z, h1, h2, h3, h4 xs q.1, h5 ys q.2⟩
def spCanBe (i M : Nat) : Sp := fun vs H Q _ => ∃ (v : V) (sc : Sch) (d : Nat), vs = [v, .int ((i : Nat) : Int), .int ((M : Nat) : Int)] ∧ SAt H (d + 1) sc v ∧ OkS i M (d + 1) sc ∧ ∀ H', Same H H' → Q (.bl true) H'
abbrev nmCanBe : List Str := ["thing", "number", "many", "shape", "part", "kind"]
abbrev psFits : List Str := ["part", "kind", "number", "many"]
theorem FitsR.keep {H H' : Hp} {i M : Nat} {v : V} {z : Str} (h : FitsR H i M v z) (k : Same H H') : FitsR H' i M v z := by
  rcases h with h | h | h | ⟨e, b, vs, e1, e2, h1, h2⟩ | h | h
  · exact .inl h
  · exact .inr (.inl h)
  · exact .inr (.inr (.inl h))
  · exact .inr (.inr (.inr (.inl ⟨e, b, vs, e1, k _ _ e2, h1, h2⟩)))
  · exact .inr (.inr (.inr (.inr (.inl h))))
  · exact .inr (.inr (.inr (.inr (.inr h))))
theorem not_whole {n : Nat} (h : 0 < n) : ¬ (HT.sIx n 0 (some 1) = 0 ∧ HT.sIx n n none = n) := fun ⟨h1, _⟩ => by
  have e := HT.sIx_nat n 0 1
  have h2 : HT.sIx n 0 (some ((1 : Nat) : Int)) = 0 := h1
  rw [e] at h2
  omega
section
variable {P : Program} {w : World} {K : PySem.W.Frag} {mg : Str → Option Value} {base : Heap}
theorem ok_can_be {i M : Nat} (T : PTx w K mg) (D : Def K mg "can_be" s_can_be ["thing", "number", "many"]) (DF : Def K mg "fits" s_fits psFits) (DN : Def K mg "is_number" s_is_number ["thing"]) : FnOk P w K mg base CX0 3 D.f D.fd ["thing", "number", "many"] (spCanBe i M) := by
  have GF : FnOk P w K mg base CX0 2 DF.f DF.fd psFits (spFits i M) := ok_fits T DF DN
  obtain ⟨aS, gS, low, hS⟩ := T.shapes
  have nd := sc_can_be.nd
  refine D.ok sc_can_be (fun vs H Q E h => ?_) (fun cdv A outer s H vs Q E hr h => ?_)
  · obtain ⟨v, sc, d, rfl, _⟩ := h
    rfl
  obtain ⟨v, sc, d, rfl, hs, ho, q⟩ := h
  refine ⟨_, pss_cons (ps_if (PW.pt (pw_or (pt_not (pt_val (pe_callB call_isi rfl (T.free "isinstance" (by decide +kernel)) (by decide +kernel) (pa_cons (pv 0) (pa_cons (pe_bltn rfl (T.free "tuple" (by decide +kernel)) (by decide +kernel) (v := .ty "tuple") rfl) pa_nil)))))
      (pw_or (pt_not (pt_truth (pv 0) (by intro _; rfl))) (pw_or1 (pt_not (pt_val (pe_callB call_isi rfl (T.free "isinstance" (by decide +kernel)) (by decide +kernel) (pa_cons (pe_ix ix_tup (pv 0) pe_int (fun _ _ => rfl)) (pa_cons (pe_bltn rfl (T.free "str" (by decide +kernel)) (by decide +kernel) (v := .ty "str") rfl) pa_nil))))))))) (pss_one (ps_ret pe_bl)) pss_nil)
    (pss_cons (ps_set (i := 3) nd rfl (Or.inl rfl) (pe_kget2 (pe_glob rfl gS (v := .ref aS) rfl) (pe_ix ix_tup (pv 0) pe_int (fun _ _ => rfl)) pe_non ⟨rfl, rfl, rfl, rfl⟩))
    (pss_cons (ps_if (PW.pt (pw_or (pt_cmpR op_isN (pv 3) pe_non (nomark _)) (pw_or1 (pt_cmpR op_ne (pe_callB call_len_seq rfl (T.free "len" (by decide +kernel)) PySem.boot_len (pa_cons (pv 0) pa_nil)) (pe_op op_add (pe_callB call_len_seq rfl (T.free "len" (by decide +kernel)) PySem.boot_len (pa_cons (pv 3) pa_nil)) pe_int) (nomark _))))) (pss_one (ps_ret pe_bl)) pss_nil)
    (pss_one (ps_ret (pe_callB (cr_all rfl) rfl (T.free "all" (by decide +kernel)) (by decide +kernel) (pa_cons
      (pe_lc (own := [("part", 4), ("kind", 5)]) (g := gTup K 2 (gCons (gName 4) (gCons (gName 5) gNil))) (tt := tYes) rfl nd (RZ.pi_zipA rfl (T.free "zip" (by decide +kernel)) (pa_cons (pe_slice sl_tupA (pv 0) (po_some pe_int) po_none) (pa_cons (pv 3) pa_nil))) (blkOk_by (N := nmCanBe) (sc := defScope s_can_be) (by decide +kernel))
        (fun _ _ _ _ _ => pg_tup rfl (pgs_cons (pg_name (i := 4) nd rfl (Or.inl rfl)) (pgs_cons (pg_name (i := 5) nd rfl (Or.inl rfl)) pgs_nil))) (fun _ _ _ _ _ => pts_nil)
        (fun _ _ _ _ _ => pcall DF GF hr (pa_cons (pv 4) (pa_cons (pv 5) (pa_cons (pv 1) (pa_cons (pv 2) pa_nil)))))) pa_nil)))))), ?_⟩
  obtain ⟨a, nm, rest, rfl, ea⟩ := hs.tag
  obtain ⟨kinds, kv, S⟩ := hs.shape ho ea
  obtain ⟨t, kd, qt⟩ := hS _ S.mem
  have lrk := Paired.length S.fit
  have lk3 : kinds.length ≤ 3 := by
    have z : ∀ p ∈ shapesL, p.2.length ≤ 3 := by decide +kernel
    exact z _ S.mem
  refine seq_if (b := false || (false || false)) (ev_or (b := false) (c := false || false) (fun Q q => ⟨_, rfl, _, .ty "tuple", .type "tuple", .type "tuple", true, rfl, .ty _, .base (.tup ea), kit_ty (by decide +kernel), _, rfl, q⟩)
    (ev_or (b := false) (c := false) (fun Q q => ⟨_, rfl, true, .inr (.inl ⟨_, SqT.of ea, rfl⟩), q⟩) (fun Q q => ⟨_, rfl, a, _, 0, .str nm, rfl, rfl, SqT.of ea, at0, _, .ty "str", .type "str", .type "str", true, rfl, .ty _, .base (.str nm), kit_ty (by decide +kernel), _, rfl, q⟩))) (fun z => nomatch z) (fun _ => ?_)
  refine ⟨aS, rfl, low, ⟨_, _, kd⟩, _, rfl, a, _, 0, .str nm, rfl, rfl, SqT.of ea, at0, nm, rfl, .inl ⟨_, kd, ?_⟩⟩
  dsimp only [gName]
  refine seq_if (b := false || false) (ev_or (b := false) (c := false) (fun Q q => ⟨_, rfl, rfl, _, rfl, by rw [decide_eq_false (fun z => nomatch z)]; exact q⟩)
    (fun Q q => ⟨_, rfl, a, _, rfl, .inr (SqT.of ea), _, rfl, t, _, rfl, .inr (qt _), _, _, rfl, rfl, rfl, _, rfl, (by
      have e : V.int (((V.str nm :: rest).length : Nat) : Int) = V.int (((kinds.map V.str).length : Nat) + 1 : Int) := by
        rw [List.length_cons, List.length_map, lrk]
        rfl
      rw [decide_eq_true e]
      exact q)⟩)) (fun z => nomatch z) (fun _ => ?_)
  refine ⟨_, rfl, 1, rfl, a, _, rfl, SqT.of ea, fun z => absurd z (not_whole (Nat.succ_pos _)), fun _ p hp => ?_⟩
  have s1 : Same H (upd H p (.tup (cutV (V.str nm :: rest) (some 1) none))) := Same.new hp
  have ec : cutV (V.str nm :: rest) (some 1) none = rest := cut_from (V.str nm :: rest) 1
  rw [ec] at s1 ⊢
  refine ⟨_, rfl, p, t, rest, kinds.map V.str, rfl, .inr ⟨SqT.of upd_same, qt _, fun Dd hD => ?_⟩⟩
  have s2 := s1.trans (Same.new (o := .lst []) hD)
  have ep : upd H p (.tup rest) p = some (.tup rest) := upd_same
  refine lc_it (walk_zipT (K := K) (a := p) (b := t) (xs := rest) (ys := kinds.map V.str) (n := rest.length) (by rw [List.length_map]; omega)) (fun j H'' => H'' Dd = some (.lst ((List.replicate j true).map V.bl)) ∧ Same (upd H p (.tup rest)) H'') ⟨upd_same, Same.new hD⟩ (fun j H'' _ ⟨_, s3⟩ => ⟨SqT.of (s3 _ _ ep), qt _⟩) ?_ ?_
  · rintro j x H2 H3 hj ⟨eD, s3⟩ ⟨T1, x1, x2, rfl, hT1, rfl, ex1, ex2⟩
    obtain ⟨k', ek', rfl⟩ : ∃ k', kinds[j]? = some k' ∧ x2 = V.str k' := by
      have ex2 : (kinds.map V.str)[j]? = some x2 := ex2
      rw [List.getElem?_map] at ex2
      cases e : kinds[j]? with
      | none => rw [e] at ex2; cases ex2
      | some k' => rw [e] at ex2; exact ⟨k', rfl, (Option.some.inj ex2).symm⟩
    obtain ⟨x', ex', hf⟩ := paired_get' S.fit ek'
    have ex1 : rest[j]? = some x1 := ex1
    rw [ex1] at ex'
    cases ex'
    have s4 := (s1.trans s3).trans (Same.new (o := .tup [x1, .str k']) hT1)
    refine ⟨T1, _, rfl, SqT.of upd_same, rfl, _, _, rfl, _, _, rfl, rfl, rfl, _, rfl, _, rfl, _, rfl, _, rfl, x1, k', rfl, hf.keep s4, _, Same.new hT1 _ _ eD, ?_, ?_, ?_⟩
    · rw [List.length_map, List.length_replicate]
      exact small1000 (by omega)
    · rw [upd_same, List.replicate_succ']
      rw [List.map_append]
      rfl
    · exact fun b o e => by
        rw [upd_ne (ne_of_none e hD)]
        exact (s3.trans (Same.new hT1)) b o e
  · rintro H'' ⟨eD, s3⟩
    refine ⟨Dd, _, rfl, SqL.of eD, ?_⟩
    rw [show (List.replicate rest.length true).all id = true by rw [List.all_replicate]; simp]
    exact q _ (s1.trans s3)
end
end MS
end
section
set_option maxRecDepth 100000
set_option maxHeartbeats 4000000
namespace MS
open PySem L2
theorem cat_at {K : PySem.W.Frag} {σ : St} {H : Hp} {wr : Addr} {wh : List Nat} {j i : Nat} {te : TE} {Q : VK} (s5 : σ[i]? = some (some (.ref wr))) (ewr : H wr = some (.tup (natV wh))) (hl : wh.length ≤ 200) (ht : ∀ Q : VK, Q (.int ((j : Nat) : Int)) H → te σ H Q)
    (q : ∀ (wr' : Addr) (H' : Hp), Same H H' → H' wr' = some (.tup (natV (wh ++ [j]))) → Q (.ref wr') H') : tOp (rCatA K) (tVar i) (tTup (tCons te tNil)) σ H Q := by
  refine ⟨_, s5, ht _ ⟨(by show 1 ≤ sizeLine; decide), fun t htn => ⟨wr, t, natV wh, [.int ((j : Nat) : Int)], rfl, rfl, SqT.of (Same.new htn _ _ ewr), SqT.of upd_same, szN (by rw [natV_len]; show wh.length + 1 ≤ 1000; omega), (fun z => ?_), (fun _ z => nomatch z), fun z _ p hp => ?_⟩⟩⟩
  · have z' : wh = [] := List.map_eq_nil_iff.mp z
    subst z'
    exact q t _ (Same.new htn) upd_same
  · exact q p _ ((Same.new htn).trans (Same.new hp)) (by rw [upd_same, natV_snoc])
/-- a place and what stands there -/
def PlR (H : Hp) (x : List Nat × V) (v : V) : Prop := ∃ b q, v = V.ref b ∧ H b = some (.tup [.ref q, x.2]) ∧ H q = some (.tup (natV x.1))
theorem PlR.keep {H H' : Hp} {x : List Nat × V} {v : V} (h : PlR H x v) (k : TupK H H') : PlR H' x v := by
  obtain ⟨b, q, e, h1, h2⟩ := h
  exact ⟨b, q, e, k _ _ h1, k _ _ h2⟩
def placedL (wh : List Nat) (xs : List V) : List (List Nat × V) := xs.zipIdx.map fun p => (wh ++ [p.2], p.1)
def spPlaced : Sp := fun vs H Q _ => ∃ (l pl : Addr) (xs : List V) (wh : List Nat), vs = [.ref l, .ref pl] ∧ H l = some (.lst xs) ∧ H pl = some (.tup (natV wh)) ∧ xs.length ≤ 100 ∧ wh.length ≤ 100 ∧
  ∀ (f : Addr) (pv : List V) (H' : Hp), Same H H' → H f = none → H' f = some (.lst pv) → Paired (PlR H') (placedL wh xs) pv → Q (.ref f) H'
section
variable {P : Program} {w : World} {K : PySem.W.Frag} {mg : Str → Option Value} {base : Heap}
theorem ok_placed (T : PTx w K mg) (D : Def K mg "placed" s_placed ["schemes", "place"]) : FnOk P w K mg base CX0 1 D.f D.fd ["schemes", "place"] spPlaced := by
  have nd := sc_placed.nd
  refine D.ok sc_placed (fun vs H Q E h => ?_) (fun cdv A outer s H vs Q E hr h => ?_)
  · obtain ⟨l, pl, xs, wh, rfl, _⟩ := h
    rfl
  obtain ⟨l, pl, xs, wh, rfl, el, epl, lx, lw, q⟩ := h
  refine ⟨_, pss_one (ps_ret (pe_lc (own := [("at", 2), ("scheme", 3)]) (g := gTup K 2 (gCons (gName 2) (gCons (gName 3) gNil))) (tt := tYes) rfl nd (pi_enum rfl (T.free "enumerate" (by decide +kernel)) (pa_cons (pv 0) pa_nil)) (blkOk_by (N := ["schemes", "place", "at", "scheme"]) (sc := defScope s_placed) (by decide +kernel))
      (fun _ _ _ _ _ => pg_tup rfl (pgs_cons (pg_name (i := 2) nd rfl (Or.inl rfl)) (pgs_cons (pg_name (i := 3) nd rfl (Or.inl rfl)) pgs_nil))) (fun _ _ _ _ _ => pts_nil)
      (fun _ _ _ _ _ => pe_tup (pa_cons (pe_op (r := rCatA K) op_catA (pv 1) (pe_tup (pa_cons (pv 2) pa_nil))) (pa_cons (pv 3) pa_nil))))), ?_⟩
  refine ⟨_, rfl, l, _, rfl, SqL.of el, fun Dd hD => ?_⟩
  have nlD : l ≠ Dd := ne_of_none el hD
  refine lc_it (walk_enum (K := K) (a := l) (xs := xs)) (fun j H'' => ∃ pv, H'' Dd = some (.lst pv) ∧ Paired (PlR H'') (placedL wh (xs.take j)) pv ∧ Same H H'') ⟨[], upd_same, .nil, Same.new hD⟩ (fun j H'' _ ⟨_, _, _, s3⟩ => SqL.of (s3 _ _ el)) ?_ ?_
  · rintro j x H2 H3 hj ⟨pv0, eD, pp, s3⟩ ⟨T1, x1, x2, rfl, hT1, rfl, ex1, ex2⟩
    obtain rfl : V.int ((j : Nat) : Int) = x1 := Option.some.inj ex1
    have ex2 : xs[j]? = some x2 := ex2
    have s4 := s3.trans (Same.new (o := .tup [.int ((j : Nat) : Int), x2]) hT1)
    refine ⟨T1, _, rfl, SqT.of upd_same, rfl, _, _, rfl, _, _, rfl, rfl, rfl, ?_⟩
    refine cat_at (i := 1) (j := j) rfl (s4 _ _ epl) (by omega) (fun Q q => ⟨_, rfl, q⟩) (fun wr' H5 s5 ew => ?_)
    refine ⟨_, rfl, sz2, fun p hp => ?_⟩
    have s6 := (Same.new (o := .tup [.int ((j : Nat) : Int), x2]) hT1).trans (s5.trans (Same.new (o := .tup [.ref wr', x2]) hp))
    have eD6 := s6 _ _ eD
    have lpv := Paired.length pp
    have tk : TupK H2 (upd (upd H5 p (.tup [.ref wr', x2])) Dd (.lst (pv0 ++ [.ref p]))) := (Same.tupK s6).trans (TupK.put eD6)
    have npD : p ≠ Dd := fun e => by rw [e] at eD6; rw [upd_same] at eD6; cases eD6
    refine ⟨_, eD6, ?_, _, upd_same, ?_, ?_⟩
    · have : (placedL wh (xs.take j)).length ≤ 100 := by
        unfold placedL
        rw [List.length_map, List.length_zipIdx, List.length_take]
        omega
      exact small1000 (by omega)
    · have e : placedL wh (xs.take (j + 1)) = placedL wh (xs.take j) ++ [(wh ++ [j], x2)] := by
        have hjl := (List.getElem?_eq_some_iff.mp ex2).1
        unfold placedL
        rw [List.take_succ, ex2]
        simp [List.zipIdx_append, List.length_take, Nat.min_eq_left (Nat.le_of_lt hjl)]
      rw [e]
      refine paired_app (paired_imp pp fun _ _ h => PlR.keep h tk) (.cons ⟨p, wr', rfl, by rw [upd_ne npD, upd_same], ?_⟩ .nil)
      exact TupK.put eD6 _ _ (Same.new hp _ _ ew)
    · intro b o e
      rw [upd_ne (ne_of_none e hD)]
      exact (s3.trans s6) b o e
  · rintro H'' ⟨pv0, eD, pp, s3⟩
    rw [List.take_length] at pp
    exact q Dd pv0 H'' s3 hD eD pp
end
/-- the one row of a step, or none -/
def spRowAt : Sp := fun vs H Q _ => ∃ (o : Option Nat) (p : Nat) (wr : Addr) (wh : List Nat), vs = [(match o with | some i => V.int ((i : Nat) : Int) | none => V.non), .int ((p : Nat) : Int), .ref wr] ∧ H wr = some (.tup (natV wh)) ∧
  ∀ (f : Addr) (rv : List V) (H' : Hp), Same H H' → H f = none → H' f = some (.lst rv) → Paired (RowR H') (match o with | some i => [(i, p, wh)] | none => []) rv → Q (.ref f) H'
section
variable {P : Program} {w : World} {K : PySem.W.Frag} {mg : Str → Option Value} {base : Heap}
theorem ok_row_at (T : PTx w K mg) (D : Def K mg "row_at" s_row_at ["place", "points", "where"]) : FnOk P w K mg base CX0 1 D.f D.fd ["place", "points", "where"] spRowAt := by
  have nd := sc_row_at.nd
  refine D.ok sc_row_at (fun vs H Q E h => ?_) (fun cdv A outer s H vs Q E hr h => ?_)
  · obtain ⟨o, p, wr, wh, rfl, _⟩ := h
    rfl
  obtain ⟨o, p, wr, wh, rfl, ewr, q⟩ := h
  refine ⟨_, pss_one (ps_ret (pe_ifExp (pt_cmpR op_isN (pv 0) pe_non (nomark _)) (pe_lst pa_nil) (pe_lst (pa_cons (pe_tup (pa_cons (pv 0) (pa_cons (pv 1) (pa_cons (pv 2) pa_nil)))) pa_nil)))), ?_⟩
  cases o with
  | none =>
    refine ⟨_, rfl, rfl, _, rfl, ?_⟩
    rw [decide_eq_true rfl]
    exact iteT ⟨Nat.zero_le _, fun f hf => q f [] _ (Same.new hf) hf upd_same .nil⟩
  | some i =>
    refine ⟨_, rfl, rfl, _, rfl, ?_⟩
    rw [decide_eq_false (fun z => nomatch z)]
    refine iteF ⟨_, rfl, _, rfl, _, rfl, szN (by show 3 ≤ 1000; decide), fun t ht => ⟨(by show 1 ≤ sizeLine; decide), fun f hf => ?_⟩⟩
    have s1 : Same H (upd H t (.tup [.int ((i : Nat) : Int), .int ((p : Nat) : Int), .ref wr])) := Same.new ht
    have s2 := Same.new (o := .lst [V.ref t]) hf
    exact q f _ _ (s1.trans s2) (s1.free hf) upd_same (.cons ⟨t, wr, rfl, s2 _ _ upd_same, (s1.trans s2) _ _ ewr⟩ .nil)
end
end MS
end
section
set_option maxRecDepth 100000
set_option maxHeartbeats 4000000
namespace MS
open PySem L2
/-! ### all schemes in one -/
def pre : Nat → Sch → List Sch
  | 0, _ => []
  | d + 1, s => s :: ((kidsOf s).map (pre d)).flatten
theorem pre_succ (d : Nat) (s : Sch) : pre (d + 1) s = s :: ((kidsOf s).map (pre d)).flatten := rfl
theorem ok_kids {i M d : Nat} {s : Sch} (o : OkS i M (d + 1) s) : ∀ x ∈ kidsOf s, OkS i M d x := by
  cases s with
  | step w p => exact fun _ h => nomatch h
  | all k => exact o.2.2
  | best k => exact o.2.2
  | most n s => intro x h; rw [List.mem_singleton.mp h]; exact o.2
  | half s => intro x h; rw [List.mem_singleton.mp h]; exact o
  | seen w s => intro x h; rw [List.mem_singleton.mp h]; exact o.2
  | behind w s => intro x h; rw [List.mem_singleton.mp h]; exact o.2
  | carry s => intro x h; rw [List.mem_singleton.mp h]; exact o
  | fin w p s => intro x h; rw [List.mem_singleton.mp h]; exact o.2
  | use n => exact fun _ h => nomatch h
theorem sz_kids (d : Nat) (s : Sch) : sz (d + 1) s = 1 + ((kidsOf s).map (sz d)).sum := by
  cases s <;> simp [sz, kidsOf]
/-- what a scheme is itself -/
def ownE (c : Nat → Int) : Sch → Int
  | .step _ _ => 1
  | .fin _ _ _ => 1
  | .use n => c n
  | _ => 0
def ownW (c : Nat → Int) : Sch → Int
  | .seen _ _ => 1
  | .behind _ _ => 1
  | .use n => c n
  | _ => 0
theorem er_kids (c : Nat → Int) (d : Nat) (s : Sch) : er c (d + 1) s = ownE c s + ((kidsOf s).map (er c d)).sum := by
  cases s <;> simp [er, ownE, kidsOf]
theorem wr_kids (c : Nat → Int) (d : Nat) (s : Sch) : wr c (d + 1) s = ownW c s + ((kidsOf s).map (wr c d)).sum := by
  cases s <;> simp [wr, ownW, kidsOf]
theorem flat_lenEq {f : Sch → List Sch} {g : Sch → Int} : ∀ ks : List Sch, (∀ s ∈ ks, ((f s).length : Int) = g s) → (((ks.map f).flatten).length : Int) = (ks.map g).sum
  | [], _ => rfl
  | s :: r, h => by
    rw [List.map_cons, List.flatten_cons, List.length_append, List.map_cons, List.sum_cons]
    have := h s List.mem_cons_self
    have := flat_lenEq r fun s hs => h s (List.mem_cons_of_mem _ hs)
    omega
theorem flat_sumEq {f : Sch → List Sch} {o g : Sch → Int} : ∀ ks : List Sch, (∀ s ∈ ks, ((f s).map o).sum = g s) → (((ks.map f).flatten).map o).sum = (ks.map g).sum
  | [], _ => rfl
  | s :: r, h => by
    rw [List.map_cons, List.flatten_cons, List.map_append, List.sum_append, List.map_cons, List.sum_cons, h s List.mem_cons_self, flat_sumEq r fun s hs => h s (List.mem_cons_of_mem _ hs)]
theorem pre_len {i M : Nat} : ∀ (d : Nat) (s : Sch), OkS i M d s → ((pre d s).length : Int) = sz d s
  | 0, _, o => by cases o
  | d + 1, s, o => by
    rw [pre_succ, List.length_cons, sz_kids]
    have := flat_lenEq (f := pre d) (g := sz d) (kidsOf s) fun x hx => pre_len d x (ok_kids o x hx)
    omega
theorem pre_er {i M : Nat} (c : Nat → Int) : ∀ (d : Nat) (s : Sch), OkS i M d s → ((pre d s).map (ownE c)).sum = er c d s
  | 0, _, o => by cases o
  | d + 1, s, o => by
    rw [pre_succ, List.map_cons, List.sum_cons, er_kids, flat_sumEq (f := pre d) (g := er c d) (kidsOf s) fun x hx => pre_er c d x (ok_kids o x hx)]
theorem pre_wr {i M : Nat} (c : Nat → Int) : ∀ (d : Nat) (s : Sch), OkS i M d s → ((pre d s).map (ownW c)).sum = wr c d s
  | 0, _, o => by cases o
  | d + 1, s, o => by
    rw [pre_succ, List.map_cons, List.sum_cons, wr_kids, flat_sumEq (f := pre d) (g := wr c d) (kidsOf s) fun x hx => pre_wr c d x (ok_kids o x hx)]
/-- a scheme that was found -/
def FoundR (H : Hp) (i M : Nat) (s : Sch) (v : V) : Prop := ∃ d, SAt H (d + 1) s v ∧ OkS i M (d + 1) s
theorem FoundR.keep {H H' : Hp} {i M : Nat} {s : Sch} {v : V} (h : FoundR H i M s v) (k : TupK H H') : FoundR H' i M s v := by
  obtain ⟨d, h1, h2⟩ := h
  exact ⟨d, SAt.keep k _ _ _ h1, h2⟩
/-- a scheme that waits, behind its place -/
def WaitR (H : Hp) (i M : Nat) (x : List Nat × Sch) (v : V) : Prop := ∃ b q u, v = V.ref b ∧ H b = some (.tup [.ref q, u]) ∧ H q = some (.tup (natV x.1)) ∧ x.1.length ≤ 4 ∧ SAt H (5 - x.1.length) x.2 u ∧ OkS i M (5 - x.1.length) x.2
theorem WaitR.keep {H H' : Hp} {i M : Nat} {x : List Nat × Sch} {v : V} (h : WaitR H i M x v) (k : TupK H H') : WaitR H' i M x v := by
  obtain ⟨b, q, u, e, h1, h2, h3, h4, h5⟩ := h
  exact ⟨b, q, u, e, k _ _ h1, k _ _ h2, h3, SAt.keep k _ _ _ h4, h5⟩
def restOf (L : List (List Nat × Sch)) : List Sch := (L.map fun p => pre (5 - p.1.length) p.2).flatten
def waitsOf (wh : List Nat) (n : Nat) (ks : List Sch) : List (List Nat × Sch) := (ks.zipIdx n).map fun p => (wh ++ [p.2], p.1)
theorem rest_waits {wh : List Nat} {d : Nat} (hd : 5 - (wh.length + 1) = d) : ∀ (ks : List Sch) (n : Nat), restOf (waitsOf wh n ks) = (ks.map (pre d)).flatten
  | [], _ => rfl
  | s :: r, n => by
    have ih := rest_waits hd r (n + 1)
    unfold restOf waitsOf at ih ⊢
    rw [List.zipIdx_cons, List.map_cons, List.map_cons, List.flatten_cons, ih, List.map_cons, List.flatten_cons]
    show pre (5 - (wh ++ [n]).length) s ++ _ = _
    rw [List.length_append, List.length_singleton, hd]
theorem rest_app (a b : List (List Nat × Sch)) : restOf (a ++ b) = restOf a ++ restOf b := by
  unfold restOf
  rw [List.map_append, List.flatten_append]
theorem waits_at {H : Hp} {i M d : Nat} {wh : List Nat} (hd : 5 - (wh.length + 1) = d) : ∀ {ks : List Sch} {kv : List V} (n : Nat), Paired (SAt H d) ks kv → (∀ s ∈ ks, OkS i M d s) → ∀ {pv : List V}, Paired (PlR H) ((kv.zipIdx n).map fun p => (wh ++ [p.2], p.1)) pv → Paired (WaitR H i M) (waitsOf wh n ks) pv
  | _, _, n, .nil, _, _, .nil => .nil
  | s :: ks, v :: kv, n, .cons h t, ok, pv, hp => by
    rw [List.zipIdx_cons, List.map_cons] at hp
    cases hp with
    | @cons _ p0 _ pr h0 hr =>
      obtain ⟨b, q, e, h1, h2⟩ := h0
      have o := ok s List.mem_cons_self
      have hd0 : d ≠ 0 := fun z => by rw [z] at o; cases o
      have el : (wh ++ [n]).length = wh.length + 1 := by rw [List.length_append, List.length_singleton]
      show Paired (WaitR H i M) ((wh ++ [n], s) :: waitsOf wh (n + 1) ks) _
      refine .cons ⟨b, q, v, e, h1, h2, ?_, ?_, ?_⟩ (waits_at hd (n + 1) t (fun s hs => ok s (List.mem_cons_of_mem _ hs)) hr)
      · show (wh ++ [n]).length ≤ 4
        rw [el]
        omega
      · show SAt H (5 - (wh ++ [n]).length) s v
        rw [el, hd]
        exact h
      · show OkS i M (5 - (wh ++ [n]).length) s
        rw [el, hd]
        exact o
def SIn (K : PySem.W.Frag) (M i : Nat) (s : Sch) (pa f : Addr) (H : Hp) (m : Nat) (σ : St) (H' : Hp) : Prop :=
  ∃ (wl : Addr) (done : List Sch) (L : List (List Nat × Sch)) (fv wv : List V) (v4 v5 : Option V), σ = [some (.ref pa), some (.int ((i : Nat) : Int)), some (.ref f), some (.ref wl), v4, v5] ∧ H' f = some (.lst fv) ∧ H' wl = some (.lst wv) ∧
    Paired (FoundR H' i M) done fv ∧ Paired (WaitR H' i M) L wv ∧ done ++ restOf L = pre 5 s ∧ L.length ≤ 1000 ∧ m = (restOf L).length ∧ Same H H'
def spSchemesIn (ps : List Sch) (i : Nat) : Sp := fun vs H Q _ => ∃ (pa : Addr) (pv : List V) (s : Sch), vs = [.ref pa, .int ((i : Nat) : Int)] ∧ H pa = some (.tup pv) ∧ Paired (SAt H 5) ps pv ∧ ps[i]? = some s ∧ OkS i ps.length 5 s ∧ sz 5 s ≤ 12 ∧
  ∀ (f : Addr) (fv : List V) (H' : Hp), Same H H' → H f = none → H' f = some (.lst fv) → Paired (FoundR H' i ps.length) (pre 5 s) fv → Q (.ref f) H'
theorem paired_get2 {α β : Type} {R : α → β → Prop} : ∀ {xs : List α} {ys : List β}, Paired R xs ys → ∀ {k : Nat} {x : α}, xs[k]? = some x → ∃ y, ys[k]? = some y ∧ R x y
  | _, _, .nil, _, _, h => by simp at h
  | _, _, .cons r t, 0, _, h => by
    simp at h
    subst h
    exact ⟨_, rfl, r⟩
  | _, _, .cons _ t, k + 1, x, h => by
    obtain ⟨y, e, r⟩ := paired_get2 t (k := k) (x := x) (by simpa using h)
    exact ⟨y, by simpa using e, r⟩
theorem rest_len_le : ∀ {H : Hp} {i M : Nat} {L : List (List Nat × Sch)} {wv : List V}, Paired (WaitR H i M) L wv → L.length ≤ (restOf L).length
  | _, _, _, _, _, .nil => Nat.le_refl _
  | H, i, M, x :: L, _, .cons h t => by
    have ih := rest_len_le t
    obtain ⟨b, q, u, e, h1, h2, h3, h4, h5⟩ := h
    obtain ⟨d, hd⟩ : ∃ d, 5 - x.1.length = d + 1 := ⟨4 - x.1.length, by omega⟩
    show (x :: L).length ≤ (restOf ([x] ++ L)).length
    rw [rest_app, List.length_append, List.length_cons]
    have : 1 ≤ (restOf [x]).length := by
      show 1 ≤ ((pre (5 - x.1.length) x.2) ++ []).length
      rw [hd, pre_succ, List.append_nil, List.length_cons]
      omega
    omega
section
variable {P : Program} {w : World} {K : PySem.W.Frag} {mg : Str → Option Value} {base : Heap}
theorem ok_schemes_in {ps : List Sch} {i : Nat} (T : PTx w K mg) (D : Def K mg "schemes_in" s_schemes_in ["paper", "number"]) (DB : Def K mg "can_be" s_can_be ["thing", "number", "many"]) (DF : Def K mg "fits" s_fits psFits) (DN : Def K mg "is_number" s_is_number ["thing"])
    (DI : Def K mg "within" s_within ["scheme"]) (DP : Def K mg "placed" s_placed ["schemes", "place"]) : FnOk P w K mg base CX0 4 D.f D.fd ["paper", "number"] (spSchemesIn ps i) := by
  have GB : FnOk P w K mg base CX0 3 DB.f DB.fd ["thing", "number", "many"] (spCanBe i ps.length) := ok_can_be T DB DF DN
  have GI : FnOk P w K mg base CX0 1 DI.f DI.fd ["scheme"] spWithin := ok_within T DI
  have GP : FnOk P w K mg base CX0 1 DP.f DP.fd ["schemes", "place"] spPlaced := ok_placed T DP
  obtain ⟨tS, gS⟩ := T.mostInScheme
  obtain ⟨tL, gL⟩ := T.longest
  have nd := sc_schemes_in.nd
  refine D.ok sc_schemes_in (fun vs H Q E h => ?_) (fun cdv A outer s H vs Q E hr h => ?_)
  · obtain ⟨pa, pv, s, rfl, _⟩ := h
    rfl
  obtain ⟨pa, pv0, sc, rfl, epv, pp, es, ho, hz, q⟩ := h
  have hr1 : Room 1 _ := hr.mono (by decide)
  refine ⟨_, pss_cons (ps_set (i := 2) nd rfl (Or.inl rfl) (pe_lst pa_nil))
    (pss_cons (ps_set (i := 3) nd rfl (Or.inl rfl) (pe_lst (pa_cons (pe_tup (pa_cons (pe_tup pa_nil) (pa_cons (pe_ix ix_tup (pv 0) (pv 1) (fun _ _ => rfl)) pa_nil))) pa_nil)))
    (pss_cons (ps_while PassesOwn.never (pt_truth (pv 3) (by intro _; rfl))
      (pss_cons (ps_asg (pe_ix ix_list (pv 3) pe_int (fun _ _ => rfl)) (pg_tup (by rfl) (pgs_cons (pg_name (i := 4) nd rfl (Or.inl rfl)) (pgs_cons (pg_name (i := 5) nd rfl (Or.inl rfl)) pgs_nil))))
      (pss_cons (ps_if (PW.pt (pw_or (pt_cmpR op_eq (pe_callB call_len_seq rfl (T.free "len" (by decide +kernel)) PySem.boot_len (pa_cons (pv 2) pa_nil)) (pe_glob rfl gS (v := .int 12) ⟨_, rfl⟩) (nomark _)) (pw_or1 (pt_cmpR op_gt (pe_callB call_len_seq rfl (T.free "len" (by decide +kernel)) PySem.boot_len (pa_cons (pv 4) pa_nil)) (pe_glob rfl gL (v := .int 4) ⟨_, rfl⟩) (nomark _))))) (pss_one ps_never) pss_nil)
      (pss_cons (ps_if (pt_not (pt_val (pcall DB GB hr (pa_cons (pv 5) (pa_cons (pv 1) (pa_cons (pe_callB call_len_seq rfl (T.free "len" (by decide +kernel)) PySem.boot_len (pa_cons (pv 0) pa_nil)) pa_nil)))))) (pss_one ps_never) pss_nil)
      (pss_cons (ps_expr (pe_bm PySem.F.plainAttrs_list PySem.F.slot_list_append PySem.F.type_list_append mt_append (pv 2) (pa_cons (pv 5) pa_nil)))
      (pss_one (ps_set (i := 3) nd rfl (Or.inl rfl) (pe_op op_cat (pcall DP GP hr1 (pa_cons (pcall DI GI hr1 (pa_cons (pv 5) pa_nil)) (pa_cons (pv 4) pa_nil))) (pe_slice sl_list (pv 3) (po_some pe_int) po_none)))))))))
    (pss_one (ps_ret (pv 2))))), ?_⟩
  have hM := Paired.length pp
  have hlen : ((pre 5 sc).length : Int) = sz 5 sc := pre_len 5 sc ho
  obtain ⟨v0, ev0, hs0⟩ := paired_get2 pp es
  refine ⟨Nat.zero_le _, fun f hf => ?_⟩
  have s1 : Same H (upd H f (.lst [])) := Same.new hf
  dsimp only [gName]
  refine ⟨Nat.zero_le _, fun t0 ht0 => ?_⟩
  have s2 := s1.trans (Same.new (o := .tup []) ht0)
  refine ⟨_, rfl, _, rfl, pa, _, _, v0, rfl, rfl, SqT.of (s2 _ _ epv), atI_nat ev0, sz2, fun t1 ht1 => ?_⟩
  have s3 := s2.trans (Same.new (o := .tup [.ref t0, v0]) ht1)
  refine ⟨szN (by show 1 ≤ 1000; decide), fun wl hwl => ?_⟩
  have s4 := s3.trans (Same.new (o := .lst [.ref t1]) hwl)
  dsimp only [gName]
  have b1 := Same.new (o := .lst [V.ref t1]) hwl
  have b2 := (Same.new (o := .tup [.ref t0, v0]) ht1).trans b1
  have b3 := (Same.new (o := .tup []) ht0).trans b2
  have R0 : restOf [(([] : List Nat), sc)] = pre 5 sc := by show pre 5 sc ++ [] = _; rw [List.append_nil]
  refine ⟨fun m σ H' => SIn K ps.length i sc pa f H m σ H', ⟨(restOf [([], sc)]).length, wl, [], [([], sc)], [], [.ref t1], none, none, rfl, b3 _ _ upd_same, upd_same, .nil, .cons ⟨t1, t0, v0, rfl, b1 _ _ upd_same, b2 _ _ upd_same, by show 0 ≤ 4; decide, SAt.keep (Same.tupK s4) _ _ _ hs0, ho⟩ .nil, R0, by show 1 ≤ 1000; decide, rfl, s4⟩, ?_⟩
  rintro m σ H1 ⟨wl1, done, L, fv, wv, v4, v5, rfl, ef, ewl, pf, pw, eall, hL, em, sm⟩
  have lall := congrArg List.length eall
  rw [List.length_append] at lall
  have hrl := rest_len_le pw
  have lfv := Paired.length pf
  have lwv := Paired.length pw
  refine ⟨_, rfl, !wv.isEmpty, .inl ⟨_, SqL.of ewl, rfl⟩, ?_⟩
  cases pw with
  | nil =>
    have e : done = pre 5 sc := by rw [← eall]; show done = done ++ []; rw [List.append_nil]
    rw [e] at pf
    exact iteF ⟨_, rfl, q f fv H1 sm hf ef pf⟩
  | @cons x vb L' wr hx hrest =>
    obtain ⟨b, qa, u, rfl, eb, eqa, hx4, hsx, hox⟩ := hx
    obtain ⟨wh, s'⟩ := x
    have hx4 : wh.length ≤ 4 := hx4
    obtain ⟨d, hd⟩ : ∃ d, 5 - wh.length = d + 1 := ⟨4 - wh.length, by omega⟩
    have hsx : SAt H1 (5 - wh.length) s' u := hsx
    have hox : OkS i ps.length (5 - wh.length) s' := hox
    rw [hd] at hsx hox
    have eR : restOf ((wh, s') :: L') = s' :: (((kidsOf s').map (pre d)).flatten ++ restOf L') := by
      show pre (5 - wh.length) s' ++ restOf L' = _
      rw [hd, pre_succ]
      rfl
    rw [eR] at eall lall em hrl
    rw [List.length_cons] at lall em
    have hrl' : L'.length ≤ 12 := by
      rw [List.length_cons, List.length_cons] at hrl
      omega
    refine iteT ⟨fun σ' H' => ∃ m', m' < m ∧ SIn K ps.length i sc pa f H m' σ' H', fun _ _ z => z, ?_⟩
    refine ⟨_, rfl, wl1, _, 0, .ref b, rfl, rfl, SqL.of ewl, at0, b, _, rfl, SqT.of eb, rfl, _, _, rfl, _, _, rfl, rfl, ?_⟩
    dsimp only [gName]
    refine seq_if (b := false || false) (ev_or (b := false) (c := false) (fun Q q => ⟨_, rfl, f, _, rfl, .inl (SqL.of ef), rfl, _, rfl, by
        rw [decide_eq_false (fun z => by have z2 := V.int.inj z; omega)]
        exact q⟩) (fun Q q => ⟨_, rfl, qa, _, rfl, .inr (SqT.of eqa), _, _, rfl, rfl, _, rfl, by
        rw [decide_eq_false (show ¬ ((4 : Int) < (((natV wh).length : Nat) : Int)) by rw [natV_len]; omega)]
        exact q⟩)) (fun z => nomatch z) (fun _ => ?_)
    refine seq_new (b := false) (fun Q q => ⟨_, rfl, _, rfl, _, rfl, pa, _, rfl, .inr (SqT.of (sm _ _ epv)), u, s', d, by rw [hM]; rfl, hsx, hox, fun H3 s3 => ⟨_, rfl, q H3 s3⟩⟩) (fun z => nomatch z) (fun _ H3 s3 => ?_)
    have ef3 := s3 _ _ ef
    refine ⟨_, rfl, .inl ⟨rfl, _, SqL.of ef3⟩, _, rfl, f, _, _, rfl, rfl, ef3, small1000 (by omega), ?_⟩
    have t4 : TupK H1 (upd H3 f (.lst (fv ++ [u]))) := (Same.tupK s3).trans (TupK.put ef3)
    have ef4 : upd H3 f (.lst (fv ++ [u])) f = some (.lst (fv ++ [u])) := upd_same
    have nfw : wl1 ≠ f := fun z => by
      rw [z, ef] at ewl
      have e2 := HO.lst.inj (Option.some.inj ewl)
      subst e2
      cases pf with
      | @cons s9 v9 _ _ h9 _ =>
        obtain ⟨d9, h9, _⟩ := h9
        obtain ⟨a9, nm9, r9, e9, ea9⟩ := h9.tag
        cases e9
        rw [eb] at ea9
        cases ea9
    have ewl4 : upd H3 f (.lst (fv ++ [u])) wl1 = some (.lst (V.ref b :: wr)) := by rw [upd_ne nfw]; exact s3 _ _ ewl
    have sm4 : Same H (upd H3 f (.lst (fv ++ [u]))) := Same.newer (sm.trans s3) hf
    generalize hH4 : upd H3 f (.lst (fv ++ [u])) = H4 at t4 ef4 ewl4 sm4 ⊢
    refine ⟨_, rfl, u, s', i, ps.length, d, rfl, SAt.keep t4 _ _ _ hsx, hox, fun l kv hl at_ => ?_⟩
    have lkv := Paired.length at_
    have lkf := kids_few hox
    have s5 := Same.new (o := .lst kv) hl
    have t5 := t4.trans (Same.tupK s5)
    refine ⟨_, rfl, l, qa, kv, wh, rfl, upd_same, t5 _ _ eqa, by omega, by omega, fun g pv' H6 s6 hg eg pp6 => ?_⟩
    have s56 := s5.trans s6
    refine ⟨_, rfl, 1, rfl, wl1, _, rfl, SqL.of (s56 _ _ ewl4), fun p hp => ?_⟩
    have ec : cutV (V.ref b :: wr) (some 1) none = wr := cut_from (V.ref b :: wr) 1
    rw [ec]
    have ngp : g ≠ p := ne_of_none eg hp
    have lpv := Paired.length pp6
    have lpl : (placedL wh kv).length = kv.length := by unfold placedL; rw [List.length_map, List.length_zipIdx]
    have lcat : pv'.length + wr.length ≤ 1000 := by
      have := Paired.length hrest
      omega
    refine ⟨g, p, _, _, rfl, rfl, by rw [upd_ne ngp]; exact eg, upd_same, szN lcat, fun r hr => ?_⟩
    have s7 := (s56.trans (Same.new (o := .lst wr) hp)).trans (Same.new (o := .lst (pv' ++ wr)) hr)
    have s67 := (s6.trans (Same.new (o := .lst wr) hp)).trans (Same.new (o := .lst (pv' ++ wr)) hr)
    have t6 := (Same.new (o := .lst wr) hp).trans (Same.new (o := .lst (pv' ++ wr)) hr)
    dsimp only [gName]
    have hd' : 5 - (wh.length + 1) = d := by omega
    have tk7 := t4.trans (Same.tupK s7)
    refine ⟨(restOf (waitsOf wh 0 (kidsOf s') ++ L')).length, ?_, r, done ++ [s'], waitsOf wh 0 (kidsOf s') ++ L', fv ++ [u], pv' ++ wr, _, _, rfl, s7 _ _ ef4, upd_same, ?_, ?_, ?_, ?_, rfl, sm4.trans s7⟩
    · rw [rest_app, rest_waits hd']
      omega
    · exact paired_app (paired_imp pf fun _ _ h => FoundR.keep h tk7) (.cons ⟨d, SAt.keep tk7 _ _ _ hsx, hox⟩ .nil)
    · refine paired_app ?_ (paired_imp hrest fun _ _ h => WaitR.keep h tk7)
      exact waits_at hd' 0 (paired_imp at_ fun _ _ h => SAt.keep (Same.tupK (s5.trans s67)) _ _ _ h) (ok_kids hox) (paired_imp pp6 fun _ _ h => PlR.keep h (Same.tupK t6))
    · rw [rest_app, rest_waits hd', ← eall]
      simp
    · rw [List.length_append]
      unfold waitsOf
      rw [List.length_map, List.length_zipIdx]
      omega
end
end MS
end
section
set_option maxRecDepth 100000
set_option maxHeartbeats 4000000
namespace MS
open PySem L2
/-! ### how many of some names -/
def rGetL (K : PySem.W.Frag) : V → V → Hp → VK → Prop := fun x y H Q => ∃ p xs i v, x = .ref p ∧ y = .int i ∧ SqL K H p xs ∧ 0 ≤ i ∧ xs[i.toNat]? = some v ∧ Q v H
theorem pget_list {X : Cx} : PGet X (rGetL X.K) := by
  intro pins s σ H o i ov iv Q I ro ri h
  obtain ⟨p, xs, k, v, rfl, rfl, hq, h0, he, q⟩ := h
  cases ro
  obtain ⟨t, rfl⟩ := ri
  obtain ⟨its, r, pl, hz⟩ := I.list hq
  obtain ⟨w, ew, rw'⟩ := r.get he
  have hl := r.length
  have hn := line63
  have hk := (List.getElem?_eq_some_iff.mp he).1
  exact PyProof.Rows.getItem_listL pl.isList h0 (by omega) ew ⟨v, H, I, rw', q⟩
theorem ix_nat {n k : Nat} (h : k < n) : ixN n ((k : Nat) : Int) = some k := by
  unfold ixN
  rw [if_pos (by omega), if_pos (by omega)]
  congr 1
def own (E : Bool) (c : Nat → Int) (s : Sch) : Int := match E with
  | true => ownE c s
  | false => ownW c s
def namesV (E : Bool) : List V := match E with
  | true => [.str "step", .str "end"]
  | false => [.str "seen", .str "behind"]
theorem names_flat (E : Bool) : (namesV E).all flatV = true := by cases E <;> rfl
theorem own_tag {H : Hp} {d : Nat} {s : Sch} {a : Addr} {nm : Str} {rest : List V} (h : SAt H (d + 1) s (.ref a)) (ea : H a = some (.tup (.str nm :: rest))) :
    (∃ n, s = .use n ∧ nm = "use" ∧ rest = [.int ((n : Nat) : Int)]) ∨ ((nm == "use") = false ∧ ∀ E c, own E c s = if inV (.str nm) (namesV E) = true then 1 else 0) := by
  have inj : ∀ {a' : Addr} {nm' : Str} {rest' : List V}, (V.ref a = V.ref a') → H a' = some (.tup (.str nm' :: rest')) → nm' = nm ∧ rest' = rest := fun e h => by
    cases e
    rw [ea] at h
    cases h
    exact ⟨rfl, rfl⟩
  cases s with
  | step x p =>
    obtain ⟨a', e, h⟩ := h
    obtain ⟨rfl, rfl⟩ := inj e h
    refine .inr ⟨by decide +kernel, fun E c => ?_⟩
    cases E
    · show (0 : Int) = if inV (.str "step") [.str "seen", .str "behind"] = true then 1 else 0
      decide +kernel
    · show (1 : Int) = if inV (.str "step") [.str "step", .str "end"] = true then 1 else 0
      decide +kernel
  | all k =>
    obtain ⟨a', b, vs, e, h, _⟩ := h
    obtain ⟨rfl, rfl⟩ := inj e h
    refine .inr ⟨by decide +kernel, fun E c => ?_⟩
    cases E
    · show (0 : Int) = if inV (.str "all") [.str "seen", .str "behind"] = true then 1 else 0
      decide +kernel
    · show (0 : Int) = if inV (.str "all") [.str "step", .str "end"] = true then 1 else 0
      decide +kernel
  | best k =>
    obtain ⟨a', b, vs, e, h, _⟩ := h
    obtain ⟨rfl, rfl⟩ := inj e h
    refine .inr ⟨by decide +kernel, fun E c => ?_⟩
    cases E
    · show (0 : Int) = if inV (.str "best") [.str "seen", .str "behind"] = true then 1 else 0
      decide +kernel
    · show (0 : Int) = if inV (.str "best") [.str "step", .str "end"] = true then 1 else 0
      decide +kernel
  | most n s =>
    obtain ⟨a', u, e, h, _⟩ := h
    obtain ⟨rfl, rfl⟩ := inj e h
    refine .inr ⟨by decide +kernel, fun E c => ?_⟩
    cases E
    · show (0 : Int) = if inV (.str "most") [.str "seen", .str "behind"] = true then 1 else 0
      decide +kernel
    · show (0 : Int) = if inV (.str "most") [.str "step", .str "end"] = true then 1 else 0
      decide +kernel
  | half s =>
    obtain ⟨a', u, e, h, _⟩ := h
    obtain ⟨rfl, rfl⟩ := inj e h
    refine .inr ⟨by decide +kernel, fun E c => ?_⟩
    cases E
    · show (0 : Int) = if inV (.str "half") [.str "seen", .str "behind"] = true then 1 else 0
      decide +kernel
    · show (0 : Int) = if inV (.str "half") [.str "step", .str "end"] = true then 1 else 0
      decide +kernel
  | seen x s =>
    obtain ⟨a', u, e, h, _⟩ := h
    obtain ⟨rfl, rfl⟩ := inj e h
    refine .inr ⟨by decide +kernel, fun E c => ?_⟩
    cases E
    · show (1 : Int) = if inV (.str "seen") [.str "seen", .str "behind"] = true then 1 else 0
      decide +kernel
    · show (0 : Int) = if inV (.str "seen") [.str "step", .str "end"] = true then 1 else 0
      decide +kernel
  | behind x s =>
    obtain ⟨a', u, e, h, _⟩ := h
    obtain ⟨rfl, rfl⟩ := inj e h
    refine .inr ⟨by decide +kernel, fun E c => ?_⟩
    cases E
    · show (1 : Int) = if inV (.str "behind") [.str "seen", .str "behind"] = true then 1 else 0
      decide +kernel
    · show (0 : Int) = if inV (.str "behind") [.str "step", .str "end"] = true then 1 else 0
      decide +kernel
  | carry s =>
    obtain ⟨a', u, e, h, _⟩ := h
    obtain ⟨rfl, rfl⟩ := inj e h
    refine .inr ⟨by decide +kernel, fun E c => ?_⟩
    cases E
    · show (0 : Int) = if inV (.str "carry") [.str "seen", .str "behind"] = true then 1 else 0
      decide +kernel
    · show (0 : Int) = if inV (.str "carry") [.str "step", .str "end"] = true then 1 else 0
      decide +kernel
  | fin x p s =>
    obtain ⟨a', u, e, h, _⟩ := h
    obtain ⟨rfl, rfl⟩ := inj e h
    refine .inr ⟨by decide +kernel, fun E c => ?_⟩
    cases E
    · show (0 : Int) = if inV (.str "end") [.str "seen", .str "behind"] = true then 1 else 0
      decide +kernel
    · show (1 : Int) = if inV (.str "end") [.str "step", .str "end"] = true then 1 else 0
      decide +kernel
  | use n =>
    obtain ⟨a', e, h⟩ := h
    obtain ⟨rfl, rfl⟩ := inj e h
    exact .inl ⟨n, rfl, rfl, rfl⟩
def mvOf (N : Nat) (g : Nat → Int) : List V := (List.range N).map fun j => V.int (g j)
theorem mv_len (N : Nat) (g : Nat → Int) : (mvOf N g).length = N := by unfold mvOf; simp
theorem mv_get {N k : Nat} {g : Nat → Int} (h : k < N) : (mvOf N g)[k]? = some (.int (g k)) := by
  unfold mvOf
  rw [List.getElem?_map, List.getElem?_range h]
  rfl
theorem mv_congr {N : Nat} {g g' : Nat → Int} (h : ∀ j, j < N → g j = g' j) : mvOf N g = mvOf N g' := by
  unfold mvOf
  exact List.map_congr_left fun j hj => by rw [h j (List.mem_range.mp hj)]
theorem mv_set (N k : Nat) (g : Nat → Int) (z : Int) : (mvOf N g).set k (.int z) = mvOf N (fun j => if j = k then z else g j) := by
  refine List.ext_getElem (by simp [mvOf]) fun j h1 h2 => ?_
  simp only [mvOf, List.getElem_set, List.getElem_map, List.getElem_range]
  by_cases e : k = j
  · subst e
    simp
  · rw [if_neg e, if_neg (fun z => e z.symm)]
theorem mv_zero {N : Nat} {g : Nat → Int} (h : ∀ j, j < N → g j = 0) : mvOf N g = List.replicate N (V.int 0) := by
  refine List.ext_getElem (by simp [mvOf]) fun j h1 h2 => ?_
  simp only [mvOf, List.getElem_map, List.getElem_range, List.getElem_replicate]
  rw [h j (by simpa [mvOf] using h1)]
/-- the schemes of each of a paper stand at plv -/
def PartsAt (H : Hp) (ps : List Sch) (plv : List V) : Prop := ∀ j s, ps[j]? = some s → ∃ fj fv, plv[j]? = some (V.ref fj) ∧ H fj = some (.lst fv) ∧ Paired (FoundR H j ps.length) (pre 5 s) fv
theorem PartsAt.keep {H H' : Hp} {ps : List Sch} {plv : List V} (h : PartsAt H ps plv) (k : Same H H') : PartsAt H' ps plv := fun j s e => by
  obtain ⟨fj, fv, h1, h2, h3⟩ := h j s e
  exact ⟨fj, fv, h1, k _ _ h2, paired_imp h3 fun _ _ h => FoundR.keep h (Same.tupK k)⟩
def spMany (K : PySem.W.Frag) (E : Bool) (ps : List Sch) (c : Nat → Int) : Sp := fun vs H Q _ => ∃ (na pl : Addr) (plv : List V), vs = [.ref na, .ref pl] ∧ (∀ H', SqT K H' na (namesV E)) ∧ H pl = some (.lst plv) ∧ plv.length = ps.length ∧ 0 < ps.length ∧ ps.length ≤ 5 ∧ PartsAt H ps plv ∧
  (∀ j s, ps[j]? = some s → c j = ((pre 5 s).map (own E c)).sum) ∧ ∀ H', Same H H' → Q (.int (c 0)) H'
section
variable {P : Program} {w : World} {K : PySem.W.Frag} {mg : Str → Option Value} {base : Heap}
theorem ok_many_of {E : Bool} {ps : List Sch} {c : Nat → Int} (T : PTx w K mg) (D : Def K mg "many_of" s_many_of ["names", "parts"]) : FnOk P w K mg base CX0 1 D.f D.fd ["names", "parts"] (spMany K E ps c) := by
  have nd := sc_many_of.nd
  refine D.ok sc_many_of (fun vs H Q E h => ?_) (fun cdv A outer s H vs Q E' hr h => ?_)
  · obtain ⟨na, pl, plv, rfl, _⟩ := h
    rfl
  obtain ⟨na, pl, plv, rfl, hna, epl, hl, h0, h5, hparts, hc, q⟩ := h
  refine ⟨_, pss_cons (ps_set (i := 2) nd rfl (Or.inl rfl) (pe_op op_rep (pe_lst (pa_cons pe_int pa_nil)) (pe_callB call_len_seq rfl (T.free "len" (by decide +kernel)) PySem.boot_len (pa_cons (pv 1) pa_nil))))
    (pss_cons (ps_for PassesOwn.never rfl (pi_revR rfl (T.free "reversed" (by decide +kernel)) (prg_1 rfl (T.free "range" (by decide +kernel)) (pe_callB call_len_seq rfl (T.free "len" (by decide +kernel)) PySem.boot_len (pa_cons (pv 1) pa_nil)))) (pg_name (i := 3) nd rfl (Or.inl rfl))
      (pss_one (ps_for PassesOwn.never rfl (pi_list (pe_ix ix_list (pv 1) (pv 3) (fun _ _ => rfl))) (pg_name (i := 4) nd rfl (Or.inl rfl))
        (pss_one (ps_if (pt_cmpR op_eq (pe_ix ix_tup (pv 4) pe_int (fun _ _ => rfl)) pe_str (nomark _))
          (pss_one (ps_augS (pv 2) (pv 3) pget_list (pe_ix ix_list (pv 2) (pe_ix ix_tup (pv 4) pe_int (fun _ _ => rfl)) (fun _ _ => rfl)) ip_add set_list))
          (pss_one (ps_if (pt_cmpR op_in_seq (pe_ix ix_tup (pv 4) pe_int (fun _ _ => rfl)) (pv 0) (by rfl)) (pss_one (ps_augS (pv 2) (pv 3) pget_list pe_int ip_add set_list)) pss_nil)))))))
    (pss_one (ps_ret (pe_ix ix_list (pv 2) pe_int (fun _ _ => rfl))))), ?_⟩
  have hN : (((plv.length : Nat) : Int) - 0).toNat = ps.length := by rw [hl]; omega
  refine ⟨szN (by show 1 ≤ 1000; decide), fun p0 hp0 => ?_⟩
  have s1 : Same H (upd H p0 (.lst [.int 0])) := Same.new hp0
  refine ⟨_, rfl, pl, _, rfl, .inl (SqL.of (s1 _ _ epl)), p0, _, _, rfl, rfl, upd_same, by omega, by omega, szN (by show 1 * _ ≤ 1000; omega), fun ml hml => ?_⟩
  rw [flat_rep, show (((plv.length : Nat) : Int)).toNat = ps.length by omega]
  have s2 := s1.trans (Same.new (o := .lst (List.replicate ps.length (V.int 0))) hml)
  have hm0 : H ml = none := s1.free hml
  dsimp only [gName]
  refine ⟨_, rfl, pl, _, rfl, .inl (SqL.of (s2 _ _ epl)), _, rfl, by omega, by omega, by omega, by omega, ?_⟩
  refine for_rangeC (lo := 0 + ((((plv.length : Nat) : Int) - 0).toNat : Int) - 1) (c := -1) (n := (((plv.length : Nat) : Int) - 0).toNat) (fun i σ H' => ∃ v3 v4 : Option V, σ = [some (.ref na), some (.ref pl), some (.ref ml), v3, v4] ∧ H' ml = some (.lst (mvOf ps.length fun j => if ps.length - i ≤ j then c j else 0)) ∧ Same H H')
    ⟨none, none, rfl, by rw [mv_zero fun j hj => if_neg (by omega)]; exact upd_same, s2⟩ ?_ ?_
  · rintro i σ H1 hi ⟨v3, v4, rfl, em, sm⟩
    rw [hN] at hi
    dsimp only [gName]
    have ez : 0 + ((((plv.length : Nat) : Int) - 0).toNat : Int) - 1 + ((i : Nat) : Int) * -1 = ((ps.length - 1 - i : Nat) : Int) := by rw [hN]; omega
    rw [ez]
    have hk : ps.length - 1 - i < ps.length := by omega
    obtain ⟨fj, fv, e1, e2, e3⟩ := hparts _ _ (List.getElem?_eq_getElem hk)
    have ck := hc _ _ (List.getElem?_eq_getElem hk)
    have lfv := Paired.length e3
    generalize hs : ps[ps.length - 1 - i]'hk = s at e3 ck lfv
    have hki : ps.length - 1 - i + 1 = ps.length - i := by omega
    generalize ps.length - 1 - i = k at e1 e3 ck hk hki ⊢
    refine ⟨_, rfl, _, rfl, pl, _, _, .ref fj, rfl, rfl, SqL.of (sm _ _ epl), atI_nat e1, fj, rfl, ⟨_, SqL.of (sm _ _ e2)⟩, ?_⟩
    have gt : ∀ t, t < (pre 5 s).length → ∀ s', (pre 5 s)[t]? = some s' → (((pre 5 s).take (t + 1)).map (own E c)).sum = (((pre 5 s).take t).map (own E c)).sum + own E c s' := fun t ht s' e => by
      rw [List.take_succ, e, List.map_append, List.sum_append]
      simp
    have hstart : ∀ j, (if ps.length - i ≤ j then c j else 0) = if j = k then (((pre 5 s).take 0).map (own E c)).sum else if ps.length - i ≤ j then c j else 0 := fun j => by
      by_cases ej : j = k
      · rw [if_pos ej, if_neg (by omega)]
        rfl
      · rw [if_neg ej]
    refine for_list (K := K) (a := fj) (xs := fv) (fun t σ H' => ∃ v4 : Option V, σ = [some (.ref na), some (.ref pl), some (.ref ml), some (.int ((k : Nat) : Int)), v4] ∧ H' ml = some (.lst (mvOf ps.length fun j => if j = k then (((pre 5 s).take t).map (own E c)).sum else if ps.length - i ≤ j then c j else 0)) ∧ Same H H')
      ⟨v4, rfl, by rw [em]; exact congrArg (fun z => some (HO.lst z)) (mv_congr fun j _ => hstart j), sm⟩ (fun t σ H' _ ⟨_, _, _, s5⟩ => SqL.of (s5 _ _ e2)) ?_ ?_
    · rintro t y σ H2 hy ⟨v4', rfl, em2, s5⟩
      obtain ⟨s', es', d, hsx, hox⟩ := paired_get' e3 hy
      have htl := (List.getElem?_eq_some_iff.mp es').1
      have gt1 := gt t htl s' es'
      obtain ⟨a, nm, rest, rfl, ea⟩ := hsx.tag
      have ea2 := s5 _ _ ea
      dsimp only [gName]
      have fin : ∀ z : Int, (((pre 5 s).take (t + 1)).map (own E c)).sum = z → ∃ v4 : Option V, [some (V.ref na), some (V.ref pl), some (V.ref ml), some (V.int ((k : Nat) : Int)), some (V.ref a)] = [some (V.ref na), some (V.ref pl), some (V.ref ml), some (V.int ((k : Nat) : Int)), v4] ∧
          upd H2 ml (.lst ((mvOf ps.length fun j => if j = k then (((pre 5 s).take t).map (own E c)).sum else if ps.length - i ≤ j then c j else 0).set k (.int z))) ml = some (.lst (mvOf ps.length fun j => if j = k then (((pre 5 s).take (t + 1)).map (own E c)).sum else if ps.length - i ≤ j then c j else 0)) ∧
          Same H (upd H2 ml (.lst ((mvOf ps.length fun j => if j = k then (((pre 5 s).take t).map (own E c)).sum else if ps.length - i ≤ j then c j else 0).set k (.int z)))) := fun z hz => by
        refine ⟨_, rfl, ?_, Same.newer s5 hm0⟩
        rw [upd_same, mv_set]
        congr 2
        refine mv_congr fun j hj => ?_
        by_cases ej : j = k
        · rw [if_pos ej, if_pos ej, hz]
        · rw [if_neg ej, if_neg ej, if_neg ej]
      have gk : (mvOf ps.length fun j => if j = k then (((pre 5 s).take t).map (own E c)).sum else if ps.length - i ≤ j then c j else 0)[k]? = some (.int (((pre 5 s).take t).map (own E c)).sum) := by
        rw [mv_get hk, if_pos rfl]
      have ixk : ixN (mvOf ps.length fun j => if j = k then (((pre 5 s).take t).map (own E c)).sum else if ps.length - i ≤ j then c j else 0).length ((k : Nat) : Int) = some k := by rw [mv_len]; exact ix_nat hk
      refine ⟨_, rfl, a, _, 0, .str nm, rfl, rfl, SqT.of ea2, at0, rfl, _, rfl, ?_⟩
      rw [dec_str]
      rcases own_tag hsx ea with ⟨n, rfl, rfl, rfl⟩ | ⟨nu, ho⟩
      · have hn : k < n ∧ n < ps.length := hox
        rw [show (("use" : Str) == "use") = true by decide +kernel]
        have eo : own E c (.use n) = c n := by cases E <;> rfl
        rw [eo] at gt1
        have gn : (mvOf ps.length fun j => if j = k then (((pre 5 s).take t).map (own E c)).sum else if ps.length - i ≤ j then c j else 0)[n]? = some (.int (c n)) := by
          rw [mv_get hn.2, if_neg (by omega), if_pos (by omega)]
        exact iteT ⟨_, rfl, _, rfl, ml, _, _, _, rfl, rfl, SqL.of em2, by omega, gk, _, rfl, _, rfl, a, _, 1, .int ((n : Nat) : Int), rfl, rfl, SqT.of ea2, at1, ml, _, _, .int (c n), rfl, rfl, SqL.of em2, atI_nat gn, _, _, rfl, rfl, ml, _, _, k, rfl, rfl, em2, ixk, fin _ gt1⟩
      · rw [nu]
        rw [ho E c] at gt1
        refine iteF ⟨_, rfl, a, _, 0, .str nm, rfl, rfl, SqT.of ea2, at0, _, rfl, na, _, rfl, .inr (hna _), rfl, names_flat E, _, rfl, ?_⟩
        refine ite2 (fun z => ?_) (fun z => ?_)
        · have z : inV (.str nm) (namesV E) = true := z
          rw [if_pos z] at gt1
          exact ⟨_, rfl, _, rfl, ml, _, _, _, rfl, rfl, SqL.of em2, by omega, gk, _, _, rfl, rfl, ml, _, _, k, rfl, rfl, em2, ixk, fin _ gt1⟩
        · have z : ¬ inV (.str nm) (namesV E) = true := z
          rw [if_neg z, Int.add_zero] at gt1
          refine ⟨_, rfl, ?_, s5⟩
          rw [em2, gt1]
    · rintro σ H2 ⟨v4', rfl, em2, s5⟩
      rw [← lfv, List.take_length, ← ck] at em2
      refine ⟨_, _, rfl, ?_, s5⟩
      rw [em2]
      congr 2
      refine mv_congr fun j hj => ?_
      by_cases ej : j = k
      · rw [if_pos ej, if_pos (by omega), ej]
      · rw [if_neg ej]
        by_cases e2 : ps.length - i ≤ j
        · rw [if_pos e2, if_pos (by omega)]
        · rw [if_neg e2, if_neg (by omega)]
  · rintro σ H1 ⟨v3, v4, rfl, em, sm⟩
    rw [hN] at em
    refine ⟨_, rfl, ml, _, 0, .int (c 0), rfl, rfl, SqL.of em, ?_, q _ sm⟩
    refine atI_nat (j := 0) ?_
    rw [mv_get h0, if_pos (by omega)]
end
end MS
end
section
set_option maxRecDepth 100000
set_option maxHeartbeats 4000000
namespace MS
open PySem L2
/-! ### what can be a paper -/
theorem ev_or_new {t u : TT} {σ : St} {H : Hp} {b c : Bool} (h1 : ∀ Q : Bool → Hp → Prop, (∀ H', Same H H' → Q b H') → t σ H Q) (h2 : b = false → ∀ H', Same H H' → ∀ Q : Bool → Hp → Prop, (∀ H'', Same H' H'' → Q c H'') → u σ H' Q) :
    ∀ Q : Bool → Hp → Prop, (∀ H', Same H H' → Q (b || c) H') → tOr t u σ H Q := fun Q q => h1 _ fun H' s => by
  cases b with
  | true => exact iteT (q H' s)
  | false => exact iteF (h2 rfl H' s _ fun H'' s'' => q H'' (s.trans s''))
def spCheckPaper : Sp := fun vs H Q _ => ∃ (pa : Addr) (ps : List Sch) (pv : List V), vs = [.ref pa] ∧ H pa = some (.tup pv) ∧ Paired (SAt H 5) ps pv ∧ PaperOk ps ∧ ∀ H', Same H H' → Q .non H'
def spCheckPaper1 (ps : List Sch) : Sp := fun vs H Q _ => ∃ (pa : Addr) (pv : List V), vs = [.ref pa] ∧ H pa = some (.tup pv) ∧ Paired (SAt H 5) ps pv ∧ PaperOk ps ∧ ∀ H', Same H H' → Q .non H'
structure DPaper (K : PySem.W.Frag) (mg : Str → Option Value) where
  DN : Def K mg "is_number" s_is_number ["thing"]
  DF : Def K mg "fits" s_fits psFits
  DB : Def K mg "can_be" s_can_be ["thing", "number", "many"]
  DI : Def K mg "within" s_within ["scheme"]
  DP : Def K mg "placed" s_placed ["schemes", "place"]
  DS : Def K mg "schemes_in" s_schemes_in ["paper", "number"]
  DM : Def K mg "many_of" s_many_of ["names", "parts"]
  DC : Def K mg "check_paper" s_check_paper ["paper"]
section
variable {P : Program} {w : World} {K : PySem.W.Frag} {mg : Str → Option Value} {base : Heap}
theorem ok_check_paper1 {ps : List Sch} (T : PTx w K mg) (D : DPaper K mg) : FnOk P w K mg base CX0 5 D.DC.f D.DC.fd ["paper"] (spCheckPaper1 ps) := by
  by_cases hP : PaperOk ps
  case neg =>
    have e : spCheckPaper1 ps = fun _ _ _ _ => False := by
      funext vs H Q E
      refine propext ⟨fun h => ?_, fun h => h.elim⟩
      obtain ⟨_, _, _, _, _, z, _⟩ := h
      exact hP z
    rw [e]
    exact no_sp
  have hPl := hP.1
  have hP5 := hP.2.1
  obtain ⟨ce, cw, tl⟩ := hP.2.2
  have GS : FnOk P w K mg base CX0 4 D.DS.f D.DS.fd ["paper", "number"] (fun vs H Q E => ∃ i, spSchemesIn ps i vs H Q E) := fn_any fun i => ok_schemes_in T D.DS D.DB D.DF D.DN D.DI D.DP
  have GE : FnOk P w K mg base CX0 1 D.DM.f D.DM.fd ["names", "parts"] (spMany K true ps ce) := ok_many_of T D.DM
  have GW : FnOk P w K mg base CX0 1 D.DM.f D.DM.fd ["names", "parts"] (spMany K false ps cw) := ok_many_of T D.DM
  obtain ⟨tP, gP⟩ := T.mostInPaper
  obtain ⟨tE, gE⟩ := T.mostE
  obtain ⟨tW, gW⟩ := T.mostW
  obtain ⟨aE, hE, qE⟩ := T.earners
  obtain ⟨aW, hW, qW⟩ := T.watchers
  have nd := sc_check_paper.nd
  refine D.DC.ok sc_check_paper (fun vs H Q E h => ?_) (fun cdv A outer s H vs Q E hr h => ?_)
  · obtain ⟨pa, pv, rfl, _⟩ := h
    rfl
  obtain ⟨pa, pv0, rfl, epv, pp, _, q⟩ := h
  have hr1 : Room 1 _ := hr.mono (by decide)
  refine ⟨_, pss_cons (ps_if (PW.pt (pw_or (pt_not (pt_val (pe_callB call_isi rfl (T.free "isinstance" (by decide +kernel)) (by decide +kernel) (pa_cons (pv 0) (pa_cons (pe_bltn rfl (T.free "tuple" (by decide +kernel)) (by decide +kernel) (v := .ty "tuple") rfl) pa_nil)))))
      (pw_or1 (pt_not (pt_truth (pv 0) (by intro _; rfl)))))) (pss_one ps_never) pss_nil)
    (pss_cons (ps_set (i := 1) nd rfl (Or.inl rfl) (pe_lst pa_nil))
    (pss_cons (ps_for PassesOwn.never rfl (pi_range1 rfl (T.free "range" (by decide +kernel)) (pa_cons (pe_callB call_len_seq rfl (T.free "len" (by decide +kernel)) PySem.boot_len (pa_cons (pv 0) pa_nil)) pa_nil)) (pg_name (i := 2) nd rfl (Or.inl rfl))
      (pss_cons (ps_if (pt_cmpR op_eq (pv 2) (pe_glob rfl gP (v := .int 5) ⟨_, rfl⟩) (nomark _)) (pss_one ps_never) pss_nil)
      (pss_one (ps_expr (pe_bm PySem.F.plainAttrs_list PySem.F.slot_list_append PySem.F.type_list_append mt_append (pv 1) (pa_cons (pcall D.DS GS hr (pa_cons (pv 0) (pa_cons (pv 2) pa_nil))) pa_nil))))))
    (pss_one (ps_if (PW.pt (pw_or (pt_cmpR op_gt (pcall D.DM GE hr1 (pa_cons (pe_glob rfl hE (v := .ref aE) rfl) (pa_cons (pv 1) pa_nil))) (pe_glob rfl gE (v := .int 7) ⟨_, rfl⟩) (nomark _))
      (pw_or1 (pt_cmpR op_gt (pcall D.DM GW hr1 (pa_cons (pe_glob rfl hW (v := .ref aW) rfl) (pa_cons (pv 1) pa_nil))) (pe_glob rfl gW (v := .int 3) ⟨_, rfl⟩) (nomark _))))) (pss_one ps_never) pss_nil)))), ?_⟩
  have hM := Paired.length pp
  refine seq_if (b := false || false) (ev_or (b := false) (c := false) (fun Q q => ⟨_, rfl, _, .ty "tuple", .type "tuple", .type "tuple", true, rfl, .ty _, .base (.tup epv), kit_ty (by decide +kernel), _, rfl, q⟩)
    (fun Q q => ⟨_, rfl, true, .inr (.inl ⟨_, SqT.of epv, by cases pp with
      | nil => exact absurd hPl (by simp)
      | cons _ _ => rfl⟩), q⟩)) (fun z => nomatch z) (fun _ => ?_)
  refine ⟨Nat.zero_le _, fun p hp => ?_⟩
  have s1 : Same H (upd H p (.lst [])) := Same.new hp
  dsimp only [gName]
  refine ⟨_, rfl, pa, _, rfl, .inr (SqT.of (s1 _ _ epv)), _, rfl, by omega, by omega, ?_⟩
  have hn : (((pv0.length : Nat) : Int)).toNat = ps.length := by omega
  refine for_range (lo := 0) (n := (((pv0.length : Nat) : Int)).toNat) (fun i σ H' => ∃ (plv : List V) (v : Option V), σ = [some (.ref pa), some (.ref p), v] ∧ H' p = some (.lst plv) ∧ plv.length = i ∧
      (∀ j s, j < i → ps[j]? = some s → ∃ fj fv, plv[j]? = some (V.ref fj) ∧ fj ≠ p ∧ H' fj = some (.lst fv) ∧ Paired (FoundR H' j ps.length) (pre 5 s) fv) ∧ Same H H')
    ⟨[], none, rfl, upd_same, rfl, (fun _ _ h => by omega), s1⟩ ?_ ?_
  · rintro i σ H1 hi ⟨plv, v, rfl, ep, hl, hparts, sm⟩
    rw [hn] at hi
    have ez : (0 : Int) + ((i : Nat) : Int) = ((i : Nat) : Int) := by omega
    dsimp only [gName]
    rw [ez]
    refine seq_if (b := false) (fun Q q => ⟨_, rfl, rfl, _, rfl, by rw [decide_eq_false (fun z => by have := V.int.inj z; omega)]; exact q⟩) (fun z => nomatch z) (fun _ => ?_)
    obtain ⟨t1, t2, t3, t4, _⟩ := tl i _ (List.getElem?_eq_getElem hi)
    rw [Nat.zero_add] at t1
    refine ⟨_, rfl, .inl ⟨rfl, _, SqL.of ep⟩, _, rfl, _, rfl, i, pa, pv0, _, rfl, sm _ _ epv, paired_imp pp fun _ _ => SAt.keep (Same.tupK sm) _ _ _, List.getElem?_eq_getElem hi, t1, t4, fun f fv H2 s2 hf ef pf => ?_⟩
    have ep2 := s2 _ _ ep
    have nfp : f ≠ p := fun z => by rw [z, ep] at hf; cases hf
    have tk : TupK H2 (upd H2 p (.lst (plv ++ [.ref f]))) := TupK.put ep2
    refine ⟨p, _, _, rfl, rfl, ep2, small1000 (by omega), ?_⟩
    refine ⟨plv ++ [.ref f], _, rfl, upd_same, by rw [List.length_append, hl]; rfl, fun j s hj es => ?_, Same.newer (sm.trans s2) hp⟩
    by_cases e : j < i
    · obtain ⟨fj, fv', e1, e2, e3, e4⟩ := hparts j s e es
      exact ⟨fj, fv', by rw [List.getElem?_append_left (by omega)]; exact e1, e2, by rw [upd_ne e2]; exact s2 _ _ e3, paired_imp e4 fun _ _ h => FoundR.keep h ((Same.tupK s2).trans tk)⟩
    · have e : j = i := by omega
      subst e
      obtain rfl : ps[j] = s := Option.some.inj ((List.getElem?_eq_getElem hi).symm.trans es)
      refine ⟨f, fv, ?_, nfp, by rw [upd_ne nfp]; exact ef, paired_imp pf fun _ _ h => FoundR.keep h tk⟩
      rw [List.getElem?_append_right (by omega), hl, Nat.sub_self]
      rfl
  · rintro σ H1 ⟨plv, v, rfl, ep, hl, hparts, sm⟩
    rw [hn] at hl hparts
    have hPA : PartsAt H1 ps plv := fun j s es => by
      obtain ⟨fj, fv, e1, _, e3, e4⟩ := hparts j s (List.getElem?_eq_some_iff.mp es).1 es
      exact ⟨fj, fv, e1, e3, e4⟩
    obtain ⟨t1, t2, t3, t4, t5, t6⟩ := tl 0 _ (List.getElem?_eq_getElem hPl)
    rw [Nat.zero_add] at t2 t3
    dsimp only
    refine one_new (u := tNext) (b := false || false) (ev_or_new (b := false) (c := false) (fun Q q => ?_) (fun _ H2 s2 Q q => ?_)) (fun z => nomatch z) (fun _ H2 s2 => ?_)
    · refine ⟨_, rfl, aE, p, plv, rfl, qE, ep, hl, hPl, hP5, hPA, fun j s es => ?_, fun H2 s2 => ?_⟩
      · obtain ⟨u1, u2, _⟩ := tl j s es
        rw [Nat.zero_add] at u1 u2
        rw [u2]
        exact (pre_er ce 5 s u1).symm
      · refine ⟨_, _, rfl, rfl, _, rfl, ?_⟩
        rw [decide_eq_false (show ¬ (7 : Int) < ce 0 by omega)]
        exact q H2 s2
    · refine ⟨_, rfl, aW, p, plv, rfl, qW, s2 _ _ ep, hl, hPl, hP5, hPA.keep s2, fun j s es => ?_, fun H3 s3 => ?_⟩
      · obtain ⟨u1, _, u3, _⟩ := tl j s es
        rw [Nat.zero_add] at u1 u3
        rw [u3]
        exact (pre_wr cw 5 s u1).symm
      · refine ⟨_, _, rfl, rfl, _, rfl, ?_⟩
        rw [decide_eq_false (show ¬ (3 : Int) < cw 0 by omega)]
        exact q H3 s3
    · exact q H2 (sm.trans s2)
theorem ok_check_paper (T : PTx w K mg) (D : DPaper K mg) : FnOk P w K mg base CX0 5 D.DC.f D.DC.fd ["paper"] spCheckPaper := by
  have G : FnOk P w K mg base CX0 5 D.DC.f D.DC.fd ["paper"] (fun vs H Q E => ∃ ps, spCheckPaper1 ps vs H Q E) := fn_any fun ps => ok_check_paper1 T D
  have e : spCheckPaper = fun vs H Q E => ∃ ps, spCheckPaper1 ps vs H Q E := by
    funext vs H Q E
    refine propext ⟨fun h => ?_, fun h => ?_⟩
    · obtain ⟨pa, ps, pv, h⟩ := h
      exact ⟨ps, pa, pv, h⟩
    · obtain ⟨ps, pa, pv, h⟩ := h
      exact ⟨pa, ps, pv, h⟩
  rw [e]
  exact G
end
end MS
end
section
set_option maxRecDepth 100000
set_option maxHeartbeats 4000000
namespace MS
open PySem L2
/-- two values are of the same kinds, and the same -/
def Alk (H : Hp) : Nat → V → V → Prop
  | 0, x, y => (∃ i : Int, x = .int i ∧ y = .int i) ∨ ∃ z : Str, x = .str z ∧ y = .str z
  | n + 1, x, y => Alk H n x y ∨ ∃ (a b : Addr) (xs ys : List V), x = .ref a ∧ y = .ref b ∧ ((H a = some (.lst xs) ∧ H b = some (.lst ys)) ∨ (H a = some (.tup xs) ∧ H b = some (.tup ys))) ∧ xs.length ≤ 1000 ∧ Paired (Alk H n) xs ys
theorem Alk.keep {H H' : Hp} (k : Same H H') : ∀ (n : Nat) (x y : V), Alk H n x y → Alk H' n x y
  | 0, _, _, h => h
  | n + 1, x, y, .inl h => .inl (Alk.keep k n x y h)
  | n + 1, x, y, .inr ⟨a, b, xs, ys, e1, e2, h, l, p⟩ => .inr ⟨a, b, xs, ys, e1, e2, by
      rcases h with ⟨h1, h2⟩ | ⟨h1, h2⟩
      · exact .inl ⟨k _ _ h1, k _ _ h2⟩
      · exact .inr ⟨k _ _ h1, k _ _ h2⟩, l, paired_imp p fun x y => Alk.keep k n x y⟩
def spAlike (n : Nat) : Sp := fun vs H Q _ => ∃ x y, vs = [x, y] ∧ Alk H n x y ∧ ∀ H', Same H H' → Q (.bl true) H'
theorem Alk.up {H : Hp} {n : Nat} {x y : V} (h : Alk H n x y) : Alk H (n + 1) x y := .inl h
theorem Alk.kind {H : Hp} : ∀ {n : Nat} {x y : V}, Alk H n x y → (∃ i : Int, x = .int i ∧ y = .int i) ∨ (∃ z : Str, x = .str z ∧ y = .str z) ∨ ∃ (m : Nat) (a b : Addr) (xs ys : List V), n = m + 1 ∧ x = .ref a ∧ y = .ref b ∧ ((H a = some (.lst xs) ∧ H b = some (.lst ys)) ∨ (H a = some (.tup xs) ∧ H b = some (.tup ys))) ∧ xs.length ≤ 1000 ∧ Paired (Alk H m) xs ys
  | 0, _, _, .inl h => .inl h
  | 0, _, _, .inr h => .inr (.inl h)
  | n + 1, x, y, .inl h => by
    rcases Alk.kind h with h1 | h1 | ⟨m, a, b, xs, ys, e, e1, e2, h1, l, p⟩
    · exact .inl h1
    · exact .inr (.inl h1)
    · subst e
      exact .inr (.inr ⟨m + 1, a, b, xs, ys, rfl, e1, e2, h1, l, paired_imp p fun _ _ z => z.up⟩)
  | n + 1, x, y, .inr ⟨a, b, xs, ys, e1, e2, h, l, p⟩ => .inr (.inr ⟨n, a, b, xs, ys, rfl, e1, e2, h, l, p⟩)
theorem one_to {tc : TT} {t u : TS} {D : Ends} {σ : St} {H : Hp} {b : Bool} (h : ∀ Q : Bool → Hp → Prop, (∀ H', Same H H' → Q b H') → tc σ H Q) (k1 : b = true → ∀ H', Same H H' → t D σ H') (k2 : b = false → ∀ H', Same H H' → u D σ H') : tIfS tc t u D σ H := h _ fun H' s => by
  cases b with
  | true => exact iteT (k1 rfl H' s)
  | false => exact iteF (k2 rfl H' s)
section
variable {P : Program} {w : World} {K : PySem.W.Frag} {mg : Str → Option Value} {base : Heap}
abbrev psAlike : List Str := ["_law_found", "_law_due"]
theorem alike_turn {n : Nat} {sp' : Sp} (D : Def K mg "_law_alike" s_L_alike psAlike) (mis : mg "isinstance" = none) (mb : mg "bool" = none) (mi : mg "int" = none) (ms : mg "str" = none) (mt : mg "tuple" = none) (mli : mg "list" = none) (ml : mg "len" = none) (mr : mg "range" = none)
    (G : FnOk P w K mg base CX0 n D.f D.fd psAlike sp') (hs : ∀ n', n = n' + 1 → sp' = spAlike n') : FnOk P w K mg base CX0 (n + 1) D.f D.fd psAlike (spAlike n) := by
  have nd := sc_L_alike.nd
  refine D.ok sc_L_alike (fun vs H Q E h => ?_) (fun cdv A outer s H vs Q E hr h => ?_)
  · obtain ⟨x, y, rfl, _⟩ := h
    rfl
  obtain ⟨x, y, rfl, hxy, q⟩ := h
  refine ⟨_, pss_cons (ps_if (pt_cmpR op_isN (pv 1) pe_non (nomark _)) (pss_one (ps_ret (pe_cmpR op_isN (pv 0) pe_non (by rfl)))) pss_nil)
    (pss_cons (ps_if (pt_val (pe_callB call_isi rfl mis (by decide +kernel) (pa_cons (pv 1) (pa_cons (pe_bltn rfl mb (by decide +kernel) (v := .ty "bool") rfl) pa_nil)))) (pss_one (ps_ret (pe_and (pe_callB call_isi rfl mis (by decide +kernel) (pa_cons (pv 0) (pa_cons (pe_bltn rfl mb (by decide +kernel) (v := .ty "bool") rfl) pa_nil))) (pe_one (pe_cmpR op_eq (pv 0) (pv 1) (nomark _)))))) pss_nil)
    (pss_cons (ps_if (pt_val (pe_callB call_isi rfl mis (by decide +kernel) (pa_cons (pv 1) (pa_cons (pe_bltn rfl mi (by decide +kernel) (v := .ty "int") rfl) pa_nil)))) (pss_one (ps_ret (pe_and (pe_callB call_isi rfl mis (by decide +kernel) (pa_cons (pv 0) (pa_cons (pe_bltn rfl mi (by decide +kernel) (v := .ty "int") rfl) pa_nil)))
        (pe_and (pe_not (pe_callB call_isi rfl mis (by decide +kernel) (pa_cons (pv 0) (pa_cons (pe_bltn rfl mb (by decide +kernel) (v := .ty "bool") rfl) pa_nil)))) (pe_one (pe_cmpR op_eq (pv 0) (pv 1) (nomark _))))))) pss_nil)
    (pss_cons (ps_if (pt_val (pe_callB call_isi rfl mis (by decide +kernel) (pa_cons (pv 1) (pa_cons (pe_bltn rfl ms (by decide +kernel) (v := .ty "str") rfl) pa_nil)))) (pss_one (ps_ret (pe_and (pe_callB call_isi rfl mis (by decide +kernel) (pa_cons (pv 0) (pa_cons (pe_bltn rfl ms (by decide +kernel) (v := .ty "str") rfl) pa_nil))) (pe_one (pe_cmpR op_eq (pv 0) (pv 1) (nomark _)))))) pss_nil)
    (pss_cons (ps_if (PW.pt (pw_or (pt_cmpR op_ne (pe_callB call_isi rfl mis (by decide +kernel) (pa_cons (pv 1) (pa_cons (pe_bltn rfl mt (by decide +kernel) (v := .ty "tuple") rfl) pa_nil))) (pe_callB call_isi rfl mis (by decide +kernel) (pa_cons (pv 0) (pa_cons (pe_bltn rfl mt (by decide +kernel) (v := .ty "tuple") rfl) pa_nil))) (nomark _))
        (pw_or1 (pt_cmpR op_ne (pe_callB call_isi rfl mis (by decide +kernel) (pa_cons (pv 1) (pa_cons (pe_bltn rfl mli (by decide +kernel) (v := .ty "list") rfl) pa_nil))) (pe_callB call_isi rfl mis (by decide +kernel) (pa_cons (pv 0) (pa_cons (pe_bltn rfl mli (by decide +kernel) (v := .ty "list") rfl) pa_nil))) (nomark _))))) (pss_one (ps_ret pe_bl)) pss_nil)
    (pss_cons (ps_if (pt_cmpR op_ne (pe_callB call_len_seq rfl ml PySem.boot_len (pa_cons (pv 0) pa_nil)) (pe_callB call_len_seq rfl ml PySem.boot_len (pa_cons (pv 1) pa_nil)) (nomark _)) (pss_one (ps_ret pe_bl)) pss_nil)
    (pss_cons (ps_for PassesOwn.never rfl (pi_range1 rfl mr (pa_cons (pe_callB call_len_seq rfl ml PySem.boot_len (pa_cons (pv 1) pa_nil)) pa_nil)) (pg_name (i := 2) nd rfl (Or.inl rfl))
      (pss_one (ps_if (pt_not (pt_val (pcall D G hr (pa_cons (pe_ix ix_seq (pv 0) (pv 2) (fun _ _ => rfl)) (pa_cons (pe_ix ix_seq (pv 1) (pv 2) (fun _ _ => rfl)) pa_nil))))) (pss_one (ps_ret pe_bl)) pss_nil)))
    (pss_one (ps_ret pe_bl)))))))), ?_⟩
  have qq : ∀ b : Bool, b = true → Q (.bl b) H := fun b e => by
    subst e
    exact q H (Same.refl _)
  rcases hxy.kind with ⟨i, rfl, rfl⟩ | ⟨z, rfl, rfl⟩ | ⟨m, a, b, xs, ys, rfl, rfl, rfl, hab, hl, hp⟩
  · refine seq_if (b := false) (fun Q q => ⟨_, rfl, rfl, _, rfl, by rw [decide_eq_false (fun z => nomatch z)]; exact q⟩) (fun z => nomatch z) (fun _ => ?_)
    refine seq_if (b := false) (fun Q q => ⟨_, rfl, _, .ty "bool", .type "int", .type "bool", false, rfl, .ty _, .base (.int i), kit_ty (by decide +kernel), _, rfl, q⟩) (fun z => nomatch z) (fun _ => ?_)
    refine seq_if (b := true) (fun Q q => ⟨_, rfl, _, .ty "int", .type "int", .type "int", true, rfl, .ty _, .base (.int i), kit_ty (by decide +kernel), _, rfl, q⟩) (fun _ => ?_) (fun z => nomatch z)
    exact ⟨_, rfl, _, .ty "int", .type "int", .type "int", true, rfl, .ty _, .base (.int i), kit_ty (by decide +kernel), _, rfl, _, rfl, _, .ty "bool", .type "int", .type "bool", false, rfl, .ty _, .base (.int i), kit_ty (by decide +kernel), _, rfl, _, rfl, _, rfl, _, rfl, rfl, qq _ (decide_eq_true rfl)⟩
  · refine seq_if (b := false) (fun Q q => ⟨_, rfl, rfl, _, rfl, by rw [decide_eq_false (fun z => nomatch z)]; exact q⟩) (fun z => nomatch z) (fun _ => ?_)
    refine seq_if (b := false) (fun Q q => ⟨_, rfl, _, .ty "bool", .type "str", .type "bool", false, rfl, .ty _, .base (.str z), kit_ty (by decide +kernel), _, rfl, q⟩) (fun z => nomatch z) (fun _ => ?_)
    refine seq_if (b := false) (fun Q q => ⟨_, rfl, _, .ty "int", .type "str", .type "int", false, rfl, .ty _, .base (.str z), kit_ty (by decide +kernel), _, rfl, q⟩) (fun z => nomatch z) (fun _ => ?_)
    refine seq_if (b := true) (fun Q q => ⟨_, rfl, _, .ty "str", .type "str", .type "str", true, rfl, .ty _, .base (.str z), kit_ty (by decide +kernel), _, rfl, q⟩) (fun _ => ?_) (fun z => nomatch z)
    exact ⟨_, rfl, _, .ty "str", .type "str", .type "str", true, rfl, .ty _, .base (.str z), kit_ty (by decide +kernel), _, rfl, _, rfl, _, rfl, rfl, qq _ (decide_eq_true rfl)⟩
  · obtain rfl := hs m rfl
    have lxy := Paired.length hp
    obtain ⟨isT, tn, tya, tyb, cT, cL, sa, sb, nb, ni, nsx⟩ : ∃ (isT : Bool) (tn : String), TyX K H (.ref a) (.type tn) ∧ TyX K H (.ref b) (.type tn) ∧ PySem.W.kitOne K (.type tn) (.type "tuple") = some isT ∧ PySem.W.kitOne K (.type tn) (.type "list") = some (!isT) ∧
        (SqL K H a xs ∨ SqT K H a xs) ∧ (SqL K H b ys ∨ SqT K H b ys) ∧ PySem.W.kitOne K (.type tn) (.type "bool") = some false ∧ PySem.W.kitOne K (.type tn) (.type "int") = some false ∧ PySem.W.kitOne K (.type tn) (.type "str") = some false := by
      rcases hab with ⟨h1, h2⟩ | ⟨h1, h2⟩
      · exact ⟨false, "list", .base (.lst h1), .base (.lst h2), kit_ty (by decide +kernel), kit_ty (by decide +kernel), .inl (SqL.of h1), .inl (SqL.of h2), kit_ty (by decide +kernel), kit_ty (by decide +kernel), kit_ty (by decide +kernel)⟩
      · exact ⟨true, "tuple", .base (.tup h1), .base (.tup h2), kit_ty (by decide +kernel), kit_ty (by decide +kernel), .inr (SqT.of h1), .inr (SqT.of h2), kit_ty (by decide +kernel), kit_ty (by decide +kernel), kit_ty (by decide +kernel)⟩
    refine seq_if (b := false) (fun Q q => ⟨_, rfl, rfl, _, rfl, by rw [decide_eq_false (fun z => nomatch z)]; exact q⟩) (fun z => nomatch z) (fun _ => ?_)
    refine seq_if (b := false) (fun Q q => ⟨_, rfl, _, .ty "bool", _, .type "bool", false, rfl, .ty _, tyb, nb, _, rfl, q⟩) (fun z => nomatch z) (fun _ => ?_)
    refine seq_if (b := false) (fun Q q => ⟨_, rfl, _, .ty "int", _, .type "int", false, rfl, .ty _, tyb, ni, _, rfl, q⟩) (fun z => nomatch z) (fun _ => ?_)
    refine seq_if (b := false) (fun Q q => ⟨_, rfl, _, .ty "str", _, .type "str", false, rfl, .ty _, tyb, nsx, _, rfl, q⟩) (fun z => nomatch z) (fun _ => ?_)
    refine seq_if (b := false || false) (ev_or (b := false) (c := false) (fun Q q => ⟨_, rfl, _, .ty "tuple", _, .type "tuple", isT, rfl, .ty _, tyb, cT, _, rfl, _, .ty "tuple", _, .type "tuple", isT, rfl, .ty _, tya, cT, rfl, _, rfl, by rw [decide_eq_true rfl]; exact q⟩)
      (fun Q q => ⟨_, rfl, _, .ty "list", _, .type "list", !isT, rfl, .ty _, tyb, cL, _, rfl, _, .ty "list", _, .type "list", !isT, rfl, .ty _, tya, cL, rfl, _, rfl, by rw [decide_eq_true rfl]; exact q⟩)) (fun z => nomatch z) (fun _ => ?_)
    refine seq_if (b := false) (fun Q q => ⟨_, rfl, a, xs, rfl, sa, _, rfl, b, ys, rfl, sb, rfl, _, rfl, by rw [lxy, decide_eq_true rfl]; exact q⟩) (fun z => nomatch z) (fun _ => ?_)
    refine ⟨_, rfl, b, ys, rfl, sb, _, rfl, by omega, by omega, ?_⟩
    rw [Int.toNat_natCast]
    have ix : ∀ {c : Addr} {zs : List V} {H' : Hp} {j : Nat} {v : V} {Q : VK}, (SqL K H' c zs ∨ SqT K H' c zs) → zs[j]? = some v → Q v H' → rIx K (.ref c) (.int ((j : Nat) : Int)) H' Q := fun h e q => by
      rcases h with h | h
      · exact .inl ⟨_, _, _, _, rfl, rfl, h, atI_nat e, q⟩
      · exact .inr (.inl ⟨_, _, _, _, rfl, rfl, h, atI_nat e, q⟩)
    have seqK : ∀ {c : Addr} {zs : List V} {H' : Hp}, ((H c = some (.lst zs)) ∨ (H c = some (.tup zs))) → Same H H' → (SqL K H' c zs ∨ SqT K H' c zs) := fun h s => by
      rcases h with h | h
      · exact .inl (SqL.of (s _ _ h))
      · exact .inr (SqT.of (s _ _ h))
    have ha' : (H a = some (.lst xs)) ∨ (H a = some (.tup xs)) := hab.imp (·.1) (·.1)
    have hb' : (H b = some (.lst ys)) ∨ (H b = some (.tup ys)) := hab.imp (·.2) (·.2)
    refine for_range (lo := 0) (n := ys.length) (fun j σ H' => ∃ v2 : Option V, σ = [some (.ref a), some (.ref b), v2] ∧ Same H H') ⟨none, rfl, Same.refl _⟩ ?_ ?_
    · rintro j σ H' hj ⟨v2, rfl, s1⟩
      have hjx : j < xs.length := by omega
      have ex : xs[j]? = some (xs[j]'hjx) := List.getElem?_eq_getElem hjx
      obtain ⟨y', ey, hy⟩ : ∃ y', ys[j]? = some y' ∧ Alk H m (xs[j]'hjx) y' := by
        have eyj : ys[j]? = some (ys[j]'hj) := List.getElem?_eq_getElem hj
        obtain ⟨x', ex', hx'⟩ := paired_get' hp eyj
        rw [ex] at ex'
        cases ex'
        exact ⟨_, eyj, hx'⟩
      simp only [Int.zero_add]
      dsimp only [gName]
      refine one_to (b := false) (fun Q q => ⟨_, rfl, _, rfl, ix (seqK ha' s1) ex ⟨_, rfl, _, rfl, ix (seqK hb' s1) ey ⟨_, _, rfl, Alk.keep s1 _ _ _ hy, fun H6 s6 => ⟨_, rfl, q H6 s6⟩⟩⟩⟩) (fun z => nomatch z) (fun _ H6 s6 => ?_)
      exact ⟨_, rfl, s1.trans s6⟩
    · rintro σ H' ⟨v2, rfl, s1⟩
      exact q H' s1
theorem ok_alike (D : Def K mg "_law_alike" s_L_alike psAlike) (mis : mg "isinstance" = none) (mb : mg "bool" = none) (mi : mg "int" = none) (ms : mg "str" = none) (mt : mg "tuple" = none) (mli : mg "list" = none) (ml : mg "len" = none) (mr : mg "range" = none) :
    ∀ n : Nat, FnOk P w K mg base CX0 (n + 1) D.f D.fd psAlike (spAlike n)
  | 0 => alike_turn (sp' := fun _ _ _ _ => False) D mis mb mi ms mt mli ml mr ⟨fun vs H Q E h => h.elim, fun A outer s H args us vs Q E _ _ _ _ h => h.elim⟩ fun n' e => by omega
  | n + 1 => alike_turn (sp' := spAlike n) D mis mb mi ms mt mli ml mr (ok_alike D mis mb mi ms mt mli ml mr n) fun n' e => by
      have e' : n = n' := by omega
      rw [e']
end
end MS
end
section
set_option maxRecDepth 100000
set_option maxHeartbeats 4000000
namespace MS
open PySem L2
/-! ### match over a tuple whose first item is a text -/
inductive Caps (X : Cx) : List Pattern → List (Str × Nat) → Prop
  | nil : Caps X [] []
  | cons {n : Str} {i : Nat} {pos : Pos} {ps : List Pattern} {l : List (Str × Nat)} (hi : X.N[i]? = some n) (hx : Loc X.env.scope n) (hf : X.fn n = true ∨ X.env.scope.names.lookup n = some .local) (t : Caps X ps l) : Caps X (.MatchAs none (some n) pos :: ps) ((n, i) :: l)
def setAll : St → List Nat → List V → St
  | σ, i :: is, v :: vs => setAll (σ.set i (some v)) is vs
  | σ, _, _ => σ
section
variable {X : Cx} {pins : List (Addr × Obj)} {A : Around}
theorem Caps.each {E : Value → Shared → Prop} {s : Shared} : ∀ {ps : List Pattern} {l : List (Str × Nat)} {vs : List Value} {Q : Option (List (Str × Value)) → Shared → Prop}, Caps X ps l → vs.length = l.length → Q (some ((l.map (·.1)).zip vs)) s → wpAny (model X.prog X.w) A (matchEach ps X.env vs) Q E s
  | _, _, [], _, .nil, _, h => wpAny_matchEach_nil h
  | _, _, _ :: _, _, .nil, e, _ => nomatch e
  | _, _, [], _, .cons _ _ _ _, e, _ => nomatch e
  | _, _, v :: vs, Q, .cons hi hx hf t, e, h => wpAny_matchEach_cons (wpAny_matchPattern_Capture (Caps.each t (by simpa using e) h)) rfl
theorem Caps.len {ps : List Pattern} {l : List (Str × Nat)} (h : Caps X ps l) : ps.length = l.length := by
  induction h with
  | nil => rfl
  | cons _ _ _ _ ih => simp [ih]
theorem Caps.nostar : ∀ {ps : List Pattern} {l : List (Str × Nat)}, Caps X ps l → ∀ n, List.findIdx?.go (fun p : Pattern => p.isStar) ps n = none
  | _, _, .nil, _ => rfl
  | _, _, .cons hi hx hf t, n => by
    show (if _ then _ else _) = none
    rw [if_neg (by simp [Pattern.isStar])]
    exact Caps.nostar t (n + 1)
theorem Caps.store {E : Value → Shared → Prop} : ∀ {ps : List Pattern} {l : List (Str × Nat)} {us : List Value} {vs : List V} {σ : St} {H : Hp} {s : Shared} {Q : Unit → Shared → Prop}, Caps X ps l → X.N.Nodup → Vals vs us → us.length = l.length → Inv X pins σ H s → (∀ s', Inv X pins (setAll σ (l.map (·.2)) vs) H s' → Q () s') →
    wpAny (model X.prog X.w) A (assignInOrder ((((l.map (·.1)).zip us)).map fun (n, _) => bindName X.env n) (((l.map (·.1)).zip us).map (·.2))) Q E s
  | _, _, [], _, _, _, _, _, .nil, _, .nil, _, I, h => wpAny_assignInOrder_none (h _ I)
  | _, _, _ :: _, _, _, _, _, _, .nil, _, _, e, _, _ => nomatch e
  | _, _, [], _, _, _, _, _, .cons _ _ _ _, _, _, e, _, _ => nomatch e
  | _, _, u :: us, v :: vs, σ, H, s, Q, .cons hi hx hf t, hN, .cons r rr, e, I, h => by
    refine wpAny_assignInOrder_more ?_
    show wpAny _ _ (holding [u] point >>= fun _ => storeName X.env _ u >>= fun _ => point) _ _ _
    refine wpAny_bind (wpAny_holding (wpAny_point (wpAny_bind (store_ok I hN hi hx r (fun s' I' => ?_) hf))))
    exact wpAny_point (Caps.store t hN rr (by simpa using e) I' h)
end
/-- the cases of a match -/
abbrev TM := V → TS
structure PM (X : Cx) (cs : List MatchCase) (t : TM) : Prop where
  run : ∀ (first : Bool) (pins : List (Addr × Obj)) (s : Shared) (σ : St) (H : Hp) (x : V) (u : Value) (D : Ends), Inv X pins σ H s → RelV x u → t x D σ H → wpAny (model X.prog X.w) X.A (matchCases cs X.env u first) (SP X pins D) X.xe s
section
variable {X : Cx}
theorem pm_nil : PM X [] (fun _ D σ H => D.nx σ H) := ⟨fun first pins s σ H x u D I r h => wpAny_matchCases_nil ⟨σ, H, I, h⟩⟩
def tCase (K : PySem.W.Frag) (nm : Str) (is : List Nat) (tb : TS) (tr : TM) : TM := fun x D σ H => ∃ (a : Addr) (z : Str) (tl : List V), x = .ref a ∧ SqT K H a (.str z :: tl) ∧ tl.length ≤ 1000 ∧
  if tl.length = is.length ∧ z = nm then tb D (setAll σ is tl) H else tr x D σ H
theorem pm_cons {nm : Str} {k : Nat} {p1 p2 p3 : Pos} {ps : List Pattern} {l : List (Str × Nat)} {body : List Stmt} {cs : List MatchCase} {tb : TS} {tr : TM} (hc : X.calm = true) (hN : X.N.Nodup) (c : Caps X ps l) (hb : PSs X body tb) (hr : PM X cs tr) :
    PM X (⟨.MatchSequence (.MatchValue (.Constant (.str nm) k p1) p2 :: ps) p3, none, body⟩ :: cs) (tCase X.K nm (l.map (·.2)) tb tr) := by
  refine ⟨fun first pins s σ H x u D I r h => ?_⟩
  obtain ⟨a, z, tl, rfl, hq, hz, h⟩ := h
  obtain rfl : u = .ref a := r
  obtain ⟨its, rv, ht, _⟩ := I.tuple hq
  have hl := rv.length
  rw [List.length_cons] at hl
  have hps := c.len
  have hfit : (its.toArray.size : Int) < 2 ^ 63 := by
    rw [List.size_toArray, ← hl]
    omega
  have nost : (Pattern.MatchValue (.Constant (.str nm) k p1) p2 :: ps).findIdx? (·.isStar) = none := by
    have q := c.nostar 1
    simp only [List.findIdx?, List.findIdx?.go, Pattern.isStar, Bool.false_eq_true, if_false]
    exact q
  have nowild : ((Pattern.MatchValue (.Constant (.str nm) k p1) p2 :: ps).all fun p => p.isWildcard || (p.isStar && p.names.isEmpty)) = false := by
    simp [Pattern.isWildcard, Pattern.isStar]
  refine wpAny_matchCases_cons ?_
  by_cases hlen : tl.length = l.length
  · refine PyProof.Rows.matchSeq_tuple_hit ht hfit (by rw [List.size_toArray, ← hl, List.length_cons, hps, hlen]) ?_ nost nowild
    have esz : (Pattern.MatchValue (.Constant (.str nm) k p1) p2 :: ps).length = its.toArray.size := by rw [List.size_toArray, ← hl, List.length_cons, hps, hlen]
    rw [esz]
    refine PyProof.Rows.unpackItems_tuple (I.ok.hd hc) ht fun h' hx => ?_
    have I1 : Inv X pins σ H { s with heap := h', toks := s.toks + 1 + 1 } := I.kept (t' := s.toks + 1 + 1) fun b o e => hx b o (Nat.ne_of_lt (Heap.lt_size e)) e
    cases rv with
    | cons r0 rt =>
      rename_i u0 us
      obtain ⟨t0, rfl⟩ := r0
      have hus : us.length = l.length := by rw [← rt.length]; exact hlen
      refine wpAny_matchEach_cons (p := .MatchValue (.Constant (.str nm) k p1) p2) ?_ rfl
      refine wpAny_matchPattern_Value (Calls.Constant_str (PyProof.Rows.eq_str (wpAny_truthy_bool ?_)))
      by_cases hnm : z = nm
      · subst hnm
        rw [if_pos ⟨by rw [List.length_map]; exact hlen, rfl⟩] at h
        rw [if_pos (by simp)]
        refine c.each hus ?_
        refine c.store hN rt hus (I1.tok _) fun s' I' => ?_
        exact hb.run pins s' _ H D I' h
      · rw [if_neg (fun q => hnm q.2)] at h
        rw [if_neg (fun q => hnm (eq_of_beq q))]
        exact hr.run false pins _ σ H (.ref a) _ D (I1.tok _) rfl h
  · rw [if_neg (fun q => hlen (by rw [q.1, List.length_map]))] at h
    refine PyProof.Rows.matchSeq_tuple_miss ht hfit (by rw [List.size_toArray, ← hl, List.length_cons, hps]; omega) ?_ nost nowild
    exact hr.run false pins _ σ H (.ref a) _ D (I.tok _) rfl h
def tMatch (te : TE) (tm : TM) : TS := fun D σ H => te σ H fun x H1 => tm x D σ H1
theorem ps_match {e : Expr} {cs : List MatchCase} {te : TE} {tm : TM} {pos : Pos} (he : PE X e te) (hm : PM X cs tm) : PS X (.Match e cs pos) (tMatch te tm) := by
  refine ⟨fun pins s σ H D I h => ?_⟩
  refine wpAny_Match (thn (he.run pins s σ H _ I h) fun u s1 ⟨x, H1, I1, r1, q1⟩ => ?_)
  exact hm.run true pins s1 σ H1 x u D I1 r1 q1
end
end MS
end
section
set_option maxRecDepth 100000
set_option maxHeartbeats 4000000
namespace MS
open PySem L2
/-! ### enumerate(tuple) -/
theorem meets_enumerate_newT (l : Addr) (items : Array Value) :
    Meets (Builtin.«enumerate.__new__» ⟨[.type "enumerate", .ref l], []⟩) (fun _ R s => s.heap.IsTuple l items ∧
      R (.ok (.ret (.ref (s.heap.push { cls := .type "tuple_iterator", data := .fields #[.ref l, .int 0 0] }).objs.size)))
        { s with heap := (s.heap.push { cls := .type "tuple_iterator", data := .fields #[.ref l, .int 0 0] }).push { cls := .type "enumerate", data := .fields #[.none, .bool false, .ref s.heap.objs.size, rawInt 0, .none, .none] } }) :=
  .of_wp fun prog w A R s h => by
    obtain ⟨hp, g, d, tk, os⟩ := s; obtain ⟨hl, h⟩ := h
    have hsub := sub_enumerate
    have q1 : ∀ {A' : Around} {E : Value → Shared → Prop} {Q : Value → Shared → Prop}, Q (.ref hp.objs.size) ⟨hp.push { cls := .type "tuple_iterator", data := .fields #[.ref l, .int 0 0] }, g, d, tk, os⟩ → wpAny (model prog w) A' (pyIter (.ref l)) Q E ⟨hp, g, d, tk, os⟩ :=
      fun q => wpAny_pyIter_tuple (s := ⟨hp, g, d, tk, os⟩) hl q
    wp_walk using q1
    refine wpAny_stack_any fun st => wpAny_pure ?_
    split
    · rename_i c _ _ _ _ _
      cases (c == Value.type "enumerate")
      · wp_walk using q1
        exact ⟨_, rfl, h⟩
      · wp_walk using q1
        exact ⟨_, rfl, h⟩
    · wp_walk using q1
      exact ⟨_, rfl, h⟩
theorem call_enumerate_tuple {prog : Program} {w : World} {A : Around} {E : Value → Shared → Prop} {s : Shared} {l : Addr} {items : Array Value} {Q : Value → Shared → Prop} (hL : s.heap.IsTuple l items)
    (h : ∀ h', IsEnum h' (s.heap.objs.size + 1) s.heap.objs.size 0 .none → h'.IsTupleIter s.heap.objs.size l 0 → h'.objs.size = s.heap.objs.size + 2 →
      (∀ b o, s.heap.get? b = some o → h'.get? b = some o) → Q (.ref (s.heap.objs.size + 1)) { s with heap := h' }) :
    wpAny (model prog w) A (call (.type "enumerate") [.ref l]) Q E s := by
  refine callType_new F.called_enumerate (by decide) (F.typeCall_enumerate_1 _) (F.newCall_enumerate_1 _) (fun obj => F.args_object_init_2 obj _) F.entry_enumerate_new
    (meets_enumerate_newT l items) ⟨hL, ?_⟩
  have hz : (s.heap.push { cls := .type "tuple_iterator", data := .fields #[.ref l, .int 0 0] }).objs.size = s.heap.objs.size + 1 := Heap.size_push ..
  show _ ∧ _
  rw [hz]
  have he : IsEnum ((s.heap.push { cls := .type "tuple_iterator", data := .fields #[.ref l, .int 0 0] }).push
      { cls := .type "enumerate", data := .fields #[.none, .bool false, .ref s.heap.objs.size, rawInt 0, .none, .none] }) (s.heap.objs.size + 1) s.heap.objs.size 0 .none := by
    have := Heap.get?_push_size (s.heap.push { cls := .type "tuple_iterator", data := .fields #[.ref l, .int 0 0] })
      (o := { cls := .type "enumerate", data := .fields #[.none, .bool false, .ref s.heap.objs.size, rawInt 0, .none, .none] }) rfl
    rw [hz] at this; exact this
  refine ⟨⟨_, he, rfl⟩, h _ he ⟨_, Heap.get?_push_of_some _ (Heap.get?_push_size _ rfl), rfl, rfl⟩ (by rw [Heap.size_push, hz]) fun b o x => Heap.get?_push_of_some _ (Heap.get?_push_of_some _ x)⟩
/-- the tuple at a as it stands at each turn, each item in a new pair -/
def IteT (K : PySem.W.Frag) (a : Addr) : It :=
  ⟨fun i H => ∃ (xs : List V) (x : V), SqT K H a xs ∧ xs[i]? = some x, fun i H v H' => ∃ T x, v = .ref T ∧ H T = none ∧ H' = upd H T (.tup [.int (i : Nat), x]) ∧ ∀ xs, SqT K H a xs → xs[i]? = some x, fun i H => ∃ xs : List V, SqT K H a xs ∧ xs.length ≤ i⟩
theorem walk_enumT {K : PySem.W.Frag} {a : Addr} {xs : List V} : Walk (IteT K a) xs.length (fun H => SqT K H a xs) (YPair (fun i => some (.int (i : Nat))) (fun i => xs[i]?)) := by
  refine ⟨fun i _ hi q => ⟨xs, xs[i], q, by simp [hi]⟩, fun _ q => ⟨xs, q, Nat.le_refl _⟩, fun i H v H' _ q y => ?_⟩
  obtain ⟨T, x, h1, h2, h3, h4⟩ := y
  exact ⟨T, .int (i : Nat), x, h1, h2, h3, rfl, h4 xs q⟩
theorem turn_enumT {P : Program} {w : World} {K : PySem.W.Frag} {elts : List Expr} {kk : Nat} {tpos : Pos} (a e it : Addr) :
    Turn P w K (.Tuple elts kk tpos) (IteT K a) [e, it] e (fun i h => (∃ old, IsEnum h e it ((i : Nat) : Int) old) ∧ h.IsTupleIter it a i ∧ e ≠ it ∧ e ≠ a ∧ a ≠ it) where
  mem := by simp
  obj := fun i h st b hb => by
    obtain ⟨⟨old, he⟩, ⟨o, ho, hc, hd⟩, _⟩ := st
    have e' : b = e ∨ b = it := by simpa using hb
    rcases e' with z | z
    · rw [z]; exact ⟨_, he, fun v q => nomatch q⟩
    · rw [z]; exact ⟨o, ho, fun v q => by rw [hd] at q; cases q⟩
  keep := fun i h h' st k => let ⟨⟨old, he⟩, hi, hne⟩ := st; ⟨⟨old, k e (by simp) _ he⟩, hi.at fun o q => k it (by simp) o q, hne⟩
  item := by
    intro X hP hw hK hc i pins s σ H E I hf st hg
    subst hP hw hK
    obtain ⟨⟨old, he⟩, hit, hne, hea, hai⟩ := st
    obtain ⟨xs, x, hq, hx⟩ := hg
    obtain ⟨its, rv, p, hz⟩ := I.tuple hq
    obtain ⟨u, hu, ru⟩ := rv.get hx
    have hel : e < s.heap.objs.size := Heap.lt_size he
    have hil : it < s.heap.objs.size := by obtain ⟨_, q, _⟩ := hit; exact Heap.lt_size q
    have hlt : i < its.toArray.size := by
      have z := (List.getElem?_eq_some_iff.mp hu).1
      rw [List.size_toArray]
      exact z
    refine wpAny_pyNext_enum_itemD (Draws.tuple (A := X.A.in1) (I.ok.hd hc) it a hai its.toArray) he ⟨hit, p⟩ hlt hne (by simp [hne, hea]) fun x' h' tk hx' ho hit' hT hsz hk => ?_
    have eu : x' = u := by
      have z : its.toArray[i]? = some u := by simpa using hu
      exact Option.some.inj (hx'.symm.trans z)
    subst eu
    refine ⟨_, rfl, wpAny_letOwnedTupleGo_enum (s := { s with heap := h', toks := tk + 1 }) ho fun h'' he' sb => ?_⟩
    have hT2 : h''.get? s.heap.objs.size = some { cls := .type "tuple", data := .seq #[.int i tk, x'] } := (sb.2 _ (Nat.ne_of_gt hel)).trans hT
    have new : ObjOk X.prog X.w (upd H s.heap.objs.size (.tup [.int (i : Nat), x])) h'' s.heap.objs.size (.tup [.int (i : Nat), x]) :=
      ⟨by show 2 ≤ sizeLine; decide, [.int i tk, x'], .cons ⟨_, rfl⟩ (.cons ru .nil), ⟨_, hT2, rfl, _, rfl⟩⟩
    have I1 : Inv X pins σ (upd H s.heap.objs.size (.tup [.int (i : Nat), x])) { s with heap := h'', toks := tk + 1 } :=
      I.turnedNew (ch := [e, it]) (fun b ob hb q => (sb.2 b (fun z => hb (by simp [z]))).trans (hk b ob (fun z => hb (by simp [z])) (fun z => hb (by simp [z])) q)) hf (Nat.le_refl _) new
    refine ⟨.ref s.heap.objs.size, _, I1, rfl, ⟨_, x, rfl, I.hok.fresh (Nat.le_refl _), rfl, fun ys hy => by rw [I.tuple_inj hy hq]; exact hx⟩, ⟨⟨x', ?_⟩, hit'.1.at fun o q => (sb.2 it (Ne.symm hne)).trans q, hne, hea, hai⟩, fun b hb => ?_⟩
    · have e1 : ((i + 1 : Nat) : Int) = (i : Int) + 1 := by omega
      rw [e1]; exact he'
    · have hb' : b < s.heap.objs.size := by
        have e' : b = e ∨ b = it := by simpa using hb
        rcases e' with z | z
        · rw [z]; exact hel
        · rw [z]; exact hil
      rw [upd_ne (Nat.ne_of_lt hb')]
      exact (hf b hb).1
  done := by
    intro X hP hw hK hc i pins s σ H E I hf st hg
    subst hP hw hK
    obtain ⟨⟨old, he⟩, hit, hne, hea, hai⟩ := st
    obtain ⟨xs, hq, hx⟩ := hg
    obtain ⟨its, rv, p, hz⟩ := I.tuple hq
    obtain ⟨f0, f1, f2, f3, f4, f5⟩ := hf it (by simp)
    have hl := rv.length
    have hT : s.TypeIs (.ref e) "enumerate" := ⟨_, he, rfl⟩
    unfold pyNext
    refine wpAny_bind (wpAny_attempt (wpAny_callSpecial?_slot (name := Str.ofString "__next__") hT F.slot_enumerate_next
      (wpAny_call_entry F.slot_enumerate_next hT F.entry_enumerate_next ?_ (F.args_enumerate_next_1 _))))
    show wpAny _ _ (field (.ref e) 2 >>= _) _ _ _
    refine wpAny_bind (wpAny_field he rfl (x := .ref it) rfl ?_)
    refine wpAny_bind (wpAny_nextOf_tuple_end (A := X.A.in1) (I.ok.hd hc) hit (show s.heap.IsTuple a its.toArray from p) (by simp; omega) fun h' x he' hx' => ?_)
    obtain ⟨o, ho, hc'⟩ := hx'
    refine wpAny_bind (wpAny_isInstance (T := "StopIteration") (b := true) ⟨o, ho, hc'⟩ isSubtype_stop ?_)
    exact wpAny_pure ⟨rfl, I.turned (t' := s.toks) (fun b o hb q => he' b o hb q) f0 f1 f3 f4 f5⟩
  self := fun A i s Q E st h => let ⟨⟨_, he⟩, _⟩ := st; wpAny_pyIter_enum he h
def iEnumT (K : PySem.W.Frag) (ta : TA) : TI := fun σ H R => ta σ H fun vs H1 => ∃ a xs, vs = [.ref a] ∧ SqT K H1 a xs ∧ R (IteT K a) H1
theorem pi_enumT {X : Cx} {e : Expr} {ta : TA} {p pos tpos : Pos} {elts : List Expr} {kk : Nat} (hg : Gl X "enumerate") (hm : X.mg "enumerate" = none) (ha : PA X [e] ta) (hs : starEach [e] X.env = [(false, eval e X.env)] := by rfl) :
    PI X (.Tuple elts kk tpos) (.Call (.Name "enumerate" p) [e] [] pos) (iEnumT X.K ta) := by
  refine ⟨fun pins s σ H R I h => ?_⟩
  refine PyProof.Rows.Call_ (ld_blt I hg hm PyProof.Rows.boot_enumerate (PyProof.Rows.callWith_type1 (thn (ha.run pos pins s σ H _ I h) fun us s1 ⟨vs, H1, I1, r1, q1⟩ => ?_) hs rfl))
  obtain ⟨a, xs, ex, hq, q⟩ := q1
  subst ex
  cases r1 with
  | cons r rr =>
    cases rr
    cases r
    obtain ⟨its, rv, p', hz⟩ := I1.tuple hq
    have hal : a < s1.heap.objs.size := p'.lt
    refine call_enumerate_tuple (show s1.heap.IsTuple a its.toArray from p') fun h' he hit hsz hk => wpAny_pyIter_enum he ?_
    have I2 : Inv X pins σ H1 { s1 with heap := h' } := I1.kept (t' := s1.toks) hk
    refine ⟨s1.heap.objs.size + 1, [s1.heap.objs.size + 1, s1.heap.objs.size], _, _, H1, rfl, I2, turn_enumT a (s1.heap.objs.size + 1) s1.heap.objs.size, ⟨⟨.none, he⟩, hit, Nat.succ_ne_self _, Nat.ne_of_gt (Nat.lt_succ_of_lt hal), Nat.ne_of_lt hal⟩, fun b hb => ?_, q⟩
    have e' : b = s1.heap.objs.size + 1 ∨ b = s1.heap.objs.size := by simpa using hb
    have hle : s1.heap.objs.size ≤ b := by
      rcases e' with z | z
      · rw [z]; exact Nat.le_add_right _ _
      · rw [z]; exact Nat.le_refl _
    exact I1.fpOk hle (I1.hok.fresh hle)
end MS
end
section
set_option maxRecDepth 100000
set_option maxHeartbeats 4000000
namespace MS
open PySem L2
/-! ### max(list of objects, key=f), f a def of the text: the first of the greatest -/
def gtB (kf : Nat → Int) : Nat → Nat → Bool := fun i j => decide (kf j < kf i)
def rMaxKey (f : Addr) (sp : Sp) : List V → List V → Hp → VK → Prop := fun vs zs H Q => ∃ (a : Addr) (xs : List V) (kf : Nat → Int), vs = [.ref a] ∧ zs = [.ref f] ∧ H a = some (.lst xs) ∧ (∀ x ∈ xs, ∃ b, x = V.ref b) ∧ 0 < xs.length ∧
  (∀ H' i x, Same H H' → xs[i]? = some x → sp [x] H' (fun v H'' => v = .int (kf i) ∧ Same H' H'') E0) ∧ ∀ x H', Same H H' → xs[argBest (gtB kf) (xs.length - 1)]? = some x → Q x H'
theorem vals_refs_eq : ∀ {xs : List V} {us ws : List Value}, (∀ x ∈ xs, ∃ b, x = V.ref b) → Vals xs us → Vals xs ws → us = ws
  | _, _, _, _, .nil, .nil => rfl
  | _, _, _, h, .cons r t, .cons r' t' => by
    obtain ⟨b, rfl⟩ := h _ List.mem_cons_self
    cases r
    cases r'
    rw [vals_refs_eq (fun x hx => h x (List.mem_cons_of_mem _ hx)) t t']
theorem cr_maxKey {X : Cx} {k : Nat} {f : Addr} {fd : FuncData} {ps : List Str} {sp : Sp} (hc : X.calm = true) (F : FnOk X.prog X.w X.K X.mg X.base CX0 k f fd ps sp) (hr : Room (k + 1) X.A) (hb : Binds X.K fd ps []) : CallRK X (.builtin "max") [Str.ofString "key"] (rMaxKey f sp) := by
  intro pins s σ H vs zs us ws Q I r1 r2 h
  obtain ⟨a, xs, kf, rfl, rfl, ea, hx, hpos, hkey, hQ⟩ := h
  obtain ⟨u, rfl, ru⟩ := vals1 r1
  obtain ⟨u2, rfl, ru2⟩ := vals1 r2
  obtain rfl : u = .ref a := ru
  obtain rfl : u2 = .ref f := ru2
  show wpAny _ _ (call (.builtin "max") [.ref a] [(Str.ofString "key", .ref f)]) _ _ _
  obtain ⟨its, rv, pl, hz⟩ := I.list (SqL.of ea)
  have hlen := rv.length
  refine call_max_walkK (wpAny_pyIter_list pl.isList ?_)
  have hIn : H s.heap.objs.size = none := I.hok.fresh (Nat.le_refl _)
  have I1 : Inv X pins σ H { s with heap := s.heap.push { cls := .type "list_iterator", data := .fields #[.ref a, .int 0 0] } } := I.kept (t' := s.toks) fun b o e => Heap.get?_push_of_some _ e
  have hsz : (s.heap.push { cls := .type "list_iterator", data := .fields #[.ref a, .int 0 0] }).objs.size = s.heap.objs.size + 1 := Heap.size_push ..
  have hal : a < s.heap.objs.size := by
    obtain ⟨o, e, _⟩ := pl.isList
    exact Heap.lt_size e
  have fI : FpOk X pins H s.heap.objs.size := I.fpOk (Nat.le_refl _) hIn
  have fS : FpOk X pins H (s.heap.objs.size + 1) := I.fpOk (Nat.le_succ _) (I.hok.fresh (Nat.le_succ _))
  have hh : X.A.in1.handled = none := I.ok.hd hc
  have W := (Walks.list (prog := X.prog) (w := X.w) (A := X.A.in1) hh s.heap.objs.size a (Nat.ne_of_lt hal) its.toArray).toS
  have look : ∀ {H' : Hp} {s' : Shared}, Inv X pins σ H' s' → Same H H' → s'.heap.IsList a its.toArray := fun {H' s'} I' sm => by
    obtain ⟨its', rv', pl', _⟩ := I'.list (SqL.of (sm _ _ ea))
    rw [vals_refs_eq hx rv rv']
    exact pl'.isList
  refine ⟨s.heap.objs.size, _, _, _, _, _, _, (fun s' => ∃ H', Same H H' ∧ Inv X pins σ H' s' ∧ (∀ b ∈ [s.heap.objs.size + 1, s.heap.objs.size], H' b = none)), (fun i v _ => ∃ t, v = .int (kf i) t), gtB kf, rfl, W, ⟨⟨_, Heap.get?_push_size _ rfl, rfl, rfl⟩, look I1 (Same.refl _)⟩, ?_, by rw [List.size_toArray, ← hlen]; exact hpos, ?_, ⟨H, Same.refl _, I1, ?_⟩, ?_⟩
  · intro b hb
    have e' : b = s.heap.objs.size ∨ b = a := by simpa using hb
    have e2 : b < s.heap.objs.size + 1 := by
      rcases e' with e' | e'
      · rw [e']; exact Nat.lt_succ_self _
      · rw [e']; exact Nat.lt_succ_of_lt hal
    rw [← hsz] at e2
    exact e2
  · rw [hsz]
    refine ⟨fun s1 s2 ⟨H', sm, I', fr⟩ mv => ?_, fun i v s1 s2 h _ => h, fun i v s1 o Q' E' hi hv ⟨H', sm, I', fr⟩ hst hS hQ' => ?_, fun i j ki kj s1 Q' E' _ hki hkj q => ?_⟩
    · rw [Moved.eq_with mv]
      refine ⟨H', sm, I'.turnedL (ch := [s.heap.objs.size + 1, s.heap.objs.size]) (fun b o hb e => mv.heap b o (by simpa using hb) e) (fun b hb => ?_), fr⟩
      have e' : b = s.heap.objs.size + 1 ∨ b = s.heap.objs.size := by simpa using hb
      rcases e' with e' | e'
      · subst e'; exact ⟨fr _ (by simp), fS.2⟩
      · subst e'; exact ⟨fr _ (by simp), fI.2⟩
    · obtain ⟨x, ex, rx⟩ : ∃ x, xs[i]? = some x ∧ RelV x v := by
        have hv' : its[i]? = some v := by simpa using hv
        have hil := (List.getElem?_eq_some_iff.mp hv').1
        have hix : i < xs.length := by omega
        obtain ⟨u, hu, ru⟩ := rv.get (i := i) (x := xs[i]) (by simp [hix])
        rw [hv'] at hu
        cases hu
        exact ⟨_, by simp [hix], ru⟩
      have r' : Vals [x] [v] := .cons rx .nil
      have hsp := hkey H' i x sm ex
      have hl : ([v] : List Value).length = ps.length := by rw [← F.len _ _ _ _ hsp]; rfl
      refine wpAny_call (codeAny_mono (F.run X.A.in1 X.stack s1 H' ⟨[v], []⟩ [v] [x] _ E0 hr.in1 I'.env0.in1 (by have z := hb s1 [v] I'.kIn (by simpa using hl); simpa using z) r' hsp) fun r s2 hq => ?_)
      cases r with
      | error e => exact False.elim hq
      | ok fl =>
        cases fl with
        | next => exact False.elim hq
        | brk => exact False.elim hq
        | cont => exact False.elim hq
        | ret u =>
          have hq' : CE X.stack X.prog X.w H' s1 (fun v H'' => v = .int (kf i) ∧ Same H' H'') u s2 := hq
          obtain ⟨w', H'', os, bare, un, hok, rw', ev, sm2⟩ := hq'
          subst ev
          obtain ⟨t, rfl⟩ := rw'
          have I'' : Inv X pins σ H'' s2 := by
            obtain ⟨hp2, g2, d2, t2, os2⟩ := s2
            obtain rfl : os2 = s1.os := os
            exact I'.call (h' := hp2) (g' := g2) (d' := d2) (t' := t2) (ch := []) un hok bare (fun b z => absurd z (by simp))
          have nst : ∀ b, FpOk X pins H b → b ∉ frs X.stack := fun b fb hm => by
            rcases List.mem_cons.mp (I'.stkSub b hm) with e | e
            · exact fb.2.1 e
            · exact fb.2.2.1 e
          obtain ⟨⟨oI, hoI, hoc, hod⟩, _⟩ := hst
          have kI := un.keep _ oI hoI (fr _ (by simp)) (nst _ fI) (by simp)
          have kS := un.keep _ o hS (fr _ (by simp)) (nst _ fS) (by simp)
          have fI2 := un.free _ oI hoI (fr _ (by simp)) (by simp)
          have fS2 := un.free _ o hS (fr _ (by simp)) (by simp)
          refine hQ' _ s2 ⟨H'', sm.trans sm2, I'', fun b hb => ?_⟩ ⟨⟨oI, kI, hoc, hod⟩, look I'' (sm.trans sm2)⟩ kS ⟨t, rfl⟩ (fun j k' h => h)
          have e' : b = s.heap.objs.size + 1 ∨ b = s.heap.objs.size := by simpa using hb
          rcases e' with e' | e'
          · subst e'; exact fS2
          · subst e'; exact fI2
    · obtain ⟨ti, rfl⟩ := hki
      obtain ⟨tj, rfl⟩ := hkj
      exact CmpOf.ints_gt (prog := X.prog) (w := X.w) (A := X.A.in1) (P := fun i v => ∃ t, v = .int (kf i) t) kf (fun i v h => h) i j _ _ _ _ _ ⟨ti, rfl⟩ ⟨tj, rfl⟩ q
  · intro b hb
    have e' : b = s.heap.objs.size + 1 ∨ b = s.heap.objs.size := by simpa using hb
    rcases e' with e' | e'
    · subst e'; exact fS.1
    · subst e'; exact hIn
  · rintro v s' hv ⟨H', sm, I', _⟩
    have hv' : its[argBest (gtB kf) (its.length - 1)]? = some v := by simpa using hv
    have hil := (List.getElem?_eq_some_iff.mp hv').1
    rw [← hlen] at hil hv'
    obtain ⟨u, hu, ru⟩ := rv.get (i := argBest (gtB kf) (xs.length - 1)) (x := xs[argBest (gtB kf) (xs.length - 1)]'hil) (by simp [hil])
    rw [hv'] at hu
    cases hu
    exact ⟨_, H', I', ru, hQ _ H' sm (by simp [hil])⟩
end MS
end
section
set_option maxRecDepth 100000
set_option maxHeartbeats 4000000
/-! sorted(set(a list of texts)) -/
namespace SST
open PySem PySem.Spec PyProof.Rows L2
def keyT (e : Int × Value) : Str := match e.2 with | .str k _ => k | _ => Str.empty
def GoodT (P : Program) (w : World) (e : Int × Value) : Prop := ∃ k tk, e.2 = Value.str k tk ∧ e.1 = (PySem.strKind P w).hash k
/-- the set of the texts l at a -/
def SetT (P : Program) (w : World) (h : Heap) (a : Addr) (l : List Str) : Prop :=
  ∃ o es ep t, h.get? a = some o ∧ o.ExactSet ∧ o.data = .set es ep t ∧ (∀ e ∈ es.toList, GoodT P w e) ∧ (es.toList.map keyT).Nodup ∧ (∀ k, k ∈ l ↔ k ∈ es.toList.map keyT) ∧
    es.size ≤ l.length ∧ l.length < scanBound ∧ t.fits es.size = true ∧ Ris t.place.toList ∧ (w.params.followText "set-order" = true ∨ t.led = true)
section
variable {P : Program} {w : World} {h h' : Heap} {a : Addr} {l : List Str}
theorem SetT.at (R : SetT P w h a l) (k : ∀ o, h.get? a = some o → h'.get? a = some o) : SetT P w h' a l := by
  obtain ⟨o, es, ep, t, ho, r⟩ := R
  exact ⟨o, es, ep, t, k o ho, r⟩
theorem good_elems {l : List (Int × Value)} (g : ∀ e ∈ l, GoodT P w e) : ElemsOf (PySem.strKind P w) l := fun e he => by
  obtain ⟨k, tk, h1, h2⟩ := g e he
  exact ⟨⟨k, by rw [h1]; exact strKind_is P w k tk, h2⟩, by rw [h1] <;> rfl⟩
theorem good_is {e : Int × Value} (g : GoodT P w e) (k : Str) : (PySem.strKind P w).is k e.2 = true ↔ keyT e = k := by
  obtain ⟨k0, tk, h1, _⟩ := g
  have hk : keyT e = k0 := by unfold keyT; rw [h1]
  rw [hk, h1]
  constructor
  · intro z
    exact ((PySem.strKind P w).inj (.str k0 tk) k k0 z (strKind_is P w k0 tk)).symm
  · rintro rfl
    exact strKind_is P w k0 tk
theorem good_mem {l : List (Int × Value)} (g : ∀ e ∈ l, GoodT P w e) (k : Str) : k ∈ l.map keyT ↔ ∃ e ∈ l, (PySem.strKind P w).is k e.2 = true := by
  rw [List.mem_map]
  constructor
  · rintro ⟨e, he, q⟩
    exact ⟨e, he, (good_is (g e he) k).2 q⟩
  · rintro ⟨e, he, q⟩
    exact ⟨e, he, (good_is (g e he) k).1 q⟩
end
section
variable {P : Program} {w : World} {A : Around} {E : Value → Shared → Prop} {s : Shared} {a : Addr} {l : List Str}
theorem add_tail {g : Bool → Sem Unit} (hg : ∀ (b : Bool) (s₁ : Shared) (Q' : Unit → Shared → Prop), Q' () s₁ → wpAny (model P w) A (g b) Q' E s₁)
    {o : Obj} {es : Array (Int × Value)} {ep : Nat} {t : SetTable} (ho : s.heap.get? a = some o) (hex : o.ExactSet) (hd : o.data = .set es ep t)
    {es1 : Array (Int × Value)} {t2 : SetTable} {l' : List Str} (g1 : ∀ e ∈ es1.toList, GoodT P w e) (nd1 : (es1.toList.map keyT).Nodup) (m1 : ∀ k, k ∈ l' ↔ k ∈ es1.toList.map keyT)
    (hb1 : es1.size ≤ l'.length) (hb0 : l'.length < scanBound) (hf2 : t2.fits es1.size = true) (hr : Ris t2.place.toList) (hl : w.params.followText "set-order" = true ∨ t2.led = true) {wasDummy : Bool} {R : Option Bool → Shared → Prop}
    (hR : ∀ h', Heap.SameBut a s.heap h' → SetT P w h' a l' → R (some true) { s with heap := h' }) :
    wpAny (model P w) A (do
        storeSet a es1 t2
        if (!wasDummy && t2.tooFull) = true then do
            g (relayAll t2 es1 (SetTable.grown es1.size)).2.2
            storeSet a (relayAll t2 es1 (SetTable.grown es1.size)).1 (relayAll t2 es1 (SetTable.grown es1.size)).2.1
            pure (some true)
          else pure (some true)) R E s := by
  refine wpAny_bind (wpAny_storeSet_of ho hd ?_ (fits_of_scanBound (by omega)))
  have ho1 := store_at (es' := es1) (t' := t2) ho hd
  have sb1 := Heap.SameBut.update s.heap a (Obj.putSet es1 t2)
  split
  · have pm := relayAll_perm t2 es1 (SetTable.grown es1.size)
    have hf3 := relayAll_fits t2 es1 (SetTable.grown es1.size)
    have hr3 := relayAll_ris t2 es1 (SetTable.grown es1.size)
    have hl3 := relayAll_led t2 es1 (SetTable.grown es1.size)
    generalize relayAll t2 es1 (SetTable.grown es1.size) = Z at pm hf3 hr3 hl3 ⊢
    obtain ⟨es2, t3, gave⟩ := Z
    dsimp only at pm hf3 hr3 hl3 ⊢
    have hsz : es2.size = es1.size := by rw [← Array.length_toList, pm.length_eq, Array.length_toList]
    refine wpAny_bind (hg _ _ _ ?_)
    refine wpAny_bind (wpAny_storeSet_of ho1 rfl ?_ (fits_of_scanBound (by omega)))
    have ho2 := store_at (es' := es2) (t' := t3) ho1 rfl
    refine wpAny_pure (hR _ (sb1.trans (Heap.SameBut.update _ a _)) ?_)
    exact ⟨_, es2, _, t3, ho2, hex, rfl, fun e he => g1 e (pm.mem_iff.mp he), (pm.map keyT).nodup_iff.mpr nd1, fun k => (m1 k).trans (pm.map keyT).mem_iff.symm, by omega, hb0, by rw [hsz] at hf3 ⊢; exact hf3, hr3,
      hl.imp id fun z => by rw [hl3]; exact z⟩
  · exact wpAny_pure (hR _ sb1 ⟨_, es1, _, t2, ho1, hex, rfl, g1, nd1, m1, hb1, hb0, hf2, hr, hl⟩)
theorem add_hashed {k : Str} {tk : Tok} {Q : Bool → Shared → Prop} (R : SetT P w s.heap a l) (room : l.length + 1 < scanBound)
    (hQ : ∀ h' b, Heap.SameBut a s.heap h' → SetT P w h' a (l ++ [k]) → Q b { s with heap := h' }) :
    wpAny (model P w) A (setAddHashed a (.str k tk) ((PySem.strKind P w).hash k)) Q E s := by
  obtain ⟨o, es, ep, t, ho, hex, hd, g, nd, hm, hb, hb0, hf, hr, hl⟩ := R
  have hkey : (PySem.strKind P w).is k (.str k tk) = true := strKind_is P w k tk
  have hsc : (Value.str k tk).scannable = true := rfl
  have hel : ElemsOf (PySem.strKind P w) es.toList := good_elems g
  have lapp : (l ++ [k]).length = l.length + 1 := by simp
  unfold setAddHashed setAddHashedIn
  refine wpAny_holding (wpAny_bind (wpAny_setState_of ho hd hf ?_))
  dsimp only
  rw [byScan_of hsc (by omega) hel]
  simp only [↓reduceIte]
  unfold setAddByScan
  refine wpAny_bind ?_
  refine wpAny_bind (wpAny_rule ?_)
  refine wpAny_bind (wpAny_setScan_of hkey ho hd hf hel ?_)
  cases hfi : List.findIdx? (fun e => (PySem.strKind P w).is k e.2) es.toList with
  | some j =>
    dsimp only
    obtain ⟨hj, pj, _⟩ := List.findIdx?_eq_some_iff_getElem.mp hfi
    have hk : k ∈ l := (hm k).2 ((good_mem (P := P) (w := w) g k).2 ⟨es.toList[j], List.getElem_mem hj, pj⟩)
    refine wpAny_pure (wpAny_pure ?_)
    exact hQ s.heap _ (Heap.SameBut.refl a s.heap) ⟨o, es, ep, t, ho, hex, hd, g, nd, fun i => by
      rw [List.mem_append, List.mem_singleton, ← hm i]
      exact ⟨fun z => z.elim id (fun e => e ▸ hk), .inl⟩, by omega, by omega, hf, hr, hl⟩
  | none =>
    dsimp only
    have hnk : k ∉ es.toList.map keyT := fun z => by
      obtain ⟨e, he, q⟩ := (good_mem (P := P) (w := w) g k).1 z
      have c := List.findIdx?_eq_none_iff.mp hfi e he
      rw [q] at c
      cases c
    have hgw : ∀ (b : Bool) {s₁ : Shared} {Q' : Unit → Shared → Prop}, Q' () s₁ → wpAny (model P w) A (match b with | true => rule "set.scan.the-table-gave-way" | false => pure ()) Q' E s₁ :=
      fun b s₁ Q' q => by cases b <;> first | exact wpAny_pure q | exact wpAny_rule q
    have pm := layNew_perm t es ((PySem.strKind P w).hash k) (.str k tk)
    have hf1 := layNew_fits t es ((PySem.strKind P w).hash k) (.str k tk)
    have hr1 := layNew_ris t es ((PySem.strKind P w).hash k) (.str k tk) hr
    have hl1 := layNew_led t es ((PySem.strKind P w).hash k) (.str k tk)
    generalize layNew t es ((PySem.strKind P w).hash k) (.str k tk) = Z at pm hf1 hr1 hl1 ⊢
    obtain ⟨es1, t1, wasDummy, gave⟩ := Z
    dsimp only at pm hf1 hr1 hl1 ⊢
    rw [Array.toList_push] at pm
    have pc : es1.toList.Perm (((PySem.strKind P w).hash k, Value.str k tk) :: es.toList) := pm.trans (List.perm_append_singleton _ _)
    have pk : (es1.toList.map keyT).Perm (k :: es.toList.map keyT) := pc.map keyT
    have g1 : ∀ e ∈ es1.toList, GoodT P w e := fun e he => by
      rcases List.mem_cons.mp (pc.mem_iff.mp he) with z | z
      · rw [z]; exact ⟨k, tk, rfl, rfl⟩
      · exact g e z
    have nd1 : (es1.toList.map keyT).Nodup := pk.nodup_iff.mpr (List.nodup_cons.mpr ⟨hnk, nd⟩)
    have m1 : ∀ i, i ∈ l ++ [k] ↔ i ∈ es1.toList.map keyT := fun i => by
      rw [List.mem_append, List.mem_singleton, hm i, pk.mem_iff, List.mem_cons]
      exact Or.comm
    have hsz : es1.size = es.size + 1 := by rw [← Array.length_toList, pc.length_eq, List.length_cons, Array.length_toList]
    have hled : w.params.followText "set-order" = true ∨ t1.led = true := hl.imp id fun z => by rw [hl1]; exact z
    refine wpAny_bind (hgw _ ?_)
    split
    · refine wpAny_bind ?_
      rw [hashByValue_scannable 8 hsc]
      refine wpAny_pure ?_
      refine add_tail ?_ ho hex hd g1 nd1 m1 (by omega) (by omega) ?_ ?_ ?_ ?_
      · intro b s₁ Q' q; cases b <;> first | exact wpAny_pure q | exact wpAny_rule q
      · first | (split <;> first | exact hf1 | exact SetTable.fits_plain_off hf1) | exact hf1
      · first | (split <;> exact hr1) | exact hr1
      · first | (split <;> exact hled) | exact hled
      · intro h' sb r; dsimp only; exact wpAny_pure (hQ h' _ sb r)
    · refine wpAny_bind (wpAny_pure ?_)
      simp only [↓reduceIte]
      refine add_tail ?_ ho hex hd g1 nd1 m1 (by omega) (by omega) hf1 hr1 hled ?_
      · intro b s₁ Q' q; cases b <;> first | exact wpAny_pure q | exact wpAny_rule q
      · intro h' sb r; dsimp only; exact wpAny_pure (hQ h' _ sb r)
theorem fresh_T {P : Program} {w : World} {h : Heap} : SetT P w (h.push { cls := .type "set", dict := none, data := .set #[] 0 (.fresh 0 0 (!w.params.followText "set-order")) }) h.objs.size [] :=
  ⟨_, #[], 0, _, Heap.get?_push_size _ rfl, ⟨rfl, rfl, rfl⟩, rfl, (fun e he => by simp at he), (by simp), (fun k => by simp), (by simp), (by decide), (by rfl), List.Pairwise.nil, by
    show _ ∨ (!w.params.followText "set-order") = true
    cases w.params.followText "set-order"
    · exact .inr rfl
    · exact .inl rfl⟩
theorem code_new_led (a : Value) {Q₁ : Value → Shared → Prop}
    (h : Q₁ (.ref s.heap.objs.size) { s with heap := s.heap.push { cls := .type "set", dict := none, data := .set #[] 0 (.fresh 0 0 (!w.params.followText "set-order")) } }) :
    codeAny (model P w) A (.call (.builtin "set.__new__") ⟨[.type "set", a], []⟩) (wants Q₁ E) s := by
  refine codeAny_of_tree ?_
  show wpAny _ A.in1 (do checkBuiltinCall "set.__new__" ⟨[.type "set", a], []⟩; again (.builtin "set.__new__" ⟨[.type "set", a], []⟩)) _ _ s
  refine wpAny_bind (wpAny_of_eq (F.newCall_set_1 a) (wpAny_pure ⟨plainId_quiet F.plain_set_new _, codeAny_builtin F.entry_set_new ?_⟩))
  rw [Around.under_plainId F.plain_set_new _]
  unfold Builtin.«set.__new__» Builtin.Frozenset.newClass
  have hsub := sub_set_self
  obtain ⟨hp, g, d, tk, os⟩ := s
  dsimp only
  wp_walk
  refine wpAny_askSetting (wpAny_pure ?_)
  dsimp only
  simp only [newObj]
  refine wpAny_bind (wpAny_alloc (wpAny_pure ?_))
  exact wpAny_pure h
end
section
variable {prog : Program} {w : World} {A : Around} {R : Result → Shared → Prop} {I : Addr} {fp wr : List Addr} {G : Array GenState → Array GenState → Prop} {n : Nat} {P : Nat → Value → Prop} {St : Nat → Shared → Prop}
theorem loopT (W : WalksS prog w A.in1 I fp wr G n P St) (S : Addr) (hSf : S ∉ fp) (xs : List Str) (hsz : xs.length = n) (hn1 : n ≤ 1000)
    (hval : ∀ i v, P i v → ∃ t, v = .str (xs.getD i Str.empty) t) :
    ∀ (k i : Nat) (s : Shared), n - i = k → i ≤ n → St i s → SetT prog w s.heap S (xs.take i) →
      (∀ s', Moved (S :: wr) G s s' → SetT prog w s'.heap S xs → R (.ok (.ret .none)) s') →
      codeAny (model prog w) A (.builtin "set.update.loop" ⟨[.ref S, .ref I], []⟩) R s := by
  have hSw : S ∉ wr := fun h => hSf (W.sub _ h)
  have hsub : ∀ b ∈ wr, b ∈ S :: wr := fun b hb => List.mem_cons_of_mem _ hb
  intro k
  induction k with
  | zero =>
    intro i s hk hi hst hS hR
    have hin : i = n := by omega
    subst hin
    refine codeAny_builtin PyProof.Rows.F.entry_set_update_loop ?_
    rw [Around.under_plainId PyProof.Rows.F.plain_set_update_loop _]
    show wpAny _ A.in1 (pyNext (.ref I) >>= _) _ _ s
    refine wpAny_bind (W.done s _ _ hst fun s' hm => ?_)
    show wpAny _ A.in1 (ret Value.none) _ _ s'
    refine wpAny_pure (hR s' (hm.mono hsub) ?_)
    rw [← hsz, List.take_length] at hS
    exact hS.at fun o ho => hm.heap S _ hSw ho
  | succ k ih =>
    intro i s hk hi hst hS hR
    have hlt : i < n := by omega
    refine codeAny_builtin PyProof.Rows.F.entry_set_update_loop ?_
    rw [Around.under_plainId PyProof.Rows.F.plain_set_update_loop _]
    show wpAny _ A.in1 (pyNext (.ref I) >>= _) _ _ s
    refine wpAny_bind (W.item i s _ _ hlt hst fun v s' hP hst' hm => ?_)
    obtain ⟨t, rfl⟩ := hval i v hP
    have hS' : SetT prog w s'.heap S (xs.take i) := hS.at fun o ho => hm.heap S _ hSw ho
    show wpAny _ A.in1 (holding [Value.str (xs.getD i Str.empty) t] (setAdd S (.str (xs.getD i Str.empty) t)) >>= _) _ _ s'
    refine wpAny_bind (wpAny_holding ?_)
    unfold setAdd
    refine wpAny_holding ?_
    refine wpAny_bind ((PySem.strKind prog w).pyHash (k := xs.getD i Str.empty) (strKind_is _ _ _ _) ?_)
    refine add_hashed (s := { s' with toks := s'.toks + 1 }) hS' (by rw [List.length_take]; unfold scanBound; omega) fun h' b hsb hS2 => ?_
    have hSi : SetT prog w h' S (xs.take (i + 1)) := by
      have e : xs.take (i + 1) = xs.take i ++ [xs.getD i Str.empty] := by
        have hil : i < xs.length := by omega
        rw [List.take_succ_eq_append_getElem hil, List.getD_eq_getElem?_getD, List.getElem?_eq_getElem hil]
        rfl
      rw [e]
      exact hS2
    refine wpAny_pure ⟨plainId_quiet PyProof.Rows.F.plain_set_update_loop _, ih (i + 1) _ (by omega) hlt (W.frame _ s' _ _ hst' (Nat.le_succ _) fun b hb o e => ?_) hSi fun s'' hm'' hS'' => ?_⟩
    · rw [hsb.2 b (fun h : b = S => hSf (by rw [← h]; exact hb))]; exact e
    · refine hR s'' (Moved.trans W.gtrans ((hm.mono hsub).then_heap (Nat.le_succ _) fun b o hb e => ?_) hm'') hS''
      rw [hsb.2 b (fun h : b = S => hb (by rw [h]; exact List.mem_cons_self))]; exact e
end
section
variable {prog : Program} {w : World} {A : Around} {E : Value → Shared → Prop} {s : Shared}
theorem call_setT {l : Addr} {items : Array Value} {xs : List Str} {Q : Value → Shared → Prop}
    (hh : A.handled = none) (hl : s.heap.IsList l items) (hi : PyProof.Rows.StrsAre items.toList xs) (hn1 : xs.length ≤ 1000)
    (h : ∀ (h' : Heap) (tk : Nat), SetT prog w h' s.heap.objs.size xs →
      (∀ b o, b < s.heap.objs.size → s.heap.get? b = some o → h'.get? b = some o) → Q (.ref s.heap.objs.size) { s with heap := h', toks := tk }) :
    wpAny (model prog w) A (call (.type "set") [.ref l]) Q E s := by
  obtain ⟨c, tl, hmro⟩ := PySem.F.called_set.mro
  have hmade := PySem.F.called_set.made
  have hsub := PySem.F.called_set.sub
  refine wpAny_call (codeAny_of_tree ?_)
  show wpAny _ _ (callAny (.type "set") _) _ _ _
  refine wpAny_pure ⟨Code.quiet_builtin _ (by decide +kernel), codeAny_builtin PySem.F.entry_type_call ?_⟩
  rw [Around.under_plain (weight_type_call_type "set" [.ref l] []) rfl]
  have h1 := PySem.F.called_set.notType
  have h2 := PySem.F.called_set.canCreate
  have hct := PySem.F.typeCall_set_1 (.ref l)
  repeat (any_goals (first | assumption | wp_step))
  refine codeAny_mono (code_new_led (P := prog) (w := w) (.ref l) (E := E) (Q₁ := fun obj s₁ => obj = .ref s.heap.objs.size ∧ s₁ = { s with heap := s.heap.push { cls := .type "set", dict := none, data := .set #[] 0 (.fresh 0 0 (!w.params.followText "set-order")) } }) ⟨rfl, rfl⟩) fun r s₁ hr => ?_
  generalize hled : (!w.params.followText "set-order") = led at hr
  cases r with
  | error e => exact hr
  | ok fl =>
    cases fl with
    | ret obj =>
      obtain ⟨rfl, rfl⟩ := hr
      have hS : (s.heap.push { cls := .type "set", dict := none, data := .set #[] 0 (.fresh 0 0 led) }).get? s.heap.objs.size = some { cls := .type "set", dict := none, data := .set #[] 0 (.fresh 0 0 led) } := Heap.get?_push_size _ rfl
      have hT : Shared.TypeIs { s with heap := s.heap.push { cls := .type "set", dict := none, data := .set #[] 0 (.fresh 0 0 led) } } (.ref s.heap.objs.size) "set" := ⟨_, hS, rfl⟩
      have hli := PySem.F.called_set.init.lookup
      have hbi := PySem.F.called_set.init.bind (.ref s.heap.objs.size)
      repeat (any_goals (first | assumption | wp_step))
      refine codeAny_mono (codeAny_call_builtin (R := wants (fun r s₂ => r = .none ∧ ∃ h' tk, s₂ = { s with heap := h', toks := tk } ∧
          SetT prog w h' s.heap.objs.size xs ∧
          (∀ b o, b < s.heap.objs.size → s.heap.get? b = some o → h'.get? b = some o)) E) PySem.F.called_set.init.plain PySem.F.entry_set_init (check_set_init_1 hT ?_)) fun r₂ s₂ hr₂ => ?_
      · obtain ⟨ol, hol, hcl, nl, hdl⟩ := hl
        obtain ⟨ocls, odict, odata, oslots⟩ := ol
        simp only at hcl hdl
        subst hcl; subst hdl
        have hol' : (s.heap.push { cls := .type "set", dict := none, data := .set #[] 0 (.fresh 0 0 led) }).get? l = some { cls := .type "list", dict := odict, data := .seq items nl, slots := oslots } := Heap.get?_push_of_some _ hol
        have hsls := PySem.F.sub_list_set
        have hslf := PySem.F.sub_list_frozenset
        have hne : (Value.type "list" == Value.type "dict") = false := by decide
        have hl1 : (s.heap.push { cls := .type "set", dict := none, data := .set #[] 0 (.fresh 0 0 led) }).IsList l items := ⟨_, hol', rfl, nl, rfl⟩
        unfold Builtin.«set.__init__» noKeywords Builtin.Frozenset.updateFrom
        generalize hPI : pyIter = PI
        wp_walk
        subst hPI
        refine wpAny_pyIter_list hl1 ?_
        refine wpAny_bind (wpAny_runValue ?_)
        have hlS : l < s.heap.objs.size := Heap.lt_size hol
        have hh3 : A.in1.in1.in1.handled = none := by simp [hh]
        have hneI : l ≠ (s.heap.push { cls := .type "set", dict := none, data := .set #[] 0 (.fresh 0 0 led) }).objs.size := by
          rw [Heap.size_push]; exact Nat.ne_of_lt (Nat.lt_succ_of_lt hlS)
        have hSf : s.heap.objs.size ∉ [(s.heap.push { cls := .type "set", dict := none, data := .set #[] 0 (.fresh 0 0 led) }).objs.size, l] := by
          rw [Heap.size_push]; simp only [List.mem_cons, List.mem_singleton, List.not_mem_nil, or_false, not_or]
          exact ⟨Nat.ne_of_lt (Nat.lt_succ_self _), Nat.ne_of_gt hlS⟩
        have hsz : xs.length = items.size := by rw [← StrsAre.len_eq hi, Array.length_toList]
        have hval : ∀ (i : Nat) (v : Value), items[i]? = some v → ∃ t, v = .str (xs.getD i Str.empty) t := fun i v hv => SS.strs_at hi i v (by rw [Array.getElem?_toList]; exact hv)
        refine loopT ((Walks.list hh3 _ l hneI items).toS) s.heap.objs.size
          hSf xs hsz (by rw [← hsz]; exact hn1) hval (items.size - 0) 0 _ (by omega) (Nat.zero_le _)
          ⟨⟨_, Heap.get?_push_size _ rfl, rfl, rfl⟩, (hl1.push _)⟩ ?hS0 ?hR
        case hS0 =>
          have f : SetT prog w (s.heap.push { cls := .type "set", dict := none, data := .set #[] 0 (.fresh 0 0 led) }) s.heap.objs.size [] := by
            rw [← hled]
            exact fresh_T
          exact f.at fun o ho => Heap.get?_push_of_some _ ho
        case hR =>
          intro s' hm hS'
          obtain ⟨h', g', d', tk', os'⟩ := s'
          have eg : g' = s.gens := hm.gens
          have ed : d' = s.drawn := hm.drawn
          have eo : os' = s.os := hm.os
          subst eg; subst ed; subst eo
          show wpAny _ _ _ _ _ _
          refine wpAny_pure ?_
          show wpAny _ _ (ret Value.none) _ _ _
          refine wpAny_pure ⟨rfl, h', tk', rfl, hS', fun b o hb e => ?_⟩
          have hb1 : b ≠ s.heap.objs.size := Nat.ne_of_lt hb
          have hb2 : b ≠ (s.heap.push { cls := .type "set", dict := none, data := .set #[] 0 (.fresh 0 0 led) }).objs.size := by
            rw [Heap.size_push]; exact Nat.ne_of_lt (Nat.lt_succ_of_lt hb)
          exact hm.heap b o (by simp only [List.mem_cons, List.mem_singleton, List.not_mem_nil, or_false, not_or]; exact ⟨hb1, hb2⟩) (Heap.get?_push_of_some _ (Heap.get?_push_of_some _ e))
      · cases r₂ with
        | error e => exact hr₂
        | ok fl₂ =>
          cases fl₂ with
          | ret r =>
            obtain ⟨rfl, h', tk, rfl, hS', hk'⟩ := hr₂
            repeat (any_goals (first | assumption | wp_step))
            exact h _ _ hS' hk'
          | _ => exact hr₂.elim
    | _ => exact hr.elim
theorem strs_of : ∀ (l : List (Int × Value)), (∀ e ∈ l, GoodT prog w e) → ∀ vs : List Value, vs.Perm (l.map (·.2)) → ∃ ss, StrsAre vs ss ∧ ss.Perm (l.map keyT) := by
  intro l g vs pm
  have hv : ∀ v ∈ vs, ∃ k tk, v = Value.str k tk := fun v hv => by
    obtain ⟨e, he, q⟩ := List.mem_map.mp (pm.mem_iff.mp hv)
    obtain ⟨k, tk, h1, _⟩ := g e he
    exact ⟨k, tk, by rw [← q]; exact h1⟩
  have mk : ∀ vs : List Value, (∀ v ∈ vs, ∃ k tk, v = Value.str k tk) → StrsAre vs (vs.map fun v => keyT (0, v)) := by
    intro vs
    induction vs with
    | nil => intro _; exact .nil
    | cons v r ih =>
      intro h
      obtain ⟨k, tk, rfl⟩ := h v List.mem_cons_self
      exact .cons k tk (ih fun u hu => h u (List.mem_cons_of_mem _ hu))
  refine ⟨_, mk vs hv, ?_⟩
  have q := pm.map fun v => keyT (0, v)
  rw [List.map_map] at q
  exact q
theorem sorted_T {a : Addr} {l : List Str} {Q : Value → Shared → Prop} (R : SetT prog w s.heap a l) (hh : A.handled = none) (h64 : l.length < 64)
    (hQ : ∀ s' p (out : Array Value) (c : Nat) (ss : List Str), (∀ b o, s.heap.get? b = some o → s'.heap.get? b = some o) → s'.gens = s.gens → s'.os = s.os → s.heap.objs.size ≤ p →
      s'.heap.get? p = some (seqObj "list" out c) → StrsAre out.toList ss → sortedS ss = true → ss.Nodup → (∀ k, k ∈ ss ↔ k ∈ l) → ss.length ≤ l.length → Q (.ref p) s') :
    wpAny (model prog w) A (call (.builtin "sorted") [.ref a]) Q E s := by
  obtain ⟨o, es, ep, t, ho, hex, hd, g, nd, hm, hb, hb0, hf, hr, hl⟩ := R
  refine Calls.call_function_entry kind_sorted plain_sorted entry_sorted (args_sorted1 _) ?_
  unfold Builtin.«sorted»
  refine wpAny_bind (m := checkCount "sorted" 1 1 _) (wpAny_pure ?_)
  refine wpAny_bind (collect_set (A := A.in1) hh ⟨o, ho, hex.1, hd⟩ hf (by omega) hr hl fun s1 vs k1 hz g1 o1 pm => ?_)
  have hvl : vs.length = es.size := by rw [pm.length_eq, List.length_map, Array.length_toList]
  obtain ⟨ss0, hS, pk⟩ := strs_of (prog := prog) (w := w) es.toList g vs pm
  refine wpAny_bind (wpAny_newList ?_ (by rw [hvl, sizeLine_eq]; omega))
  have hoL : (s1.heap.push (seqObj "list" vs.toArray 0)).get? s1.heap.objs.size = some (seqObj "list" vs.toArray 0) := Heap.get?_push_size _ rfl
  refine wpAny_bind (wpAny_holding (wpAny_call_entry slot_list_sort ⟨_, hoL, rfl⟩ entry_list_sort (list_sort_treeK strKind_oneLt hoL hS.keysOf (fun v₁ v₂ rest e => keyKind_strs (by rw [← e]; exact hS)) (by rw [hvl]; omega) fun st' hp hs => ⟨_, rfl, ?_⟩) (args_list_sort _)))
  obtain ⟨ss', a1, a2, a3⟩ := sorted_out_str hS hp hs
  obtain ⟨c, hc⟩ := sortedHeap_at (vs := vs) (out := (arrOf st').map (·.2)) hoL
  have pn : ss'.Perm (es.toList.map keyT) := a2.trans pk
  refine wpAny_pure ⟨_, rfl, hQ _ s1.heap.objs.size _ c ss' (fun b u e => ?_) g1 o1 hz hc a1 a3 (pn.nodup_iff.mpr nd) (fun k => by rw [pn.mem_iff, ← hm k]) (by rw [pn.length_eq, List.length_map, Array.length_toList]; exact hb)⟩
  have q := k1 b u e
  have hlt := Heap.lt_size q
  show (sortedHeap (s1.heap.push (seqObj "list" vs.toArray 0)) s1.heap.objs.size vs ((arrOf st').map (·.2))).get? b = some u
  rw [sortedHeap_old (Nat.ne_of_lt hlt) (by rw [size_push']; exact Nat.lt_succ_of_lt hlt)]
  exact Heap.get?_push_of_some _ q
end
end SST
end
section
set_option maxRecDepth 100000
set_option maxHeartbeats 4000000
namespace SST
open PySem PySem.Spec PyProof.Rows L2
/-- sorted(set(xs)), xs a list of texts -/
def tSortSet (K : PySem.W.Frag) (ta : TE) : TE := fun σ H Q => ta σ H fun x H1 => ∃ l, ∃ xs : List Str, x = .ref l ∧ SqL K H1 l (xs.map V.str) ∧ xs.length ≤ 60 ∧ ∀ (p : Addr) (ss : List Str), H1 p = none → sortedS ss = true → ss.Nodup → (∀ k, k ∈ ss ↔ k ∈ xs) → Q (.ref p) (upd H1 p (.lst (ss.map V.str)))
theorem pe_sortSet {X : Cx} {a : Expr} {ta : TE} {p p2 q pos : Pos} (hc : X.calm = true) (hg : Gl X "sorted") (hm : X.mg "sorted" = none) (hg2 : Gl X "set") (hm2 : X.mg "set" = none) (ha : PE X a ta)
    (na : starEach [a] X.env = (false, eval a X.env) :: starEach [] X.env := by rfl) : PE X (.Call (.Name "sorted" p) [.Call (.Name "set" p2) [a] [] q] [] pos) (tSortSet X.K ta) := by
  refine ⟨fun pins s σ H Q I h => ?_⟩
  refine Call_ (ld_blt I hg hm boot_sorted ?_)
  refine PyProof.Rows.callWith_builtin1 (PyProof.Rows.args_cons ?_ rfl) rfl rfl
  refine Call_ (ld_blt I hg2 hm2 boot_set ?_)
  refine PyProof.Rows.callWith_type1 (PyProof.Rows.args_cons (thn (ha.run pins s σ H _ I h) fun v s1 ⟨x, H1, I1, r1, q1⟩ => PyProof.Rows.args_nil ?_) na) na rfl
  obtain ⟨l, xs, rfl, hq, h1, q1⟩ := q1
  cases r1
  obtain ⟨its, r, pl, hz⟩ := I1.list hq
  refine call_setT (I1.ok.hd hc) pl.isList (by simpa using strsAre_of r) (by omega) fun h' tk hS hk => ?_
  refine PyProof.Rows.args_nil ?_
  have I2 : Inv X pins σ H1 { s1 with heap := h', toks := tk } := I1.kept fun b o e => hk b o (Heap.lt_size e) e
  refine sorted_T hS (I2.ok.hd hc) (by omega) fun s' p out c ss k2 g2 o2 hp hget hss srt nd hmem hle => ?_
  have hsl : ss.length ≤ 60 := by omega
  have hlen : (ss.map V.str).length ≤ sizeLine := by rw [List.length_map]; exact Nat.le_trans hsl (by decide)
  have hn : H1 p = none := I2.hok.fresh hp
  have J : L2.Inv X pins σ (upd H1 p (.lst (ss.map V.str))) { ({ heap := h', gens := s1.gens, drawn := s1.drawn, toks := tk, os := s1.os } : Shared) with heap := s'.heap, gens := s'.gens, drawn := s'.drawn, toks := s'.toks } :=
    I2.call (ch := []) (Un.laid k2 hp hn) (I2.hok.laid k2 hp ⟨hlen, out.toList, c, vals_of_strs hss, hget⟩) (by rw [g2]; exact I2.bare) (fun _ z => nomatch z)
  have e : s' = { s1 with heap := s'.heap, gens := s'.gens, drawn := s'.drawn, toks := s'.toks } := by
    obtain ⟨h3, g3, d3, t3, os3⟩ := s'
    obtain rfl : os3 = s1.os := o2
    rfl
  rw [e]
  exact ⟨.ref p, _, J, rfl, q1 p ss hn srt nd hmem⟩
end SST
end
section
set_option maxRecDepth 100000
set_option maxHeartbeats 4000000
namespace MS
open PySem L2
/-! ### rows of each, of all -/
theorem inner_list {K : PySem.W.Frag} {a : Addr} {xs : List V} {g : TG} {tt : TT} {te : TE} {vs : List Nat} {σ : St} {H1 : Hp} {D : Addr} {Qd : Hp → Prop} (Pv : Nat → Hp → Prop) (h0 : Pv 0 H1) (hl : ∀ i H, i ≤ xs.length → Pv i H → SqL K H a xs)
    (hs : ∀ i x H, xs[i]? = some x → Pv i H → g x (wipe σ vs) H fun σ2 H2 => wipe σ2 vs = wipe σ vs ∧ tt σ2 H2 fun b H3 =>
      if b = true then te σ2 H3 fun y H4 => ∃ acc, H4 D = some (.lst acc) ∧ acc.length < sizeLine ∧ Pv (i + 1) (upd H4 D (.lst (acc ++ [y]))) else Pv (i + 1) H3) (hd : ∀ H, Pv xs.length H → Qd H) :
    ∃ W : Nat → Nat → Hp → Prop, (∃ m, W 0 m H1) ∧ ∀ i m H, W i m H →
      ((Itl K a).stop i H ∧ Qd H) ∨ ((Itl K a).go i H ∧ ∃ Nx : Hp → Prop, (∀ H', Nx H' → ∃ m', m' < m ∧ W (i + 1) m' H') ∧ ∀ x H', (Itl K a).yld i H x H' → g x (wipe σ vs) H' fun σ2 H2 => wipe σ2 vs = wipe σ vs ∧ tt σ2 H2 fun b H3 =>
        if b = true then te σ2 H3 fun y H4 => ∃ acc, H4 D = some (.lst acc) ∧ acc.length < sizeLine ∧ Nx (upd H4 D (.lst (acc ++ [y]))) else Nx H3) := by
  refine ⟨fun i m H => m = xs.length - i ∧ i ≤ xs.length ∧ Pv i H, ⟨xs.length, by simp, Nat.zero_le _, h0⟩, ?_⟩
  rintro i m H ⟨rfl, hi, p⟩
  have q := hl i H hi p
  by_cases hlt : i < xs.length
  · refine .inr ⟨⟨xs, xs[i], q, by simp [hlt]⟩, Pv (i + 1), fun H' p' => ⟨xs.length - (i + 1), by omega, rfl, hlt, p'⟩, fun x H' y => ?_⟩
    obtain ⟨e, y⟩ := y
    subst e
    exact hs i x _ (y xs q) p
  · have e : i = xs.length := by omega
    subst e
    exact .inl ⟨⟨xs, q, Nat.le_refl _⟩, hd H p⟩
theorem outer_list {K : PySem.W.Frag} {a : Addr} {xs : List V} {g g1 : TG} {tt tt1 : TT} {wi1 : TI} {te : TE} {vs vs1 : List Nat} {σ : St} {H1 : Hp} {D : Addr} {Qd : Hp → Prop} (Pv : Nat → Hp → Prop) (h0 : Pv 0 (upd H1 D (.lst []))) (hl : ∀ i H, i ≤ xs.length → Pv i H → SqL K H a xs)
    (hs : ∀ i x H, xs[i]? = some x → Pv i H → g x (wipe σ vs) H fun σ2 H2 => wipe σ2 vs = wipe σ vs ∧ tt σ2 H2 fun b H3 =>
      if b = true then wi1 σ2 H3 fun J1 H4 => ∃ W1 : Nat → Nat → Hp → Prop, (∃ m, W1 0 m H4) ∧ ∀ j k H, W1 j k H →
        (J1.stop j H ∧ Pv (i + 1) H) ∨ (J1.go j H ∧ ∃ Nx1 : Hp → Prop, (∀ H', Nx1 H' → ∃ k', k' < k ∧ W1 (j + 1) k' H') ∧ ∀ x H', J1.yld j H x H' → g1 x (wipe σ2 vs1) H' fun σ3 H5 => wipe σ3 vs1 = wipe σ2 vs1 ∧ tt1 σ3 H5 fun b H6 =>
          if b = true then te σ3 H6 fun y H7 => ∃ acc, H7 D = some (.lst acc) ∧ acc.length < sizeLine ∧ Nx1 (upd H7 D (.lst (acc ++ [y]))) else Nx1 H6)
      else Pv (i + 1) H3) (hd : ∀ H, Pv xs.length H → Qd H) :
    ∃ W : Nat → Nat → Hp → Prop, (∃ m, W 0 m (upd H1 D (.lst []))) ∧ ∀ i m H, W i m H →
      ((Itl K a).stop i H ∧ Qd H) ∨ ((Itl K a).go i H ∧ ∃ Nx : Hp → Prop, (∀ H', Nx H' → ∃ m', m' < m ∧ W (i + 1) m' H') ∧ ∀ x H', (Itl K a).yld i H x H' → g x (wipe σ vs) H' fun σ2 H2 => wipe σ2 vs = wipe σ vs ∧ tt σ2 H2 fun b H3 =>
        if b = true then wi1 σ2 H3 fun J1 H4 => ∃ W1 : Nat → Nat → Hp → Prop, (∃ m, W1 0 m H4) ∧ ∀ j k H, W1 j k H →
          (J1.stop j H ∧ Nx H) ∨ (J1.go j H ∧ ∃ Nx1 : Hp → Prop, (∀ H', Nx1 H' → ∃ k', k' < k ∧ W1 (j + 1) k' H') ∧ ∀ x H', J1.yld j H x H' → g1 x (wipe σ2 vs1) H' fun σ3 H5 => wipe σ3 vs1 = wipe σ2 vs1 ∧ tt1 σ3 H5 fun b H6 =>
            if b = true then te σ3 H6 fun y H7 => ∃ acc, H7 D = some (.lst acc) ∧ acc.length < sizeLine ∧ Nx1 (upd H7 D (.lst (acc ++ [y]))) else Nx1 H6)
        else Nx H3) := by
  refine ⟨fun i m H => m = xs.length - i ∧ i ≤ xs.length ∧ Pv i H, ⟨xs.length, by simp, Nat.zero_le _, h0⟩, ?_⟩
  rintro i m H ⟨rfl, hi, p⟩
  have q := hl i H hi p
  by_cases hlt : i < xs.length
  · refine .inr ⟨⟨xs, xs[i], q, by simp [hlt]⟩, Pv (i + 1), fun H' p' => ⟨xs.length - (i + 1), by omega, rfl, hlt, p'⟩, fun x H' y => ?_⟩
    obtain ⟨e, y⟩ := y
    subst e
    exact hs i x _ (y xs q) p
  · have e : i = xs.length := by omega
    subst e
    exact .inl ⟨⟨xs, q, Nat.le_refl _⟩, hd H p⟩
abbrev psRows : List Str := ["paper", "scheme", "where", "view"]
abbrev psEach : List Str := ["paper", "schemes", "where", "view"]
structure RAt (C : Addr) (H : Hp) (ps : List Sch) (ws : List StepT) (pa wr vw : Addr) (st : Nat) (c : Bool) (wh : List Nat) : Prop where
  paper : ∃ pv, H pa = some (.tup pv) ∧ Paired (SAt H 5) ps pv
  view : ViewAt C H vw ws st c
  wher : H wr = some (.tup (natV wh))
theorem RAt.keep {C : Addr} {H H' : Hp} {ps : List Sch} {ws : List StepT} {pa wr vw : Addr} {st : Nat} {c : Bool} {wh : List Nat} (h : RAt C H ps ws pa wr vw st c wh) (k : Same H H') : RAt C H' ps ws pa wr vw st c wh := by
  obtain ⟨⟨pv, e, p⟩, h2, h3⟩ := h
  exact ⟨⟨pv, k _ _ e, paired_imp p fun s v => SAt.keep (Same.tupK k) _ _ _⟩, h2.keep k, k _ _ h3⟩
def spRows (C : Addr) (ps : List Sch) (ws : List StepT) (ce : Nat → Int) (M k : Nat) : Sp := fun vs H Q _ => ∃ (pa wr vw : Addr) (v : V) (s : Sch) (i d st : Nat) (c : Bool) (wh : List Nat), vs = [.ref pa, v, .ref wr, .ref vw] ∧ RAt C H ps ws pa wr vw st c wh ∧ st ≤ ws.length ∧ SAt H d s v ∧ OkS i M d s ∧ er ce d s ≤ 7 ∧ (M - i) * 5 + d ≤ k ∧ wh.length + k ≤ 100 ∧
  ∀ (f : Addr) (rv : List V) (H' : Hp), Same H H' → H f = none → H' f = some (.lst rv) → Paired (RowR H') (rP ps ws k s st c wh) rv → Q (.ref f) H'
structure KAt (H : Hp) (ce : Nat → Int) (M k i d : Nat) (ks : List Sch) (kv : List V) (b : Addr) : Prop where
  at_ : H b = some (.tup kv)
  pr : Paired (SAt H d) ks kv
  ok : ∀ s ∈ ks, OkS i M d s ∧ er ce d s ≤ 7
  few : ks.length ≤ 4
  fuel : (M - i) * 5 + d ≤ k
theorem KAt.keep {H H' : Hp} {ce : Nat → Int} {M k i d : Nat} {ks : List Sch} {kv : List V} {b : Addr} (h : KAt H ce M k i d ks kv b) (s : Same H H') : KAt H' ce M k i d ks kv b := ⟨s _ _ h.at_, paired_imp h.pr fun _ _ => SAt.keep (Same.tupK s) _ _ _, h.ok, h.few, h.fuel⟩
/-- the rows of each stand at fv -/
def EachAt (H0 H : Hp) (F : Sch → Nat → List Row) (ks : List Sch) (fv : List V) : Prop := fv.length = ks.length ∧ ∀ j s, ks[j]? = some s → ∃ g rv, fv[j]? = some (V.ref g) ∧ H0 g = none ∧ H g = some (.lst rv) ∧ Paired (RowR H) (F s j) rv
def spEach (C : Addr) (ps : List Sch) (ws : List StepT) (ce : Nat → Int) (M k : Nat) : Sp := fun vs H Q _ => ∃ (pa wr vw b : Addr) (ks : List Sch) (kv : List V) (i d st : Nat) (c : Bool) (wh : List Nat), vs = [.ref pa, .ref b, .ref wr, .ref vw] ∧ RAt C H ps ws pa wr vw st c wh ∧ st ≤ ws.length ∧ KAt H ce M k i d ks kv b ∧ wh.length + 1 + k ≤ 100 ∧
  ∀ (f : Addr) (fv : List V) (H' : Hp), Same H H' → H f = none → H' f = some (.lst fv) → EachAt H H' (fun s j => rP ps ws k s st c (wh ++ [j])) ks fv → Q (.ref f) H'
def spAll (C : Addr) (ps : List Sch) (ws : List StepT) (ce : Nat → Int) (M k : Nat) : Sp := fun vs H Q _ => ∃ (pa wr vw b : Addr) (ks : List Sch) (kv : List V) (i d st : Nat) (c : Bool) (wh : List Nat), vs = [.ref pa, .ref b, .ref wr, .ref vw] ∧ RAt C H ps ws pa wr vw st c wh ∧ st ≤ ws.length ∧ KAt H ce M k i d ks kv b ∧ wh.length + 1 + k ≤ 100 ∧
  ∀ (f : Addr) (rv : List V) (H' : Hp), Same H H' → H f = none → H' f = some (.lst rv) → Paired (RowR H') (allU (fun s j => rP ps ws k s st c (wh ++ [j])) ks 0) rv → Q (.ref f) H'
theorem rows_le_pts : ∀ (rs : List Row), (∀ r ∈ rs, 0 < r.2.1) → rs.length ≤ pts rs
  | [], _ => Nat.zero_le _
  | r :: t, h => by
    rw [pts_cons, List.length_cons]
    have := rows_le_pts t fun r hr => h r (List.mem_cons_of_mem _ hr)
    have := h r List.mem_cons_self
    omega
theorem rP_len {ps : List Sch} {ws : List StepT} {ce : Nat → Int} {M : Nat} (hp : ∀ (j : Nat) (s : Sch), ps[j]? = some s → OkS j M 5 s ∧ ce j = er ce 5 s) (h0 : ∀ j, j < M → 0 ≤ ce j) {k i d : Nat} {s : Sch} {st : Nat} {c : Bool} {wh : List Nat} (o : OkS i M d s) (h7 : er ce d s ≤ 7) : (rP ps ws k s st c wh).length ≤ 63 := by
  have h1 := uP_len (ws := ws) hp h0 k i d s st c wh o
  rw [uP_expand, expand_len] at h1
  have h2 := rows_le_pts _ fun r hr => ((rP_good (ws := ws) (fun j s e => (hp j s e).1) k i d s st c wh o).1 r hr).1
  omega
theorem allU_le {α : Type} {f : Sch → Nat → List α} : ∀ (ks : List Sch) (j : Nat), (∀ s ∈ ks, ∀ j, (f s j).length ≤ 63) → (allU f ks j).length ≤ 63 * ks.length
  | [], _, _ => Nat.le_refl _
  | s :: r, j, h => by
    show (f s j ++ allU f r (j + 1)).length ≤ _
    rw [List.length_append, List.length_cons]
    have := h s List.mem_cons_self j
    have := allU_le r (j + 1) fun s hs => h s (List.mem_cons_of_mem _ hs)
    omega
section
variable {P : Program} {w : World} {K : PySem.W.Frag} {mg : Str → Option Value} {base : Heap} {C : Addr} {ps : List Sch} {ws : List StepT} {ce : Nat → Int} {M k L : Nat}
theorem ok_each (T : PTx w K mg) (DR : Def K mg "rows_of" s_rows_of psRows) (D : Def K mg "rows_of_each" s_rows_of_each psEach) (G : FnOk P w K mg base CX0 L DR.f DR.fd psRows (spRows C ps ws ce M k)) : FnOk P w K mg base CX0 (L + 1) D.f D.fd psEach (spEach C ps ws ce M k) := by
  have nd := sc_rows_of_each.nd
  refine D.ok sc_rows_of_each (fun vs H Q E h => ?_) (fun cdv A outer s H vs Q E hr h => ?_)
  · obtain ⟨pa, wr, vw, b, ks, kv, i, d, st, c, wh, rfl, _⟩ := h
    rfl
  obtain ⟨pa, wr, vw, b, ks, kv, i, d, st, c, wh, rfl, R, hst, KA, hwh, q⟩ := h
  refine ⟨_, pss_one (ps_ret (pe_lc (own := [("at", 4), ("scheme", 5)]) (g := gTup K 2 (gCons (gName 4) (gCons (gName 5) gNil))) (tt := tYes) rfl nd (pi_enumT rfl (T.free "enumerate" (by decide +kernel)) (pa_cons (pv 1) pa_nil)) (blkOk_by (N := ["paper", "schemes", "where", "view", "at", "scheme"]) (sc := defScope s_rows_of_each) (by decide +kernel))
      (fun _ _ _ _ _ => pg_tup rfl (pgs_cons (pg_name (i := 4) nd rfl (Or.inl rfl)) (pgs_cons (pg_name (i := 5) nd rfl (Or.inl rfl)) pgs_nil))) (fun _ _ _ _ _ => pts_nil)
      (fun _ _ _ _ _ => pcall DR G hr (pa_cons (pv 0) (pa_cons (pv 5) (pa_cons (pe_op (r := rCatA K) op_catA (pv 2) (pe_tup (pa_cons (pv 4) pa_nil))) (pa_cons (pv 3) pa_nil))))))), ?_⟩
  have hkl := Paired.length KA.pr
  have hfew := KA.few
  have hfu := KA.fuel
  refine ⟨_, rfl, b, _, rfl, SqT.of KA.at_, fun Dd hD => ?_⟩
  refine lc_it (walk_enumT (K := K) (a := b) (xs := kv)) (fun j H'' => ∃ fv, H'' Dd = some (.lst fv) ∧ fv.length = j ∧ (∀ j' s, j' < j → ks[j']? = some s → ∃ g rv, fv[j']? = some (V.ref g) ∧ g ≠ Dd ∧ H g = none ∧ H'' g = some (.lst rv) ∧ Paired (RowR H'') (rP ps ws k s st c (wh ++ [j'])) rv) ∧ Same H H'') ⟨[], upd_same, rfl, (fun _ _ h => by omega), Same.new hD⟩ (fun j H'' _ ⟨_, _, _, _, s3⟩ => SqT.of (s3 _ _ KA.at_)) ?_ ?_
  · rintro j x H2 H3 hj ⟨fv, eD, hl, hfv, s3⟩ ⟨T1, x1, x2, rfl, hT1, rfl, ex1, ex2⟩
    obtain rfl : V.int ((j : Nat) : Int) = x1 := Option.some.inj ex1
    have ex2 : kv[j]? = some x2 := ex2
    obtain ⟨s', es', hs'⟩ := paired_get' KA.pr ex2
    have hm := List.mem_of_getElem? es'
    obtain ⟨hok, h7⟩ := KA.ok s' hm
    have sT := Same.new (o := .tup [.int ((j : Nat) : Int), x2]) hT1
    have s4 := s3.trans sT
    have R4 := R.keep s4
    refine ⟨T1, _, rfl, SqT.of upd_same, rfl, _, _, rfl, _, _, rfl, rfl, rfl, _, rfl, _, rfl, ?_⟩
    refine cat_at (i := 2) (j := j) rfl R4.wher (by omega) (fun Q q => ⟨_, rfl, q⟩) (fun wr' H5 s5 ew => ?_)
    have s45 := s4.trans s5
    have R5 := R4.keep s5
    refine ⟨_, rfl, pa, wr', vw, x2, s', i, d, st, c, wh ++ [j], rfl, ⟨R5.paper, R5.view, ew⟩, hst, SAt.keep (Same.tupK s45) _ _ _ hs', hok, h7, hfu, by rw [List.length_append, List.length_singleton]; omega, fun g rv H6 s6 hg eg pr => ?_⟩
    have s26 := (sT.trans s5).trans s6
    have eD6 := s26 _ _ eD
    have ngD : g ≠ Dd := fun z => by rw [z, (sT.trans s5) _ _ eD] at hg; cases hg
    have tk : TupK H6 (upd H6 Dd (.lst (fv ++ [.ref g]))) := TupK.put eD6
    have hjl := (List.getElem?_eq_some_iff.mp es').1
    refine ⟨_, eD6, small1000 (by omega), fv ++ [.ref g], upd_same, by rw [List.length_append, hl]; rfl, fun j' s'' hj' es'' => ?_, Same.newer (s3.trans s26) hD⟩
    by_cases e : j' < j
    · obtain ⟨g', rv', e1, e2, e3, e4, e5⟩ := hfv j' s'' e es''
      exact ⟨g', rv', by rw [List.getElem?_append_left (by omega)]; exact e1, e2, e3, by rw [upd_ne e2]; exact s26 _ _ e4, paired_imp e5 fun _ _ h => RowR.keep h ((Same.tupK s26).trans tk)⟩
    · have e : j' = j := by omega
      subst e
      rw [es'] at es''
      cases es''
      refine ⟨g, rv, ?_, ngD, s45.free hg, by rw [upd_ne ngD]; exact eg, paired_imp pr fun _ _ h => RowR.keep h tk⟩
      rw [List.getElem?_append_right (by omega), hl, Nat.sub_self]
      rfl
  · rintro H'' ⟨fv, eD, hl, hfv, s3⟩
    refine q Dd fv H'' s3 hD eD ⟨by omega, fun j s' es' => ?_⟩
    have hjl := (List.getElem?_eq_some_iff.mp es').1
    obtain ⟨g', rv', e1, e2, e3, e4, e5⟩ := hfv j s' (by omega) es'
    exact ⟨g', rv', e1, e3, e4, e5⟩
theorem ok_all (hp : ∀ (j : Nat) (s : Sch), ps[j]? = some s → OkS j M 5 s ∧ ce j = er ce 5 s) (h0 : ∀ j, j < M → 0 ≤ ce j) (T : PTx w K mg) (DE : Def K mg "rows_of_each" s_rows_of_each psEach) (D : Def K mg "rows_of_all" s_rows_of_all psEach) (G : FnOk P w K mg base CX0 L DE.f DE.fd psEach (spEach C ps ws ce M k)) : FnOk P w K mg base CX0 (L + 1) D.f D.fd psEach (spAll C ps ws ce M k) := by
  have nd := sc_rows_of_all.nd
  refine D.ok sc_rows_of_all (fun vs H Q E h => ?_) (fun cdv A outer s H vs Q E hr h => ?_)
  · obtain ⟨pa, wr, vw, b, ks, kv, i, d, st, c, wh, rfl, _⟩ := h
    rfl
  obtain ⟨pa, wr, vw, b, ks, kv, i, d, st, c, wh, rfl, R, hst, KA, hwh, q⟩ := h
  refine ⟨_, pss_one (ps_ret (pe_lc2 (own := [("rows", 4), ("row", 5)]) (vs1 := [5]) (g := gName 4) (wi1 := iList K (tVar 4)) (g1 := gName 5) (tt := tYes) (tt1 := tYes) rfl nd (pi_list (pcall DE G hr (pa_cons (pv 0) (pa_cons (pv 1) (pa_cons (pv 2) (pa_cons (pv 3) pa_nil))))))
      (blkOk_by (N := ["paper", "schemes", "where", "view", "rows", "row"]) (sc := defScope s_rows_of_all) (by decide +kernel)) (by intro i hi; rw [List.mem_singleton.mp hi]; decide)
      (fun _ _ _ _ _ => pg_name (i := 4) nd rfl (Or.inl rfl)) (fun _ _ _ _ _ => pts_nil) (fun _ _ _ _ _ => pi_list (pv 4)) (fun _ _ _ _ _ => pg_name (i := 5) nd rfl (Or.inl rfl)) (fun _ _ _ _ _ => pts_nil) (fun _ _ _ _ _ => pv 5))), ?_⟩
  refine ⟨_, rfl, _, rfl, _, rfl, _, rfl, pa, wr, vw, b, ks, kv, i, d, st, c, wh, rfl, R, hst, KA, hwh, fun r fv Hr sr hr0 er' EA => ?_⟩
  have hfew := KA.few
  have lrow : ∀ s ∈ ks, ∀ j, ((fun s j => rP ps ws k s st c (wh ++ [j])) s j).length ≤ 63 := fun s hs j => rP_len hp h0 (KA.ok s hs).1 (KA.ok s hs).2
  generalize (fun s j => rP ps ws k s st c (wh ++ [j])) = F at q EA lrow
  obtain ⟨hfl, hEA⟩ := EA
  refine ⟨r, rfl, ⟨_, SqL.of er'⟩, fun D hD => ?_⟩
  have nrD : r ≠ D := ne_of_none er' hD
  have lAll : ∀ i, (allU F (ks.take i) 0).length ≤ 252 := fun i => by
    have := allU_le (f := F) (ks.take i) 0 fun s hs j => lrow s (List.mem_of_mem_take hs) j
    have : (ks.take i).length ≤ 4 := by rw [List.length_take]; omega
    omega
  refine outer_list (K := K) (a := r) (xs := fv) (fun i H' => ∃ av, H' D = some (.lst av) ∧ Paired (RowR H') (allU F (ks.take i) 0) av ∧ Same Hr H') ⟨[], upd_same, .nil, Same.new hD⟩ (fun i H' _ ⟨_, _, _, s5⟩ => SqL.of (s5 _ _ er')) ?_ ?_
  · rintro j x H5 hj ⟨av, eD, pa5, s5⟩
    have hjl : j < ks.length := by rw [← hfl]; exact (List.getElem?_eq_some_iff.mp hj).1
    have es' : ks[j]? = some (ks[j]'hjl) := List.getElem?_eq_getElem hjl
    obtain ⟨g, rv, e1, e2, e3, e4⟩ := hEA j _ es'
    rw [hj] at e1
    cases e1
    have tk : ks.take (j + 1) = ks.take j ++ [ks[j]'hjl] := by
      rw [List.take_succ, es']
      rfl
    have eF : allU F (ks.take (j + 1)) 0 = allU F (ks.take j) 0 ++ F (ks[j]'hjl) j := by
      rw [tk, allU_snoc, List.length_take, Nat.zero_add, Nat.min_eq_left (Nat.le_of_lt hjl)]
    have lF := lrow _ (List.getElem_mem hjl) j
    have lrv := Paired.length e4
    have lA := lAll j
    refine ⟨rfl, _, rfl, g, rfl, ⟨_, SqL.of (s5 _ _ e3)⟩, ?_⟩
    refine inner_list (K := K) (a := g) (xs := rv) (fun t H' => ∃ av, H' D = some (.lst av) ∧ Paired (RowR H') (allU F (ks.take j) 0 ++ (F (ks[j]'hjl) j).take t) av ∧ Same Hr H') ⟨av, eD, by rw [List.take_zero, List.append_nil]; exact pa5, s5⟩ (fun t H' _ ⟨_, _, _, s6⟩ => SqL.of (s6 _ _ e3)) ?_ ?_
    · rintro t y H6 hy ⟨av6, eD6, pa6, s6⟩
      obtain ⟨row, erow, hrow⟩ := paired_get' e4 hy
      have lav := Paired.length pa6
      rw [List.length_append, List.length_take] at lav
      have tk6 : TupK H6 (upd H6 D (.lst (av6 ++ [y]))) := TupK.put eD6
      refine ⟨rfl, _, rfl, _, eD6, small1000 (by omega), av6 ++ [y], upd_same, ?_, Same.newer s6 hD⟩
      have e : (F (ks[j]'hjl) j).take (t + 1) = (F (ks[j]'hjl) j).take t ++ [row] := by
        rw [List.take_succ, erow]
        rfl
      rw [e, ← List.append_assoc]
      exact paired_app (paired_imp pa6 fun _ _ h => RowR.keep h tk6) (.cons (RowR.keep hrow ((Same.tupK s6).trans tk6)) .nil)
    · rintro H6 ⟨av6, eD6, pa6, s6⟩
      rw [← lrv, List.take_length] at pa6
      exact ⟨av6, eD6, by rw [eF]; exact pa6, s6⟩
  · rintro H5 ⟨av, eD, pa5, s5⟩
    rw [hfl, List.take_length] at pa5
    exact q D av H5 (sr.trans s5) (sr.free hD) eD pa5
end
end MS
end
section
set_option maxRecDepth 100000
set_option maxHeartbeats 4000000
namespace MS
open PySem L2
/-! ### the rows of a scheme -/
theorem case_no {K : PySem.W.Frag} {nm : Str} {is : List Nat} {tb : TS} {tr : TM} {a : Addr} {z : Str} {tl : List V} {D : Ends} {σ : St} {H : Hp} (ea : H a = some (.tup (.str z :: tl))) (hl : tl.length ≤ 1000) (n : z ≠ nm) (h : tr (.ref a) D σ H) : tCase K nm is tb tr (.ref a) D σ H :=
  ⟨a, z, tl, rfl, SqT.of ea, hl, by rw [if_neg (fun q => n q.2)]; exact h⟩
theorem case_yes {K : PySem.W.Frag} {z : Str} {is : List Nat} {tb : TS} {tr : TM} {a : Addr} {tl : List V} {D : Ends} {σ : St} {H : Hp} (ea : H a = some (.tup (.str z :: tl))) (hl : tl.length ≤ 1000) (e : tl.length = is.length) (h : tb D (setAll σ is tl) H) : tCase K z is tb tr (.ref a) D σ H :=
  ⟨a, z, tl, rfl, SqT.of ea, hl, by rw [if_pos ⟨e, rfl⟩]; exact h⟩
def FF (f : Sch → Nat → List Row) (ks : List Sch) (i : Nat) : List Row := match ks[i]? with
  | some s => f s i
  | none => []
theorem bestR_snoc (f : Sch → Nat → List Row) : ∀ (l : List Sch) (s : Sch) (j : Nat) (acc : List Row), bestR f (l ++ [s]) j acc = if pts (bestR f l j acc) < pts (f s (j + l.length)) then f s (j + l.length) else bestR f l j acc
  | [], s, j, acc => rfl
  | a :: l, s, j, acc => by
    show bestR f (l ++ [s]) (j + 1) (if pts acc < pts (f a j) then f a j else acc) = _
    rw [bestR_snoc f l s (j + 1), List.length_cons, show j + 1 + l.length = j + (l.length + 1) by omega]
    rfl
theorem pts_nil' : ∀ {rs : List Row}, (∀ r ∈ rs, 0 < r.2.1) → pts rs = 0 → rs = []
  | [], _, _ => rfl
  | r :: t, h, e => by
    rw [pts_cons] at e
    have := h r List.mem_cons_self
    omega
theorem best_arg {f : Sch → Nat → List Row} {ks : List Sch} (hpos : ∀ s ∈ ks, ∀ j, ∀ r ∈ f s j, 0 < r.2.1) : ∀ m, m < ks.length → bestR f (ks.take (m + 1)) 0 [] = FF f ks (argBest (gtB fun i => ((pts (FF f ks i) : Nat) : Int)) m)
  | 0, h => by
    have e : ks[0]? = some (ks[0]'h) := List.getElem?_eq_getElem h
    have t : ks.take (0 + 1) = [ks[0]'h] := by
      rw [List.take_succ, e]
      rfl
    rw [t]
    have F0 : FF f ks 0 = f (ks[0]'h) 0 := by unfold FF; rw [e]
    show (if pts [] < pts (f (ks[0]'h) 0) then f (ks[0]'h) 0 else []) = FF f ks 0
    rw [F0]
    by_cases c : pts [] < pts (f (ks[0]'h) 0)
    · rw [if_pos c]
    · rw [if_neg c]
      have z : pts (f (ks[0]'h) 0) = 0 := by
        have : pts [] = 0 := rfl
        omega
      exact (pts_nil' (hpos _ (List.getElem_mem h) 0) z).symm
  | m + 1, h => by
    have e : ks[m + 1]? = some (ks[m + 1]'h) := List.getElem?_eq_getElem h
    have t : ks.take (m + 1 + 1) = ks.take (m + 1) ++ [ks[m + 1]'h] := by
      rw [List.take_succ, e]
      rfl
    have F1 : FF f ks (m + 1) = f (ks[m + 1]'h) (m + 1) := by unfold FF; rw [e]
    rw [t, bestR_snoc, best_arg hpos m (by omega), List.length_take, Nat.min_eq_left (Nat.le_of_lt h), Nat.zero_add, ← F1]
    show _ = FF f ks (if gtB (fun i => ((pts (FF f ks i) : Nat) : Int)) (m + 1) (argBest (gtB fun i => ((pts (FF f ks i) : Nat) : Int)) m) then m + 1 else argBest (gtB fun i => ((pts (FF f ks i) : Nat) : Int)) m)
    generalize argBest (gtB fun i => ((pts (FF f ks i) : Nat) : Int)) m = A
    by_cases c : pts (FF f ks A) < pts (FF f ks (m + 1))
    · rw [if_pos c, if_pos (show gtB (fun i => ((pts (FF f ks i) : Nat) : Int)) (m + 1) A = true from decide_eq_true (show ((pts (FF f ks A) : Nat) : Int) < ((pts (FF f ks (m + 1)) : Nat) : Int) by omega))]
    · rw [if_neg c, if_neg (show ¬ gtB (fun i => ((pts (FF f ks i) : Nat) : Int)) (m + 1) A = true from fun z => by
        have z2 : ((pts (FF f ks A) : Nat) : Int) < ((pts (FF f ks (m + 1)) : Nat) : Int) := of_decide_eq_true z
        omega)]
theorem arg_le (bt : Nat → Nat → Bool) : ∀ m, argBest bt m ≤ m
  | 0 => Nat.le_refl _
  | m + 1 => by
    show (if bt (m + 1) (argBest bt m) then m + 1 else argBest bt m) ≤ m + 1
    have := arg_le bt m
    split <;> omega
structure DRows (K : PySem.W.Frag) (mg : Str → Option Value) where
  DPt : Def K mg "points_of" s_points_of ["rows"]
  DFp : Def K mg "first_points" s_first_points ["rows", "limit"]
  DRa : Def K mg "row_at" s_row_at ["place", "points", "where"]
  DE : Def K mg "rows_of_each" s_rows_of_each psEach
  DA : Def K mg "rows_of_all" s_rows_of_all psEach
  DR : Def K mg "rows_of" s_rows_of psRows
  DB : Def K mg "rows_by" s_rows_by ["paper", "work"]
  DI : Def K mg "is_step" s_is_step ["thing"]
  DC : Def K mg "check_work" s_check_work ["work"]
theorem nat_of {p : Int} (h : 0 ≤ p) : ∃ n : Nat, p = ((n : Nat) : Int) := ⟨p.toNat, by omega⟩
section
variable {P : Program} {w : World} {K : PySem.W.Frag} {mg : Str → Option Value} {base : Heap} {C : Addr} {ps : List Sch} {ws : List StepT} {ce : Nat → Int} {M k L : Nat}
theorem rows_turn (hM : ps.length = M) (hw : ∀ p ∈ ws, IsStep p) (hws : ws.length ≤ 12) (hp : ∀ (j : Nat) (s : Sch), ps[j]? = some s → OkS j M 5 s ∧ ce j = er ce 5 s) (h0 : ∀ j, j < M → 0 ≤ ce j) (h7 : ∀ j, j < M → ce j ≤ 7) (T : PTx w K mg) (Y : VCls K mg C) (D : DRows K mg) (hL : 1 ≤ L)
    (G : FnOk P w K mg base CX0 L D.DR.f D.DR.fd psRows (spRows C ps ws ce M k)) : FnOk P w K mg base CX0 (L + 3) D.DR.f D.DR.fd psRows (spRows C ps ws ce M (k + 1)) := by
  have GE : FnOk P w K mg base CX0 (L + 1) D.DE.f D.DE.fd psEach (spEach C ps ws ce M k) := ok_each T D.DR D.DE G
  have GA : FnOk P w K mg base CX0 (L + 2) D.DA.f D.DA.fd psEach (spAll C ps ws ce M k) := ok_all hp h0 T D.DE D.DA GE
  have GPt : FnOk P w K mg base CX0 1 D.DPt.f D.DPt.fd ["rows"] spPoints := ok_points_of T D.DPt
  have GFp : FnOk P w K mg base CX0 1 D.DFp.f D.DFp.fd ["rows", "limit"] spFirst := ok_first_points T D.DFp
  have GRa : FnOk P w K mg base CX0 1 D.DRa.f D.DRa.fd ["place", "points", "where"] spRowAt := ok_row_at T D.DRa
  have GF : FnOk P w K mg base CX0 2 Y.DF.f Y.DF.fd ["self", "word"] (spVFirst C) := ok_vfirst T Y
  have GL : FnOk P w K mg base CX0 2 Y.DL.f Y.DL.fd ["self", "word"] (spVLast C) := ok_vlast T Y
  have GS : FnOk P w K mg base CX0 1 Y.DS.f Y.DS.fd ["self", "word"] (spStands C) := ok_stands T Y
  have GB : FnOk P w K mg base CX0 3 Y.DB.f Y.DB.fd ["self", "place"] (spVBehind C) := ok_vbehind T Y
  have GY : FnOk P w K mg base CX0 3 Y.DY.f Y.DY.fd ["self"] (spCarrying C) := ok_carrying T Y
  have nd := sc_rows_of.nd
  refine D.DR.ok sc_rows_of (fun vs H Q E h => ?_) (fun cdv A outer s H vs Q E hr h => ?_)
  · obtain ⟨pa, wr, vw, v, s, i, d, st, c, wh, rfl, _⟩ := h
    rfl
  obtain ⟨pa, wr, vw, v, sc, i, d, st, c, wh, rfl, R, hst, hs, ho, he7, hk, hwh, q⟩ := h
  have hrL : Room L _ := hr.mono (by omega)
  have hrE : Room (L + 1) _ := hr.mono (by omega)
  have hrA : Room (L + 2) _ := hr.mono (by omega)
  have hr1 : Room 1 _ := hr.mono (by omega)
  have hr2 : Room (1 + 1) _ := hr.mono (by omega)
  have hr3 : Room 3 _ := hr.mono (by omega)
  refine ⟨_, pss_one (ps_match (pv 1)
    (pm_cons rfl nd (.cons (i := 4) rfl (Or.inl rfl) (Or.inr rfl) (.cons (i := 5) rfl (Or.inl rfl) (Or.inr rfl) .nil))
      (pss_one (ps_ret (pcall D.DRa GRa hr1 (pa_cons (pe_meth (pv 3) Y.cl Y.DF.me GF hr2 Y.DF.b .nil pass0 (pa_cons (pv 4) pa_nil)) (pa_cons (pv 5) (pa_cons (pv 2) pa_nil))))))
    (pm_cons rfl nd (.cons (i := 6) rfl (Or.inl rfl) (Or.inr rfl) .nil)
      (pss_one (ps_ret (pcall D.DA GA hrA (pa_cons (pv 0) (pa_cons (pv 6) (pa_cons (pv 2) (pa_cons (pv 3) pa_nil)))))))
    (pm_cons rfl nd (.cons (i := 6) rfl (Or.inl rfl) (Or.inr rfl) .nil)
      (pss_one (ps_ret (pe_callBK (cr_maxKey rfl GPt hr2 D.DPt.b) rfl (T.free "max" (by decide +kernel)) (by decide +kernel) (pa_cons (pcall D.DE GE hrE (pa_cons (pv 0) (pa_cons (pv 6) (pa_cons (pv 2) (pa_cons (pv 3) pa_nil))))) pa_nil) (pk_cons (pe_glob rfl D.DPt.g (v := .ref D.DPt.f) rfl) pk_nil))))
    (pm_cons rfl nd (.cons (i := 7) rfl (Or.inl rfl) (Or.inr rfl) (.cons (i := 8) rfl (Or.inl rfl) (Or.inr rfl) .nil))
      (pss_one (ps_ret (pcall D.DFp GFp hr1 (pa_cons (pcall D.DR G hrL (pa_cons (pv 0) (pa_cons (pv 8) (pa_cons (pe_op (r := rCatA K) op_catA (pv 2) (pe_tup (pa_cons pe_int pa_nil))) (pa_cons (pv 3) pa_nil))))) (pa_cons (pv 7) pa_nil)))))
    (pm_cons rfl nd (.cons (i := 8) rfl (Or.inl rfl) (Or.inr rfl) .nil)
      (pss_cons (ps_set (i := 9) nd rfl (Or.inl rfl) (pcall D.DR G hrL (pa_cons (pv 0) (pa_cons (pv 8) (pa_cons (pe_op (r := rCatA K) op_catA (pv 2) (pe_tup (pa_cons pe_int pa_nil))) (pa_cons (pv 3) pa_nil))))))
        (pss_one (ps_ret (pcall D.DFp GFp hr1 (pa_cons (pv 9) (pa_cons (pe_op op_fdiv (pcall D.DPt GPt hr1 (pa_cons (pv 9) pa_nil)) pe_int) pa_nil))))))
    (pm_cons rfl nd (.cons (i := 4) rfl (Or.inl rfl) (Or.inr rfl) (.cons (i := 8) rfl (Or.inl rfl) (Or.inr rfl) .nil))
      (pss_one (ps_ret (pe_ifExp (pt_val (pe_meth (pv 3) Y.cl Y.DS.me GS hr1 Y.DS.b .nil pass0 (pa_cons (pv 4) pa_nil))) (pcall D.DR G hrL (pa_cons (pv 0) (pa_cons (pv 8) (pa_cons (pe_op (r := rCatA K) op_catA (pv 2) (pe_tup (pa_cons pe_int pa_nil))) (pa_cons (pv 3) pa_nil))))) (pe_lst pa_nil))))
    (pm_cons rfl nd (.cons (i := 4) rfl (Or.inl rfl) (Or.inr rfl) (.cons (i := 8) rfl (Or.inl rfl) (Or.inr rfl) .nil))
      (pss_cons (ps_set (i := 10) nd rfl (Or.inl rfl) (pe_meth (pv 3) Y.cl Y.DF.me GF hr2 Y.DF.b .nil pass0 (pa_cons (pv 4) pa_nil)))
        (pss_one (ps_ret (pe_ifExp (pt_cmpR op_isN (pv 10) pe_non (nomark _)) (pe_lst pa_nil) (pcall D.DR G hrL (pa_cons (pv 0) (pa_cons (pv 8) (pa_cons (pe_op (r := rCatA K) op_catA (pv 2) (pe_tup (pa_cons pe_int pa_nil))) (pa_cons (pe_meth (pv 3) Y.cl Y.DB.me GB hr3 Y.DB.b .nil pass0 (pa_cons (pv 10) pa_nil)) pa_nil)))))))))
    (pm_cons rfl nd (.cons (i := 8) rfl (Or.inl rfl) (Or.inr rfl) .nil)
      (pss_one (ps_ret (pcall D.DR G hrL (pa_cons (pv 0) (pa_cons (pv 8) (pa_cons (pe_op (r := rCatA K) op_catA (pv 2) (pe_tup (pa_cons pe_int pa_nil))) (pa_cons (pe_meth0 (pv 3) Y.cl Y.DY.me GY hr3 Y.DY.b .nil pass0) pa_nil)))))))
    (pm_cons rfl nd (.cons (i := 4) rfl (Or.inl rfl) (Or.inr rfl) (.cons (i := 5) rfl (Or.inl rfl) (Or.inr rfl) (.cons (i := 8) rfl (Or.inl rfl) (Or.inr rfl) .nil)))
      (pss_one (ps_ret (pe_orT (pcall D.DRa GRa hr1 (pa_cons (pe_meth (pv 3) Y.cl Y.DL.me GL hr2 Y.DL.b .nil pass0 (pa_cons (pv 4) pa_nil)) (pa_cons (pv 5) (pa_cons (pv 2) pa_nil)))) (pe_one (pcall D.DR G hrL (pa_cons (pv 0) (pa_cons (pv 8) (pa_cons (pe_op (r := rCatA K) op_catA (pv 2) (pe_tup (pa_cons pe_int pa_nil))) (pa_cons (pv 3) pa_nil)))))))))
    (pm_cons rfl nd (.cons (i := 11) rfl (Or.inl rfl) (Or.inr rfl) .nil)
      (pss_one (ps_ret (pcall D.DR G hrL (pa_cons (pv 0) (pa_cons (pe_ix ix_tup (pv 0) (pv 11) (fun _ _ => rfl)) (pa_cons (pe_op (r := rCatA K) op_catA (pv 2) (pe_tup (pa_cons pe_int pa_nil))) (pa_cons (pv 3) pa_nil)))))))
    pm_nil))))))))))), ?_⟩
  obtain ⟨dxv, wav, wpv, hvw, ewa, ewp⟩ := id R.view
  have lw0 : (wh ++ [0]).length = wh.length + 1 := by rw [List.length_append]; rfl
  cases d with
  | zero => cases hs
  | succ d =>
  have hk' : (M - i) * 5 + d ≤ k := by omega
  have inner : ∀ {H1 : Hp} {wr' vw' : Addr} {u : V} {s' : Sch} {st' : Nat} {c' : Bool} {Q' : VK}, Same H H1 → H1 wr' = some (.tup (natV (wh ++ [0]))) → ViewAt C H1 vw' ws st' c' → st' ≤ ws.length → SAt H1 d s' u → OkS i M d s' → er ce d s' ≤ 7 →
      (∀ (f : Addr) (rv : List V) (H' : Hp), Same H1 H' → H1 f = none → H' f = some (.lst rv) → Paired (RowR H') (rP ps ws k s' st' c' (wh ++ [0])) rv → Q' (.ref f) H') → spRows C ps ws ce M k [.ref pa, u, .ref wr', .ref vw'] H1 Q' E0 := fun s1 ew hv hst' hs' ho' h7' q' =>
    ⟨pa, _, _, _, _, i, d, _, _, wh ++ [0], rfl, ⟨(R.keep s1).paper, hv, ew⟩, hst', hs', ho', h7', hk', by omega, q'⟩
  cases sc with
  | step x p =>
    obtain ⟨a, rfl, ea⟩ := hs
    obtain ⟨pn, rfl⟩ := nat_of (p := p) (by have := ho.2.1; omega)
    refine ⟨_, rfl, case_yes ea (by show 2 ≤ 1000; decide) rfl ?_⟩
    refine ⟨_, rfl, vw, dxv, _, rfl, hvw, vf_first _ _ _, _, rfl, vw, x, ws, st, c, rfl, R.view, hw, by omega, by omega, ?_⟩
    refine ⟨_, rfl, _, rfl, (hits ws c x st).head?, pn, wr, wh, rfl, R.wher, fun f rv H' s1 hf ef pr => q f rv H' s1 hf ef ?_⟩
    show Paired (RowR H') (match hits ws c x st with
      | [] => []
      | i :: _ => [(i, ((pn : Nat) : Int).toNat, wh)]) rv
    cases e : hits ws c x st with
    | nil => rw [e] at pr; exact pr
    | cons i r => rw [e] at pr; exact pr
  | all ks =>
    obtain ⟨a, b, kv, rfl, ea, eb, pr⟩ := hs
    have hsum : ∀ s ∈ ks, er ce d s ≤ 7 := fun s hs' => by
      have z : (ks.map (er ce d)).sum ≤ 7 := he7
      have := le_sum (l := ks.map (er ce d)) (fun x hx => by
        obtain ⟨s2, hs2, rfl⟩ := List.mem_map.mp hx
        exact er_nonneg (c := ce) (fun j _ hj => h0 j hj) d s2 (ho.2.2 s2 hs2)) _ (List.mem_map_of_mem hs')
      omega
    refine ⟨_, rfl, case_no ea (by show 1 ≤ 1000; decide) (by decide +kernel) (case_yes ea (by show 1 ≤ 1000; decide) rfl ?_)⟩
    refine ⟨_, rfl, _, rfl, _, rfl, _, rfl, pa, wr, vw, b, ks, kv, i, d, st, c, wh, rfl, R, hst, ⟨eb, pr, fun s hs' => ⟨ho.2.2 s hs', hsum s hs'⟩, ho.2.1, hk'⟩, by omega, fun f rv H' s1 hf ef pr' => q f rv H' s1 hf ef pr'⟩
  | best ks =>
    obtain ⟨a, b, kv, rfl, ea, eb, pr⟩ := hs
    have hsum : ∀ s ∈ ks, er ce d s ≤ 7 := fun s hs' => by
      have z : (ks.map (er ce d)).sum ≤ 7 := he7
      have := le_sum (l := ks.map (er ce d)) (fun x hx => by
        obtain ⟨s2, hs2, rfl⟩ := List.mem_map.mp hx
        exact er_nonneg (c := ce) (fun j _ hj => h0 j hj) d s2 (ho.2.2 s2 hs2)) _ (List.mem_map_of_mem hs')
      omega
    refine ⟨_, rfl, case_no ea (by show 1 ≤ 1000; decide) (by decide +kernel) (case_no ea (by show 1 ≤ 1000; decide) (by decide +kernel) (case_yes ea (by show 1 ≤ 1000; decide) rfl ?_))⟩
    refine ⟨_, rfl, _, rfl, _, rfl, _, rfl, pa, wr, vw, b, ks, kv, i, d, st, c, wh, rfl, R, hst, ⟨eb, pr, fun s hs' => ⟨ho.2.2 s hs', hsum s hs'⟩, ho.2.1, hk'⟩, by omega, fun r fv Hr sr hr0 er' EA => ?_⟩
    have hpos : ∀ s ∈ ks, ∀ j, ∀ r ∈ (fun s j => rP ps ws k s st c (wh ++ [j])) s j, 0 < r.2.1 := fun s hs' j r hr => ((rP_good (ws := ws) (fun j s e => (hp j s e).1) k i d s st c (wh ++ [j]) (ho.2.2 s hs')).1 r hr).1
    have hlen : ∀ s ∈ ks, ∀ j, ((fun s j => rP ps ws k s st c (wh ++ [j])) s j).length ≤ 63 := fun s hs' j => rP_len hp h0 (ho.2.2 s hs') (hsum s hs')
    have q : ∀ (f : Addr) (rv : List V) (H' : Hp), Same H H' → H f = none → H' f = some (.lst rv) → Paired (RowR H') (bestR (fun s j => rP ps ws k s st c (wh ++ [j])) ks 0 []) rv → Q (.ref f) H' := q
    generalize (fun s j => rP ps ws k s st c (wh ++ [j])) = F at q EA hpos hlen
    obtain ⟨hfl, hEA⟩ := EA
    have hk0 : 0 < ks.length := ho.1
    refine ⟨r, fv, fun i => ((pts (FF F ks i) : Nat) : Int), rfl, rfl, er', fun x hx => ?_, by omega, fun H' i' x sm ex => ?_, fun x H' sm ex => ?_⟩
    · obtain ⟨j, hj⟩ := List.getElem?_of_mem hx
      have hjl : j < ks.length := by rw [← hfl]; exact (List.getElem?_eq_some_iff.mp hj).1
      obtain ⟨g, rv, e1, _⟩ := hEA j _ (List.getElem?_eq_getElem hjl)
      rw [hj] at e1
      exact ⟨g, Option.some.inj e1⟩
    · have hjl : i' < ks.length := by rw [← hfl]; exact (List.getElem?_eq_some_iff.mp ex).1
      have es := List.getElem?_eq_getElem hjl
      obtain ⟨g, rv, e1, e2, e3, e4⟩ := hEA i' _ es
      rw [ex] at e1
      cases e1
      have l63 := hlen _ (List.getElem_mem hjl) i'
      refine ⟨g, F (ks[i']'hjl) i', rv, rfl, sm _ _ e3, paired_imp e4 fun _ _ h => RowR.keep h (Same.tupK sm), by omega, fun H'' s2 => ⟨?_, s2⟩⟩
      have eFF : FF F ks i' = F (ks[i']'hjl) i' := by unfold FF; rw [es]
      show V.int ((pts (F (ks[i']'hjl) i') : Nat) : Int) = V.int ((pts (FF F ks i') : Nat) : Int)
      rw [eFF]
    · rw [hfl] at ex
      have ha := arg_le (gtB fun i => ((pts (FF F ks i) : Nat) : Int)) (ks.length - 1)
      have hb := best_arg (f := F) hpos (ks.length - 1) (by omega)
      rw [show ks.length - 1 + 1 = ks.length by omega, List.take_length] at hb
      generalize argBest (gtB fun i => ((pts (FF F ks i) : Nat) : Int)) (ks.length - 1) = j at ex ha hb
      have hjl : j < ks.length := by omega
      have es := List.getElem?_eq_getElem hjl
      obtain ⟨g, rv, e1, e2, e3, e4⟩ := hEA j _ es
      rw [ex] at e1
      cases e1
      refine q g rv H' (sr.trans sm) e2 (sm _ _ e3) ?_
      rw [hb]
      unfold FF
      rw [es]
      exact paired_imp e4 fun _ _ h => RowR.keep h (Same.tupK sm)
  | most n s' =>
    obtain ⟨a, u, rfl, ea, hs'⟩ := hs
    obtain ⟨nn, rfl⟩ := nat_of (p := n) ho.1.1
    refine ⟨_, rfl, case_no ea (by show 2 ≤ 1000; decide) (by decide +kernel) (case_no ea (by show 2 ≤ 1000; decide) (by decide +kernel) (case_no ea (by show 2 ≤ 1000; decide) (by decide +kernel) (case_yes ea (by show 2 ≤ 1000; decide) rfl ?_)))⟩
    refine ⟨_, rfl, _, rfl, ?_⟩
    refine cat_at (i := 2) (j := 0) rfl R.wher (by omega) (fun Q q => q) (fun wr' H1 s1 ew => ?_)
    refine ⟨_, rfl, ?_⟩
    dsimp only [tNil]
    refine inner s1 ew (R.view.keep s1) hst (SAt.keep (Same.tupK s1) _ _ _ hs') ho.2 he7 fun f rv H2 s2 hf ef pr => ?_
    have l63 := rP_len (ws := ws) hp h0 (k := k) (st := st) (c := c) (wh := wh ++ [0]) ho.2 he7
    refine ⟨_, rfl, f, nn, _, rv, rfl, ef, pr, by omega, fun f3 rv3 H3 s3 hf3 ef3 pr3 => q f3 rv3 H3 ((s1.trans s2).trans s3) ((s1.trans s2).free hf3) ef3 ?_⟩
    show Paired (RowR H3) (firstP (rP ps ws k s' st c (wh ++ [0])) ((nn : Nat) : Int).toNat) rv3
    rw [Int.toNat_natCast]
    exact pr3
  | half s' =>
    obtain ⟨a, u, rfl, ea, hs'⟩ := hs
    refine ⟨_, rfl, case_no ea (by show 1 ≤ 1000; decide) (by decide +kernel) (case_no ea (by show 1 ≤ 1000; decide) (by decide +kernel) (case_no ea (by show 1 ≤ 1000; decide) (by decide +kernel) (case_no ea (by show 1 ≤ 1000; decide) (by decide +kernel) (case_yes ea (by show 1 ≤ 1000; decide) rfl ?_))))⟩
    refine ⟨_, rfl, _, rfl, ?_⟩
    refine cat_at (i := 2) (j := 0) rfl R.wher (by omega) (fun Q q => q) (fun wr' H1 s1 ew => ?_)
    refine ⟨_, rfl, ?_⟩
    dsimp only [tNil]
    refine inner s1 ew (R.view.keep s1) hst (SAt.keep (Same.tupK s1) _ _ _ hs') ho he7 fun f rv H2 s2 hf ef pr => ?_
    have l63 := rP_len (ws := ws) hp h0 (k := k) (i := i) (d := d) (s := s') (st := st) (c := c) (wh := wh ++ [0]) ho he7
    dsimp only [gName]
    refine ⟨_, rfl, _, rfl, f, _, rv, rfl, ef, pr, by omega, fun H3 s3 => ?_⟩
    refine ⟨_, _, rfl, rfl, ⟨by decide, by decide⟩, ?_⟩
    refine ⟨f, pts (rP ps ws k s' st c (wh ++ [0])) / 2, _, rv, congrArg (fun z => [V.ref f, V.int z]) (show ((pts (rP ps ws k s' st c (wh ++ [0])) : Nat) : Int) / 2 = ((pts (rP ps ws k s' st c (wh ++ [0])) / 2 : Nat) : Int) by omega), s3 _ _ ef, paired_imp pr fun _ _ h => RowR.keep h (Same.tupK s3), by omega, fun f4 rv4 H4 s4 hf4 ef4 pr4 => ?_⟩
    have sm := ((s1.trans s2).trans s3)
    exact q f4 rv4 H4 (sm.trans s4) (sm.free hf4) ef4 pr4
  | seen x s' =>
    obtain ⟨a, u, rfl, ea, hs'⟩ := hs
    refine ⟨_, rfl, case_no ea (by show 2 ≤ 1000; decide) (by decide +kernel) (case_no ea (by show 2 ≤ 1000; decide) (by decide +kernel) (case_no ea (by show 2 ≤ 1000; decide) (by decide +kernel) (case_no ea (by show 2 ≤ 1000; decide) (by decide +kernel) (case_no ea (by show 2 ≤ 1000; decide) (by decide +kernel) (case_yes ea (by show 2 ≤ 1000; decide) rfl ?_)))))⟩
    refine ⟨_, rfl, vw, dxv, _, rfl, hvw, vf_stands _ _ _, _, rfl, vw, x, ws, st, c, rfl, R.view, hw, by omega, fun H0 s0 => ⟨_, rfl, ?_⟩⟩
    have q : ∀ (f : Addr) (rv : List V) (H' : Hp), Same H H' → H f = none → H' f = some (.lst rv) → Paired (RowR H') (if (ws.any fun p => p.1 == x) = true then rP ps ws k s' st c (wh ++ [0]) else []) rv → Q (.ref f) H' := q
    have R0 := R.keep s0
    cases e : ws.any fun p => p.1 == x with
    | true =>
      rw [if_pos e] at q
      refine iteT ⟨_, rfl, _, rfl, ?_⟩
      refine cat_at (i := 2) (j := 0) rfl R0.wher (by omega) (fun Q q => q) (fun wr' H1 s1 ew => ?_)
      have s01 := s0.trans s1
      exact ⟨_, rfl, inner s01 ew (R.view.keep s01) hst (SAt.keep (Same.tupK s01) _ _ _ hs') ho.2 he7 fun f rv H2 s2 hf ef pr => q f rv H2 (s01.trans s2) (s01.free hf) ef pr⟩
    | false =>
      rw [if_neg (by rw [e]; decide)] at q
      exact iteF ⟨Nat.zero_le _, fun f hf => q f [] _ (s0.trans (Same.new hf)) (s0.free hf) upd_same .nil⟩
  | behind x s' =>
    obtain ⟨a, u, rfl, ea, hs'⟩ := hs
    refine ⟨_, rfl, case_no ea (by show 2 ≤ 1000; decide) (by decide +kernel) (case_no ea (by show 2 ≤ 1000; decide) (by decide +kernel) (case_no ea (by show 2 ≤ 1000; decide) (by decide +kernel) (case_no ea (by show 2 ≤ 1000; decide) (by decide +kernel) (case_no ea (by show 2 ≤ 1000; decide) (by decide +kernel) (case_no ea (by show 2 ≤ 1000; decide) (by decide +kernel) (case_yes ea (by show 2 ≤ 1000; decide) rfl ?_))))))⟩
    refine ⟨_, rfl, vw, dxv, _, rfl, hvw, vf_first _ _ _, _, rfl, vw, x, ws, st, c, rfl, R.view, hw, by omega, by omega, ?_⟩
    dsimp only [gName]
    have q : ∀ (f : Addr) (rv : List V) (H' : Hp), Same H H' → H f = none → H' f = some (.lst rv) → Paired (RowR H') (match hits ws c x st with
      | [] => []
      | i :: _ => rP ps ws k s' (i + 1) c (wh ++ [0])) rv → Q (.ref f) H' := q
    cases e : hits ws c x st with
    | nil =>
      rw [e] at q
      refine ⟨_, rfl, rfl, _, rfl, ?_⟩
      exact iteT ⟨Nat.zero_le _, fun f hf => q f [] _ (Same.new hf) hf upd_same .nil⟩
    | cons i0 r =>
      rw [e] at q
      have hin := hits_in e
      refine ⟨_, rfl, rfl, _, rfl, ?_⟩
      refine iteF ⟨_, rfl, _, rfl, ?_⟩
      refine cat_at (i := 2) (j := 0) rfl R.wher (by omega) (fun Q q => q) (fun wr' H1 s1 ew => ?_)
      refine ⟨_, rfl, vw, dxv, _, rfl, s1 _ _ hvw, vf_behind _ _ _, _, rfl, vw, i0, ws, st, c, rfl, R.view.keep s1, fun vw2 H2 s2 hv2 => ?_⟩
      have s12 := s1.trans s2
      exact inner s12 (s2 _ _ ew) hv2 (by omega) (SAt.keep (Same.tupK s12) _ _ _ hs') ho.2 he7 fun f rv H3 s3 hf ef pr => q f rv H3 (s12.trans s3) (s12.free hf) ef pr
  | carry s' =>
    obtain ⟨a, u, rfl, ea, hs'⟩ := hs
    refine ⟨_, rfl, case_no ea (by show 1 ≤ 1000; decide) (by decide +kernel) (case_no ea (by show 1 ≤ 1000; decide) (by decide +kernel) (case_no ea (by show 1 ≤ 1000; decide) (by decide +kernel) (case_no ea (by show 1 ≤ 1000; decide) (by decide +kernel) (case_no ea (by show 1 ≤ 1000; decide) (by decide +kernel) (case_no ea (by show 1 ≤ 1000; decide) (by decide +kernel) (case_no ea (by show 1 ≤ 1000; decide) (by decide +kernel) (case_yes ea (by show 1 ≤ 1000; decide) rfl ?_)))))))⟩
    refine ⟨_, rfl, _, rfl, ?_⟩
    refine cat_at (i := 2) (j := 0) rfl R.wher (by omega) (fun Q q => q) (fun wr' H1 s1 ew => ?_)
    refine ⟨_, rfl, vw, dxv, _, rfl, s1 _ _ hvw, vf_carrying _ _ _, vw, ws, st, c, rfl, R.view.keep s1, fun vw2 H2 s2 hv2 => ?_⟩
    have s12 := s1.trans s2
    exact inner s12 (s2 _ _ ew) hv2 hst (SAt.keep (Same.tupK s12) _ _ _ hs') ho he7 fun f rv H3 s3 hf ef pr => q f rv H3 (s12.trans s3) (s12.free hf) ef pr
  | fin x p s' =>
    obtain ⟨a, u, rfl, ea, hs'⟩ := hs
    obtain ⟨pn, rfl⟩ := nat_of (p := p) (by have := ho.1.2.1; omega)
    have he7' : er ce d s' ≤ 7 := by
      have z : 1 + er ce d s' ≤ 7 := he7
      omega
    refine ⟨_, rfl, case_no ea (by show 3 ≤ 1000; decide) (by decide +kernel) (case_no ea (by show 3 ≤ 1000; decide) (by decide +kernel) (case_no ea (by show 3 ≤ 1000; decide) (by decide +kernel) (case_no ea (by show 3 ≤ 1000; decide) (by decide +kernel) (case_no ea (by show 3 ≤ 1000; decide) (by decide +kernel) (case_no ea (by show 3 ≤ 1000; decide) (by decide +kernel) (case_no ea (by show 3 ≤ 1000; decide) (by decide +kernel) (case_no ea (by show 3 ≤ 1000; decide) (by decide +kernel) (case_yes ea (by show 3 ≤ 1000; decide) rfl ?_))))))))⟩
    refine ⟨_, rfl, vw, dxv, _, rfl, hvw, vf_last _ _ _, _, rfl, vw, x, ws, st, c, rfl, R.view, hw, by omega, ?_⟩
    have q : ∀ (f : Addr) (rv : List V) (H' : Hp), Same H H' → H f = none → H' f = some (.lst rv) → Paired (RowR H') (if lastOk ws c x st = true then [(ws.length - 1, ((pn : Nat) : Int).toNat, wh)] else rP ps ws k s' st c (wh ++ [0])) rv → Q (.ref f) H' := q
    refine ⟨_, rfl, _, rfl, if lastOk ws c x st = true then some (ws.length - 1) else none, pn, wr, wh, rfl, R.wher, fun f rv H1 s1 hf ef pr => ?_⟩
    cases e : lastOk ws c x st with
    | true =>
      rw [if_pos e] at q
      rw [e] at pr
      rw [Int.toNat_natCast] at q
      have pr : Paired (RowR H1) [(ws.length - 1, pn, wh)] rv := pr
      refine ⟨true, .inl ⟨rv, SqL.of ef, ?_⟩, iteT (q f rv H1 s1 hf ef pr)⟩
      cases pr
      rfl
    | false =>
      rw [if_neg (by rw [e]; decide)] at q
      rw [e] at pr
      have pr : Paired (RowR H1) [] rv := pr
      refine ⟨false, .inl ⟨rv, SqL.of ef, by cases pr; rfl⟩, iteF ⟨_, rfl, _, rfl, ?_⟩⟩
      have R1 := R.keep s1
      refine cat_at (i := 2) (j := 0) rfl R1.wher (by omega) (fun Q q => q) (fun wr' H2 s2 ew => ?_)
      have s12 := s1.trans s2
      exact ⟨_, rfl, inner s12 ew (R.view.keep s12) hst (SAt.keep (Same.tupK s12) _ _ _ hs') ho.2 he7' fun f rv H3 s3 hf ef pr => q f rv H3 (s12.trans s3) (s12.free hf) ef pr⟩
  | use n =>
    obtain ⟨a, rfl, ea⟩ := hs
    obtain ⟨pv0, epv, pp⟩ := R.paper
    have nl : n < ps.length := by rw [hM]; exact ho.2
    obtain ⟨v', ev', hs'⟩ := paired_get2 pp (List.getElem?_eq_getElem nl)
    obtain ⟨ho', ec⟩ := hp n _ (List.getElem?_eq_getElem nl)
    have hin : i < n := ho.1
    have hnM : n < M := ho.2
    refine ⟨_, rfl, case_no ea (by show 1 ≤ 1000; decide) (by decide +kernel) (case_no ea (by show 1 ≤ 1000; decide) (by decide +kernel) (case_no ea (by show 1 ≤ 1000; decide) (by decide +kernel) (case_no ea (by show 1 ≤ 1000; decide) (by decide +kernel) (case_no ea (by show 1 ≤ 1000; decide) (by decide +kernel) (case_no ea (by show 1 ≤ 1000; decide) (by decide +kernel) (case_no ea (by show 1 ≤ 1000; decide) (by decide +kernel) (case_no ea (by show 1 ≤ 1000; decide) (by decide +kernel) (case_no ea (by show 1 ≤ 1000; decide) (by decide +kernel) (case_yes ea (by show 1 ≤ 1000; decide) rfl ?_)))))))))⟩
    refine ⟨_, rfl, _, rfl, _, rfl, pa, pv0, _, _, rfl, rfl, SqT.of epv, atI_nat ev', ?_⟩
    refine cat_at (i := 2) (j := 0) rfl R.wher (by omega) (fun Q q => q) (fun wr' H1 s1 ew => ?_)
    have R1 := R.keep s1
    have q : ∀ (f : Addr) (rv : List V) (H' : Hp), Same H H' → H f = none → H' f = some (.lst rv) → Paired (RowR H') (match ps[n]? with
      | none => []
      | some s => rP ps ws k s st c (wh ++ [0])) rv → Q (.ref f) H' := q
    rw [List.getElem?_eq_getElem nl] at q
    exact ⟨_, rfl, pa, wr', vw, v', _, n, 5, st, c, wh ++ [0], rfl, ⟨R1.paper, R1.view, ew⟩, hst, SAt.keep (Same.tupK s1) _ _ _ hs', ho', by rw [← ec]; exact h7 n hnM, by omega, by omega, fun f rv H2 s2 hf ef pr => q f rv H2 (s1.trans s2) (s1.free hf) ef pr⟩
theorem ok_rows_of (hM : ps.length = M) (hw : ∀ p ∈ ws, IsStep p) (hws : ws.length ≤ 12) (hp : ∀ (j : Nat) (s : Sch), ps[j]? = some s → OkS j M 5 s ∧ ce j = er ce 5 s) (h0 : ∀ j, j < M → 0 ≤ ce j) (h7 : ∀ j, j < M → ce j ≤ 7) (T : PTx w K mg) (Y : VCls K mg C) (D : DRows K mg) : ∀ k : Nat, FnOk P w K mg base CX0 (3 * k + 3) D.DR.f D.DR.fd psRows (spRows C ps ws ce M k)
  | 0 => by
    have e : spRows C ps ws ce M 0 = fun _ _ _ _ => False := by
      funext vs H Q E
      refine propext ⟨fun h => ?_, fun h => h.elim⟩
      obtain ⟨pa, wr, vw, v, s, i, d, st, c, wh, _, _, _, _, ho, _, hk, _⟩ := h
      have : d = 0 := by omega
      subst this
      cases ho
    rw [e]
    exact no_sp
  | k + 1 => rows_turn hM hw hws hp h0 h7 T Y D (by omega) (ok_rows_of hM hw hws hp h0 h7 T Y D k)
end
end MS
end
section
set_option maxRecDepth 100000
set_option maxHeartbeats 4000000
namespace MS
open PySem L2
/-! ### what a work earns -/
abbrev PW : Type := { x : List Sch × List StepT // PaperOk x.1 ∧ WorkOk x.2 }
def spRowsBy1 (x : PW) : Sp := fun vs H Q _ => ∃ pa wa, vs = [.ref pa, .ref wa] ∧ PWAt H x.1.1 x.1.2 pa wa ∧ ∀ (f : Addr) (rv : List V) (H' : Hp), Same H H' → H f = none → H' f = some (.lst rv) → Paired (RowR H') (rAll x.1.1 x.1.2) rv → Q (.ref f) H'
def spMarked1 (x : PW) : Sp := fun vs H Q _ => ∃ pa wa, vs = [.ref pa, .ref wa] ∧ PWAt H x.1.1 x.1.2 pa wa ∧ ∀ H', Same H H' → Q (.int ((pts (rAll x.1.1 x.1.2) : Nat) : Int)) H'
section
variable {P : Program} {w : World} {K : PySem.W.Frag} {mg : Str → Option Value} {base : Heap} {C : Addr}
theorem rAll_len (x : PW) : (rAll x.1.1 x.1.2).length ≤ 63 := by
  obtain ⟨⟨ps, ws⟩, hP, hW⟩ := x
  obtain ⟨ce, hp, h0, h7⟩ := hP.facts
  cases ps with
  | nil => exact Nat.zero_le _
  | cons s r =>
    obtain ⟨o, e⟩ := hp 0 s rfl
    exact rP_len hp h0 (k := 30) (st := 0) (c := false) (wh := []) o (by rw [← e]; exact h7 0 hP.1)
theorem ok_rows_by (x : PW) (T : PTx w K mg) (Y : VCls K mg C) (D : DRows K mg) : FnOk P w K mg base CX0 94 D.DB.f D.DB.fd ["paper", "work"] (spRowsBy1 x) := by
  obtain ⟨⟨ps, ws⟩, hP, hW⟩ := x
  have hP : PaperOk ps := hP
  have hW : WorkOk ws := hW
  obtain ⟨ce, hp, h0, h7⟩ := hP.facts
  have GI : FnOk P w K mg base CX0 1 Y.DI.f Y.DI.fd ["self", "steps", "start", "ways"] (spVInit C) := ok_vinit Y
  have G : FnOk P w K mg base CX0 93 D.DR.f D.DR.fd psRows (spRows C ps ws ce ps.length 30) := ok_rows_of rfl hW.1.all hW.2 hp h0 h7 T Y D 30
  obtain ⟨tr, gr⟩ := T.right
  refine D.DB.ok sc_rows_by (fun vs H Q E h => ?_) (fun cdv A outer s H vs Q E hr h => ?_)
  · obtain ⟨pa, wa, rfl, _⟩ := h
    rfl
  obtain ⟨pa, wa, rfl, R, q⟩ := h
  have R : PWAt H ps ws pa wa := R
  have hr2 : Room (1 + 1) _ := hr.mono (by decide)
  refine ⟨_, pss_one (ps_ret (pcall D.DR G hr (pa_cons (pv 0) (pa_cons (pe_ix ix_tup (pv 0) pe_int (fun _ _ => rfl)) (pa_cons (pe_tup pa_nil) (pa_cons (pe_make Y.mk' GI hr2 rfl Y.mgC Y.DI.b .nil pass0 (pa_cons (pv 1) (pa_cons pe_int (pa_cons (pe_tup (pa_cons (pe_glob rfl gr (v := .str "r") ⟨_, rfl⟩) pa_nil)) pa_nil)))) pa_nil)))))), ?_⟩
  obtain ⟨pv0, epv, pp⟩ := R.paper
  have hPl := hP.1
  have hP5 := hP.2.1
  cases ps with
  | nil => exact absurd hPl (by decide)
  | cons s0 pr =>
  obtain ⟨v0, ev0, hs0⟩ := paired_get2 pp (k := 0) rfl
  obtain ⟨o0, e0⟩ := hp 0 s0 rfl
  refine ⟨_, rfl, _, rfl, pa, pv0, 0, v0, rfl, rfl, SqT.of epv, atI_nat (j := 0) ev0, Nat.zero_le _, fun t ht => ?_⟩
  have s1 : Same H (upd H t (.tup [])) := Same.new ht
  refine ⟨_, rfl, (by show 1 ≤ sizeLine; decide), fun t2 ht2 => ?_⟩
  have s2 := s1.trans (Same.new (o := .tup [.str "r"]) ht2)
  have et : upd (upd H t (.tup [])) t2 (.tup [.str "r"]) t = some (.tup []) := Same.new ht2 _ _ upd_same
  intro x dx hx hdx ne
  refine view_made (C := C) (ws := ws) (st := 0) (c := false) (Q := fun v H2 => spRows C (s0 :: pr) ws ce (s0 :: pr).length 30 [.ref pa, v0, .ref t, v] H2 Q E0) (s2 _ _ R.work) upd_same hx hdx ne rfl fun u H' sm hu => ?_
  have s3 := s2.trans sm
  have R3 := R.keep s3
  refine ⟨pa, t, u, v0, s0, 0, 5, 0, false, [], rfl, ⟨R3.paper, hu, sm _ _ et⟩, Nat.zero_le _, SAt.keep (Same.tupK s3) _ _ _ hs0, o0, by rw [← e0]; exact h7 0 hPl, by omega, by decide, fun f rv H4 s4 hf ef pr4 => ?_⟩
  exact q f rv H4 (s3.trans s4) (s3.free hf) ef pr4
end
end MS
end
section
set_option maxRecDepth 100000
set_option maxHeartbeats 4000000
/-! super().__init__(e) in an own exception's __init__, the class somewhere below ValueError -/
namespace XSU
open PySem PySem.Spec PyProof.Rows L2 NdefX
/-- what the written part says of such a class and of its __init__ -/
structure SupC (P : Program) (K : PySem.W.Frag) (C f cc cd : Addr) (name qual : Str) (params : Arguments) (body : List Stmt) (scope : Scope) : Prop where
  T : OexC K C
  along : ∃ nm q N bs bm sn sub ab col dd k0 k1 k2 k3 k5, K.lookup C = some (excClassObj nm q C N bs bm true sn sub ab col dd k0 k1 k2 k3 k5 "ValueError.__new__") ∧ PySem.HandSPX.refsVE bm = true ∧ PySem.W.alongIn K "__init__" bm = some (some (.builtin "ValueError.__init__"))
  self : PySem.W.mroIn K C (.ref C) = some true
  isVE : PySem.W.subIn K (.ref C) (.type "ValueError") = some true
  opq : PySem.W.nsIn K cStatics "thirdparty.any" = some none
  fn : ∃ oc od osl dV kV doc pm an ct, K.lookup f = some ⟨oc, od, .func (PySem.W.ksFn name qual params body scope dV kV doc pm an (.ref cd) ct cc), osl⟩
  code : PySem.W.codeIn K (.ref cd) qual = true
  file : ∃ e dd vs sl fl tf, K.lookup cd = some ⟨e, dd, .fields vs, sl⟩ ∧ vs[2]? = some (.str fl tf) ∧ ((P.main.file : Str) == fl) = true
  cell : ∃ e dd sl, K.lookup cc = some ⟨e, dd, .cell (some (.ref C)), sl⟩
section
variable {P : Program} {w : World} {K : PySem.W.Frag} {mg : Str → Option Value} {base : Heap} {N ps : List Str} {C f cc cd : Addr} {name qual : Str} {params : Arguments} {body : List Stmt} {scope : Scope}
abbrev nf (name qual : Str) (params : Arguments) (body : List Stmt) (scope : Scope) (cc cd : Addr) : NF := ⟨name, qual, params, body, scope, [("__class__", cc)], cd⟩
theorem call_mw {prog : Program} {w : World} {A : Around} {E : Value → Shared → Prop} {h : Heap} {g : Array GenState} {d : Drawn} {t : Nat} {os : OsState} {nm q : Str} {C N : Addr} {bs bm : List Value} {hdct : Bool} {sn : List Str} {sub : List Value} {ab : Bool} {col : Option Bool} {dd : Option Addr} {k0 k1 k2 k3 k5 : Option Value}
    {u e t0 : Addr} {rest : List Value} {Q : Value → Shared → Prop}
    (hC : h.get? C = some (excClassObj nm q C N bs bm hdct sn sub ab col dd k0 k1 k2 k3 k5 "ValueError.__new__")) (he : h.get? e = some (HandSPX.excO C t0)) (hu : h.get? u = some (PySem.W.kxs_mw "ValueError.__init__" e)) (hrest : rest.length ≤ sizeLine)
    (hq : ∀ h' t1, (∀ b o, b ≠ e → h.get? b = some o → h'.get? b = some o) → h'.get? e = some (HandSPX.excO C t1) → Q .none ⟨h', g, d, t, os⟩) :
    wpAny (model prog w) A (call (.ref u) rest) Q E ⟨h, g, d, t, os⟩ := by
  refine wpAny_call (codeAny_of_tree ?_)
  show wpAny _ A.in1 (callAny (.ref u) ⟨rest, []⟩) _ _ _
  simp only [callAny]
  refine wpAny_bind (wpAny_load hu ?_)
  simp only [PySem.W.kxs_mw, show (Value.type "method-wrapper" == Value.type "method" || Value.type "method-wrapper" == Value.type "builtin_function_or_method" || Value.type "method-wrapper" == Value.type "method-wrapper") = true by decide, if_true]
  refine W.KFB.if_so (by decide) ?_
  refine wpAny_bind (ESX.check_bound F.excBase_ValueError hC he rfl ?_)
  refine wpAny_bind (wpAny_pure (wpAny_pure ?_))
  refine ⟨Code.quiet_builtin _ (by decide +kernel), codeAny_builtin F.excBase_ValueError.initEntry ?_⟩
  rw [Around.under_plainId F.excBase_ValueError.init.plain _]
  wp_walk
  refine hq _ h.objs.size (fun b o hb ho => ?_) ?_
  · rw [Heap.get?_update_other _ _ (Ne.symm hb)]
    exact Heap.get?_push_of_some _ ho
  · rw [Heap.get?_update_self _ (Heap.get?_push_of_some _ he) rfl]
    rfl
/-- THE RULE -/
theorem fn_super {CX : CXT} {k : Nat} {fd : FuncData} {sp : Sp} {e : Expr} {rest : List Stmt} {p0 p1 p2 p3 p4 : Pos} {ar : Arg} {pl : Sem Bool} (Y : SupC P K C f cc cd name qual params body scope) (hbd : body = .Expr (.Call (.Attribute (.Call (.Name "super" p0) [] [] p1) "__init__" p2) [e] [] p3) p4 :: rest)
    (hfd : ∃ oc od osl, K.lookup f = some ⟨oc, od, .func fd, osl⟩) (S : NScope N ps ["__class__"] scope) (hp : (params.posonlyargs ++ params.args).head? = some ar) (hps : ps.head? = some ar.arg) (msu : mg "super" = none) (gsu : scope.names.lookup ("super" : Str) = some .globalImplicit)
    (htop : (P.main.scope.names.lookup ("super" : Str)).isSome = false) (len : ∀ vs H Q E, sp vs H Q E → vs.length = ps.length)
    (he : ∀ env, eval (.Call (.Attribute (.Call (.Name "super" p0) [] [] p1) "__init__" p2) [e] [] p3) env = (do
      let ov ← attributeBase (.Call (.Name "super" p0) [] [] p1) "__init__" env (eval (.Call (.Name "super" p0) [] [] p1) env)
      standAt p2.atName
      let (f, first) ← holding [ov] (getMethod ov "__init__" pl)
      callWith p3 f first (backTo p3 (starEach [e] env)) []))
    (hst : ∀ env, starEach [e] env = [(false, eval e env)])
    (hbody : ∀ (A : Around) (outer : List Env) (s : Shared) (H : Hp) (vs : List V) (Q : VK) (E : XK), Room k (A.deeper (envF (nf name qual params body scope cc cd) f s.heap.objs.size)) → sp vs H Q E →
      ∃ (a : Addr) (vr : List V) (te : TE) (t : TS), vs = .ref a :: vr ∧ PE (ncx CX P w K mg base N (nf name qual params body scope cc cd) f A outer s H E) e te ∧ PSs (ncx CX P w K mg base N (nf name qual params body scope cc cd) f A outer s H E) rest t ∧ H a = some (exo a C none) ∧
        te (startF N vs [some (.ref C)]) H fun _ H' => H' a = some (exo a C none) ∧ t { nx := fun _ H'' => Q .non H'', rt := Q } (startF N vs [some (.ref C)]) H') :
    FnOk P w K mg base CX (k + 1) f fd ps sp := by
  obtain ⟨oc, od, osl, dV, kV, doc, pm, an, ct, lk⟩ := Y.fn
  obtain ⟨oc2, od2, osl2, lk2⟩ := hfd
  rw [lk] at lk2
  cases lk2
  obtain ⟨nm, q, N', bs, bm, sn, sub, ab, col, dd, k0, k1, k2, k3, k5, hC, hbm, hal⟩ := Y.along
  have hcl : PySem.W.clsIn K C = some { name := nm, bases := bs, mro := .ref C :: bm, ns := N', qualname := q, hasDict := true, slotNames := sn, subclasses := sub, abstract := ab, collection := col, hasDel := false } := by unfold PySem.W.clsIn; rw [hC] <;> rfl
  obtain ⟨ec, ddc, vsc, slc, fl, tf, lcd, hv2, hfl⟩ := Y.file
  obtain ⟨ecc, ddcc, slcc, lcc⟩ := Y.cell
  refine ⟨len, fun A outer s H args us vs Q E hr e0 hb r hsp => ?_⟩
  have hl := len _ _ _ _ hsp
  have KX : K.In s.heap := e0.mod.kin.keeps fun b o e => (e0.bs b o e).1
  have lim : s.heap.NoLimit := e0.mod.nolimit.keeps fun b o e => (e0.bs b o e).1
  refine codeAny_call_function hr.depth (KX _ _ lk) rfl S.co S.gen rfl (PySem.W.codeRec_of KX Y.code) (hb _ _ _ _ ?_)
  refine wpAny_newFunctionEnv S.nocell (fun ⟨n, _⟩ hy => S.par n (List.of_mem_zip hy).1) (fun h₁ hns hsb => ⟨lim.fresh _ hsb, ?_⟩) S.kind
  show codeAny _ _ (.func body (envF (nf name qual params body scope cc cd) f s.heap.objs.size)) _ _
  refine ks_codeAny_funcAt ?_
  have kp : ∀ b o, s.heap.get? b = some o → h₁.get? b = some o := fun b o e => hsb.extBut b o (Nat.ne_of_lt (Heap.lt_size e)) (Heap.get?_push_of_some _ e)
  have CA : CellsAt [("__class__", cc)] ["__class__"] [some (.ref C)] s.heap H := by
    have isc : s.heap.IsCell cc (some (.ref C)) := ⟨_, KX _ _ lcc, rfl⟩
    have one : ∀ {y : Str} {c : Addr}, ([(("__class__" : Str), cc)] : List (Str × Addr)).lookup y = some c → y = "__class__" ∧ c = cc := fun {y c} h => by
      have h := PySem.mem_of_lookup h
      have h := List.mem_singleton.mp h
      cases h
      exact ⟨rfl, rfl⟩
    refine ⟨rfl, fun y c h => ?_, fun x y c h1 h2 => (one h1).1.trans (one h2).1.symm, fun i y h => ?_⟩
    · rw [(one h).2]
      exact ⟨(e0.bs _ _ (e0.mod.kin _ _ lcc)).2, _, isc⟩
    · have ey : y = "__class__" := List.mem_singleton.mp (List.mem_of_getElem? h)
      subst ey
      have hi : i = 0 := by
        have := (List.getElem?_eq_some_iff.mp h).1
        simp at this
        exact this
      subst hi
      exact ⟨cc, by simp [List.lookup], fun v hv => by
        cases hv
        exact ⟨_, rfl, isc⟩⟩
  obtain ⟨a, vr, te, t, hvs, pe, ps', ea, hq⟩ := hbody A outer s H vs Q E (hr.deeper _) hsp
  have I : Inv (ncx CX P w K mg base N (nf name qual params body scope cc cd) f A outer s H E) [] (startF N vs [some (.ref C)]) H { s with heap := h₁, toks := s.toks + (ps.zip us).length } := inv_startN S hr.hd e0 hl r CA hns kp
  obtain ⟨t0, hx⟩ := exo_at I.hok ea
  have hlt : (a : Nat) < h₁.objs.size := Heap.lt_size hx
  have hxC : a ≠ C := fun z => by
    rw [z] at hx
    have z1 := I.kIn _ _ hC
    rw [hx] at z1
    cases z1
  have hn1 : scope.names.lookup ("__class__" : Str) = some .free := S.frk _ (by simp)
  have hself : scope.names.lookup ar.arg = some .local := S.par _ (List.mem_of_mem_head? hps)
  have hp0 : ps[0]? = some ar.arg := by
    rw [← List.head?_eq_getElem?]
    exact hps
  have hu0 : us[0]? = some (.ref a) := by
    obtain ⟨u, e1, e2⟩ := r.get (i := 0) (x := .ref a) (by rw [hvs]; rfl)
    rw [e1, show u = Value.ref a from e2]
  have ndP : ps.Nodup := by
    have q := S.nd.sublist (List.take_sublist (ps.length + 1) N)
    rw [show ps.length + 1 = ps.length + [("__class__" : Str)].length from rfl, S.pre] at q
    exact (List.nodup_append.mp q).1
  have hlook : (ps.zip us).reverse.lookup ar.arg = some (.ref a) := zip_look ndP hp0 hu0
  rw [hbd]
  refine ks_wpAt_execs_cons (ks_wpAt_Expr_any (ks_wpAt_MethodCall (pl := pl) ?_ (he _)) (by unfold interactive; simp [S.kind]))
  have X1 := I.kIn
  obtain ⟨oD, hD1, hD2⟩ : ∃ oD, h₁.get? C = some oD ∧ oD.data = .cls { name := nm, bases := bs, mro := .ref C :: bm, ns := N', qualname := q, hasDict := true, slotNames := sn, subclasses := sub, abstract := ab, collection := col, hasDel := false } := ⟨_, X1 _ _ hC, rfl⟩
  obtain ⟨mb, hb1, hb2⟩ := I.mod.blt
  refine ks_wpAt_super_base (env := envF (nf name qual params body scope cc cd) f s.heap.objs.size) gsu hn1 (by decide) rfl (X1 _ _ lk) rfl hp rfl (X1 _ _ lcd) rfl hv2 hfl htop ?_
  refine PySem.W.ks_loadName_global S.kind gsu (Calls.loadGlobal_builtin (env := envF (nf name qual params body scope cc cd) f s.heap.objs.size) (I.mod.glob.keeps I.bk) msu (hb1.keeps I.bk) ((hb2 _ (by decide)).trans (by kernel_rfl)) ⟨rfl, ?_⟩)
  refine wpAny_loadName_free S.kind hn1 rfl ⟨_, X1 _ _ lcc, rfl⟩ ?_
  refine wpAny_loadName_local S.kind hself hns hlook ?_
  refine ks_wpAny_isType_cls hD1 hD2 ⟨rfl, ?_⟩
  refine ks_wpAny_call_super hD1 hD2 hx rfl (fun c z => by cases z) (PySem.W.looks_mroIn X1 Y.self) (fun h' hso k => ?_)
  have I2 : Inv (ncx CX P w K mg base N (nf name qual params body scope cc cd) f A outer s H E) [] (startF N vs [some (.ref C)]) H { s with heap := h', toks := s.toks + (ps.zip us).length } := I.kept (t' := s.toks + (ps.zip us).length) k
  have X2 := I2.kIn
  have IA : PySem.W.InstAt h' a { cls := .ref C, dict := none, data := .fields #[.ref t0, .none, .none, .none, .bool false, .none] } C none := ⟨k _ _ hx, rfl, rfl, trivial⟩
  refine PySem.W.kxs_getMethod PySem.W.kxs_ValueError hso (PySem.W.looks_opaque X2 Y.opq) (l₀ := .ref C :: bm) (l := bm) ?_ (ESX.drop_own C bm) X2 hal (IA.type.andThen (PySem.W.looks_subIn X2 Y.isVE)) hxC (by decide) ?_
  · exact fun A Q E s k q => wpAny_bind ((PySem.W.looks_clsIn X2 hcl) A _ E s k (wpAny_pure q))
  have k2 : ∀ b o, h'.get? b = some o → (h'.push (PySem.W.kxs_mw "ValueError.__init__" a)).get? b = some o := fun b o e => Heap.get?_push_of_some _ e
  have I3 : Inv (ncx CX P w K mg base N (nf name qual params body scope cc cd) f A outer s H E) [] (startF N vs [some (.ref C)]) H { s with heap := h'.push (PySem.W.kxs_mw "ValueError.__init__" a), toks := s.toks + (ps.zip us).length + 1 } := I2.kept (t' := s.toks + (ps.zip us).length + 1) k2
  have hmw : (h'.push (PySem.W.kxs_mw "ValueError.__init__" a)).get? h'.objs.size = some (PySem.W.kxs_mw "ValueError.__init__" a) := Heap.get?_push_size _ rfl
  have I4 : Inv (ncx CX P w K mg base N (nf name qual params body scope cc cd) f A outer s H E) [(h'.objs.size, PySem.W.kxs_mw "ValueError.__init__" a)] (startF N vs [some (.ref C)]) H { s with heap := h'.push (PySem.W.kxs_mw "ValueError.__init__" a), toks := s.toks + (ps.zip us).length + 1 } := I3.pins_of fun p hp => by
    rw [List.mem_singleton.mp hp]
    exact ⟨hmw, I2.hok.fresh (Nat.le_refl _), Nat.ne_of_gt I2.lt, I2.nofs (Nat.le_refl _), fun v z => by cases z⟩
  dsimp only
  rw [hst]
  refine PySem.W.kxs_callWith (i := "ValueError.__init__") (x := a) rfl (Calls.evalArgs_plain (Calls.spliced_cons (thn (pe.run _ _ _ _ _ I4 hq) fun u s1 ⟨v, H1, I5, r1, ea1, hq1⟩ => Calls.spliced_nil ?_)))
  have hpin := (I5.pin (h'.objs.size, PySem.W.kxs_mw "ValueError.__init__" a) (by simp)).1
  refine ⟨hpin, ?_⟩
  obtain ⟨t1, hx1⟩ := exo_at I5.hok ea1
  have hC5 := I5.kIn _ _ hC
  obtain ⟨hp1, g1, d1, tk1, os1⟩ := s1
  refine call_mw hC5 hx1 hpin (by show 1 ≤ sizeLine; decide) fun h2 t2 k5 hx2 => ?_
  have J := I5.write (t' := tk1) (x := a) (e := a) (o := exo a C none) (by rw [ea1]; exact True.intro) (.inl rfl) k5 ⟨_, hx2⟩ (exo_ok hx2)
  have eu : upd H1 a (exo a C none) = H1 := by
    funext b
    by_cases hb : b = a
    · rw [hb, upd_same, ea1]
    · rw [upd_ne hb]
  rw [eu] at J
  have J := J.pins_of (pins' := []) (fun p hp => nomatch hp)
  refine wpAt_of_wpAny ?_
  refine wpAny_mono (ps'.run [] _ (startF N vs [some (.ref C)]) H1 _ J hq1) (fun fl s' hs => ?_) fun e s' hs => hs
  have fin : ∀ {σ' : L2.St} {H' : Hp} {v : V} {u : Value}, Inv (ncx CX P w K mg base N (nf name qual params body scope cc cd) f A outer s H E) [] σ' H' s' → L2.RelV v u → Q v H' → CE outer P w H s Q u s' :=
    fun {σ' H' v u} J rv q => ⟨v, H', J.os, J.bare, J.base, J.hok, rv, q⟩
  cases fl with
  | ret u =>
    obtain ⟨v, σ', H', J, rv, q⟩ := hs
    exact fin J rv q
  | next =>
    obtain ⟨σ', H', J, q⟩ := hs
    exact fin (v := V.non) (u := Value.none) J rfl q
  | brk =>
    obtain ⟨_, _, _, q⟩ := hs
    exact False.elim q
  | cont =>
    obtain ⟨_, _, _, q⟩ := hs
    exact False.elim q
end
end XSU
end
section
set_option maxRecDepth 100000
set_option maxHeartbeats 4000000
/-! list.count of flat things; isinstance of a caught error, with or without a dict -/
namespace XEU
open PySem PySem.Spec PyProof.Rows L2
theorem count_eqU {x : V} : ∀ {xs : List V} {us : List Value}, Vals xs us → xs.all flatV = true → us.countP (eqU x) = xs.countP fun y => eqV y x
  | _, _, .nil, _ => rfl
  | _, _, .cons r t, f => by
    rw [List.all_cons, Bool.and_eq_true] at f
    rw [List.countP_cons, List.countP_cons, count_eqU t f.2, eqU_of r f.1]
section
variable {X : Cx}
def rCountF (K : PySem.W.Frag) : V → List V → Hp → VK → Prop := fun x xs H Q => ∃ (a : Addr) (ys : List V) (y : V), x = V.ref a ∧ xs = [y] ∧ SqL K H a ys ∧ flatV y = true ∧ ys.all flatV = true ∧ Q (.int ((ys.countP fun z => eqV z y : Nat) : Int)) H
theorem mt_countF : MtR X "list.count" (rCountF X.K) := by
  intro pins s σ H x xs v us Q I rx rxs h
  obtain ⟨a, ys, y, rfl, rfl, hs, fy, fys, q⟩ := h
  cases rx
  cases rxs with
  | cons ry rt =>
    rename_i uy ut
    cases rt
    obtain ⟨its, rv, ⟨⟨cls, dd, data, sl⟩, n, ho, hc, hdn, hd⟩, hlen⟩ := I.list hs
    simp only at hc hd
    subst hc hd
    refine call_meets PySem.F.slot_list_count ⟨_, ho, rfl⟩ PySem.F.entry_list_count (PySem.F.args_list_count_2 _ _)
      (SeqAt.list_countAt a its.toArray n dd sl uy (eqU y)) ⟨ho, fun u' hu' => mem_eqAt ry fy rv fys u' (by simpa using hu'), ?_⟩
    have ec : its.toArray.toList.countP (eqU y) = ys.countP fun z => eqV z y := count_eqU rv fys
    rw [ec]
    exact ⟨.int ((ys.countP fun z => eqV z y : Nat) : Int), H, I.tok _, ⟨_, rfl⟩, q⟩
end
/-- the dict of the caught error, if it has one, stands -/
def DictAt (d : Option Addr) (H : Hp) : Prop := d = none ∨ ∃ dd fs, d = some dd ∧ H dd = some (.xd fs)
def rIsE (K : PySem.W.Frag) (cls : Value) (d : Option Addr) (a : Addr) : List V → Hp → VK → Prop := fun xs H Q => ∃ (D : Addr) (c : V) (cv : Value) (b : Bool), cls = .ref D ∧ ExcC K D ∧ xs = [.ref a, c] ∧ (∀ u, RelV c u → u = cv) ∧ PySem.W.kitOne K (.ref D) cv = some b ∧ DictAt d H ∧ Q (.bl b) H
theorem call_isE {X : Cx} {a : Addr} {cls : Value} {d : Option Addr} {oe : Obj} {pn : List (Addr × Obj)} (hz : Zc cls d oe) (hf : ∃ vs, oe.data = .fields vs) : CallR (X.suite a ((a, oe) :: pn)) (.builtin "isinstance") (rIsE X.K cls d a) := by
  intro pins s σ H xs us Q I r h
  obtain ⟨D, c, cv, b, rfl, C, rfl, hcv, e, hd, q⟩ := h
  cases r with
  | cons rx rr =>
    cases rr with
    | cons rt rr =>
      cases rr
      cases rx
      have ec := hcv _ rt
      subst ec
      obtain ⟨hget, _⟩ := I.pin (a, oe) (List.mem_append.mpr (.inl List.mem_cons_self))
      obtain ⟨vs, hv⟩ := hf
      have hcl : (PySem.W.clsIn X.K D).isSome = true := by
        obtain ⟨cd, hc, _⟩ := PySem.W.any_some C.hd
        rw [hc]
        rfl
      have J : ∃ od, PySem.W.InstAt s.heap a oe D od := by
        obtain ⟨oc, od, oda, osl⟩ := oe
        obtain ⟨h1, h2⟩ := hz
        dsimp only at h1 h2 hv
        subst h1 h2 hv
        rcases hd with e1 | ⟨dd, fs, e1, e2⟩
        · subst e1
          exact ⟨none, hget, rfl, rfl, trivial⟩
        · subst e1
          have hx : ObjOk X.prog X.w H s.heap dd (.xd fs) := I.hok dd _ e2
          obtain ⟨mA, hns, hr⟩ := hx
          obtain ⟨od, ho, hl⟩ := lookIn_ns hns
          exact ⟨some od, hget, rfl, rfl, ho⟩
      obtain ⟨od, J⟩ := J
      exact PySem.W.kia_one (PySem.W.kitx_exc hcl C.hg C.hk C.hs C.ha C.hn C.ht C.hm) I.kIn J e (fun z => nomatch z) fun tk => ⟨.bl b, H, I.kept (t' := tk) fun _ _ z => z, rfl, q⟩
end XEU
end
section
set_option maxRecDepth 100000
set_option maxHeartbeats 4000000
/-! a head's facts of own error classes with an __init__ that says super() -/
namespace HeY
open PySem PySem.Spec PyProof.Rows L2 He
/-- the cells that functions among these have captured -/
def cellsOf (g : Addr → Option Obj) (l : List Addr) : List Addr := l.flatMap fun a => match g a with
  | some ⟨_, _, .func fd, _⟩ => fd.closure.map (·.2)
  | _ => []
def asE (g : Addr → Option Obj) (n : Nat) : List Addr := cStatics :: (asD g n ++ cellsOf g (asD g n))
abbrev FnY : Type := Option (Str × Str × Arguments × FuncBody × Scope)
def fnY (K : PySem.W.Frag) (x : Str) : FnY := match K.lookup (fAd K (x, some "__init__")) with
  | some ⟨_, _, .func fd, _⟩ => some (fd.name, fd.qualname, fd.params, fd.body, fd.scope)
  | _ => none
structure InD where
  cls : Str
  qual : Str
  params : Arguments
  body : List Stmt
  scope : Scope
def InD.val (d : InD) : FnY := some ("__init__", d.qual, d.params, .stmts d.body, d.scope)
abbrev AlY : Type := AlX × List FnY
def obsY (n : Nat) (fa : List Fa) (fn : List DefD) (ts : List Tab) (tf : List Defn) (xs : List InD) (ex : PySem.W.Frag → Bool) (g : Addr → Option Obj) : AlY :=
  ((obsT fa fn ts (frT g (asE g n)), ex (frT g (asE g n)) && tabsB g tf (frT g (asE g n))), xs.map fun d => fnY (frT g (asE g n)) d.cls)
def valY (fn : List DefD) (ts : List Tab) (xs : List InD) (w : World) : AlY := (valX fn ts w, xs.map InD.val)
structure SaysY (fa : List Fa) (fn : List DefD) (ts : List Tab) (tf : List Defn) (xs : List InD) (ex : PySem.W.Frag → Bool) (w : World) (h : Heap) (K : PySem.W.Frag) : Prop where
  x : SaysX fa fn ts tf ex w h K
  inits : xs.map (fun d => fnY K d.cls) = xs.map InD.val
theorem saysY_of {n : Nat} {fa : List Fa} {fn : List DefD} {ts : List Tab} {tf : List Defn} {xs : List InD} {ex : PySem.W.Frag → Bool} {w : World} {h : Heap} (e : obsY n fa fn ts tf xs ex h.get? = valY fn ts xs w) : SaysY fa fn ts tf xs ex w h (frT h.get? (asE h.get? n)) := by
  have e0 : (obsT fa fn ts (frT h.get? (asE h.get? n)), ex (frT h.get? (asE h.get? n)) && tabsB h.get? tf (frT h.get? (asE h.get? n))) = valX fn ts w := congrArg (fun z : AlY => z.1) e
  have e1 : obsT fa fn ts (frT h.get? (asE h.get? n)) = valT fn ts w := congrArg (fun z : AlX => z.1) e0
  have e2 : (ex (frT h.get? (asE h.get? n)) && tabsB h.get? tf (frT h.get? (asE h.get? n))) = true := congrArg (fun z : AlX => z.2) e0
  have e3 : xs.map (fun d => fnY (frT h.get? (asE h.get? n)) d.cls) = xs.map InD.val := congrArg (fun z : AlY => z.2) e
  obtain ⟨h1, h2⟩ := ba e2
  have key : ∀ p ∈ tf, PySem.W.codeHdIn (frT h.get? (asE h.get? n)) (cT (frT h.get? (asE h.get? n)) p).1 (cT (frT h.get? (asE h.get? n)) p).2 = true ∧ ∃ o, h.get? (cT (frT h.get? (asE h.get? n)) p).2 = some o ∧ emptyTab o = true := fun p hp => by
    obtain ⟨h3, h4⟩ := ba (List.all_eq_true.mp h2 p hp)
    refine ⟨h3, ?_⟩
    cases q : h.get? (cT (frT h.get? (asE h.get? n)) p).2 with
    | none =>
      rw [q] at h4
      cases h4
    | some o =>
      rw [q] at h4
      exact ⟨o, rfl, h4⟩
  exact ⟨⟨e1, h1, fun p hp => (key p hp).1, fun p hp => by
    obtain ⟨_, o, q, z⟩ := key p hp
    exact frT_none q z, fun p hp => by
    obtain ⟨_, o, q, z⟩ := key p hp
    rw [q, emptyTab_eq z]⟩, e3⟩
def hookY (n : Nat) (fa : List Fa) (fn : List DefD) (ts : List Tab) (tf : List Defn) (xs : List InD) (ex : PySem.W.Frag → Bool) : PySem.W.Hook where
  α := AlY
  obs := fun s => obsY n fa fn ts tf xs ex s.heap.get?
  val := fun w => valY fn ts xs w
  says := fun w h => ∃ K : PySem.W.Frag, K.In h ∧ SaysY fa fn ts tf xs ex w h K
  of := fun _ _ e => ⟨_, frT_in, saysY_of e⟩
  keeps := fun _ _ _ ⟨K, hK, c⟩ k => ⟨K, PySem.W.Frag.In.keeps hK k, ⟨⟨c.x.t, c.x.more, c.x.hd, c.x.out, fun p hp => k _ _ (c.x.empty p hp)⟩, c.inits⟩⟩
theorem obsY_eq {n : Nat} {fa : List Fa} {fn : List DefD} {ts : List Tab} {tf : List Defn} {xs : List InD} {ex : PySem.W.Frag → Bool} {g : Addr → Option Obj} {s : Shared} (h : ∀ a, g a = s.heap.get? a) : obsY n fa fn ts tf xs ex g = (hookY n fa fn ts tf xs ex).obs s := by
  have e : g = s.heap.get? := funext h
  rw [e] <;> rfl
/-! ### the classes -/
def oexB (K : PySem.W.Frag) (C : Addr) : Bool := match K.lookup C with
  | some ⟨.type "type", _, .cls cd, sl⟩ => (match cd.mro, sl.toList with
    | .ref C' :: bm, [_, _, _, _, some (.builtin n), _] => C' == C && n == "ValueError.__new__" && !cd.hasDel && cd.hasDict && PySem.HandSPX.refsVE bm && decide (PySem.W.alongIn K "__init__" bm = some (some (.builtin "ValueError.__init__")))
    | _, _ => false)
  | _ => false
theorem oexB_ok {K : PySem.W.Frag} {C : Addr} (q : oexB K C = true) : ∃ nm q N bs bm sn sub ab col dd k0 k1 k2 k3 k5, K.lookup C = some (excClassObj nm q C N bs bm true sn sub ab col dd k0 k1 k2 k3 k5 "ValueError.__new__") ∧ PySem.HandSPX.refsVE bm = true ∧ PySem.W.alongIn K "__init__" bm = some (some (.builtin "ValueError.__init__")) := by
  unfold oexB at q
  split at q
  · rename_i dd cd sl ho
    split at q
    · rename_i C' bm k0 k1 k2 k3 n k5 hm hs
      simp only [Bool.and_eq_true, beq_iff_eq, Bool.not_eq_true', decide_eq_true_eq] at q
      obtain ⟨⟨⟨⟨⟨rfl, rfl⟩, hdel⟩, hdc⟩, hr⟩, ha⟩ := q
      obtain ⟨nm, bs, mro, ns, qn, hd, sn, sub, ab, col, del⟩ := cd
      dsimp only at hm hdel hdc
      subst hm hdel hdc
      have hsl : sl = #[k0, k1, k2, k3, some (.builtin "ValueError.__new__"), k5] := by
        obtain ⟨l⟩ := sl
        simp only at hs
        rw [hs]
      subst hsl
      exact ⟨nm, qn, ns, bs, bm, sn, sub, ab, col, dd, k0, k1, k2, k3, k5, ho, hr, ha⟩
    · cases q
  · cases q
/-- the cell that such an __init__ has captured, its code object -/
def ccOf (K : PySem.W.Frag) (f : Addr) : Addr := match K.lookup f with
  | some ⟨_, _, .func fd, _⟩ => (match fd.closure with
    | [(_, c)] => c
    | _ => 0)
  | _ => 0
def cdOf (K : PySem.W.Frag) (f : Addr) : Addr := match K.lookup f with
  | some ⟨_, _, .func fd, _⟩ => (match fd.code with
    | .ref c => c
    | _ => 0)
  | _ => 0
def cloB (K : PySem.W.Frag) (f : Addr) : Bool := match K.lookup f with
  | some ⟨_, _, .func fd, _⟩ => (match fd.closure, fd.code with
    | [(n, _)], .ref _ => decide (n = "__class__") && (decide (fd.globals = mainGlobals) && decide (fd.builtins = builtinsNs))
    | _, _ => false)
  | _ => false
def fileB (K : PySem.W.Frag) (file : Str) (c : Addr) : Bool := match K.lookup c with
  | some ⟨_, _, .fields vs, _⟩ => (match (vs[2]? : Option Value) with
    | some (.str z _) => file == z
    | _ => false)
  | _ => false
def cellB (K : PySem.W.Frag) (c C : Addr) : Bool := match K.lookup c with
  | some ⟨_, _, .cell (some v), _⟩ => decide (v = .ref C)
  | _ => false
def clsB (K : PySem.W.Frag) (C : Addr) : Bool := oexB K C && (eqO (PySem.W.findIn K (.ref C) "__setattr__") (some (some (.builtin "object.__setattr__"))) && (decide (PySem.W.subIn K (.ref C) (.type "BaseException") = some true) && (decide (PySem.W.typeIn K (.ref C) = some (.type "type")) && PySem.W.keepIn K (.ref C))))
def supB (K : PySem.W.Frag) (file x qual : Str) : Bool :=
  clsB K (ga K x) && (decide (PySem.W.mroIn K (ga K x) (.ref (ga K x)) = some true) && (decide (PySem.W.subIn K (.ref (ga K x)) (.type "ValueError") = some true) && (eqO (PySem.W.nsIn K cStatics "thirdparty.any") (some none) &&
    (eqO (PySem.W.findIn K (.ref (ga K x)) "__init__") (some (some (.ref (ma K (ga K x) "__init__")))) && (decide (PySem.W.typeIn K (.ref (ma K (ga K x) "__init__")) = some (.type "function")) && (cloB K (ma K (ga K x) "__init__") &&
    (PySem.W.codeIn K (.ref (cdOf K (ma K (ga K x) "__init__"))) qual && (fileB K file (cdOf K (ma K (ga K x) "__init__")) && cellB K (ccOf K (ma K (ga K x) "__init__")) (ga K x)))))))))
theorem clsB_ok {K : PySem.W.Frag} {C : Addr} (h : clsB K C = true) : OexC K C := by
  obtain ⟨h1, h⟩ := ba h
  obtain ⟨h2, h⟩ := ba h
  obtain ⟨h3, h⟩ := ba h
  obtain ⟨h4, h5⟩ := ba h
  obtain ⟨nm, q, N, bs, bm, sn, sub, ab, col, dd, k0, k1, k2, k3, k5, e1, e2, _⟩ := oexB_ok h1
  exact ⟨⟨nm, q, N, bs, bm, sn, sub, ab, col, dd, k0, k1, k2, k3, k5, e1, e2⟩, eqO_ok h2, of_decide_eq_true h3, of_decide_eq_true h4, h5⟩
structure SupX (P : Program) (K : PySem.W.Frag) (d : InD) : Prop where
  c : XSU.SupC P K (ga K d.cls) (ma K (ga K d.cls) "__init__") (ccOf K (ma K (ga K d.cls) "__init__")) (cdOf K (ma K (ga K d.cls) "__init__")) "__init__" d.qual d.params d.body d.scope
  init : PySem.W.findIn K (.ref (ga K d.cls)) "__init__" = some (some (.ref (ma K (ga K d.cls) "__init__")))
  ty : PySem.W.typeIn K (.ref (ma K (ga K d.cls) "__init__")) = some (.type "function")
theorem supB_ok {P : Program} {K : PySem.W.Frag} {file : Str} {d : InD} (e : fnY K d.cls = d.val) (h : supB K file d.cls d.qual = true) (hf : P.main.file = file) : SupX P K d := by
  obtain ⟨h1, h⟩ := ba h
  obtain ⟨h2, h⟩ := ba h
  obtain ⟨h3, h⟩ := ba h
  obtain ⟨h4, h⟩ := ba h
  obtain ⟨h5, h⟩ := ba h
  obtain ⟨h6, h⟩ := ba h
  obtain ⟨h7, h⟩ := ba h
  obtain ⟨h8, h⟩ := ba h
  obtain ⟨h9, h10⟩ := ba h
  refine ⟨⟨clsB_ok h1, oexB_ok (ba h1).1, of_decide_eq_true h2, of_decide_eq_true h3, eqO_ok h4, ?_, h8, ?_, ?_⟩, eqO_ok h5, of_decide_eq_true h6⟩
  · unfold cloB at h7
    unfold fnY fAd at e
    unfold ccOf cdOf
    cases q : K.lookup (ma K (ga K d.cls) "__init__") with
    | none =>
      rw [q] at h7
      cases h7
    | some o =>
      obtain ⟨oc, od, dt, osl⟩ := o
      cases dt with
      | func fd =>
        rw [q] at h7
        dsimp only at e
        rw [q] at e
        obtain ⟨n1, n2, n3, n4, n5, n6, n7, n8, n9, n10, n11, n12, n13, n14, n15⟩ := fd
        have e2 : (some (n1, n2, n3, n4, n5) : FnY) = some (("__init__" : Str), d.qual, d.params, FuncBody.stmts d.body, d.scope) := e
        simp only [Option.some.injEq, Prod.mk.injEq] at e2
        obtain ⟨g1, g2, g3, g4, g5⟩ := e2
        subst g1 g2 g3 g4 g5
        dsimp only at h7 ⊢
        cases n7 with
        | nil => cases h7
        | cons p r =>
          cases r with
          | cons _ _ => cases n13 <;> cases h7
          | nil =>
            obtain ⟨n, c⟩ := p
            cases n13 with
            | ref cd =>
              obtain ⟨z1, z⟩ := ba h7
              obtain ⟨z2, z3⟩ := ba z
              obtain rfl : n = "__class__" := of_decide_eq_true z1
              obtain rfl : n6 = mainGlobals := of_decide_eq_true z2
              obtain rfl : n15 = builtinsNs := of_decide_eq_true z3
              exact ⟨oc, od, osl, _, _, _, _, _, _, rfl⟩
            | _ => cases h7
      | _ =>
        rw [q] at h7
        cases h7
  · unfold fileB at h9
    split at h9
    · rename_i e dd vs sl ho
      split at h9
      · rename_i z tf hz
        exact ⟨e, dd, vs, sl, z, tf, ho, hz, by rw [hf]; exact h9⟩
      · cases h9
    · cases h9
  · unfold cellB at h10
    split at h10
    · rename_i e dd v sl ho
      have := of_decide_eq_true h10
      subst this
      exact ⟨e, dd, sl, ho⟩
    · cases h10
end HeY
end
section
set_option maxRecDepth 100000
set_option maxHeartbeats 4000000
/-! sorted(a set of tuples of ints of any lengths, the empty one too) -/
namespace PySem.SeqAt
open MeetsSeq PySem
section
variable {A : Around} {s : Shared}
theorem call_tuple_lt {prog : Program} {w : World} {E : Value → Shared → Prop} {Q : Value → Shared → Prop} {l b : Addr} {items items2 : Array Value} {e r : Nat → Bool} (hl : s.heap.IsTuple l items) (hb : s.heap.IsTuple b items2)
    (he : ∀ j (h1 : j < items.size) (h2 : j < items2.size), EqAt A.in1 s items[j] items2[j] (e j)) (hr : ∀ j (h1 : j < items.size) (h2 : j < items2.size), e j = false → RcLt A.in1 s items[j] items2[j] (r j))
    (h : Q (.bool (firstLt e r (decide (items.size < items2.size)) (List.range (min items.size items2.size)))) s) : wpAny (model prog w) A (call (.builtin "tuple.__lt__") [.ref l, .ref b]) Q E s := by
  obtain ⟨⟨cls, dd, data, sl⟩, ho, hc, n, hd⟩ := id hl
  obtain ⟨⟨cls2, dd2, data2, sl2⟩, ho2, hc2, n2, hd2⟩ := id hb
  simp only at hc hd hc2 hd2
  subst hc hd hc2 hd2
  exact call_meets F.slot_tuple_lt ⟨_, ho, rfl⟩ F.entry_tuple_lt (F.args_tuple_lt_2 _ _) (tuple_ltAt l b items items2 n n2 dd dd2 sl sl2 e r) ⟨ho, ho2, he, hr, h⟩
end
end PySem.SeqAt
namespace XTS
open PySem PySem.W PySem.Calls PyProof.Rows PySem.SeqAt
def encT (p : Addr × List Int) : PyData := .tuple (p.2.map .int)
theorem alikeT (x y : List Int) : alike (.tuple (x.map .int)) (.tuple (y.map .int)) = true := by
  show alikeAll (x.map .int) (y.map .int) = true
  exact alike_ints x y
theorem depthT (x : List Int) : (PyData.tuple (x.map .int)).depth = 1 := by
  have h : ∀ y : List Int, PyData.depthAll (y.map .int) = 0 := by
    intro y
    induction y with
    | nil => simp [PyData.depthAll]
    | cons b y ih => simp [PyData.depthAll, PyData.depth, ih]
  simp [PyData.depth, h]
section
variable {prog : Program} {w : World} {A : Around} {E : Value → Shared → Prop} {s : Shared}
theorem oneLt_tup {xs ys : List PyData} {a b : Value} {as bs : List Addr} {Q : Bool → Shared → Prop} (ra : Reads s.heap a (.tuple xs) as) (rb : Reads s.heap b (.tuple ys) bs) (hal : alikeAll xs ys = true)
    (hu : A.units + min (PyData.tuple xs).depth (PyData.tuple ys).depth < cLine) (hq : Q (dataLt (.tuple xs) (.tuple ys)) s) : wpAny (model prog w) A (oneLt' true a b) Q E s := by
  cases ra with
  | @tuple l o vs n _ as₁ h1 h2 h3 h4 =>
    cases rb with
    | @tuple l' o' vs' n' _ bs₁ k1 k2 k3 k4 =>
      have n1 : vs.size = xs.length := by simpa using ReadsAll.length _ _ _ h4
      have n2 : vs'.size = ys.length := by simpa using ReadsAll.length _ _ _ k4
      rw [dataLt_tuple, ← firstLt_toks xs ys hal, ← n1, ← n2] at hq
      rw [oneLt'_eq]
      simp only [if_true]
      refine wpAny_bind (wpAny_cRoomFor (room_here hu) ?_)
      refine wpAny_bind (wpAny_callSpecialIfBound?_slot (T := "tuple") ⟨_, h1, h2⟩ F.slot_tuple_lt (call_tuple_lt (e := pairEq xs ys) (r := fun j => dataLt (xs.getD j .none) (ys.getD j .none)) ⟨_, h1, h2, _, h3⟩ ⟨_, k1, k2, _, k3⟩ (fun j j1 j2 => ?_) (fun j j1 j2 hj => ?_) ?_))
      · have := eqAt_alikeAll xs ys A.in1 s vs.toList vs'.toList _ _ h4 k4 hal (room_in hu) j (by simpa using j1) (by simpa using j2)
        simpa using this
      · have := rcLt_alikeAll xs ys A.in1 s vs.toList vs'.toList _ _ h4 k4 hal (room_in hu) j (by simpa using j1) (by simpa using j2) hj
        simpa using this
      · exact wpAny_truthy_bool hq
/-- the kind that the keys make, whatever tuples they are -/
def firstOf (v : Option Value) : Option Value := v
theorem firsts_any {M : Model} : ∀ (vs : List Value) (fs : List (Option Value)) {Q : List (Option Value) → Shared → Prop}, EachIs (fun v f => ∃ a o xs n, v = .ref a ∧ s.heap.get? a = some o ∧ o.cls = .type "tuple" ∧ o.data = .seq xs n ∧ xs[0]? = f) vs fs → Q fs s → wpAny M A (vs.mapM firstOfTuple') Q E s
  | [], _, _, .nil, h => by rw [List.mapM_nil]; exact wpAny_pure h
  | v :: vs, f :: fs, Q, .cons ⟨a, o, xs, n, e, ho, hc, hd, hf⟩ t, h => by
    subst e
    rw [List.mapM_cons]
    refine wpAny_bind ?_
    rw [kas_first_eq]
    refine wpAny_bind (Looks.here (show Looks M s.heap (typeOf (.ref a)) o.cls from (Looks.ld ho).andThen .now) ?_)
    rw [hc, if_neg (by first | decide | simp)]
    refine wpAny_bind (listItems_at ho hd (wpAny_pure ?_))
    rw [hf]
    exact wpAny_bind (firsts_any vs fs (Q := fun bs s' => wpAny M A (pure (f :: bs)) Q E s') t (wpAny_pure h))
theorem kind_any {M : Model} {vs : List Value} {fs : List (Option Value)} {Q : SortKind → Shared → Prop} (t : EachIs (fun v f => ∃ a o xs n, v = .ref a ∧ s.heap.get? a = some o ∧ o.cls = .type "tuple" ∧ o.data = .seq xs n ∧ xs[0]? = f) vs fs)
    (hne : (fs.toArray.all fun x => x.isSome) = false) (h : Q (if (fs.toArray[0]?.bind id).isSome = true then general' else oneType') s) (hv : 0 < vs.length) : wpAny M A (keyKind' vs.toArray) Q E s := by
  rw [kat_kind_eq, List.mapM_toArray, map_eq_pure_bind]
  refine wpAny_bind (wpAny_bind (firsts_any vs _ t (wpAny_pure ?_)))
  rw [if_neg (by rw [hne]; exact Bool.false_ne_true)]
  by_cases h0 : (fs.toArray[0]?.bind id).isSome = true
  · rw [if_pos h0] at h
    simp only [h0, if_true]
    exact wpAny_pure h
  · rw [if_neg h0] at h
    simp only [h0]
    obtain ⟨v₁, rest, rfl⟩ : ∃ v₁ rest, vs = v₁ :: rest := by
      match vs, hv with
      | v₁ :: rest, _ => exact ⟨v₁, rest, rfl⟩
    rw [oneTypeOnly'_eq, List.mapM_toArray, map_eq_pure_bind]
    refine wpAny_bind (wpAny_bind (wpAny_bind (kas_mapM (r := Value.type "tuple") _ (fun v hv Q' hq => ?_) (wpAny_pure ?_))))
    · obtain ⟨f, hf, a, o, xs, n, rfl, ho, hc, _⟩ := t.left v hv
      rw [← hc] at hq
      exact Looks.here (show Looks M s.heap (typeOf (.ref a)) o.cls from (Looks.ld ho).andThen .now) hq
    · have hall : ((List.map (fun _ => Value.type "tuple") (v₁ :: rest)).toArray.all fun x => x == Value.type "tuple") = true := by
        simp only [List.all_toArray, List.all_map, List.all_eq_true]
        intro _ _
        exact beq_self_eq_true _
      have h0' : (List.map (fun _ => Value.type "tuple") (v₁ :: rest)).toArray[0]? = some (Value.type "tuple") := by simp
      rw [h0']
      simp only [hall, if_true]
      exact wpAny_pure (wpAny_pure h)
/-- the datum of a tuple of ints -/
def tI (x : List Int) : PyData := .tuple (x.map .int)
theorem alike_tI (xs : List (List Int)) : AllAlike (xs.map tI) := AllAlike.of fun x y => alikeT x y
theorem each_firsts {h : Heap} : ∀ {vs : List Value} {xs : List (List Int)}, EachIs (fun v x => ∃ as, Reads h v (tI x) as) vs xs → ∃ fs : List (Option Value), EachIs (fun v f => ∃ a o ys n, v = .ref a ∧ h.get? a = some o ∧ o.cls = .type "tuple" ∧ o.data = .seq ys n ∧ ys[0]? = f) vs fs ∧ fs.map (fun f => f.isSome) = xs.map (fun x => !x.isEmpty)
  | _, _, .nil => ⟨[], .nil, rfl⟩
  | v :: vs, x :: xs, .cons ⟨as, r⟩ t => by
    obtain ⟨fs, h1, h2⟩ := each_firsts t
    cases r with
    | @tuple a o ys n _ _ ho hc hd hr =>
      refine ⟨ys[0]? :: fs, .cons ⟨a, o, ys, n, rfl, ho, hc, hd, rfl⟩ h1, ?_⟩
      have hl : ys.size = x.length := by simpa using SeqAt.ReadsAll.length _ _ _ hr
      rw [List.map_cons, List.map_cons, h2]
      congr 1
      cases x with
      | nil =>
        have hz : ys.size = 0 := by rw [hl]; rfl
        rw [Array.getElem?_eq_none (by omega)]
        rfl
      | cons c x =>
        have hz : 0 < ys.size := by rw [hl, List.length_cons]; omega
        rw [Array.getElem?_eq_getElem hz]
        rfl
/-- tuples of ints of any lengths can be sorted -/
theorem sortsTups {vs : List Value} {xs : List (List Int)} (e : EachIs (fun v x => ∃ as, Reads s.heap v (tI x) as) vs xs) (hu : A.units + 1 < cLine) : SortsAt prog w A s (dataKind s.heap (xs.map tI)) vs := by
  have e' : EachIs (fun v d => ∃ as, Reads s.heap v d as) vs (xs.map tI) := each_map (R := fun v d => ∃ as, Reads s.heap v d as) tI e
  have hd1 : ∀ d, d ∈ xs.map tI → A.units + d.depth < cLine := bound_map (enc := tI) (bs := xs) fun x _ => by rw [show (tI x).depth = 1 from depthT x]; exact hu
  by_cases hn : [] ∈ xs
  · refine ⟨fun v hv => ?_, ?_⟩
    · obtain ⟨d, hd, as, r⟩ := e'.left v hv
      exact ⟨_, dataKind_some (alike_tI xs) hd r⟩
    · obtain ⟨fs, h1, h2⟩ := each_firsts e
      have hall : (fs.toArray.all fun x => x.isSome) = false := by
        rw [List.all_toArray]
        have q : fs.all (fun x => x.isSome) = (fs.map (fun f => f.isSome)).all id := by rw [List.all_map]; rfl
        rw [q, h2, List.all_map]
        refine Bool.eq_false_iff.mpr fun c => ?_
        have z := (List.all_eq_true.mp c) [] hn
        exact absurd z (by decide)
      refine ⟨if (fs.toArray[0]?.bind id).isSome = true then general' else oneType', ?_, fun h2 E Q hq => kind_any h1 hall hq (by omega)⟩
      intro E x y a b Q ha hb hq
      obtain ⟨d, as, hd, ra, rfl⟩ := dataKind_inv ha
      obtain ⟨d', as', hd', rb, rfl⟩ := dataKind_inv hb
      obtain ⟨x1, hx1, rfl⟩ := List.mem_map.mp hd
      obtain ⟨x2, hx2, rfl⟩ := List.mem_map.mp hd'
      have hroom : A.units + min (tI x1).depth (tI x2).depth < cLine := by rw [show (tI x1).depth = 1 from depthT x1, show (tI x2).depth = 1 from depthT x2]; exact hu
      split
      · show wpAny _ _ (oneLt' false x y) _ _ _
        exact oneLt_alike (f := false) (fun z => nomatch z) ra rb (alikeT x1 x2) (fun z => nomatch z) hroom hq
      · rw [keyLt'_oneType]
        exact oneLt_tup ra rb (alike_ints x1 x2) hroom hq
  · exact SortsAt.data e' (alike_tI xs) (.inl fun d hd => by
      obtain ⟨x, hx, rfl⟩ := List.mem_map.mp hd
      match x, hx with
      | [], hx => exact absurd hx hn
      | c :: x, hx => exact ⟨_, _, rfl⟩) hd1
theorem each_mapF {β γ : Type} {R : Value → γ → Prop} (f : β → γ) : ∀ {vs : List Value} {bs : List β}, EachIs (fun v b => R v (f b)) vs bs → EachIs R vs (bs.map f)
  | _, _, .nil => .nil
  | _, _, .cons h1 t => .cons h1 (each_mapF f t)
theorem reads_ints {h : Heap} : ∀ {vs : List Value} {ns : List Int}, IntsAre vs ns → ReadsAll h vs (ns.map .int) []
  | _, _, .nil => .nil
  | _, _, .cons n t r => by
    have q := ReadsAll.cons (Reads.int (h := h) n t) (reads_ints r)
    exact q
theorem reads_tup {h : Heap} {v : Value} {ns : List Int} (x : TS.TupInts h v ns) : Reads h v (tI ns) [] := by
  obtain ⟨a, xs, rfl, ⟨o, ho, hc, n, hd⟩, i⟩ := x
  exact .tuple ho hc hd (reads_ints i)
/-- xs.sort() of tuples of ints of any lengths -/
theorem list_sort_tups {β : Type} {f : β → List Int} {R : Value → β → Prop} {bs : List β} {a : Addr} {vs : List Value} {n : Nat} {Q : Value → Shared → Prop} (ho : s.heap.get? a = some (seqObj "list" vs.toArray n)) (e : EachIs R vs bs) (er : EachIs (fun v b => ∃ as, Reads s.heap v (tI (f b)) as ∧ a ∉ as) vs bs) (hL : bs.length ≤ sizeLine)
    (hu : A.units + 2 < cLine) (h : ∀ out, out.length = bs.length → EachIs R out (bs.mergeSort (dataLe false fun b => tI (f b))) → Q .none { s with heap := sortedHeap s.heap a vs (List.toArray out) }) :
    wpAny (model prog w) A (call (.builtin "list.sort") [.ref a]) Q E s := by
  have hal : AllAlike (bs.map fun b => tI (f b)) := AllAlike.of fun x y => alikeT (f x) (f y)
  have er' : EachIs (fun v b => ∃ as, Reads (sortingHeap s.heap a vs) v (tI (f b)) as) vs bs := each_keepBut (enc := fun b => tI (f b)) (h' := sortingHeap s.heap a vs) (fun _ _ hb q => sortingHeap_old hb q) (fun o q => by rw [ho] at q; rw [← Option.some.inj q]) hal er
  have er2 : EachIs (fun v x => ∃ as, Reads (sortingHeap s.heap a vs) v (tI x) as) vs (bs.map f) := each_mapF (R := fun v x => ∃ as, Reads (sortingHeap s.heap a vs) v (tI x) as) f er'
  have em : (bs.map f).map tI = bs.map fun b => tI (f b) := by rw [List.map_map]; rfl
  have so := sortsTups (prog := prog) (w := w) (A := A.in1) (s := { s with heap := sortingHeap s.heap a vs }) er2 hu
  rw [em] at so
  refine wpAny_call_entry slot_list_sort ⟨_, ho, rfl⟩ entry_list_sort (list_sort_vals (κ := dataKind (sortingHeap s.heap a vs) (bs.map fun b => tI (f b))) ho so (by rw [e.length]; exact hL) ⟨.none, rfl, ?_⟩) (args_list_sort _)
  exact h _ (by rw [sortVals_length false rfl]; exact e.length) (sortVals_data false e er' hal)
theorem tI_le {β : Type} (x : β → List Int) : dataLe false (fun b => tI (x b)) = fun p q => decide (x p ≤ x q) := by
  have e := dataLe_rows x
  funext p q
  refine Eq.trans ?_ (congrFun (congrFun e p) q)
  show (!dataLt (.tuple ((x q).map .int)) (.tuple ((x p).map .int))) = (!dataLt (.list ((x q).map .int)) (.list ((x p).map .int)))
  rw [dataLt_tuple, dataLt_list]
end
end XTS
namespace L2
open PySem PySem.Spec PyProof.Rows PySem.Calls PySem.SeqAt
section
variable {P : Program} {w : World} {A : Around} {E : Value → Shared → Prop} {s : Shared}
theorem sorted_setV {a : Addr} {L : List (Addr × List Int)} {es : Array (Int × Value)} {ep : Nat} {t : SetTable} {Q : Value → Shared → Prop} (R : SetTR P w s.heap a L es ep t) (hh : A.handled = none)
    (hu : A.units + 3 < cLine)
    (hQ : ∀ s' p (out : Array Value) (c : Nat) (L' : List (Addr × List Int)), (∀ b o, s.heap.get? b = some o → s'.heap.get? b = some o) → s'.gens = s.gens → s'.os = s.os → s.heap.objs.size ≤ p →
      s'.heap.get? p = some (seqObj "list" out c) → out.toList = L'.map (fun q => Value.ref q.1) → L'.Perm L → L'.Pairwise (fun q r => q.2 ≤ r.2) → Q (.ref p) s') :
    wpAny (model P w) A (call (.builtin "sorted") [.ref a]) Q E s := by
  obtain ⟨o, ho, hex, hd⟩ := R.ob
  have hsz := R.size
  have hfew := R.few
  refine Calls.call_function_entry kind_sorted plain_sorted entry_sorted (args_sorted1 _) ?_
  unfold Builtin.«sorted»
  refine wpAny_bind (m := checkCount "sorted" 1 1 _) (wpAny_pure ?_)
  refine wpAny_bind (collect_set (A := A.in1) hh ⟨o, ho, hex.1, hd⟩ R.fits (by unfold scanBound; omega) R.tab.ris R.led fun s1 vs k1 hz g1 o1 pm => ?_)
  have hes : es.toList.map (·.2) = L.map fun q => Value.ref q.1 := by
    rw [R.rows]
    unfold rowsOf
    rw [List.map_map] <;> rfl
  rw [hes] at pm
  -- the values are the addresses of the rows, in some order
  have ord : ∀ vs : List Value, (∀ v ∈ vs, ∃ q ∈ L, v = Value.ref q.1) → ∃ L1 : List (Addr × List Int), vs = L1.map (fun q => Value.ref q.1) ∧ ∀ q ∈ L1, q ∈ L := by
    intro vs
    induction vs with
    | nil => intro _; exact ⟨[], rfl, fun q hq => (by cases hq)⟩
    | cons v vs ih =>
      intro hv
      obtain ⟨q, hq, e⟩ := hv v List.mem_cons_self
      obtain ⟨L1, e1, hs⟩ := ih fun u hu => hv u (List.mem_cons_of_mem _ hu)
      refine ⟨q :: L1, by rw [List.map_cons, e, e1], fun r hr => ?_⟩
      rcases List.mem_cons.mp hr with z | z
      · rw [z]; exact hq
      · exact hs r z
  -- an address has one key
  have one : ∀ q ∈ L, ∀ r ∈ L, q.1 = r.1 → q = r := fun q hq r hr e => by
    have a1 := R.tup q hq
    have a2 := R.tup r hr
    rw [e] at a1
    have e2 : q.2 = r.2 := a1.inj a2
    exact Prod.ext e e2
  have perm_of : ∀ L1 : List (Addr × List Int), (∀ q ∈ L1, q ∈ L) → (L1.map (fun q => Value.ref q.1)).Perm (L.map fun q => Value.ref q.1) → L1.Perm L := by
    intro L1 hs pm1
    have nL : L.Nodup := nodup_of_map R.nd
    have nref : (L.map fun q => Value.ref q.1).Nodup := by
      refine List.pairwise_map.mpr (List.Pairwise.imp_of_mem (fun {q r} hq hr hne e => ?_) nL)
      injection e with e
      exact hne (one q hq r hr e)
    have n1 : L1.Nodup := nodup_of_map (pm1.nodup_iff.mpr nref)
    refine (List.perm_ext_iff_of_nodup n1 nL).mpr fun q => ⟨hs q, fun hq => ?_⟩
    have hm : Value.ref q.1 ∈ L1.map (fun q => Value.ref q.1) := pm1.mem_iff.mpr (List.mem_map.mpr ⟨q, hq, rfl⟩)
    obtain ⟨r, hr, e⟩ := List.mem_map.mp hm
    injection e with e
    rw [← one r (hs r hr) q hq e]
    exact hr
  have hvl : vs.length < 64 := by rw [pm.length_eq, List.length_map]; exact hfew
  refine wpAny_bind (wpAny_newList ?_ (by rw [sizeLine_eq]; omega))
  have hoL : (s1.heap.push (seqObj "list" vs.toArray 0)).get? s1.heap.objs.size = some (seqObj "list" vs.toArray 0) := Heap.get?_push_size _ rfl
  have tk : ∀ q ∈ L, TS.TupInts (s1.heap.push (seqObj "list" vs.toArray 0)) (.ref q.1) q.2 := fun q hq => tupInts_of (P := P) (w := w) (isT_keep (R.tup q hq) fun b u e => Heap.get?_push_of_some _ (k1 b u e))
  obtain ⟨L1, e1, hs1⟩ := ord vs fun v hv => by
    obtain ⟨q, hq, e⟩ := List.mem_map.mp (pm.mem_iff.mp hv)
    exact ⟨q, hq, e.symm⟩
  have pL1 : L1.Perm L := perm_of L1 hs1 (by rw [← e1]; exact pm)
  have each1 : ∀ L1 : List (Addr × List Int), W.EachIs (fun v (q : Addr × List Int) => v = Value.ref q.1) (L1.map fun q => Value.ref q.1) L1 := by
    intro L1
    induction L1 with
    | nil => exact .nil
    | cons q L1 ih => exact .cons rfl ih
  have ee : W.EachIs (fun v (q : Addr × List Int) => v = Value.ref q.1) vs L1 := by rw [e1]; exact each1 L1
  have er : W.EachIs (fun v (q : Addr × List Int) => ∃ as, PySem.Reads (s1.heap.push (seqObj "list" vs.toArray 0)) v (XTS.tI q.2) as ∧ s1.heap.objs.size ∉ as) vs L1 := (W.each_mem ee).mono fun v q ⟨hv, hq⟩ => ⟨[], by rw [hv]; exact XTS.reads_tup (tk q (hs1 q hq)), fun z => nomatch z⟩
  refine wpAny_bind (wpAny_holding (XTS.list_sort_tups (f := fun q : Addr × List Int => q.2) (s := { s1 with heap := s1.heap.push (seqObj "list" vs.toArray 0) }) hoL ee er (by rw [← ee.length, sizeLine_eq]; omega) hu fun out a1 a2 => ?_))
  obtain ⟨c, hc⟩ := sortedHeap_at (vs := vs) (out := out.toArray) hoL
  have each2 : ∀ {o : List Value} {M : List (Addr × List Int)}, W.EachIs (fun v (q : Addr × List Int) => v = Value.ref q.1) o M → o = M.map fun q => Value.ref q.1 := by
    intro o M h
    induction h with
    | nil => rfl
    | cons h1 _ ih => rw [h1, ih]; rfl
  have pw : (L1.mergeSort (W.dataLe false fun q : Addr × List Int => XTS.tI q.2)).Pairwise (fun q r => q.2 ≤ r.2) := by
    rw [XTS.tI_le]
    exact (List.pairwise_mergeSort (le := fun p q : Addr × List Int => decide (p.2 ≤ q.2)) (fun a b c h1 h2 => by
      have h1 := of_decide_eq_true h1
      have h2 := of_decide_eq_true h2
      exact decide_eq_true (List.le_trans h1 h2)) (fun a b => by
      rcases List.le_total a.2 b.2 with h | h
      · simp [h]
      · simp [h]) L1).imp fun h => of_decide_eq_true h
  refine wpAny_pure ⟨_, rfl, hQ _ s1.heap.objs.size out.toArray c _ (fun b u e => ?_) g1 o1 hz hc (by rw [List.toList_toArray]; exact each2 a2) ((List.mergeSort_perm L1 _).trans pL1) pw⟩
  have q := k1 b u e
  have hlt := Heap.lt_size q
  show (sortedHeap (s1.heap.push (seqObj "list" vs.toArray 0)) s1.heap.objs.size vs out.toArray).get? b = some u
  rw [sortedHeap_old (Nat.ne_of_lt hlt) (by rw [size_push']; exact Nat.lt_succ_of_lt hlt)]
  exact Heap.get?_push_of_some _ q
end
section
variable {X : Cx}
/-- sorted(set), tuples of ints of any lengths -/
def rSortedV (K : PySem.W.Frag) (P : Program) (w : World) : List V → Hp → VK → Prop := fun vs H Q => ∃ (a : Addr) (L : List (Addr × List Int)), vs = [V.ref a] ∧ H a = some (SetTO P w a L) ∧ (∀ p ∈ L, SqT K H p.1 (p.2.map V.int)) ∧
  ∀ (L' : List (Addr × List Int)) (p : Addr), L'.Perm L → (L'.map (·.2)).Nodup → L'.length < 64 → L'.Pairwise (fun q r => q.2 ≤ r.2) → H p = none → Q (.ref p) (upd H p (.lst (L'.map fun q => V.ref q.1)))
theorem cr_sortedV (hc : X.calm = true) (hu : X.A.units + 64 < cLine) : CallR X (.builtin "sorted") (rSortedV X.K X.prog X.w) := by
  intro pins s σ H vs us Q I r h
  obtain ⟨a, L, rfl, ha, hk, q⟩ := h
  have R0 : SetT0 X.prog X.w s.heap a L := (I.hok a _ ha).1
  obtain ⟨es, ep, t, R⟩ := R0.full fun p hp => I.isT (hk p hp)
  rw [Vals.ref1 r]
  refine sorted_setV R (I.ok.hd hc) (by omega) fun s' p out c L' k g o hp hg hout pm pw => ?_
  have hfew : L'.length < 64 := by rw [pm.length_eq]; exact R.few
  have hlen : (L'.map fun q => V.ref q.1).length ≤ sizeLine := by rw [List.length_map, sizeLine_eq]; omega
  have hn : H p = none := I.hok.fresh hp
  have hv : Vals (L'.map fun q => V.ref q.1) out.toList := by rw [hout]; exact vals_of_refs L'
  have J : Inv X pins σ (upd H p (.lst (L'.map fun q => V.ref q.1))) { s with heap := s'.heap, gens := s'.gens, drawn := s'.drawn, toks := s'.toks } :=
    I.call (ch := []) (Un.laid k hp hn) (I.hok.laid k hp ⟨hlen, out.toList, c, hv, hg⟩) (by rw [g]; exact I.bare) (fun _ z => nomatch z)
  have e : s' = { s with heap := s'.heap, gens := s'.gens, drawn := s'.drawn, toks := s'.toks } := by
    cases s'
    cases s
    cases o
    rfl
  rw [e]
  exact ⟨.ref p, _, J, rfl, q L' p pm ((pm.map (·.2)).nodup_iff.mpr R.nd) hfew pw hn⟩
end
end L2
end
section
set_option maxRecDepth 100000
/-! dict comprehensions whose keys are tuples; list(d) of such a dict -/
namespace L2
open PySem PySem.Spec PyProof.Rows
/-- d[k] = v by a comprehension, k a tuple -/
theorem d_dictSetT {X : Cx} {pins : List (Addr × Obj)} {σ : St} {H : Hp} {s : Shared} {E : Value → Shared → Prop} {D b : Addr} {kvs : List (List Key × V)} {k : List Key} {v : V} {u r : Value} {Q : Unit → Shared → Prop} (hu : X.A.units + 1 < cLine) (I : Inv X pins σ H s) (hD : H D = some (.dT kvs)) (hb : H b = some (.tup (k.map kV))) (hz : kvs.length < sizeLine)
    (ry : RelV (V.ref b) u) (rv : RelV v r) (h : ∀ s', Inv X pins σ (upd H D (.dT (putK kvs k v))) s' → Q () s') : wpAny (model X.prog X.w) X.A (dictSet D u r) Q E s := by
  cases (show u = Value.ref b from ry)
  obtain ⟨z, hd, xs, rel, dd⟩ := dt_of I.hok hD
  have hzx : xs.length ≤ sizeLine := by rw [← Paired.length rel]; exact z
  have hl : (putK kvs k v).length ≤ sizeLine := by have := length_putK kvs k v; omega
  refine wpAny_dictSet_heap (hsz := hzx) (show (tupleKind (mixKind X.prog X.w)).room X.A from Nat.lt_of_succ_lt hu) (key_of I.hok hb) dd fun h' dd' hs => h _ ?_
  obtain ⟨q, es, ep, hq, h2, h3, h4, _, h5⟩ := dd'
  refine d_write I (by rw [hD]; exact True.intro) hs ⟨q, hq⟩ ⟨hl, hd, _, (rel.put k hb rv).keeps fun c ys ec => ?_, q, es, ep, hq, h2, h3, h4, h5⟩
  rw [upd_ne (ne_of ec hD (fun z => nomatch z))]
  exact ec
section
variable {X : Cx}
/-- {k: v for target in iter if ..}, keys tuples: D the new dict -/
def tDcT (wi : TI) (g : TG) (tt : TT) (tk tv : TE) (vs : List Nat) : TE := fun σ H Q => wi σ H fun J H1 => ∀ D, H1 D = none → ∃ W : Nat → Nat → Hp → Prop, (∃ m, W 0 m (upd H1 D (.dT []))) ∧ ∀ i m H, W i m H →
  (J.stop i H ∧ Q (.ref D) H) ∨ (J.go i H ∧ ∃ Nx : Hp → Prop, (∀ H', Nx H' → ∃ m', m' < m ∧ W (i + 1) m' H') ∧ ∀ x H', J.yld i H x H' → g x (wipe σ vs) H' fun σ2 H2 => wipe σ2 vs = wipe σ vs ∧ tt σ2 H2 fun b H3 =>
    if b = true then tk σ2 H3 fun y H4 => tv σ2 H4 fun z H5 => ∃ kvs k b, y = .ref b ∧ H5 b = some (.tup (k.map kV)) ∧ H5 D = some (.dT kvs) ∧ kvs.length < sizeLine ∧ Nx (upd H5 D (.dT (putK kvs k z))) else Nx H3)
theorem dc_coreT {pins : List (Addr × Obj)} {s : Shared} {σ : St} {H : Hp} {Q : VK} {kx vx tg iter : Expr} {ifs : List Expr} {scope : Scope} {own : List (Str × Nat)} {pos pos' : Pos} {wi : TI} {g : TG} {tt : TT} {tk tv : TE} {use : Option (Value → Sem Unit)} {Qf : Value → Shared → Prop}
    (hu : X.A.units + 1 < cLine) (hc : X.calm = true) (hN : X.N.Nodup) (I : Inv X pins σ H s) (hi : PI X tg iter wi) (ok : BlkOk X.N X.env.scope scope own)
    (hg : ∀ (s : Shared) (H : Hp) (C : Addr) (cl : List (Str × Addr)) (fp : List Addr), PG (X.blk s H scope (compEnvC scope cl C X.env) fp) tg g) (ht : ∀ (s : Shared) (H : Hp) (C : Addr) (cl : List (Str × Addr)) (fp : List Addr), PTs (X.blk s H scope (compEnvC scope cl C X.env) fp) ifs tt)
    (hk : ∀ (s : Shared) (H : Hp) (C : Addr) (cl : List (Str × Addr)) (fp : List Addr), PE (X.blk s H scope (compEnvC scope cl C X.env) fp) kx tk)
    (he : ∀ (s : Shared) (H : Hp) (C : Addr) (cl : List (Str × Addr)) (fp : List Addr), PE (X.blk s H scope (compEnvC scope cl C X.env) fp) vx tv) (hs : ∀ x, foldedSetIterable iter X.env x = pure x)
    (h : tDcT wi g tt tk tv (own.map (·.2)) σ H Q)
    (hRR : ∀ D C s' m H', Inv X pins σ H' s' → Q (.ref D) H' → s'.heap.Ns C m → FpOk X pins H' C → compPost (model X.prog X.w) X.A X.xe use Qf (.ref D) C (.ok .next) s') :
    wpAny (model X.prog X.w) X.A (comprehension (.DictComp kx vx [⟨tg, iter, ifs, 0⟩] scope pos) scope X.env pos' newDict false (eval iter X.env) use) Qf X.xe s := by
  have hfree : ∀ y ∈ scope.names, y.2 = .free → ∃ c, X.env.cells.lookup y.1 = some c := fun y hy e => by
    rcases ok.free y hy e with k | k
    · exact I.ok.has _ (.inl k)
    · exact I.ok.has _ (.inr k)
  refine wpAny_comprehension_free (use := use) rfl hs (closure_ok hfree) ok.kind (fun y hy e => by rw [ok.uniq y hy, e])
    (thn (hi.run pins s σ H _ I h) fun xv s1 hx => thn hx fun itv s2 h2 => ?_)
  obtain ⟨it, fp, tn, J, H2, e, I2, T, st2, f2, q⟩ := h2
  subst e
  refine wpAny_newObj_type (newEnv_comp ?_)
  generalize hD : s2.heap.objs.size = D
  have hDn : H2 D = none := I2.hok.fresh (Nat.le_of_eq hD)
  obtain ⟨W, ⟨m0, w0⟩, turn⟩ := q D hDn
  -- the new list
  generalize hs3 : ({ s2 with heap := s2.heap.push { cls := .type "dict", data := .dict #[] } } : Shared) = s3
  have I3 : Inv X pins σ (upd H2 D (.dT [])) s3 := by
    rw [← hs3]
    refine I2.laid (t' := s2.toks) (fun b o e => Heap.get?_push_of_some _ e) (Nat.le_of_eq hD) ?_
    rw [← hD]
    exact dt_empty s2.heap I2.big
  have h3 : s3.heap = s2.heap.push { cls := .type "dict", data := .dict #[] } := by rw [← hs3]
  have sz : ∀ b ∈ fp, b < s2.heap.objs.size := fun b hb => by
    obtain ⟨o, e, _⟩ := T.obj _ _ st2 b hb
    exact Heap.lt_size e
  have f3 : ∀ b ∈ fp, FpOk X pins (upd H2 D (.dT [])) b ∧ b < s3.heap.objs.size := fun b hb => by
    have hlt := sz b hb
    refine ⟨⟨?_, (f2 b hb).2⟩, by rw [h3, Heap.size_push]; exact Nat.lt_succ_of_lt hlt⟩
    rw [upd_ne (by rw [← hD]; exact Nat.ne_of_lt hlt)]
    exact (f2 b hb).1
  have st3 : tn 0 s3.heap := T.keep _ _ _ st2 fun b _ o e => by rw [h3]; exact Heap.get?_push_of_some _ e
  have I4 := block_start I3 ok hN f3
  have pg := hg s3 (upd H2 D (.dT [])) s3.heap.objs.size (cellsFrom (s3.heap.objs.size + 1) scope.names (cloFrom X.env.cells scope.names [])) fp
  have pt := ht s3 (upd H2 D (.dT [])) s3.heap.objs.size (cellsFrom (s3.heap.objs.size + 1) scope.names (cloFrom X.env.cells scope.names [])) fp
  have pk := hk s3 (upd H2 D (.dT [])) s3.heap.objs.size (cellsFrom (s3.heap.objs.size + 1) scope.names (cloFrom X.env.cells scope.names [])) fp
  have pe := he s3 (upd H2 D (.dT [])) s3.heap.objs.size (cellsFrom (s3.heap.objs.size + 1) scope.names (cloFrom X.env.cells scope.names [])) fp
  show codeAny _ _ (.compStart (.DictComp kx vx [⟨tg, iter, ifs, 0⟩] scope pos) 0 (.ref it) (.ref D) (compEnvC scope (cellsFrom (s3.heap.objs.size + 1) scope.names (cloFrom X.env.cells scope.names [])) s3.heap.objs.size X.env)) (compPost (model X.prog X.w) X.A X.xe use Qf (.ref D) s3.heap.objs.size) { s3 with heap := pushCells (s3.heap.push { cls := .type "dict", data := .dict #[] }) scope.names }
  have nfp : ∀ b ∈ fp, (upd H2 D (.dT [])) b = none := fun b hb => (f3 b hb).1.1
  generalize hce : compEnvC scope (cellsFrom (s3.heap.objs.size + 1) scope.names (cloFrom X.env.cells scope.names [])) s3.heap.objs.size X.env = ce at I4 pg pt pk pe ⊢
  have cL : ce.locals = s3.heap.objs.size := by subst hce; rfl
  generalize hH3 : upd H2 D (.dT []) = H3 at I3 I4 pg pt pk pe w0 nfp f3
  generalize hs4 : ({ s3 with heap := pushCells (s3.heap.push { cls := .type "dict", data := .dict #[] }) scope.names } : Shared) = s4 at I4 ⊢
  have st4 : tn 0 s4.heap := T.keep _ _ _ st3 fun b _ o e => by rw [← hs4]; exact pushCells_keeps _ _ _ _ (Heap.get?_push_of_some _ e)
  have stat : ∀ {σ' : St} {H' : Hp} {s' : Shared}, Inv (X.blk s3 H3 scope ce fp) [] σ' H' s' → (∀ b ∈ fp, H' b = none) → ∀ b ∈ fp, FpOk (X.blk s3 H3 scope ce fp) [] H' b := fun {σ' H' s'} I' hn b hb =>
    ⟨hn b hb, (I'.ok.exf b hb).1, I'.ok.exfs b hb, .inl hb, fun x c e => (I'.ok.exf b hb).2 x c e, fun p hp => absurd (show p ∈ ([] : List (Addr × Obj)) ++ [] from hp) (by simp)⟩
  have loop : codeAny (model X.prog X.w) X.A (.compLoop (.DictComp kx vx [⟨tg, iter, ifs, 0⟩] scope pos) 0 (.ref it) (.ref D) ce) (compPost (model X.prog X.w) X.A X.xe use Qf (.ref D) s3.heap.objs.size) s4 := by
    refine compLoop_anyD (fun n s' => ∃ i H', Inv (X.blk s3 H3 scope ce fp) [] (wipe σ (own.map (·.2))) H' s' ∧ tn i s'.heap ∧ (∀ b ∈ fp, H' b = none) ∧ W i n H') ?_ m0 ⟨0, H3, I4, st4, nfp, w0⟩
    rintro n s5 ⟨i, H5, I5, st5, n5, w5⟩
    rcases turn i n H5 w5 with ⟨stop, qq⟩ | ⟨go, Nx, hNx, step⟩
    · have td := T.done (X.blk s3 H3 scope ce fp) rfl rfl rfl hc i [] s5 _ H5 (fun _ _ => False) I5 (stat I5 n5) st5 stop
      refine thnF td fun r s6 ⟨hr, I6⟩ => ?_
      subst hr
      -- back in the def's context
      have I7 : Inv X pins σ H5 s6 := I3.call' (ch := fp) I6.os I6.base I6.hok I6.bare fun b hb => ⟨(f3 b hb).1.2.2.2.1, (f3 b hb).1.2.1, (f3 b hb).1.2.2.2.2.1, (f3 b hb).1.2.2.2.2.2⟩
      have nC : H5 s3.heap.objs.size = none := by
        have z : H5 ce.locals = none := I6.free
        rw [cL] at z
        exact z
      obtain ⟨m, hn, _⟩ := I6.loc
      have hn : s6.heap.Ns ce.locals m := hn
      rw [cL] at hn
      exact hRR D s3.heap.objs.size s6 m H5 I7 qq hn (I3.fpOk (Nat.le_refl _) nC)
    · have ti := T.item (X.blk s3 H3 scope ce fp) rfl rfl rfl hc i [] s5 _ H5 (fun _ _ => False) I5 (stat I5 n5) st5 go
      refine thnF ti fun r s6 ⟨u, hr, h6⟩ => ?_
      subst hr
      refine thnF h6 fun _ s7 ⟨x, H7, I7, r7, y7, st7, n7⟩ => ?_
      have I7' := I7.pinned (stat I7 n7) (T.obj _ _ st7)
      refine thnF (pg.run _ s7 _ H7 x u _ I7' r7 (step x H7 y7)) fun _ s8 ⟨σ8, H8, I8, hw8, q8⟩ => ?_
      refine thnF (pt.run _ s8 σ8 H8 _ I8 q8) fun b s9 ⟨H9, I9, q9⟩ => ?_
      -- the turn's end
      have fin : ∀ {s' : Shared} {H' : Hp}, Inv (X.blk s3 H3 scope ce fp) ([] ++ pinsAt fp s7.heap) σ8 H' s' → Nx H' → ∃ m, m < n ∧ ∃ i H', Inv (X.blk s3 H3 scope ce fp) [] (wipe σ (own.map (·.2))) H' s' ∧ tn i s'.heap ∧ (∀ b ∈ fp, H' b = none) ∧ W i m H' := fun {s' H'} I' nx => by
        obtain ⟨m', hm, w'⟩ := hNx H' nx
        have pin' : ∀ b ∈ fp, ∀ o, s7.heap.get? b = some o → s'.heap.get? b = some o ∧ H' b = none := fun b hb o e =>
          let z := I'.pin (b, o) (List.mem_append_right _ (List.mem_append_right _ (mem_pinsAt hb e)))
          ⟨z.1, z.2.1⟩
        have hl : (wipe σ (own.map (·.2))).length = σ8.length := by rw [← hw8, wipe_length]
        refine ⟨m', hm, i + 1, H', (I'.unpinned (pins := [])).weak hl (fun j v e => ?_), T.keep _ _ _ st7 fun b hb o e => (pin' b hb o e).1, fun b hb => ?_, w'⟩
        · rw [← hw8] at e
          exact (wipe_some e).1
        · obtain ⟨o, e, _⟩ := T.obj _ _ st7 b hb
          exact (pin' b hb o e).2
      cases b with
      | false =>
        simp only [Bool.false_eq_true, if_false] at q9 ⊢
        exact fin I9 q9
      | true =>
        simp only [if_true] at q9 ⊢
        refine thnF (pk.run _ s9 σ8 H9 _ I9 q9) fun z s10 ⟨yk, H10, I10, r10, q10⟩ => ?_
        refine thnF (pe.run _ s10 σ8 H10 _ I10 q10) fun z2 s11 ⟨yv, H11, I11, r11, kvs, k, kb, ek, hb11, hD11, hz11, nx⟩ => ?_
        subst ek
        exact d_dictSetT (X := X.blk s3 H3 scope ce fp) hu I11 hD11 hb11 hz11 r10 r11 fun s12 I12 => fin I12 nx
  exact codeAny_compStart_dict loop (T.self X.A 0 _ _ _ st4 loop)
/-- as a value -/
theorem pe_dcT {kx vx tg iter : Expr} {ifs : List Expr} {scope : Scope} {own : List (Str × Nat)} {pos : Pos} {wi : TI} {g : TG} {tt : TT} {tk tv : TE} (hu : X.A.units + 1 < cLine) (hc : X.calm = true) (hN : X.N.Nodup) (hi : PI X tg iter wi) (ok : BlkOk X.N X.env.scope scope own)
    (hg : ∀ (s : Shared) (H : Hp) (C : Addr) (cl : List (Str × Addr)) (fp : List Addr), PG (X.blk s H scope (compEnvC scope cl C X.env) fp) tg g) (ht : ∀ (s : Shared) (H : Hp) (C : Addr) (cl : List (Str × Addr)) (fp : List Addr), PTs (X.blk s H scope (compEnvC scope cl C X.env) fp) ifs tt)
    (hk : ∀ (s : Shared) (H : Hp) (C : Addr) (cl : List (Str × Addr)) (fp : List Addr), PE (X.blk s H scope (compEnvC scope cl C X.env) fp) kx tk)
    (he : ∀ (s : Shared) (H : Hp) (C : Addr) (cl : List (Str × Addr)) (fp : List Addr), PE (X.blk s H scope (compEnvC scope cl C X.env) fp) vx tv) (hs : ∀ x, foldedSetIterable iter X.env x = pure x := by intro _; rfl) :
    PE X (.DictComp kx vx [⟨tg, iter, ifs, 0⟩] scope pos) (tDcT wi g tt tk tv (own.map (·.2))) := by
  refine ⟨fun pins s σ H Q I h => ?_⟩
  rw [arm_eval_DictComp]
  refine dc_coreT hu hc hN I hi ok hg ht hk he hs h fun D C s' m H' I' q hn f => ⟨m, hn, fun h'' sb => ?_⟩
  obtain ⟨f0, f1, f2, f3, f4, f5⟩ := f
  exact ⟨.ref D, H', I'.turned (t' := s'.toks) (fun b o hb e => (sb.2 b hb).trans e) f0 f1 f3 f4 f5, rfl, q⟩
/-- over a list that stays -/
theorem dc_listT {K : PySem.W.Frag} {a : Addr} {xs : List V} {g : TG} {tt : TT} {tk tv : TE} {vs : List Nat} {σ : St} {H1 : Hp} {D : Addr} {Qd : Hp → Prop} (Pv : Nat → Hp → Prop) (h0 : Pv 0 (upd H1 D (.dT []))) (hl : ∀ i H, i ≤ xs.length → Pv i H → SqL K H a xs)
    (hs : ∀ i x H, xs[i]? = some x → Pv i H → g x (wipe σ vs) H fun σ2 H2 => wipe σ2 vs = wipe σ vs ∧ tt σ2 H2 fun b H3 =>
      if b = true then tk σ2 H3 fun y H4 => tv σ2 H4 fun z H5 => ∃ kvs k b, y = .ref b ∧ H5 b = some (.tup (k.map kV)) ∧ H5 D = some (.dT kvs) ∧ kvs.length < sizeLine ∧ Pv (i + 1) (upd H5 D (.dT (putK kvs k z))) else Pv (i + 1) H3) (hd : ∀ H, Pv xs.length H → Qd H) :
    ∃ W : Nat → Nat → Hp → Prop, (∃ m, W 0 m (upd H1 D (.dT []))) ∧ ∀ i m H, W i m H →
      ((Itl K a).stop i H ∧ Qd H) ∨ ((Itl K a).go i H ∧ ∃ Nx : Hp → Prop, (∀ H', Nx H' → ∃ m', m' < m ∧ W (i + 1) m' H') ∧ ∀ x H', (Itl K a).yld i H x H' → g x (wipe σ vs) H' fun σ2 H2 => wipe σ2 vs = wipe σ vs ∧ tt σ2 H2 fun b H3 =>
        if b = true then tk σ2 H3 fun y H4 => tv σ2 H4 fun z H5 => ∃ kvs k b, y = .ref b ∧ H5 b = some (.tup (k.map kV)) ∧ H5 D = some (.dT kvs) ∧ kvs.length < sizeLine ∧ Nx (upd H5 D (.dT (putK kvs k z))) else Nx H3) := by
  refine ⟨fun i m H => m = xs.length - i ∧ i ≤ xs.length ∧ Pv i H, ⟨xs.length, by simp, Nat.zero_le _, h0⟩, ?_⟩
  rintro i m H ⟨rfl, hi, p⟩
  have q := hl i H hi p
  by_cases hlt : i < xs.length
  · refine .inr ⟨⟨xs, xs[i], q, by simp [hlt]⟩, Pv (i + 1), fun H' p' => ⟨xs.length - (i + 1), by omega, rfl, hlt, p'⟩, fun x H' y => ?_⟩
    obtain ⟨e, y⟩ := y
    subst e
    exact hs i x _ (y xs q) p
  · have e : i = xs.length := by omega
    subst e
    exact .inl ⟨⟨xs, q, Nat.le_refl _⟩, hd H p⟩
theorem vals_of_refsD {β : Type} : ∀ (ks : List (Addr × β)), Vals (ks.map fun p => V.ref p.1) (ks.map fun p => Value.ref p.1)
  | [] => .nil
  | p :: ks => .cons rfl (vals_of_refsD ks)
theorem kt_keys {H : Hp} : ∀ {kvs : List (List Key × V)} {xs : List (List Key × Addr × Value)}, Paired (fun (p : List Key × V) (q : List Key × Addr × Value) => p.1 = q.1 ∧ H q.2.1 = some (.tup (p.1.map kV)) ∧ RelV p.2 q.2.2) kvs xs →
    (xs.map fun q => (q.2.1, q.1)).map (·.2) = kvs.map (·.1) ∧ ∀ p ∈ xs.map (fun q => (q.2.1, q.1)), H p.1 = some (.tup (p.2.map kV)) := by
  intro kvs xs r
  induction r with
  | nil => exact ⟨rfl, fun p hp => nomatch hp⟩
  | @cons p q ps qs hq t ih =>
    obtain ⟨e, ht⟩ := ih
    refine ⟨?_, fun z hz => ?_⟩
    · rw [List.map_cons, List.map_cons, List.map_cons, e, hq.1]
    · rw [List.map_cons] at hz
      rcases List.mem_cons.mp hz with rfl | hz
      · show H q.2.1 = some (.tup (q.1.map kV))
        rw [← hq.1]
        exact hq.2.1
      · exact ht z hz
/-- list(d): the keys, tuples -/
theorem call_listDT (hcalm : X.calm = true) : CallR X (.type "list") (fun xs H Q => ∃ (a : Addr) (kvs : List (List Key × V)), xs = [.ref a] ∧ H a = some (.dT kvs) ∧ ∀ (L : List (Addr × List Key)) (p : Addr), L.map (·.2) = kvs.map (·.1) → (∀ q ∈ L, H q.1 = some (.tup (q.2.map kV))) → H p = none → Q (.ref p) (upd H p (.lst (L.map fun q => V.ref q.1)))) := by
  intro pins s σ H xs us Q I r q
  obtain ⟨a, kvs, ex, hd, q⟩ := q
  subst ex
  obtain ⟨u, eu, rx⟩ := vals1 r
  subst eu
  cases rx
  obtain ⟨z, lo, xs, rel, dd⟩ := dt_of I.hok hd
  obtain ⟨o, es, ep, ho, hc, hdd, he, _, _⟩ := dd
  obtain ⟨k1, k2⟩ := kt_keys rel
  have hlx : xs.length = kvs.length := (Paired.length rel).symm
  have hes : es.size = xs.length := by rw [← Array.length_toList, he, List.length_map]
  refine PySem.W.kdl_call (PySem.KdlSrc.rawDict (es := es) (ep := ep) lo) (I.ok.hd hcalm) ⟨o, ho, hc, hdd⟩ (by rw [hes, hlx]; exact z) fun h' tk acc c' hk hD hacc => ?_
  have eacc : acc.toList = (xs.map fun q => (q.2.1, q.1)).map fun q => Value.ref q.1 := by
    refine List.ext_getElem? fun i => ?_
    by_cases hi : i < xs.length
    · have hia : i < acc.size := by rw [hacc.1, hes]; exact hi
      obtain ⟨hi2, hv⟩ := hacc.2 i acc[i] (Array.getElem?_eq_getElem hia)
      have e1 : es[i]? = (xs.map (entryOfKey (tupleKind (mixKind X.prog X.w))))[i]? := by rw [← he, Array.getElem?_toList]
      rw [Array.getElem?_eq_getElem hi2, List.getElem?_map, List.getElem?_eq_getElem hi] at e1
      have e2 : es[i] = entryOfKey (tupleKind (mixKind X.prog X.w)) xs[i] := Option.some.inj e1
      rw [Array.getElem?_toList, Array.getElem?_eq_getElem hia, hv, e2, List.getElem?_map, List.getElem?_map, List.getElem?_eq_getElem hi]
      rfl
    · rw [List.getElem?_eq_none (by rw [Array.length_toList, hacc.1, hes]; omega), List.getElem?_eq_none (by rw [List.length_map, List.length_map]; omega)]
  have hv : Vals ((xs.map fun q => (q.2.1, q.1)).map fun q => V.ref q.1) acc.toList := by
    rw [eacc]
    exact vals_of_refsD _
  refine ⟨.ref s.heap.objs.size, upd H s.heap.objs.size (.lst ((xs.map fun q => (q.2.1, q.1)).map fun q => V.ref q.1)), I.laid (t' := tk) hk (Nat.le_refl _)
    (show ObjOk X.prog X.w _ _ _ (.lst ((xs.map fun q => (q.2.1, q.1)).map fun q => V.ref q.1)) from ⟨by rw [List.length_map, List.length_map, hlx]; exact z, acc.toList, c', hv, by rw [Array.toArray_toList]; exact hD⟩), rfl, q _ _ k1 k2 (I.hok.fresh (Nat.le_refl _))⟩
end
end L2
end
section
set_option maxRecDepth 100000
set_option maxHeartbeats 2000000
/-! own errors whose context is None: made with or without values, where nothing is handled or in an except suite -/
namespace L2
open PySem PySem.Spec PyProof.Rows
section
variable {X : Cx} {e : Expr} {es : List Expr} {ta : TA} {p pos : Pos}
theorem pmk_oexN {CX : CXT} {x : Str} {C fI : Addr} {k : Nat} {fd : FuncData} {ps : List Str} {sp : Sp} {ds : List Value} {dvs : List V} (T : OexC X.K C) (iC : PySem.W.findIn X.K (.ref C) "__init__" = some (some (.ref fI))) (tI : PySem.W.typeIn X.K (.ref fI) = some (.type "function"))
    (F1 : FnOk X.prog X.w X.K X.mg X.base CX k fI fd ps sp) (hr : Room (k + 1) X.A) (hb : Binds X.K fd ps ds) (hd : Vals dvs ds) (hx : Passes CX X (fun _ _ _ => False)) (hg : Gl X x) (hm : X.mg x = some (.ref C)) (ha : PA X (e :: es) ta)
    (hdb : (x == ("__debug__" : Str)) = false := by decide) (he : starEach (e :: es) X.env = (false, eval e X.env) :: starEach es X.env := by rfl) (hpl : (backTo pos (starEach es X.env)).any (·.1) = false := by rfl) :
    L2N.PMk X (.Call (.Name x p) (e :: es) [] pos) (tMkO C sp dvs ta) := by
  intro pins s σ H Q I h
  obtain ⟨nm, q, N, bs, bm, sn, sub, ab, col, dd, k0, k1, k2, k3, k5, hC, hbm⟩ := T.cls
  refine wpAny_Call_Name_kw (ld_glob I hg hm ?_ hdb)
  refine PySem.W.callWith_K (h₀ := X.base) I.ok.mod.kin T.kC (thn (ha.run pos pins s σ H _ I h) fun us s1 ⟨vs, H1, I1, r1, hz, q1⟩ => ⟨I1.kIn, ?_⟩) he hpl
  show wpAny _ _ (call (.ref C) us) _ _ _
  obtain ⟨hp, g, dr, tk, os⟩ := s1
  have hsz : hp.objs.size ≤ hp.objs.size + 1 := Nat.le_succ _
  have hn : H1 (hp.objs.size + 1) = none := I1.hok.fresh hsz
  have hq := q1 (hp.objs.size + 1) hn
  have kk : ∀ b o, hp.get? b = some o → ((hp.push (PySem.W.kdv_tup us)).push (PySem.HandSPX.excO C hp.objs.size)).get? b = some o := fun b o e => Heap.get?_push_of_some _ (Heap.get?_push_of_some _ e)
  have hget : ((hp.push (PySem.W.kdv_tup us)).push (PySem.HandSPX.excO C hp.objs.size)).get? (hp.objs.size + 1) = some (PySem.HandSPX.excO C hp.objs.size) := by heap_get
  have I2 : Inv X pins σ (upd H1 (hp.objs.size + 1) (exo (hp.objs.size + 1) C none)) ⟨(hp.push (PySem.W.kdv_tup us)).push (PySem.HandSPX.excO C hp.objs.size), g, dr, tk, os⟩ :=
    I1.laid (t' := tk) (a := hp.objs.size + 1) (o := exo (hp.objs.size + 1) C none) (h' := (hp.push (PySem.W.kdv_tup us)).push (PySem.HandSPX.excO C hp.objs.size)) kk hsz (exo_ok hget)
  have r2 : Vals (V.ref (hp.objs.size + 1) :: (vs ++ dvs)) (Value.ref (hp.objs.size + 1) :: (us ++ ds)) := .cons rfl (r1.append hd)
  have hl : (Value.ref (hp.objs.size + 1) :: us ++ ds).length = ps.length := by
    have e := r2.length
    rw [F1.len _ _ _ _ hq] at e
    exact e.symm
  have hus : us.length ≤ sizeLine := by
    rw [← Paired.length r1, sizeLine_eq]
    omega
  refine wpAny_call (PySem.HandSPX.call_own F.excBase_ValueError (fun Y => PySem.HandSPX.refsVE_contains Y bm hbm) (I1.kIn _ _ hC) (PySem.W.looks_findIn I1.kIn iC) (fun self => PySem.W.bind_fn I1.kIn self tI) hus
    (codeAny_mono (F1.run _ X.stack _ _ ⟨Value.ref (hp.objs.size + 1) :: us, []⟩ (Value.ref (hp.objs.size + 1) :: (us ++ ds)) _ _ (fun _ _ _ => False) (hr.make C us []) (I2.env0.make C us []) (hb _ (Value.ref (hp.objs.size + 1) :: us) I2.kIn hl) r2 hq) fun r s' hq' => ?_))
  cases r with
  | error er => exact hx pins σ _ _ er s' I2 hq'
  | ok fl =>
    cases fl with
    | ret u =>
      obtain ⟨v, H2, os2, bare2, un2, hok2, rv, ev, d, fs, ea, ed, hd1, q2⟩ := hq'
      subst ev
      obtain ⟨h2, g2, d2, t2, os'⟩ := s'
      obtain ⟨t0, G, J, kG, ge, hoe, na⟩ := mk_end0 (d2 := d2) (t2 := t2) I1 hsz kk un2 hok2 os2 bare2 ea ed hd1
      refine ⟨rv, ⟨hp.objs.size + 1, _, _, ⟨G, g2, d2, t2, os'⟩, _, .ref C, some d, rfl, J, kG, ge, hoe, ⟨rfl, rfl, fun vs hv => ?_⟩, rfl, rfl, na, rfl, bare2, raises_own T.exC T.tyC, q2⟩⟩
      cases hv
      rfl
    | next => exact False.elim hq'
    | brk => exact False.elim hq'
    | cont => exact False.elim hq'
end
section
variable {X : Cx} {C : Addr} {bmB : List Value} {B newId initId : String}
/-- X(), an own error without __init__, wherever it stands -/
theorem pmk5_own0 {x : Str} {p pos : Pos} (F : ExcBaseFacts B newId initId bmB) (q : PySem.W.excIn X.K C bmB newId = true) (gC : X.mg x = some (.ref C)) (kC : PySem.W.keepIn X.K (.ref C) = true) (r : Raises X (.ref C)) (hg : Gl X x := by rfl)
    (hdb : (x == ("__debug__" : Str)) = false := by decide) : L2H.PMk5 X (.Call (.Name x p) [] [] pos) (fun _ H Q => Q (.ref C) none H) := by
  intro pins s σ H Q I h
  refine wpAny_Call_Name_kw (ld_glob I hg gC ?_ hdb)
  refine PySem.W.callWith_K0 I.kIn kC ?_
  show wpAny _ _ (call (.ref C) []) _ _ _
  obtain ⟨bm, N, nm, qn, bs, hdct, sn, sub, ab, col, dd, k0, k1, k2, k3, k5, mN, hC, hN, hni, T⟩ := exc_obj I.kIn q
  refine wpAny_call_exc_subT F T hC hN hni (fun h' e hm => ?_) (by show 0 ≤ sizeLine; omega)
  exact L2H.mk_of5 I hm r h (I.hok.gone hm.new)
end
/-- what may be let out under one sort of exceptions may be under a weaker one -/
theorem FnOk.weakCX {P : Program} {w : World} {K : PySem.W.Frag} {mg : Str → Option Value} {base : Heap} {CX CX' : CXT} {k : Nat} {f : Addr} {fd : FuncData} {ps : List Str} {sp : Sp} (F : FnOk P w K mg base CX k f fd ps sp) (h : ∀ outer H s E u s', CX outer H s E u s' → CX' outer H s E u s') : FnOk P w K mg base CX' k f fd ps sp :=
  ⟨F.len, fun A outer s H args us vs Q E hr he hb hv hs => codeAny_mono (F.run A outer s H args us vs Q E hr he hb hv hs) fun r s' z => by
    cases r with
    | error er => exact h _ _ _ _ _ _ z
    | ok fl => cases fl <;> exact z⟩
theorem cx_weak {P : Program} {w : World} : ∀ (outer : List Env) (H : Hp) (s : Shared) (E : XK) (u : Value) (s' : Shared), L2N.CX P w outer H s E u s' → L2.CX P w outer H s E u s' := by
  rintro outer H s E u s' ⟨a, B, H', cls, d, e, fl, h1, h2, h3, h4, h5, h6⟩
  exact ⟨a, B, H', cls, d, e, L2H.flyingZ_imp (fun o z => z.zc) fl, h1, h2, h3, h4, h5, h6⟩
end L2
end
section
set_option maxRecDepth 100000
/-! o.f, .. = values: a field as a target -/
namespace L2
open PySem PySem.Spec PyProof.Rows
def gFld (K : PySem.W.Frag) (ta : TE) (f : Str) : TG := fun y σ H Q => ta σ H fun x H2 => ∃ a C dx fs, x = .ref a ∧ H2 a = some (.ins C dx fs) ∧ Cls K C ∧ NoAttr K C f ∧ fs.length < 1000 ∧ Q σ (upd H2 a (.ins C dx (putF f y fs)))
theorem pg_fld {X : Cx} {o : Expr} {f : Str} {ta : TE} {pos : Pos} (ha : PE X o ta) : PG X (.Attribute o f pos) (gFld X.K ta f) := by
  refine ⟨fun pins s σ H y u Q I ry h => ?_⟩
  rw [arm_assign_Attribute]
  refine wpAny_bind (wpAny_holding (thn (ha.run pins s σ H _ I h) fun ov s2 ⟨x, H2, I2, rx, a, C, dx, fs, ex, ea, c, n, l, q2⟩ => ?_))
  subst ex
  obtain rfl : ov = Value.ref a := rx
  refine wpAny_bind (wpAny_standAt (wpAny_bind (wpAny_holding (setattr_ok I2 ea c n l ry fun s3 I3 => ?_))))
  exact wpAny_release ⟨σ, _, I3, q2⟩
end L2
end
section
set_option maxRecDepth 100000
set_option maxHeartbeats 4000000
/-! xs != [] for a list of anything -/
namespace XLs
open PySem PySem.Spec PyProof.Rows L2
def rNeE (K : PySem.W.Frag) : R2 := fun x y H Q => ∃ a b xs, x = .ref a ∧ y = .ref b ∧ SqL K H a xs ∧ SqL K H b [] ∧ Q (.bl (!xs.isEmpty)) H
section
variable {X : Cx}
theorem op_neE (hu : X.A.units < cLine) : OpR X (compareOp .NotEq) (rNeE X.K) := by
  intro pins s σ H x y v u Q I rx ry h
  obtain ⟨a, b, xs, rfl, rfl, ha, hb, q⟩ := h
  obtain rfl : v = Value.ref a := rx
  obtain rfl : u = Value.ref b := ry
  obtain ⟨its, r, pl, hz⟩ := I.list ha
  obtain ⟨its2, r2, pl2, hz2⟩ := I.list hb
  have l1 := r.length
  cases r2
  cases xs with
  | nil =>
    cases r
    have := PySem.SeqAt.RcNeAt.lists (A := X.A) (s := s) pl.isList pl2.isList rfl hu (e := fun _ => true) (fun j j1 j2 => by simp at j1)
    exact this X.prog X.w _ _ ⟨.bl false, H, I, rfl, q⟩
  | cons x xs =>
    refine PySem.SeqAt.RcNeAt.lists_lengths (A := X.A) (s := s) pl.isList pl2.isList ?_ hu X.prog X.w _ _ ⟨.bl true, H, I, rfl, q⟩
    cases its with
    | nil => cases r
    | cons y ys => simp
end
end XLs
end
section
set_option maxRecDepth 100000
set_option maxHeartbeats 4000000
/-! xs == [] for a list of anything -/
namespace XQs
open PySem PySem.Spec PyProof.Rows L2
def rEqE (K : PySem.W.Frag) : R2 := fun x y H Q => ∃ a b xs, x = .ref a ∧ y = .ref b ∧ SqL K H a xs ∧ SqL K H b [] ∧ Q (.bl xs.isEmpty) H
section
variable {X : Cx}
theorem op_eqE (hu : X.A.units < cLine) : OpR X (compareOp .Eq) (rEqE X.K) := by
  intro pins s σ H x y v u Q I rx ry h
  obtain ⟨a, b, xs, rfl, rfl, ha, hb, q⟩ := h
  obtain rfl : v = Value.ref a := rx
  obtain rfl : u = Value.ref b := ry
  obtain ⟨its, r, pl, hz⟩ := I.list ha
  obtain ⟨its2, r2, pl2, hz2⟩ := I.list hb
  have l1 := r.length
  cases r2
  cases xs with
  | nil =>
    cases r
    have := PySem.SeqAt.RcAt.lists (A := X.A) (s := s) pl.isList pl2.isList rfl hu (e := fun _ => true) (fun j j1 j2 => by simp at j1)
    exact this X.prog X.w _ _ ⟨.bl true, H, I, rfl, q⟩
  | cons x xs =>
    refine PySem.SeqAt.RcAt.lists_lengths (A := X.A) (s := s) pl.isList pl2.isList ?_ hu X.prog X.w _ _ ⟨.bl false, H, I, rfl, q⟩
    cases its with
    | nil => cases r
    | cons y ys => simp
end
end XQs
end
section
set_option maxRecDepth 100000
set_option maxHeartbeats 4000000
/-! sorted(a list of tuples of ints of any lengths, the empty one too) -/
namespace L2
open PySem PySem.Spec PyProof.Rows PySem.Calls PySem.SeqAt
section
variable {P : Program} {w : World} {A : Around} {E : Value → Shared → Prop} {s : Shared}
theorem sorted_listV {l : Addr} {L : List (Addr × List Int)} {Q : Value → Shared → Prop} (hl : s.heap.IsList l (L.map fun q => Value.ref q.1).toArray) (hT : ∀ q ∈ L, IsT P w s.heap q.2 q.1) (h64 : L.length < 64) (hu : A.units + 3 < cLine)
    (hQ : ∀ s' p (out : Array Value) (c : Nat) (L' : List (Addr × List Int)), (∀ b o, s.heap.get? b = some o → s'.heap.get? b = some o) → s'.gens = s.gens → s'.os = s.os → s.heap.objs.size ≤ p →
      s'.heap.get? p = some (seqObj "list" out c) → out.toList = L'.map (fun q => Value.ref q.1) → L'.Perm L → L'.Pairwise (fun q r => q.2 ≤ r.2) → Q (.ref p) s') :
    wpAny (model P w) A (call (.builtin "sorted") [.ref l]) Q E s := by
  have hvl : (L.map fun q => Value.ref q.1).length < 64 := by rw [List.length_map]; exact h64
  have hvs : ∀ q ∈ L, Value.ref q.1 ∈ L.map fun q => Value.ref q.1 := fun q hq => List.mem_map.mpr ⟨q, hq, rfl⟩
  have each1 : ∀ L1 : List (Addr × List Int), W.EachIs (fun v (q : Addr × List Int) => v = Value.ref q.1) (L1.map fun q => Value.ref q.1) L1 := by
    intro L1
    induction L1 with
    | nil => exact .nil
    | cons q L1 ih => exact .cons rfl ih
  have ee := each1 L
  generalize (L.map fun q => Value.ref q.1) = vs at *
  refine Calls.call_function_entry kind_sorted plain_sorted entry_sorted (args_sorted1 _) ?_
  unfold Builtin.«sorted»
  refine wpAny_bind (m := checkCount "sorted" 1 1 _) (wpAny_pure ?_)
  refine wpAny_bind (collect_list hl ?_ (by rw [sizeLine_eq]; omega))
  refine wpAny_bind (wpAny_newList ?_ (by rw [sizeLine_eq]; omega))
  have hsz : ((s.heap.push (seqObj "list" #[] 0)).update s.heap.objs.size (Obj.mapSeq (· ++ vs.toArray))).objs.size = s.heap.objs.size + 1 := by
    rw [Heap.size_update, size_push']
  have hoL : (((s.heap.push (seqObj "list" #[] 0)).update s.heap.objs.size (Obj.mapSeq (· ++ vs.toArray))).push (seqObj "list" vs.toArray 0)).get? (s.heap.objs.size + 1) = some (seqObj "list" vs.toArray 0) := by
    rw [← hsz]; exact Heap.get?_push_size _ rfl
  have keep : ∀ b o, s.heap.get? b = some o → (((s.heap.push (seqObj "list" #[] 0)).update s.heap.objs.size (Obj.mapSeq (· ++ vs.toArray))).push (seqObj "list" vs.toArray 0)).get? b = some o := fun b o q => by
    have hlt : b < s.heap.objs.size := Heap.lt_size q
    rw [Heap.get?_push_ne _ _ _ (by rw [hsz]; exact Nat.ne_of_lt (Nat.lt_succ_of_lt hlt)), Heap.get?_update_ne _ _ _ _ (Nat.ne_of_lt hlt), Heap.get?_push_ne _ _ _ (Nat.ne_of_lt hlt)]
    exact q
  have hsz2 : (((s.heap.push (seqObj "list" #[] 0)).update s.heap.objs.size (Obj.mapSeq (· ++ vs.toArray))).push (seqObj "list" vs.toArray 0)).objs.size = s.heap.objs.size + 1 + 1 := by
    rw [size_push', hsz]
  show wpAny _ _ _ _ _ { s with heap := ((s.heap.push (seqObj "list" #[] 0)).update s.heap.objs.size (Obj.mapSeq (· ++ vs.toArray))).push (seqObj "list" vs.toArray 0) }
  rw [hsz]
  generalize ((s.heap.push (seqObj "list" #[] 0)).update s.heap.objs.size (Obj.mapSeq (· ++ vs.toArray))).push (seqObj "list" vs.toArray 0) = h1 at *
  have tk : ∀ q ∈ L, TS.TupInts h1 (.ref q.1) q.2 := fun q hq => tupInts_of (P := P) (w := w) (isT_keep (hT q hq) fun b u e => keep b u e)
  have er : W.EachIs (fun v (q : Addr × List Int) => ∃ as, PySem.Reads h1 v (XTS.tI q.2) as ∧ s.heap.objs.size + 1 ∉ as) vs L := (W.each_mem ee).mono fun v q ⟨hv, hq⟩ => ⟨[], by rw [hv]; exact XTS.reads_tup (tk q hq), fun z => nomatch z⟩
  refine wpAny_bind (wpAny_holding (XTS.list_sort_tups (f := fun q : Addr × List Int => q.2) (s := { s with heap := h1 }) hoL ee er (by rw [sizeLine_eq]; omega) (by show A.units + 1 + 2 < cLine; omega) fun out a1 a2 => ?_))
  obtain ⟨c, hc⟩ := sortedHeap_at (vs := vs) (out := out.toArray) hoL
  have each2 : ∀ {o : List Value} {M : List (Addr × List Int)}, W.EachIs (fun v (q : Addr × List Int) => v = Value.ref q.1) o M → o = M.map fun q => Value.ref q.1 := by
    intro o M h
    induction h with
    | nil => rfl
    | cons h1 _ ih => rw [h1, ih]; rfl
  have pw : (L.mergeSort (W.dataLe false fun q : Addr × List Int => XTS.tI q.2)).Pairwise (fun q r => q.2 ≤ r.2) := by
    rw [XTS.tI_le]
    exact (List.pairwise_mergeSort (le := fun p q : Addr × List Int => decide (p.2 ≤ q.2)) (fun a b c h1 h2 => by
      have h1 := of_decide_eq_true h1
      have h2 := of_decide_eq_true h2
      exact decide_eq_true (List.le_trans h1 h2)) (fun a b => by
      rcases List.le_total a.2 b.2 with h | h
      · simp [h]
      · simp [h]) L).imp fun h => of_decide_eq_true h
  refine wpAny_pure ⟨_, rfl, hQ _ (s.heap.objs.size + 1) out.toArray c _ (fun b u e => ?_) rfl rfl (Nat.le_succ _) hc (by rw [List.toList_toArray]; exact each2 a2) (List.mergeSort_perm L _) pw⟩
  have hlt := Heap.lt_size e
  show (sortedHeap h1 (s.heap.objs.size + 1) vs out.toArray).get? b = some u
  rw [sortedHeap_old (Nat.ne_of_lt (Nat.lt_succ_of_lt hlt)) (by rw [hsz2]; exact Nat.lt_succ_of_lt (Nat.lt_succ_of_lt hlt))]
  exact keep _ _ e
end
section
variable {X : Cx}
def rSortedLV (K : PySem.W.Frag) : List V → Hp → VK → Prop := fun vs H Q => ∃ (a : Addr) (L : List (Addr × List Int)), vs = [V.ref a] ∧ SqL K H a (L.map fun q => V.ref q.1) ∧ (∀ p ∈ L, SqT K H p.1 (p.2.map V.int)) ∧ L.length < 64 ∧
  ∀ (L' : List (Addr × List Int)) (p : Addr), L'.Perm L → L'.Pairwise (fun q r => q.2 ≤ r.2) → H p = none → Q (.ref p) (upd H p (.lst (L'.map fun q => V.ref q.1)))
theorem cr_sortedLV (hc : X.calm = true) (hu : X.A.units + 64 < cLine) : CallR X (.builtin "sorted") (rSortedLV X.K) := by
  intro pins s σ H vs us Q I r h
  obtain ⟨a, L, rfl, hs, hk, h64, q⟩ := h
  obtain ⟨its, rv, hl, hz⟩ := I.list hs
  obtain rfl := refs_of_vals rv
  rw [Vals.ref1 r]
  refine sorted_listV (P := X.prog) (w := X.w) hl.isList (fun p hp => I.isT (hk p hp)) h64 (by omega) fun s' p out c L' k g o hp hg hout pm pw => ?_
  have hlen : (L'.map fun q => V.ref q.1).length ≤ sizeLine := by rw [List.length_map, pm.length_eq, sizeLine_eq]; omega
  have hn : H p = none := I.hok.fresh hp
  have hv : Vals (L'.map fun q => V.ref q.1) out.toList := by rw [hout]; exact vals_of_refs L'
  have J : Inv X pins σ (upd H p (.lst (L'.map fun q => V.ref q.1))) { s with heap := s'.heap, gens := s'.gens, drawn := s'.drawn, toks := s'.toks } :=
    I.call (ch := []) (Un.laid k hp hn) (I.hok.laid k hp ⟨hlen, out.toList, c, hv, hg⟩) (by rw [g]; exact I.bare) (fun _ z => nomatch z)
  have e : s' = { s with heap := s'.heap, gens := s'.gens, drawn := s'.drawn, toks := s'.toks } := by
    cases s'
    cases s
    cases o
    rfl
  rw [e]
  exact ⟨.ref p, _, J, rfl, q L' p pm pw hn⟩
end
end L2
namespace L2
open PySem PySem.Spec PyProof.Rows
/-- where no raising is wished for, nothing is raised -/
theorem FnOk.noX {P : Program} {w : World} {K : PySem.W.Frag} {mg : Str → Option Value} {base : Heap} {k : Nat} {f : Addr} {fd : FuncData} {ps : List Str} {sp : Sp} (F : FnOk P w K mg base (L2.CX P w) k f fd ps sp) : FnOk P w K mg base CX0 k f fd ps (fun vs H Q _ => sp vs H Q (fun _ _ _ => False)) :=
  ⟨fun vs H Q _ h => F.len vs H Q _ h, fun A outer s H args us vs Q E hr he hb hv hs => codeAny_mono (F.run A outer s H args us vs Q (fun _ _ _ => False) hr he hb hv hs) fun r s' z => by
    cases r with
    | error er =>
      obtain ⟨_, _, _, _, _, _, _, _, _, _, _, _, h⟩ := z
      exact h.elim
    | ok fl => cases fl <;> exact z⟩
end L2
end
section
set_option maxRecDepth 100000
set_option maxHeartbeats 4000000
namespace MS
open PySem L2
/-! ### the class Heap: what stands, its making, its tellings -/
abbrev s_is_place : Stmt := topS 47
theorem sc_is_place : FnScope ["thing", "many"] ["thing", "many"] (defScope s_is_place) := ⟨rfl, rfl, rfl, by decide +kernel, rfl, by decide +kernel, by decide +kernel⟩
abbrev s_H_init : Stmt := inClass (topS 51) 0
theorem sc_H_init : FnScope ["self", "paper"] ["self", "paper"] (defScope s_H_init) := ⟨rfl, rfl, rfl, by decide +kernel, rfl, by decide +kernel, by decide +kernel⟩
abbrev s_H_become : Stmt := inClass (topS 51) 1
theorem sc_H_become : FnScope ["self", "paper", "held"] ["self", "paper", "held"] (defScope s_H_become) := ⟨rfl, rfl, rfl, by decide +kernel, rfl, by decide +kernel, by decide +kernel⟩
abbrev s_H_kept : Stmt := inClass (topS 51) 2
theorem sc_H_kept : FnScope ["self", "number"] ["self", "number"] (defScope s_H_kept) := ⟨rfl, rfl, rfl, by decide +kernel, rfl, by decide +kernel, by decide +kernel⟩
abbrev s_H_add : Stmt := inClass (topS 51) 3
theorem sc_H_add : FnScope ["self", "work", "steps"] ["self", "work"] (defScope s_H_add) := ⟨rfl, rfl, rfl, by decide +kernel, rfl, by decide +kernel, by decide +kernel⟩
abbrev s_H_reread : Stmt := inClass (topS 51) 4
abbrev nmReread : List Str := ["self", "number", "place", "step", "work", "rows", "steps", "now"]
abbrev psReread : List Str := ["self", "number", "place", "step"]
theorem sc_H_reread : FnScope nmReread psReread (defScope s_H_reread) := ⟨rfl, rfl, rfl, by decide +kernel, rfl, by decide +kernel, by decide +kernel⟩
abbrev s_H_change : Stmt := inClass (topS 51) 5
abbrev nmChange : List Str := ["self", "number", "scheme", "paper", "held", "others", "work", "rows", "at"]
theorem sc_H_change : FnScope nmChange ["self", "number", "scheme"] (defScope s_H_change) := ⟨rfl, rfl, rfl, by decide +kernel, rfl, by decide +kernel, by decide +kernel⟩
abbrev s_H_back : Stmt := inClass (topS 51) 6
theorem sc_H_back : FnScope ["self"] ["self"] (defScope s_H_back) := ⟨rfl, rfl, rfl, by decide +kernel, rfl, by decide +kernel, by decide +kernel⟩
abbrev s_H_work : Stmt := inClass (topS 51) 7
theorem sc_H_work : FnScope ["self", "number", "work", "rows"] ["self", "number"] (defScope s_H_work) := ⟨rfl, rfl, rfl, by decide +kernel, rfl, by decide +kernel, by decide +kernel⟩
abbrev s_H_rows : Stmt := inClass (topS 51) 8
theorem sc_H_rows : FnScope ["self", "number", "work", "rows"] ["self", "number"] (defScope s_H_rows) := ⟨rfl, rfl, rfl, by decide +kernel, rfl, by decide +kernel, by decide +kernel⟩
abbrev s_H_sheet : Stmt := inClass (topS 51) 9
theorem sc_H_sheet : FnScope ["self", "work", "rows"] ["self"] (defScope s_H_sheet) := ⟨rfl, rfl, rfl, by decide +kernel, rfl, by decide +kernel, by decide +kernel⟩
/-- what the text says of the class -/
structure HCls (K : PySem.W.Frag) (mg : Str → Option Value) (C : Addr) where
  cl : Cls K C
  nPaper : NoAttr K C "paper"
  nHeld : NoAttr K C "held"
  nPast : NoAttr K C "past"
  mgC : mg "Heap" = some (.ref C)
  makes : PySem.W.makesIn K C = true
  kp : PySem.W.keepIn K (.ref C) = true
  DI : DefM K C "__init__" "Heap.__init__" s_H_init ["self", "paper"]
  DBe : DefM K C "become" "Heap.become" s_H_become ["self", "paper", "held"]
  DK : DefM K C "kept" "Heap.kept" s_H_kept ["self", "number"]
  DA : DefM K C "add" "Heap.add" s_H_add ["self", "work"]
  DR : DefM K C "reread" "Heap.reread" s_H_reread psReread
  DC : DefM K C "change" "Heap.change" s_H_change ["self", "number", "scheme"]
  DB : DefM K C "back" "Heap.back" s_H_back ["self"]
  DW : DefM K C "work" "Heap.work" s_H_work ["self", "number"]
  DRo : DefM K C "rows" "Heap.rows" s_H_rows ["self", "number"]
  DS : DefM K C "sheet" "Heap.sheet" s_H_sheet ["self"]
theorem HCls.mk' {K : PySem.W.Frag} {mg : Str → Option Value} {C : Addr} (V : HCls K mg C) : Mk K C V.DI.f := ⟨V.makes, V.DI.me.at_, V.DI.me.fn, V.kp⟩
theorem n_ph : ¬ (("paper" : Str) = "held") := by decide +kernel
theorem n_pt : ¬ (("paper" : Str) = "past") := by decide +kernel
theorem n_ht : ¬ (("held" : Str) = "past") := by decide +kernel
/-- the fields of a heap -/
def hf (pa he pt : V) : List (Str × V) := putF "past" pt (putF "held" he (putF "paper" pa []))
theorem hf_lit (pa he pt : V) : hf pa he pt = [(("paper" : Str), pa), (("held" : Str), he), (("past" : Str), pt)] := by
  unfold hf
  simp only [putF, if_neg n_ph, if_neg n_pt, if_neg n_ht]
theorem hf_paper (pa he pt x : V) : putF "paper" x (hf pa he pt) = hf x he pt := by
  rw [hf_lit, hf_lit]
  simp only [putF, if_true]
theorem hf_held (pa he pt x : V) : putF "held" x (hf pa he pt) = hf pa x pt := by
  rw [hf_lit, hf_lit]
  simp only [putF, if_true, if_neg n_ph]
theorem hf_lp (pa he pt : V) : (hf pa he pt).lookup ("paper" : Str) = some pa := by
  unfold hf
  rw [lookup_putF, if_neg n_pt, lookup_putF, if_neg n_ph, lookup_putF, if_pos rfl]
theorem hf_lh (pa he pt : V) : (hf pa he pt).lookup ("held" : Str) = some he := by
  unfold hf
  rw [lookup_putF, if_neg n_ht, lookup_putF, if_pos rfl]
theorem hf_lt (pa he pt : V) : (hf pa he pt).lookup ("past" : Str) = some pt := by
  unfold hf
  rw [lookup_putF, if_pos rfl]
theorem hf_no (pa he pt : V) {m : Str} (h1 : ¬ m = "past") (h2 : ¬ m = "held") (h3 : ¬ m = "paper") : (hf pa he pt).lookup m = none := by
  unfold hf
  rw [lookup_putF, if_neg h1, lookup_putF, if_neg h2, lookup_putF, if_neg h3]
  all_goals rfl
theorem hf_len (pa he pt : V) : (hf pa he pt).length < 1000 := by rw [hf_lit]; show 3 < 1000; decide
/-! what stands: F are the addresses of what changes -/
/-- a work held: its steps, its rows -/
def OneAt (F : List Addr) (H : Hp) (ps : List Sch) (ws : List StepT) (v : V) : Prop := ∃ t a r rv, v = .ref t ∧ H t = some (.tup [.ref a, .ref r]) ∧ H a = some (.lst (stepsV ws)) ∧ a ∉ F ∧ H r = some (.lst rv) ∧ r ∉ F ∧ Paired (RowR H) (rAll ps ws) rv
def HeldAt (F : List Addr) (H : Hp) (ps : List Sch) (wss : List (List StepT)) (he : Addr) : Prop := ∃ xs, H he = some (.lst xs) ∧ he ∉ F ∧ Paired (OneAt F H ps) wss xs
abbrev HS : Type := List Sch × List (List StepT)
def GoodS (x : HS) : Prop := PaperOk x.1 ∧ (∀ ws ∈ x.2, WorkOk ws) ∧ x.2.length ≤ 20
def PairAt (F : List Addr) (H : Hp) (x : HS) (v : V) : Prop := ∃ t pa he, v = .ref t ∧ H t = some (.tup [.ref pa, .ref he]) ∧ PaperAt H x.1 (.ref pa) ∧ HeldAt F H x.1 x.2 he
def PastAt (F : List Addr) (H : Hp) (past : List HS) (pt : Addr) : Prop := ∃ xs, H pt = some (.lst xs) ∧ Paired (PairAt F H) past xs
def HeapAt (C : Addr) (F : List Addr) (H : Hp) (a pt : Addr) (x : HS) (past : List HS) : Prop := ∃ dx pa he, H a = some (.ins C dx (hf (.ref pa) (.ref he) (.ref pt))) ∧ PaperAt H x.1 (.ref pa) ∧ HeldAt F H x.1 x.2 he ∧ PastAt F H past pt
/-- what is not of F stays, tuples too -/
def KL (F : List Addr) (H H' : Hp) : Prop := ∀ a xs, H a = some (.lst xs) → a ∉ F → H' a = some (.lst xs)
theorem KL.of {F : List Addr} {H H' : Hp} (k : Keep F H H') : KL F H H' := fun a xs e n => k a _ e n
def KF (F : List Addr) (H H' : Hp) : Prop := KL F H H' ∧ TupK H H'
theorem KF.refl (F : List Addr) (H : Hp) : KF F H H := ⟨KL.of (Keep.refl _ _), TupK.refl _⟩
theorem KF.trans {F : List Addr} {H H1 H2 : Hp} (a : KF F H H1) (b : KF F H1 H2) : KF F H H2 := ⟨fun c xs e n => b.1 c xs (a.1 c xs e n) n, a.2.trans b.2⟩
theorem KF.same {F : List Addr} {H H' : Hp} (s : Same H H') : KF F H H' := ⟨KL.of (Same.keep s), Same.tupK s⟩
theorem KF.of {F S : List Addr} {H H' : Hp} (k : Keep S H H') (hS : ∀ x ∈ S, x ∈ F) (nt : ∀ x ∈ S, ∀ ys, H x ≠ some (.tup ys)) : KF F H H' := ⟨KL.of (k.mono hS), fun a ys e => k a _ e fun hm => nt a hm ys e⟩
theorem PaperAt.kt {H H' : Hp} {ps : List Sch} {v : V} (h : PaperAt H ps v) (k : TupK H H') : PaperAt H' ps v := by
  obtain ⟨a, vs, e, h1, h2⟩ := h
  exact ⟨a, vs, e, k _ _ h1, paired_imp h2 fun _ _ => SAt.keep k _ _ _⟩
theorem OneAt.kf {F : List Addr} {H H' : Hp} {ps : List Sch} {ws : List StepT} {v : V} (h : OneAt F H ps ws v) (k : KF F H H') : OneAt F H' ps ws v := by
  obtain ⟨t, a, r, rv, e, h1, h2, h3, h4, h5, h6⟩ := h
  exact ⟨t, a, r, rv, e, k.2 _ _ h1, k.1 _ _ h2 h3, h3, k.1 _ _ h4 h5, h5, paired_imp h6 fun _ _ z => z.keep k.2⟩
theorem HeldAt.kf {F : List Addr} {H H' : Hp} {ps : List Sch} {wss : List (List StepT)} {he : Addr} (h : HeldAt F H ps wss he) (k : KF F H H') : HeldAt F H' ps wss he := by
  obtain ⟨xs, h1, h2, h3⟩ := h
  exact ⟨xs, k.1 _ _ h1 h2, h2, paired_imp h3 fun _ _ z => z.kf k⟩
theorem PairAt.kf {F : List Addr} {H H' : Hp} {x : HS} {v : V} (h : PairAt F H x v) (k : KF F H H') : PairAt F H' x v := by
  obtain ⟨t, pa, he, e, h1, h2, h3⟩ := h
  exact ⟨t, pa, he, e, k.2 _ _ h1, h2.kt k.2, h3.kf k⟩
theorem pairs_kf {F : List Addr} {H H' : Hp} {past : List HS} {xs : List V} (h : Paired (PairAt F H) past xs) (k : KF F H H') : Paired (PairAt F H') past xs := paired_imp h fun _ _ z => z.kf k
section
variable {P : Program} {w : World} {K : PySem.W.Frag} {mg : Str → Option Value} {base : Heap} {C : Addr}
def spIsPlace : Sp := fun vs H Q _ => ∃ i m : Int, vs = [.int i, .int m] ∧ Q (.bl (decide (0 ≤ i ∧ i < m))) H
theorem ok_is_place (T : PTx w K mg) (D : Def K mg "is_place" s_is_place ["thing", "many"]) (DN : Def K mg "is_number" s_is_number ["thing"]) : FnOk P w K mg base CX0 2 D.f D.fd ["thing", "many"] spIsPlace := by
  have GN : FnOk P w K mg base CX0 1 DN.f DN.fd ["thing"] spIsNumber := ok_is_number T DN
  refine D.ok sc_is_place (fun vs H Q E h => ?_) (fun cdv A outer s H vs Q E hr h => ?_)
  · obtain ⟨i, m, rfl, _⟩ := h
    rfl
  obtain ⟨i, m, rfl, q⟩ := h
  refine ⟨_, pss_one (ps_ret (pe_and (pcall DN GN hr (pa_cons (pv 0) pa_nil)) (pe_one (pe_chain op_le op_lt pe_int (pv 0) (pv 1))))), ?_⟩
  refine ⟨_, rfl, i, rfl, _, rfl, ?_⟩
  refine iteT ⟨_, rfl, _, _, rfl, rfl, _, rfl, ?_⟩
  by_cases h : (0 : Int) ≤ i
  · rw [decide_eq_true h]
    refine iteT ⟨_, rfl, _, _, rfl, rfl, ?_⟩
    have e : decide (0 ≤ i ∧ i < m) = decide (i < m) := by
      by_cases h2 : i < m
      · rw [decide_eq_true h2, decide_eq_true ⟨h, h2⟩]
      · rw [decide_eq_false h2, decide_eq_false fun z => h2 z.2]
    rw [e] at q
    exact q
  · rw [decide_eq_false h]
    rw [decide_eq_false fun z => h z.1] at q
    exact iteF q
def spHInit (C : Addr) : Sp := fun vs H Q _ => ∃ (p dx pa : Addr) (ps : List Sch), vs = [.ref p, .ref pa] ∧ H p = some (.ins C dx []) ∧ PaperAt H ps (.ref pa) ∧ PaperOk ps ∧
  ∀ (he pt : Addr) (H' : Hp), he ≠ pt → H he = none → H pt = none → H' p = some (.ins C dx (hf (.ref pa) (.ref he) (.ref pt))) → H' he = some (.lst []) → H' pt = some (.lst []) → Keep [p] H H' → Q .non H'
theorem ok_hinit (T : PTx w K mg) (DP : DPaper K mg) (Y : HCls K mg C) : FnOk P w K mg base CX0 6 Y.DI.f Y.DI.fd ["self", "paper"] (spHInit C) := by
  have GC : FnOk P w K mg base CX0 5 DP.DC.f DP.DC.fd ["paper"] spCheckPaper := ok_check_paper T DP
  refine Y.DI.ok sc_H_init (fun vs H Q E h => ?_) (fun cdv A outer s H vs Q E hr h => ?_)
  · obtain ⟨p, dx, pa, ps, rfl, _⟩ := h
    rfl
  obtain ⟨p, dx, pa, ps, rfl, hp, hpa, hP, q⟩ := h
  refine ⟨_, pss_cons (ps_expr (pcall DP.DC GC hr (pa_cons (pv 1) pa_nil))) (pss_cons (ps_fld (pv 0) (pv 1) rfl) (pss_cons (ps_fld (pv 0) (pe_lst pa_nil) rfl) (pss_one (ps_fld (pv 0) (pe_lst pa_nil) rfl)))), ?_⟩
  obtain ⟨_, pv0, e0, epv, pp⟩ := hpa
  obtain rfl := V.ref.inj e0
  refine ⟨_, rfl, pa, ps, pv0, rfl, epv, pp, hP, fun H1 s1 => ?_⟩
  refine ⟨_, rfl, _, rfl, p, C, dx, _, rfl, s1 _ _ hp, Y.cl, Y.nPaper, (by show 0 < 1000; decide), ?_⟩
  refine ⟨Nat.zero_le _, fun he hhe => ⟨_, rfl, p, C, dx, _, rfl, (by rw [upd_ne (ne_of_none upd_same hhe), upd_same]), Y.cl, Y.nHeld, (by show 1 < 1000; decide), ?_⟩⟩
  refine ⟨Nat.zero_le _, fun pt hpt => ⟨_, rfl, p, C, dx, _, rfl, (by rw [upd_ne (ne_of_none upd_same hpt), upd_same]), Y.cl, Y.nPast, Nat.lt_of_le_of_lt (length_putF _ _ _) (by show 1 + 1 < 1000; decide), ?_⟩⟩
  have nhp : p ≠ he := ne_of_none upd_same hhe
  have npp : p ≠ pt := ne_of_none upd_same hpt
  have nhe : he ≠ pt := ne_of_none (by rw [upd_ne nhp.symm, upd_same]) hpt
  have h1 : H1 he = none := by rw [upd_ne nhp.symm] at hhe; exact hhe
  have h2 : H1 pt = none := by rw [upd_ne npp.symm, upd_ne nhe.symm, upd_ne npp.symm] at hpt; exact hpt
  refine q he pt _ nhe (s1.free h1) (s1.free h2) upd_same (by rw [upd_ne nhp.symm, upd_ne nhe, upd_ne nhp.symm, upd_same]) (by rw [upd_ne npp.symm, upd_same]) fun b o e hb => ?_
  have nb : b ≠ p := fun z => hb (by rw [z]; exact List.mem_cons_self)
  have e1 := s1 _ _ e
  rw [upd_ne nb, upd_ne (ne_of_none e1 h2), upd_ne nb, upd_ne (ne_of_none e1 h1), upd_ne nb]
  exact e1
def spBecome (C : Addr) : Sp := fun vs H Q _ => ∃ (a dx pa he pt pa' he' : Addr) (xs : List V), vs = [.ref a, .ref pa', .ref he'] ∧ H a = some (.ins C dx (hf (.ref pa) (.ref he) (.ref pt))) ∧ H pt = some (.lst xs) ∧ xs.length < 1000 ∧
  ∀ (t : Addr) (H' : Hp), H t = none → H' t = some (.tup [.ref pa, .ref he]) → H' pt = some (.lst (xs ++ [.ref t])) → H' a = some (.ins C dx (hf (.ref pa') (.ref he') (.ref pt))) → Keep [a, pt] H H' → Q .non H'
theorem ok_become (Y : HCls K mg C) : FnOk P w K mg base CX0 1 Y.DBe.f Y.DBe.fd ["self", "paper", "held"] (spBecome C) := by
  refine Y.DBe.ok sc_H_become (fun vs H Q E h => ?_) (fun cdv A outer s H vs Q E hr h => ?_)
  · obtain ⟨a, dx, pa, he, pt, pa', he', xs, rfl, _⟩ := h
    rfl
  obtain ⟨a, dx, pa, he, pt, pa', he', xs, rfl, ea, ept, hl, q⟩ := h
  refine ⟨_, pss_cons (ps_expr (pe_bm PySem.F.plainAttrs_list PySem.F.slot_list_append PySem.F.type_list_append mt_append (pe_fld (pv 0) rfl) (pa_cons (pe_tup (pa_cons (pe_fld (pv 0) rfl) (pa_cons (pe_fld (pv 0) rfl) pa_nil))) pa_nil)))
    (pss_cons (ps_fld (pv 0) (pv 1) rfl) (pss_one (ps_fld (pv 0) (pv 2) rfl))), ?_⟩
  have nap : a ≠ pt := fun z => by rw [z, ept] at ea; cases ea
  refine ⟨_, rfl, a, C, dx, _, _, rfl, ea, Y.cl, Y.nPast, hf_lt _ _ _, .inl ⟨rfl, _, SqL.of ept⟩, ?_⟩
  refine ⟨_, rfl, a, C, dx, _, _, rfl, ea, Y.cl, Y.nPaper, hf_lp _ _ _, _, rfl, a, C, dx, _, _, rfl, ea, Y.cl, Y.nHeld, hf_lh _ _ _, sz2, fun t ht => ?_⟩
  have nat : a ≠ t := ne_of_none ea ht
  have npt : pt ≠ t := ne_of_none ept ht
  refine ⟨pt, _, _, rfl, rfl, by rw [upd_ne npt]; exact ept, small1000 (Nat.le_of_lt hl), ?_⟩
  refine ⟨_, rfl, _, rfl, a, C, dx, _, rfl, by rw [upd_ne nap, upd_ne nat]; exact ea, Y.cl, Y.nPaper, hf_len _ _ _, ?_⟩
  refine ⟨_, rfl, _, rfl, a, C, dx, _, rfl, upd_same, Y.cl, Y.nHeld, by rw [hf_paper]; exact hf_len _ _ _, ?_⟩
  rw [hf_paper, hf_held]
  refine q t _ ht (by rw [upd_ne nat.symm, upd_ne nat.symm, upd_ne npt.symm, upd_same]) (by rw [upd_ne nap.symm, upd_ne nap.symm, upd_same]) upd_same fun b o e hb => ?_
  have n1 : b ≠ a := fun z => hb (by rw [z]; exact List.mem_cons_self)
  have n2 : b ≠ pt := fun z => hb (by rw [z]; exact List.mem_cons_of_mem _ List.mem_cons_self)
  rw [upd_ne n1, upd_ne n1, upd_ne n2, upd_ne (ne_of_none e ht)]
  exact e
def spKept (C : Addr) : Sp := fun vs H Q _ => ∃ (a dx pa he pt : Addr) (xs : List V) (n : Nat) (x : V), vs = [.ref a, .int ((n : Nat) : Int)] ∧ H a = some (.ins C dx (hf (.ref pa) (.ref he) (.ref pt))) ∧ H he = some (.lst xs) ∧ xs[n]? = some x ∧ Q x H
theorem ok_kept (T : PTx w K mg) (Y : HCls K mg C) (DPl : Def K mg "is_place" s_is_place ["thing", "many"]) (DN : Def K mg "is_number" s_is_number ["thing"]) : FnOk P w K mg base CX0 3 Y.DK.f Y.DK.fd ["self", "number"] (spKept C) := by
  have GP : FnOk P w K mg base CX0 2 DPl.f DPl.fd ["thing", "many"] spIsPlace := ok_is_place T DPl DN
  refine Y.DK.ok sc_H_kept (fun vs H Q E h => ?_) (fun cdv A outer s H vs Q E hr h => ?_)
  · obtain ⟨a, dx, pa, he, pt, xs, n, x, rfl, _⟩ := h
    rfl
  obtain ⟨a, dx, pa, he, pt, xs, n, x, rfl, ea, eh, ex, q⟩ := h
  refine ⟨_, pss_cons (ps_if (pt_not (pt_val (pcall DPl GP hr (pa_cons (pv 1) (pa_cons (pe_callB call_len_seq rfl (T.free "len" (by decide +kernel)) PySem.boot_len (pa_cons (pe_fld (pv 0) rfl) pa_nil)) pa_nil))))) (pss_one ps_never) pss_nil)
    (pss_one (ps_ret (pe_ix ix_list (pe_fld (pv 0) rfl) (pv 1) (fun _ _ => rfl)))), ?_⟩
  have hn := (List.getElem?_eq_some_iff.mp ex).1
  refine seq_if (b := false) (fun Q q => ⟨_, rfl, _, rfl, a, C, dx, _, _, rfl, ea, Y.cl, Y.nHeld, hf_lh _ _ _, he, xs, rfl, .inl (SqL.of eh), _, _, rfl, _, rfl, ?_⟩) (fun z => nomatch z) (fun _ => ?_)
  · rw [decide_eq_true (show (0 : Int) ≤ ((n : Nat) : Int) ∧ ((n : Nat) : Int) < ((xs.length : Nat) : Int) by omega)]
    exact q
  · exact ⟨_, rfl, a, C, dx, _, _, rfl, ea, Y.cl, Y.nHeld, hf_lh _ _ _, _, rfl, he, xs, _, x, rfl, rfl, SqL.of eh, atI_nat ex, q⟩
def spHWork (C : Addr) : Sp := fun vs H Q _ => ∃ (a dx pa he pt t b r : Addr) (xs ys : List V) (n : Nat), vs = [.ref a, .int ((n : Nat) : Int)] ∧ H a = some (.ins C dx (hf (.ref pa) (.ref he) (.ref pt))) ∧ H he = some (.lst xs) ∧ xs[n]? = some (.ref t) ∧ H t = some (.tup [.ref b, .ref r]) ∧ H b = some (.lst ys) ∧
  ∀ l, H l = none → Q (.ref l) (upd H l (.lst ys))
def spHRows (C : Addr) : Sp := fun vs H Q _ => ∃ (a dx pa he pt t b r : Addr) (xs ys : List V) (n : Nat), vs = [.ref a, .int ((n : Nat) : Int)] ∧ H a = some (.ins C dx (hf (.ref pa) (.ref he) (.ref pt))) ∧ H he = some (.lst xs) ∧ xs[n]? = some (.ref t) ∧ H t = some (.tup [.ref b, .ref r]) ∧ H r = some (.lst ys) ∧
  ∀ l, H l = none → Q (.ref l) (upd H l (.lst ys))
theorem ok_hwork (T : PTx w K mg) (Y : HCls K mg C) (DPl : Def K mg "is_place" s_is_place ["thing", "many"]) (DN : Def K mg "is_number" s_is_number ["thing"]) : FnOk P w K mg base CX0 4 Y.DW.f Y.DW.fd ["self", "number"] (spHWork C) := by
  have GK : FnOk P w K mg base CX0 3 Y.DK.f Y.DK.fd ["self", "number"] (spKept C) := ok_kept T Y DPl DN
  have nd := sc_H_work.nd
  refine Y.DW.ok sc_H_work (fun vs H Q E h => ?_) (fun cdv A outer s H vs Q E hr h => ?_)
  · obtain ⟨a, dx, pa, he, pt, t, b, r, xs, ys, n, rfl, _⟩ := h
    rfl
  obtain ⟨a, dx, pa, he, pt, t, b, r, xs, ys, n, rfl, ea, eh, ex, et, eb, q⟩ := h
  refine ⟨_, pss_cons (ps_asg (pe_meth (pv 0) Y.cl Y.DK.me GK hr Y.DK.b .nil pass0 (pa_cons (pv 1) pa_nil)) (pg_tup (by rfl) (pgs_cons (pg_name (i := 2) nd rfl (Or.inl rfl)) (pgs_cons (pg_name (i := 3) nd rfl (Or.inl rfl)) pgs_nil))))
    (pss_one (ps_ret (pe_callTy call_list_of rfl (T.free "list" (by decide +kernel)) (by decide +kernel) (pa_cons (pv 2) pa_nil)))), ?_⟩
  refine ⟨_, rfl, a, dx, _, rfl, ea, hf_no _ _ _ (by decide +kernel) (by decide +kernel) (by decide +kernel), _, rfl, a, dx, pa, he, pt, xs, n, _, rfl, ea, eh, ex, ?_⟩
  refine ⟨t, _, rfl, SqT.of et, rfl, _, _, rfl, _, _, rfl, rfl, ?_⟩
  exact ⟨_, rfl, b, ys, rfl, .inl (SqL.of eb), q⟩
theorem ok_hrows (T : PTx w K mg) (Y : HCls K mg C) (DPl : Def K mg "is_place" s_is_place ["thing", "many"]) (DN : Def K mg "is_number" s_is_number ["thing"]) : FnOk P w K mg base CX0 4 Y.DRo.f Y.DRo.fd ["self", "number"] (spHRows C) := by
  have GK : FnOk P w K mg base CX0 3 Y.DK.f Y.DK.fd ["self", "number"] (spKept C) := ok_kept T Y DPl DN
  have nd := sc_H_rows.nd
  refine Y.DRo.ok sc_H_rows (fun vs H Q E h => ?_) (fun cdv A outer s H vs Q E hr h => ?_)
  · obtain ⟨a, dx, pa, he, pt, t, b, r, xs, ys, n, rfl, _⟩ := h
    rfl
  obtain ⟨a, dx, pa, he, pt, t, b, r, xs, ys, n, rfl, ea, eh, ex, et, eb, q⟩ := h
  refine ⟨_, pss_cons (ps_asg (pe_meth (pv 0) Y.cl Y.DK.me GK hr Y.DK.b .nil pass0 (pa_cons (pv 1) pa_nil)) (pg_tup (by rfl) (pgs_cons (pg_name (i := 2) nd rfl (Or.inl rfl)) (pgs_cons (pg_name (i := 3) nd rfl (Or.inl rfl)) pgs_nil))))
    (pss_one (ps_ret (pe_callTy call_list_of rfl (T.free "list" (by decide +kernel)) (by decide +kernel) (pa_cons (pv 3) pa_nil)))), ?_⟩
  refine ⟨_, rfl, a, dx, _, rfl, ea, hf_no _ _ _ (by decide +kernel) (by decide +kernel) (by decide +kernel), _, rfl, a, dx, pa, he, pt, xs, n, _, rfl, ea, eh, ex, ?_⟩
  refine ⟨t, _, rfl, SqT.of et, rfl, _, _, rfl, _, _, rfl, rfl, ?_⟩
  exact ⟨_, rfl, r, ys, rfl, .inl (SqL.of eb), q⟩
end
end MS
end
section
set_option maxRecDepth 100000
set_option maxHeartbeats 4000000
namespace MS
open PySem L2
/-! ### sheet, back -/
section
variable {P : Program} {w : World} {K : PySem.W.Frag} {mg : Str → Option Value} {base : Heap} {C : Addr}
def spSheet (C : Addr) : Sp := fun vs H Q _ => ∃ (F : List Addr) (a pt : Addr) (x : HS) (past : List HS), vs = [.ref a] ∧ HeapAt C F H a pt x past ∧ GoodS x ∧
  ∀ (f : Addr) (H' : Hp), Same H H' → H f = none → H' f = some (.lst (x.2.map fun ws => V.int ((pts (rAll x.1 ws) : Nat) : Int))) → Q (.ref f) H'
theorem ok_sheet (T : PTx w K mg) (Y : HCls K mg C) (DPt : Def K mg "points_of" s_points_of ["rows"]) : FnOk P w K mg base CX0 2 Y.DS.f Y.DS.fd ["self"] (spSheet C) := by
  have GP : FnOk P w K mg base CX0 1 DPt.f DPt.fd ["rows"] spPoints := ok_points_of T DPt
  have nd := sc_H_sheet.nd
  refine Y.DS.ok sc_H_sheet (fun vs H Q E h => ?_) (fun cdv A outer s H vs Q E hr h => ?_)
  · obtain ⟨F, a, pt, x, past, rfl, _⟩ := h
    rfl
  obtain ⟨F, a, pt, x, past, rfl, ⟨dx, pa, he, ea, hpa, ⟨xs, eh, hF, pr⟩, _⟩, ⟨hP, hW, h20⟩, q⟩ := h
  refine ⟨_, pss_one (ps_ret (pe_lc (own := [("work", 1), ("rows", 2)]) (g := gTup K 2 (gCons (gName 1) (gCons (gName 2) gNil))) (tt := tYes) (te := tCall spPoints [] E0 (tCons (tVar 2) tNil)) rfl nd (pi_list (pe_fld (pv 0) rfl)) (blkOk_by (N := ["self", "work", "rows"]) (sc := defScope s_H_sheet) (by decide +kernel))
      (fun _ _ _ _ _ => pg_tup rfl (pgs_cons (pg_name (i := 1) nd rfl (Or.inl rfl)) (pgs_cons (pg_name (i := 2) nd rfl (Or.inl rfl)) pgs_nil))) (fun _ _ _ _ _ => pts_nil)
      (fun _ _ _ _ _ => pcall DPt GP (hr.mono (by decide)) (pa_cons (pv 2) pa_nil)))), ?_⟩
  have lr := Paired.length pr
  refine ⟨_, rfl, a, C, dx, _, _, rfl, ea, Y.cl, Y.nHeld, hf_lh _ _ _, he, rfl, ⟨_, SqL.of eh⟩, fun D hD => ?_⟩
  refine lc_list (K := K) (a := he) (xs := xs) (fun j H'' => H'' D = some (.lst ((x.2.take j).map fun ws => V.int ((pts (rAll x.1 ws) : Nat) : Int))) ∧ Same H H'') ⟨upd_same, Same.new hD⟩ (fun j H'' _ e => SqL.of (e.2 _ _ eh)) ?_ ?_
  · rintro j v H'' hj ⟨eD, sm⟩
    obtain ⟨ws, ew, t, b, r, rv, rfl, et, eb, _, er, _, prr⟩ := paired_get' pr hj
    have hjl := (List.getElem?_eq_some_iff.mp ew).1
    have hw : WorkOk ws := hW _ (List.mem_of_getElem? ew)
    have tk : x.2.take (j + 1) = x.2.take j ++ [ws] := by
      rw [List.take_succ, ew]
      rfl
    have hlen := rAll_len ⟨(x.1, ws), hP, hw⟩
    refine ⟨t, _, rfl, SqT.of (sm _ _ et), rfl, _, _, rfl, _, _, rfl, rfl, rfl, ?_⟩
    refine ⟨_, rfl, r, _, rv, rfl, sm _ _ er, paired_imp prr fun _ _ z => z.keep (Same.tupK sm), Nat.le_trans hlen (by decide), fun H4 s4 => ?_⟩
    refine ⟨_, s4 _ _ eD, ?_, ?_, ?_⟩
    · rw [List.length_map, List.length_take]
      exact small1000 (by omega)
    · rw [upd_same, tk, List.map_append]
      rfl
    · exact Same.newer (sm.trans s4) hD
  · rintro H'' ⟨eD, sm⟩
    rw [← lr, List.take_length] at eD
    exact q D H'' sm hD eD
def spBack (C : Addr) : Sp := fun vs H Q _ => ∃ (F : List Addr) (a pt : Addr) (x : HS) (past : List HS), vs = [.ref a] ∧ HeapAt C F H a pt x past ∧ a ∈ F ∧ pt ∈ F ∧
  (past = [] → Q (.bl false) H) ∧ ∀ (y : HS) (p : List HS) (H' : Hp), past = p ++ [y] → HeapAt C F H' a pt y p → Keep [a, pt] H H' → Q (.bl true) H'
theorem paired_last {α β : Type} {R : α → β → Prop} {y : α} : ∀ {p : List α} {xs : List β}, Paired R (p ++ [y]) xs → ∃ xp v, xs = xp ++ [v] ∧ Paired R p xp ∧ R y v
  | [], _, .cons h .nil => ⟨[], _, rfl, .nil, h⟩
  | a :: p, _, .cons h t => by
    obtain ⟨xp, v, e, h1, h2⟩ := paired_last t
    exact ⟨_ :: xp, v, by rw [e]; rfl, .cons h h1, h2⟩
theorem ok_back (Y : HCls K mg C) : FnOk P w K mg base CX0 1 Y.DB.f Y.DB.fd ["self"] (spBack C) := by
  refine Y.DB.ok sc_H_back (fun vs H Q E h => ?_) (fun cdv A outer s H vs Q E hr h => ?_)
  · obtain ⟨F, a, pt, x, past, rfl, _⟩ := h
    rfl
  obtain ⟨F, a, pt, x, past, rfl, ⟨dx, pa, he, ea, hpa, hh, ⟨xs, ept, pp⟩⟩, aF, pF, q1, q2⟩ := h
  refine ⟨_, pss_cons (ps_if (pt_not (pt_truth (pe_fld (pv 0) rfl) (by intro _; rfl))) (pss_one (ps_ret pe_bl)) pss_nil)
    (pss_cons (ps_asg (pe_bm0 PySem.F.plainAttrs_list PySem.F.slot_list_pop PySem.F.type_list_pop mt_pop (pe_fld (pv 0) rfl)) (pg_tup (by rfl) (pgs_cons (pg_fld (pv 0)) (pgs_cons (pg_fld (pv 0)) pgs_nil))))
    (pss_one (ps_ret pe_bl))), ?_⟩
  refine seq_if (b := !(!xs.isEmpty)) (fun Q q => ⟨_, rfl, a, C, dx, _, _, rfl, ea, Y.cl, Y.nPast, hf_lt _ _ _, !xs.isEmpty, .inl ⟨xs, SqL.of ept, rfl⟩, q⟩) (fun z => ?_) (fun z => ?_)
  · refine q1 ?_
    cases pp with
    | nil => rfl
    | cons _ _ => cases z
  rcases List.eq_nil_or_concat past with rfl | ⟨p, y, rfl⟩
  · cases pp
    cases z
  rw [List.concat_eq_append] at pp q2
  obtain ⟨xp, v, rfl, pr, t, pa', he', rfl, et, hpa', hh'⟩ := paired_last pp
  have nap : a ≠ pt := fun z => by rw [z, ept] at ea; cases ea
  have ntp : t ≠ pt := fun z => by rw [z, ept] at et; cases et
  have nta : t ≠ a := fun z => by rw [z, ea] at et; cases et
  refine ⟨_, rfl, a, C, dx, _, _, rfl, ea, Y.cl, Y.nPast, hf_lt _ _ _, .inl ⟨rfl, _, SqL.of ept⟩, pt, _, .ref t, rfl, rfl, ept, ?_, ?_⟩
  · rw [List.length_append, List.length_singleton, Nat.add_sub_cancel, List.getElem?_append_right (Nat.le_refl _), Nat.sub_self]
    rfl
  rw [List.dropLast_concat]
  refine ⟨t, _, rfl, SqT.of (by rw [upd_ne ntp]; exact et), rfl, _, _, rfl, _, rfl, a, C, dx, _, rfl, (by rw [upd_ne nap]; exact ea), Y.cl, Y.nPaper, hf_len _ _ _, ?_⟩
  refine ⟨_, _, rfl, _, rfl, a, C, dx, _, rfl, upd_same, Y.cl, Y.nHeld, (by rw [hf_paper]; exact hf_len _ _ _), rfl, ?_⟩
  rw [hf_paper, hf_held]
  have kp : Keep [a, pt] H (upd (upd (upd H pt (.lst xp)) a (.ins C dx (hf (.ref pa') (.ref he) (.ref pt)))) a (.ins C dx (hf (.ref pa') (.ref he') (.ref pt)))) := ((Keep.put (by simp)).trans (Keep.put (by simp))).trans (Keep.put (by simp))
  have kf : KF F H _ := KF.of kp (by simp [aF, pF]) (by
    intro z hz ys e
    rcases List.mem_cons.mp hz with rfl | hz
    · rw [ea] at e; cases e
    · rw [List.mem_singleton.mp hz, ept] at e; cases e)
  exact q2 y p _ rfl ⟨dx, pa', he', upd_same, hpa'.kt kf.2, hh'.kf kf, xp, by rw [upd_ne nap.symm, upd_ne nap.symm, upd_same], pairs_kf pr kf⟩ kp
end
end MS
end
section
set_option maxRecDepth 100000
set_option maxHeartbeats 4000000
namespace MS
open PySem L2
open HeY
/-! ### defs that raise -/
theorem Def.okX {P : Program} {w : World} {K : PySem.W.Frag} {mg : Str → Option Value} {base : Heap} {x : Str} {st : Stmt} {ps N : List Str} {k : Nat} {sp : Sp} (D : Def K mg x st ps) (S : FnScope N ps (defScope st)) (len : ∀ vs H Q E, sp vs H Q E → vs.length = ps.length)
    (hbody : ∀ (cdv : Value) (A : Around) (outer : List Env) (s : Shared) (H : Hp) (vs : List V) (Q : VK) (E : XK), Room k (A.deeper (PyProof.Rows.envOfC x (defScope st) s.heap.objs.size D.f cdv)) → sp vs H Q E →
      ∃ t, PSs (cxOf (L2.CX P w) P w K mg base N x (defScope st) D.f cdv A outer s H E) (defBody st) t ∧ t { nx := fun _ H' => Q .non H', rt := Q } (start N vs) H) : FnOk P w K mg base (L2.CX P w) (k + 1) D.f D.fd ps sp := D.F.ok S len hbody
theorem pcallX {X : Cx} {x : Str} {st : Stmt} {ps : List Str} {k : Nat} {sp : Sp} {E : XK} {e : Expr} {es : List Expr} {t : TA} {p pos : Pos} (D : Def X.K X.mg x st ps) (G : FnOk X.prog X.w X.K X.mg X.base (L2.CX X.prog X.w) k D.f D.fd ps sp) (hr : Room k X.A) (hx : Passes (L2.CX X.prog X.w) X E)
    (ha : PA X (e :: es) t) (hg : Gl X x := by rfl) (hdb : (x == ("__debug__" : Str)) = false := by decide) (he : starEach (e :: es) X.env = (false, eval e X.env) :: starEach es X.env := by rfl) (hpl : (backTo pos (starEach es X.env)).any (·.1) = false := by rfl) : PE X (.Call (.Name x p) (e :: es) [] pos) (tCall sp [] E t) :=
  pe_call G hr hg D.g D.F.kp D.b .nil hx ha hdb he hpl
/-- an error with one number is let out -/
def Raised (C : Addr) (fld : Str) (n : Int) (H : Hp) (E : XK) : Prop := ∀ (d : Addr) (H' : Hp), H d = none → Same H H' → H' d = some (.xd [(fld, .int n)]) → E (.ref C) (some d) H'
theorem Raised.from {C : Addr} {fld : Str} {n : Int} {H H1 : Hp} {E : XK} (h : Raised C fld n H E) (s : Same H H1) : Raised C fld n H1 E := fun d H' hd s' e => h d H' (s.free hd) (s.trans s') e
def spInit1 (C : Addr) (fld : Str) : Sp := fun vs H Q _ => ∃ (a : Addr) (n : Int), vs = [.ref a, .int n] ∧ 0 ≤ n ∧ n < 1000 ∧ H a = some (exo a C none) ∧ ∀ dx, H dx = none → dx ≠ a → Q .non (upd (upd H dx (exd dx [(fld, .int n)])) a (exo a C (some dx)))
structure Rsr (P : Program) (w : World) (K : PySem.W.Frag) (mg : Str → Option Value) (base : Heap) (x par fld : Str) where
  C : Addr
  f : Addr
  fd : FuncData
  T : OexC K C
  init : PySem.W.findIn K (.ref C) "__init__" = some (some (.ref f))
  ty : PySem.W.typeIn K (.ref f) = some (.type "function")
  ok : FnOk P w K mg base CX0 1 f fd ["self", par] (spInit1 C fld)
  b : Binds K fd ["self", par] []
  g : mg x = some (.ref C)
theorem pmk_r {X : Cx} {x par fld : Str} {e : Expr} {te : TE} {p pos : Pos} (R : Rsr X.prog X.w X.K X.mg X.base x par fld) (hr : Room 2 X.A) (he : PE X e te) (hg : Gl X x := by rfl) (hdb : (x == ("__debug__" : Str)) = false := by decide)
    (h1 : starEach [e] X.env = (false, eval e X.env) :: starEach [] X.env := by rfl) (h2 : (backTo pos (starEach [] X.env)).any (·.1) = false := by rfl) : PMk X (.Call (.Name x p) [e] [] pos) (tMkO R.C (spInit1 R.C fld) [] (tCons te tNil)) :=
  pmk_oex R.T R.init R.ty R.ok hr R.b .nil pass0 hg R.g (pa_cons he pa_nil (hs := h1)) hdb h1 h2
theorem raised_of {C : Addr} {fld : Str} {n : Int} {H1 : Hp} {Q : XK} (h0 : 0 ≤ n) (h1 : n < 1000) (h : ∀ (d : Addr) (H' : Hp), H1 d = none → Same H1 H' → H' d = some (.xd [(fld, .int n)]) → Q (.ref C) (some d) H') : [V.int n].length ≤ 1000 ∧ ∀ a, H1 a = none → spInit1 C fld (.ref a :: ([.int n] ++ [])) (upd H1 a (exo a C none))
    (fun v H2 => v = .non ∧ ∃ (d : Addr) (fs : List (Str × V)), H2 a = some (exo a C (some d)) ∧ H2 d = some (exd d fs) ∧ H1 d = none ∧ Q (.ref C) (some d) (upd (L2.del H2 a) d (.xd fs))) (fun _ _ _ => False) := by
  refine ⟨by show 1 ≤ 1000; decide, fun a ha => ⟨a, n, rfl, h0, h1, upd_same, fun dx hdx hne => ⟨rfl, dx, [(fld, .int n)], upd_same, by rw [upd_ne hne, upd_same], ?_, ?_⟩⟩⟩
  · rw [upd_ne hne] at hdx
    exact hdx
  · rw [upd_ne hne] at hdx
    refine h dx _ hdx (fun b o e => ?_) upd_same
    have n1 : b ≠ a := ne_of_none e ha
    have n2 : b ≠ dx := ne_of_none e hdx
    rw [upd_ne n2, L2.del_ne n1, upd_ne n1, upd_ne n2, upd_ne n1]
    exact e
/-- raise X(e) -/
theorem ps_rs {X : Cx} {x par fld : Str} {e : Expr} {te : TE} {p pos pos' : Pos} {W : WX} (R : Rsr X.prog X.w X.K X.mg X.base x par fld) (hc : X.calm = true) (tk : L2.Takes X W) (hr : Room 2 X.A) (he : PE X e te) (hg : Gl X x := by rfl) (hdb : (x == ("__debug__" : Str)) = false := by decide)
    (h1 : starEach [e] X.env = (false, eval e X.env) :: starEach [] X.env := by rfl) (h2 : (backTo pos (starEach [] X.env)).any (·.1) = false := by rfl) : PS X (.Raise (some (.Call (.Name x p) [e] [] pos)) none pos') (fun _ σ H => tMkO R.C (spInit1 R.C fld) [] (tCons te tNil) σ H fun cls d H' => W cls d σ H') :=
  L2.ps_raise hc tk (pmk_r R hr he hg hdb h1 h2)
/-! ### the errors' __init__ -/
abbrev s_Work_init : Stmt := inClass (topS 3) 0
abbrev dWork : InD := ⟨"BadWork", "BadWork.__init__", defArgs s_Work_init, defBody s_Work_init, defScope s_Work_init⟩
theorem small_text {n : Int} (h0 : 0 ≤ n) (h1 : n < 1000) : n.natAbs.log2 < 1920 ∧ (Str.ofString (toString n)).length ≤ 4 := by
  have h2 : n.natAbs < 10 ^ 3 := by
    show n.natAbs < 1000
    omega
  refine ⟨?_, ?_⟩
  · by_cases z : n.natAbs = 0
    · rw [z]
      decide
    · exact Nat.lt_of_le_of_lt (Nat.log2_le_self _) (by omega)
  · rw [PySem.ofString_length]
    exact PySem.int_text_length_le10 (k := 3) (by decide) h2
section
variable {P : Program} {w : World} {K : PySem.W.Frag} {mg : Str → Option Value} {base : Heap}
theorem init_work (Y : SupX P K dWork) (hP : (P.main.scope.names.lookup ("super" : Str)).isSome = false) (msu : mg "super" = none) (hno : PySem.W.findIn K (.ref (He.ga K "BadWork")) "number" = some none) {fd : FuncData} (hfd : ∃ oc od osl, K.lookup (He.ma K (He.ga K "BadWork") "__init__") = some ⟨oc, od, .func fd, osl⟩) :
    FnOk P w K mg base CX0 1 (He.ma K (He.ga K "BadWork") "__init__") fd ["self", "number"] (spInit1 (He.ga K "BadWork") "number") := by
  refine XSU.fn_super (N := ["self", "number", "__class__"]) (k := 0) Y.c rfl hfd (NdefX.nscope_by (by decide +kernel)) rfl rfl msu rfl hP (fun vs H Q E h => ?_) (fun env => rfl) (fun env => rfl) (fun A outer s H vs Q E hr h => ?_)
  · obtain ⟨a, n, rfl, _⟩ := h
    rfl
  obtain ⟨a, n, rfl, h0, h1, ea, q⟩ := h
  obtain ⟨t1, t2⟩ := small_text h0 h1
  refine ⟨a, [.int n], _, _, rfl, pe_joined (.cons pe_str (.cons (pe_fmt (pv 1)) .nil)), pss_one (ps_ost (pv 0) (pv 1)), ea, ?_⟩
  refine ⟨_, rfl, by decide +kernel, _, rfl, .inr ⟨n, rfl, t1, _, rfl, ?_, ea, ?_⟩⟩
  · have e1 : (Str.empty ++ ("no work: step " : Str)).length = 14 := by decide +kernel
    have e2 : ((Str.empty ++ ("no work: step " : Str)) ++ Str.ofString (toString n)).length = (Str.empty ++ ("no work: step " : Str)).length + (Str.ofString (toString n)).length := Str.length_append _ _
    exact szN (by rw [e2, e1]; omega)
  · exact ⟨_, rfl, _, rfl, a, _, rfl, Y.c.T, hno, .inl ⟨ea, fun dx hdx hne => q dx hdx hne⟩⟩
end
/-! ### check_work with its refusal: an error whose context is None -/
theorem Def.okN {P : Program} {w : World} {K : PySem.W.Frag} {mg : Str → Option Value} {base : Heap} {x : Str} {st : Stmt} {ps N : List Str} {k : Nat} {sp : Sp} (D : Def K mg x st ps) (S : FnScope N ps (defScope st)) (len : ∀ vs H Q E, sp vs H Q E → vs.length = ps.length)
    (hbody : ∀ (cdv : Value) (A : Around) (outer : List Env) (s : Shared) (H : Hp) (vs : List V) (Q : VK) (E : XK), Room k (A.deeper (PyProof.Rows.envOfC x (defScope st) s.heap.objs.size D.f cdv)) → sp vs H Q E →
      ∃ t, PSs (cxOf (L2N.CX P w) P w K mg base N x (defScope st) D.f cdv A outer s H E) (defBody st) t ∧ t { nx := fun _ H' => Q .non H', rt := Q } (start N vs) H) : FnOk P w K mg base (L2N.CX P w) (k + 1) D.f D.fd ps sp := D.F.ok S len hbody
theorem pcallN {X : Cx} {x : Str} {st : Stmt} {ps : List Str} {k : Nat} {sp : Sp} {E : XK} {e : Expr} {es : List Expr} {t : TA} {p pos : Pos} (D : Def X.K X.mg x st ps) (G : FnOk X.prog X.w X.K X.mg X.base (L2N.CX X.prog X.w) k D.f D.fd ps sp) (hr : Room k X.A) (hx : Passes (L2N.CX X.prog X.w) X E)
    (ha : PA X (e :: es) t) (hg : Gl X x := by rfl) (hdb : (x == ("__debug__" : Str)) = false := by decide) (he : starEach (e :: es) X.env = (false, eval e X.env) :: starEach es X.env := by rfl) (hpl : (backTo pos (starEach es X.env)).any (·.1) = false := by rfl) : PE X (.Call (.Name x p) (e :: es) [] pos) (tCall sp [] E t) :=
  pe_call G hr hg D.g D.F.kp D.b .nil hx ha hdb he hpl
theorem pmk_rN {X : Cx} {x par fld : Str} {e : Expr} {te : TE} {p pos : Pos} (R : Rsr X.prog X.w X.K X.mg X.base x par fld) (hr : Room 2 X.A) (he : PE X e te) (hg : Gl X x := by rfl) (hdb : (x == ("__debug__" : Str)) = false := by decide)
    (h1 : starEach [e] X.env = (false, eval e X.env) :: starEach [] X.env := by rfl) (h2 : (backTo pos (starEach [] X.env)).any (·.1) = false := by rfl) : L2N.PMk X (.Call (.Name x p) [e] [] pos) (tMkO R.C (spInit1 R.C fld) [] (tCons te tNil)) :=
  pmk_oexN R.T R.init R.ty R.ok hr R.b .nil pass0 hg R.g (pa_cons he pa_nil (hs := h1)) hdb h1 h2
theorem ps_rsN {X : Cx} {x par fld : Str} {e : Expr} {te : TE} {p pos pos' : Pos} {W : WX} (R : Rsr X.prog X.w X.K X.mg X.base x par fld) (hc : X.calm = true) (tk : L2N.Takes X W) (hr : Room 2 X.A) (he : PE X e te) (hg : Gl X x := by rfl) (hdb : (x == ("__debug__" : Str)) = false := by decide)
    (h1 : starEach [e] X.env = (false, eval e X.env) :: starEach [] X.env := by rfl) (h2 : (backTo pos (starEach [] X.env)).any (·.1) = false := by rfl) : PS X (.Raise (some (.Call (.Name x p) [e] [] pos)) none pos') (fun _ σ H => tMkO R.C (spInit1 R.C fld) [] (tCons te tNil) σ H fun cls d H' => W cls d σ H') :=
  L2N.ps_raise hc tk (pmk_rN R hr he hg hdb h1 h2)
/-- an own error without __init__ -/
structure Rs0 (K : PySem.W.Frag) (mg : Str → Option Value) (x : Str) where
  C : Addr
  q : PySem.W.excIn K C [.type "ValueError", .type "Exception", .type "BaseException", .type "object"] "ValueError.__new__" = true
  g : mg x = some (.ref C)
  kC : PySem.W.keepIn K (.ref C) = true
  sb : PySem.W.subIn K (.ref C) (.type "BaseException") = some true
  ty : PySem.W.typeIn K (.ref C) = some (.type "type")
theorem pmk_weak {X : Cx} {e : Expr} {t : St → Hp → XK → Prop} (h : L2N.PMk X e t) : L2.PMk X e t := fun pins s σ H Q I q => thn (h pins s σ H Q I q) fun u s' ⟨a, oe, vs, sI, H', cls, d, e1, e2, e3, e4, e5, z, e6, e7, e8, e9, e10, e11, e12⟩ => ⟨a, oe, vs, sI, H', cls, d, e1, e2, e3, e4, e5, z.zc, e6, e7, e8, e9, e10, e11, e12⟩
theorem pmk5_r0 {X : Cx} {x : Str} {p pos : Pos} (R : Rs0 X.K X.mg x) (hg : Gl X x := by rfl) (hdb : (x == ("__debug__" : Str)) = false := by decide) : L2H.PMk5 X (.Call (.Name x p) [] [] pos) (fun _ H Q => Q (.ref R.C) none H) := pmk5_own0 PySem.F.excBase_ValueError R.q R.g R.kC (raises_own R.sb R.ty) hg hdb
theorem ps_r0 {X : Cx} {x : Str} {p pos pos' : Pos} {W : WX} (R : Rs0 X.K X.mg x) (hc : X.calm = true) (tk : L2.Takes X W) (hg : Gl X x := by rfl) (hdb : (x == ("__debug__" : Str)) = false := by decide) : PS X (.Raise (some (.Call (.Name x p) [] [] pos)) none pos') (fun _ σ H => W (.ref R.C) none σ H) :=
  L2.ps_raise hc tk (pmk_weak (pmk5_r0 R hg hdb).pmk)
def Raised0 (C : Addr) (H : Hp) (E : XK) : Prop := ∀ H', Same H H' → E (.ref C) none H'
def spCheckN (CW : Addr) : Sp := fun vs H Q E => ∃ (a : Addr) (ws : List StepT), vs = [.ref a] ∧ H a = some (.lst (stepsV ws)) ∧ (∀ p ∈ ws, IsStep p) ∧ ws.length ≤ 12 ∧
  (WorkFrom false ws → ∀ H', Same H H' → Q .non H') ∧ (¬ WorkFrom false ws → ∀ (d : Addr) (H' : Hp), H d = none → Same H H' → E (.ref CW) (some d) H')
section
variable {P : Program} {w : World} {K : PySem.W.Frag} {mg : Str → Option Value} {base : Heap}
abbrev Wr (P : Program) (w : World) (K : PySem.W.Frag) (mg : Str → Option Value) (base : Heap) := Rsr P w K mg base "BadWork" "number" "number"
theorem ok_check_workN (T : PTx w K mg) (RW : Wr P w K mg base) (D : Def K mg "check_work" s_check_work ["work"]) (DI : Def K mg "is_step" s_is_step ["thing"]) : FnOk P w K mg base (L2N.CX P w) 3 D.f D.fd ["work"] (spCheckN RW.C) := by
  have GI : FnOk P w K mg base CX0 1 DI.f DI.fd ["thing"] spIsStep := ok_is_step T DI
  obtain ⟨tw, gw⟩ := T.wrong
  obtain ⟨tc, gc⟩ := T.carried
  obtain ⟨tm, gm⟩ := T.mostSteps
  have nd := sc_check_work.nd
  refine D.okN sc_check_work (fun vs H Q E h => ?_) (fun cdv A outer s H vs Q E hr h => ?_)
  · obtain ⟨a, ws, rfl, _⟩ := h
    rfl
  obtain ⟨a, ws, rfl, ea, hall, hlen, q1, q2⟩ := h
  have r1 : Room 1 _ := hr.mono (by decide)
  have tk : L2N.Takes (cxOf (L2N.CX P w) P w K mg base ["work", "went_wrong", "number", "step"] "check_work" (defScope s_check_work) D.f cdv A outer s H E) (fun cls d _ H' => E cls d H') := L2N.takes_of rfl rfl rfl rfl
  refine ⟨_, pss_cons (ps_if (pt_not (pt_val (pe_callB call_isi rfl (T.free "isinstance" (by decide +kernel)) (by decide +kernel) (pa_cons (pv 0) (pa_cons (pe_bltn rfl (T.free "list" (by decide +kernel)) (by decide +kernel) (v := .ty "list") rfl) pa_nil))))) (pss_one ps_never) pss_nil)
    (pss_cons (ps_set (i := 1) nd rfl (Or.inl rfl) pe_bl)
    (pss_one (ps_for (L2.passes_of rfl) rfl (pi_enum rfl (T.free "enumerate" (by decide +kernel)) (pa_cons (pv 0) pa_nil)) (pg_tup (by rfl) (pgs_cons (pg_name (i := 2) nd rfl (Or.inl rfl)) (pgs_cons (pg_name (i := 3) nd rfl (Or.inl rfl)) pgs_nil)))
      (pss_cons (ps_if (PW.pt (pw_or (pt_cmpR op_eq (pv 2) (pe_glob rfl gm (v := .int 12) ⟨_, rfl⟩) (nomark _)) (pw_or1 (pt_not (pt_val (pcall DI GI r1 (pa_cons (pv 3) pa_nil))))))) (pss_one ps_never) pss_nil)
      (pss_cons (ps_if (PW.pt (pw_and (pt_cmpR op_eq (pe_ix ix_str (pv 3) pe_int (fun _ _ => rfl)) (pe_glob rfl gc (v := .str "c") ⟨_, rfl⟩) (nomark _)) (pw_and1 (pt_not (pt_val (pv 1)))))) (pss_one (ps_rsN RW rfl tk hr (pv 2))) pss_nil)
      (pss_one (ps_set (i := 1) nd rfl (Or.inl rfl) (pe_or (pv 1) (pe_one (pe_cmpR op_eq (pe_ix ix_str (pv 3) pe_int (fun _ _ => rfl)) (pe_glob rfl gw (v := .str "w") ⟨_, rfl⟩) (nomark _))))))))))), ?_⟩
  refine seq_if (b := false) (fun Q q => ⟨_, rfl, _, .ty "list", .type "list", .type "list", true, rfl, .ty _, .base (.lst ea), kit_ty (by decide +kernel), _, rfl, q⟩) (fun z => nomatch z) (fun _ => ?_)
  have lws : (stepsV ws).length = ws.length := List.length_map _
  refine ⟨_, rfl, a, _, rfl, SqL.of ea, for_it (walk_enum (K := K) (a := a) (xs := stepsV ws)) (fun i σ H' => ∃ v2 v3 : Option V, σ = [some (.ref a), some (.bl (anyWrong (ws.take i))), v2, v3] ∧ WorkFrom false (ws.take i) ∧ Same H H')
    ⟨none, none, rfl, trivial, Same.refl _⟩ (fun i σ H' _ ⟨_, _, _, _, sm⟩ => SqL.of (sm _ _ ea)) ?_ ?_⟩
  · rintro i x σ H1 H2 hi ⟨v2, v3, rfl, hwf, sm⟩ ⟨T1, x1, x2, rfl, hT1, rfl, ex1, ex2⟩
    obtain rfl : V.int ((i : Nat) : Int) = x1 := Option.some.inj ex1
    rw [lws] at hi
    have ep : ws[i]? = some (ws[i]'hi) := List.getElem?_eq_getElem hi
    obtain rfl : V.str (stepS (ws[i]'hi)) = x2 := Option.some.inj ((get_map (fun p => V.str (stepS p)) ws hi).symm.trans ex2)
    have hp : IsStep (ws[i]'hi) := hall _ (List.getElem_mem hi)
    obtain ⟨c1, e1, y1⟩ := hp.at1
    have sm1 : Same H (upd H1 T1 (.tup [.int ((i : Nat) : Int), .str (stepS (ws[i]'hi))])) := sm.trans (Same.new hT1)
    refine ⟨T1, _, rfl, SqT.of upd_same, rfl, _, _, rfl, _, _, rfl, rfl, ?_⟩
    refine ⟨_, rfl, rfl, _, rfl, ?_⟩
    have ne : decide (V.int ((i : Nat) : Int) = V.int 12) = false := decide_eq_false (fun z => by have := V.int.inj z; omega)
    rw [ne]
    refine iteF ⟨_, rfl, _, rfl, hp, fun H3 s3 => ⟨_, rfl, iteF ?_⟩⟩
    dsimp only [tNext]
    refine seq_if (b := (ws[i]'hi).2 == "c" && !anyWrong (ws.take i)) (ev_and (fun Q q => ⟨_, rfl, _, 1, c1, rfl, rfl, str_len2 hp.len, e1, rfl, _, rfl, by rw [y1, dec_str]; exact q⟩) (fun Q q => ⟨_, rfl, _, rfl, q⟩)) (fun z => ?_) (fun z0 => ?_)
    · rw [Bool.and_eq_true] at z
      have nw : ¬ WorkFrom false ws := fun hw => by
        have z1 := (hw.at ep).2 (eq_of_beq z.1)
        rw [Bool.false_or] at z1
        rw [z1] at z
        exact absurd z.2 (by decide)
      refine ⟨_, rfl, ?_⟩
      exact raised_of (by omega) (by omega) fun d H' hd s' e => q2 nw d H' ((sm1.trans s3).free hd) ((sm1.trans s3).trans s')
    · have hc : (ws[i]'hi).2 = "c" → (false || anyWrong (ws.take i)) = true := fun e => by
        cases h : anyWrong (ws.take i) with
        | true => rfl
        | false =>
          rw [e, h] at z0
          exact absurd z0 (by decide +kernel)
      have wf2 : WorkFrom false (ws.take (i + 1)) := by
        rw [List.take_succ_eq_append_getElem hi]
        exact hwf.snoc hp hc
      refine ⟨_, rfl, _, rfl, ?_⟩
      have tk : anyWrong (ws.take (i + 1)) = (anyWrong (ws.take i) || ((ws[i]'hi).2 == "w")) := by
        rw [List.take_succ_eq_append_getElem hi]
        unfold anyWrong
        rw [List.any_append]
        simp
      refine ite2 (fun z => ?_) (fun z => ?_)
      · exact ⟨_, _, by rw [tk, z]; rfl, wf2, (sm1.trans s3)⟩
      · refine ⟨_, rfl, _, 1, c1, rfl, rfl, str_len2 hp.len, e1, rfl, ?_⟩
        rw [y1]
        refine ⟨some (.int ((i : Nat) : Int)), some (.str (stepS (ws[i]'hi))), ?_, wf2, (sm1.trans s3)⟩
        rw [tk, Bool.eq_false_iff.mpr z, Bool.false_or, dec_str]
        rfl
  · rintro σ H1 ⟨v2, v3, rfl, hwf, sm⟩
    rw [lws, List.take_length] at hwf
    exact q1 hwf H1 sm
end
/-! ### with_step -/
abbrev s_with_step : Stmt := topS 48
theorem sc_with_step : FnScope ["work", "place", "step", "steps"] ["work", "place", "step"] (defScope s_with_step) := ⟨rfl, rfl, rfl, by decide +kernel, rfl, by decide +kernel, by decide +kernel⟩
/-- the step n told otherwise -/
def setW (ws : List StepT) (n : Nat) (p : StepT) : List StepT := ws.take n ++ [p] ++ ws.drop (n + 1)
theorem setW_len {ws : List StepT} {n : Nat} {p : StepT} (h : n < ws.length) : (setW ws n p).length = ws.length := by
  unfold setW
  rw [List.length_append, List.length_append, List.length_take, List.length_drop, List.length_singleton]
  omega
theorem setW_mem {ws : List StepT} {n : Nat} {p q : StepT} (h : q ∈ setW ws n p) : q ∈ ws ∨ q = p := by
  unfold setW at h
  rcases List.mem_append.mp h with h | h
  · rcases List.mem_append.mp h with h | h
    · exact .inl (List.mem_of_mem_take h)
    · exact .inr (List.mem_singleton.mp h)
  · exact .inl (List.mem_of_mem_drop h)
def spWithStep (CS : Addr) : Sp := fun vs H Q E => ∃ (wa : Addr) (ws : List StepT) (n : Nat) (p : StepT), vs = [.ref wa, .int ((n : Nat) : Int), .str (stepS p)] ∧ H wa = some (.lst (stepsV ws)) ∧ WorkOk ws ∧ IsStep p ∧ n ≤ 1000 ∧
  (n < ws.length → WorkFrom false (setW ws n p) → ∀ (l : Addr) (H' : Hp), Same H H' → H l = none → H' l = some (.lst (stepsV (setW ws n p))) → Q (.ref l) H') ∧
  ((ws.length ≤ n ∨ ¬ WorkFrom false (setW ws n p)) → Raised0 CS H E)
section
variable {P : Program} {w : World} {K : PySem.W.Frag} {mg : Str → Option Value} {base : Heap}
theorem ok_with_step (T : PTx w K mg) (RW : Wr P w K mg base) (RS : Rs0 K mg "BadStep") (hex : PySem.W.exmOne K (.ref RW.C) (.ref RW.C) = some true) (D : Def K mg "with_step" s_with_step ["work", "place", "step"]) (DPl : Def K mg "is_place" s_is_place ["thing", "many"]) (DN : Def K mg "is_number" s_is_number ["thing"])
    (DCk : Def K mg "check_work" s_check_work ["work"]) (DI : Def K mg "is_step" s_is_step ["thing"]) : FnOk P w K mg base (L2.CX P w) 4 D.f D.fd ["work", "place", "step"] (spWithStep RS.C) := by
  have GP : FnOk P w K mg base CX0 2 DPl.f DPl.fd ["thing", "many"] spIsPlace := ok_is_place T DPl DN
  have GC : FnOk P w K mg base (L2N.CX P w) 3 DCk.f DCk.fd ["work"] (spCheckN RW.C) := ok_check_workN T RW DCk DI
  have nd := sc_with_step.nd
  refine D.okX sc_with_step (fun vs H Q E h => ?_) (fun cdv A outer s H vs Q E hr h => ?_)
  · obtain ⟨wa, ws, n, p, rfl, _⟩ := h
    rfl
  obtain ⟨wa, ws, n, p, rfl, ea, hW, hp, hn, q1, q2⟩ := h
  have r2 : Room 2 _ := hr.mono (by decide)
  let X : Cx := cxOf (L2.CX P w) P w K mg base ["work", "place", "step", "steps"] "with_step" (defScope s_with_step) D.f cdv A outer s H E
  have tk : L2.Takes X (fun cls d _ H' => E cls d H') := L2.takes_of rfl rfl rfl rfl
  refine ⟨_, pss_cons (ps_if (pt_not (pt_val (pcall DPl GP r2 (pa_cons (pv 1) (pa_cons (pe_callB call_len_seq rfl (T.free "len" (by decide +kernel)) PySem.boot_len (pa_cons (pv 0) pa_nil)) pa_nil))))) (pss_one (ps_r0 RS rfl tk)) pss_nil)
    (pss_cons (ps_set (i := 3) nd rfl (Or.inl rfl) (pe_op op_cat (pe_op op_cat (pe_slice sl_list (pv 0) po_none (po_some (pv 1))) (pe_lst (pa_cons (pv 2) pa_nil))) (pe_slice sl_list (pv 0) (po_some (pe_op op_add (pv 1) pe_int)) po_none)))
    (pss_cons (L2H.ps_try_onlyX (X := X) (x := "BadWork") (c := .ref RW.C) (Wout := fun cls d _ H' => E cls d H') (tb := fun W => tDrop (tCall (spCheckN RW.C) [] (fun cls d H' => ∀ σ, W cls d σ H') (tCons (tVar 3) tNil))) (ts := fun _ _ _ _ _ H => E (.ref RS.C) none H)
        rfl rfl ⟨rfl, by decide, .inl RW.g⟩ (fun hd => L2H.passesAt_of rfl hd) tk (fun W pn xe tkN tkW pass => ?_) (fun a oe cls d pn hz hf tkS hot => ?_))
    (pss_one (ps_ret (pv 3))))), ?_⟩
  · exact pss_one (ps_expr (pcallN (E := fun cls d H' => ∀ σ, W cls d σ H') DCk GC hr (L2N.passes_call tkN (fun _ _ σ _ h => h σ)) (pa_cons (pv 3) pa_nil)))
  · exact pss_one (L2H.ps_raiseHN hot tkS (pmk5_r0 RS))
  · have lws : (stepsV ws).length = ws.length := List.length_map _
    refine seq_if (b := !decide (n < ws.length)) (fun Q q => ⟨_, rfl, _, rfl, wa, _, rfl, .inl (SqL.of ea), _, _, rfl, _, rfl, ?_⟩) (fun z => ?_) (fun z => ?_)
    · have e : decide ((0 : Int) ≤ ((n : Nat) : Int) ∧ ((n : Nat) : Int) < (((stepsV ws).length : Nat) : Int)) = decide (n < ws.length) := by
        rw [lws]
        by_cases h : n < ws.length
        · rw [decide_eq_true h, decide_eq_true (by omega)]
        · rw [decide_eq_false h, decide_eq_false (by omega)]
      rw [e]
      exact q
    · have hn2 : ws.length ≤ n := by
        by_cases h : n < ws.length
        · rw [decide_eq_true h] at z
          cases z
        · omega
      exact q2 (.inl hn2) H (Same.refl _)
    · have hn2 : n < ws.length := by
        by_cases h : n < ws.length
        · exact h
        · rw [decide_eq_false h] at z
          cases z
      have h12 := hW.2
      refine ⟨_, rfl, _, rfl, ((n : Nat) : Int), rfl, wa, _, rfl, SqL.of ea, fun p1 h1 => ?_⟩
      have s1 : Same H (upd H p1 (.lst ((stepsV ws).take n))) := Same.new h1
      rw [cut_to]
      refine ⟨_, rfl, (by show 1 ≤ sizeLine; decide), fun p2 h2 => ?_⟩
      have s2 := s1.trans (Same.new (o := .lst [.str (stepS p)]) h2)
      refine ⟨p1, p2, _, _, rfl, rfl, Same.new h2 _ _ upd_same, upd_same, ?_, fun p3 h3 => ?_⟩
      · rw [List.length_take, lws, List.length_singleton]
        exact szN (by omega)
      have s3 := s2.trans (Same.new (o := .lst ((stepsV ws).take n ++ [.str (stepS p)])) h3)
      refine ⟨_, rfl, _, rfl, _, _, rfl, rfl, _, rfl, wa, _, rfl, SqL.of (s3 _ _ ea), fun p4 h4 => ?_⟩
      have s4 := s3.trans (Same.new (o := .lst ((stepsV ws).drop (n + 1))) h4)
      rw [show ((n : Nat) : Int) + 1 = ((n + 1 : Nat) : Int) by omega, cut_from]
      refine ⟨p3, p4, _, _, rfl, rfl, Same.new h4 _ _ upd_same, upd_same, ?_, fun p5 h5 => ?_⟩
      · rw [List.length_append, List.length_take, List.length_drop, lws, List.length_singleton]
        exact szN (by omega)
      have eset : (stepsV ws).take n ++ [V.str (stepS p)] ++ (stepsV ws).drop (n + 1) = stepsV (setW ws n p) := by
        unfold setW stepsV
        rw [List.map_append, List.map_append, List.map_take, List.map_drop]
        rfl
      rw [eset]
      have s5 := s4.trans (Same.new (o := .lst (stepsV (setW ws n p))) h5)
      have hset := setW_len (p := p) hn2
      dsimp only [gName]
      refine ⟨_, rfl, p5, setW ws n p, rfl, upd_same, fun q hq => ?_, by omega, fun hwf H6 s6 => ?_, fun hnf d H6 hd s6 σ => ?_⟩
      · rcases setW_mem hq with h | h
        · exact hW.1.all q h
        · rw [h]
          exact hp
      · exact ⟨_, rfl, q1 hn2 hwf p5 H6 (s5.trans s6) (s4.free h5) (s6 _ _ upd_same)⟩
      · exact ⟨true, hex, fun _ a ha => q2 (.inr hnf) H6 (s5.trans s6), fun z => nomatch z⟩
end
end MS
end
section
set_option maxRecDepth 100000
set_option maxHeartbeats 4000000
namespace MS
open PySem L2
/-! ### how many rows: no more than steps and ends -/
theorem firstP_len : ∀ (rs : List Row) (n : Nat), (firstP rs n).length ≤ rs.length
  | [], _ => Nat.le_refl _
  | (i, m, wh) :: r, n => by
    show (if n = 0 then [] else (i, min m n, wh) :: firstP r (n - min m n)).length ≤ _
    split
    · exact Nat.zero_le _
    · rw [List.length_cons, List.length_cons]
      exact Nat.succ_le_succ (firstP_len r _)
theorem allU_n {α : Type} {f : Sch → Nat → List α} {g : Sch → Int} : ∀ (ks : List Sch) (j : Nat), (∀ s ∈ ks, ∀ j, ((f s j).length : Int) ≤ g s) → ((allU f ks j).length : Int) ≤ (ks.map g).sum
  | [], _, _ => by show (0 : Int) ≤ 0; decide
  | s :: r, j, h => by
    show (((f s j) ++ allU f r (j + 1)).length : Int) ≤ _
    rw [List.map_cons, List.sum_cons, List.length_append]
    have := h s List.mem_cons_self j
    have := allU_n r (j + 1) fun s hs => h s (List.mem_cons_of_mem _ hs)
    omega
theorem bestR_n {f : Sch → Nat → List Row} {g : Sch → Int} : ∀ (ks : List Sch) (j : Nat) (acc : List Row), (∀ s ∈ ks, ∀ j, ((f s j).length : Int) ≤ g s) → (∀ s ∈ ks, 0 ≤ g s) → ∀ B : Int, ((acc.length : Int) ≤ B) → 0 ≤ B → ((bestR f ks j acc).length : Int) ≤ B + (ks.map g).sum
  | [], _, acc, _, _, B, h, hB => by
    show (acc.length : Int) ≤ (B + 0)
    omega
  | s :: r, j, acc, h, h0, B, hb, hB => by
    show ((bestR f r (j + 1) (if pts acc < pts (f s j) then f s j else acc)).length : Int) ≤ _
    rw [List.map_cons, List.sum_cons]
    have a1 := h s List.mem_cons_self j
    have a0 := h0 s List.mem_cons_self
    have := bestR_n r (j + 1) (if pts acc < pts (f s j) then f s j else acc) (fun s hs => h s (List.mem_cons_of_mem _ hs)) (fun s hs => h0 s (List.mem_cons_of_mem _ hs)) (B + g s) (by
      split
      · omega
      · omega) (by omega)
    omega
theorem rP_n {ps : List Sch} {ws : List StepT} {ce : Nat → Int} {M : Nat} (hp : ∀ (j : Nat) (s : Sch), ps[j]? = some s → OkS j M 5 s ∧ ce j = er ce 5 s) (h0 : ∀ j, j < M → 0 ≤ ce j) :
    ∀ (k : Nat) (i d : Nat) (s : Sch) (st : Nat) (c : Bool) (wh : List Nat), OkS i M d s → ((rP ps ws k s st c wh).length : Int) ≤ er ce d s
  | 0, i, d, s, st, c, wh, o => er_nonneg (c := ce) (fun j _ hj => h0 j hj) d s o
  | k + 1, i, 0, s, st, c, wh, o => by cases o
  | k + 1, i, d + 1, .step x p, st, c, wh, o => by
    show ((match hits ws c x st with
      | [] => []
      | i :: _ => [(i, p.toNat, wh)]).length : Int) ≤ 1
    split
    · exact Int.zero_le_ofNat 1
    · exact Int.le_refl _
  | k + 1, i, d + 1, .behind x s, st, c, wh, o => by
    show ((match hits ws c x st with
      | [] => []
      | i :: _ => rP ps ws k s (i + 1) c (wh ++ [0])).length : Int) ≤ er ce d s
    have := er_nonneg (c := ce) (fun j _ hj => h0 j hj) d s o.2
    split
    · show (0 : Int) ≤ _
      omega
    · exact rP_n hp h0 k i d s _ c _ o.2
  | k + 1, i, d + 1, .use n, st, c, wh, o => by
    show ((match ps[n]? with
      | none => []
      | some s => rP ps ws k s st c (wh ++ [0])).length : Int) ≤ ce n
    have := h0 n o.2
    split
    · show (0 : Int) ≤ _
      omega
    · rename_i s e
      obtain ⟨o', e'⟩ := hp n s e
      rw [e']
      exact rP_n hp h0 k n 5 s st c _ o'
  | k + 1, i, d + 1, .all ks, st, c, wh, o => allU_n ks 0 fun s hs j => rP_n hp h0 k i d s st c _ (o.2.2 s hs)
  | k + 1, i, d + 1, .best ks, st, c, wh, o => by
    have := bestR_n (f := fun s j => rP ps ws k s st c (wh ++ [j])) (g := er ce d) ks 0 [] (fun s hs j => rP_n hp h0 k i d s st c _ (o.2.2 s hs)) (fun s hs => er_nonneg (c := ce) (fun j _ hj => h0 j hj) d s (o.2.2 s hs)) 0 (by simp) (Int.le_refl _)
    rw [Int.zero_add] at this
    exact this
  | k + 1, i, d + 1, .fin x p s, st, c, wh, o => by
    show ((if lastOk ws c x st = true then [(ws.length - 1, p.toNat, wh)] else rP ps ws k s st c (wh ++ [0])).length : Int) ≤ (1 + er ce d s)
    have := er_nonneg (c := ce) (fun j _ hj => h0 j hj) d s o.2
    have := rP_n (ws := ws) hp h0 k i d s st c (wh ++ [0]) o.2
    split
    · show (1 : Int) ≤ _
      omega
    · omega
  | k + 1, i, d + 1, .seen x s, st, c, wh, o => by
    show ((if (ws.any fun p => p.1 == x) = true then rP ps ws k s st c (wh ++ [0]) else []).length : Int) ≤ er ce d s
    have := er_nonneg (c := ce) (fun j _ hj => h0 j hj) d s o.2
    split
    · exact rP_n hp h0 k i d s st c _ o.2
    · show (0 : Int) ≤ _
      omega
  | k + 1, i, d + 1, .most n s, st, c, wh, o => by
    have := rP_n (ws := ws) hp h0 k i d s st c (wh ++ [0]) o.2
    have := firstP_len (rP ps ws k s st c (wh ++ [0])) n.toNat
    show ((firstP (rP ps ws k s st c (wh ++ [0])) n.toNat).length : Int) ≤ er ce d s
    omega
  | k + 1, i, d + 1, .half s, st, c, wh, o => by
    have := rP_n (ws := ws) hp h0 k i d s st c (wh ++ [0]) o
    have := firstP_len (rP ps ws k s st c (wh ++ [0])) (pts (rP ps ws k s st c (wh ++ [0])) / 2)
    show ((firstP (rP ps ws k s st c (wh ++ [0])) _).length : Int) ≤ er ce d s
    omega
  | k + 1, i, d + 1, .carry s, st, c, wh, o => rP_n hp h0 k i d s st true (wh ++ [0]) o
theorem rAll_7 (x : PW) : (rAll x.1.1 x.1.2).length ≤ 7 := by
  obtain ⟨⟨ps, ws⟩, hP, hW⟩ := x
  obtain ⟨ce, hp, h0, h7⟩ := hP.facts
  cases ps with
  | nil => exact Nat.zero_le _
  | cons s r =>
    obtain ⟨o, e⟩ := hp 0 s rfl
    have h1 : ((rP (s :: r) ws 30 s 0 false []).length : Int) ≤ er ce 5 s := rP_n (ws := ws) hp h0 30 0 5 s 0 false [] o
    have h2 := h7 0 hP.1
    rw [e] at h2
    show (rP (s :: r) ws 30 s 0 false []).length ≤ 7
    omega
/-! ### earnings: of each place of a scheme what is earned there -/
abbrev s_earnings : Stmt := topS 49
theorem sc_earnings : FnScope ["rows", "place", "points", "where"] ["rows"] (defScope s_earnings) := ⟨rfl, rfl, rfl, by decide +kernel, rfl, by decide +kernel, by decide +kernel⟩
abbrev s_differences : Stmt := topS 50
abbrev nmDiff : List Str := ["rows", "other_rows", "ahead", "now", "wheres", "told", "where", "row"]
theorem sc_differences : FnScope nmDiff ["rows", "other_rows"] (defScope s_differences) := ⟨rfl, rfl, rfl, by decide +kernel, rfl, by decide +kernel, by decide +kernel⟩
def natK (wh : List Nat) : List Key := wh.map fun n => Sum.inl ((n : Nat) : Int)
theorem natK_V (wh : List Nat) : (natK wh).map kV = natV wh := by
  unfold natK natV
  rw [List.map_map]
  rfl
theorem natK_inj : ∀ {a b : List Nat}, natK a = natK b → a = b
  | [], [], _ => rfl
  | [], _ :: _, h => by cases h
  | _ :: _, [], h => by cases h
  | x :: a, y :: b, h => by
    unfold natK at h
    rw [List.map_cons, List.map_cons, List.cons.injEq] at h
    obtain ⟨h1, h2⟩ := h
    have h3 : ((x : Nat) : Int) = ((y : Nat) : Int) := Sum.inl.inj h1
    rw [natK_inj h2, show x = y by omega]
/-- what is earned at each place -/
abbrev EaD : Type := List (List Nat × Nat × Nat)
def putE (d : EaD) (k : List Nat) (v : Nat × Nat) : EaD := if (d.any fun e => decide (e.1 = k)) = true then d.map (fun e => if e.1 = k then (e.1, v) else e) else d ++ [(k, v)]
def eD (rs : List Row) : EaD := rs.foldl (fun d r => putE d r.2.2 (r.1, r.2.1)) []
def getE (d : EaD) (k : List Nat) : Option (Nat × Nat) := (d.find? fun e => decide (e.1 = k)).map (·.2)
/-- a pair of numbers stands, or None -/
def EV (H : Hp) (e : Nat × Nat) (v : V) : Prop := ∃ t, v = .ref t ∧ H t = some (.tup [.int ((e.1 : Nat) : Int), .int ((e.2 : Nat) : Int)])
def ER (H : Hp) (e : List Nat × Nat × Nat) (kv : List Key × V) : Prop := kv.1 = natK e.1 ∧ EV H e.2 kv.2
theorem EV.kt {H H' : Hp} {e : Nat × Nat} {v : V} (h : EV H e v) (k : TupK H H') : EV H' e v := by
  obtain ⟨t, h1, h2⟩ := h
  exact ⟨t, h1, k _ _ h2⟩
theorem ER.kt {H H' : Hp} {e : List Nat × Nat × Nat} {kv : List Key × V} (h : ER H e kv) (k : TupK H H') : ER H' e kv := ⟨h.1, h.2.kt k⟩
theorem er_dec {H : Hp} {e : List Nat × Nat × Nat} {kv : List Key × V} (h : ER H e kv) (k : List Nat) : (kv.1 = natK k) = (e.1 = k) := propext ⟨fun z => natK_inj (h.1.symm.trans z), fun z => by rw [h.1, z]⟩
theorem er_any {H : Hp} (k : List Nat) : ∀ {d : EaD} {kvs : List (List Key × V)}, Paired (ER H) d kvs → (kvs.any fun kv => decide (kv.1 = natK k)) = d.any fun e => decide (e.1 = k)
  | _, _, .nil => rfl
  | _, _, .cons (a := e) (b := kv) h t => by
    rw [List.any_cons, List.any_cons, er_any k t]
    congr 1
    exact decide_eq_decide.mpr (by rw [er_dec h k])
theorem er_put {H : Hp} {d : EaD} {kvs : List (List Key × V)} (h : Paired (ER H) d kvs) (k : List Nat) {v : Nat × Nat} {y : V} (hv : EV H v y) : Paired (ER H) (putE d k v) (putK kvs (natK k) y) := by
  unfold putE putK
  rw [er_any k h]
  split
  · rename_i hany
    clear hany
    induction h with
    | nil => exact .nil
    | @cons e kv ds ks h t ih =>
      rw [List.map_cons, List.map_cons]
      refine .cons ?_ ih
      by_cases z : e.1 = k
      · rw [if_pos z, if_pos (by rw [er_dec h k]; exact z)]
        exact ⟨h.1, hv⟩
      · rw [if_neg z, if_neg (by rw [er_dec h k]; exact z)]
        exact h
  · exact paired_snoc h ⟨rfl, hv⟩
/-- what get tells -/
def EO (H : Hp) (o : Option (Nat × Nat)) (v : V) : Prop := match o with
  | none => v = .non
  | some e => EV H e v
theorem er_get {H : Hp} (k : List Nat) : ∀ {d : EaD} {kvs : List (List Key × V)}, Paired (ER H) d kvs → EO H (getE d k) ((valV kvs (natK k)).getD .non)
  | _, _, .nil => rfl
  | _, _, .cons (a := e) (b := kv) (l₁ := d) (l₂ := kvs) h t => by
    by_cases z : e.1 = k
    · have e1 : getE (e :: d) k = some e.2 := by
        unfold getE
        rw [List.find?_cons_of_pos (by rw [decide_eq_true z])]
        rfl
      have e2 : valV (kv :: kvs) (natK k) = some kv.2 := valV_pos (by rw [er_dec h k]; exact z)
      rw [e1, e2]
      exact h.2
    · have e1 : getE (e :: d) k = getE d k := by
        unfold getE
        rw [List.find?_cons_of_neg (by rw [decide_eq_false z]; decide)]
      have z2 : ¬ kv.1 = natK k := by rw [er_dec h k]; exact z
      have e2 : valV (kv :: kvs) (natK k) = valV kvs (natK k) := by
        unfold valV
        rw [List.find?_cons_of_neg (by rw [decide_eq_false z2]; decide)]
      rw [e1, e2]
      exact er_get k t
theorem putE_len (d : EaD) (k : List Nat) (v : Nat × Nat) : (putE d k v).length ≤ d.length + 1 := by
  unfold putE
  split
  · rw [List.length_map]
    omega
  · rw [List.length_append]
    exact Nat.le_refl _
theorem eD_snoc (rs : List Row) (r : Row) : eD (rs ++ [r]) = putE (eD rs) r.2.2 (r.1, r.2.1) := by
  unfold eD
  rw [List.foldl_append]
  rfl
theorem eD_len : ∀ rs : List Row, (eD rs).length ≤ rs.length := by
  intro rs
  have z : ∀ (rs : List Row) (d : EaD), (rs.foldl (fun d r => putE d r.2.2 (r.1, r.2.1)) d).length ≤ d.length + rs.length := by
    intro rs
    induction rs with
    | nil => intro d; exact Nat.le_refl _
    | cons r rs ih =>
      intro d
      have h1 := ih (putE d r.2.2 (r.1, r.2.1))
      have h2 := putE_len d r.2.2 (r.1, r.2.1)
      show (rs.foldl (fun d r => putE d r.2.2 (r.1, r.2.1)) (putE d r.2.2 (r.1, r.2.1))).length ≤ _
      rw [List.length_cons]
      omega
  have h := z rs []
  rw [List.length_nil, Nat.zero_add] at h
  exact h
def spEarnings : Sp := fun vs H Q _ => ∃ (a : Addr) (rs : List Row) (rv : List V), vs = [.ref a] ∧ H a = some (.lst rv) ∧ Paired (RowR H) rs rv ∧ rs.length ≤ 100 ∧
  ∀ (f : Addr) (kvs : List (List Key × V)) (H' : Hp), Same H H' → H f = none → H' f = some (.dT kvs) → Paired (ER H') (eD rs) kvs → Q (.ref f) H'
section
variable {P : Program} {w : World} {K : PySem.W.Frag} {mg : Str → Option Value} {base : Heap} {C : Addr}
theorem ok_earnings (D : Def K mg "earnings" s_earnings ["rows"]) : FnOk P w K mg base CX0 1 D.f D.fd ["rows"] spEarnings := by
  have nd := sc_earnings.nd
  refine D.ok sc_earnings (fun vs H Q E h => ?_) (fun cdv A outer s H vs Q E hr h => ?_)
  · obtain ⟨a, rs, rv, rfl, _⟩ := h
    rfl
  obtain ⟨a, rs, rv, rfl, ea, pr, hl, q⟩ := h
  refine ⟨_, pss_one (ps_ret (pe_dcT (own := [("place", 1), ("points", 2), ("where", 3)]) (g := gTup K 3 (gCons (gName 1) (gCons (gName 2) (gCons (gName 3) gNil)))) (tt := tYes) (tk := tVar 3) (tv := tTup (tCons (tVar 1) (tCons (tVar 2) tNil))) (Nat.lt_of_le_of_lt (Nat.add_le_add_left (by decide) _) hr.units) rfl nd (pi_list (pv 0)) (blkOk_by (N := ["rows", "place", "points", "where"]) (sc := defScope s_earnings) (by decide +kernel))
      (fun _ _ _ _ _ => pg_tup rfl (pgs_cons (pg_name (i := 1) nd rfl (Or.inl rfl)) (pgs_cons (pg_name (i := 2) nd rfl (Or.inl rfl)) (pgs_cons (pg_name (i := 3) nd rfl (Or.inl rfl)) pgs_nil)))) (fun _ _ _ _ _ => pts_nil) (fun _ _ _ _ _ => pv 3) (fun _ _ _ _ _ => pe_tup (pa_cons (pv 1) (pa_cons (pv 2) pa_nil))))), ?_⟩
  have lr := Paired.length pr
  refine ⟨_, rfl, a, rfl, ⟨_, SqL.of ea⟩, fun Dd hD => ?_⟩
  refine dc_listT (K := K) (a := a) (xs := rv) (fun j H'' => ∃ kvs, H'' Dd = some (.dT kvs) ∧ Paired (ER H'') (eD (rs.take j)) kvs ∧ Same H H'') ⟨[], upd_same, .nil, Same.new hD⟩ (fun j H'' _ ⟨_, _, _, sm⟩ => SqL.of (sm _ _ ea)) ?_ ?_
  · rintro j x H'' hj ⟨kvs, eD', pk, sm⟩
    obtain ⟨r, er', ⟨b, c, rfl, eb, ec⟩⟩ := paired_get' pr hj
    have hjl := (List.getElem?_eq_some_iff.mp er').1
    have tk : rs.take (j + 1) = rs.take j ++ [r] := by
      rw [List.take_succ, er']
      rfl
    have lk := Paired.length pk
    have ld := eD_len (rs.take j)
    rw [List.length_take] at ld
    refine ⟨b, _, rfl, SqT.of (sm _ _ eb), rfl, _, _, rfl, _, _, rfl, _, _, rfl, rfl, rfl, _, rfl, _, rfl, _, rfl, sz2, fun t ht => ?_⟩
    have s1 : Same H'' (upd H'' t (.tup [.int ((r.1 : Nat) : Int), .int ((r.2.1 : Nat) : Int)])) := Same.new ht
    refine ⟨kvs, natK r.2.2, c, rfl, ?_, s1 _ _ eD', ?_, ?_⟩
    · rw [natK_V]
      exact s1 _ _ (sm _ _ ec)
    · exact Nat.lt_of_le_of_lt (show kvs.length ≤ 100 by omega) (by decide)
    · have tk2 : TupK (upd H'' t (.tup [.int ((r.1 : Nat) : Int), .int ((r.2.1 : Nat) : Int)])) (upd (upd H'' t (.tup [.int ((r.1 : Nat) : Int), .int ((r.2.1 : Nat) : Int)])) Dd (.dT (putK kvs (natK r.2.2) (.ref t)))) := fun z ys ez => by
        rw [upd_ne (fun e => by rw [e, s1 _ _ eD'] at ez; cases ez)]
        exact ez
      refine ⟨_, upd_same, ?_, Same.newer (sm.trans s1) hD⟩
      rw [tk, eD_snoc]
      exact paired_imp (er_put (paired_imp pk fun _ _ z => z.kt (Same.tupK s1)) r.2.2 (v := (r.1, r.2.1)) ⟨t, rfl, upd_same⟩) fun _ _ z => z.kt tk2
  · rintro H'' ⟨kvs, eD', pk, sm⟩
    rw [← lr, List.take_length] at pk
    exact q Dd kvs H'' sm hD eD' pk
end
end MS
end
section
set_option maxRecDepth 100000
set_option maxHeartbeats 4000000
namespace MS
open PySem L2
/-! ### differences -/
def intN (m : List Nat) : List Int := m.map fun n => ((n : Nat) : Int)
def keyI (k : List Key) : List Int := k.map fun z => match z with
  | .inl i => i
  | .inr _ => 0
theorem keyI_nat (m : List Nat) : keyI (natK m) = intN m := by
  unfold keyI natK intN
  rw [List.map_map]
  rfl
theorem intN_V (m : List Nat) : (intN m).map V.int = natV m := by
  unfold intN natV
  rw [List.map_map]
  rfl
theorem intN_toN (m : List Nat) : (intN m).map Int.toNat = m := by
  unfold intN
  rw [List.map_map]
  exact (List.map_congr_left (g := id) fun n _ => by show ((n : Nat) : Int).toNat = n; omega).trans (List.map_id _)
def keysE (d : EaD) : List (List Nat) := d.map (·.1)
/-- the places of both, rising, each once -/
def IsWh (ms : List (List Nat)) (d1 d2 : EaD) : Prop := (ms.map intN).Nodup ∧ (ms.map intN).Pairwise (· ≤ ·) ∧ ∀ m, m ∈ ms ↔ m ∈ keysE d1 ∨ m ∈ keysE d2
def DR (H : Hp) (d1 d2 : EaD) (m : List Nat) (v : V) : Prop := ∃ t wa x y, v = .ref t ∧ H t = some (.tup [.ref wa, x, y]) ∧ H wa = some (.tup (natV m)) ∧ EO H (getE d1 m) x ∧ EO H (getE d2 m) y
theorem EO.kt {H H' : Hp} {o : Option (Nat × Nat)} {v : V} (h : EO H o v) (k : TupK H H') : EO H' o v := by
  cases o with
  | none => exact h
  | some e => exact EV.kt h k
theorem DR.kt {H H' : Hp} {d1 d2 : EaD} {m : List Nat} {v : V} (h : DR H d1 d2 m v) (k : TupK H H') : DR H' d1 d2 m v := by
  obtain ⟨t, wa, x, y, e, h1, h2, h3, h4⟩ := h
  exact ⟨t, wa, x, y, e, k _ _ h1, k _ _ h2, h3.kt k, h4.kt k⟩
def eoD (o : Option (Nat × Nat)) : PyData := match o with
  | none => .none
  | some e => .tuple ([((e.1 : Nat) : Int), ((e.2 : Nat) : Int)].map PyData.int)
theorem EO.dp {K : PySem.W.Frag} {H : Hp} {o : Option (Nat × Nat)} {v : V} (h : EO H o v) : Dp K H v (eoD o) := by
  cases o with
  | none =>
    obtain rfl : v = .non := h
    exact .non
  | some e =>
    obtain ⟨t, rfl, et⟩ := h
    exact .tup (SqT.of et) (dp_ints [((e.1 : Nat) : Int), ((e.2 : Nat) : Int)])
theorem eoD_ok (o : Option (Nat × Nat)) : SeqAt.shaped (eoD o) = true := by
  cases o with
  | none => exact (show ShN 0 PyData.none from ⟨by rw [PyData.canLay0], by rw [PyData.depth]; exact Nat.zero_le _⟩).ok (by decide)
  | some e => exact (ShN.tup (sh_ints 0 _)).ok (by decide)
theorem eoD_eqv (o u : Option (Nat × Nat)) : PyData.eqv (eoD o) (eoD u) = decide (o = u) := by
  cases o with
  | none =>
    cases u with
    | none => simp [eoD, PyData.eqv]
    | some e => simp [eoD, PyData.eqv]
  | some d =>
    cases u with
    | none => simp [eoD, PyData.eqv]
    | some e =>
      obtain ⟨a, b⟩ := d
      obtain ⟨x, y⟩ := e
      simp only [eoD, PyData.eqv, List.map_cons, List.map_nil, PyData.eqvAll, Bool.and_true]
      by_cases h : a = x ∧ b = y
      · obtain ⟨rfl, rfl⟩ := h
        simp
      · rw [decide_eq_false (fun z => h (by cases z; exact ⟨rfl, rfl⟩))]
        refine Bool.eq_false_iff.mpr fun z => h ?_
        rw [Bool.and_eq_true] at z
        have z1 := eq_of_beq z.1
        have z2 := eq_of_beq z.2
        omega
/-- the keys' addresses, as ints -/
theorem keys_ints {H H' : Hp} {d : EaD} {kvs : List (List Key × V)} {L : List (Addr × List Key)} (h : Paired (ER H) d kvs) (hL : L.map (·.2) = kvs.map (·.1)) (hk : ∀ q ∈ L, H' q.1 = some (.tup (q.2.map kV))) :
    ∃ I : List (Addr × List Int), (L.map fun q => V.ref q.1) = (I.map fun q => V.ref q.1) ∧ I.map (·.2) = (keysE d).map intN ∧ ∀ q ∈ I, H' q.1 = some (.tup (q.2.map V.int)) := by
  have e1 : kvs.map (·.1) = (keysE d).map natK := by
    clear hL
    induction h with
    | nil => rfl
    | cons h t ih =>
      rw [List.map_cons, ih, h.1]
      rfl
  rw [e1] at hL
  refine ⟨L.map fun q => (q.1, keyI q.2), by rw [List.map_map]; rfl, ?_, fun q hq => ?_⟩
  · have e2 := congrArg (List.map keyI) hL
    rw [List.map_map, List.map_map] at e2
    rw [List.map_map]
    refine Eq.trans ?_ (e2.trans (List.map_congr_left fun m _ => keyI_nat m))
    rfl
  · obtain ⟨r, hr, rfl⟩ := List.mem_map.mp hq
    have hm : r.2 ∈ L.map (·.2) := List.mem_map.mpr ⟨r, hr, rfl⟩
    rw [hL] at hm
    obtain ⟨m, _, em⟩ := List.mem_map.mp hm
    have z := hk r hr
    show H' r.1 = some (.tup ((keyI r.2).map V.int))
    rw [← em] at z ⊢
    rw [keyI_nat, intN_V, ← natK_V]
    exact z
theorem isWh_of {d1 d2 : EaD} {I1 I2 L3 L' : List (Addr × List Int)} (e1 : I1.map (·.2) = (keysE d1).map intN) (e2 : I2.map (·.2) = (keysE d2).map intN) (h1 : ∀ p ∈ L3, p ∈ I1 ++ I2) (h2 : ∀ p ∈ I1 ++ I2, p.2 ∈ L3.map (·.2)) (hp : L'.Perm L3) (hn : (L'.map (·.2)).Nodup) (hw : L'.Pairwise (fun q r => q.2 ≤ r.2)) :
    ∃ ms, IsWh ms d1 d2 ∧ L'.map (·.2) = ms.map intN := by
  have key : ∀ x ∈ L'.map (·.2), ∃ m, (m ∈ keysE d1 ∨ m ∈ keysE d2) ∧ x = intN m := fun x hx => by
    obtain ⟨q, hq, rfl⟩ := List.mem_map.mp hx
    rcases List.mem_append.mp (h1 q (hp.mem_iff.mp hq)) with h | h
    · have z : q.2 ∈ I1.map (·.2) := List.mem_map.mpr ⟨q, h, rfl⟩
      rw [e1] at z
      obtain ⟨m, hm, em⟩ := List.mem_map.mp z
      exact ⟨m, .inl hm, em.symm⟩
    · have z : q.2 ∈ I2.map (·.2) := List.mem_map.mpr ⟨q, h, rfl⟩
      rw [e2] at z
      obtain ⟨m, hm, em⟩ := List.mem_map.mp z
      exact ⟨m, .inr hm, em.symm⟩
  have back : ∀ m, (m ∈ keysE d1 ∨ m ∈ keysE d2) → intN m ∈ L'.map (·.2) := fun m hm => by
    have z : intN m ∈ (I1 ++ I2).map (·.2) := by
      rw [List.map_append, e1, e2]
      rcases hm with h | h
      · exact List.mem_append_left _ (List.mem_map.mpr ⟨m, h, rfl⟩)
      · exact List.mem_append_right _ (List.mem_map.mpr ⟨m, h, rfl⟩)
    obtain ⟨p, hpm, ep⟩ := List.mem_map.mp z
    have z2 := h2 p hpm
    rw [ep] at z2
    exact (hp.map (·.2)).mem_iff.mpr z2
  have eq : L'.map (·.2) = ((L'.map (·.2)).map fun x => x.map Int.toNat).map intN := by
    rw [List.map_map]
    refine ((List.map_congr_left fun x hx => ?_).trans (List.map_id _)).symm
    obtain ⟨m, _, rfl⟩ := key x hx
    show intN ((intN m).map Int.toNat) = intN m
    rw [intN_toN]
  refine ⟨(L'.map (·.2)).map fun x => x.map Int.toNat, ⟨by rw [← eq]; exact hn, by rw [← eq]; exact List.pairwise_map.mpr hw, fun m => ⟨fun hm => ?_, fun hm => ?_⟩⟩, eq⟩
  · obtain ⟨x, hx, rfl⟩ := List.mem_map.mp hm
    obtain ⟨m, hm2, rfl⟩ := key x hx
    rw [intN_toN]
    exact hm2
  · exact List.mem_map.mpr ⟨intN m, back m hm, intN_toN m⟩
/-- sorted(set), the heap behind it not told -/
def rSortS (K : PySem.W.Frag) (P : Program) (w : World) : List V → Hp → VK → Prop := fun vs H Q => ∃ (a : Addr) (L : List (Addr × List Int)), vs = [V.ref a] ∧ H a = some (SetTO P w a L) ∧ (∀ p ∈ L, SqT K H p.1 (p.2.map V.int)) ∧
  ∀ (L' : List (Addr × List Int)) (p : Addr) (H' : Hp), L'.Perm L → (L'.map (·.2)).Nodup → L'.length < 64 → L'.Pairwise (fun q r => q.2 ≤ r.2) → H p = none → Same H H' → H' p = some (.lst (L'.map fun q => V.ref q.1)) → Q (.ref p) H'
theorem cr_sortedS {X : Cx} (hc : X.calm = true) (hu : X.A.units + 64 < cLine) : CallR X (.builtin "sorted") (rSortS X.K X.prog X.w) := fun pins s σ H vs us Q I r h => cr_sortedV hc hu pins s σ H vs us Q I r (by
  obtain ⟨a, L, e, ha, hk, q⟩ := h
  exact ⟨a, L, e, ha, hk, fun L' p h1 h2 h3 h4 h5 => q L' p _ h1 h2 h3 h4 h5 (Same.new h5) upd_same⟩)
def difN (d1 d2 : EaD) (ms : List (List Nat)) : List (List Nat) := ms.filter fun m => !decide (getE d1 m = getE d2 m)
def spDiff : Sp := fun vs H Q _ => ∃ (a b : Addr) (rs1 rs2 : List Row) (rv1 rv2 : List V), vs = [.ref a, .ref b] ∧ H a = some (.lst rv1) ∧ Paired (RowR H) rs1 rv1 ∧ rs1.length ≤ 7 ∧ H b = some (.lst rv2) ∧ Paired (RowR H) rs2 rv2 ∧ rs2.length ≤ 7 ∧
  ∀ (f : Addr) (ms : List (List Nat)) (rv : List V) (H' : Hp), Same H H' → H f = none → H' f = some (.lst rv) → IsWh ms (eD rs1) (eD rs2) → Paired (DR H' (eD rs1) (eD rs2)) (difN (eD rs1) (eD rs2) ms) rv → Q (.ref f) H'
section
variable {P : Program} {w : World} {K : PySem.W.Frag} {mg : Str → Option Value} {base : Heap} {C : Addr}
theorem ok_differences (T : PTx w K mg) (D : Def K mg "differences" s_differences ["rows", "other_rows"]) (DE : Def K mg "earnings" s_earnings ["rows"]) : FnOk P w K mg base CX0 2 D.f D.fd ["rows", "other_rows"] spDiff := by
  have GE : FnOk P w K mg base CX0 1 DE.f DE.fd ["rows"] spEarnings := ok_earnings DE
  have nd := sc_differences.nd
  refine D.ok sc_differences (fun vs H Q E h => ?_) (fun cdv A outer s H vs Q E hr h => ?_)
  · obtain ⟨a, b, rs1, rs2, rv1, rv2, rfl, _⟩ := h
    rfl
  obtain ⟨a, b, rs1, rs2, rv1, rv2, rfl, ea, pr1, hl1, eb, pr2, hl2, q⟩ := h
  refine ⟨_, pss_cons (ps_set (i := 2) nd rfl (Or.inr rfl) (pcall DE GE hr (pa_cons (pv 0) pa_nil)))
    (pss_cons (ps_set (i := 3) nd rfl (Or.inr rfl) (pcall DE GE hr (pa_cons (pv 1) pa_nil)))
    (pss_cons (ps_set (i := 4) nd rfl (Or.inl rfl) (pe_callB (cr_sortedS rfl hr.units) rfl (T.free "sorted" (by decide +kernel)) (by decide +kernel) (pa_cons (pe_callTy (cr_setOfT rfl hr.units) rfl (T.free "set" (by decide +kernel)) (by decide +kernel) (pa_cons
        (pe_op op_cat (pe_callTy (call_listDT rfl) rfl (T.free "list" (by decide +kernel)) (by decide +kernel) (pa_cons (pv 2) pa_nil)) (pe_callTy (call_listDT rfl) rfl (T.free "list" (by decide +kernel)) (by decide +kernel) (pa_cons (pv 3) pa_nil))) pa_nil)) pa_nil)))
    (pss_cons (ps_setLc (i := 5) (own := [("where", 6)]) (g := gName 6) (tt := tYes) rfl nd rfl rfl (sw_true rfl rfl rfl (by decide +kernel)) (pi_list (pv 4)) (blkOk_by (N := nmDiff) (sc := defScope s_differences) (by decide +kernel)) (fun _ _ _ _ _ => pg_name (i := 6) nd rfl (Or.inl rfl)) (fun _ _ _ _ _ => pts_nil)
          (fun _ _ _ _ _ => pe_tup (pa_cons (pv 6) (pa_cons (pe_dget2 (Nat.lt_of_le_of_lt (Nat.add_le_add_left (by decide) _) hr.units) (pv 2) (pv 6) pe_non ⟨rfl, rfl, rfl, rfl⟩) (pa_cons (pe_dget2 (Nat.lt_of_le_of_lt (Nat.add_le_add_left (by decide) _) hr.units) (pv 3) (pv 6) pe_non ⟨rfl, rfl, rfl, rfl⟩) pa_nil)))))
    (pss_one (ps_ret (pe_lc (own := [("row", 7)]) (g := gName 7) (tt := tTest (tOp (rNeD K) (tOp (rIxT K) (tVar 7) (tC (.int 1))) (tOp (rIxT K) (tVar 7) (tC (.int 2))))) (te := tVar 7) rfl nd (pi_list (pv 5)) (blkOk_by (N := nmDiff) (sc := defScope s_differences) (by decide +kernel)) (fun _ _ _ _ _ => pg_name (i := 7) nd rfl (Or.inl rfl))
          (fun _ _ _ _ _ => pts_one (pt_cmpR (op_neD hr.units) (pe_ix (r := rIxT K) ix_tup (pv 7) pe_int (fun _ _ => rfl)) (pe_ix (r := rIxT K) ix_tup (pv 7) pe_int (fun _ _ => rfl)) (nomark _))) (fun _ _ _ _ _ => pv 7))))))), ?_⟩
  have l1 := eD_len rs1
  have l2 := eD_len rs2
  refine ⟨_, rfl, a, rs1, rv1, rfl, ea, pr1, by omega, fun f1 k1 H1 s1 hf1 e1 p1 => ?_⟩
  dsimp only [gName]
  refine ⟨_, rfl, b, rs2, rv2, rfl, s1 _ _ eb, paired_imp pr2 fun _ _ z => z.keep (Same.tupK s1), by omega, fun f2 k2 H2 s2 hf2 e2 p2 => ?_⟩
  dsimp only [gName]
  have s12 := s1.trans s2
  have e1' := s2 _ _ e1
  have p1' : Paired (ER H2) (eD rs1) k1 := paired_imp p1 fun _ _ z => z.kt (Same.tupK s2)
  refine ⟨_, rfl, f1, k1, rfl, e1', fun L1 q1 h1 hk1 hq1 => ?_⟩
  have s3 := Same.new (o := .lst (L1.map fun q => V.ref q.1)) hq1
  obtain ⟨I1, er1, ei1, ek1⟩ := keys_ints p1' h1 (fun q hq => s3 _ _ (hk1 q hq))
  refine ⟨_, rfl, f2, k2, rfl, s3 _ _ e2, fun L2 q2 h2 hk2 hq2 => ?_⟩
  have s4 := s3.trans (Same.new (o := .lst (L2.map fun q => V.ref q.1)) hq2)
  obtain ⟨I2, er2, ei2, ek2⟩ := keys_ints (paired_imp p2 fun _ _ z => z.kt (Same.tupK s3)) h2 (fun q hq => Same.new (o := .lst (L2.map fun q => V.ref q.1)) hq2 _ _ (hk2 q hq))
  have m1 : I1.length = (eD rs1).length := by
    have := congrArg List.length ei1
    unfold keysE at this
    rw [List.length_map, List.length_map, List.length_map] at this
    exact this
  have m2 : I2.length = (eD rs2).length := by
    have := congrArg List.length ei2
    unfold keysE at this
    rw [List.length_map, List.length_map, List.length_map] at this
    exact this
  rw [er1, er2] at *
  refine ⟨q1, q2, _, _, rfl, rfl, Same.new hq2 _ _ upd_same, upd_same, ?_, fun q3 hq3 => ?_⟩
  · rw [List.length_map, List.length_map]
    exact szN (by omega)
  rw [← List.map_append]
  have s5 := ((Same.new (o := .lst (I1.map fun q => V.ref q.1)) hq1).trans (Same.new (o := .lst (I2.map fun q => V.ref q.1)) hq2)).trans (Same.new (o := .lst ((I1 ++ I2).map fun q => V.ref q.1)) hq3)
  have ekA : ∀ q ∈ I1 ++ I2, upd (upd (upd H2 q1 (.lst (I1.map fun q => V.ref q.1))) q2 (.lst (I2.map fun q => V.ref q.1))) q3 (.lst ((I1 ++ I2).map fun q => V.ref q.1)) q.1 = some (.tup (q.2.map V.int)) := fun q hq => by
    refine Same.new hq3 _ _ ?_
    rcases List.mem_append.mp hq with h | h
    · exact Same.new hq2 _ _ (ek1 q h)
    · exact ek2 q h
  refine ⟨q3, I1 ++ I2, rfl, SqL.of upd_same, fun p hp => SqT.of (ekA p hp), by rw [List.length_append]; omega, fun a3 L3 ha3 hs1 hs2 => ?_⟩
  have s6 := s5.trans (Same.new (o := SetTO P w a3 L3) ha3)
  refine ⟨a3, L3, rfl, upd_same, fun p hp => SqT.of (Same.new ha3 _ _ (ekA p (hs1 p hp))), fun L' p4 Hd pm nd4 hf4 pw hp4 sd ep4 => ?_⟩
  have s7 := s6.trans sd
  obtain ⟨ms, hms, ems⟩ := isWh_of ei1 ei2 hs1 hs2 pm nd4 pw
  have hkey : ∀ q ∈ L', Hd q.1 = some (.tup (q.2.map V.int)) := fun q hq => sd _ _ (Same.new ha3 _ _ (ekA q (hs1 q (pm.mem_iff.mp hq))))
  have lms : L'.length = ms.length := by
    have := congrArg List.length ems
    rw [List.length_map, List.length_map] at this
    exact this
  dsimp only [gName]
  refine ⟨_, rfl, p4, rfl, ⟨_, SqL.of ep4⟩, fun D hD => ?_⟩
  refine lc_list (K := K) (a := p4) (xs := L'.map fun q => V.ref q.1) (fun j H'' => ∃ tv, H'' D = some (.lst tv) ∧ Paired (DR H'' (eD rs1) (eD rs2)) (ms.take j) tv ∧ Same Hd H'') ⟨[], upd_same, .nil, Same.new hD⟩ (fun j H'' _ ⟨_, _, _, sm⟩ => SqL.of (sm _ _ ep4)) ?_ ?_
  · rintro j x H'' hj ⟨tv, eDD, pk, sm⟩
    rw [List.getElem?_map] at hj
    obtain ⟨qj, eqj, rfl⟩ := Option.map_eq_some_iff.mp hj
    have hjl := (List.getElem?_eq_some_iff.mp eqj).1
    have emj : ms[j]? = some (ms[j]'(by omega)) := List.getElem?_eq_getElem _
    generalize ms[j]'(by omega) = m at emj
    have eqm : qj.2 = intN m := by
      have z := congrArg (fun l => l[j]?) ems
      simp only [List.getElem?_map, eqj, emj, Option.map_some] at z
      exact Option.some.inj z
    have ew : Hd qj.1 = some (.tup (natV m)) := by
      rw [← intN_V, ← eqm]
      exact hkey qj (List.mem_of_getElem? eqj)
    have tk : ms.take (j + 1) = ms.take j ++ [m] := by
      rw [List.take_succ, emj]
      rfl
    have lk := Paired.length pk
    rw [List.length_take] at lk
    have E1 : H'' f1 = some (.dT k1) := sm _ _ (s7 _ _ e1')
    have E2 : H'' f2 = some (.dT k2) := sm _ _ (s7 _ _ e2)
    have E0 : H'' qj.1 = some (.tup ((natK m).map kV)) := by
      rw [natK_V]
      exact sm _ _ ew
    have o1 := (er_get m p1').kt (Same.tupK (s7.trans sm))
    have o2 := (er_get m p2).kt (Same.tupK (s7.trans sm))
    refine ⟨rfl, _, rfl, _, rfl, f1, rfl, .inr ⟨k1, Rd.of E1⟩, _, rfl, valV k1 (natK m), DGet.t E1 E0, ?_⟩
    refine ⟨_, rfl, f2, rfl, .inr ⟨k2, Rd.of E2⟩, _, rfl, valV k2 (natK m), DGet.t E2 E0, (by show 3 ≤ sizeLine; decide), fun t ht => ?_⟩
    have st : Same H'' (upd H'' t (.tup [.ref qj.1, (valV k1 (natK m)).getD .non, (valV k2 (natK m)).getD .non])) := Same.new ht
    refine ⟨tv, st _ _ eDD, Nat.lt_of_le_of_lt (show tv.length ≤ 100 by omega) (by decide), ?_⟩
    have tkk : TupK (upd H'' t (.tup [.ref qj.1, (valV k1 (natK m)).getD .non, (valV k2 (natK m)).getD .non])) (upd (upd H'' t (.tup [.ref qj.1, (valV k1 (natK m)).getD .non, (valV k2 (natK m)).getD .non])) D (.lst (tv ++ [.ref t]))) := TupK.put (st _ _ eDD)
    have dr : DR (upd H'' t (.tup [.ref qj.1, (valV k1 (natK m)).getD .non, (valV k2 (natK m)).getD .non])) (eD rs1) (eD rs2) m (.ref t) := ⟨t, qj.1, _, _, rfl, upd_same, st _ _ (sm _ _ ew), o1.kt (Same.tupK st), o2.kt (Same.tupK st)⟩
    refine ⟨tv ++ [.ref t], upd_same, ?_, Same.newer (sm.trans st) hD⟩
    rw [tk]
    exact paired_snoc (paired_imp pk fun _ _ z => z.kt ((Same.tupK st).trans tkk)) (dr.kt tkk)
  · rintro H5 ⟨tv, eDD, pk, sm⟩
    rw [List.length_map, lms, List.take_length] at pk
    have s8 := (s12.trans s7).trans sm
    dsimp only [gName]
    refine ⟨_, rfl, D, rfl, ⟨_, SqL.of eDD⟩, fun D2 hD2 => ?_⟩
    have lt := Paired.length pk
    refine lc_list (K := K) (a := D) (xs := tv) (fun j H'' => ∃ rv, H'' D2 = some (.lst rv) ∧ Paired (DR H'' (eD rs1) (eD rs2)) (difN (eD rs1) (eD rs2) (ms.take j)) rv ∧ Same H5 H'') ⟨[], upd_same, .nil, Same.new hD2⟩ (fun j H'' _ ⟨_, _, _, sm⟩ => SqL.of (sm _ _ eDD)) ?_ ?_
    · rintro j v H'' hj ⟨rv, er, pr, sm2⟩
      obtain ⟨m, em, dr⟩ := paired_get' pk hj
      have hjl := (List.getElem?_eq_some_iff.mp em).1
      have tk : ms.take (j + 1) = ms.take j ++ [m] := by
        rw [List.take_succ, em]
        rfl
      have dr2 := dr.kt (Same.tupK sm2)
      obtain ⟨t, wa, x, y, rfl, et, ewa, ox, oy⟩ := id dr2
      have lr := Paired.length pr
      have lf : (difN (eD rs1) (eD rs2) (ms.take j)).length ≤ ms.length := Nat.le_trans (List.length_filter_le _ _) (by rw [List.length_take]; omega)
      refine ⟨rfl, _, rfl, t, _, 1, x, rfl, rfl, SqT.of et, at1, _, rfl, t, _, 2, y, rfl, rfl, SqT.of et, at2, _, _, EO.dp ox, EO.dp oy, eoD_ok _, eoD_ok _, _, rfl, ?_⟩
      rw [eoD_eqv]
      by_cases e : getE (eD rs1) m = getE (eD rs2) m
      · rw [decide_eq_true e]
        refine iteF ⟨rv, er, ?_, sm2⟩
        rw [tk]
        unfold difN
        rw [List.filter_append, List.filter_cons_of_neg (by rw [decide_eq_true e]; decide), List.filter_nil, List.append_nil]
        exact pr
      · rw [decide_eq_false e]
        refine iteT ⟨_, rfl, rv, er, Nat.lt_of_le_of_lt (show rv.length ≤ 100 by omega) (by decide), rv ++ [.ref t], upd_same, ?_, Same.newer sm2 hD2⟩
        have tkk : TupK H'' (upd H'' D2 (.lst (rv ++ [.ref t]))) := TupK.put er
        rw [tk]
        unfold difN
        rw [List.filter_append, List.filter_cons_of_pos (by rw [decide_eq_false e]; rfl), List.filter_nil]
        exact paired_snoc (paired_imp pr fun _ _ z => z.kt tkk) (dr2.kt tkk)
    · rintro H6 ⟨rv, er, pr, sm2⟩
      rw [← lt, List.take_length] at pr
      exact q D2 ms rv H6 (s8.trans sm2) (s8.free hD2) er hms pr
end
end MS
end
section
set_option maxRecDepth 100000
set_option maxHeartbeats 4000000
namespace MS
open PySem L2
/-! ### add -/
theorem DefM.okX {P : Program} {w : World} {K : PySem.W.Frag} {mg : Str → Option Value} {base : Heap} {C : Addr} {m x : Str} {st : Stmt} {ps N : List Str} {k : Nat} {sp : Sp} (D : DefM K C m x st ps) (S : FnScope N ps (defScope st)) (len : ∀ vs H Q E, sp vs H Q E → vs.length = ps.length)
    (hbody : ∀ (cdv : Value) (A : Around) (outer : List Env) (s : Shared) (H : Hp) (vs : List V) (Q : VK) (E : XK), Room k (A.deeper (PyProof.Rows.envOfC x (defScope st) s.heap.objs.size D.f cdv)) → sp vs H Q E →
      ∃ t, PSs (cxOf (L2.CX P w) P w K mg base N x (defScope st) D.f cdv A outer s H E) (defBody st) t ∧ t { nx := fun _ H' => Q .non H', rt := Q } (start N vs) H) : FnOk P w K mg base (L2.CX P w) (k + 1) D.f D.fd ps sp := D.F.ok S len hbody
/-- all that may change is there -/
def FOk (F : List Addr) (H : Hp) : Prop := ∀ z ∈ F, H z ≠ none
theorem FOk.nin {F : List Addr} {H : Hp} {l : Addr} (h : FOk F H) (e : H l = none) : l ∉ F := fun hm => h l hm e
theorem FOk.same {F : List Addr} {H H' : Hp} (h : FOk F H) (s : Same H H') : FOk F H' := fun z hz e => h z hz (s.free e)
theorem FOk.keep {F S : List Addr} {H H' : Hp} (h : FOk F H) (k : Keep S H H') (hS : ∀ z ∈ S, H' z ≠ none) : FOk F H' := fun z hz e => by
  by_cases m : z ∈ S
  · exact hS z m e
  · cases q : H z with
    | none => exact h z hz q
    | some o =>
      rw [k z o q m] at e
      cases e
def spAdd (C CC : Addr) : Sp := fun vs H Q E => ∃ (F : List Addr) (a pt wa : Addr) (x : HS) (past : List HS) (ws : List StepT), vs = [.ref a, .ref wa] ∧ HeapAt C F H a pt x past ∧ GoodS x ∧ FOk F H ∧ a ∈ F ∧ pt ∈ F ∧ past.length ≤ 900 ∧ H wa = some (.lst (stepsV ws)) ∧ WorkOk ws ∧
  (x.2.length = 20 → Raised0 CC H E) ∧ (x.2.length < 20 → ∀ H', HeapAt C F H' a pt (x.1, x.2 ++ [ws]) (past ++ [x]) → Keep [a, pt] H H' → FOk F H' → Q (.int ((x.2.length : Nat) : Int)) H')
section
variable {P : Program} {w : World} {K : PySem.W.Frag} {mg : Str → Option Value} {base : Heap} {C CV : Addr}
theorem ok_rows_any (T : PTx w K mg) (YV : VCls K mg CV) (D : DRows K mg) : FnOk P w K mg base CX0 94 D.DB.f D.DB.fd ["paper", "work"] (fun vs H Q E => ∃ x, spRowsBy1 x vs H Q E) := fn_any fun x => ok_rows_by x T YV D
theorem ok_add (T : PTx w K mg) (hmw : ∃ t, mg "MOST_WORKS" = some (.int 20 t)) (YV : VCls K mg CV) (DRw : DRows K mg) (Y : HCls K mg C) (RC : Rs0 K mg "BadCount") : FnOk P w K mg base (L2.CX P w) 95 Y.DA.f Y.DA.fd ["self", "work"] (spAdd C RC.C) := by
  have GK : FnOk P w K mg base CX0 2 DRw.DC.f DRw.DC.fd ["work"] spCheckWork := ok_check_work T DRw.DC DRw.DI
  have GB : FnOk P w K mg base CX0 94 DRw.DB.f DRw.DB.fd ["paper", "work"] (fun vs H Q E => ∃ x, spRowsBy1 x vs H Q E) := ok_rows_any T YV DRw
  have GE : FnOk P w K mg base CX0 1 Y.DBe.f Y.DBe.fd ["self", "paper", "held"] (spBecome C) := ok_become Y
  obtain ⟨tm, gm⟩ := hmw
  have nd := sc_H_add.nd
  refine Y.DA.okX sc_H_add (fun vs H Q E h => ?_) (fun cdv A outer s H vs Q E hr h => ?_)
  · obtain ⟨F, a, pt, wa, x, past, ws, rfl, _⟩ := h
    rfl
  obtain ⟨F, a, pt, wa, x, past, ws, rfl, ⟨dx, pa, he, ea, hpa, hh, hpast⟩, hG, hF, aF, pF, hl, ew, hW, q1, q2⟩ := h
  have r1 : Room 1 _ := hr.mono (by decide)
  have r2 : Room 2 _ := hr.mono (by decide)
  have tk : L2.Takes (cxOf (L2.CX P w) P w K mg base ["self", "work", "steps"] "Heap.add" (defScope s_H_add) Y.DA.f cdv A outer s H E) (fun cls d _ H' => E cls d H') := L2.takes_of rfl rfl rfl rfl
  refine ⟨_, pss_cons (ps_expr (pcall DRw.DC GK r2 (pa_cons (pv 1) pa_nil)))
    (pss_cons (ps_if (pt_cmpR op_eq (pe_callB call_len_seq rfl (T.free "len" (by decide +kernel)) PySem.boot_len (pa_cons (pe_fld (pv 0) rfl) pa_nil)) (pe_glob rfl gm (v := .int 20) ⟨_, rfl⟩) (nomark _)) (pss_one (ps_r0 RC rfl tk)) pss_nil)
    (pss_cons (ps_set (i := 2) nd rfl (Or.inl rfl) (pe_callTy call_list_of rfl (T.free "list" (by decide +kernel)) (by decide +kernel) (pa_cons (pv 1) pa_nil)))
    (pss_cons (ps_expr (pe_meth (pv 0) Y.cl Y.DBe.me GE r1 Y.DBe.b .nil pass0 (pa_cons (pe_fld (pv 0) rfl) (pa_cons (pe_op op_cat (pe_fld (pv 0) rfl) (pe_lst (pa_cons (pe_tup (pa_cons (pv 2) (pa_cons (pcall DRw.DB GB hr (pa_cons (pe_fld (pv 0) rfl) (pa_cons (pv 2) pa_nil))) pa_nil))) pa_nil))) pa_nil))))
    (pss_one (ps_ret (pe_op op_sub (pe_callB call_len_seq rfl (T.free "len" (by decide +kernel)) PySem.boot_len (pa_cons (pe_fld (pv 0) rfl) pa_nil)) pe_int)))))), ?_⟩
  obtain ⟨xs, eh, hFn, pr⟩ := id hh
  obtain ⟨xp, ept, pp⟩ := id hpast
  have lx := Paired.length pr
  have lp := Paired.length pp
  refine ⟨_, rfl, wa, ws, rfl, ew, hW, fun H1 s1 => ?_⟩
  have ea1 := s1 _ _ ea
  have eh1 := s1 _ _ eh
  dsimp only
  refine seq_if (b := x.2.length == 20) (fun Q q => ⟨_, rfl, a, C, dx, _, _, rfl, ea1, Y.cl, Y.nHeld, hf_lh _ _ _, he, xs, rfl, .inl (SqL.of eh1), rfl, _, rfl, ?_⟩) (fun z => ?_) (fun z => ?_)
  · have e : decide (V.int ((xs.length : Nat) : Int) = V.int 20) = (x.2.length == 20) := by
      rw [← lx]
      by_cases h : x.2.length = 20
      · rw [h]
        rfl
      · rw [decide_eq_false (fun z => h (by have := V.int.inj z; omega)), beq_false_of_ne h]
    rw [e]
    exact q
  · exact q1 (eq_of_beq z) H1 s1
  have h20 : x.2.length < 20 := by
    have z1 : x.2.length ≠ 20 := fun e => by rw [e] at z; cases z
    have z2 := hG.2.2
    omega
  refine ⟨_, rfl, wa, _, rfl, .inl (SqL.of (s1 _ _ ew)), fun l hl1 => ?_⟩
  dsimp only [gName]
  have s2 := s1.trans (Same.new (o := .lst (stepsV ws)) hl1)
  obtain ⟨_, pv0, e0, epv, ppv⟩ := id hpa
  obtain rfl := V.ref.inj e0
  refine ⟨_, rfl, a, dx, _, rfl, s2 _ _ ea, hf_no _ _ _ (by decide +kernel) (by decide +kernel) (by decide +kernel), ?_⟩
  refine ⟨_, rfl, a, C, dx, _, _, rfl, s2 _ _ ea, Y.cl, Y.nPaper, hf_lp _ _ _, _, rfl, a, C, dx, _, _, rfl, s2 _ _ ea, Y.cl, Y.nHeld, hf_lh _ _ _, ?_⟩
  refine ⟨_, rfl, _, rfl, a, C, dx, _, _, rfl, s2 _ _ ea, Y.cl, Y.nPaper, hf_lp _ _ _, _, rfl, ⟨(x.1, ws), hG.1, hW⟩, pa, l, rfl, ⟨⟨pv0, s2 _ _ epv, paired_imp ppv fun _ _ => SAt.keep (Same.tupK s2) _ _ _⟩, upd_same⟩, fun r rv H3 s3 hr3 er pR => ?_⟩
  have s4 := s2.trans s3
  have el3 := s3 _ _ (upd_same (H := H1) (a := l) (o := .lst (stepsV ws)))
  have hl0 : H l = none := s1.free hl1
  have hr0 : H r = none := s2.free hr3
  refine ⟨sz2, fun t ht => ⟨(by show 1 ≤ sizeLine; decide), fun lq hq => ⟨he, lq, xs, [.ref t], rfl, rfl, ?_, upd_same, ?_, fun h2 hh2 => ?_⟩⟩⟩
  · exact Same.new hq _ _ (Same.new ht _ _ (s4 _ _ eh))
  · show xs.length + 1 ≤ sizeLine
    exact szN (by omega)
  have s5 := ((s4.trans (Same.new (o := .tup [.ref l, .ref r]) ht)).trans (Same.new (o := .lst [.ref t]) hq)).trans (Same.new (o := .lst (xs ++ [.ref t])) hh2)
  have s35 := ((Same.new (o := .tup [.ref l, .ref r]) ht).trans (Same.new (o := .lst [.ref t]) hq)).trans (Same.new (o := .lst (xs ++ [.ref t])) hh2)
  have et5 := ((Same.new (o := .lst [.ref t]) hq).trans (Same.new (o := .lst (xs ++ [.ref t])) hh2)) _ _ (upd_same (H := H3) (a := t) (o := .tup [.ref l, .ref r]))
  have h20' : H h2 = none := ((s4.trans (Same.new (o := .tup [.ref l, .ref r]) ht)).trans (Same.new (o := .lst [.ref t]) hq)).free hh2
  refine ⟨a, dx, pa, he, pt, pa, h2, xp, rfl, s5 _ _ ea, s5 _ _ ept, by omega, fun t2 H' ht2 et2 ept' ea' kp => ?_⟩
  have hF5 := hF.same s5
  have kf : KF F H H' := (KF.same s5).trans (KF.of kp (by simp [aF, pF]) (by
    intro z hz ys e
    rcases List.mem_cons.mp hz with rfl | hz
    · rw [s5 _ _ ea] at e; cases e
    · rw [List.mem_singleton.mp hz, s5 _ _ ept] at e; cases e))
  have kf5 : KF F _ H' := KF.of kp (by simp [aF, pF]) (by
    intro z hz ys e
    rcases List.mem_cons.mp hz with rfl | hz
    · rw [s5 _ _ ea] at e; cases e
    · rw [List.mem_singleton.mp hz, s5 _ _ ept] at e; cases e)
  have hF' : FOk F H' := hF5.keep kp (by
    intro z hz e
    rcases List.mem_cons.mp hz with rfl | hz
    · rw [ea'] at e; cases e
    · rw [List.mem_singleton.mp hz, ept'] at e; cases e)
  have e2' : H' h2 = some (.lst (xs ++ [.ref t])) := kf5.1 _ _ upd_same (hF.nin h20')
  have ha : HeapAt C F H' a pt (x.1, x.2 ++ [ws]) (past ++ [x]) := by
    refine ⟨dx, pa, h2, ea', hpa.kt kf.2, ⟨_, e2', hF.nin h20', paired_snoc (paired_imp pr fun _ _ z => z.kf kf) ?_⟩, _, ept', paired_snoc (pairs_kf pp kf) ?_⟩
    · exact ⟨t, l, r, rv, rfl, kf5.2 _ _ et5, kf5.1 _ _ (s35 _ _ el3) (hF.nin hl0), hF.nin hl0, kf5.1 _ _ (s35 _ _ er) (hF.nin hr0), hF.nin hr0, paired_imp pR fun _ _ z => z.keep ((Same.tupK s35).trans kf5.2)⟩
    · exact ⟨t2, pa, he, rfl, et2, hpa.kt kf.2, hh.kf kf⟩
  refine ⟨_, rfl, a, C, dx, _, _, rfl, ea', Y.cl, Y.nHeld, hf_lh _ _ _, h2, _, rfl, .inl (SqL.of e2'), _, _, rfl, rfl, ?_⟩
  have en : (((xs ++ [V.ref t]).length : Nat) : Int) - 1 = ((x.2.length : Nat) : Int) := by
    rw [List.length_append, List.length_singleton]
    omega
  show Q (.int ((((xs ++ [V.ref t]).length : Nat) : Int) - 1)) H'
  rw [en]
  exact q2 h20 H' ha (fun b o e hb => kp b o (s5 _ _ e) hb) hF'
end
end MS
end
section
set_option maxRecDepth 100000
set_option maxHeartbeats 4000000
namespace MS
open PySem L2
/-! ### reread -/
def setL {α : Type} (xs : List α) (n : Nat) (y : α) : List α := xs.take n ++ [y] ++ xs.drop (n + 1)
theorem setL_len {α : Type} {xs : List α} {n : Nat} {y : α} (h : n < xs.length) : (setL xs n y).length = xs.length := by
  unfold setL
  rw [List.length_append, List.length_append, List.length_take, List.length_drop, List.length_singleton]
  omega
theorem setL_mem {α : Type} {xs : List α} {n : Nat} {y q : α} (h : q ∈ setL xs n y) : q ∈ xs ∨ q = y := by
  unfold setL at h
  rcases List.mem_append.mp h with h | h
  · rcases List.mem_append.mp h with h | h
    · exact .inl (List.mem_of_mem_take h)
    · exact .inr (List.mem_singleton.mp h)
  · exact .inl (List.mem_of_mem_drop h)
theorem paired_takeN {α β : Type} {R : α → β → Prop} : ∀ {xs : List α} {ys : List β}, Paired R xs ys → ∀ n, Paired R (xs.take n) (ys.take n)
  | _, _, .nil, n => by rw [List.take_nil, List.take_nil]; exact .nil
  | _, _, .cons h t, 0 => .nil
  | _, _, .cons h t, n + 1 => .cons h (paired_takeN t n)
theorem paired_dropN {α β : Type} {R : α → β → Prop} : ∀ {xs : List α} {ys : List β}, Paired R xs ys → ∀ n, Paired R (xs.drop n) (ys.drop n)
  | _, _, .nil, n => by rw [List.drop_nil, List.drop_nil]; exact .nil
  | _, _, .cons h t, 0 => .cons h t
  | _, _, .cons h t, n + 1 => paired_dropN t n
theorem paired_app2 {α β : Type} {R : α → β → Prop} : ∀ {xs : List α} {ys : List β} {xs' : List α} {ys' : List β}, Paired R xs ys → Paired R xs' ys' → Paired R (xs ++ xs') (ys ++ ys')
  | _, _, _, _, .nil, h => h
  | _, _, _, _, .cons h t, h' => .cons h (paired_app2 t h')
theorem paired_setL {α β : Type} {R : α → β → Prop} {xs : List α} {ys : List β} {x : α} {y : β} (h : Paired R xs ys) (n : Nat) (r : R x y) : Paired R (setL xs n x) (setL ys n y) :=
  paired_app2 (paired_app2 (paired_takeN h n) (.cons r .nil)) (paired_dropN h (n + 1))
theorem HeapAt.same {C : Addr} {F : List Addr} {H H' : Hp} {a pt : Addr} {x : HS} {past : List HS} (h : HeapAt C F H a pt x past) (s : Same H H') : HeapAt C F H' a pt x past := by
  obtain ⟨dx, pa, he, ea, hpa, hh, xp, ept, pp⟩ := h
  have kf : KF F H H' := KF.same s
  exact ⟨dx, pa, he, s _ _ ea, hpa.kt kf.2, hh.kf kf, xp, s _ _ ept, pairs_kf pp kf⟩
def spReread (C CS : Addr) : Sp := fun vs H Q E => ∃ (F : List Addr) (a pt : Addr) (x : HS) (past : List HS) (n k : Nat) (p : StepT) (ws : List StepT), vs = [.ref a, .int ((n : Nat) : Int), .int ((k : Nat) : Int), .str (stepS p)] ∧ HeapAt C F H a pt x past ∧ GoodS x ∧ FOk F H ∧ a ∈ F ∧ pt ∈ F ∧ past.length ≤ 900 ∧
  x.2[n]? = some ws ∧ IsStep p ∧ k ≤ 1000 ∧
  (k < ws.length → WorkFrom false (setW ws k p) → ∀ (f : Addr) (ms : List (List Nat)) (rv : List V) (H' : Hp), HeapAt C F H' a pt (x.1, setL x.2 n (setW ws k p)) (past ++ [x]) → Keep [a, pt] H H' → FOk F H' → H f = none → H' f = some (.lst rv) →
    IsWh ms (eD (rAll x.1 ws)) (eD (rAll x.1 (setW ws k p))) → Paired (DR H' (eD (rAll x.1 ws)) (eD (rAll x.1 (setW ws k p)))) (difN (eD (rAll x.1 ws)) (eD (rAll x.1 (setW ws k p))) ms) rv → Q (.ref f) H') ∧
  ((ws.length ≤ k ∨ ¬ WorkFrom false (setW ws k p)) → Raised0 CS H E)
/-- what with_step, differences lean on -/
structure DHeap (K : PySem.W.Frag) (mg : Str → Option Value) where
  DPl : Def K mg "is_place" s_is_place ["thing", "many"]
  DWS : Def K mg "with_step" s_with_step ["work", "place", "step"]
  DE : Def K mg "earnings" s_earnings ["rows"]
  DD : Def K mg "differences" s_differences ["rows", "other_rows"]
section
variable {P : Program} {w : World} {K : PySem.W.Frag} {mg : Str → Option Value} {base : Heap} {C CV : Addr}
theorem ok_reread (T : PTx w K mg) (YV : VCls K mg CV) (DRw : DRows K mg) (DP : DPaper K mg) (DH : DHeap K mg) (Y : HCls K mg C) (RW : Wr P w K mg base) (RS : Rs0 K mg "BadStep") (hex : PySem.W.exmOne K (.ref RW.C) (.ref RW.C) = some true) :
    FnOk P w K mg base (L2.CX P w) 95 Y.DR.f Y.DR.fd psReread (spReread C RS.C) := by
  have GB : FnOk P w K mg base CX0 94 DRw.DB.f DRw.DB.fd ["paper", "work"] (fun vs H Q E => ∃ x, spRowsBy1 x vs H Q E) := ok_rows_any T YV DRw
  have GE : FnOk P w K mg base CX0 1 Y.DBe.f Y.DBe.fd ["self", "paper", "held"] (spBecome C) := ok_become Y
  have GK : FnOk P w K mg base CX0 3 Y.DK.f Y.DK.fd ["self", "number"] (spKept C) := ok_kept T Y DH.DPl DP.DN
  have GW : FnOk P w K mg base (L2.CX P w) 4 DH.DWS.f DH.DWS.fd ["work", "place", "step"] (spWithStep RS.C) := ok_with_step T RW RS hex DH.DWS DH.DPl DP.DN DRw.DC DRw.DI
  have GD : FnOk P w K mg base CX0 2 DH.DD.f DH.DD.fd ["rows", "other_rows"] spDiff := ok_differences T DH.DD DH.DE
  have nd := sc_H_reread.nd
  refine Y.DR.okX sc_H_reread (fun vs H Q E h => ?_) (fun cdv A outer s H vs Q E hr h => ?_)
  · obtain ⟨F, a, pt, x, past, n, k, p, ws, rfl, _⟩ := h
    rfl
  obtain ⟨F, a, pt, x, past, n, k, p, ws, rfl, ⟨dx, pa, he, ea, hpa, hh, hpast⟩, hG, hF, aF, pF, hl, en, hp, hk, q1, q2⟩ := h
  have r1 : Room 1 _ := hr.mono (by decide)
  have r2 : Room 2 _ := hr.mono (by decide)
  have r3 : Room 3 _ := hr.mono (by decide)
  have r4 : Room 4 _ := hr.mono (by decide)
  have tk : L2.Takes (cxOf (L2.CX P w) P w K mg base nmReread "Heap.reread" (defScope s_H_reread) Y.DR.f cdv A outer s H E) (fun cls d _ H' => E cls d H') := L2.takes_of rfl rfl rfl rfl
  refine ⟨_, pss_cons (ps_asg (pe_meth (pv 0) Y.cl Y.DK.me GK r3 Y.DK.b .nil pass0 (pa_cons (pv 1) pa_nil)) (pg_tup (by rfl) (pgs_cons (pg_name (i := 4) nd rfl (Or.inl rfl)) (pgs_cons (pg_name (i := 5) nd rfl (Or.inl rfl)) pgs_nil))))
    (pss_cons (ps_set (i := 6) nd rfl (Or.inl rfl) (pcallX (E := E) DH.DWS GW r4 (L2.passes_call tk (fun _ _ _ _ h => h)) (pa_cons (pv 4) (pa_cons (pv 2) (pa_cons (pv 3) pa_nil)))))
    (pss_cons (ps_set (i := 7) nd rfl (Or.inl rfl) (pcall DRw.DB GB hr (pa_cons (pe_fld (pv 0) rfl) (pa_cons (pv 6) pa_nil))))
    (pss_cons (ps_expr (pe_meth (pv 0) Y.cl Y.DBe.me GE r1 Y.DBe.b .nil pass0 (pa_cons (pe_fld (pv 0) rfl) (pa_cons (pe_op op_cat (pe_op op_cat (pe_slice sl_list (pe_fld (pv 0) rfl) po_none (po_some (pv 1))) (pe_lst (pa_cons (pe_tup (pa_cons (pv 6) (pa_cons (pv 7) pa_nil))) pa_nil))) (pe_slice sl_list (pe_fld (pv 0) rfl) (po_some (pe_op op_add (pv 1) pe_int)) po_none)) pa_nil))))
    (pss_one (ps_ret (pcall DH.DD GD r2 (pa_cons (pv 5) (pa_cons (pv 7) pa_nil)))))))), ?_⟩
  obtain ⟨xs, eh, hFn, pr⟩ := id hh
  obtain ⟨xp, ept, pp⟩ := id hpast
  obtain ⟨hP, hWs, h20⟩ := id hG
  have lx := Paired.length pr
  have lp := Paired.length pp
  obtain ⟨v, ev, t, b, r, rv, rfl, et, eb, hbF, er, hrF, pR⟩ := paired_get2 pr en
  have hn := (List.getElem?_eq_some_iff.mp en).1
  have hW : WorkOk ws := hWs _ (List.mem_of_getElem? en)
  refine ⟨_, rfl, a, dx, _, rfl, ea, hf_no _ _ _ (by decide +kernel) (by decide +kernel) (by decide +kernel), _, rfl, a, dx, pa, he, pt, xs, n, _, rfl, ea, eh, ev, ?_⟩
  refine ⟨t, _, rfl, SqT.of et, rfl, _, _, rfl, _, _, rfl, rfl, ?_⟩
  dsimp only [gName]
  refine ⟨_, rfl, _, rfl, _, rfl, b, ws, k, p, rfl, eb, hW, hp, hk, fun h1 hwf l H1 s1 hl1 el => ?_, fun h => q2 h⟩
  dsimp only [gName]
  have hset := setW_len (p := p) h1
  have hW2 : WorkOk (setW ws k p) := ⟨hwf, by have := hW.2; omega⟩
  obtain ⟨_, pv0, e0, epv, ppv⟩ := id hpa
  obtain rfl := V.ref.inj e0
  refine ⟨_, rfl, a, C, dx, _, _, rfl, s1 _ _ ea, Y.cl, Y.nPaper, hf_lp _ _ _, _, rfl, ⟨(x.1, setW ws k p), hP, hW2⟩, pa, l, rfl, ⟨⟨pv0, s1 _ _ epv, paired_imp ppv fun _ _ => SAt.keep (Same.tupK s1) _ _ _⟩, el⟩, fun r' rv' H3 s3 hr3 er' pR' => ?_⟩
  dsimp only [gName]
  have s4 := s1.trans s3
  have el3 := s3 _ _ el
  have hr0 : H r' = none := s1.free hr3
  refine ⟨_, rfl, a, dx, _, rfl, s4 _ _ ea, hf_no _ _ _ (by decide +kernel) (by decide +kernel) (by decide +kernel), ?_⟩
  refine ⟨_, rfl, a, C, dx, _, _, rfl, s4 _ _ ea, Y.cl, Y.nPaper, hf_lp _ _ _, _, rfl, a, C, dx, _, _, rfl, s4 _ _ ea, Y.cl, Y.nHeld, hf_lh _ _ _, _, rfl, ((n : Nat) : Int), rfl, he, xs, rfl, SqL.of (s4 _ _ eh), fun p1 hp1 => ?_⟩
  rw [cut_to]
  have s5 := s4.trans (Same.new (o := .lst (xs.take n)) hp1)
  refine ⟨_, rfl, _, rfl, sz2, fun t2 ht2 => ⟨(by show 1 ≤ sizeLine; decide), fun lq hq => ⟨p1, lq, xs.take n, [.ref t2], rfl, rfl, ?_, upd_same, ?_, fun p3 hp3 => ?_⟩⟩⟩
  · exact Same.new hq _ _ (Same.new ht2 _ _ upd_same)
  · rw [List.length_take]
    show min n xs.length + 1 ≤ sizeLine
    exact szN (by omega)
  have s6 := ((s5.trans (Same.new (o := .tup [.ref l, .ref r']) ht2)).trans (Same.new (o := .lst [.ref t2]) hq)).trans (Same.new (o := .lst (xs.take n ++ [.ref t2])) hp3)
  refine ⟨_, rfl, a, C, dx, _, _, rfl, s6 _ _ ea, Y.cl, Y.nHeld, hf_lh _ _ _, _, rfl, _, _, rfl, rfl, _, rfl, he, xs, rfl, SqL.of (s6 _ _ eh), fun p4 hp4 => ?_⟩
  rw [show ((n : Nat) : Int) + 1 = ((n + 1 : Nat) : Int) by omega, cut_from]
  have s7 := s6.trans (Same.new (o := .lst (xs.drop (n + 1))) hp4)
  refine ⟨p3, p4, xs.take n ++ [.ref t2], xs.drop (n + 1), rfl, rfl, Same.new hp4 _ _ upd_same, upd_same, ?_, fun h2 hh2 => ?_⟩
  · rw [List.length_append, List.length_take, List.length_drop, List.length_singleton]
    exact szN (by omega)
  have s8 := s7.trans (Same.new (o := .lst (setL xs n (.ref t2))) hh2)
  have eset : xs.take n ++ [V.ref t2] ++ xs.drop (n + 1) = setL xs n (.ref t2) := rfl
  rw [eset]
  have h20' : H h2 = none := s7.free hh2
  have s35 := ((((Same.new (o := .lst (xs.take n)) hp1).trans (Same.new (o := .tup [.ref l, .ref r']) ht2)).trans (Same.new (o := .lst [.ref t2]) hq)).trans (Same.new (o := .lst (xs.take n ++ [.ref t2])) hp3)).trans ((Same.new (o := .lst (xs.drop (n + 1))) hp4).trans (Same.new (o := .lst (setL xs n (.ref t2))) hh2))
  have et5 := (((Same.new (o := .lst [.ref t2]) hq).trans (Same.new (o := .lst (xs.take n ++ [.ref t2])) hp3)).trans ((Same.new (o := .lst (xs.drop (n + 1))) hp4).trans (Same.new (o := .lst (setL xs n (.ref t2))) hh2))) _ _ (upd_same (H := upd H3 p1 (.lst (xs.take n))) (a := t2) (o := .tup [.ref l, .ref r']))
  refine ⟨a, dx, pa, he, pt, pa, h2, xp, rfl, s8 _ _ ea, s8 _ _ ept, by omega, fun t3 H' ht3 et3 ept' ea' kp => ?_⟩
  have hF5 := hF.same s8
  have ntp : ∀ z ∈ [a, pt], ∀ ys, upd (upd (upd (upd (upd (upd H3 p1 (.lst (xs.take n))) t2 (.tup [.ref l, .ref r'])) lq (.lst [.ref t2])) p3 (.lst (xs.take n ++ [.ref t2]))) p4 (.lst (xs.drop (n + 1)))) h2 (.lst (setL xs n (.ref t2))) z ≠ some (.tup ys) := by
    intro z hz ys e
    rcases List.mem_cons.mp hz with rfl | hz
    · rw [s8 _ _ ea] at e; cases e
    · rw [List.mem_singleton.mp hz, s8 _ _ ept] at e; cases e
  have kf5 : KF F _ H' := KF.of kp (by simp [aF, pF]) ntp
  have kf : KF F H H' := (KF.same s8).trans kf5
  have hF' : FOk F H' := hF5.keep kp (by
    intro z hz e
    rcases List.mem_cons.mp hz with rfl | hz
    · rw [ea'] at e; cases e
    · rw [List.mem_singleton.mp hz, ept'] at e; cases e)
  have e2' : H' h2 = some (.lst (setL xs n (.ref t2))) := kf5.1 _ _ upd_same (hF.nin h20')
  have hl0 : H l = none := hl1
  have ha : HeapAt C F H' a pt (x.1, setL x.2 n (setW ws k p)) (past ++ [x]) := by
    refine ⟨dx, pa, h2, ea', hpa.kt kf.2, ⟨_, e2', hF.nin h20', paired_setL (paired_imp pr fun _ _ z => z.kf kf) n ?_⟩, _, ept', paired_snoc (pairs_kf pp kf) ?_⟩
    · exact ⟨t2, l, r', rv', rfl, kf5.2 _ _ et5, kf5.1 _ _ (s35 _ _ el3) (hF.nin hl0), hF.nin hl0, kf5.1 _ _ (s35 _ _ er') (hF.nin hr0), hF.nin hr0, paired_imp pR' fun _ _ z => z.keep ((Same.tupK s35).trans kf5.2)⟩
    · exact ⟨t3, pa, he, rfl, et3, hpa.kt kf.2, hh.kf kf⟩
  have kpA : Keep [a, pt] H H' := fun b o e hb => kp b o (s8 _ _ e) hb
  refine ⟨_, rfl, _, rfl, r, r', _, _, rv, rv', rfl, kf.1 _ _ er hrF, paired_imp pR fun _ _ z => z.keep kf.2, rAll_7 ⟨(x.1, ws), hP, hW⟩, kf5.1 _ _ (s35 _ _ er') (hF.nin hr0), paired_imp pR' fun _ _ z => z.keep ((Same.tupK s35).trans kf5.2), rAll_7 ⟨(x.1, setW ws k p), hP, hW2⟩, fun f ms rvD H6 s9 hf ef hms pD => ?_⟩
  have ha6 : HeapAt C F H6 a pt (x.1, setL x.2 n (setW ws k p)) (past ++ [x]) := ha.same s9
  exact q1 h1 hwf f ms rvD H6 ha6 (kpA.trans (Same.keep s9)) (hF'.same s9) (by
    cases z : H f with
    | none => rfl
    | some o =>
      by_cases m : f ∈ [a, pt]
      · rcases List.mem_cons.mp m with rfl | m
        · rw [ea'] at hf; cases hf
        · rw [List.mem_singleton.mp m, ept'] at hf; cases hf
      · rw [kpA f o z m] at hf; cases hf) ef hms pD
end
end MS
end
section
set_option maxRecDepth 100000
set_option maxHeartbeats 4000000
namespace MS
open PySem L2
/-! ### change -/
theorem cut_whole {xs : List V} {lo hi : Option Int} (h : HT.sIx xs.length 0 lo = 0 ∧ HT.sIx xs.length xs.length hi = xs.length) : cutV xs lo hi = xs := by
  unfold cutV
  rw [h.1, h.2]
  simp
theorem sl_any {K : PySem.W.Frag} {H : Hp} {a : Addr} {xs : List V} {lo hi : Option Int} {Q : VK} (ea : H a = some (.tup xs)) (q : ∀ (p : Addr) (H' : Hp), Same H H' → H' p = some (.tup (cutV xs lo hi)) → Q (.ref p) H') : rSlA K (.ref a) lo hi H Q :=
  ⟨a, xs, rfl, SqT.of ea, fun h => q a H (Same.refl _) (by rw [cut_whole h]; exact ea), fun _ p hp => q p _ (Same.new hp) upd_same⟩
theorem cat_any {K : PySem.W.Frag} {H : Hp} {a b : Addr} {xs ys : List V} {Q : VK} (ea : H a = some (.tup xs)) (eb : H b = some (.tup ys)) (hl : xs.length + ys.length ≤ 1000) (q : ∀ (p : Addr) (H' : Hp), Same H H' → H' p = some (.tup (xs ++ ys)) → Q (.ref p) H') : rCatA K (.ref a) (.ref b) H Q :=
  ⟨a, b, xs, ys, rfl, rfl, SqT.of ea, SqT.of eb, szN hl, fun h => q b H (Same.refl _) (by rw [h]; exact eb), fun _ h => q a H (Same.refl _) (by rw [h, List.append_nil]; exact ea), fun _ _ p hp => q p _ (Same.new hp) upd_same⟩
def rowDt (r : Row) : PyData := .tuple [.int ((r.1 : Nat) : Int), .int ((r.2.1 : Nat) : Int), .tuple ((intN r.2.2).map PyData.int)]
def rowsD (rs : List Row) : PyData := .list (rs.map rowDt)
theorem rowsV_dp {K : PySem.W.Frag} {H : Hp} : ∀ {rs : List Row} {rv : List V}, Paired (RowR H) rs rv → DpAll K H rv (rs.map rowDt)
  | _, _, .nil => .nil
  | _, _, .cons ⟨a, b, e, h1, h2⟩ t => by
    subst e
    refine .cons (.tup (SqT.of h1) (.cons (.int _) (.cons (.int _) (.cons ?_ .nil)))) (rowsV_dp t)
    rw [← intN_V] at h2
    exact .tup (SqT.of h2) (dp_ints _)
theorem rowsD_ok (rs : List Row) : SeqAt.shaped (rowsD rs) = true := by
  refine (ShN.lst (n := 2) (ShAll.of fun d hd => ?_)).ok (by decide)
  obtain ⟨r, _, rfl⟩ := List.mem_map.mp hd
  exact (ShN.tup (.cons (.int _) (.cons (.int _) (.cons (ShN.tup (sh_ints 0 _)) .nil))))
/-- whose rows are others by another paper -/
def othN (p p' : List Sch) (wss : List (List StepT)) : List Nat := (List.range wss.length).filter fun i => !PyData.eqv (rowsD (rAll p (wss.getD i []))) (rowsD (rAll p' (wss.getD i [])))
def spChange (C : Addr) : Sp := fun vs H Q _ => ∃ (F : List Addr) (a pt : Addr) (x : HS) (past : List HS) (n : Nat) (v : V) (s : Sch), vs = [.ref a, .int ((n : Nat) : Int), v] ∧ HeapAt C F H a pt x past ∧ GoodS x ∧ FOk F H ∧ a ∈ F ∧ pt ∈ F ∧ past.length ≤ 900 ∧
  n < x.1.length ∧ SAt H 5 s v ∧ PaperOk (setL x.1 n s) ∧
  ∀ (f : Addr) (H' : Hp), HeapAt C F H' a pt (setL x.1 n s, x.2) (past ++ [x]) → Keep [a, pt] H H' → FOk F H' → H f = none → H' f = some (.lst (natV (othN x.1 (setL x.1 n s) x.2))) → Q (.ref f) H'
section
variable {P : Program} {w : World} {K : PySem.W.Frag} {mg : Str → Option Value} {base : Heap} {C CV : Addr}
theorem ok_change (T : PTx w K mg) (YV : VCls K mg CV) (DRw : DRows K mg) (DP : DPaper K mg) (DH : DHeap K mg) (Y : HCls K mg C) : FnOk P w K mg base CX0 95 Y.DC.f Y.DC.fd ["self", "number", "scheme"] (spChange C) := by
  have GB : FnOk P w K mg base CX0 94 DRw.DB.f DRw.DB.fd ["paper", "work"] (fun vs H Q E => ∃ x, spRowsBy1 x vs H Q E) := ok_rows_any T YV DRw
  have GE : FnOk P w K mg base CX0 1 Y.DBe.f Y.DBe.fd ["self", "paper", "held"] (spBecome C) := ok_become Y
  have GP : FnOk P w K mg base CX0 2 DH.DPl.f DH.DPl.fd ["thing", "many"] spIsPlace := ok_is_place T DH.DPl DP.DN
  have GC : FnOk P w K mg base CX0 5 DP.DC.f DP.DC.fd ["paper"] spCheckPaper := ok_check_paper T DP
  have nd := sc_H_change.nd
  refine Y.DC.ok sc_H_change (fun vs H Q E h => ?_) (fun cdv A outer s H vs Q E hr h => ?_)
  · obtain ⟨F, a, pt, x, past, n, v, s, rfl, _⟩ := h
    rfl
  obtain ⟨F, a, pt, x, past, n, v, s0, rfl, ⟨dx, pa, he, ea, hpa, hh, hpast⟩, hG, hF, aF, pF, hl, hn, hs, hP', q⟩ := h
  have r1 : Room 1 _ := hr.mono (by decide)
  have r2 : Room 2 _ := hr.mono (by decide)
  have r5 : Room 5 _ := hr.mono (by decide)
  refine ⟨_, pss_cons (ps_if (pt_not (pt_val (pcall DH.DPl GP r2 (pa_cons (pv 1) (pa_cons (pe_callB call_len_seq rfl (T.free "len" (by decide +kernel)) PySem.boot_len (pa_cons (pe_fld (pv 0) rfl) pa_nil)) pa_nil))))) (pss_one ps_never) pss_nil)
    (pss_cons (ps_set (i := 3) nd rfl (Or.inr rfl) (pe_op (op_catA) (pe_op op_catA (pe_slice sl_tupA (pe_fld (pv 0) rfl) po_none (po_some (pv 1))) (pe_tup (pa_cons (pv 2) pa_nil))) (pe_slice sl_tupA (pe_fld (pv 0) rfl) (po_some (pe_op op_add (pv 1) pe_int)) po_none)))
    (pss_cons (ps_expr (pcall DP.DC GC r5 (pa_cons (pv 3) pa_nil)))
    (pss_cons (ps_set (i := 4) nd rfl (Or.inr rfl) (pe_lc (own := [("work", 6), ("rows", 7)]) (g := gTup K 2 (gCons (gName 6) (gCons (gName 7) gNil))) (tt := tYes) (te := tTup (tCons (tVar 6) (tCons (tCall (fun vs H Q E => ∃ x, spRowsBy1 x vs H Q E) [] E0 (tCons (tVar 3) (tCons (tVar 6) tNil))) tNil))) rfl nd (pi_list (pe_fld (pv 0) rfl)) (blkOk_by (N := nmChange) (sc := defScope s_H_change) (by decide +kernel))
        (fun _ _ _ _ _ => pg_tup rfl (pgs_cons (pg_name (i := 6) nd rfl (Or.inl rfl)) (pgs_cons (pg_name (i := 7) nd rfl (Or.inl rfl)) pgs_nil))) (fun _ _ _ _ _ => pts_nil) (fun _ _ _ _ _ => pe_tup (pa_cons (pv 6) (pa_cons (pcall DRw.DB GB hr (pa_cons (pv 3) (pa_cons (pv 6) pa_nil))) pa_nil)))))
    (pss_cons (ps_setLc (i := 5) (own := [("work", 6), ("rows", 7), ("at", 8)]) (g := gTup K 2 (gCons (gName 8) (gCons (gTup K 2 (gCons (gName 6) (gCons (gName 7) gNil))) gNil))) (tt := tTest (tOp (rNeD K) (tVar 7) (tOp (rIxT K) (tOp (rIxL K) (tVar 4) (tVar 8)) (tC (.int 1))))) (te := tVar 8) rfl nd rfl rfl (sw_true rfl rfl rfl (by decide +kernel)) (pi_enum rfl (T.free "enumerate" (by decide +kernel)) (pa_cons (pe_fld (pv 0) rfl) pa_nil)) (blkOk_by (N := nmChange) (sc := defScope s_H_change) (by decide +kernel))
        (fun _ _ _ _ _ => pg_tup rfl (pgs_cons (pg_name (i := 8) nd rfl (Or.inl rfl)) (pgs_cons (pg_tup rfl (pgs_cons (pg_name (i := 6) nd rfl (Or.inl rfl)) (pgs_cons (pg_name (i := 7) nd rfl (Or.inl rfl)) pgs_nil))) pgs_nil)))
        (fun _ _ _ _ _ => pts_one (pt_cmpR (op_neD hr.units) (pv 7) (pe_ix (r := rIxT K) ix_tup (pe_ix (r := rIxL K) ix_list (pv 4) (pv 8) (fun _ _ => rfl)) pe_int (fun _ _ => rfl)) (nomark _))) (fun _ _ _ _ _ => pv 8))
    (pss_cons (ps_expr (pe_meth (pv 0) Y.cl Y.DBe.me GE r1 Y.DBe.b .nil pass0 (pa_cons (pv 3) (pa_cons (pv 4) pa_nil))))
    (pss_one (ps_ret (pv 5)))))))), ?_⟩
  obtain ⟨xs, eh, hFn, pr⟩ := id hh
  obtain ⟨xp, ept, pp⟩ := id hpast
  obtain ⟨hP, hWs, h20⟩ := id hG
  obtain ⟨_, pv0, e0, epv, ppv⟩ := id hpa
  obtain rfl := V.ref.inj e0
  have lx := Paired.length pr
  have lp := Paired.length pp
  have lv := Paired.length ppv
  have l5 := hP.2.1
  refine seq_if (b := false) (fun Q q => ⟨_, rfl, _, rfl, a, C, dx, _, _, rfl, ea, Y.cl, Y.nPaper, hf_lp _ _ _, pa, pv0, rfl, .inr (SqT.of epv), _, _, rfl, _, rfl, ?_⟩) (fun z => nomatch z) (fun _ => ?_)
  · rw [decide_eq_true (show (0 : Int) ≤ ((n : Nat) : Int) ∧ ((n : Nat) : Int) < ((pv0.length : Nat) : Int) by omega)]
    exact q
  refine ⟨_, rfl, a, C, dx, _, _, rfl, ea, Y.cl, Y.nPaper, hf_lp _ _ _, _, rfl, ((n : Nat) : Int), rfl, sl_any epv fun p1 H1 s1 e1 => ⟨_, rfl, (by show 1 ≤ sizeLine; decide), fun t1 ht1 => cat_any (Same.new ht1 _ _ e1) upd_same ?_ fun p2 H2 s2 e2 => ?_⟩⟩
  · rw [cut_to, List.length_take]
    show min n pv0.length + 1 ≤ 1000
    omega
  have s12 := (s1.trans (Same.new (o := .tup [v]) ht1)).trans s2
  refine ⟨_, rfl, a, C, dx, _, _, rfl, s12 _ _ ea, Y.cl, Y.nPaper, hf_lp _ _ _, _, rfl, _, _, rfl, rfl, _, rfl, ?_⟩
  dsimp only [tNoPart]
  refine sl_any (s12 _ _ epv) fun p3 H3 s3 e3 => cat_any (s3 _ _ e2) e3 ?_ fun p4 H4 s4 e4 => ?_
  · rw [cut_to, show ((n : Nat) : Int) + 1 = ((n + 1 : Nat) : Int) by omega, cut_from, List.length_append, List.length_take, List.length_drop, List.length_singleton]
    omega
  rw [cut_to, show ((n : Nat) : Int) + 1 = ((n + 1 : Nat) : Int) by omega, cut_from] at e4
  have e4 : H4 p4 = some (.tup (setL pv0 n v)) := e4
  have s14 := (s12.trans s3).trans s4
  have pp4 : Paired (SAt H4 5) (setL x.1 n s0) (setL pv0 n v) := paired_setL (paired_imp ppv fun _ _ => SAt.keep (Same.tupK s14) _ _ _) n (SAt.keep (Same.tupK s14) _ _ _ hs)
  dsimp only [gName]
  refine ⟨_, rfl, p4, _, _, rfl, e4, pp4, hP', fun H5 s5 => ?_⟩
  have s15 := s14.trans s5
  have e5 := s5 _ _ e4
  have pp5 : Paired (SAt H5 5) (setL x.1 n s0) (setL pv0 n v) := paired_imp pp4 fun _ _ => SAt.keep (Same.tupK s5) _ _ _
  have hF5 := hF.same s15
  have eh5 := s15 _ _ eh
  dsimp only
  refine ⟨_, rfl, a, C, dx, _, _, rfl, s15 _ _ ea, Y.cl, Y.nHeld, hf_lh _ _ _, he, rfl, ⟨_, SqL.of eh5⟩, fun D hD => ?_⟩
  have hDF : D ∉ F := hF5.nin hD
  refine lc_list (K := K) (a := he) (xs := xs) (fun j H'' => ∃ hv, H'' D = some (.lst hv) ∧ Paired (OneAt (D :: F) H'' (setL x.1 n s0)) (x.2.take j) hv ∧ Same H5 H'') ⟨[], upd_same, .nil, Same.new hD⟩ (fun j H'' _ ⟨_, _, _, sm⟩ => SqL.of (sm _ _ eh5)) ?_ ?_
  · rintro j y H'' hj ⟨hv, eD, ph, sm⟩
    obtain ⟨ws, ew, t, b, r, rv, rfl, et, eb, hbF, er, hrF, pR⟩ := paired_get' pr hj
    have hjl := (List.getElem?_eq_some_iff.mp ew).1
    have hw : WorkOk ws := hWs _ (List.mem_of_getElem? ew)
    have tk : x.2.take (j + 1) = x.2.take j ++ [ws] := by
      rw [List.take_succ, ew]
      rfl
    have lh := Paired.length ph
    rw [List.length_take] at lh
    have s0' := s15.trans sm
    refine ⟨t, _, rfl, SqT.of (s0' _ _ et), rfl, _, _, rfl, _, _, rfl, rfl, rfl, ?_⟩
    refine ⟨_, rfl, _, rfl, _, rfl, ⟨(setL x.1 n s0, ws), hP', hw⟩, p4, b, rfl, ⟨⟨_, sm _ _ e5, paired_imp pp5 fun _ _ => SAt.keep (Same.tupK sm) _ _ _⟩, s0' _ _ eb⟩, fun r' rv' H6 s6 hr' er' pR' => ⟨sz2, fun t' ht' => ?_⟩⟩
    have s7 := s6.trans (Same.new (o := .tup [.ref b, .ref r']) ht')
    have eD7 := s7 _ _ eD
    have nbD : b ≠ D := ne_of_none (s15 _ _ eb) hD
    have nrD : r' ≠ D := fun z => by rw [z, eD] at hr'; cases hr'
    have hr0 : H r' = none := s0'.free hr'
    have kfD : KF (D :: F) (upd H6 t' (.tup [.ref b, .ref r'])) (upd (upd H6 t' (.tup [.ref b, .ref r'])) D (.lst (hv ++ [.ref t']))) := ⟨KL.of (Keep.put List.mem_cons_self), TupK.put eD7⟩
    refine ⟨hv, eD7, Nat.lt_of_le_of_lt (show hv.length ≤ 100 by omega) (by decide), hv ++ [.ref t'], upd_same, ?_, Same.newer (sm.trans s7) hD⟩
    rw [tk]
    refine paired_snoc (paired_imp ph fun _ _ z => z.kf ((KF.same s7).trans kfD)) (OneAt.kf ⟨t', b, r', rv', rfl, upd_same, s7 _ _ (s0' _ _ eb), ?_, Same.new ht' _ _ er', ?_, paired_imp pR' fun _ _ z => z.keep (TupK.new ht')⟩ kfD)
    · simp [nbD, hbF]
    · simp [nrD, hF.nin hr0]
  rintro H6 ⟨hv, eD, ph, sm⟩
  rw [← lx, List.take_length] at ph
  have s16 := s15.trans sm
  have lh := Paired.length ph
  dsimp only [gName]
  refine ⟨_, rfl, a, C, dx, _, _, rfl, s16 _ _ ea, Y.cl, Y.nHeld, hf_lh _ _ _, he, _, rfl, SqL.of (s16 _ _ eh), fun Do hDo => ?_⟩
  refine lc_it (walk_enum (K := K) (a := he) (xs := xs)) (fun j H'' => H'' Do = some (.lst (natV ((List.range j).filter fun i => !PyData.eqv (rowsD (rAll x.1 (x.2.getD i []))) (rowsD (rAll (setL x.1 n s0) (x.2.getD i [])))))) ∧ Same H6 H'') ⟨upd_same, Same.new hDo⟩ (fun j H'' _ ⟨_, s3⟩ => SqL.of (s3 _ _ (s16 _ _ eh))) ?_ ?_
  · rintro j y H7 H8 hj ⟨eDo, s7⟩ ⟨T1, x1, x2, rfl, hT1, rfl, ex1, ex2⟩
    obtain rfl : V.int ((j : Nat) : Int) = x1 := Option.some.inj ex1
    have ex2 : xs[j]? = some x2 := ex2
    obtain ⟨ws, ew, t, b, r, rv, rfl, et, eb, hbF, er, hrF, pR⟩ := paired_get' pr ex2
    obtain ⟨v', ev', t', b', r', rv', rfl, et', eb', _, er', _, pR'⟩ := paired_get2 ph ew
    have s8 := s7.trans (Same.new (o := .tup [.int ((j : Nat) : Int), .ref t]) hT1)
    have s18 := s16.trans s8
    have egd : x.2.getD j [] = ws := by rw [List.getD_eq_getElem?_getD, ew]; rfl
    refine ⟨T1, _, rfl, SqT.of upd_same, rfl, _, _, rfl, _, _, rfl, ⟨t, _, rfl, SqT.of (s18 _ _ et), rfl, _, _, rfl, _, _, rfl, rfl, rfl, rfl, ?_⟩⟩
    refine ⟨_, rfl, _, rfl, _, rfl, D, hv, _, .ref t', rfl, rfl, SqL.of (s8 _ _ eD), atI_nat ev', t', _, _, .ref r', rfl, rfl, SqT.of (s8 _ _ et'), at1, rowsD (rAll x.1 ws), rowsD (rAll (setL x.1 n s0) ws), .lst (SqL.of (s18 _ _ er)) (rowsV_dp (paired_imp pR fun _ _ z => z.keep (Same.tupK s18))), .lst (SqL.of (s8 _ _ er')) (rowsV_dp (paired_imp pR' fun _ _ z => z.keep (Same.tupK s8))), rowsD_ok _, rowsD_ok _, _, rfl, ?_⟩
    have rg : ∀ f : Nat → Bool, (List.range (j + 1)).filter f = (List.range j).filter f ++ if f j = true then [j] else [] := fun f => by
      rw [List.range_succ, List.filter_append]
      congr 1
      cases h : f j <;> simp [h]
    cases hb : (!PyData.eqv (rowsD (rAll x.1 ws)) (rowsD (rAll (setL x.1 n s0) ws))) with
    | false =>
      refine iteF ⟨?_, s8⟩
      rw [rg, egd, if_neg (by rw [hb]; decide), List.append_nil]
      exact Same.new hT1 _ _ eDo
    | true =>
      refine iteT ⟨_, rfl, _, Same.new hT1 _ _ eDo, ?_, ?_, Same.newer s8 hDo⟩
      · rw [natV_len]
        exact Nat.lt_of_le_of_lt (show _ ≤ 100 from Nat.le_trans (List.length_filter_le _ _) (by rw [List.length_range]; omega)) (by decide)
      · rw [rg, egd, if_pos hb, natV_snoc, upd_same]
  rintro H7 ⟨eDo, s7⟩
  have s17 := s16.trans s7
  dsimp only [gName]
  have hF7 := hF.same s17
  refine ⟨_, rfl, a, dx, _, rfl, s17 _ _ ea, hf_no _ _ _ (by decide +kernel) (by decide +kernel) (by decide +kernel), _, rfl, _, rfl, a, dx, pa, he, pt, p4, D, xp, rfl, s17 _ _ ea, s17 _ _ ept, by omega, fun t3 H' ht3 et3 ept' ea' kp => ?_⟩
  have ntp : ∀ z ∈ [a, pt], ∀ ys, H7 z ≠ some (.tup ys) := by
    intro z hz ys e
    rcases List.mem_cons.mp hz with rfl | hz
    · rw [s17 _ _ ea] at e; cases e
    · rw [List.mem_singleton.mp hz, s17 _ _ ept] at e; cases e
  have kf5 : KF F H7 H' := KF.of kp (by simp [aF, pF]) ntp
  have kf : KF F H H' := (KF.same s17).trans kf5
  have hF' : FOk F H' := hF7.keep kp (by
    intro z hz e
    rcases List.mem_cons.mp hz with rfl | hz
    · rw [ea'] at e; cases e
    · rw [List.mem_singleton.mp hz, ept'] at e; cases e)
  have hDo0 : H Do = none := s16.free hDo
  have k6 : KF F H6 H' := (KF.same s7).trans kf5
  have ha : HeapAt C F H' a pt (setL x.1 n s0, x.2) (past ++ [x]) := by
    refine ⟨dx, p4, D, ea', ⟨p4, _, rfl, kf5.2 _ _ ((sm.trans s7) _ _ e5), paired_imp pp5 fun _ _ => SAt.keep ((Same.tupK (sm.trans s7)).trans kf5.2) _ _ _⟩, ⟨hv, k6.1 _ _ eD hDF, hDF, paired_imp ph fun _ _ z => ?_⟩, _, ept', paired_snoc (pairs_kf pp kf) ⟨t3, pa, he, rfl, et3, hpa.kt kf.2, hh.kf kf⟩⟩
    obtain ⟨t, b, r, rv, e, h1, h2, h3, h4, h5, h6⟩ := z
    exact OneAt.kf ⟨t, b, r, rv, e, h1, h2, fun z => h3 (List.mem_cons_of_mem _ z), h4, fun z => h5 (List.mem_cons_of_mem _ z), h6⟩ k6
  refine ⟨_, rfl, q Do H' ha (fun b o e hb => kp b o (s17 _ _ e) hb) hF' hDo0 ?_⟩
  have z := kf5.1 _ _ eDo (hF.nin hDo0)
  rw [z, ← lx]
  rfl
end
end MS
end
section
set_option maxRecDepth 100000
set_option maxHeartbeats 4000000
namespace MS
open PySem L2
/-! ### the law's _law_turned: one thing told otherwise -/
abbrev s_L_turned : Stmt := topS 64
abbrev nmTurned : List Str := ["_law_box", "_law_scheme_here", "_law_letters_here", "_law_kids", "_law_k", "_law_kid"]
abbrev psTurned : List Str := ["_law_box", "_law_scheme_here", "_law_letters_here"]
theorem sc_L_turned : FnScope nmTurned psTurned (defScope s_L_turned) := ⟨rfl, rfl, rfl, by decide +kernel, rfl, by decide +kernel, by decide +kernel⟩
/-- told otherwise, but as many steps, ends, seens and behinds -/
def Alt (i M d : Nat) (s s' : Sch) : Prop := OkS i M d s' ∧ (∀ c, er c d s' = er c d s) ∧ (∀ c, wr c d s' = wr c d s) ∧ sz d s' = sz d s
theorem Alt.refl {i M d : Nat} {s : Sch} (o : OkS i M d s) : Alt i M d s s := ⟨o, fun _ => rfl, fun _ => rfl, rfl⟩
theorem sum_setL {f : Sch → Int} {ks : List Sch} {n : Nat} {k k' : Sch} (h : ks[n]? = some k) (e : f k' = f k) : ((setL ks n k').map f).sum = (ks.map f).sum := by
  have e1 : (setL ks n k').map f = ks.map f := by
    have hn := (List.getElem?_eq_some_iff.mp h).1
    have e2 : ks = ks.take n ++ [k] ++ ks.drop (n + 1) := by
      have hk : ks[n] = k := (List.getElem?_eq_some_iff.mp h).2
      rw [List.append_assoc, ← hk]
      show ks = ks.take n ++ (ks[n] :: ks.drop (n + 1))
      rw [← List.drop_eq_getElem_cons hn, List.take_append_drop]
    unfold setL
    rw [List.map_append, List.map_append, List.map_singleton, e]
    conv => rhs; rw [e2]
    rw [List.map_append, List.map_append, List.map_singleton]
  rw [e1]
theorem alt_kids {i M d : Nat} {ks : List Sch} {n : Nat} {k k' : Sch} (h : ks[n]? = some k) (a : Alt i M d k k') : ((∀ s ∈ ks, OkS i M d s) → ∀ s ∈ setL ks n k', OkS i M d s) ∧ (∀ c, ((setL ks n k').map (er c d)).sum = (ks.map (er c d)).sum) ∧ (∀ c, ((setL ks n k').map (wr c d)).sum = (ks.map (wr c d)).sum) ∧ ((setL ks n k').map (sz d)).sum = (ks.map (sz d)).sum ∧ (setL ks n k').length = ks.length := by
  refine ⟨fun o s hs => ?_, fun c => sum_setL h (a.2.1 c), fun c => sum_setL h (a.2.2.1 c), sum_setL h a.2.2.2, setL_len (List.getElem?_eq_some_iff.mp h).1⟩
  rcases setL_mem hs with z | z
  · exact o s z
  · rw [z]
    exact a.1
theorem alt_paper {ps : List Sch} {n : Nat} {s s' : Sch} (hP : PaperOk ps) (h : ps[n]? = some s) (a : Alt n ps.length 5 s s') : PaperOk (setL ps n s') := by
  obtain ⟨h1, h2, ce, cw, t⟩ := hP
  have hn := (List.getElem?_eq_some_iff.mp h).1
  have hl := setL_len (y := s') hn
  refine ⟨by rw [hl]; exact h1, by rw [hl]; exact h2, ce, cw, fun k z e => ?_⟩
  rw [hl]
  by_cases hk : k = n
  · subst hk
    have ez : z = s' := by
      unfold setL at e
      rw [List.append_assoc, List.getElem?_append_right (by rw [List.length_take]; omega), List.length_take, Nat.min_eq_left (Nat.le_of_lt hn), Nat.sub_self] at e
      exact (Option.some.inj e).symm
    subst ez
    obtain ⟨t1, t2, t3, t4, t5, t6⟩ := t k s h
    rw [Nat.zero_add] at t1
    obtain ⟨a1, a2, a3, a4⟩ := a
    refine ⟨by rw [Nat.zero_add]; exact a1, by rw [a2]; exact t2, by rw [a3]; exact t3, by rw [a4]; exact t4, by rw [a2]; exact t5, by rw [a3]; exact t6⟩
  · have e2 : ps[k]? = some z := by
      unfold setL at e
      by_cases hlt : k < n
      · rw [List.append_assoc, List.getElem?_append_left (by rw [List.length_take]; omega), List.getElem?_take_of_lt hlt] at e
        exact e
      · rw [List.getElem?_append_right (by rw [List.length_append, List.length_take, List.length_singleton]; omega), List.length_append, List.length_take, List.length_singleton, Nat.min_eq_left (Nat.le_of_lt hn), List.getElem?_drop] at e
        rw [show n + 1 + (k - (n + 1)) = k by omega] at e
        exact e
    exact t k z e2
def spTurned (i M d : Nat) : Sp := fun vs H Q _ => ∃ (b l L : Addr) (v : V) (F : List Str) (s : Sch), vs = [.ref b, v, .ref L] ∧ Box H b l ∧ L ≠ b ∧ L ≠ l ∧ H L = some (.lst (F.map V.str)) ∧ (∀ x ∈ F, IsW x) ∧ 0 < F.length ∧ F.length ≤ 8 ∧ SAt H d s v ∧ OkS i M d s ∧
  ∀ (v' : V) (s' : Sch) (H' : Hp), SAt H' d s' v' → Alt i M d s s' → Box H' b l → Keep [b, l] H H' → Q v' H'
/-- a scheme with one scheme within, told as its last part -/
structure WrapAt (H : Hp) (i M d : Nat) (sc : Sch) (a : Addr) (nm : Str) (pre : List V) (u : V) (s1 : Sch) (mk : Sch → Sch) : Prop where
  at_ : H a = some (.tup (.str nm :: (pre ++ [u])))
  kid : SAt H d s1 u
  ok : OkS i M d s1
  ab : (nm == "all" || nm == "best") = false
  su : (nm == "step" || nm == "use") = false
  pl : pre.length ≤ 2
  alt : ∀ s', Alt i M d s1 s' → Alt i M (d + 1) sc (mk s')
  new : ∀ (H' : Hp) (a' : Addr) (u' : V) (s' : Sch), H' a' = some (.tup (.str nm :: (pre ++ [u']))) → SAt H' d s' u' → SAt H' (d + 1) (mk s') (.ref a')
theorem last_at {nm : Str} {u : V} : ∀ {pre : List V}, pre.length ≤ 2 → atI (V.str nm :: (pre ++ [u])) (-1) = some u
  | [], _ => rfl
  | [_], _ => rfl
  | [_, _], _ => rfl
  | _ :: _ :: _ :: _, h => absurd h (by simp)
theorem cut_last {nm : Str} {u : V} : ∀ {pre : List V}, pre.length ≤ 2 → cutV (V.str nm :: (pre ++ [u])) none (some (-1)) = V.str nm :: pre
  | [], _ => rfl
  | [_], _ => rfl
  | [_, _], _ => rfl
  | _ :: _ :: _ :: _, h => absurd h (by simp)
theorem turned_view {H : Hp} {i M d : Nat} {sc : Sch} {v : V} (hs : SAt H (d + 1) sc v) (ho : OkS i M (d + 1) sc) :
    (∃ x p, sc = .step x p) ∨ (∃ n, sc = .use n) ∨ (∃ ks, sc = .all ks ∨ sc = .best ks) ∨ ∃ a nm pre u s1 mk, v = .ref a ∧ WrapAt H i M d sc a nm pre u s1 mk ∧
      ((nm = "most" ∧ ∃ n, pre = [.int n] ∧ sc = .most n s1) ∨ (nm = "half" ∧ pre = [] ∧ sc = .half s1) ∨ (nm = "carry" ∧ pre = [] ∧ sc = .carry s1) ∨ (nm = "seen" ∧ ∃ x, pre = [.str x] ∧ sc = .seen x s1) ∨ (nm = "behind" ∧ ∃ x, pre = [.str x] ∧ sc = .behind x s1) ∨ (nm = "end" ∧ ∃ x p, pre = [.str x, .int p] ∧ sc = .fin x p s1)) := by
  cases sc with
  | step x p => exact .inl ⟨x, p, rfl⟩
  | use n => exact .inr (.inl ⟨n, rfl⟩)
  | all ks => exact .inr (.inr (.inl ⟨ks, .inl rfl⟩))
  | best ks => exact .inr (.inr (.inl ⟨ks, .inr rfl⟩))
  | most n s =>
    obtain ⟨a, u, rfl, ea, hk⟩ := hs
    exact .inr (.inr (.inr ⟨a, "most", [.int n], u, s, .most n, rfl, ⟨ea, hk, ho.2, by decide +kernel, by decide +kernel, Nat.le_of_ble_eq_true rfl, fun s' h => ⟨⟨ho.1, h.1⟩, h.2.1, h.2.2.1, by show 1 + sz d s' = 1 + sz d s; rw [h.2.2.2]⟩, fun H' a' u' s' e h => ⟨a', u', rfl, e, h⟩⟩, .inl ⟨rfl, n, rfl, rfl⟩⟩))
  | half s =>
    obtain ⟨a, u, rfl, ea, hk⟩ := hs
    exact .inr (.inr (.inr ⟨a, "half", [], u, s, .half, rfl, ⟨ea, hk, ho, by decide +kernel, by decide +kernel, Nat.le_of_ble_eq_true rfl, fun s' h => ⟨h.1, h.2.1, h.2.2.1, by show 1 + sz d s' = 1 + sz d s; rw [h.2.2.2]⟩, fun H' a' u' s' e h => ⟨a', u', rfl, e, h⟩⟩, .inr (.inl ⟨rfl, rfl, rfl⟩)⟩))
  | carry s =>
    obtain ⟨a, u, rfl, ea, hk⟩ := hs
    exact .inr (.inr (.inr ⟨a, "carry", [], u, s, .carry, rfl, ⟨ea, hk, ho, by decide +kernel, by decide +kernel, Nat.le_of_ble_eq_true rfl, fun s' h => ⟨h.1, h.2.1, h.2.2.1, by show 1 + sz d s' = 1 + sz d s; rw [h.2.2.2]⟩, fun H' a' u' s' e h => ⟨a', u', rfl, e, h⟩⟩, .inr (.inr (.inl ⟨rfl, rfl, rfl⟩))⟩))
  | seen x s =>
    obtain ⟨a, u, rfl, ea, hk⟩ := hs
    exact .inr (.inr (.inr ⟨a, "seen", [.str x], u, s, .seen x, rfl, ⟨ea, hk, ho.2, by decide +kernel, by decide +kernel, Nat.le_of_ble_eq_true rfl, fun s' h => ⟨⟨ho.1, h.1⟩, h.2.1, fun c => by show 1 + wr c d s' = 1 + wr c d s; rw [h.2.2.1], by show 1 + sz d s' = 1 + sz d s; rw [h.2.2.2]⟩, fun H' a' u' s' e h => ⟨a', u', rfl, e, h⟩⟩, .inr (.inr (.inr (.inl ⟨rfl, x, rfl, rfl⟩)))⟩))
  | behind x s =>
    obtain ⟨a, u, rfl, ea, hk⟩ := hs
    exact .inr (.inr (.inr ⟨a, "behind", [.str x], u, s, .behind x, rfl, ⟨ea, hk, ho.2, by decide +kernel, by decide +kernel, Nat.le_of_ble_eq_true rfl, fun s' h => ⟨⟨ho.1, h.1⟩, h.2.1, fun c => by show 1 + wr c d s' = 1 + wr c d s; rw [h.2.2.1], by show 1 + sz d s' = 1 + sz d s; rw [h.2.2.2]⟩, fun H' a' u' s' e h => ⟨a', u', rfl, e, h⟩⟩, .inr (.inr (.inr (.inr (.inl ⟨rfl, x, rfl, rfl⟩))))⟩))
  | fin x p s =>
    obtain ⟨a, u, rfl, ea, hk⟩ := hs
    exact .inr (.inr (.inr ⟨a, "end", [.str x, .int p], u, s, .fin x p, rfl, ⟨ea, hk, ho.2, by decide +kernel, by decide +kernel, Nat.le_of_ble_eq_true rfl, fun s' h => ⟨⟨ho.1, h.1⟩, fun c => by show 1 + er c d s' = 1 + er c d s; rw [h.2.1], h.2.2.1, by show 1 + sz d s' = 1 + sz d s; rw [h.2.2.2]⟩, fun H' a' u' s' e h => ⟨a', u', rfl, e, h⟩⟩, .inr (.inr (.inr (.inr (.inr ⟨rfl, x, p, rfl, rfl⟩))))⟩))
/-- a test of the first word -/
theorem in2_ev {K : PySem.W.Frag} {σ : St} {H : Hp} {a : Addr} {nm x y : Str} {rest : List V} (s1 : σ[1]? = some (some (.ref a))) (ea : H a = some (.tup (.str nm :: rest))) :
    ∀ Q : Bool → Hp → Prop, (∀ H', Same H H' → Q (nm == x || nm == y) H') → tTest (tOp (rIn K false) (tOp (rIxT K) (tVar 1) (tC (.int 0))) (tTup (tCons (tC (.str x)) (tCons (tC (.str y)) tNil)))) σ H Q := fun Q q => by
  refine ⟨_, s1, a, _, 0, .str nm, rfl, rfl, SqT.of ea, at0, sz2, fun t1 h1 => ⟨t1, _, rfl, .inr (SqT.of upd_same), rfl, rfl, _, rfl, ?_⟩⟩
  have e : inV (.str nm) [.str x, .str y] = (nm == x || nm == y) := by
    show (eqV (.str x) (.str nm) || (eqV (.str y) (.str nm) || false)) = _
    rw [Bool.or_false]
    have es : ∀ z : Str, eqV (.str z) (.str nm) = (z == nm) := fun z => rfl
    rw [es, es]
    have sw : ∀ z : Str, (z == nm) = (nm == z) := fun z => by
      by_cases h : z = nm
      · rw [h]
      · rw [beq_false_of_ne h, beq_false_of_ne (fun e => h e.symm)]
    rw [sw, sw]
  show Q (inV (.str nm) [.str x, .str y]) _
  rw [e]
  exact q _ (Same.new h1)
theorem in2 {K : PySem.W.Frag} {σ : St} {H : Hp} {a : Addr} {nm x y : Str} {rest : List V} {bb : Bool} (s1 : σ[1]? = some (some (.ref a))) (ea : H a = some (.tup (.str nm :: rest))) (e : (nm == x || nm == y) = bb) :
    ∀ Q : Bool → Hp → Prop, (∀ H', Same H H' → Q bb H') → tTest (tOp (rIn K false) (tOp (rIxT K) (tVar 1) (tC (.int 0))) (tTup (tCons (tC (.str x)) (tCons (tC (.str y)) tNil)))) σ H Q := by
  subst e
  exact in2_ev s1 ea
/-- draws: the box goes on, all else stays -/
def BK (b l : Addr) (H H' : Hp) : Prop := Box H' b l ∧ Keep [b, l] H H'
theorem BK.refl {b l : Addr} {H : Hp} (B : Box H b l) : BK b l H H := ⟨B, Keep.refl _ _⟩
theorem Box.same {H H' : Hp} {b l : Addr} (B : Box H b l) (s : Same H H') : Box H' b l := by
  obtain ⟨ne, ⟨n, e1⟩, ns, e2⟩ := B
  exact ⟨ne, ⟨n, s _ _ e1⟩, ns, s _ _ e2⟩
theorem BK.same {b l : Addr} {H H1 H2 : Hp} (k : BK b l H H1) (s : Same H1 H2) : BK b l H H2 := ⟨k.1.same s, k.2.trans (Same.keep s)⟩
theorem BK.trans {b l : Addr} {H H1 H2 : Hp} (k : BK b l H H1) (k2 : BK b l H1 H2) : BK b l H H2 := ⟨k2.1, k.2.trans k2.2⟩
theorem BK.tup {b l : Addr} {H H' : Hp} (B : Box H b l) (k : BK b l H H') : TupK H H' := k.2.tup fun a ha => by
  obtain ⟨ne, ⟨n, e1⟩, ns, e2⟩ := B
  rcases List.mem_cons.mp ha with rfl | ha
  · exact ⟨_, e1⟩
  · rw [List.mem_singleton.mp ha]
    exact ⟨_, e2⟩
theorem take_ev {σ : St} {H : Hp} {b l : Addr} {m : Int} (s0 : σ[0]? = some (some (.ref b))) (B : Box H b l) (m0 : 0 < m) (m1 : m < 1073741824) : ∀ Q : VK, (∀ (r : Int) (H' : Hp), 0 ≤ r → r < m → BK b l H H' → Q (.int r) H') → tCall spTake [] E0 (tCons (tVar 0) (tCons (tC (.int m)) tNil)) σ H Q :=
  fun Q q => ⟨_, s0, b, l, m, rfl, m0, m1, B, fun r H' a0 a1 B1 k1 => q r H' a0 a1 ⟨B1, k1⟩⟩
theorem pick2_ev {K : PySem.W.Frag} {σ : St} {H : Hp} {b l : Addr} {x y : Str} (s0 : σ[0]? = some (some (.ref b))) (B : Box H b l) : ∀ Q : VK, (∀ (z : Str) (H' : Hp), (z = x ∨ z = y) → BK b l H H' → Q (.str z) H') →
    tOp (rIxL K) (tLst (tCons (tC (.str x)) (tCons (tC (.str y)) tNil))) (tCall spTake [] E0 (tCons (tVar 0) (tCons (tC (.int 2)) tNil))) σ H Q := fun Q q => by
  refine ⟨(by show 2 ≤ sizeLine; decide), fun T hT => take_ev s0 (B.same (Same.new hT)) (by decide) (by decide) _ fun r H' a0 a1 k => ?_⟩
  have eT := k.2 T _ upd_same (B.nin hT)
  have k2 : BK b l H H' := ((BK.refl B).same (Same.new hT)).trans k
  have hr : r = 0 ∨ r = 1 := by omega
  rcases hr with rfl | rfl
  · exact ⟨T, _, 0, _, rfl, rfl, SqL.of eT, at0, q x H' (.inl rfl) k2⟩
  · exact ⟨T, _, 1, _, rfl, rfl, SqL.of eT, at1, q y H' (.inr rfl) k2⟩
theorem letter_ev {K : PySem.W.Frag} {σ : St} {H : Hp} {b l L : Addr} {F : List Str} {tl : TE} (s0 : σ[0]? = some (some (.ref b))) (s2 : σ[2]? = some (some (.ref L))) (B : Box H b l) (nb : L ≠ b) (nl : L ≠ l) (eL : H L = some (.lst (F.map V.str))) (w1 : ∀ x ∈ F, IsW x) (l0 : 0 < F.length) (l1 : F.length ≤ 8)
    (ht : ∀ Q : VK, Q (.int (((F.map V.str).length : Nat) : Int)) H → tl σ H Q) : ∀ Q : VK, (∀ (x : Str) (H' : Hp), IsW x → BK b l H H' → Q (.str x) H') →
    tOp (rIxL K) (tVar 2) (tCall spTake [] E0 (tCons (tVar 0) (tCons tl tNil))) σ H Q := fun Q q => by
  refine ⟨_, s2, _, s0, ht _ ⟨b, l, _, rfl, (by rw [List.length_map]; omega), (by rw [List.length_map]; omega), B, fun r H' a0 a1 B1 k1 => ?_⟩⟩
  obtain ⟨x, ex, hx, _⟩ := pick_word w1 a0 a1
  exact ⟨L, _, r, .str x, rfl, rfl, SqL.of (k1 L _ eL (by simp [nb, nl])), ex, q x H' hx ⟨B1, k1⟩⟩
theorem cond_ev {K : PySem.W.Frag} {σ : St} {H : Hp} {a b l : Addr} {nm : Str} {rest : List V} (s0 : σ[0]? = some (some (.ref b))) (s1 : σ[1]? = some (some (.ref a))) (ea : H a = some (.tup (.str nm :: rest))) (B : Box H b l) :
    ∀ Q : Bool → Hp → Prop, (∀ (bb : Bool) (H' : Hp), BK b l H H' → (bb = false → (nm == "step" || nm == "use") = false) → Q bb H') →
    tOr (tTest (tOp (rIn K false) (tOp (rIxT K) (tVar 1) (tC (.int 0))) (tTup (tCons (tC (.str "step")) (tCons (tC (.str "use")) tNil))))) (tTest (tOp rEq (tCall spTake [] E0 (tCons (tVar 0) (tCons (tC (.int 3)) tNil))) (tC (.int 0)))) σ H Q := fun Q q => by
  refine in2_ev s1 ea _ fun H1 s => ?_
  cases h : (nm == ("step" : Str) || nm == ("use" : Str)) with
  | true => exact iteT (q true H1 ((BK.refl B).same s) fun z => nomatch z)
  | false => exact iteF (take_ev s0 (B.same s) (by decide) (by decide) _ fun r H2 a0 a1 k => ⟨rfl, _, rfl, q _ H2 (((BK.refl B).same s).trans k) fun _ => h⟩)
section
variable {P : Program} {w : World} {K : PySem.W.Frag} {mg : Str → Option Value} {base : Heap}
theorem turned_turn {i M d : Nat} (ml : mg "len" = none) (mli : mg "list" = none) (D : Def K mg "_law_turned" s_L_turned psTurned) (DT : Def K mg "_law_take" s_L_take ["_law_box", "_law_many"]) (G : FnOk P w K mg base CX0 (d + 1) D.f D.fd psTurned (spTurned i M d)) :
    FnOk P w K mg base CX0 (d + 2) D.f D.fd psTurned (spTurned i M (d + 1)) := by
  have GT : FnOk P w K mg base CX0 1 DT.f DT.fd ["_law_box", "_law_many"] spTake := ok_take DT
  have nd := sc_L_turned.nd
  refine D.ok sc_L_turned (fun vs H Q E h => ?_) (fun cdv A outer s H vs Q E hr h => ?_)
  · obtain ⟨b, l, L, v, F, s, rfl, _⟩ := h
    rfl
  obtain ⟨b, l, L, v, F, sc, rfl, B, nb, nl, eL, w1, l0, l1, hs, ho, q⟩ := h
  have hr1 : Room 1 _ := hr.mono (by omega)
  refine ⟨_, pss_cons (ps_set (i := 3) nd rfl (Or.inl rfl) (pe_ifExp (pt_cmpR op_in_seq (pe_ix ix_tup (pv 1) pe_int (fun _ _ => rfl)) (pe_tup (pa_cons pe_str (pa_cons pe_str pa_nil))) (by rfl)) (pe_callTy call_list_of rfl mli (by decide +kernel) (pa_cons (pe_ix ix_tup (pv 1) pe_int (fun _ _ => rfl)) pa_nil)) (pe_lst (pa_cons (pe_ix ix_tup (pv 1) (pe_un un_neg pe_int) (fun _ _ => rfl)) pa_nil))))
    (pss_cons (ps_if (PW.pt (pw_or (pt_cmpR op_in_seq (pe_ix ix_tup (pv 1) pe_int (fun _ _ => rfl)) (pe_tup (pa_cons pe_str (pa_cons pe_str pa_nil))) (by rfl)) (pw_or1 (pt_cmpR op_eq (pcall DT GT hr1 (pa_cons (pv 0) (pa_cons pe_int pa_nil))) pe_int (nomark _)))))
      (pss_cons (ps_if (pt_cmpR op_in_seq (pe_ix ix_tup (pv 1) pe_int (fun _ _ => rfl)) (pe_tup (pa_cons pe_str (pa_cons pe_str pa_nil))) (by rfl))
          (pss_one (ps_ret (pe_op op_catA (pe_tup (pa_cons (pe_ix ix_tup (pv 1) pe_int (fun _ _ => rfl)) (pa_cons (pe_ix ix_list (pv 2) (pcall DT GT hr1 (pa_cons (pv 0) (pa_cons (pe_callB call_len_seq rfl ml PySem.boot_len (pa_cons (pv 2) pa_nil)) pa_nil))) (fun _ _ => rfl)) (pa_cons (pe_op op_add pe_int (pcall DT GT hr1 (pa_cons (pv 0) (pa_cons pe_int pa_nil)))) pa_nil)))) (pe_slice sl_tupA (pv 1) (po_some pe_int) po_none)))) pss_nil)
      (pss_cons (ps_if (pt_cmpR op_in_seq (pe_ix ix_tup (pv 1) pe_int (fun _ _ => rfl)) (pe_tup (pa_cons pe_str (pa_cons pe_str pa_nil))) (by rfl))
          (pss_one (ps_ret (pe_tup (pa_cons (pe_ix ix_list (pe_lst (pa_cons pe_str (pa_cons pe_str pa_nil))) (pcall DT GT hr1 (pa_cons (pv 0) (pa_cons pe_int pa_nil))) (fun _ _ => rfl)) (pa_cons (pe_ix ix_list (pv 2) (pcall DT GT hr1 (pa_cons (pv 0) (pa_cons (pe_callB call_len_seq rfl ml PySem.boot_len (pa_cons (pv 2) pa_nil)) pa_nil))) (fun _ _ => rfl)) (pa_cons (pe_ix ix_tup (pv 1) pe_int (fun _ _ => rfl)) pa_nil)))))) pss_nil)
      (pss_cons (ps_if (pt_cmpR op_eq (pe_ix ix_tup (pv 1) pe_int (fun _ _ => rfl)) pe_str (nomark _))
          (pss_one (ps_ret (pe_tup (pa_cons pe_str (pa_cons (pcall DT GT hr1 (pa_cons (pv 0) (pa_cons pe_int pa_nil))) (pa_cons (pe_ix ix_tup (pv 1) pe_int (fun _ _ => rfl)) pa_nil)))))) pss_nil)
      (pss_cons (ps_if (pt_cmpR op_in_seq (pe_ix ix_tup (pv 1) pe_int (fun _ _ => rfl)) (pe_tup (pa_cons pe_str (pa_cons pe_str pa_nil))) (by rfl))
          (pss_one (ps_ret (pe_tup (pa_cons (pe_ix ix_list (pe_lst (pa_cons pe_str (pa_cons pe_str pa_nil))) (pcall DT GT hr1 (pa_cons (pv 0) (pa_cons pe_int pa_nil))) (fun _ _ => rfl)) (pa_cons (pe_ix ix_tup (pv 1) pe_int (fun _ _ => rfl)) pa_nil))))) pss_nil)
      (pss_one (ps_ret (pe_ifExp (pt_cmpR op_ne (pe_ix ix_tup (pv 1) pe_int (fun _ _ => rfl)) pe_str (nomark _)) (pe_tup (pa_cons (pe_ix ix_list (pe_lst (pa_cons pe_str (pa_cons pe_str pa_nil))) (pcall DT GT hr1 (pa_cons (pv 0) (pa_cons pe_int pa_nil))) (fun _ _ => rfl)) (pa_cons (pe_ix ix_tup (pv 1) pe_int (fun _ _ => rfl)) pa_nil))) (pv 1)))))))) pss_nil)
    (pss_cons (ps_set (i := 4) nd rfl (Or.inl rfl) (pcall DT GT hr1 (pa_cons (pv 0) (pa_cons (pe_callB call_len_seq rfl ml PySem.boot_len (pa_cons (pv 3) pa_nil)) pa_nil))))
    (pss_cons (ps_set (i := 5) nd rfl (Or.inl rfl) (pcall D G hr (pa_cons (pv 0) (pa_cons (pe_ix ix_list (pv 3) (pv 4) (fun _ _ => rfl)) (pa_cons (pv 2) pa_nil)))))
    (pss_cons (ps_if (pt_cmpR op_in_seq (pe_ix ix_tup (pv 1) pe_int (fun _ _ => rfl)) (pe_tup (pa_cons pe_str (pa_cons pe_str pa_nil))) (by rfl))
        (pss_one (ps_ret (pe_tup (pa_cons (pe_ix ix_tup (pv 1) pe_int (fun _ _ => rfl)) (pa_cons (pe_op op_catA (pe_op op_catA (pe_slice sl_tupA (pe_ix ix_tup (pv 1) pe_int (fun _ _ => rfl)) po_none (po_some (pv 4))) (pe_tup (pa_cons (pv 5) pa_nil))) (pe_slice sl_tupA (pe_ix ix_tup (pv 1) pe_int (fun _ _ => rfl)) (po_some (pe_op op_add (pv 4) pe_int)) po_none)) pa_nil))))) pss_nil)
    (pss_one (ps_ret (pe_op op_catA (pe_slice sl_tupA (pv 1) po_none (po_some (pe_un un_neg pe_int))) (pe_tup (pa_cons (pv 5) pa_nil))))))))), ?_⟩
  have nin : ∀ {z : Addr}, z ≠ b ∧ z ≠ l → z ∉ [b, l] := fun {z} h => by simp [h.1, h.2]
  have lenT : ∀ {σ : St} {H' : Hp}, σ[2]? = some (some (.ref L)) → H' L = some (.lst (F.map V.str)) → ∀ Q : VK, Q (.int (((F.map V.str).length : Nat) : Int)) H' → tCB (fun xs H_1 Q => ∃ p ys, xs = [V.ref p] ∧ (SqL K H_1 p ys ∨ SqT K H_1 p ys) ∧ Q (V.int (ys.length : Nat)) H_1) (tCons (tVar 2) tNil) σ H' Q := fun s2 e Q q => ⟨_, s2, L, _, rfl, .inl (SqL.of e), q⟩
  -- letters[..], 1 + ..: what a step or an end is told with
  rcases turned_view hs ho with ⟨x, p, rfl⟩ | ⟨n, rfl⟩ | ⟨ks, hg⟩ | ⟨a, nm, pre, u, sk, mk, rfl, W, hk⟩
  · obtain ⟨a, rfl, ea⟩ := hs
    refine in2 (K := K) (bb := false) rfl ea (by decide +kernel) _ fun H1 s1 => iteF ⟨_, rfl, 1, rfl, a, _, -1, .int p, rfl, rfl, SqT.of (s1 _ _ ea), rfl, (by show 1 ≤ sizeLine; decide), fun kd hkd => ?_⟩
    have k1 : BK b l H _ := (BK.refl B).same (s1.trans (Same.new (o := .lst [.int p]) hkd))
    dsimp only [gName]
    refine cond_ev (K := K) rfl rfl (k1.tup B _ _ ea) k1.1 _ fun bb H2 k2 hb => ?_
    cases bb with
    | false => exact absurd (hb rfl) (by decide +kernel)
    | true =>
      refine iteT (in2 (K := K) (bb := true) rfl ((k1.trans k2).tup B _ _ ea) (by decide +kernel) _ fun H3 s3 => iteT ?_)
      have k3 := (k1.trans k2).same s3
      refine ⟨_, rfl, a, _, 0, .str "step", rfl, rfl, SqT.of (k3.tup B _ _ ea), at0, ?_⟩
      refine letter_ev (K := K) rfl rfl k3.1 nb nl (k3.2 _ _ eL (nin ⟨nb, nl⟩)) w1 l0 l1 (lenT rfl (k3.2 _ _ eL (nin ⟨nb, nl⟩))) _ fun y H4 hy k4 => ?_
      have k4' := k3.trans k4
      refine take_ev rfl k4'.1 (by decide) (by decide) _ fun r H5 r0 r1 k5 => ?_
      have k5' := k4'.trans k5
      refine ⟨_, _, rfl, rfl, (by show 3 ≤ sizeLine; decide), fun t ht => ?_⟩
      have k6 := k5'.same (Same.new (o := .tup [.str "step", .str y, .int (1 + r)]) ht)
      refine ⟨_, rfl, 3, rfl, ?_⟩
      dsimp only [tNoPart]
      refine sl_any (k6.tup B _ _ ea) fun pe H6 s6 e6 => cat_any (s6 _ _ upd_same) e6 (Nat.le_of_ble_eq_true rfl) fun pf H7 s7 e7 => ?_
      have k7 := (k6.same s6).same s7
      exact q (.ref pf) (.step y (1 + r)) H7 ⟨pf, rfl, e7⟩ ⟨⟨hy, by omega, by omega⟩, fun _ => rfl, fun _ => rfl, rfl⟩ k7.1 k7.2
  · obtain ⟨a, rfl, ea⟩ := hs
    refine in2 (K := K) (bb := false) rfl ea (by decide +kernel) _ fun H1 s1 => iteF ⟨_, rfl, 1, rfl, a, _, -1, .int ((n : Nat) : Int), rfl, rfl, SqT.of (s1 _ _ ea), rfl, (by show 1 ≤ sizeLine; decide), fun kd hkd => ?_⟩
    have k1 : BK b l H _ := (BK.refl B).same (s1.trans (Same.new (o := .lst [.int ((n : Nat) : Int)]) hkd))
    dsimp only [gName]
    refine cond_ev (K := K) rfl rfl (k1.tup B _ _ ea) k1.1 _ fun bb H2 k2 hb => ?_
    cases bb with
    | false => exact absurd (hb rfl) (by decide +kernel)
    | true =>
      have k12 := k1.trans k2
      refine iteT (in2 (K := K) (bb := false) rfl (k12.tup B _ _ ea) (by decide +kernel) _ fun H3 s3 => iteF ?_)
      have k3 := k12.same s3
      refine in2 (K := K) (bb := false) rfl (k3.tup B _ _ ea) (by decide +kernel) _ fun H4 s4 => iteF ?_
      have k4 := k3.same s4
      dsimp only [tNext]
      refine seq_if (b := false) (fun Q q => ⟨_, rfl, a, _, 0, .str "use", rfl, rfl, SqT.of (k4.tup B _ _ ea), at0, rfl, _, rfl, by rw [dec_str]; exact q⟩) (fun z => nomatch z) (fun _ => ?_)
      refine in2 (K := K) (bb := false) rfl (k4.tup B _ _ ea) (by decide +kernel) _ fun H5 s5 => iteF ?_
      have k5 := k4.same s5
      refine ⟨_, rfl, a, _, 0, .str "use", rfl, rfl, SqT.of (k5.tup B _ _ ea), at0, rfl, _, rfl, ?_⟩
      refine iteF ⟨_, rfl, ?_⟩
      exact q (.ref a) (.use n) H5 ⟨a, rfl, k5.tup B _ _ ea⟩ (Alt.refl ho) k5.1 k5.2
  · obtain ⟨a, nm, gb, gv, rfl, hnm, ea, egb, pg⟩ : ∃ (a : Addr) (nm : Str) (gb : Addr) (gv : List V), v = .ref a ∧ ((nm = "all" ∧ sc = .all ks) ∨ (nm = "best" ∧ sc = .best ks)) ∧ H a = some (.tup [.str nm, .ref gb]) ∧ H gb = some (.tup gv) ∧ Paired (SAt H d) ks gv := by
      rcases hg with rfl | rfl
      · obtain ⟨a, gb, gv, e, h1, h2, h3⟩ := hs
        exact ⟨a, "all", gb, gv, e, .inl ⟨rfl, rfl⟩, h1, h2, h3⟩
      · obtain ⟨a, gb, gv, e, h1, h2, h3⟩ := hs
        exact ⟨a, "best", gb, gv, e, .inr ⟨rfl, rfl⟩, h1, h2, h3⟩
    have hko : 0 < ks.length ∧ ks.length ≤ 4 ∧ ∀ s ∈ ks, OkS i M d s := by
      rcases hnm with ⟨_, rfl⟩ | ⟨_, rfl⟩ <;> exact ho
    have n1 : (nm == "all" || nm == "best") = true := by rcases hnm with ⟨rfl, _⟩ | ⟨rfl, _⟩ <;> decide +kernel
    have n2 : (nm == "step" || nm == "end") = false := by rcases hnm with ⟨rfl, _⟩ | ⟨rfl, _⟩ <;> decide +kernel
    have n3 : (nm == "seen" || nm == "behind") = false := by rcases hnm with ⟨rfl, _⟩ | ⟨rfl, _⟩ <;> decide +kernel
    have n4 : (nm == "most") = false := by rcases hnm with ⟨rfl, _⟩ | ⟨rfl, _⟩ <;> decide +kernel
    have lg := Paired.length pg
    refine in2 (K := K) (bb := true) rfl ea n1 _ fun H1 s1 => iteT ⟨_, rfl, a, _, 1, .ref gb, rfl, rfl, SqT.of (s1 _ _ ea), at1, gb, gv, rfl, .inr (SqT.of (s1 _ _ egb)), fun kd hkd => ?_⟩
    have k1 : BK b l H _ := (BK.refl B).same (s1.trans (Same.new (o := .lst gv) hkd))
    have hkdb : kd ∉ [b, l] := (B.same s1).nin hkd
    have ekd : upd H1 kd (.lst gv) kd = some (.lst gv) := upd_same
    generalize upd H1 kd (.lst gv) = H1' at *
    dsimp only [gName]
    refine cond_ev (K := K) rfl rfl (k1.tup B _ _ ea) k1.1 _ fun bb H2 k2 hb => ?_
    have k12 := k1.trans k2
    cases bb with
    | true =>
      refine iteT (in2 (K := K) (bb := false) rfl (k12.tup B _ _ ea) n2 _ fun H3 s3 => iteF ?_)
      have k3 := k12.same s3
      refine in2 (K := K) (bb := false) rfl (k3.tup B _ _ ea) n3 _ fun H4 s4 => iteF ?_
      have k4 := k3.same s4
      dsimp only [tNext]
      refine seq_if (b := false) (fun Q q => ⟨_, rfl, a, _, 0, .str nm, rfl, rfl, SqT.of (k4.tup B _ _ ea), at0, rfl, _, rfl, by rw [dec_str, n4]; exact q⟩) (fun z => nomatch z) (fun _ => ?_)
      refine in2 (K := K) (bb := true) rfl (k4.tup B _ _ ea) n1 _ fun H5 s5 => iteT ?_
      have k5 := k4.same s5
      refine pick2_ev (K := K) rfl k5.1 _ fun z H6 hz k6 => ?_
      have k56 := k5.trans k6
      refine ⟨_, rfl, a, _, 1, .ref gb, rfl, rfl, SqT.of (k56.tup B _ _ ea), at1, sz2, fun t ht => ?_⟩
      have k7 := k56.same (Same.new (o := .tup [.str z, .ref gb]) ht)
      have pg7 := paired_imp pg fun _ _ => SAt.keep (k7.tup B) _ _ _
      rcases hz with rfl | rfl
      · exact q (.ref t) (.all ks) _ ⟨t, gb, gv, rfl, upd_same, k7.tup B _ _ egb, pg7⟩ (by rcases hnm with ⟨_, rfl⟩ | ⟨_, rfl⟩ <;> exact ⟨hko, fun _ => rfl, fun _ => rfl, rfl⟩) k7.1 k7.2
      · exact q (.ref t) (.best ks) _ ⟨t, gb, gv, rfl, upd_same, k7.tup B _ _ egb, pg7⟩ (by rcases hnm with ⟨_, rfl⟩ | ⟨_, rfl⟩ <;> exact ⟨hko, fun _ => rfl, fun _ => rfl, rfl⟩) k7.1 k7.2
    | false =>
      refine iteF ?_
      dsimp only [tNext]
      have ekd2 := k2.2 _ _ ekd hkdb
      refine ⟨_, rfl, _, rfl, kd, _, rfl, .inl (SqL.of ekd2), b, l, _, rfl, by omega, by omega, k2.1, fun r H3 r0 r1 B3 kk3 => ?_⟩
      have k3 : BK b l H H3 := k12.trans ⟨B3, kk3⟩
      obtain ⟨j, rfl⟩ : ∃ j : Nat, r = (j : Int) := ⟨r.toNat, by omega⟩
      have hj : j < ks.length := by omega
      obtain ⟨u, eu, hu⟩ := paired_get2 pg (List.getElem?_eq_getElem hj)
      have hku : OkS i M d ks[j] := hko.2.2 _ (List.getElem_mem hj)
      dsimp only [gName]
      refine ⟨_, rfl, _, rfl, _, rfl, kd, gv, _, u, rfl, rfl, SqL.of (kk3 _ _ ekd2 hkdb), atI_nat eu, _, rfl, b, l, L, u, F, ks[j], rfl, B3, nb, nl, k3.2 _ _ eL (nin ⟨nb, nl⟩), w1, l0, l1, SAt.keep (k3.tup B) _ _ _ hu, hku, fun v' s' H4 hs' ha B4 kk4 => ?_⟩
      have k4 : BK b l H H4 := k3.trans ⟨B4, kk4⟩
      dsimp only [gName]
      refine in2 (K := K) (bb := true) rfl (k4.tup B _ _ ea) n1 _ fun H5 s5 => iteT ?_
      have k5 := k4.same s5
      refine ⟨_, rfl, a, _, 0, .str nm, rfl, rfl, SqT.of (k5.tup B _ _ ea), at0, _, rfl, a, _, 1, .ref gb, rfl, rfl, SqT.of (k5.tup B _ _ ea), at1, _, rfl, ((j : Nat) : Int), rfl, sl_any (k5.tup B _ _ egb) fun p1 H6 s6 e6 => ⟨_, rfl, (by show 1 ≤ sizeLine; decide), fun t1 ht1 => cat_any (Same.new ht1 _ _ e6) upd_same ?_ fun p2 H7 s7 e7 => ?_⟩⟩
      · rw [cut_to, List.length_take]
        show min j gv.length + 1 ≤ 1000
        omega
      have k7 := (k5.same s6).same ((Same.new (o := .tup [v']) ht1).trans s7)
      have s57 := (s5.trans s6).trans ((Same.new (o := .tup [v']) ht1).trans s7)
      refine ⟨_, rfl, a, _, 1, .ref gb, rfl, rfl, SqT.of (k7.tup B _ _ ea), at1, _, rfl, _, _, rfl, rfl, _, rfl, ?_⟩
      dsimp only [tNoPart]
      refine sl_any (k7.tup B _ _ egb) fun p3 H8 s8 e8 => cat_any (s8 _ _ e7) e8 ?_ fun p4 H9 s9 e9 => ⟨sz2, fun t ht => ?_⟩
      · rw [cut_to, show ((j : Nat) : Int) + 1 = ((j + 1 : Nat) : Int) by omega, cut_from, List.length_append, List.length_take, List.length_drop, List.length_singleton]
        omega
      rw [cut_to, show ((j : Nat) : Int) + 1 = ((j + 1 : Nat) : Int) by omega, cut_from] at e9
      have e9 : H9 p4 = some (.tup (setL gv j v')) := e9
      have k10 := ((k7.same s8).same s9).same (Same.new (o := .tup [.str nm, .ref p4]) ht)
      have s10 := ((s57.trans s8).trans s9).trans (Same.new (o := .tup [.str nm, .ref p4]) ht)
      have pg10 : Paired (SAt (upd H9 t (.tup [.str nm, .ref p4])) d) (setL ks j s') (setL gv j v') := paired_setL (paired_imp pg fun _ _ => SAt.keep (k10.tup B) _ _ _) j (SAt.keep (Same.tupK s10) _ _ _ hs')
      obtain ⟨a1, a2, a3, a4, a5⟩ := alt_kids (List.getElem?_eq_getElem hj) ha
      have e4 := Same.new (o := .tup [.str nm, .ref p4]) ht _ _ e9
      have okk : 0 < (setL ks j s').length ∧ (setL ks j s').length ≤ 4 ∧ ∀ s ∈ setL ks j s', OkS i M d s := ⟨by rw [a5]; exact hko.1, by rw [a5]; exact hko.2.1, a1 hko.2.2⟩
      have a4' : 1 + ((setL ks j s').map (sz d)).sum = 1 + (ks.map (sz d)).sum := by rw [a4]
      rcases hnm with ⟨rfl, rfl⟩ | ⟨rfl, rfl⟩
      · exact q (.ref t) (.all (setL ks j s')) _ ⟨t, p4, _, rfl, upd_same, e4, pg10⟩ ⟨okk, a2, a3, a4'⟩ k10.1 k10.2
      · exact q (.ref t) (.best (setL ks j s')) _ ⟨t, p4, _, rfl, upd_same, e4, pg10⟩ ⟨okk, a2, a3, a4'⟩ k10.1 k10.2
  · have ea := W.at_
    refine in2 (K := K) (bb := false) rfl ea W.ab _ fun H1 s1 => iteF ⟨_, rfl, 1, rfl, a, _, -1, u, rfl, rfl, SqT.of (s1 _ _ ea), last_at W.pl, (by show 1 ≤ sizeLine; decide), fun kd hkd => ?_⟩
    have k1 : BK b l H _ := (BK.refl B).same (s1.trans (Same.new (o := .lst [u]) hkd))
    have hkdb : kd ∉ [b, l] := (B.same s1).nin hkd
    have ekd : upd H1 kd (.lst [u]) kd = some (.lst [u]) := upd_same
    generalize upd H1 kd (.lst [u]) = H1' at *
    dsimp only [gName]
    refine cond_ev (K := K) rfl rfl (k1.tup B _ _ ea) k1.1 _ fun bb H2 k2 hb => ?_
    have k12 := k1.trans k2
    cases bb with
    | false =>
      refine iteF ?_
      dsimp only [tNext]
      have ekd2 := k2.2 _ _ ekd hkdb
      refine ⟨_, rfl, _, rfl, kd, _, rfl, .inl (SqL.of ekd2), b, l, _, rfl, (by show (0 : Int) < 1; decide), (by show (1 : Int) < 1073741824; decide), k2.1, fun r H3 r0 r1 B3 kk3 => ?_⟩
      have k3 : BK b l H H3 := k12.trans ⟨B3, kk3⟩
      obtain rfl : r = 0 := by
        have : r < 1 := r1
        omega
      dsimp only [gName]
      refine ⟨_, rfl, _, rfl, _, rfl, kd, [u], _, u, rfl, rfl, SqL.of (kk3 _ _ ekd2 hkdb), at0, _, rfl, b, l, L, u, F, sk, rfl, B3, nb, nl, k3.2 _ _ eL (nin ⟨nb, nl⟩), w1, l0, l1, SAt.keep (k3.tup B) _ _ _ W.kid, W.ok, fun v' s' H4 hs' ha B4 kk4 => ?_⟩
      have k4 : BK b l H H4 := k3.trans ⟨B4, kk4⟩
      dsimp only [gName]
      refine in2 (K := K) (bb := false) rfl (k4.tup B _ _ ea) W.ab _ fun H5 s5 => iteF ?_
      have k5 := k4.same s5
      dsimp only [tNext]
      refine ⟨_, rfl, 1, rfl, -1, rfl, sl_any (k5.tup B _ _ ea) fun p1 H6 s6 e6 => ⟨_, rfl, (by show 1 ≤ sizeLine; decide), fun t1 ht1 => cat_any (Same.new ht1 _ _ e6) upd_same ?_ fun p2 H7 s7 e7 => ?_⟩⟩
      · rw [cut_last W.pl]
        have := W.pl
        show pre.length + 1 + 1 ≤ 1000
        omega
      rw [cut_last W.pl] at e7
      have s67 := s6.trans ((Same.new (o := .tup [v']) ht1).trans s7)
      have k7 := k5.same s67
      exact q (.ref p2) (mk s') H7 (W.new H7 p2 v' s' e7 (SAt.keep (Same.tupK (s5.trans s67)) _ _ _ hs')) (W.alt s' ha) k7.1 k7.2
    | true =>
      have hu : ∀ {H'}, BK b l H H' → SAt H' d sk u := fun k => SAt.keep (k.tup B) _ _ _ W.kid
      rcases hk with ⟨rfl, n, rfl, rfl⟩ | hk | hk | hk | hk | ⟨rfl, x, p, rfl, rfl⟩
      · refine iteT (in2 (K := K) (bb := false) rfl (k12.tup B _ _ ea) (by decide +kernel) _ fun H3 s3 => iteF ?_)
        have k3 := k12.same s3
        refine in2 (K := K) (bb := false) rfl (k3.tup B _ _ ea) (by decide +kernel) _ fun H4 s4 => iteF ?_
        have k4 := k3.same s4
        dsimp only [tNext]
        refine seq_if (b := true) (fun Q q => ⟨_, rfl, a, _, 0, .str "most", rfl, rfl, SqT.of (k4.tup B _ _ ea), at0, rfl, _, rfl, by rw [dec_str]; exact q⟩) (fun _ => ?_) (fun z => nomatch z)
        refine take_ev rfl k4.1 (by decide) (by decide) _ fun r H5 r0 r1 k5' => ?_
        have k5 := k4.trans k5'
        refine ⟨_, rfl, a, _, 2, u, rfl, rfl, SqT.of (k5.tup B _ _ ea), at2, (by show 3 ≤ sizeLine; decide), fun t ht => ?_⟩
        have k6 := k5.same (Same.new (o := .tup [.str "most", .int r, u]) ht)
        exact q (.ref t) (.most r sk) _ ⟨t, u, rfl, upd_same, hu k6⟩ ⟨⟨⟨r0, by omega⟩, W.ok⟩, fun _ => rfl, fun _ => rfl, rfl⟩ k6.1 k6.2
      · obtain ⟨rfl, rfl, rfl⟩ := hk
        refine iteT (in2 (K := K) (bb := false) rfl (k12.tup B _ _ ea) (by decide +kernel) _ fun H3 s3 => iteF ?_)
        have k3 := k12.same s3
        refine in2 (K := K) (bb := false) rfl (k3.tup B _ _ ea) (by decide +kernel) _ fun H4 s4 => iteF ?_
        have k4 := k3.same s4
        dsimp only [tNext]
        refine seq_if (b := false) (fun Q q => ⟨_, rfl, a, _, 0, .str "half", rfl, rfl, SqT.of (k4.tup B _ _ ea), at0, rfl, _, rfl, by rw [dec_str]; exact q⟩) (fun z => nomatch z) (fun _ => ?_)
        refine in2 (K := K) (bb := false) rfl (k4.tup B _ _ ea) (by decide +kernel) _ fun H5 s5 => iteF ?_
        have k5 := k4.same s5
        dsimp only [tNext]
        refine ⟨_, rfl, a, _, 0, .str "half", rfl, rfl, SqT.of (k5.tup B _ _ ea), at0, rfl, _, rfl, ?_⟩
        rw [dec_str, show (("half" : Str) == "use") = false by decide +kernel]
        refine iteT ?_
        refine pick2_ev (K := K) rfl k5.1 _ fun z H6 hz k6 => ?_
        have k56 := k5.trans k6
        refine ⟨_, rfl, a, _, 1, u, rfl, rfl, SqT.of (k56.tup B _ _ ea), at1, sz2, fun t ht => ?_⟩
        have k7 := k56.same (Same.new (o := .tup [.str z, u]) ht)
        rcases hz with rfl | rfl
        · exact q (.ref t) (.half sk) _ ⟨t, u, rfl, upd_same, hu k7⟩ ⟨W.ok, fun _ => rfl, fun _ => rfl, rfl⟩ k7.1 k7.2
        · exact q (.ref t) (.carry sk) _ ⟨t, u, rfl, upd_same, hu k7⟩ ⟨W.ok, fun _ => rfl, fun _ => rfl, rfl⟩ k7.1 k7.2
      · obtain ⟨rfl, rfl, rfl⟩ := hk
        refine iteT (in2 (K := K) (bb := false) rfl (k12.tup B _ _ ea) (by decide +kernel) _ fun H3 s3 => iteF ?_)
        have k3 := k12.same s3
        refine in2 (K := K) (bb := false) rfl (k3.tup B _ _ ea) (by decide +kernel) _ fun H4 s4 => iteF ?_
        have k4 := k3.same s4
        dsimp only [tNext]
        refine seq_if (b := false) (fun Q q => ⟨_, rfl, a, _, 0, .str "carry", rfl, rfl, SqT.of (k4.tup B _ _ ea), at0, rfl, _, rfl, by rw [dec_str]; exact q⟩) (fun z => nomatch z) (fun _ => ?_)
        refine in2 (K := K) (bb := false) rfl (k4.tup B _ _ ea) (by decide +kernel) _ fun H5 s5 => iteF ?_
        have k5 := k4.same s5
        dsimp only [tNext]
        refine ⟨_, rfl, a, _, 0, .str "carry", rfl, rfl, SqT.of (k5.tup B _ _ ea), at0, rfl, _, rfl, ?_⟩
        rw [dec_str, show (("carry" : Str) == "use") = false by decide +kernel]
        refine iteT ?_
        refine pick2_ev (K := K) rfl k5.1 _ fun z H6 hz k6 => ?_
        have k56 := k5.trans k6
        refine ⟨_, rfl, a, _, 1, u, rfl, rfl, SqT.of (k56.tup B _ _ ea), at1, sz2, fun t ht => ?_⟩
        have k7 := k56.same (Same.new (o := .tup [.str z, u]) ht)
        rcases hz with rfl | rfl
        · exact q (.ref t) (.half sk) _ ⟨t, u, rfl, upd_same, hu k7⟩ ⟨W.ok, fun _ => rfl, fun _ => rfl, rfl⟩ k7.1 k7.2
        · exact q (.ref t) (.carry sk) _ ⟨t, u, rfl, upd_same, hu k7⟩ ⟨W.ok, fun _ => rfl, fun _ => rfl, rfl⟩ k7.1 k7.2
      · obtain ⟨rfl, x, rfl, rfl⟩ := hk
        refine iteT (in2 (K := K) (bb := false) rfl (k12.tup B _ _ ea) (by decide +kernel) _ fun H3 s3 => iteF ?_)
        have k3 := k12.same s3
        refine in2 (K := K) (bb := true) rfl (k3.tup B _ _ ea) (by decide +kernel) _ fun H4 s4 => iteT ?_
        have k4 := k3.same s4
        refine pick2_ev (K := K) rfl k4.1 _ fun z H6 hz k6 => ?_
        have k5 := k4.trans k6
        refine letter_ev (K := K) rfl rfl k5.1 nb nl (k5.2 _ _ eL (nin ⟨nb, nl⟩)) w1 l0 l1 (lenT rfl (k5.2 _ _ eL (nin ⟨nb, nl⟩))) _ fun y H7 hy k7 => ?_
        have k57 := k5.trans k7
        refine ⟨_, rfl, a, _, 2, u, rfl, rfl, SqT.of (k57.tup B _ _ ea), at2, (by show 3 ≤ sizeLine; decide), fun t ht => ?_⟩
        have k8 := k57.same (Same.new (o := .tup [.str z, .str y, u]) ht)
        rcases hz with rfl | rfl
        · exact q (.ref t) (.seen y sk) _ ⟨t, u, rfl, upd_same, hu k8⟩ ⟨⟨hy, W.ok⟩, fun _ => rfl, fun _ => rfl, rfl⟩ k8.1 k8.2
        · exact q (.ref t) (.behind y sk) _ ⟨t, u, rfl, upd_same, hu k8⟩ ⟨⟨hy, W.ok⟩, fun _ => rfl, fun _ => rfl, rfl⟩ k8.1 k8.2
      · obtain ⟨rfl, x, rfl, rfl⟩ := hk
        refine iteT (in2 (K := K) (bb := false) rfl (k12.tup B _ _ ea) (by decide +kernel) _ fun H3 s3 => iteF ?_)
        have k3 := k12.same s3
        refine in2 (K := K) (bb := true) rfl (k3.tup B _ _ ea) (by decide +kernel) _ fun H4 s4 => iteT ?_
        have k4 := k3.same s4
        refine pick2_ev (K := K) rfl k4.1 _ fun z H6 hz k6 => ?_
        have k5 := k4.trans k6
        refine letter_ev (K := K) rfl rfl k5.1 nb nl (k5.2 _ _ eL (nin ⟨nb, nl⟩)) w1 l0 l1 (lenT rfl (k5.2 _ _ eL (nin ⟨nb, nl⟩))) _ fun y H7 hy k7 => ?_
        have k57 := k5.trans k7
        refine ⟨_, rfl, a, _, 2, u, rfl, rfl, SqT.of (k57.tup B _ _ ea), at2, (by show 3 ≤ sizeLine; decide), fun t ht => ?_⟩
        have k8 := k57.same (Same.new (o := .tup [.str z, .str y, u]) ht)
        rcases hz with rfl | rfl
        · exact q (.ref t) (.seen y sk) _ ⟨t, u, rfl, upd_same, hu k8⟩ ⟨⟨hy, W.ok⟩, fun _ => rfl, fun _ => rfl, rfl⟩ k8.1 k8.2
        · exact q (.ref t) (.behind y sk) _ ⟨t, u, rfl, upd_same, hu k8⟩ ⟨⟨hy, W.ok⟩, fun _ => rfl, fun _ => rfl, rfl⟩ k8.1 k8.2
      · refine iteT (in2 (K := K) (bb := true) rfl (k12.tup B _ _ ea) (by decide +kernel) _ fun H3 s3 => iteT ?_)
        have k3 := k12.same s3
        refine ⟨_, rfl, a, _, 0, .str "end", rfl, rfl, SqT.of (k3.tup B _ _ ea), at0, ?_⟩
        refine letter_ev (K := K) rfl rfl k3.1 nb nl (k3.2 _ _ eL (nin ⟨nb, nl⟩)) w1 l0 l1 (lenT rfl (k3.2 _ _ eL (nin ⟨nb, nl⟩))) _ fun y H4 hy k4 => ?_
        have k4' := k3.trans k4
        refine take_ev rfl k4'.1 (by decide) (by decide) _ fun r H5 r0 r1 k5 => ?_
        have k5' := k4'.trans k5
        refine ⟨_, _, rfl, rfl, (by show 3 ≤ sizeLine; decide), fun t ht => ?_⟩
        have k6 := k5'.same (Same.new (o := .tup [.str "end", .str y, .int (1 + r)]) ht)
        refine ⟨_, rfl, 3, rfl, ?_⟩
        dsimp only [tNoPart]
        refine sl_any (k6.tup B _ _ ea) fun pe H6 s6 e6 => cat_any (s6 _ _ upd_same) e6 (Nat.le_of_ble_eq_true rfl) fun pf H7 s7 e7 => ?_
        have k7 := (k6.same s6).same s7
        exact q (.ref pf) (.fin y (1 + r) sk) H7 ⟨pf, u, rfl, e7, hu k7⟩ ⟨⟨⟨hy, by omega, by omega⟩, W.ok⟩, fun _ => rfl, fun _ => rfl, rfl⟩ k7.1 k7.2
theorem ok_turned {i M : Nat} (ml : mg "len" = none) (mli : mg "list" = none) (D : Def K mg "_law_turned" s_L_turned psTurned) (DT : Def K mg "_law_take" s_L_take ["_law_box", "_law_many"]) : ∀ d, FnOk P w K mg base CX0 (d + 1) D.f D.fd psTurned (spTurned i M d)
  | 0 => by
    have e : spTurned i M 0 = fun _ _ _ _ => False := by
      funext vs H Q E
      refine propext ⟨fun h => ?_, fun h => h.elim⟩
      obtain ⟨_, _, _, _, _, _, _, _, _, _, _, _, _, _, z, _⟩ := h
      exact z
    rw [e]
    exact no_sp
  | d + 1 => turned_turn ml mli D DT (ok_turned ml mli D DT d)
def spTurnedA : Sp := fun vs H Q E => ∃ x : Nat × Nat, spTurned x.1 x.2 5 vs H Q E
theorem ok_turnedA (ml : mg "len" = none) (mli : mg "list" = none) (D : Def K mg "_law_turned" s_L_turned psTurned) (DT : Def K mg "_law_take" s_L_take ["_law_box", "_law_many"]) : FnOk P w K mg base CX0 6 D.f D.fd psTurned spTurnedA := fn_any fun x => ok_turned ml mli D DT 5
end
end MS
end
section
set_option maxRecDepth 100000
set_option maxHeartbeats 4000000
namespace MS
open PySem L2
open HeY LamX
/-! ### what is told of a call -/
abbrev s_L_told : Stmt := topS 56
abbrev nmTold : List Str := ["_law_work_here", "e", "_law_kinds", "_law_word"]
theorem sc_L_told : FnScope nmTold ["_law_work_here"] (defScope s_L_told) := ⟨rfl, rfl, rfl, by decide +kernel, rfl, by decide +kernel, by decide +kernel⟩
def errNames : List Str := ["BadPaper", "BadWork", "BadStep", "BadCount", "NoWork", "BadText"]
def errNm (i : Nat) : Str := errNames.getD i ""
structure ErrF (K : PySem.W.Frag) (mg : Str → Option Value) where
  A : Nat → Addr
  CM : Addr
  gP : mg "BadPaper" = some (.ref (A 0))
  gW : mg "BadWork" = some (.ref (A 1))
  gS : mg "BadStep" = some (.ref (A 2))
  gC : mg "BadCount" = some (.ref (A 3))
  gN : mg "NoWork" = some (.ref (A 4))
  gT : mg "BadText" = some (.ref (A 5))
  gM : mg "MarkError" = some (.ref CM)
  ve : mg "ValueError" = none
  isi : mg "isinstance" = none
  ex : ∀ i, i < 6 → ExcC K (A i)
  kit : ∀ i j, i < 6 → j < 6 → PySem.W.kitOne K (.ref (A i)) (.ref (A j)) = some (decide (i = j))
  kv : ∀ i, i < 6 → PySem.W.kitOne K (.ref (A i)) (.type "ValueError") = some true
  exm : ∀ i, i < 6 → PySem.W.exmOne K (.ref (A i)) (.ref CM) = some true
  xf : ∀ i, i < 6 → XfC K (A i)
  no0 : PySem.W.findIn K (.ref (A 0)) "scheme" = some none
  no1 : PySem.W.findIn K (.ref (A 0)) "place" = some none
  no2 : PySem.W.findIn K (.ref (A 1)) "number" = some none
  no3 : PySem.W.findIn K (.ref (A 5)) "place" = some none
/-- what stands in the error -/
def Pay (i : Nat) (d : Option Addr) (H : Hp) (vals : List V) : Prop := match i with
  | 0 => ∃ dd fs v1 v2, d = some dd ∧ H dd = some (.xd fs) ∧ fs.lookup ("scheme" : Str) = some v1 ∧ fs.lookup ("place" : Str) = some v2 ∧ vals = [v1, v2]
  | 1 => ∃ dd fs v, d = some dd ∧ H dd = some (.xd fs) ∧ fs.lookup ("number" : Str) = some v ∧ vals = [v]
  | 5 => ∃ dd fs v, d = some dd ∧ H dd = some (.xd fs) ∧ fs.lookup ("place" : Str) = some v ∧ vals = [v]
  | _ => XEU.DictAt d H ∧ vals = [.int 0]
theorem Pay.dict {i : Nat} {d : Option Addr} {H : Hp} {vals : List V} (h : Pay i d H vals) : XEU.DictAt d H := by
  unfold Pay at h
  split at h
  · obtain ⟨dd, fs, v1, v2, e1, e2, _⟩ := h
    exact .inr ⟨dd, fs, e1, e2⟩
  · obtain ⟨dd, fs, v, e1, e2, _⟩ := h
    exact .inr ⟨dd, fs, e1, e2⟩
  · obtain ⟨dd, fs, v, e1, e2, _⟩ := h
    exact .inr ⟨dd, fs, e1, e2⟩
  · exact h.1
theorem dict_keep {d : Option Addr} {H H' : Hp} (h : XEU.DictAt d H) (s : Same H H') : XEU.DictAt d H' := by
  rcases h with h | ⟨dd, fs, e1, e2⟩
  · exact .inl h
  · exact .inr ⟨dd, fs, e1, s _ _ e2⟩
theorem Pay.keep {i : Nat} {d : Option Addr} {H H' : Hp} {vals : List V} (h : Pay i d H vals) (s : Same H H') : Pay i d H' vals := by
  unfold Pay at h ⊢
  split at h
  · obtain ⟨dd, fs, v1, v2, e1, e2, h⟩ := h
    exact ⟨dd, fs, v1, v2, e1, s _ _ e2, h⟩
  · obtain ⟨dd, fs, v, e1, e2, h⟩ := h
    exact ⟨dd, fs, v, e1, s _ _ e2, h⟩
  · obtain ⟨dd, fs, v, e1, e2, h⟩ := h
    exact ⟨dd, fs, v, e1, s _ _ e2, h⟩
  · exact ⟨dict_keep h.1 s, h.2⟩
section
variable {K : PySem.W.Frag} {mg : Str → Option Value}
def ToldE (F : ErrF K mg) (Q : VK) : XK := fun cls d H => ∃ (i : Nat) (vals : List V), i < 6 ∧ cls = .ref (F.A i) ∧ Pay i d H vals ∧ ∀ (t : Addr) (H' : Hp), Same H H' → H t = none → H' t = some (.tup (.str (errNm i) :: vals)) → Q (.ref t) H'
def TTd (F : ErrF K mg) : (XK → Hp → VK → Prop) → Hp → VK → Prop := fun tl H Q => tl (ToldE F Q) H Q
theorem cnt1 : ∀ i : Nat, i < 6 → (([decide (i = 0), decide (i = 1), decide (i = 2), decide (i = 3), decide (i = 4), decide (i = 5)].map V.bl).countP fun z => eqV z (.bl true)) = 1 := by decide
theorem idx1 : ∀ i : Nat, i < 6 → ([decide (i = 0), decide (i = 1), decide (i = 2), decide (i = 3), decide (i = 4), decide (i = 5)].map V.bl)[i]? = some (.bl true) ∧ ∀ m : Nat, m < i → ∀ z, ([decide (i = 0), decide (i = 1), decide (i = 2), decide (i = 3), decide (i = 4), decide (i = 5)].map V.bl)[m]? = some z → eqV z (.bl true) = false := by
  intro i hi
  have e : i = 0 ∨ i = 1 ∨ i = 2 ∨ i = 3 ∨ i = 4 ∨ i = 5 := by omega
  rcases e with rfl | rfl | rfl | rfl | rfl | rfl <;> refine ⟨rfl, fun m hm z hz => ?_⟩
  · omega
  · obtain rfl : m = 0 := by omega
    cases hz; rfl
  · have e : m = 0 ∨ m = 1 := by omega
    rcases e with rfl | rfl <;> (cases hz; rfl)
  · have e : m = 0 ∨ m = 1 ∨ m = 2 := by omega
    rcases e with rfl | rfl | rfl <;> (cases hz; rfl)
  · have e : m = 0 ∨ m = 1 ∨ m = 2 ∨ m = 3 := by omega
    rcases e with rfl | rfl | rfl | rfl <;> (cases hz; rfl)
  · have e : m = 0 ∨ m = 1 ∨ m = 2 ∨ m = 3 ∨ m = 4 := by omega
    rcases e with rfl | rfl | rfl | rfl | rfl <;> (cases hz; rfl)
theorem told_gives {X : Cx} {q : Str} {g : Addr} {cdg : Value} (F : ErrF X.K X.mg) : LamX.GivesTo X nmTold "_law_told" (defScope s_L_told) g cdg (defBody s_L_told) "_law_work_here" q (TTd F) := by
  intro f c' s H Q tl act hc h
  have nd := sc_L_told.nd
  let Z : Cx := (cxOf C8.CX0 X.prog X.w X.K X.mg X.base nmTold "_law_told" (defScope s_L_told) g cdg X.A X.stack s H C8.E0).nox
  refine ⟨_, pss_one (L2.ps_try_as (X := Z) (c := .ref F.CM) (i := 1) (Wout := fun _ _ _ _ => False)
      (tb := fun W D σ H => ∃ Ech : XK, (∀ cls d σ' H', σ'.length = 4 → Ech cls d H' → W cls d σ' H') ∧ σ[0]? = some (some (.ref f)) ∧ H c' = some (LamX.CodeO c' q) ∧ tl Ech H D.rt)
      rfl rfl nd rfl rfl ⟨rfl, by decide, .inl F.gM⟩ LamX.takes0 (fun W pn xe tk _ => ?_) (fun a oe cls d pn hz hf =>
        pss_cons (ps_set (i := 2) nd rfl (Or.inl rfl) (pe_lst (pa_cons (pe_callB (XEU.call_isE hz hf) rfl F.isi (by decide +kernel) (pa_cons (pv 1) (pa_cons (pe_glob rfl F.gP (v := .ref (F.A 0)) rfl) pa_nil))) (pa_cons (pe_callB (XEU.call_isE hz hf) rfl F.isi (by decide +kernel) (pa_cons (pv 1) (pa_cons (pe_glob rfl F.gW (v := .ref (F.A 1)) rfl) pa_nil)))
            (pa_cons (pe_callB (XEU.call_isE hz hf) rfl F.isi (by decide +kernel) (pa_cons (pv 1) (pa_cons (pe_glob rfl F.gS (v := .ref (F.A 2)) rfl) pa_nil))) (pa_cons (pe_callB (XEU.call_isE hz hf) rfl F.isi (by decide +kernel) (pa_cons (pv 1) (pa_cons (pe_glob rfl F.gC (v := .ref (F.A 3)) rfl) pa_nil))) pa_nil))))))
        (pss_cons (ps_set (i := 2) nd rfl (Or.inl rfl) (pe_op op_cat (pv 2) (pe_lst (pa_cons (pe_callB (XEU.call_isE hz hf) rfl F.isi (by decide +kernel) (pa_cons (pv 1) (pa_cons (pe_glob rfl F.gN (v := .ref (F.A 4)) rfl) pa_nil))) (pa_cons (pe_callB (XEU.call_isE hz hf) rfl F.isi (by decide +kernel) (pa_cons (pv 1) (pa_cons (pe_glob rfl F.gT (v := .ref (F.A 5)) rfl) pa_nil))) pa_nil)))))
        (pss_cons (ps_if (PW.pt (pw_or (pt_cmpR op_ne (show PE (Z.suite a ((a, oe) :: pn)) _ (tBM X.K "list" (XEU.rCountF X.K) (tVar 2) (tCons (tC (.bl true)) tNil)) from pe_bm PySem.F.plainAttrs_list PySem.F.slot_list_count PySem.F.type_list_count XEU.mt_countF (pv 2) (pa_cons pe_bl pa_nil)) pe_int (nomark _)) (pw_or1 (pt_not (pt_val (pe_callB (XEU.call_isE hz hf) rfl F.isi (by decide +kernel) (pa_cons (pv 1) (pa_cons (pe_bltn rfl F.ve (by decide +kernel) (v := .ty "ValueError") rfl) pa_nil)))))))) (pss_one (ps_ret (pe_tup (pa_cons pe_str (pa_cons pe_int pa_nil))))) pss_nil)
        (pss_cons (ps_set (i := 3) nd rfl (Or.inl rfl) (pe_ix (r := rIxL X.K) ix_list (pe_lst (pa_cons pe_str (pa_cons pe_str (pa_cons pe_str (pa_cons pe_str (pa_cons pe_str (pa_cons pe_str pa_nil))))))) (show PE (Z.suite a ((a, oe) :: pn)) _ (tBM X.K "list" (rIndex X.K) (tVar 2) (tCons (tC (.bl true)) tNil)) from pe_bm PySem.F.plainAttrs_list PySem.F.slot_list_index PySem.F.type_list_index mt_index (pv 2) (pa_cons pe_bl pa_nil)) (fun _ _ => rfl)))
        (pss_cons (ps_if (pt_cmpR op_eq (pv 3) pe_str (nomark _)) (pss_one (ps_ret (pe_tup (pa_cons (pv 3) (pa_cons (pe_xf (F.xf 0 (by decide)) F.no0 hz hf (pv 1)) (pa_cons (pe_xf (F.xf 0 (by decide)) F.no1 hz hf (pv 1)) pa_nil)))))) pss_nil)
        (pss_one (ps_ret (pe_tup (pa_cons (pv 3) (pa_cons (pe_ifExp (pt_cmpR op_eq (pv 3) pe_str (nomark _)) (pe_xf (F.xf 1 (by decide)) F.no2 hz hf (pv 1)) (pe_ifExp (pt_cmpR op_eq (pv 3) pe_str (nomark _)) (pe_xf (F.xf 5 (by decide)) F.no3 hz hf (pv 1)) pe_int)) pa_nil))))))))))), ?_⟩
  · refine ⟨fun pins s' σ H' D I h' => ?_⟩
    obtain ⟨Ech, hW, h1, h2, h3⟩ := h'
    have tk2 : L2.Takes (Z.tr pn xe) (fun cls d σ' H' => σ'.length = 4 → W cls d σ' H') := fun u s' ⟨a, B, sI, pins, σ, H, cls, d, e, I, nb, up, sky, na, os, ag, w⟩ => tk u s' ⟨a, B, sI, pins, σ, H, cls, d, e, I, nb, up, sky, na, os, ag, w I.len⟩
    exact (pss_one (ps_ret (act _ pn xe Ech _ _ tk2 (fun cls d σ' H' hE hl => hW cls d σ' H' hl hE)))).run pins s' σ H' D I ⟨h1, h2, h3⟩
  · refine ⟨ToldE F Q, fun cls d σ' H1 hl hE => ?_, rfl, hc, h⟩
    obtain ⟨i, vals, hi, rfl, hp, hq⟩ := hE
    refine ⟨true, F.exm i hi, fun _ a ha => ?_, fun z => nomatch z⟩
    obtain ⟨s0, s1, s2, s3, rfl⟩ : ∃ s0 s1 s2 s3, σ' = [s0, s1, s2, s3] := by
      match σ', hl with
      | [s0, s1, s2, s3], _ => exact ⟨s0, s1, s2, s3, rfl⟩
    have isE : ∀ {x2 x3 : Option V} {j : Nat} {H2 : Hp} {Q2 : VK}, j < 6 → Same H1 H2 → Q2 (.bl (decide (i = j))) H2 → tCB (XEU.rIsE X.K (.ref (F.A i)) d a) (tCons (tVar 1) (tCons (tC (.ref (F.A j))) tNil)) [s0, some (.ref a), x2, x3] H2 Q2 := fun {x2 x3 j H2 Q2} hj s2 q2 =>
      ⟨_, rfl, F.A i, .ref (F.A j), .ref (F.A j), _, rfl, F.ex i hi, rfl, fun u hu => hu, F.kit i j hi hj, dict_keep hp.dict s2, q2⟩
    refine isE (by decide) (Same.refl _) (isE (by decide) (Same.refl _) (isE (by decide) (Same.refl _) (isE (by decide) (Same.refl _) ⟨(by show 4 ≤ sizeLine; decide), fun L1 h1 => ?_⟩)))
    have k1 : Same H1 (upd H1 L1 (.lst [.bl (decide (i = 0)), .bl (decide (i = 1)), .bl (decide (i = 2)), .bl (decide (i = 3))])) := Same.new h1
    dsimp only [gName]
    refine ⟨_, rfl, isE (by decide) k1 (isE (by decide) k1 ⟨(by show 2 ≤ sizeLine; decide), fun L2 h2 => ?_⟩)⟩
    have k2 := k1.trans (Same.new (o := .lst [.bl (decide (i = 4)), .bl (decide (i = 5))]) h2)
    refine ⟨L1, L2, _, _, rfl, rfl, Same.new h2 _ _ upd_same, upd_same, (by show 6 ≤ sizeLine; decide), fun L3 h3 => ?_⟩
    let ks : List V := [decide (i = 0), decide (i = 1), decide (i = 2), decide (i = 3), decide (i = 4), decide (i = 5)].map V.bl
    have k3 := k2.trans (Same.new (o := .lst ks) h3)
    dsimp only [gName]
    have hflat : ks.all flatV = true := rfl
    refine seq_if (b := false || false) (ev_or (b := false) (c := false) (fun Q q => ⟨_, rfl, .inl ⟨rfl, _, SqL.of upd_same⟩, L3, ks, .bl true, rfl, rfl, SqL.of upd_same, rfl, hflat, rfl, _, rfl, ?_⟩) (fun Q q => ⟨_, rfl, F.A i, .ty "ValueError", .type "ValueError", true, rfl, F.ex i hi, rfl, fun u hu => hu, F.kv i hi, dict_keep hp.dict k3, _, rfl, q⟩)) (fun z => nomatch z) (fun _ => ?_)
    · have e : (ks.countP fun z => eqV z (.bl true)) = 1 := cnt1 i hi
      rw [e]
      exact q
    have p3 := hp.keep k3
    have hidx := idx1 i hi
    have hnm : atI (errNames.map V.str) (i : Int) = some (.str (errNm i)) := by
      have h1 : i < errNames.length := hi
      refine atI_nat ?_
      rw [List.getElem?_map, List.getElem?_eq_getElem h1]
      unfold errNm
      rw [List.getD_eq_getElem?_getD, List.getElem?_eq_getElem h1]
      rfl
    refine ⟨(by show 6 ≤ sizeLine; decide), fun L4 h4 => ?_⟩
    have k4 := k3.trans (Same.new (o := .lst (errNames.map V.str)) h4)
    refine ⟨_, rfl, .inl ⟨rfl, _, SqL.of (Same.new h4 _ _ upd_same)⟩, L3, ks, .bl true, i, .bl true, rfl, rfl, SqL.of (Same.new h4 _ _ upd_same), rfl, hflat, hidx.1, rfl, (fun m z h1 h2 => hidx.2 m h1 z h2), ?_⟩
    refine ⟨L4, _, _, _, rfl, rfl, SqL.of upd_same, hnm, ?_⟩
    dsimp only [gName]
    let H4 : Hp := upd (upd (upd (upd H1 L1 (.lst [.bl (decide (i = 0)), .bl (decide (i = 1)), .bl (decide (i = 2)), .bl (decide (i = 3))])) L2 (.lst [.bl (decide (i = 4)), .bl (decide (i = 5))])) L3 (.lst ks)) L4 (.lst (errNames.map V.str))
    have k4 : Same H1 H4 := k4
    have p4 : Pay i d H4 vals := hp.keep k4
    have fin : ∀ (t : Addr) (o : HO), H4 t = none → o = .tup (.str (errNm i) :: vals) → Q (.ref t) (upd H4 t o) := fun t o ht e => hq t _ (k4.trans (Same.new ht)) (k4.free ht) (by rw [upd_same, e])
    have ite : i = 0 ∨ i = 1 ∨ i = 5 ∨ (i = 2 ∨ i = 3 ∨ i = 4) := by omega
    rcases ite with rfl | rfl | rfl | i3
    · obtain ⟨dd, fs, v1, v2, rfl, e2, e3, e4, rfl⟩ := p4
      refine seq_if (b := true) (fun Q q => ⟨_, rfl, rfl, _, rfl, by rw [dec_str]; exact q⟩) (fun _ => ?_) (fun z => nomatch z)
      exact ⟨_, rfl, _, rfl, rfl, rfl, dd, fs, v1, rfl, e2, e3, _, rfl, rfl, rfl, dd, fs, v2, rfl, e2, e4, (by show 3 ≤ sizeLine; decide), fun t ht => fin t _ ht rfl⟩
    · obtain ⟨dd, fs, v, rfl, e2, e3, rfl⟩ := p4
      refine seq_if (b := false) (fun Q q => ⟨_, rfl, rfl, _, rfl, by rw [dec_str]; exact q⟩) (fun z => nomatch z) (fun _ => ?_)
      refine ⟨_, rfl, _, rfl, rfl, _, rfl, ?_⟩
      exact iteT ⟨_, rfl, rfl, rfl, dd, fs, v, rfl, e2, e3, (by show 2 ≤ sizeLine; decide), fun t ht => fin t _ ht rfl⟩
    · obtain ⟨dd, fs, v, rfl, e2, e3, rfl⟩ := p4
      refine seq_if (b := false) (fun Q q => ⟨_, rfl, rfl, _, rfl, by rw [dec_str]; exact q⟩) (fun z => nomatch z) (fun _ => ?_)
      refine ⟨_, rfl, _, rfl, rfl, _, rfl, ?_⟩
      refine iteF ⟨_, rfl, rfl, _, rfl, ?_⟩
      exact iteT ⟨_, rfl, rfl, rfl, dd, fs, v, rfl, e2, e3, (by show 2 ≤ sizeLine; decide), fun t ht => fin t _ ht rfl⟩
    · have hv : vals = [.int 0] := by
        rcases i3 with rfl | rfl | rfl <;> exact p4.2
      subst hv
      have n1 : (errNm i == "BadPaper") = false ∧ (errNm i == "BadWork") = false ∧ (errNm i == "BadText") = false := by
        rcases i3 with rfl | rfl | rfl <;> decide +kernel
      refine seq_if (b := false) (fun Q q => ⟨_, rfl, rfl, _, rfl, by rw [dec_str, n1.1]; exact q⟩) (fun z => nomatch z) (fun _ => ?_)
      refine ⟨_, rfl, _, rfl, rfl, _, rfl, ?_⟩
      rw [dec_str, n1.2.1]
      refine iteF ⟨_, rfl, rfl, _, rfl, ?_⟩
      rw [dec_str, n1.2.2]
      exact iteF ⟨(by show 2 ≤ sizeLine; decide), fun t ht => fin t _ ht rfl⟩
end
/-- what the def's code object is -/
def CodeAt (K : PySem.W.Frag) (f c : Addr) : Prop := ∀ oc od fd osl c', K.lookup f = some ⟨oc, od, .func fd, osl⟩ → fd.code = .ref c' → c' = c
section
variable {P : Program} {w : World} {K : PySem.W.Frag} {mg : Str → Option Value} {base : Heap}
theorem Def.okC {x : Str} {st : Stmt} {ps N : List Str} {k : Nat} {sp : Sp} {c : Addr} (D : Def K mg x st ps) (hc : CodeAt K D.f c) (S : FnScope N ps (defScope st)) (len : ∀ vs H Q E, sp vs H Q E → vs.length = ps.length)
    (hbody : ∀ (A : Around) (outer : List Env) (s : Shared) (H : Hp) (vs : List V) (Q : VK) (E : XK), Room k (A.deeper (PyProof.Rows.envOfC x (defScope st) s.heap.objs.size D.f (.ref c))) → sp vs H Q E →
      ∃ t, PSs (cxOf CX0 P w K mg base N x (defScope st) D.f (.ref c) A outer s H E).nox (defBody st) t ∧ t { nx := fun _ H' => Q .non H', rt := Q } (start N vs) H) : FnOk P w K mg base CX0 (k + 1) D.f D.fd ps sp := by
  obtain ⟨f, fd, F, g, b⟩ := D
  obtain ⟨oc, od, dV, kV, doc, pm, an, cdv, ct, osl, rfl, lk, hcd, _, _⟩ := F.ex
  obtain ⟨c', rfl⟩ := He.codeIn_ref hcd
  obtain rfl : c' = c := hc _ _ _ _ _ lk rfl
  exact fn_of lk hcd S len fun A outer s H vs Q E hr hsp => by
    obtain ⟨t, h, q⟩ := hbody A outer s H vs Q E hr hsp
    exact ⟨t, h.nox, q⟩
/-- told(lambda: body) -/
theorem pe_told {X : Cx} {T : List (Addr × Str)} {c P : Addr} {k : Nat} {params : Arguments} {body : Expr} {scope : Scope} {t : XK → TE} {p lpos pos : Pos} (F : ErrF X.K X.mg) (D : Def X.K X.mg "_law_told" s_L_told ["_law_work_here"]) (hg : Gl X "_law_told")
    (TB : TabB X.base X.mg c P) (hcode : X.env.code = .ref c) (hmT : (P, X.env.qual ++ "<lambda>") ∈ T) (hu : ∀ p ∈ T, p.1 = P → p.2 = X.env.qual ++ "<lambda>") (hr : Room (k + 2) X.A) (L : LamS X.env.scope scope) (hdef : defaultsOf params X.env = ([], []))
    (hbind : ∀ (q : Str) (cl : List (Str × Addr)) (pm cv ctv : Value), bindArgs (PySem.W.kla_fn "<lambda>" q params body scope cl pm cv ctv) ⟨[], []⟩ = pure [])
    (hbody : ∀ (A : Around) (outer : List Env) (s : Shared) (H : Hp) (E : XK) (f c' : Addr), Room k (A.deeper (lamEnv X scope s.heap.objs.size f c')) → PE (lamCx X A outer s H E scope f c') body (t E)) :
    PE X (.Call (.Name "_law_told" p) [.Lambda params body scope lpos] [] pos) (tLam T (TTd F) t) := by
  obtain ⟨f, fd, FD, g, b⟩ := D
  obtain ⟨oc, od, dV, kV, doc, pm, an, cdv, ct, osl, rfl, lk, hcd, _, _⟩ := FD.ex
  exact pe_lamcall hg g FD.kp lk hcd b sc_L_told rfl (Or.inl rfl) (told_gives F) TB hcode hmT hu hr L hdef hbind hbody
end
theorem lam_passes {X : Cx} {A : Around} {outer : List Env} {s : Shared} {H : Hp} {E : XK} {scope : Scope} {f c' : Addr} : Passes (L2.CX X.prog X.w) (lamCx X A outer s H E scope f c') E := L2.passes_call (L2.takes_of (X := lamCx X A outer s H E scope f c') rfl rfl rfl rfl) (fun _ _ _ _ h => h)
theorem pcall_lam {X : Cx} {A : Around} {outer : List Env} {s : Shared} {H : Hp} {E : XK} {scope : Scope} {f c' : Addr} {x : Str} {st : Stmt} {ps : List Str} {k : Nat} {sp : Sp} {e : Expr} {es : List Expr} {t : TA} {p pos : Pos} (D : Def X.K X.mg x st ps) (G : FnOk X.prog X.w X.K X.mg X.base (L2.CX X.prog X.w) k D.f D.fd ps sp)
    (hr : Room k (A.deeper (lamEnv X scope s.heap.objs.size f c'))) (ha : PA (lamCx X A outer s H E scope f c') (e :: es) t) (hg : scope.names.lookup x = some .globalImplicit) (hdb : (x == ("__debug__" : Str)) = false)
    (he : starEach (e :: es) (lamEnv X scope s.heap.objs.size f c') = (false, eval e (lamEnv X scope s.heap.objs.size f c')) :: starEach es (lamEnv X scope s.heap.objs.size f c')) (hpl : (backTo pos (starEach es (lamEnv X scope s.heap.objs.size f c'))).any (·.1) = false) :
    PE (lamCx X A outer s H E scope f c') (.Call (.Name x p) (e :: es) [] pos) (tCall sp [] E t) := pcallX (X := lamCx X A outer s H E scope f c') (E := E) D G hr (lam_passes (X := X) (A := A) (outer := outer) (s := s) (H := H) (E := E) (scope := scope) (f := f) (c' := c')) ha hg hdb he hpl
theorem pv_lam {X : Cx} {A : Around} {outer : List Env} {s : Shared} {H : Hp} {E : XK} {scope : Scope} {f c' : Addr} {x : Str} {i : Nat} {p : Pos} (hN : X.N[i]? = some x) (hv : scope.names.lookup x = some .free) (hd : (x == ("__debug__" : Str)) = false) (hcd : (x == ("__classdict__" : Str)) = false) : PE (lamCx X A outer s H E scope f c') (.Name x p) (tVar i) := pe_var (X := lamCx X A outer s H E scope f c') hN (.inr (.inr hv)) hd hcd
theorem tabs_keep {T : List (Addr × Str)} {H H' : Hp} {b l : Addr} (t : Tabs T H) (B : Box H b l) (k : Keep [b, l] H H') : Tabs T H' := fun p hp => by
  obtain ⟨_, ⟨n, e1⟩, ns, e2⟩ := B
  obtain ⟨ps, h1, h2, h3⟩ := t p hp
  have go : ∀ {a : Addr} {o : HO}, H a = some o → (∀ xs, o ≠ .lst xs) → H' a = some o := fun {a o} ha hn => k a o ha fun hm => by
    rcases List.mem_cons.mp hm with rfl | hm
    · rw [e1] at ha
      exact hn _ (Option.some.inj ha).symm
    · rw [List.mem_singleton.mp hm, e2] at ha
      exact hn _ (Option.some.inj ha).symm
  refine ⟨ps, go h1 (fun xs z => nomatch z), h2, fun pos cv hc => ?_⟩
  obtain ⟨c, e, h⟩ := h3 pos cv hc
  exact ⟨c, e, go h fun xs z => by unfold CodeO at z; cases z⟩
theorem box_ext {H H' : Hp} {b l : Addr} (B : Box H b l) (e : ExtN H H') : Box H' b l := by
  obtain ⟨ne, ⟨n, e1⟩, ns, e2⟩ := B
  exact ⟨ne, ⟨n, e _ _ e1 fun ps z => nomatch z⟩, ns, e _ _ e2 fun ps z => nomatch z⟩
end MS
end
section
set_option maxRecDepth 100000
set_option maxHeartbeats 4000000
namespace MS
open PySem L2
open HeY LamX
/-! ### all that a heap tells, as it is shown -/
theorem pmeth_lam {X : Cx} {A : Around} {outer : List Env} {s : Shared} {H : Hp} {E : XK} {scope : Scope} {f0 c' C : Addr} {m q : Str} {st : Stmt} {ps : List Str} {k : Nat} {sp : Sp} {o e : Expr} {es : List Expr} {to : TE} {t : TA} {apos pos : Pos} {pl : Sem Bool} (he : PE (lamCx X A outer s H E scope f0 c') o to) (cl : Cls X.K C) (D : DefM X.K C m q st ps) (G : FnOk X.prog X.w X.K X.mg X.base (L2.CX X.prog X.w) k D.f D.fd ps sp)
    (hr : Room k (A.deeper (lamEnv X scope s.heap.objs.size f0 c'))) (ha : PA (lamCx X A outer s H E scope f0 c') (e :: es) t)
    (hst : starEach (e :: es) (lamEnv X scope s.heap.objs.size f0 c') = (false, eval e (lamEnv X scope s.heap.objs.size f0 c')) :: starEach es (lamEnv X scope s.heap.objs.size f0 c')) (hpl : (backTo pos (starEach es (lamEnv X scope s.heap.objs.size f0 c'))).any (·.1) = false)
    (ht : eval (.Call (.Attribute o m apos) (e :: es) [] pos) (lamEnv X scope s.heap.objs.size f0 c') = (do
      let ov ← eval o (lamEnv X scope s.heap.objs.size f0 c')
      standAt apos.atName
      let (f, first) ← holding [ov] (getMethod ov m pl)
      callWith pos f first (backTo pos (starEach (e :: es) (lamEnv X scope s.heap.objs.size f0 c'))) (backToKw pos (keywordEach [] (lamEnv X scope s.heap.objs.size f0 c'))))) :
    PE (lamCx X A outer s H E scope f0 c') (.Call (.Attribute o m apos) (e :: es) [] pos) (tMeth C m sp [] E to t) :=
  pe_meth (X := lamCx X A outer s H E scope f0 c') (CX := L2.CX X.prog X.w) (E := E) he cl D.me G hr D.b .nil (lam_passes (X := X) (A := A) (outer := outer) (s := s) (H := H) (E := E) (scope := scope) (f := f0) (c' := c')) ha hst hpl ht
/-- all but this, and but tables, stays -/
def ExtS (S : List Addr) (H H' : Hp) : Prop := ∀ b o, H b = some o → b ∉ S → (∀ ps, o ≠ .tbl ps) → H' b = some o
theorem HeapAt.ext {C : Addr} {F : List Addr} {H H' : Hp} {a pt : Addr} {x : HS} {past : List HS} (h : HeapAt C F H a pt x past) (e : ExtN H H') : HeapAt C F H' a pt x past := by
  obtain ⟨dx, pa, he, ea, hpa, hh, xp, ept, pp⟩ := h
  have kf : KF F H H' := ⟨fun c xs z _ => e c _ z (fun ps y => nomatch y), fun c xs z => e c _ z (fun ps y => nomatch y)⟩
  exact ⟨dx, pa, he, e _ _ ea (fun ps y => nomatch y), hpa.kt kf.2, hh.kf kf, xp, e _ _ ept (fun ps y => nomatch y), pairs_kf pp kf⟩
def lamT (Pt : Addr) : List (Addr × Str) := [(Pt, "_law_reread.<locals>.<lambda>")]
theorem tabs_keepS {T : List (Addr × Str)} {S : List Addr} {H H' : Hp} (t : Tabs T H) (k : Keep S H H') (hS : ∀ z ∈ S, (∃ xs, H z = some (.lst xs)) ∨ ∃ C dx fs, H z = some (.ins C dx fs)) : Tabs T H' := fun p hp => by
  obtain ⟨ps, h1, h2, h3⟩ := t p hp
  have go : ∀ {a : Addr} {o : HO}, H a = some o → (∀ xs, o ≠ .lst xs) → (∀ C dx fs, o ≠ .ins C dx fs) → H' a = some o := fun {a o} ha hn hi => k a o ha fun hm => by
    rcases hS a hm with ⟨xs, e⟩ | ⟨C, dx, fs, e⟩
    · rw [e] at ha
      exact hn _ (Option.some.inj ha).symm
    · rw [e] at ha
      exact hi _ _ _ (Option.some.inj ha).symm
  refine ⟨ps, go h1 (fun xs z => nomatch z) (fun _ _ _ z => nomatch z), h2, fun pos cv hc => ?_⟩
  obtain ⟨c, e, h⟩ := h3 pos cv hc
  exact ⟨c, e, go h (fun xs z => by unfold CodeO at z; cases z) (fun _ _ _ z => by unfold CodeO at z; cases z)⟩
/-- but for Pt no table is among what changes -/
def NT (F : List Addr) (Pt : Addr) (H : Hp) : Prop := ∀ z ∈ F, z ≠ Pt → ∀ ps, H z ≠ some (.tbl ps)
theorem FOk.ext {F : List Addr} {Pt : Addr} {H H' : Hp} (h : FOk F H) (n : NT F Pt H) (e : ExtN H H') (t : Tabs (lamT Pt) H') : FOk F H' := fun z hz y => by
  by_cases hp : z = Pt
  · obtain ⟨ps, h1, _⟩ := t (Pt, "_law_reread.<locals>.<lambda>") List.mem_cons_self
    rw [hp] at y
    have h1 : H' Pt = some (.tbl ps) := h1
    rw [y] at h1
    cases h1
  · cases q : H z with
    | none => exact h z hz q
    | some o =>
      rw [e z o q fun ps w => n z hz hp ps (by rw [q, w])] at y
      cases y
theorem ExtS.of {S : List Addr} {H H1 H2 : Hp} (e : ExtN H H1) (k : Keep S H1 H2) : ExtS S H H2 := fun b o h n t => k b o (e b o h t) n
theorem mem_allU {α : Type} {f : Sch → Nat → List α} {r : α} : ∀ (ks : List Sch) (j : Nat), r ∈ allU f ks j → ∃ s ∈ ks, ∃ j', r ∈ f s j'
  | [], _, h => by cases h
  | s :: t, j, h => by
    have h : r ∈ f s j ++ allU f t (j + 1) := h
    rcases List.mem_append.mp h with h | h
    · exact ⟨s, List.mem_cons_self, j, h⟩
    · obtain ⟨s', h1, j', h2⟩ := mem_allU t (j + 1) h
      exact ⟨s', List.mem_cons_of_mem _ h1, j', h2⟩
theorem mem_bestR {f : Sch → Nat → List Row} {r : Row} : ∀ (ks : List Sch) (j : Nat) (acc : List Row), r ∈ bestR f ks j acc → r ∈ acc ∨ ∃ s ∈ ks, ∃ j', r ∈ f s j'
  | [], _, _, h => .inl h
  | s :: t, j, acc, h => by
    have h : r ∈ bestR f t (j + 1) (if pts acc < pts (f s j) then f s j else acc) := h
    rcases mem_bestR t (j + 1) _ h with h | ⟨s', h1, j', h2⟩
    · by_cases c : pts acc < pts (f s j)
      · rw [if_pos c] at h
        exact .inr ⟨s, List.mem_cons_self, j, h⟩
      · rw [if_neg c] at h
        exact .inl h
    · exact .inr ⟨s', List.mem_cons_of_mem _ h1, j', h2⟩
theorem mem_first : ∀ (rs : List Row) (n : Nat) (r : Row), r ∈ firstP rs n → ∃ r' ∈ rs, r'.2.2 = r.2.2
  | [], _, _, h => by cases h
  | (i, m, w) :: t, n, r, h => by
    unfold firstP at h
    by_cases hn : n = 0
    · rw [if_pos hn] at h
      cases h
    · rw [if_neg hn] at h
      rcases List.mem_cons.mp h with rfl | h
      · exact ⟨_, List.mem_cons_self, rfl⟩
      · obtain ⟨r', h2, h3⟩ := mem_first t _ r h
        exact ⟨r', List.mem_cons_of_mem _ h2, h3⟩
theorem rP_wlen {ps : List Sch} {ws : List StepT} : ∀ (k : Nat) (s : Sch) (st : Nat) (c : Bool) (wh : List Nat), ∀ r ∈ rP ps ws k s st c wh, r.2.2.length ≤ wh.length + k
  | 0, _, _, _, _ => fun _ h => nomatch h
  | k + 1, .step x p, st, c, wh => fun r h => by
    unfold rP at h
    split at h
    · cases h
    · rw [List.mem_singleton.mp h]
      show wh.length ≤ _
      omega
  | k + 1, .behind x s, st, c, wh => fun r h => by
    unfold rP at h
    split at h
    · cases h
    · have := rP_wlen k s _ c _ r h
      rw [List.length_append, List.length_singleton] at this
      omega
  | k + 1, .use n, st, c, wh => fun r h => by
    unfold rP at h
    split at h
    · cases h
    · have := rP_wlen k _ _ c _ r h
      rw [List.length_append, List.length_singleton] at this
      omega
  | k + 1, .all ks, st, c, wh => fun r h => by
    obtain ⟨s, _, j, h⟩ := mem_allU (f := fun s j => rP ps ws k s st c (wh ++ [j])) ks 0 h
    have := rP_wlen k s st c _ r h
    rw [List.length_append, List.length_singleton] at this
    omega
  | k + 1, .best ks, st, c, wh => fun r h => by
    rcases mem_bestR (f := fun s j => rP ps ws k s st c (wh ++ [j])) ks 0 [] h with h | ⟨s, _, j, h⟩
    · cases h
    · have := rP_wlen k s st c _ r h
      rw [List.length_append, List.length_singleton] at this
      omega
  | k + 1, .fin x p s, st, c, wh => fun r h => by
    unfold rP at h
    split at h
    · rw [List.mem_singleton.mp h]
      show wh.length ≤ _
      omega
    · have := rP_wlen k s st c _ r h
      rw [List.length_append, List.length_singleton] at this
      omega
  | k + 1, .seen x s, st, c, wh => fun r h => by
    unfold rP at h
    split at h
    · have := rP_wlen k s st c _ r h
      rw [List.length_append, List.length_singleton] at this
      omega
    · cases h
  | k + 1, .most n s, st, c, wh => fun r h => by
    obtain ⟨r', h1, h2⟩ := mem_first _ _ r (show r ∈ firstP (rP ps ws k s st c (wh ++ [0])) n.toNat from h)
    have := rP_wlen k s st c _ r' h1
    rw [List.length_append, List.length_singleton, h2] at this
    omega
  | k + 1, .half s, st, c, wh => fun r h => by
    obtain ⟨r', h1, h2⟩ := mem_first _ _ r (show r ∈ firstP (rP ps ws k s st c (wh ++ [0])) (pts (rP ps ws k s st c (wh ++ [0])) / 2) from h)
    have := rP_wlen k s st c _ r' h1
    rw [List.length_append, List.length_singleton, h2] at this
    omega
  | k + 1, .carry s, st, c, wh => fun r h => by
    have := rP_wlen k s st true _ r h
    rw [List.length_append, List.length_singleton] at this
    omega

abbrev s_L_shown : Stmt := topS 65
abbrev nmShown : List Str := ["_law_heap", "_law_many", "_law_k"]
theorem sc_L_shown : FnScope nmShown ["_law_heap"] (defScope s_L_shown) := ⟨rfl, rfl, rfl, by decide +kernel, rfl, by decide +kernel, by decide +kernel⟩
/-- a list of steps, a list of rows -/
def SW (F : List Addr) (H : Hp) (ws : List StepT) (v : V) : Prop := ∃ l, v = .ref l ∧ H l = some (.lst (stepsV ws)) ∧ l ∉ F
def SR (F : List Addr) (H : Hp) (rs : List Row) (v : V) : Prop := ∃ l rv, v = .ref l ∧ H l = some (.lst rv) ∧ Paired (RowR H) rs rv ∧ l ∉ F
theorem SW.kf {F : List Addr} {H H' : Hp} {ws : List StepT} {v : V} (h : SW F H ws v) (k : KF F H H') : SW F H' ws v := by
  obtain ⟨l, e, h1, h2⟩ := h
  exact ⟨l, e, k.1 _ _ h1 h2, h2⟩
theorem SR.kf {F : List Addr} {H H' : Hp} {rs : List Row} {v : V} (h : SR F H rs v) (k : KF F H H') : SR F H' rs v := by
  obtain ⟨l, rv, e, h1, hp, h2⟩ := h
  exact ⟨l, rv, e, k.1 _ _ h1 h2, paired_imp hp fun _ _ z => z.keep k.2, h2⟩
def Shw (F : List Addr) (H : Hp) (x : HS) (f : Addr) : Prop := ∃ D1 D2 D3 fv1 fv2, H f = some (.lst [.ref D1, .ref D2, .ref D3]) ∧ f ∉ F ∧ H D1 = some (.lst fv1) ∧ D1 ∉ F ∧ Paired (SW F H) x.2 fv1 ∧ H D2 = some (.lst fv2) ∧ D2 ∉ F ∧ Paired (SR F H) (x.2.map fun ws => rAll x.1 ws) fv2 ∧
  H D3 = some (.lst (x.2.map fun ws => V.int ((pts (rAll x.1 ws) : Nat) : Int))) ∧ D3 ∉ F
theorem Shw.kf {F : List Addr} {H H' : Hp} {x : HS} {f : Addr} (h : Shw F H x f) (k : KF F H H') : Shw F H' x f := by
  obtain ⟨D1, D2, D3, fv1, fv2, e, nf, e1, n1, p1, e2, n2, p2, e3, n3⟩ := h
  exact ⟨D1, D2, D3, fv1, fv2, k.1 _ _ e nf, nf, k.1 _ _ e1 n1, n1, paired_imp p1 fun _ _ z => z.kf k, k.1 _ _ e2 n2, n2, paired_imp p2 fun _ _ z => z.kf k, k.1 _ _ e3 n3, n3⟩
def stepsD (ws : List StepT) : List PyData := ws.map fun p => PyData.str (stepS p)
theorem steps_sh {ws : List StepT} (h : ∀ p ∈ ws, IsStep p) : ShAll 0 (stepsD ws) := ShAll.of fun d hd => by
  obtain ⟨p, hp, rfl⟩ := List.mem_map.mp hd
  exact .str (h p hp).ok
theorem steps_dp {K : PySem.W.Frag} {H : Hp} : ∀ ws : List StepT, DpAll K H (stepsV ws) (stepsD ws)
  | [] => .nil
  | p :: r => .cons (.str _) (steps_dp r)
theorem rowsD_sh (rs : List Row) : ShN 3 (rowsD rs) := by
  refine ShN.lst (n := 2) (ShAll.of fun d hd => ?_)
  obtain ⟨r, _, rfl⟩ := List.mem_map.mp hd
  exact (ShN.tup (.cons (.int _) (.cons (.int _) (.cons (ShN.tup (sh_ints 0 _)) .nil))))
def shownD (x : HS) : PyData := .list [.list (x.2.map fun ws => PyData.list (stepsD ws)), .list (x.2.map fun ws => rowsD (rAll x.1 ws)), .list ((x.2.map fun ws => ((pts (rAll x.1 ws) : Nat) : Int)).map PyData.int)]
theorem shownD_sh {x : HS} (hG : GoodS x) : ShN 5 (shownD x) := by
  refine .lst (.cons (.lst (ShAll.of fun d hd => ?_)) (.cons (.lst (ShAll.of fun d hd => ?_)) (.cons (.lst (sh_ints 3 _)) .nil)))
  · obtain ⟨ws, hw, rfl⟩ := List.mem_map.mp hd
    exact (ShN.lst (steps_sh (hG.2.1 _ hw).1.all)).mono (by decide)
  · obtain ⟨ws, hw, rfl⟩ := List.mem_map.mp hd
    exact (rowsD_sh _).mono (by decide)
theorem sw_dp {K : PySem.W.Frag} {F : List Addr} {H : Hp} : ∀ {wss : List (List StepT)} {fv : List V}, Paired (SW F H) wss fv → DpAll K H fv (wss.map fun ws => PyData.list (stepsD ws))
  | _, _, .nil => .nil
  | _, _, .cons ⟨l, e, h1, _⟩ t => by
    subst e
    exact .cons (.lst (SqL.of h1) (steps_dp _)) (sw_dp t)
theorem sr_dp {K : PySem.W.Frag} {F : List Addr} {H : Hp} : ∀ {rss : List (List Row)} {fv : List V}, Paired (SR F H) rss fv → DpAll K H fv (rss.map rowsD)
  | _, _, .nil => .nil
  | _, _, .cons ⟨l, rv, e, h1, hp, _⟩ t => by
    subst e
    exact .cons (.lst (SqL.of h1) (rowsV_dp hp)) (sr_dp t)
theorem Shw.dp {K : PySem.W.Frag} {F : List Addr} {H : Hp} {x : HS} {f : Addr} (h : Shw F H x f) : Dp K H (.ref f) (shownD x) := by
  obtain ⟨D1, D2, D3, fv1, fv2, e, nf, e1, n1, p1, e2, n2, p2, e3, n3⟩ := h
  refine .lst (SqL.of e) (.cons (.lst (SqL.of e1) (sw_dp p1)) (.cons (.lst (SqL.of e2) ?_) (.cons (.lst (SqL.of e3) ?_) .nil)))
  · have := sr_dp (K := K) p2
    rw [List.map_map] at this
    exact this
  · have h2 : (x.2.map fun ws => V.int ((pts (rAll x.1 ws) : Nat) : Int)) = (x.2.map fun ws => ((pts (rAll x.1 ws) : Nat) : Int)).map V.int := by
      rw [List.map_map]
      rfl
    rw [h2]
    exact dp_ints _
theorem shown_eq {x : HS} (hG : GoodS x) : PyData.eqv (shownD x) (shownD x) = true := SeqAt.eqv_refl _ (shownD_sh hG).1
def spShown (C : Addr) : Sp := fun vs H Q _ => ∃ (F : List Addr) (a pt : Addr) (x : HS) (past : List HS), vs = [.ref a] ∧ HeapAt C F H a pt x past ∧ GoodS x ∧ FOk F H ∧ ∀ (f : Addr) (H' : Hp), Same H H' → H f = none → Shw F H' x f → Q (.ref f) H'
section
variable {P : Program} {w : World} {K : PySem.W.Frag} {mg : Str → Option Value} {base : Heap} {C CV : Addr}
theorem ok_shown (T : PTx w K mg) (DRw : DRows K mg) (DP : DPaper K mg) (DH : DHeap K mg) (Y : HCls K mg C) (D : Def K mg "_law_shown" s_L_shown ["_law_heap"]) : FnOk P w K mg base CX0 5 D.f D.fd ["_law_heap"] (spShown C) := by
  have GWo : FnOk P w K mg base CX0 4 Y.DW.f Y.DW.fd ["self", "number"] (spHWork C) := ok_hwork T Y DH.DPl DP.DN
  have GRo : FnOk P w K mg base CX0 4 Y.DRo.f Y.DRo.fd ["self", "number"] (spHRows C) := ok_hrows T Y DH.DPl DP.DN
  have GSh : FnOk P w K mg base CX0 2 Y.DS.f Y.DS.fd ["self"] (spSheet C) := ok_sheet T Y DRw.DPt
  have nd := sc_L_shown.nd
  have ml : mg "len" = none := T.free "len" (by decide +kernel)
  have mr : mg "range" = none := T.free "range" (by decide +kernel)
  refine D.ok sc_L_shown (fun vs H Q E h => ?_) (fun cdv A outer s H vs Q E hr h => ?_)
  · obtain ⟨F, a, pt, x, past, rfl, _⟩ := h
    rfl
  obtain ⟨F, a, pt, x, past, rfl, hh, hG, hF, q⟩ := h
  have r2 : Room 2 _ := hr.mono (by decide)
  refine ⟨_, pss_cons (ps_set (i := 1) nd rfl (Or.inl rfl) (pe_callB call_len_seq rfl ml PySem.boot_len (pa_cons (pe_meth0 (pv 0) Y.cl Y.DS.me GSh r2 Y.DS.b .nil pass0) pa_nil)))
    (pss_one (ps_ret (pe_lst (pa_cons
        (pe_lc (own := [("_law_k", 2)]) (g := gName 2) (tt := tYes) (te := tMeth C "work" (spHWork C) [] E0 (tVar 0) (tCons (tVar 2) tNil)) rfl nd (pi_range1 rfl mr (pa_cons (pv 1) pa_nil)) (blkOk_by (N := nmShown) (sc := defScope s_L_shown) (by decide +kernel)) (fun _ _ _ _ _ => pg_name (i := 2) nd rfl (Or.inl rfl)) (fun _ _ _ _ _ => pts_nil)
          (fun _ _ _ _ _ => pe_meth (pv 0) Y.cl Y.DW.me GWo hr Y.DW.b .nil pass0 (pa_cons (pv 2) pa_nil)))
        (pa_cons (pe_lc (own := [("_law_k", 2)]) (g := gName 2) (tt := tYes) (te := tMeth C "rows" (spHRows C) [] E0 (tVar 0) (tCons (tVar 2) tNil)) rfl nd (pi_range1 rfl mr (pa_cons (pv 1) pa_nil)) (blkOk_by (N := nmShown) (sc := defScope s_L_shown) (by decide +kernel)) (fun _ _ _ _ _ => pg_name (i := 2) nd rfl (Or.inl rfl)) (fun _ _ _ _ _ => pts_nil)
          (fun _ _ _ _ _ => pe_meth (pv 0) Y.cl Y.DRo.me GRo hr Y.DRo.b .nil pass0 (pa_cons (pv 2) pa_nil)))
        (pa_cons (pe_meth0 (pv 0) Y.cl Y.DS.me GSh r2 Y.DS.b .nil pass0) pa_nil)))))), ?_⟩
  obtain ⟨dx, pa2, he, ea, hpa2, ⟨xs, eh, hFn, pr⟩, _⟩ := id hh
  obtain ⟨hP, hWs, h20⟩ := id hG
  have lx := Paired.length pr
  refine ⟨_, rfl, a, dx, _, rfl, ea, hf_no _ _ _ (by decide +kernel) (by decide +kernel) (by decide +kernel), F, a, pt, x, past, rfl, hh, hG, fun f0 H0 s0 hf0 ef0 => ⟨f0, _, rfl, .inl (SqL.of ef0), ?_⟩⟩
  dsimp only [gName]
  rw [List.length_map]
  refine ⟨_, rfl, _, rfl, by omega, by omega, fun D1 hD1 => ?_⟩
  have hn : (((x.2.length : Nat) : Int)).toNat = x.2.length := by omega
  have D1F : D1 ∉ F := (hF.same s0).nin hD1
  refine lc_range (lo := 0) (n := (((x.2.length : Nat) : Int)).toNat) (fun j H'' => ∃ fv, H'' D1 = some (.lst fv) ∧ Paired (SW (D1 :: F) H'') (x.2.take j) fv ∧ Same H0 H'') ⟨[], upd_same, .nil, Same.new hD1⟩ ?_ ?_
  · rintro j H1 hj ⟨fv, eD, pf, sm⟩
    rw [hn] at hj
    have ez : (0 : Int) + ((j : Nat) : Int) = ((j : Nat) : Int) := by omega
    have ew : x.2[j]? = some x.2[j] := List.getElem?_eq_getElem hj
    obtain ⟨v, ev, t, b, r, rv, rfl, et, eb, hbF, er, hrF, pR⟩ := paired_get2 pr ew
    have s1 := s0.trans sm
    have tk : x.2.take (j + 1) = x.2.take j ++ [x.2[j]] := by
      rw [List.take_succ, ew]
      rfl
    have lf := Paired.length pf
    rw [List.length_take] at lf
    rw [ez]
    refine ⟨rfl, _, rfl, a, dx, _, rfl, s1 _ _ ea, hf_no _ _ _ (by decide +kernel) (by decide +kernel) (by decide +kernel), _, rfl, a, dx, pa2, he, pt, t, b, r, xs, stepsV x.2[j], j, rfl, s1 _ _ ea, s1 _ _ eh, ev, s1 _ _ et, s1 _ _ eb, fun l hl => ?_⟩
    have nlD : l ≠ D1 := (ne_of_none eD hl).symm
    have sl : Same H1 (upd H1 l (.lst (stepsV x.2[j]))) := Same.new hl
    have kD : KF (D1 :: F) (upd H1 l (.lst (stepsV x.2[j]))) (upd (upd H1 l (.lst (stepsV x.2[j]))) D1 (.lst (fv ++ [.ref l]))) := ⟨KL.of (Keep.put List.mem_cons_self), TupK.put (sl _ _ eD)⟩
    refine ⟨fv, sl _ _ eD, Nat.lt_of_le_of_lt (show fv.length ≤ 100 by omega) (by decide), fv ++ [.ref l], upd_same, ?_, Same.newer (sm.trans sl) hD1⟩
    rw [tk]
    have lF : l ∉ D1 :: F := fun m => by
      rcases List.mem_cons.mp m with rfl | m
      · exact nlD rfl
      · exact (hF.same s1).nin hl m
    exact paired_snoc (paired_imp pf fun _ _ z => z.kf ((KF.same sl).trans kD)) (SW.kf ⟨l, rfl, upd_same, lF⟩ kD)
  rintro H1 ⟨fv1, eD1, pf1, s1⟩
  rw [hn, List.take_length] at pf1
  have s01 := s0.trans s1
  have D2F : ∀ D2, H1 D2 = none → D2 ∉ F := fun D2 h => (hF.same s01).nin h
  refine ⟨_, rfl, _, rfl, by omega, by omega, fun D2 hD2 => ?_⟩
  refine lc_range (lo := 0) (n := (((x.2.length : Nat) : Int)).toNat) (fun j H'' => ∃ fv, H'' D2 = some (.lst fv) ∧ Paired (SR (D2 :: F) H'') ((x.2.take j).map fun ws => rAll x.1 ws) fv ∧ Same H1 H'') ⟨[], upd_same, .nil, Same.new hD2⟩ ?_ ?_
  · rintro j H2 hj ⟨fv, eD, pf, sm⟩
    rw [hn] at hj
    have ez : (0 : Int) + ((j : Nat) : Int) = ((j : Nat) : Int) := by omega
    have ew : x.2[j]? = some x.2[j] := List.getElem?_eq_getElem hj
    obtain ⟨v, ev, t, b, r, rv, rfl, et, eb, hbF, er, hrF, pR⟩ := paired_get2 pr ew
    have s2 := s01.trans sm
    have tk : x.2.take (j + 1) = x.2.take j ++ [x.2[j]] := by
      rw [List.take_succ, ew]
      rfl
    have lf := Paired.length pf
    rw [List.length_map, List.length_take] at lf
    rw [ez]
    refine ⟨rfl, _, rfl, a, dx, _, rfl, s2 _ _ ea, hf_no _ _ _ (by decide +kernel) (by decide +kernel) (by decide +kernel), _, rfl, a, dx, pa2, he, pt, t, b, r, xs, rv, j, rfl, s2 _ _ ea, s2 _ _ eh, ev, s2 _ _ et, s2 _ _ er, fun l hl => ?_⟩
    have nlD : l ≠ D2 := (ne_of_none eD hl).symm
    have sl : Same H2 (upd H2 l (.lst rv)) := Same.new hl
    have kD : KF (D2 :: F) (upd H2 l (.lst rv)) (upd (upd H2 l (.lst rv)) D2 (.lst (fv ++ [.ref l]))) := ⟨KL.of (Keep.put List.mem_cons_self), TupK.put (sl _ _ eD)⟩
    have lF : l ∉ D2 :: F := fun m => by
      rcases List.mem_cons.mp m with rfl | m
      · exact nlD rfl
      · exact (hF.same s2).nin hl m
    refine ⟨fv, sl _ _ eD, Nat.lt_of_le_of_lt (show fv.length ≤ 100 by omega) (by decide), fv ++ [.ref l], upd_same, ?_, Same.newer (sm.trans sl) hD2⟩
    rw [tk, List.map_append]
    exact paired_snoc (paired_imp pf fun _ _ z => z.kf ((KF.same sl).trans kD)) (SR.kf ⟨l, rv, rfl, upd_same, paired_imp pR fun _ _ z => z.keep (Same.tupK (s2.trans sl)), lF⟩ kD)
  rintro H2 ⟨fv2, eD2, pf2, s2⟩
  rw [hn, List.take_length] at pf2
  have s02 := s01.trans s2
  refine ⟨_, rfl, a, dx, _, rfl, s02 _ _ ea, hf_no _ _ _ (by decide +kernel) (by decide +kernel) (by decide +kernel), F, a, pt, x, past, rfl, hh.same s02, hG, fun D3 H3 s3 hD3 eD3 => ⟨(by show 3 ≤ sizeLine; decide), fun fo hfo => ?_⟩⟩
  have s03 := s02.trans s3
  have sf3 : Same H3 _ := Same.new (o := .lst [.ref D1, .ref D2, .ref D3]) hfo
  have s1f := (s2.trans s3).trans sf3
  have s2f := s3.trans sf3
  have less : ∀ {z : Addr} {D : Addr}, z ∉ D :: F → z ∉ F := fun h m => h (List.mem_cons_of_mem _ m)
  refine q fo _ (s03.trans sf3) (s03.free hfo) ⟨D1, D2, D3, fv1, fv2, upd_same, (hF.same s03).nin hfo, s1f _ _ eD1, D1F, paired_imp pf1 fun _ _ z => ?_, s2f _ _ eD2, D2F _ hD2, paired_imp pf2 fun _ _ z => ?_, sf3 _ _ eD3, (hF.same s02).nin hD3⟩
  · obtain ⟨l, e, h1, h2⟩ := z
    exact ⟨l, e, s1f _ _ h1, less h2⟩
  · obtain ⟨l, rv, e, h1, hp, h2⟩ := z
    exact ⟨l, rv, e, s2f _ _ h1, paired_imp hp fun _ _ z => z.keep (Same.tupK s2f), less h2⟩
end
end MS
end
section
set_option maxRecDepth 100000
set_option maxHeartbeats 4000000
namespace MS
open PySem L2
/-! ### the mathematics of there and back -/
theorem rowDt_eqv (r z : Row) : PyData.eqv (rowDt r) (rowDt z) = decide (r = z) := by
  have key : ∀ l m : List Nat, PyData.eqvAll ((intN l).map PyData.int) ((intN m).map PyData.int) = decide (l = m) := fun l m => by
    have := natD_eqvAll l m
    have e : ∀ l : List Nat, natD l = (intN l).map PyData.int := fun l => by
      unfold natD intN
      rw [List.map_map]
      rfl
    rw [e, e] at this
    exact this
  obtain ⟨a, b, l⟩ := r
  obtain ⟨c, d, m⟩ := z
  show PyData.eqv (.tuple [.int ((a : Nat) : Int), .int ((b : Nat) : Int), .tuple ((intN l).map PyData.int)]) (.tuple [.int ((c : Nat) : Int), .int ((d : Nat) : Int), .tuple ((intN m).map PyData.int)]) = _
  simp only [PyData.eqv, PyData.eqvAll, key, Bool.and_true]
  have ii : ∀ a c : Nat, (((a : Nat) : Int) == ((c : Nat) : Int)) = decide (a = c) := fun a c => by
    by_cases h : a = c
    · subst h
      simp
    · have : ((a : Nat) : Int) ≠ ((c : Nat) : Int) := by omega
      simp [h, this]
  rw [ii, ii]
  by_cases h1 : a = c
  · by_cases h2 : b = d
    · by_cases h3 : l = m
      · simp [h1, h2, h3]
      · simp [h1, h2, h3]
    · simp [h1, h2]
  · simp [h1]
theorem rowsD_eqv : ∀ a b : List Row, PyData.eqv (rowsD a) (rowsD b) = decide (a = b) := by
  have key : ∀ a b : List Row, PyData.eqvAll (a.map rowDt) (b.map rowDt) = decide (a = b) := by
    intro a
    induction a with
    | nil =>
      intro b
      cases b with
      | nil => simp [PyData.eqvAll]
      | cons z t => simp [PyData.eqvAll]
    | cons r s ih =>
      intro b
      cases b with
      | nil => simp [PyData.eqvAll]
      | cons z t =>
        rw [List.map_cons, List.map_cons]
        simp only [PyData.eqvAll, ih, rowDt_eqv]
        by_cases h1 : r = z
        · by_cases h2 : s = t
          · simp [h1, h2]
          · simp [h1, h2]
        · simp [h1]
  intro a b
  show PyData.eqv (.list (a.map rowDt)) (.list (b.map rowDt)) = _
  simp only [PyData.eqv]
  exact key a b
theorem othN_eq (p p' : List Sch) (wss : List (List StepT)) : othN p p' wss = (List.range wss.length).filter fun i => !decide (rAll p (wss.getD i []) = rAll p' (wss.getD i [])) := by
  unfold othN
  simp only [rowsD_eqv]
theorem othN_comm (p p' : List Sch) (wss : List (List StepT)) : othN p p' wss = othN p' p wss := by
  rw [othN_eq, othN_eq]
  congr 1
  funext i
  exact congrArg (fun b : Bool => !b) (decide_eq_decide.mpr eq_comm)
theorem othN_self (p : List Sch) (wss : List (List StepT)) : othN p p wss = [] := by
  rw [othN_eq]
  simp
/-- the wheres of rows are all unlike -/
theorem rAll_nd {ps : List Sch} {ws : List StepT} (h : PaperOk ps) : ((rAll ps ws).map fun r => r.2.2).Nodup := by
  obtain ⟨ce, hp, _, _⟩ := h.facts
  cases ps with
  | nil => exact List.nodup_nil
  | cons s r => exact (rP_good (fun j s e => (hp j s e).1) 30 0 5 s 0 false [] (hp 0 s rfl).1).2
theorem eD_nd : ∀ {rs : List Row}, (rs.map fun r => r.2.2).Nodup → eD rs = rs.map fun r => (r.2.2, r.1, r.2.1) := by
  have g : ∀ (rs : List Row) (d : EaD), (∀ r ∈ rs, r.2.2 ∉ d.map (·.1)) → (rs.map fun r => r.2.2).Nodup → rs.foldl (fun d r => putE d r.2.2 (r.1, r.2.1)) d = d ++ rs.map fun r => (r.2.2, r.1, r.2.1) := by
    intro rs
    induction rs with
    | nil => exact fun d _ _ => (List.append_nil d).symm
    | cons r t ih =>
      intro d hd hn
      rw [List.map_cons, List.nodup_cons] at hn
      have e : putE d r.2.2 (r.1, r.2.1) = d ++ [(r.2.2, r.1, r.2.1)] := by
        unfold putE
        rw [if_neg]
        intro h
        obtain ⟨z, hz, e⟩ := List.any_eq_true.mp h
        exact hd r List.mem_cons_self (List.mem_map.mpr ⟨z, hz, of_decide_eq_true e⟩)
      rw [List.foldl_cons, e, ih _ _ hn.2, List.append_assoc]
      · rfl
      · intro z hz h
        rw [List.map_append] at h
        rcases List.mem_append.mp h with h | h
        · exact hd z (List.mem_cons_of_mem _ hz) h
        · have e : z.2.2 = r.2.2 := List.mem_singleton.mp h
          exact hn.1 (List.mem_map.mpr ⟨z, hz, e⟩)
  intro rs hn
  have := g rs [] (fun r _ h => nomatch h) hn
  rw [List.nil_append] at this
  exact this
theorem getE_nd {rs : List Row} (hn : (rs.map fun r => r.2.2).Nodup) (m : List Nat) (e : Nat × Nat) : getE (eD rs) m = some e ↔ (e.1, e.2, m) ∈ rs := by
  rw [eD_nd hn]
  induction rs with
  | nil => exact ⟨fun h => (nomatch h), fun h => nomatch h⟩
  | cons r t ih =>
    rw [List.map_cons, List.nodup_cons] at hn
    unfold getE at ih ⊢
    rw [List.map_cons, List.find?_cons]
    by_cases h : r.2.2 = m
    · rw [decide_eq_true h]
      constructor
      · intro q
        have q : (r.1, r.2.1) = e := Option.some.inj q
        subst q h
        exact List.mem_cons_self
      · intro q
        rcases List.mem_cons.mp q with q | q
        · subst q
          rfl
        · exact absurd (List.mem_map.mpr ⟨_, q, h.symm⟩) hn.1
    · rw [decide_eq_false h]
      rw [ih hn.2]
      constructor
      · exact fun q => List.mem_cons_of_mem _ q
      · intro q
        rcases List.mem_cons.mp q with q | q
        · subst q
          exact absurd rfl h
        · exact q
/-- the rows of the one that aren't of the other -/
def lessR (a b : List Row) : List Row := a.filter fun r => !(b.any fun z => decide (z = r))
theorem mem_less {a b : List Row} {r : Row} : r ∈ lessR a b ↔ r ∈ a ∧ r ∉ b := by
  unfold lessR
  rw [List.mem_filter]
  constructor
  · rintro ⟨h1, h2⟩
    refine ⟨h1, fun h3 => ?_⟩
    rw [List.any_eq_true.mpr ⟨r, h3, decide_eq_true rfl⟩] at h2
    exact absurd h2 (by decide)
  · rintro ⟨h1, h2⟩
    refine ⟨h1, ?_⟩
    rw [Bool.not_eq_true']
    refine Bool.eq_false_iff.mpr fun h => ?_
    obtain ⟨z, hz, e⟩ := List.any_eq_true.mp h
    rw [of_decide_eq_true e] at hz
    exact h2 hz
/-- where anything is earned otherwise: the wheres of the rows that the one has and the other hasn't -/
theorem dif_mem {a b : List Row} (ha : (a.map fun r => r.2.2).Nodup) (hb : (b.map fun r => r.2.2).Nodup) {ms : List (List Nat)} (h : IsWh ms (eD a) (eD b)) (m : List Nat) : m ∈ difN (eD a) (eD b) ms ↔ m ∈ (lessR a b ++ lessR b a).map fun r => r.2.2 := by
  have ga := getE_nd ha
  have gb := getE_nd hb
  have key : ∀ (r : Row) (l : List Row), (l.map fun r => r.2.2).Nodup → r ∈ l → r.2.2 ∈ keysE (eD l) := fun r l hl hr => by
    rw [eD_nd hl]
    unfold keysE
    rw [List.map_map]
    exact List.mem_map.mpr ⟨r, hr, rfl⟩
  unfold difN
  rw [List.mem_filter]
  constructor
  · rintro ⟨h1, h2⟩
    rw [Bool.not_eq_true', decide_eq_false_iff_not] at h2
    cases e1 : getE (eD a) m with
    | some v =>
      have m1 := (ga m v).mp e1
      refine List.mem_map.mpr ⟨_, List.mem_append_left _ (mem_less.mpr ⟨m1, fun q => h2 ?_⟩), rfl⟩
      rw [e1, (gb m v).mpr q]
    | none =>
      cases e2 : getE (eD b) m with
      | none =>
        rw [e1, e2] at h2
        exact absurd rfl h2
      | some v =>
        have m2 := (gb m v).mp e2
        refine List.mem_map.mpr ⟨_, List.mem_append_right _ (mem_less.mpr ⟨m2, fun q => h2 ?_⟩), rfl⟩
        rw [e2, (ga m v).mpr q]
  · intro hm
    obtain ⟨⟨i, n, m'⟩, hr, rfl⟩ := List.mem_map.mp hm
    rcases List.mem_append.mp hr with hr | hr
    · obtain ⟨h1, h2⟩ := mem_less.mp hr
      refine ⟨(h.2.2 _).mpr (.inl (key _ _ ha h1)), ?_⟩
      rw [Bool.not_eq_true', decide_eq_false_iff_not]
      intro q
      have e1 := (ga m' (i, n)).mpr h1
      exact h2 ((gb m' (i, n)).mp (q ▸ e1))
    · obtain ⟨h1, h2⟩ := mem_less.mp hr
      refine ⟨(h.2.2 _).mpr (.inr (key _ _ hb h1)), ?_⟩
      rw [Bool.not_eq_true', decide_eq_false_iff_not]
      intro q
      have e1 := (gb m' (i, n)).mpr h1
      exact h2 ((ga m' (i, n)).mp (q ▸ e1))
theorem intN_inj {a b : List Nat} (e : intN a = intN b) : a = b := by
  rw [← intN_toN a, ← intN_toN b, e]
theorem mem_intN {l : List (List Nat)} {m : List Nat} : intN m ∈ l.map intN ↔ m ∈ l := by
  constructor
  · intro h
    obtain ⟨m', h1, h2⟩ := List.mem_map.mp h
    rw [← intN_inj h2]
    exact h1
  · exact fun h => List.mem_map_of_mem h
theorem map_intN_inj {a b : List (List Nat)} (e : a.map intN = b.map intN) : a = b := by
  have e2 := congrArg (fun l => l.map fun k : List Int => k.map Int.toNat) e
  have q : ∀ l : List (List Nat), (l.map intN).map (fun k : List Int => k.map Int.toNat) = l := fun l => by
    rw [List.map_map]
    have : ((fun k : List Int => k.map Int.toNat) ∘ intN) = id := by
      funext m
      exact intN_toN m
    rw [this, List.map_id]
  have e3 : (a.map intN).map (fun k : List Int => k.map Int.toNat) = (b.map intN).map (fun k : List Int => k.map Int.toNat) := e2
  rw [q, q] at e3
  exact e3
/-- what rises, each once, is told by what is in it -/
theorem rise_uniq {a b : List (List Int)} (na : a.Nodup) (nb : b.Nodup) (pa : a.Pairwise (· ≤ ·)) (pb : b.Pairwise (· ≤ ·)) (h : ∀ m, m ∈ a ↔ m ∈ b) : a = b :=
  List.Perm.eq_of_pairwise (fun a b _ _ h1 h2 => List.le_antisymm h1 h2) pa pb ((List.perm_ext_iff_of_nodup na nb).mpr h)
theorem isWh_uniq {ms ms' : List (List Nat)} {d1 d2 : EaD} (h : IsWh ms d1 d2) (h' : IsWh ms' d1 d2) : ms = ms' :=
  map_intN_inj (rise_uniq h.1 h'.1 h.2.1 h'.2.1 fun k => by
    constructor
    · intro hk
      obtain ⟨m, hm, rfl⟩ := List.mem_map.mp hk
      exact mem_intN.mpr ((h'.2.2 m).mpr ((h.2.2 m).mp hm))
    · intro hk
      obtain ⟨m, hm, rfl⟩ := List.mem_map.mp hk
      exact mem_intN.mpr ((h.2.2 m).mpr ((h'.2.2 m).mp hm)))
theorem IsWh.comm {ms : List (List Nat)} {d1 d2 : EaD} (h : IsWh ms d1 d2) : IsWh ms d2 d1 := ⟨h.1, h.2.1, fun m => (h.2.2 m).trans Or.comm⟩
theorem difN_comm (d1 d2 : EaD) (ms : List (List Nat)) : difN d1 d2 ms = difN d2 d1 ms := by
  unfold difN
  congr 1
  funext m
  exact congrArg (fun b : Bool => !b) (decide_eq_decide.mpr eq_comm)
theorem difN_rise {ms : List (List Nat)} {d1 d2 : EaD} (h : IsWh ms d1 d2) : ((difN d1 d2 ms).map intN).Nodup ∧ ((difN d1 d2 ms).map intN).Pairwise (· ≤ ·) := by
  have s : ((difN d1 d2 ms).map intN).Sublist (ms.map intN) := (List.filter_sublist).map _
  exact ⟨h.1.sublist s, h.2.1.sublist s⟩
/-- what is told, as data; told back, ahead and now exchanged -/
def drD (d1 d2 : EaD) (m : List Nat) : PyData := .tuple [.tuple ((intN m).map PyData.int), eoD (getE d1 m), eoD (getE d2 m)]
theorem eoD_sh (o : Option (Nat × Nat)) : ShN 1 (eoD o) := by
  cases o with
  | none => exact (show ShN 0 PyData.none from ⟨by rw [PyData.canLay0], by rw [PyData.depth]; exact Nat.zero_le _⟩).mono (by decide)
  | some e => exact ShN.tup (sh_ints 0 _)
theorem drsD_sh (d1 d2 : EaD) (ms : List (List Nat)) : ShN 3 (.list (ms.map (drD d1 d2))) := .lst (ShAll.of fun d h => by
  obtain ⟨m, _, rfl⟩ := List.mem_map.mp h
  exact .tup (.cons (.tup (sh_ints 0 _)) (.cons (eoD_sh _) (.cons (eoD_sh _) .nil))))
theorem drs_dp {K : PySem.W.Frag} {H : Hp} {d1 d2 : EaD} : ∀ {ms : List (List Nat)} {rv : List V}, Paired (DR H d1 d2) ms rv → DpAll K H rv (ms.map (drD d1 d2))
  | _, _, .nil => .nil
  | _, _, .cons ⟨t, wa, x, y, e, et, ew, ox, oy⟩ tl => by
    subst e
    refine .cons (.tup (SqT.of et) (.cons (.tup (SqT.of ew) ?_) (.cons (EO.dp ox) (.cons (EO.dp oy) .nil)))) (drs_dp tl)
    rw [← intN_V]
    exact dp_ints _
theorem setL_back {α : Type} {xs : List α} {n : Nat} {x y : α} (h : xs[n]? = some x) : setL (setL xs n y) n x = xs := by
  obtain ⟨hn, rfl⟩ := List.getElem?_eq_some_iff.mp h
  have e : ∀ {zs : List α} {y : α}, n < zs.length → setL zs n y = zs.set n y := fun {zs y} hz => by
    rw [List.set_eq_take_append_cons_drop, if_pos hz]
    unfold setL
    rw [List.append_assoc]
    rfl
  rw [e hn, e (by rw [List.length_set]; exact hn), List.set_set, List.set_getElem_self]
theorem nodup_len {α : Type} [BEq α] [LawfulBEq α] : ∀ (l L : List α), l.Nodup → (∀ x ∈ l, x ∈ L) → l.length ≤ L.length
  | [], _, _, _ => Nat.zero_le _
  | x :: t, L, hn, hs => by
    rw [List.nodup_cons] at hn
    have hx := hs x List.mem_cons_self
    have := nodup_len t (L.erase x) hn.2 fun y hy => (List.mem_erase_of_ne (fun e => hn.1 (by rw [← e]; exact hy))).mpr (hs y (List.mem_cons_of_mem _ hy))
    rw [List.length_erase_of_mem hx] at this
    have hp := List.length_pos_of_mem hx
    rw [List.length_cons]
    omega
theorem keys_put {d : EaD} {k : List Nat} {v : Nat × Nat} : ∀ z ∈ keysE (putE d k v), z ∈ keysE d ∨ z = k := fun z hz => by
  unfold keysE putE at hz
  split at hz
  · rw [List.map_map] at hz
    obtain ⟨e, he, rfl⟩ := List.mem_map.mp hz
    left
    have : ((fun x : List Nat × Nat × Nat => x.1) ∘ fun e => if e.1 = k then (e.1, v) else e) e = e.1 := by
      show (if e.1 = k then (e.1, v) else e).1 = e.1
      split <;> rfl
    rw [this]
    exact List.mem_map_of_mem he
  · rw [List.map_append] at hz
    rcases List.mem_append.mp hz with h | h
    · exact .inl h
    · exact .inr (List.mem_singleton.mp h)
theorem keys_eD {rs : List Row} : ∀ z ∈ keysE (eD rs), ∃ r ∈ rs, r.2.2 = z := by
  have g : ∀ (rs : List Row) (d : EaD) (z : List Nat), z ∈ keysE (rs.foldl (fun d r => putE d r.2.2 (r.1, r.2.1)) d) → z ∈ keysE d ∨ ∃ r ∈ rs, r.2.2 = z := by
    intro rs
    induction rs with
    | nil => exact fun d z h => .inl h
    | cons r t ih =>
      intro d z h
      rcases ih _ z h with h | ⟨r', h1, h2⟩
      · rcases keys_put z h with h | h
        · exact .inl h
        · exact .inr ⟨r, List.mem_cons_self, h.symm⟩
      · exact .inr ⟨r', List.mem_cons_of_mem _ h1, h2⟩
  intro z hz
  rcases g rs [] z hz with h | h
  · cases h
  · exact h
theorem isWh_len {ms : List (List Nat)} {rs1 rs2 : List Row} (h : IsWh ms (eD rs1) (eD rs2)) (h1 : rs1.length ≤ 7) (h2 : rs2.length ≤ 7) : ms.length ≤ 14 := by
  have n : ms.Nodup := by
    have := h.1
    rw [List.Nodup, List.pairwise_map] at this
    exact this.imp fun z e => z (by rw [e])
  have := nodup_len ms (keysE (eD rs1) ++ keysE (eD rs2)) n fun x hx => List.mem_append.mpr ((h.2.2 x).mp hx)
  have l1 := eD_len rs1
  have l2 := eD_len rs2
  rw [List.length_append] at this
  unfold keysE at this
  rw [List.length_map, List.length_map] at this
  omega
end MS
end
section
set_option maxRecDepth 100000
set_option maxHeartbeats 4000000
namespace MS
open PySem L2
open HeY LamX
/-! ### what stands of a heap and the draws -/
theorem HeapAt.kf {C : Addr} {F : List Addr} {H H' : Hp} {a pt : Addr} {x : HS} {past : List HS} (h : HeapAt C F H a pt x past) (k : KF F H H') (e1 : ∀ C dx fs, H a = some (.ins C dx fs) → H' a = some (.ins C dx fs)) (e2 : ∀ xs, H pt = some (.lst xs) → H' pt = some (.lst xs)) : HeapAt C F H' a pt x past := by
  obtain ⟨dx, pa, he, ea, hpa, hh, xp, ept, pp⟩ := h
  exact ⟨dx, pa, he, e1 _ _ _ ea, hpa.kt k.2, hh.kf k, xp, e2 _ ept, pairs_kf pp k⟩
theorem ExtS.kf {F S : List Addr} {H H' : Hp} (e : ExtS S H H') (hS : ∀ z ∈ S, z ∈ F) (nt : ∀ z ∈ S, ∀ ys, H z ≠ some (.tup ys)) : KF F H H' :=
  ⟨fun a xs h n => e a _ h (fun z => n (hS a z)) (fun ps y => nomatch y), fun a ys h => e a _ h (fun z => nt a z ys h) (fun ps y => nomatch y)⟩
theorem ExtS.lst {S : List Addr} {H H' : Hp} (e : ExtS S H H') {z : Addr} (n : z ∉ S) : ∀ xs, H z = some (.lst xs) → H' z = some (.lst xs) := fun xs h => e z _ h n (fun ps y => nomatch y)
theorem ExtS.ins {S : List Addr} {H H' : Hp} (e : ExtS S H H') {z : Addr} (n : z ∉ S) : ∀ C dx fs, H z = some (.ins C dx fs) → H' z = some (.ins C dx fs) := fun _ _ _ h => e z _ h n (fun ps y => nomatch y)
theorem ExtS.mono {S T : List Addr} {H H' : Hp} (e : ExtS S H H') (h : ∀ x ∈ S, x ∈ T) : ExtS T H H' := fun b o hb n t => e b o hb (fun z => n (h b z)) t
theorem ExtS.trans {S : List Addr} {H H1 H2 : Hp} (a : ExtS S H H1) (b : ExtS S H1 H2) : ExtS S H H2 := fun c o h n t => b c o (a c o h n t) n t
theorem ExtS.keep {S : List Addr} {H H' : Hp} (k : Keep S H H') : ExtS S H H' := fun b o h n _ => k b o h n
theorem Keep.toF {F S : List Addr} {H H' : Hp} (k : Keep S H H') : ExtS S H H' := fun b o h n _ => k b o h n
theorem Box.extS {S : List Addr} {H H' : Hp} {b l : Addr} (B : Box H b l) (e : ExtS S H H') (hb : b ∉ S) (hl : l ∉ S) : Box H' b l := by
  obtain ⟨ne, ⟨n, e1⟩, ns, e2⟩ := B
  exact ⟨ne, ⟨n, e.lst hb _ e1⟩, ns, e.lst hl _ e2⟩
theorem NT.extS {F S : List Addr} {Pt : Addr} {H H' : Hp} (n : NT F Pt H) (f : FOk F H) (e : ExtS S H H') (hS : ∀ z ∈ S, ∀ ps, H' z ≠ some (.tbl ps)) : NT F Pt H' := fun z hz hp ps y => by
  by_cases m : z ∈ S
  · exact hS z m ps y
  · cases q : H z with
    | none => exact f z hz q
    | some o =>
      have := e z o q m (fun ps' w => n z hz hp ps' (by rw [q, w]))
      rw [this] at y
      cases y
      exact n z hz hp ps q
theorem sll_any {K : PySem.W.Frag} {H : Hp} {a : Addr} {xs : List V} {lo hi : Option Int} {Q : VK} (ea : H a = some (.lst xs)) (q : ∀ (p : Addr) (H' : Hp), Same H H' → H p = none → H' p = some (.lst (cutV xs lo hi)) → Q (.ref p) H') : rSlL K (.ref a) lo hi H Q :=
  ⟨a, xs, rfl, SqL.of ea, fun p hp => q p _ (Same.new hp) hp upd_same⟩
theorem catl_any {H : Hp} {a b : Addr} {xs ys : List V} {Q : VK} (ea : H a = some (.lst xs)) (eb : H b = some (.lst ys)) (hl : xs.length + ys.length ≤ 1000) (q : ∀ (p : Addr) (H' : Hp), Same H H' → H p = none → H' p = some (.lst (xs ++ ys)) → Q (.ref p) H') : rCat (.ref a) (.ref b) H Q :=
  ⟨a, b, xs, ys, rfl, rfl, ea, eb, szN hl, fun p hp => q p _ (Same.new hp) hp upd_same⟩
theorem head_snoc {l : List HS} {a b : HS} : ((l ++ [a]) ++ [b]).head? = (l ++ [a]).head? := by cases l <;> rfl
theorem one_el {tc : TT} {t u : TS} {D : Ends} {σ : St} {H : Hp} {b : Bool} (h : ∀ Q : Bool → Hp → Prop, Q b H → tc σ H Q) (k1 : b = true → t D σ H) (k2 : b = false → u D σ H) : tIfS tc t u D σ H := h _ (by
  cases b with
  | true => exact iteT (k1 rfl)
  | false => exact iteF (k2 rfl))
theorem BK.kf {F : List Addr} {b l : Addr} {H H' : Hp} (B : Box H b l) (k : BK b l H H') (hb : b ∈ F) (hl : l ∈ F) : KF F H H' := ⟨KL.of (k.2.mono (by simp [hb, hl])), k.tup B⟩
theorem BK.fok {F : List Addr} {b l : Addr} {H H' : Hp} (h : FOk F H) (k : BK b l H H') : FOk F H' := h.keep k.2 fun z hz e => by
  obtain ⟨⟨ne, ⟨n, e1⟩, ns, e2⟩, _⟩ := k
  rcases List.mem_cons.mp hz with rfl | hz
  · rw [e1] at e; cases e
  · rw [List.mem_singleton.mp hz, e2] at e; cases e
structure LK (C : Addr) (F : List Addr) (FL : List Str) (b l L Pt ha pt : Addr) (x : HS) (past : List HS) (H : Hp) : Prop where
  B : Box H b l
  LF : L ∉ F
  eL : H L = some (.lst (FL.map V.str))
  hh : HeapAt C F H ha pt x past
  hG : GoodS x
  hF : FOk F H
  T : Tabs (lamT Pt) H
  N : NT F Pt H
structure GeoK (F : List Addr) (b l Pt ha pt : Addr) : Prop where
  inF : ∀ z ∈ [b, l, ha, pt, Pt], z ∈ F
  nd : [b, l, ha, pt].Nodup
theorem Box.nt {b l : Addr} {H : Hp} (B : Box H b l) : ∀ z ∈ [b, l], (∀ ys, H z ≠ some (.tup ys)) ∧ ∀ ps, H z ≠ some (.tbl ps) := fun z hz => by
  obtain ⟨_, ⟨n, e1⟩, ns, e2⟩ := B
  rcases List.mem_cons.mp hz with rfl | hz
  · rw [e1]
    exact ⟨(fun _ q => nomatch q), (fun _ q => nomatch q)⟩
  · rw [List.mem_singleton.mp hz, e2]
    exact ⟨(fun _ q => nomatch q), (fun _ q => nomatch q)⟩
section
variable {C b l L Pt ha pt : Addr} {F : List Addr} {FL : List Str} {x : HS} {past : List HS} {H H' : Hp}
theorem HeapAt.nt {a : Addr} (h : HeapAt C F H a pt x past) : ∀ z ∈ [a, pt], (∀ ys, H z ≠ some (.tup ys)) ∧ ∀ ps, H z ≠ some (.tbl ps) := fun z hz => by
  obtain ⟨dx, pa, he, ea, _, _, xs, ep, _⟩ := h
  rcases List.mem_cons.mp hz with rfl | hz
  · rw [ea]
    exact ⟨(fun _ q => nomatch q), (fun _ q => nomatch q)⟩
  · rw [List.mem_singleton.mp hz, ep]
    exact ⟨(fun _ q => nomatch q), (fun _ q => nomatch q)⟩
theorem HeapAt.kf2 {a : Addr} (h : HeapAt C F H a pt x past) (k : KF F H H') (e1 : ∀ C dx fs, H a = some (.ins C dx fs) → H' a = some (.ins C dx fs)) (e2 : ∀ xs, H pt = some (.lst xs) → H' pt = some (.lst xs)) : HeapAt C F H' a pt x past := by
  obtain ⟨dx, pa, he, ea, hpa, hh, xp, ept, pp⟩ := h
  exact ⟨dx, pa, he, e1 _ _ _ ea, hpa.kt k.2, hh.kf k, xp, e2 _ ept, pairs_kf pp k⟩
theorem LK.same (h : LK C F FL b l L Pt ha pt x past H) (s : Same H H') : LK C F FL b l L Pt ha pt x past H' :=
  ⟨h.B.same s, h.LF, s _ _ h.eL, h.hh.same s, h.hG, h.hF.same s, h.T.ext s, h.N.extS (S := []) h.hF (fun b o e _ _ => s b o e) (fun z hz => nomatch hz)⟩
theorem LK.bk (h : LK C F FL b l L Pt ha pt x past H) (g : GeoK F b l Pt ha pt) (k : BK b l H H') : LK C F FL b l L Pt ha pt x past H' ∧ KF F H H' := by
  have bF : b ∈ F := g.inF b (by simp)
  have lF : l ∈ F := g.inF l (by simp)
  have kf := BK.kf h.B k bF lF
  have nd := g.nd
  simp only [List.nodup_cons, List.mem_cons, List.not_mem_nil, or_false, not_or, not_false_eq_true, List.nodup_nil, and_true] at nd
  obtain ⟨⟨nbl, nba, nbp⟩, ⟨nla, nlp⟩, nap⟩ := nd
  have LN : L ∉ [b, l] := fun m => h.LF (by
    rcases List.mem_cons.mp m with rfl | m
    · exact bF
    · rw [List.mem_singleton.mp m]
      exact lF)
  have ex : ExtS [b, l] H H' := ExtS.keep k.2
  exact ⟨⟨k.1, h.LF, k.2 _ _ h.eL LN, h.hh.kf2 kf (fun _ _ _ z => k.2 _ _ z (by simp [Ne.symm nba, Ne.symm nla])) (fun _ z => k.2 _ _ z (by simp [Ne.symm nbp, Ne.symm nlp])), h.hG, BK.fok h.hF k, tabs_keep h.T h.B k.2, h.N.extS h.hF ex fun z hz ps => (k.1.nt z hz).2 ps⟩, kf⟩
/-- a table is made -/
theorem LK.ext (h : LK C F FL b l L Pt ha pt x past H) (e : ExtN H H') (t : Tabs (lamT Pt) H') : LK C F FL b l L Pt ha pt x past H' ∧ KF F H H' := by
  have kf : KF F H H' := ⟨fun c xs z _ => e c _ z (fun ps y => nomatch y), fun c xs z => e c _ z (fun ps y => nomatch y)⟩
  refine ⟨⟨h.B.extS (S := []) (fun b o e' _ n => e b o e' n) (fun z => nomatch z) (fun z => nomatch z), h.LF, e _ _ h.eL (fun ps y => nomatch y), h.hh.ext e, h.hG, h.hF.ext h.N e t, t, h.N.extS (S := []) h.hF (fun b o e' _ n => e b o e' n) (fun z hz => nomatch hz)⟩, kf⟩
/-- a deed changes the heap's own alone -/
theorem LK.deed (h : LK C F FL b l L Pt ha pt x past H) (g : GeoK F b l Pt ha pt) {y : HS} {p : List HS} (hh : HeapAt C F H' ha pt y p) (k : Keep [ha, pt] H H') (hF : FOk F H') (hG : GoodS y) : LK C F FL b l L Pt ha pt y p H' ∧ KF F H H' := by
  have nd := g.nd
  simp only [List.nodup_cons, List.mem_cons, List.not_mem_nil, or_false, not_or, not_false_eq_true, List.nodup_nil, and_true] at nd
  obtain ⟨⟨nbl, nba, nbp⟩, ⟨nla, nlp⟩, nap⟩ := nd
  have aF : ha ∈ F := g.inF ha (by simp)
  have pF : pt ∈ F := g.inF pt (by simp)
  have sF : ∀ z ∈ [ha, pt], z ∈ F := by simp [aF, pF]
  have e : ExtS [ha, pt] H H' := ExtS.keep k
  refine ⟨⟨h.B.extS e (by simp [nba, nbp]) (by simp [nla, nlp]), h.LF, k _ _ h.eL (fun m => h.LF (sF _ m)), hh, hG, hF, tabs_keepS h.T k fun z hz => ?_, h.N.extS h.hF e fun z hz ps => (hh.nt z hz).2 ps⟩, e.kf sF (fun z hz => (h.hh.nt z hz).1)⟩
  obtain ⟨dx, pa, he, ea, _, _, xs, ep, _⟩ := h.hh
  rcases List.mem_cons.mp hz with rfl | hz
  · exact .inr ⟨_, _, _, ea⟩
  · rw [List.mem_singleton.mp hz]
    exact .inl ⟨_, ep⟩
end
end MS
end
section
set_option maxRecDepth 100000
set_option maxHeartbeats 4000000
namespace MS
open PySem L2
open HeY LamX XLs XQs
/-! ### a step told otherwise, then as it was -/
theorem row_dp {K : PySem.W.Frag} {H : Hp} {r : Row} {v : V} (h : RowR H r v) : Dp K H v (rowDt r) := by
  have := rowsV_dp (K := K) (Paired.cons h .nil)
  cases this with
  | cons h _ => exact h
theorem not_any (B : List Row) (r : Row) : (!(B.map rowDt).any fun z => PyData.eqv z (rowDt r)) = (!(B.any fun z => decide (z = r))) := by
  rw [List.any_map]
  congr 2
  funext z
  exact rowDt_eqv z r
theorem rowDt_sh (r : Row) : ShN 2 (rowDt r) := ShN.tup (.cons (.int _) (.cons (.int _) (.cons (ShN.tup (sh_ints 0 _)) .nil)))
theorem filter_snoc {α : Type} {f : α → Bool} {l : List α} {x : α} : (l ++ [x]).filter f = l.filter f ++ if f x = true then [x] else [] := by
  rw [List.filter_append]
  congr 1
  cases h : f x <;> simp [h]
/-- lists of tuples of ints, told by their items -/
def TL (H : Hp) (L : List (Addr × List Int)) : Prop := ∀ q ∈ L, H q.1 = some (.tup (q.2.map V.int))
theorem TL.kt {H H' : Hp} {L : List (Addr × List Int)} (h : TL H L) (k : TupK H H') : TL H' L := fun q hq => k _ _ (h q hq)
def tisD (l : List (List Int)) : PyData := .list (l.map fun k => PyData.tuple (k.map PyData.int))
theorem tisD_sh (l : List (List Int)) : ShN 2 (tisD l) := .lst (ShAll.of fun d h => by
  obtain ⟨k, _, rfl⟩ := List.mem_map.mp h
  exact .tup (sh_ints 0 _))
theorem tl_dp {K : PySem.W.Frag} {H : Hp} : ∀ {L : List (Addr × List Int)}, TL H L → DpAll K H (L.map fun q => V.ref q.1) ((L.map (·.2)).map fun k => PyData.tuple (k.map PyData.int))
  | [], _ => .nil
  | q :: t, h => .cons (.tup (SqT.of (h q List.mem_cons_self)) (dp_ints _)) (tl_dp fun z hz => h z (List.mem_cons_of_mem _ hz))
abbrev s_L_reread : Stmt := topS 66
abbrev nmRe : List Str := ["_law_box", "_law_heap", "_law_letters_here", "_law_number", "_law_work_here", "_law_before", "_law_place", "_law_there", "_law_later", "_law_ahead", "_law_now", "_law_back", "_law_row"]
abbrev psRe : List Str := ["_law_box", "_law_heap", "_law_letters_here"]
theorem sc_L_reread : FnScope nmRe psRe (defScope s_L_reread) := ⟨rfl, rfl, rfl, by decide +kernel, rfl, by decide +kernel, by decide +kernel⟩
def spRe (C Pt : Addr) : Sp := fun vs H Q _ => ∃ (F : List Addr) (b l L ha pt : Addr) (FL : List Str) (x : HS) (past : List HS), vs = [.ref b, .ref ha, .ref L] ∧ (∀ y ∈ FL, IsW y) ∧ 0 < FL.length ∧ FL.length ≤ 8 ∧ LK C F FL b l L Pt ha pt x past H ∧ GeoK F b l Pt ha pt ∧ 0 < x.2.length ∧ past.length ≤ 800 ∧
  ∀ (n : Nat) (past' : List HS) (H' : Hp), LK C F FL b l L Pt ha pt x past' H' → past'.length = past.length + n → n ≤ 3 → (past' ++ [x]).head? = (past ++ [x]).head? → KF F H H' → Q (.int ((n : Nat) : Int)) H'
section
variable {P : Program} {w : World} {K : PySem.W.Frag} {mg : Str → Option Value} {base : Heap} {C CV : Addr}
theorem ok_re (T : PTx w K mg) (F : ErrF K mg) (YV : VCls K mg CV) (DRw : DRows K mg) (DP : DPaper K mg) (DH : DHeap K mg) (Y : HCls K mg C) (RW : Wr P w K mg base) (RS : Rs0 K mg "BadStep") (hS : RS.C = F.A 2) (hex : PySem.W.exmOne K (.ref RW.C) (.ref RW.C) = some true)
    (DTo : Def K mg "_law_told" s_L_told ["_law_work_here"]) (DT : Def K mg "_law_take" s_L_take ["_law_box", "_law_many"]) (DSt : Def K mg "_law_step" s_L_step ["_law_box", "_law_letters_here", "_law_was_wrong"]) (DSh : Def K mg "_law_shown" s_L_shown ["_law_heap"])
    (D : Def K mg "_law_reread" s_L_reread psRe) {c Pt : Addr} (TB : TabB base mg c Pt) (hc : CodeAt K D.f c) : FnOk P w K mg base CX0 98 D.f D.fd psRe (spRe C Pt) := by
  have GT : FnOk P w K mg base CX0 1 DT.f DT.fd ["_law_box", "_law_many"] spTake := ok_take DT
  have GW : FnOk P w K mg base CX0 4 Y.DW.f Y.DW.fd ["self", "number"] (spHWork C) := ok_hwork T Y DH.DPl DP.DN
  have GRo : FnOk P w K mg base CX0 4 Y.DRo.f Y.DRo.fd ["self", "number"] (spHRows C) := ok_hrows T Y DH.DPl DP.DN
  have GS : FnOk P w K mg base CX0 2 Y.DS.f Y.DS.fd ["self"] (spSheet C) := ok_sheet T Y DRw.DPt
  have GSw : FnOk P w K mg base CX0 5 DSh.f DSh.fd ["_law_heap"] (spShown C) := ok_shown T DRw DP DH Y DSh
  have ml : mg "len" = none := T.free "len" (by decide +kernel)
  have mis : mg "isinstance" = none := T.free "isinstance" (by decide +kernel)
  have mt : mg "tuple" = none := T.free "tuple" (by decide +kernel)
  have mso : mg "sorted" = none := T.free "sorted" (by decide +kernel)
  have mse : mg "set" = none := T.free "set" (by decide +kernel)
  have GSt0 : FnOk P w K mg base CX0 2 DSt.f DSt.fd ["_law_box", "_law_letters_here", "_law_was_wrong"] spStep := ok_step DSt DT ml
  have GSt : FnOk P w K mg base (L2.CX P w) 2 DSt.f DSt.fd ["_law_box", "_law_letters_here", "_law_was_wrong"] spStep := GSt0.weakCX fun _ _ _ _ _ _ h => h.elim
  have GR : FnOk P w K mg base (L2.CX P w) 95 Y.DR.f Y.DR.fd psReread (spReread C RS.C) := ok_reread T YV DRw DP DH Y RW RS hex
  have GR0 : FnOk P w K mg base CX0 95 Y.DR.f Y.DR.fd psReread (fun vs H Q _ => spReread C RS.C vs H Q (fun _ _ _ => False)) := GR.noX
  have nd := sc_L_reread.nd
  refine Def.okC D hc sc_L_reread (fun vs H Q E h => ?_) (fun A outer s H vs Q E hr h => ?_)
  · obtain ⟨F0, b, l, L, ha, pt, FL, x, past, rfl, _⟩ := h
    rfl
  obtain ⟨F0, b, l, L, ha, pt, FL, x, past, rfl, w1, l0, l1, J, g, hpos, hlp, q⟩ := h
  have r1 : Room 1 _ := hr.mono (by decide)
  have r2 : Room 2 _ := hr.mono (by decide)
  have r4 : Room 4 _ := hr.mono (by decide)
  have r5 : Room 5 _ := hr.mono (by decide)
  have r95 : Room 95 _ := hr.mono (by decide)
  have r97 : Room (95 + 2) _ := hr
  have hu65 : (A.deeper (PyProof.Rows.envOfC "_law_reread" (defScope s_L_reread) s.heap.objs.size D.f (.ref c))).units + 65 < cLine := by have := hr.un; omega
  refine ⟨_, pss_cons (ps_set (i := 3) nd rfl (Or.inr rfl) (pcall DT GT r1 (pa_cons (pv 0) (pa_cons (pe_callB call_len_seq rfl ml PySem.boot_len (pa_cons (pe_meth0 (pv 1) Y.cl Y.DS.me GS r2 Y.DS.b .nil pass0) pa_nil)) pa_nil))))
    (pss_cons (ps_asg (pe_tup (pa_cons (pe_meth (pv 1) Y.cl Y.DW.me GW r4 Y.DW.b .nil pass0 (pa_cons (pv 3) pa_nil)) (pa_cons (pcall DSh GSw r5 (pa_cons (pv 1) pa_nil)) pa_nil))) (pg_tup (by rfl) (pgs_cons (pg_name (i := 4) nd rfl (Or.inl rfl)) (pgs_cons (pg_name (i := 5) nd rfl (Or.inr rfl)) pgs_nil))))
    (pss_cons (ps_if (pt_cmpR (op_eqD hr.units) (pv 4) (pe_lst pa_nil) (nomark _)) (pss_one (ps_ret pe_int)) pss_nil)
    (pss_cons (ps_set (i := 6) nd rfl (Or.inr rfl) (pcall DT GT r1 (pa_cons (pv 0) (pa_cons (pe_callB call_len_seq rfl ml PySem.boot_len (pa_cons (pv 4) pa_nil)) pa_nil))))
    (pss_cons (ps_set (i := 7) nd rfl (Or.inl rfl) (pe_told (T := lamT Pt) (k := 95) (c := c) (P := Pt) (t := fun E => tMeth C "reread" (spReread C RS.C) [] E (tVar 1) (tCons (tVar 3) (tCons (tVar 6) (tCons (tCall spStep [] E (tCons (tVar 0) (tCons (tVar 2) (tCons (tC (.bl true)) tNil)))) tNil)))) F DTo rfl TB rfl List.mem_cons_self (fun p hp _ => by rw [List.mem_singleton.mp hp]; rfl) r97 (show LamS (defScope s_L_reread) _ from lamS_by (by decide +kernel)) rfl (fun _ _ _ _ _ => rfl)
        (fun A outer s H E f c' hr2 => pmeth_lam (pv_lam (i := 1) rfl rfl (by decide) (by decide)) Y.cl Y.DR GR hr2 (pa_cons (pv_lam (i := 3) rfl rfl (by decide) (by decide)) (pa_cons (pv_lam (i := 6) rfl rfl (by decide) (by decide)) (pa_cons (pcall_lam DSt GSt (hr2.mono (by decide)) (pa_cons (pv_lam (i := 0) rfl rfl (by decide) (by decide)) (pa_cons (pv_lam (i := 2) rfl rfl (by decide) (by decide)) (pa_cons pe_bl pa_nil))) rfl (by decide) rfl rfl) pa_nil))) rfl rfl rfl)))
    (pss_cons (ps_if (pt_val (pe_callB call_isi rfl mis (by decide +kernel) (pa_cons (pv 7) (pa_cons (pe_bltn rfl mt (by decide +kernel) (v := .ty "tuple") rfl) pa_nil))))
      (pss_one (ps_ret (pe_ifExp (PW.pt (pw_and (pt_cmpR (op_eqD hr.units) (pv 7) (pe_tup (pa_cons pe_str (pa_cons pe_int pa_nil))) (nomark _)) (pw_and1 (pt_cmpR (op_eqD hr.units) (pcall DSh GSw r5 (pa_cons (pv 1) pa_nil)) (pv 5) (nomark _))))) pe_int pe_non))) pss_nil)
    (pss_cons (ps_set (i := 8) nd rfl (Or.inr rfl) (pe_meth (pv 1) Y.cl Y.DRo.me GRo r4 Y.DRo.b .nil pass0 (pa_cons (pv 3) pa_nil)))
    (pss_cons (ps_setLc (i := 9) (own := [("_law_row", 12)]) (g := gName 12) (tt := tTest (tOp (rNotInD K) (tVar 12) (tVar 8))) (te := tVar 12) rfl nd rfl rfl (sw_true rfl rfl rfl (by decide +kernel)) (pi_list (pe_ix ix_list (pe_ix ix_list (pv 5) pe_int (fun _ _ => rfl)) (pv 3) (fun _ _ => rfl))) (blkOk_by (N := nmRe) (sc := defScope s_L_reread) (by decide +kernel)) (fun _ _ _ _ _ => pg_name (i := 12) nd rfl (Or.inl rfl))
        (fun _ _ _ _ _ => pts_one (pt_cmpR (op_notInD hu65) (pv 12) (pv 8) (by rfl))) (fun _ _ _ _ _ => pv 12))
    (pss_cons (ps_setLc (i := 10) (own := [("_law_row", 12)]) (g := gName 12) (tt := tTest (tOp (rNotInD K) (tVar 12) (tOp (rIxL K) (tOp (rIxL K) (tVar 5) (tC (.int 1))) (tVar 3)))) (te := tVar 12) rfl nd rfl rfl (sw_true rfl rfl rfl (by decide +kernel)) (pi_list (pv 8)) (blkOk_by (N := nmRe) (sc := defScope s_L_reread) (by decide +kernel)) (fun _ _ _ _ _ => pg_name (i := 12) nd rfl (Or.inl rfl))
        (fun _ _ _ _ _ => pts_one (pt_cmpR (op_notInD hu65) (pv 12) (pe_ix (r := rIxL K) ix_list (pe_ix (r := rIxL K) ix_list (pv 5) pe_int (fun _ _ => rfl)) (pv 3) (fun _ _ => rfl)) (by rfl))) (fun _ _ _ _ _ => pv 12))
    (pss_cons (ps_if (pt_cmpR (op_neD hr.units)
        (pe_callB (cr_sortedLV rfl hr.units) rfl mso (by decide +kernel) (pa_cons (pe_lc (own := [("_law_row", 12)]) (g := gName 12) (tt := tYes) (te := tOp (rIxT K) (tVar 12) (tC (.int 0))) rfl nd (pi_list (pv 7)) (blkOk_by (N := nmRe) (sc := defScope s_L_reread) (by decide +kernel)) (fun _ _ _ _ _ => pg_name (i := 12) nd rfl (Or.inl rfl)) (fun _ _ _ _ _ => pts_nil) (fun _ _ _ _ _ => pe_ix (r := rIxT K) ix_tup (pv 12) pe_int (fun _ _ => rfl))) pa_nil))
        (pe_callB (cr_sortedS rfl hr.units) rfl mso (by decide +kernel) (pa_cons (pe_callTy (cr_setOfT rfl hr.units) rfl mse (by decide +kernel) (pa_cons (pe_lc (own := [("_law_row", 12)]) (g := gName 12) (tt := tYes) (te := tOp (rIxT K) (tVar 12) (tC (.int 2))) rfl nd (pi_list (pe_op op_cat (pv 9) (pv 10))) (blkOk_by (N := nmRe) (sc := defScope s_L_reread) (by decide +kernel)) (fun _ _ _ _ _ => pg_name (i := 12) nd rfl (Or.inl rfl)) (fun _ _ _ _ _ => pts_nil) (fun _ _ _ _ _ => pe_ix (r := rIxT K) ix_tup (pv 12) pe_int (fun _ _ => rfl))) pa_nil)) pa_nil)) (nomark _)) (pss_one (ps_ret pe_non)) pss_nil)
    (pss_cons (ps_set (i := 11) nd rfl (Or.inl rfl) (pe_meth (pv 1) Y.cl Y.DR.me GR0 r95 Y.DR.b .nil pass0 (pa_cons (pv 3) (pa_cons (pv 6) (pa_cons (pe_ix ix_list (pv 4) (pv 6) (fun _ _ => rfl)) pa_nil)))))
    (pss_one (ps_ret (pe_ifExp (PW.pt (pw_and (pt_cmpR (op_eqD hr.units) (pv 11) (pe_lc (own := [("_law_row", 12)]) (g := gName 12) (tt := tYes) (te := tTup (tCons (tOp (rIxT K) (tVar 12) (tC (.int 0))) (tCons (tOp (rIxT K) (tVar 12) (tC (.int 2))) (tCons (tOp (rIxT K) (tVar 12) (tC (.int 1))) tNil)))) rfl nd (pi_list (pv 7)) (blkOk_by (N := nmRe) (sc := defScope s_L_reread) (by decide +kernel)) (fun _ _ _ _ _ => pg_name (i := 12) nd rfl (Or.inl rfl)) (fun _ _ _ _ _ => pts_nil)
          (fun _ _ _ _ _ => pe_tup (pa_cons (pe_ix (r := rIxT K) ix_tup (pv 12) pe_int (fun _ _ => rfl)) (pa_cons (pe_ix (r := rIxT K) ix_tup (pv 12) pe_int (fun _ _ => rfl)) (pa_cons (pe_ix (r := rIxT K) ix_tup (pv 12) pe_int (fun _ _ => rfl)) pa_nil))))) (nomark _)) (pw_and1 (pt_cmpR (op_eqD hr.units) (pcall DSh GSw r5 (pa_cons (pv 1) pa_nil)) (pv 5) (nomark _))))) pe_int pe_non))))))))))))), ?_⟩
  have bF : b ∈ F0 := g.inF b (by simp)
  have lF : l ∈ F0 := g.inF l (by simp)
  have aF : ha ∈ F0 := g.inF ha (by simp)
  have pF : pt ∈ F0 := g.inF pt (by simp)
  have nLb : L ≠ b := fun e => J.LF (by rw [e]; exact bF)
  have nLl : L ≠ l := fun e => J.LF (by rw [e]; exact lF)
  obtain ⟨dx, pa2, he, ea, hpa2, ⟨xs, eh, heF, pr⟩, _⟩ := id J.hh
  have hP := J.hG.1
  have hWs := J.hG.2.1
  have h20 := J.hG.2.2
  refine ⟨_, rfl, _, rfl, ha, dx, _, rfl, ea, hf_no _ _ _ (by decide +kernel) (by decide +kernel) (by decide +kernel), F0, ha, pt, x, past, rfl, J.hh, J.hG, fun f0 H0 s0 hf0 ef0 => ⟨f0, _, rfl, .inl (SqL.of ef0), ?_⟩⟩
  have J0 := J.same s0
  refine ⟨b, l, _, rfl, by rw [List.length_map]; omega, by rw [List.length_map]; omega, J0.B, fun r H1 c0 c1 B1 k1 => ?_⟩
  rw [List.length_map] at c1
  obtain ⟨J1, kf1⟩ := J0.bk g ⟨B1, k1⟩
  have kf01 : KF F0 H H1 := (KF.same s0).trans kf1
  obtain ⟨n, rfl⟩ : ∃ n : Nat, r = ((n : Nat) : Int) := ⟨r.toNat, by omega⟩
  have hn : n < x.2.length := by omega
  obtain ⟨ws, en⟩ : ∃ ws, x.2[n]? = some ws := ⟨_, List.getElem?_eq_getElem hn⟩
  have hW : WorkOk ws := hWs _ (List.mem_of_getElem? en)
  have hw12 := hW.2
  have lws : (stepsV ws).length = ws.length := List.length_map _
  dsimp only [gName]
  clear ea eh pr hpa2 heF ef0 J0
  obtain ⟨dx, pa2, he, ea, hpa2, ⟨xs, eh, heF, pr⟩, _⟩ := id J1.hh
  obtain ⟨v1, ev1, t1, a1, r1', rv1, rfl, et1, ew1, a1F, er1, r1F, pR1⟩ := paired_get2 pr en
  refine ⟨_, rfl, ha, dx, _, rfl, ea, hf_no _ _ _ (by decide +kernel) (by decide +kernel) (by decide +kernel), _, rfl, ha, dx, pa2, he, pt, t1, a1, r1', xs, stepsV ws, n, rfl, ea, eh, ev1, et1, ew1, fun l2 hl2 => ?_⟩
  have s2 : Same H1 (upd H1 l2 (.lst (stepsV ws))) := Same.new hl2
  have J2 := J1.same s2
  have l2F : l2 ∉ F0 := J1.hF.nin hl2
  have el2 : upd H1 l2 (.lst (stepsV ws)) l2 = some (.lst (stepsV ws)) := upd_same
  generalize upd H1 l2 (.lst (stepsV ws)) = H2 at *
  refine ⟨_, rfl, F0, ha, pt, x, past, rfl, J2.hh, J2.hG, J2.hF, fun fs H3 s3 hfs shw3 => ⟨sz2, fun t0 ht0 => ⟨t0, _, rfl, SqT.of upd_same, rfl, _, _, rfl, _, _, rfl, rfl, ?_⟩⟩⟩
  have s4 : Same H3 (upd H3 t0 (.tup [.ref l2, .ref fs])) := Same.new ht0
  have J4 := (J2.same s3).same s4
  have shw4 : Shw F0 _ x fs := shw3.kf (KF.same s4)
  have el4 := s4 _ _ (s3 _ _ el2)
  have kf04 : KF F0 H _ := ((kf01.trans (KF.same s2)).trans (KF.same s3)).trans (KF.same s4)
  generalize upd H3 t0 (.tup [.ref l2, .ref fs]) = H4 at *
  clear shw3 J2 s2 s3 s4 J1
  dsimp only [gName]
  have shW : ShN 1 (.list (stepsD ws)) := .lst (steps_sh hW.1.all)
  refine seq_new (b := ws.isEmpty) (fun Q q => ⟨_, rfl, Nat.zero_le _, fun e he => ⟨.list (stepsD ws), .list [], .lst (SqL.of (Same.new he _ _ el4)) (steps_dp ws), .lst (SqL.of upd_same) .nil, shW.ok (by decide), rfl, _, rfl, ?_⟩⟩) (fun _ H5 s5 => ?_) (fun hne H5 s5 => ?_)
  · rw [list_nil, show (stepsD ws).isEmpty = ws.isEmpty by unfold stepsD; cases ws <;> rfl]
    exact q _ (Same.new he)
  · exact q 0 past H5 (J4.same s5) rfl (by decide) rfl (kf04.trans (KF.same s5))
  have J5 := J4.same s5
  have shw5 := shw4.kf (KF.same s5)
  have el5 := s5 _ _ el4
  have kf05 := kf04.trans (KF.same s5)
  have hwp : 0 < ws.length := by
    cases ws with
    | nil => exact absurd hne (by decide)
    | cons _ _ => exact Nat.succ_pos _
  clear J4 shw4 el4 kf04
  refine ⟨_, rfl, _, rfl, l2, _, rfl, .inl (SqL.of el5), ?_⟩
  refine ⟨b, l, _, rfl, by rw [lws]; omega, by rw [lws]; omega, J5.B, fun r H6 d0 d1 B6 k6 => ?_⟩
  rw [lws] at d1
  obtain ⟨J6, kf6⟩ := J5.bk g ⟨B6, k6⟩
  have kf06 := kf05.trans kf6
  have shw6 := shw5.kf kf6
  have el6 := kf6.1 _ _ el5 l2F
  obtain ⟨k, rfl⟩ : ∃ k : Nat, r = ((k : Nat) : Int) := ⟨r.toNat, by omega⟩
  have hk : k < ws.length := by omega
  dsimp only [gName]
  clear J5 shw5 el5 kf05
  -- told
  refine ⟨J6.T, fun H7 e7 T7 => ?_⟩
  obtain ⟨J7, kf7⟩ := J6.ext e7 T7
  have kf07 := kf06.trans kf7
  obtain ⟨dx7, pa7, he7, ea7, _⟩ := id J7.hh
  refine ⟨_, rfl, ha, dx7, _, rfl, ea7, hf_no _ _ _ (by decide +kernel) (by decide +kernel) (by decide +kernel), _, rfl, _, rfl, _, rfl, _, rfl, b, l, L, FL, true, rfl, J7.B, nLb, nLl, J7.eL, w1, l0, l1, fun p H8 hp _ B8 k8 => ?_⟩
  obtain ⟨J8, kf8⟩ := J7.bk g ⟨B8, k8⟩
  have kf08 := kf07.trans kf8
  have shw8 := (shw6.kf kf7).kf kf8
  have el8 := kf8.1 _ _ (kf7.1 _ _ el6 l2F) l2F
  clear J6 shw6 el6 kf06 J7 kf07 ea7
  have i1 : SqL K H8 fs _ := SqL.of shw8.choose_spec.choose_spec.choose_spec.choose_spec.choose_spec.1
  refine ⟨F0, ha, pt, x, past, n, k, p, ws, rfl, J8.hh, J8.hG, J8.hF, aF, pF, by omega, en, hp, by omega, fun _ hwf f ms rv H9 hh9 k9 hF9 hf9 ef9 hms hrv => ?_, fun hbad => ?_⟩
  rotate_left
  · -- refused
    intro Hr sr
    refine ⟨2, [.int 0], by decide, by rw [hS], ⟨.inl rfl, rfl⟩, fun tt H9 s9 htt ett => ?_⟩
    have ett : H9 tt = some (.tup [.str "BadStep", .int 0]) := ett
    have J9 := (J8.same sr).same s9
    have kf09 := (kf08.trans (KF.same sr)).trans (KF.same s9)
    have shw9 := (shw8.kf (KF.same sr)).kf (KF.same s9)
    dsimp only [gName]
    refine seq_if (b := true) (fun Q q => ⟨_, rfl, _, .ty "tuple", .type "tuple", .type "tuple", true, rfl, .ty _, .base (.tup ett), kit_ty (by decide +kernel), _, rfl, q⟩) (fun _ => ?_) (fun z => nomatch z)
    have sb : ShN 1 (PyData.tuple [.str "BadStep", .int 0]) := .tup (.cons (.str (by decide +kernel)) (.cons (.int _) .nil))
    refine ⟨_, rfl, sz2, fun t2 ht2 => ⟨.tuple [.str "BadStep", .int 0], .tuple [.str "BadStep", .int 0], .tup (SqT.of (Same.new ht2 _ _ ett)) (.cons (.str _) (.cons (.int _) .nil)), .tup (SqT.of upd_same) (.cons (.str _) (.cons (.int _) .nil)), sb.ok (by decide), sb.ok (by decide), _, rfl, ?_⟩⟩
    rw [SeqAt.eqv_refl _ sb.1]
    have JA := J9.same (Same.new (o := .tup [.str "BadStep", .int 0]) ht2)
    have shwA := shw9.kf (KF.same (Same.new (o := .tup [.str "BadStep", .int 0]) ht2))
    have kf0A := kf09.trans (KF.same (Same.new (o := .tup [.str "BadStep", .int 0]) ht2))
    refine iteT ⟨_, rfl, F0, ha, pt, x, past, rfl, JA.hh, JA.hG, JA.hF, fun f2 HB sB hf2 shwB => ⟨_, rfl, shownD x, shownD x, shwB.dp, (shwA.kf (KF.same sB)).dp, (shownD_sh JA.hG).ok (by decide), (shownD_sh JA.hG).ok (by decide), _, rfl, ?_⟩⟩
    rw [shown_eq JA.hG]
    exact iteT (q 0 past HB (JA.same sB) rfl (by decide) rfl (kf0A.trans (KF.same sB)))
  -- another step: there
  have hW4 : WorkOk (setW ws k p) := ⟨hwf, by rw [setW_len hk]; exact hw12⟩
  obtain ⟨y, ey⟩ : ∃ y : HS, y = (x.1, setL x.2 n (setW ws k p)) := ⟨_, rfl⟩
  rw [← ey] at hh9
  have hGy : GoodS y := by
    rw [ey]
    refine ⟨hP, fun w hw => ?_, ?_⟩
    · rcases setL_mem hw with h | rfl
      · exact hWs _ h
      · exact hW4
    · rw [setL_len hn]
      exact h20
  have yn : y.2[n]? = some (setW ws k p) := by
    rw [ey]
    show (x.2.take n ++ [setW ws k p] ++ x.2.drop (n + 1))[n]? = _
    rw [List.append_assoc, List.getElem?_append_right (by rw [List.length_take]; omega), List.length_take, show n - min n x.2.length = 0 by omega]
    rfl
  have y1 : y.1 = x.1 := by rw [ey]
  obtain ⟨J9, kf9⟩ := J8.deed g hh9 k9 hF9 hGy
  have kf09 := kf08.trans kf9
  have shw9 := shw8.kf kf9
  have el9 := kf9.1 _ _ el8 l2F
  have f9F : f ∉ F0 := J8.hF.nin hf9
  have ndA : ((rAll x.1 ws).map fun r => r.2.2).Nodup := rAll_nd hP
  have ndB : ((rAll x.1 (setW ws k p)).map fun r => r.2.2).Nodup := rAll_nd hP
  have A7 : (rAll x.1 ws).length ≤ 7 := rAll_7 ⟨(x.1, ws), hP, hW⟩
  have B7 : (rAll x.1 (setW ws k p)).length ≤ 7 := rAll_7 ⟨(x.1, setW ws k p), hP, hW4⟩
  have hmem := dif_mem ndA ndB hms
  have hrise := difN_rise hms
  obtain ⟨rA, erA⟩ : ∃ rA, rA = rAll x.1 ws := ⟨_, rfl⟩
  obtain ⟨rB, erB⟩ : ∃ rB, rB = rAll x.1 (setW ws k p) := ⟨_, rfl⟩
  simp only [← erA, ← erB] at hrv hmem hrise hms ndA ndB A7 B7
  obtain ⟨dn, edn⟩ : ∃ dn, dn = difN (eD rA) (eD rB) ms := ⟨_, rfl⟩
  simp only [← edn] at hrv hmem hrise
  clear J8 kf08 shw8 el8 i1
  dsimp only [gName]
  refine seq_if (b := false) (fun Q q => ⟨_, rfl, _, .ty "tuple", .type "list", .type "tuple", false, rfl, .ty _, .base (.lst ef9), kit_ty (by decide +kernel), _, rfl, q⟩) (fun z => nomatch z) (fun _ => ?_)
  obtain ⟨dx9, pa9, he9, ea9, hpa9, ⟨xs9, eh9, he9F, pr9⟩, _⟩ := id J9.hh
  obtain ⟨v9, ev9, t9, a9, r9, rv9, rfl, et9, ew9, a9F, er9, r9F, pR9⟩ := paired_get2 pr9 yn
  have pR9 : Paired (RowR H9) rB rv9 := by rw [erB, ← y1]; exact pR9
  refine ⟨_, rfl, ha, dx9, _, rfl, ea9, hf_no _ _ _ (by decide +kernel) (by decide +kernel) (by decide +kernel), _, rfl, ha, dx9, pa9, he9, pt, t9, a9, r9, xs9, rv9, n, rfl, ea9, eh9, ev9, et9, er9, fun lB hlB => ?_⟩
  have sA : Same H9 (upd H9 lB (.lst rv9)) := Same.new hlB
  have elB : upd H9 lB (.lst rv9) lB = some (.lst rv9) := upd_same
  have JA := J9.same sA
  have pRB := paired_imp pR9 fun _ _ z => z.keep (Same.tupK sA)
  have shwA := shw9.kf (KF.same sA)
  have elA := sA _ _ el9
  have efA := sA _ _ ef9
  have hrvA : Paired (DR _ (eD rA) (eD rB)) dn rv := paired_imp hrv fun _ _ z => z.kt (Same.tupK sA)
  have kf0A := kf09.trans (KF.same sA)
  generalize upd H9 lB (.lst rv9) = HA at *
  dsimp only [gName]
  clear J9 shw9 el9 ef9 hrv kf09 ea9 eh9 et9 ew9 er9 pr9 hpa9 pR9
  obtain ⟨D1, D2, D3, fv1, fv2, esh, shF, eS1, nS1, pS1, eS2, nS2, pS2, eS3, nS3⟩ := id shwA
  obtain ⟨v2, ev2, la, rva, rfl, ela, pRA, laF⟩ := paired_get2 (k := n) (x := rA) pS2 (by rw [List.getElem?_map, en, erA]; rfl)
  have lRA := Paired.length pRA
  have lRB := Paired.length pRB
  -- ahead
  refine ⟨_, rfl, fs, _, 1, .ref D2, rfl, rfl, SqL.of esh, at1, _, rfl, D2, _, _, .ref la, rfl, rfl, SqL.of eS2, atI_nat ev2, la, rfl, ⟨_, SqL.of ela⟩, fun Da hDa => ?_⟩
  refine lc_list (K := K) (a := la) (xs := rva) (fun j H'' => ∃ fv, H'' Da = some (.lst fv) ∧ Paired (RowR H'') (lessR (rA.take j) rB) fv ∧ Same HA H'') ⟨[], upd_same, .nil, Same.new hDa⟩ (fun j H'' _ ⟨_, _, _, sm⟩ => SqL.of (sm _ _ ela)) ?_ ?_
  · rintro j v HB hj ⟨fv, eD, pf, sm⟩
    obtain ⟨r, er, hr0⟩ := paired_get' pRA hj
    have hr1 := hr0.keep (Same.tupK sm)
    have tk : rA.take (j + 1) = rA.take j ++ [r] := by
      rw [List.take_succ, er]
      rfl
    have hjl := (List.getElem?_eq_some_iff.mp er).1
    have lf := Paired.length pf
    have lf2 : (lessR (rA.take j) rB).length ≤ (rA.take j).length := List.length_filter_le _ _
    rw [List.length_take] at lf2
    have lsn : lessR (rA.take (j + 1)) rB = lessR (rA.take j) rB ++ if (!(rB.any fun z => decide (z = r))) = true then [r] else [] := by
      rw [tk]
      exact filter_snoc
    refine ⟨rfl, _, rfl, _, rfl, rowDt r, rB.map rowDt, row_dp hr1, .lst (SqL.of (sm _ _ elB)) (rowsV_dp (paired_imp pRB fun _ _ z => z.keep (Same.tupK sm))), (rowDt_sh r).ok (by decide), rowsD_ok _, _, rfl, ?_⟩
    rw [not_any]
    cases hb : (!(rB.any fun z => decide (z = r))) with
    | false =>
      refine iteF ⟨fv, eD, ?_, sm⟩
      rw [lsn, if_neg (by rw [hb]; decide), List.append_nil]
      exact pf
    | true =>
      refine iteT ⟨_, rfl, fv, eD, Nat.lt_of_le_of_lt (show fv.length ≤ 100 by omega) (by decide), fv ++ [v], upd_same, ?_, Same.newer sm hDa⟩
      rw [lsn, if_pos hb]
      exact paired_snoc (paired_imp pf fun _ _ z => z.keep (TupK.put eD)) (hr1.keep (TupK.put eD))
  rintro HB ⟨fva, eDa, pDa, sAB⟩
  rw [← lRA, List.take_length] at pDa
  have ldA : (lessR rA rB).length ≤ rA.length := List.length_filter_le _ _
  dsimp only [gName]
  have DaF : Da ∉ F0 := JA.hF.nin hDa
  -- now
  refine ⟨_, rfl, lB, rfl, ⟨_, SqL.of (sAB _ _ elB)⟩, fun Db hDb => ?_⟩
  refine lc_list (K := K) (a := lB) (xs := rv9) (fun j H'' => ∃ fv, H'' Db = some (.lst fv) ∧ Paired (RowR H'') (lessR (rB.take j) rA) fv ∧ Same HB H'') ⟨[], upd_same, .nil, Same.new hDb⟩ (fun j H'' _ ⟨_, _, _, sm⟩ => SqL.of ((sAB.trans sm) _ _ elB)) ?_ ?_
  · rintro j v HC hj ⟨fv, eD, pf, sm⟩
    have sAC := sAB.trans sm
    obtain ⟨r, er, hr0⟩ := paired_get' pRB hj
    have hr1 := hr0.keep (Same.tupK sAC)
    have tk : rB.take (j + 1) = rB.take j ++ [r] := by
      rw [List.take_succ, er]
      rfl
    have hjl := (List.getElem?_eq_some_iff.mp er).1
    have lf := Paired.length pf
    have lf2 : (lessR (rB.take j) rA).length ≤ (rB.take j).length := List.length_filter_le _ _
    rw [List.length_take] at lf2
    have lsn : lessR (rB.take (j + 1)) rA = lessR (rB.take j) rA ++ if (!(rA.any fun z => decide (z = r))) = true then [r] else [] := by
      rw [tk]
      exact filter_snoc
    refine ⟨rfl, _, rfl, _, rfl, fs, _, 1, .ref D2, rfl, rfl, SqL.of (sAC _ _ esh), at1, _, rfl, D2, _, _, .ref la, rfl, rfl, SqL.of (sAC _ _ eS2), atI_nat ev2, rowDt r, rA.map rowDt, row_dp hr1, .lst (SqL.of (sAC _ _ ela)) (rowsV_dp (paired_imp pRA fun _ _ z => z.keep (Same.tupK sAC))), (rowDt_sh r).ok (by decide), rowsD_ok _, _, rfl, ?_⟩
    rw [not_any]
    cases hb : (!(rA.any fun z => decide (z = r))) with
    | false =>
      refine iteF ⟨fv, eD, ?_, sm⟩
      rw [lsn, if_neg (by rw [hb]; decide), List.append_nil]
      exact pf
    | true =>
      refine iteT ⟨_, rfl, fv, eD, Nat.lt_of_le_of_lt (show fv.length ≤ 100 by omega) (by decide), fv ++ [v], upd_same, ?_, Same.newer sm hDb⟩
      rw [lsn, if_pos hb]
      exact paired_snoc (paired_imp pf fun _ _ z => z.keep (TupK.put eD)) (hr1.keep (TupK.put eD))
  rintro HC ⟨fvb, eDb, pDb, sBC⟩
  rw [← lRB, List.take_length] at pDb
  have ldB : (lessR rB rA).length ≤ rB.length := List.length_filter_le _ _
  dsimp only [gName]
  have sAC := sAB.trans sBC
  have eDaC := sBC _ _ eDa
  have pDaC := paired_imp pDa fun _ _ z => z.keep (Same.tupK sBC)
  have JC := JA.same sAC
  have shwC := shwA.kf (KF.same sAC)
  have elC := sAC _ _ elA
  have efC := sAC _ _ efA
  have hrvC : Paired (DR HC (eD rA) (eD rB)) dn rv := paired_imp hrvA fun _ _ z => z.kt (Same.tupK sAC)
  have kf0C := kf0A.trans (KF.same sAC)
  have ldn := Paired.length hrvC
  have dn14 : dn.length ≤ 14 := by
    rw [edn]
    exact Nat.le_trans (List.length_filter_le _ _) (isWh_len hms A7 B7)
  have lfa := Paired.length pDaC
  have lfb := Paired.length pDb
  clear JA shwA elA efA hrvA kf0A eDa pDa
  refine seq_new (b := false) (fun Q q => ?_) (fun z => nomatch z) (fun _ HE sE => ?_)
  · refine ⟨_, rfl, f, rfl, ⟨_, SqL.of efC⟩, fun De hDe => ?_⟩
    refine lc_list (K := K) (a := f) (xs := rv) (fun j H'' => ∃ M, H'' De = some (.lst (M.map fun q => V.ref q.1)) ∧ M.map (·.2) = (dn.take j).map intN ∧ TL H'' M ∧ Same HC H'') ⟨[], upd_same, rfl, (fun _ h => nomatch h), Same.new hDe⟩ (fun j H'' _ ⟨_, _, _, _, sm⟩ => SqL.of (sm _ _ efC)) ?_ ?_
    · rintro j v H1 hj ⟨M, eD, eM, tM, sm⟩
      obtain ⟨m, em, t, wa, x1, y1, rfl, et, ew, ox, oy⟩ := paired_get' hrvC hj
      have hjl := (List.getElem?_eq_some_iff.mp em).1
      have tk : dn.take (j + 1) = dn.take j ++ [m] := by
        rw [List.take_succ, em]
        rfl
      have lM := congrArg List.length eM
      rw [List.length_map, List.length_map, List.length_take] at lM
      refine ⟨rfl, _, rfl, t, _, 0, .ref wa, rfl, rfl, SqT.of (sm _ _ et), at0, _, eD, Nat.lt_of_le_of_lt (show (M.map fun q : Addr × List Int => V.ref q.1).length ≤ 100 by rw [List.length_map]; omega) (by decide), M ++ [(wa, intN m)], ?_, ?_, ?_, Same.newer sm hDe⟩
      · rw [upd_same, List.map_append]
        rfl
      · rw [tk, List.map_append, List.map_append, eM]
        rfl
      · intro z hz
        rcases List.mem_append.mp hz with hz | hz
        · exact TupK.put eD _ _ (tM z hz)
        · obtain rfl := List.mem_singleton.mp hz
          refine TupK.put eD _ _ ?_
          rw [show (intN m).map V.int = natV m from intN_V m]
          exact sm _ _ ew
    rintro H1 ⟨M1, eM1, hM1, tM1, s1⟩
    rw [← ldn, List.take_length] at hM1
    have lM1 := congrArg List.length hM1
    rw [List.length_map, List.length_map] at lM1
    refine ⟨De, M1, rfl, SqL.of eM1, fun z hz => SqT.of (tM1 z hz), by omega, fun M2 p2 pm2 pw2 hp2 => ?_⟩
    have s2 : Same H1 (upd H1 p2 (.lst (M2.map fun q => V.ref q.1))) := Same.new hp2
    have ep2 : upd H1 p2 (.lst (M2.map fun q => V.ref q.1)) p2 = some (.lst (M2.map fun q => V.ref q.1)) := upd_same
    have tM2 : TL (upd H1 p2 (.lst (M2.map fun q => V.ref q.1))) M2 := fun z hz => s2 _ _ (tM1 z (pm2.mem_iff.mp hz))
    have s12 := s1.trans s2
    generalize upd H1 p2 (.lst (M2.map fun q => V.ref q.1)) = H2 at *
    refine ⟨_, rfl, _, rfl, Da, Db, _, _, rfl, rfl, s12 _ _ eDaC, s12 _ _ eDb, szN (by omega), fun pc hpc => ⟨pc, rfl, ⟨_, SqL.of upd_same⟩, fun Dg hDg => ?_⟩⟩
    have s3 : Same H2 (upd H2 pc (.lst (fva ++ fvb))) := Same.new hpc
    have epc : upd H2 pc (.lst (fva ++ fvb)) pc = some (.lst (fva ++ fvb)) := upd_same
    generalize upd H2 pc (.lst (fva ++ fvb)) = H3 at *
    have s13 := s12.trans s3
    have pall : Paired (RowR H3) (lessR rA rB ++ lessR rB rA) (fva ++ fvb) := paired_app2 (paired_imp pDaC fun _ _ z => z.keep (Same.tupK s13)) (paired_imp pDb fun _ _ z => z.keep (Same.tupK s13))
    have lall := Paired.length pall
    rw [List.length_append] at lall
    refine lc_list (K := K) (a := pc) (xs := fva ++ fvb) (fun j H'' => ∃ M, H'' Dg = some (.lst (M.map fun q => V.ref q.1)) ∧ M.map (·.2) = ((lessR rA rB ++ lessR rB rA).take j).map (fun r => intN r.2.2) ∧ TL H'' M ∧ Same H3 H'') ⟨[], upd_same, rfl, (fun _ h => nomatch h), Same.new hDg⟩ (fun j H'' _ ⟨_, _, _, _, sm⟩ => SqL.of (sm _ _ epc)) ?_ ?_
    · rintro j v H4 hj ⟨M, eD, eM, tM, sm⟩
      obtain ⟨r, er, t, wa, rfl, et, ew⟩ := paired_get' pall hj
      have hjl := (List.getElem?_eq_some_iff.mp er).1
      rw [List.length_append] at hjl
      have tk : (lessR rA rB ++ lessR rB rA).take (j + 1) = (lessR rA rB ++ lessR rB rA).take j ++ [r] := by
        rw [List.take_succ, er]
        rfl
      have lM := congrArg List.length eM
      rw [List.length_map, List.length_map, List.length_take, List.length_append] at lM
      refine ⟨rfl, _, rfl, t, _, 2, .ref wa, rfl, rfl, SqT.of (sm _ _ et), at2, _, eD, Nat.lt_of_le_of_lt (show (M.map fun q : Addr × List Int => V.ref q.1).length ≤ 100 by rw [List.length_map]; omega) (by decide), M ++ [(wa, intN r.2.2)], ?_, ?_, ?_, Same.newer sm hDg⟩
      · rw [upd_same, List.map_append]
        rfl
      · rw [tk, List.map_append, List.map_append, eM]
        rfl
      · intro z hz
        rcases List.mem_append.mp hz with hz | hz
        · exact TupK.put eD _ _ (tM z hz)
        · obtain rfl := List.mem_singleton.mp hz
          refine TupK.put eD _ _ ?_
          rw [show (intN r.2.2).map V.int = natV r.2.2 from intN_V r.2.2]
          exact sm _ _ ew
    rintro H4 ⟨M3, eM3, hM3, tM3, s4⟩
    rw [List.length_append, ← lfa, ← lfb, ← List.length_append, List.take_length] at hM3
    have lM3 := congrArg List.length hM3
    rw [List.length_map, List.length_map, List.length_append] at lM3
    refine ⟨Dg, M3, rfl, SqL.of eM3, fun z hz => SqT.of (tM3 z hz), by omega, fun a4 M4 ha4 hs1 hs2 => ⟨a4, M4, rfl, upd_same, fun z hz => SqT.of (Same.new ha4 _ _ (tM3 z (hs1 z hz))), fun M5 p5 H5 pm5 nd5 _ pw5 hp5 s5 ep5 => ?_⟩⟩
    have s45 : Same H4 H5 := (Same.new ha4).trans s5
    have tM5 : TL H5 M5 := fun z hz => s45 _ _ (tM3 z (hs1 z (pm5.mem_iff.mp hz)))
    have s25 := (s3.trans s4).trans s45
    have eq25 : M2.map (·.2) = M5.map (·.2) := by
      refine rise_uniq ?_ nd5 (List.pairwise_map.mpr pw2) (List.pairwise_map.mpr pw5) fun z => ?_
      · rw [(pm2.map (·.2)).nodup_iff, hM1]
        exact hrise.1
      · rw [(pm2.map (·.2)).mem_iff, hM1, (pm5.map (·.2)).mem_iff]
        constructor
        · intro hz
          obtain ⟨m, hm, rfl⟩ := List.mem_map.mp hz
          obtain ⟨r, hr, rfl⟩ := List.mem_map.mp ((hmem m).mp hm)
          have h3 : intN r.2.2 ∈ M3.map (·.2) := by
            rw [hM3]
            exact List.mem_map.mpr ⟨r, hr, rfl⟩
          obtain ⟨z, hz, e⟩ := List.mem_map.mp h3
          rw [← e]
          exact hs2 z hz
        · intro hz
          obtain ⟨z2, hz2, e2⟩ := List.mem_map.mp hz
          have h3 : z2.2 ∈ M3.map (·.2) := List.mem_map.mpr ⟨z2, hs1 z2 hz2, rfl⟩
          rw [e2] at h3
          rw [hM3] at h3
          obtain ⟨r, hr, e⟩ := List.mem_map.mp h3
          rw [← e]
          exact mem_intN.mpr ((hmem _).mpr (List.mem_map.mpr ⟨r, hr, rfl⟩))
    refine ⟨tisD (M2.map (·.2)), tisD (M5.map (·.2)), .lst (SqL.of (s25 _ _ ep2)) (tl_dp (tM2.kt (Same.tupK s25))), .lst (SqL.of ep5) (tl_dp tM5), (tisD_sh _).ok (by decide), (tisD_sh _).ok (by decide), _, rfl, ?_⟩
    rw [eq25, SeqAt.eqv_refl _ (tisD_sh _).1]
    exact q _ (s12.trans s25)
  have JE := JC.same sE
  have shwE := shwC.kf (KF.same sE)
  have elE := sE _ _ elC
  have efE := sE _ _ efC
  have hrvE : Paired (DR HE (eD rA) (eD rB)) dn rv := paired_imp hrvC fun _ _ z => z.kt (Same.tupK sE)
  have kf0E := kf0C.trans (KF.same sE)
  clear JC shwC elC efC hrvC kf0C pDaC pDb eDaC eDb
  -- and back
  obtain ⟨dxE, paE, heE, eaE, _⟩ := id JE.hh
  have ek : ws[k]? = some (ws[k]'hk) := List.getElem?_eq_getElem hk
  generalize ws[k]'hk = pk at ek
  have hpk : IsStep pk := hW.1.all _ (List.mem_of_getElem? ek)
  have wback : setW (setW ws k p) k pk = ws := setL_back (xs := ws) (n := k) (y := p) ek
  have yback : (y.1, setL y.2 n (setW (setW ws k p) k pk)) = x := by
    rw [wback, ey]
    exact Prod.ext rfl (setL_back en)
  try dsimp only [gName]
  refine ⟨_, rfl, ha, dxE, _, rfl, eaE, hf_no _ _ _ (by decide +kernel) (by decide +kernel) (by decide +kernel), _, rfl, _, rfl, _, rfl, _, rfl, l2, _, _, .str (stepS pk), rfl, rfl, SqL.of elE, atI_nat (by rw [show stepsV ws = ws.map fun p => V.str (stepS p) from rfl, List.getElem?_map, ek]; rfl), ?_⟩
  refine ⟨F0, ha, pt, y, past ++ [x], n, k, pk, setW ws k p, rfl, JE.hh, hGy, JE.hF, aF, pF, by rw [List.length_append, List.length_singleton]; omega, yn, hpk, by omega, fun _ _ f2 ms2 rv2 HF hhF kF hFF hf2 ef2 hms2 hrv2 => ?_, fun hbad => ?_⟩
  rotate_left
  · rw [wback] at hbad
    rcases hbad with h | h
    · rw [setW_len hk] at h
      omega
    · exact absurd hW.1 h
  rw [yback] at hhF
  rw [wback, y1, ← erA, ← erB] at hms2 hrv2
  obtain rfl := isWh_uniq hms hms2.comm
  rw [difN_comm, ← edn] at hrv2
  obtain ⟨JF, kfF⟩ := JE.deed g hhF kF hFF J.hG
  have shwF := shwE.kf kfF
  have efF := kfF.1 _ _ efE f9F
  have hrvF : Paired (DR HF (eD rA) (eD rB)) dn rv := paired_imp hrvE fun _ _ z => z.kt kfF.2
  have kf0F := kf0E.trans kfF
  clear JE shwE elE efE hrvE kf0E eaE
  try dsimp only [gName]
  refine ⟨_, rfl, _, rfl, f, rfl, ⟨_, SqL.of efF⟩, fun Dh hDh => ?_⟩
  refine lc_list (K := K) (a := f) (xs := rv) (fun j H'' => ∃ fv, H'' Dh = some (.lst fv) ∧ Paired (DR H'' (eD rB) (eD rA)) (dn.take j) fv ∧ Same HF H'') ⟨[], upd_same, .nil, Same.new hDh⟩ (fun j H'' _ ⟨_, _, _, sm⟩ => SqL.of (sm _ _ efF)) ?_ ?_
  · rintro j v H1 hj ⟨fv, eD', pf, sm⟩
    obtain ⟨m, em, t, wa, x1, x2, rfl, et, ew, ox, oy⟩ := paired_get' hrvF hj
    have hjl := (List.getElem?_eq_some_iff.mp em).1
    have tk : dn.take (j + 1) = dn.take j ++ [m] := by
      rw [List.take_succ, em]
      rfl
    have lf := Paired.length pf
    rw [List.length_take] at lf
    have et1 := sm _ _ et
    refine ⟨rfl, _, rfl, t, _, 0, .ref wa, rfl, rfl, SqT.of et1, at0, _, rfl, t, _, 2, x2, rfl, rfl, SqT.of et1, at2, _, rfl, t, _, 1, x1, rfl, rfl, SqT.of et1, at1, (by show 3 ≤ sizeLine; decide), fun t' ht' => ?_⟩
    have s1 : Same H1 (upd H1 t' (.tup [.ref wa, x2, x1])) := Same.new ht'
    have tkk : TupK (upd H1 t' (.tup [.ref wa, x2, x1])) (upd (upd H1 t' (.tup [.ref wa, x2, x1])) Dh (.lst (fv ++ [.ref t']))) := TupK.put (s1 _ _ eD')
    refine ⟨fv, s1 _ _ eD', Nat.lt_of_le_of_lt (show fv.length ≤ 100 by omega) (by decide), fv ++ [.ref t'], upd_same, ?_, Same.newer (sm.trans s1) hDh⟩
    rw [tk]
    exact paired_snoc (paired_imp pf fun _ _ z => z.kt ((Same.tupK s1).trans tkk)) (DR.kt ⟨t', wa, x2, x1, rfl, upd_same, (sm.trans s1) _ _ ew, oy.kt (Same.tupK (sm.trans s1)), ox.kt (Same.tupK (sm.trans s1))⟩ tkk)
  rintro HG ⟨fvh, eDh, pDh, sFG⟩
  rw [← ldn, List.take_length] at pDh
  have shD := drsD_sh (eD rB) (eD rA) dn
  refine ⟨.list (dn.map (drD (eD rB) (eD rA))), .list (dn.map (drD (eD rB) (eD rA))), .lst (SqL.of (sFG _ _ ef2)) (drs_dp (paired_imp hrv2 fun _ _ z => z.kt (Same.tupK sFG))), .lst (SqL.of eDh) (drs_dp pDh), shD.ok (by decide), shD.ok (by decide), _, rfl, ?_⟩
  rw [SeqAt.eqv_refl _ shD.1]
  have JG := JF.same sFG
  have shwG := shwF.kf (KF.same sFG)
  refine iteT ⟨_, rfl, F0, ha, pt, x, past ++ [x] ++ [y], rfl, JG.hh, JG.hG, JG.hF, fun f3 HI sI hf3 shwI => ⟨_, rfl, shownD x, shownD x, shwI.dp, (shwG.kf (KF.same sI)).dp, (shownD_sh JG.hG).ok (by decide), (shownD_sh JG.hG).ok (by decide), _, rfl, ?_⟩⟩
  rw [shown_eq JG.hG]
  refine iteT (q 2 (past ++ [x] ++ [y]) HI (JG.same sI) ?_ (by decide) ?_ ((kf0F.trans (KF.same sFG)).trans (KF.same sI)))
  · simp
  · cases past <;> rfl
end
end MS
end
section
set_option maxRecDepth 100000
set_option maxHeartbeats 4000000
namespace MS
open PySem L2
open HeY LamX XLs XQs
/-! ### a scheme told otherwise, then as it was -/
abbrev s_L_change : Stmt := topS 67
abbrev nmCh : List Str := ["_law_box", "_law_heap", "_law_paper_here", "_law_letters_here", "_law_number", "_law_before", "_law_there", "_law_rows", "_law_back", "_law_good", "_law_k"]
abbrev psCh : List Str := ["_law_box", "_law_heap", "_law_paper_here", "_law_letters_here"]
theorem sc_L_change : FnScope nmCh psCh (defScope s_L_change) := ⟨rfl, rfl, rfl, by decide +kernel, rfl, by decide +kernel, by decide +kernel⟩
theorem setL_set {α : Type} {zs : List α} {n : Nat} {y : α} (hz : n < zs.length) : setL zs n y = zs.set n y := by
  rw [List.set_eq_take_append_cons_drop, if_pos hz]
  unfold setL
  rw [List.append_assoc]
  rfl
theorem setL_self {α : Type} {xs : List α} {n : Nat} {x : α} (h : xs[n]? = some x) : setL xs n x = xs := by
  obtain ⟨hn, rfl⟩ := List.getElem?_eq_some_iff.mp h
  rw [setL_set hn, List.set_getElem_self]
def natsD (l : List Nat) : PyData := .list ((l.map fun n => ((n : Nat) : Int)).map PyData.int)
theorem natsD_sh (l : List Nat) : ShN 1 (natsD l) := .lst (sh_ints 0 _)
theorem nats_dp {K : PySem.W.Frag} {H : Hp} (l : List Nat) : DpAll K H (natV l) ((l.map fun n => ((n : Nat) : Int)).map PyData.int) := by
  have := dp_ints (K := K) (H := H) (l.map fun n => ((n : Nat) : Int))
  rw [show natV l = (l.map fun n => ((n : Nat) : Int)).map V.int by unfold natV; rw [List.map_map]; rfl]
  exact this
def spCh (C Pt : Addr) : Sp := fun vs H Q _ => ∃ (F : List Addr) (b l L ha pt pa : Addr) (FL : List Str) (x : HS) (past : List HS), vs = [.ref b, .ref ha, .ref pa, .ref L] ∧ (∀ y ∈ FL, IsW y) ∧ 0 < FL.length ∧ FL.length ≤ 8 ∧ LK C F FL b l L Pt ha pt x past H ∧ GeoK F b l Pt ha pt ∧ PaperAt H x.1 (.ref pa) ∧ past.length ≤ 800 ∧
  ∀ (n : Nat) (past' : List HS) (H' : Hp), LK C F FL b l L Pt ha pt x past' H' → past'.length = past.length + n → n ≤ 3 → (past' ++ [x]).head? = (past ++ [x]).head? → KF F H H' → Q (.int ((n : Nat) : Int)) H'
section
variable {P : Program} {w : World} {K : PySem.W.Frag} {mg : Str → Option Value} {base : Heap} {C CV : Addr}
theorem ok_ch (T : PTx w K mg) (YV : VCls K mg CV) (DRw : DRows K mg) (DP : DPaper K mg) (DH : DHeap K mg) (Y : HCls K mg C)
    (DT : Def K mg "_law_take" s_L_take ["_law_box", "_law_many"]) (DTu : Def K mg "_law_turned" s_L_turned psTurned) (DSh : Def K mg "_law_shown" s_L_shown ["_law_heap"])
    (D : Def K mg "_law_change" s_L_change psCh) {Pt : Addr} : FnOk P w K mg base CX0 96 D.f D.fd psCh (spCh C Pt) := by
  have GT : FnOk P w K mg base CX0 1 DT.f DT.fd ["_law_box", "_law_many"] spTake := ok_take DT
  have ml : mg "len" = none := T.free "len" (by decide +kernel)
  have mli : mg "list" = none := T.free "list" (by decide +kernel)
  have mr : mg "range" = none := T.free "range" (by decide +kernel)
  have GU : FnOk P w K mg base CX0 6 DTu.f DTu.fd psTurned spTurnedA := ok_turnedA ml mli DTu DT
  have GSw : FnOk P w K mg base CX0 5 DSh.f DSh.fd ["_law_heap"] (spShown C) := ok_shown T DRw DP DH Y DSh
  have GC : FnOk P w K mg base CX0 95 Y.DC.f Y.DC.fd ["self", "number", "scheme"] (spChange C) := ok_change T YV DRw DP DH Y
  have nd := sc_L_change.nd
  refine D.ok sc_L_change (fun vs H Q E h => ?_) (fun cdv A outer s H vs Q E hr h => ?_)
  · obtain ⟨F0, b, l, L, ha, pt, pa, FL, x, past, rfl, _⟩ := h
    rfl
  obtain ⟨F0, b, l, L, ha, pt, pa, FL, x, past, rfl, w1, l0, l1, J, g, hpa, hlp, q⟩ := h
  have r1 : Room 1 _ := hr.mono (by decide)
  have r5 : Room 5 _ := hr.mono (by decide)
  have r6 : Room 6 _ := hr.mono (by decide)
  refine ⟨_, pss_cons (ps_asg (pe_tup (pa_cons (pcall DT GT r1 (pa_cons (pv 0) (pa_cons (pe_callB call_len_seq rfl ml PySem.boot_len (pa_cons (pv 2) pa_nil)) pa_nil))) (pa_cons (pcall DSh GSw r5 (pa_cons (pv 1) pa_nil)) pa_nil))) (pg_tup (by rfl) (pgs_cons (pg_name (i := 4) nd rfl (Or.inl rfl)) (pgs_cons (pg_name (i := 5) nd rfl (Or.inr rfl)) pgs_nil))))
    (pss_cons (ps_set (i := 6) nd rfl (Or.inl rfl) (pe_meth (pv 1) Y.cl Y.DC.me GC hr Y.DC.b .nil pass0 (pa_cons (pv 4) (pa_cons (pcall DTu GU r6 (pa_cons (pv 0) (pa_cons (pe_ix ix_tup (pv 2) (pv 4) (fun _ _ => rfl)) (pa_cons (pv 3) pa_nil)))) pa_nil))))
    (pss_cons (ps_set (i := 7) nd rfl (Or.inr rfl) (pe_ix ix_list (pcall DSh GSw r5 (pa_cons (pv 1) pa_nil)) pe_int (fun _ _ => rfl)))
    (pss_cons (ps_if (pt_cmpR (op_neD hr.units) (pv 6) (pe_lc (own := [("_law_k", 10)]) (g := gName 10) (tt := tTest (tOp (rNeD K) (tOp (rIxL K) (tVar 7) (tVar 10)) (tOp (rIxL K) (tOp (rIxL K) (tVar 5) (tC (.int 1))) (tVar 10)))) (te := tVar 10) rfl nd (pi_range1 rfl mr (pa_cons (pe_callB call_len_seq rfl ml PySem.boot_len (pa_cons (pv 7) pa_nil)) pa_nil)) (blkOk_by (N := nmCh) (sc := defScope s_L_change) (by decide +kernel)) (fun _ _ _ _ _ => pg_name (i := 10) nd rfl (Or.inl rfl))
        (fun _ _ _ _ _ => pts_one (pt_cmpR (op_neD hr.units) (pe_ix (r := rIxL K) ix_list (pv 7) (pv 10) (fun _ _ => rfl)) (pe_ix (r := rIxL K) ix_list (pe_ix (r := rIxL K) ix_list (pv 5) pe_int (fun _ _ => rfl)) (pv 10) (fun _ _ => rfl)) (nomark _))) (fun _ _ _ _ _ => pv 10)) (nomark _)) (pss_one (ps_ret pe_non)) pss_nil)
    (pss_cons (ps_set (i := 8) nd rfl (Or.inl rfl) (pe_meth (pv 1) Y.cl Y.DC.me GC hr Y.DC.b .nil pass0 (pa_cons (pv 4) (pa_cons (pe_ix ix_tup (pv 2) (pv 4) (fun _ _ => rfl)) pa_nil))))
    (pss_cons (ps_set (i := 9) nd rfl (Or.inl rfl) (pe_and (pe_cmpR (op_eqD hr.units) (pv 8) (pv 6) (nomark _)) (pe_and (pe_cmpR (op_eqD hr.units) (pcall DSh GSw r5 (pa_cons (pv 1) pa_nil)) (pv 5) (nomark _)) (pe_one (pe_cmpR (op_eqD hr.units) (pe_meth (pv 1) Y.cl Y.DC.me GC hr Y.DC.b .nil pass0 (pa_cons (pv 4) (pa_cons (pe_ix ix_tup (pv 2) (pv 4) (fun _ _ => rfl)) pa_nil))) (pe_lst pa_nil) (nomark _))))))
    (pss_one (ps_ret (pe_ifExp (pt_val (pv 9)) pe_int pe_non)))))))), ?_⟩
  have bF : b ∈ F0 := g.inF b (by simp)
  have lF : l ∈ F0 := g.inF l (by simp)
  have aF : ha ∈ F0 := g.inF ha (by simp)
  have pF : pt ∈ F0 := g.inF pt (by simp)
  have nLb : L ≠ b := fun e => J.LF (by rw [e]; exact bF)
  have nLl : L ≠ l := fun e => J.LF (by rw [e]; exact lF)
  have hP := J.hG.1
  have hWs := J.hG.2.1
  have h20 := J.hG.2.2
  have hGx := J.hG
  obtain ⟨_, pv0, e0, epv, ppv⟩ := id hpa
  obtain rfl := V.ref.inj e0
  have lv := Paired.length ppv
  have hp5 := hP.2.1
  have hp0 := hP.1
  refine ⟨_, rfl, _, rfl, pa, _, rfl, .inr (SqT.of epv), b, l, _, rfl, by omega, by omega, J.B, fun r H1 c0 c1 B1 k1 => ?_⟩
  obtain ⟨J1, kf1⟩ := J.bk g ⟨B1, k1⟩
  obtain ⟨n, rfl⟩ : ∃ n : Nat, r = ((n : Nat) : Int) := ⟨r.toNat, by omega⟩
  have hn : n < x.1.length := by omega
  refine ⟨_, rfl, F0, ha, pt, x, past, rfl, J1.hh, J1.hG, J1.hF, fun fs H2 s2 hfs shw2 => ⟨sz2, fun t0 ht0 => ⟨t0, _, rfl, SqT.of upd_same, rfl, _, _, rfl, _, _, rfl, rfl, ?_⟩⟩⟩
  have s3 : Same H2 (upd H2 t0 (.tup [.int ((n : Nat) : Int), .ref fs])) := Same.new ht0
  have J3 := (J1.same s2).same s3
  have shw3 := shw2.kf (KF.same (F := F0) s3)
  have kf3 : KF F0 H _ := (kf1.trans (KF.same s2)).trans (KF.same s3)
  generalize upd H2 t0 (.tup [.int ((n : Nat) : Int), .ref fs]) = H3 at *
  clear shw2 J1 kf1
  dsimp only [gName]
  obtain ⟨sc, esc⟩ : ∃ sc, x.1[n]? = some sc := ⟨_, List.getElem?_eq_getElem hn⟩
  obtain ⟨v, ev, hv⟩ := paired_get2 ppv esc
  obtain ⟨ce, hfc, _⟩ := hP.facts
  have hok := (hfc n _ esc).1
  obtain ⟨dx3, pa3, he3, ea3, _⟩ := id J3.hh
  -- there
  refine ⟨_, rfl, ha, dx3, _, rfl, ea3, hf_no _ _ _ (by decide +kernel) (by decide +kernel) (by decide +kernel), _, rfl, _, rfl, _, rfl, _, rfl, pa, pv0, _, v, rfl, rfl, SqT.of (kf3.2 _ _ epv), atI_nat ev, _, rfl, ⟨(n, x.1.length), b, l, L, v, FL, sc, rfl, J3.B, nLb, nLl, J3.eL, w1, l0, l1, SAt.keep kf3.2 _ _ _ hv, hok, fun v' s' H4 hs' hal B4 k4 => ?_⟩⟩
  obtain ⟨J4, kf4'⟩ := J3.bk g ⟨B4, k4⟩
  have kf4 := kf3.trans kf4'
  have shw4 := shw3.kf kf4'
  clear J3 shw3
  have hP' : PaperOk (setL x.1 n s') := alt_paper hP esc hal
  refine ⟨F0, ha, pt, x, past, n, v', s', rfl, J4.hh, J4.hG, J4.hF, aF, pF, by omega, hn, hs', hP', fun f H5 hh5 k5 hF5 hf5 ef5 => ?_⟩
  obtain ⟨y, ey⟩ : ∃ y : HS, y = (setL x.1 n s', x.2) := ⟨_, rfl⟩
  have hGy : GoodS y := by
    rw [ey]
    exact ⟨hP', hWs, h20⟩
  have y2 : y.2 = x.2 := by rw [ey]
  have y1 : y.1 = setL x.1 n s' := by rw [ey]
  rw [← ey] at hh5
  rw [← y1] at ef5
  obtain ⟨J5, kf5'⟩ := J4.deed g hh5 k5 hF5 hGy
  have kf5 := kf4.trans kf5'
  have shw5 := shw4.kf kf5'
  have fF : f ∉ F0 := J4.hF.nin hf5
  clear J4 shw4
  dsimp only [gName]
  -- the rows then
  refine ⟨_, rfl, F0, ha, pt, y, past ++ [x], rfl, J5.hh, J5.hG, J5.hF, fun fs2 H6 s6 hfs2 shy6 => ?_⟩
  obtain ⟨E1, E2, E3, gv1, gv2, ey0, eyF, eE1, nE1, pE1, eE2, nE2, pE2, eE3, nE3⟩ := id shy6
  rw [y2] at pE2
  refine ⟨fs2, _, 1, .ref E2, rfl, rfl, SqL.of ey0, at1, ?_⟩
  have J6 := J5.same s6
  have shw6 := shw5.kf (KF.same s6)
  have kf6 := kf5.trans (KF.same s6)
  have ef6 := s6 _ _ ef5
  clear J5 shw5
  obtain ⟨D1, D2, D3, fv1, fv2, esh, shF, eS1, nS1, pS1, eS2, nS2, pS2, eS3, nS3⟩ := id shw6
  have lE2 := Paired.length pE2
  rw [List.length_map] at lE2
  dsimp only [gName]
  have n20 : (othN x.1 y.1 x.2).length ≤ x.2.length := by
    have : (othN x.1 y.1 x.2).length ≤ (List.range x.2.length).length := List.length_filter_le _ _
    rw [List.length_range] at this
    exact this
  refine seq_new (b := false) (fun Q q => ?_) (fun z => nomatch z) (fun _ H7 s7 => ?_)
  · refine ⟨_, rfl, _, rfl, E2, _, rfl, .inl (SqL.of eE2), _, rfl, by omega, by omega, fun Dk hDk => ?_⟩
    have hnn : (((gv2.length : Nat) : Int)).toNat = x.2.length := by omega
    refine lc_range (lo := 0) (n := (((gv2.length : Nat) : Int)).toNat) (fun j H'' => H'' Dk = some (.lst (natV ((List.range j).filter fun i => !PyData.eqv (rowsD (rAll y.1 (x.2.getD i []))) (rowsD (rAll x.1 (x.2.getD i [])))))) ∧ Same H6 H'') ⟨upd_same, Same.new hDk⟩ ?_ ?_
    · rintro j H7 hj ⟨eDo, s7⟩
      rw [hnn] at hj
      have ew : x.2[j]? = some x.2[j] := List.getElem?_eq_getElem hj
      generalize x.2[j] = ws at ew
      obtain ⟨u2, ev2, l2, rv2, rfl, el2, pR2, _⟩ := paired_get2 (k := j) (x := rAll y.1 ws) pE2 (by rw [List.getElem?_map, ew]; rfl)
      obtain ⟨u1, ev1, l1', rv1, rfl, el1, pR1, _⟩ := paired_get2 (k := j) (x := rAll x.1 ws) pS2 (by rw [List.getElem?_map, ew]; rfl)
      have egd : x.2.getD j [] = ws := by rw [List.getD_eq_getElem?_getD, ew]; rfl
      have ez : (0 : Int) + ((j : Nat) : Int) = ((j : Nat) : Int) := by omega
      rw [ez]
      refine ⟨rfl, _, rfl, _, rfl, E2, _, _, .ref l2, rfl, rfl, SqL.of (s7 _ _ eE2), atI_nat ev2, _, rfl, fs, _, 1, .ref D2, rfl, rfl, SqL.of (s7 _ _ esh), at1, _, rfl, D2, _, _, .ref l1', rfl, rfl, SqL.of (s7 _ _ eS2), atI_nat ev1, rowsD (rAll y.1 ws), rowsD (rAll x.1 ws), .lst (SqL.of (s7 _ _ el2)) (rowsV_dp (paired_imp pR2 fun _ _ z => z.keep (Same.tupK s7))), .lst (SqL.of (s7 _ _ el1)) (rowsV_dp (paired_imp pR1 fun _ _ z => z.keep (Same.tupK s7))), rowsD_ok _, rowsD_ok _, _, rfl, ?_⟩
      have rg : ∀ f : Nat → Bool, (List.range (j + 1)).filter f = (List.range j).filter f ++ if f j = true then [j] else [] := fun f => by
        rw [List.range_succ, List.filter_append]
        congr 1
        cases h : f j <;> simp [h]
      cases hb : (!PyData.eqv (rowsD (rAll y.1 ws)) (rowsD (rAll x.1 ws))) with
      | false =>
        refine iteF ⟨?_, s7⟩
        rw [rg, egd, if_neg (by rw [hb]; decide), List.append_nil]
        exact eDo
      | true =>
        refine iteT ⟨_, rfl, _, eDo, ?_, ?_, Same.newer s7 hDk⟩
        · rw [natV_len]
          exact Nat.lt_of_le_of_lt (Nat.le_trans (List.length_filter_le _ _) (by rw [List.length_range]; show j ≤ 100; omega)) (by decide)
        · rw [upd_same, rg, egd, if_pos hb, natV_snoc]
    · rintro H7 ⟨eDo, s7⟩
      rw [hnn] at eDo
      have eDo : H7 Dk = some (.lst (natV (othN y.1 x.1 x.2))) := eDo
      rw [othN_comm] at eDo
      refine ⟨natsD (othN x.1 y.1 x.2), natsD (othN x.1 y.1 x.2), .lst (SqL.of (s7 _ _ ef6)) (nats_dp _), .lst (SqL.of eDo) (nats_dp _), (natsD_sh _).ok (by decide), (natsD_sh _).ok (by decide), _, rfl, ?_⟩
      rw [SeqAt.eqv_refl _ (natsD_sh _).1]
      exact q _ s7
  have J7 := J6.same s7
  have shw7 := shw6.kf (KF.same s7)
  have kf7 := kf6.trans (KF.same s7)
  have ef7 := s7 _ _ ef6
  clear J6 shw6 kf6 ef6
  -- back
  obtain ⟨dx7, pa7, he7, ea7, _⟩ := id J7.hh
  have yback : (setL y.1 n sc, y.2) = x := by
    rw [y1, y2, setL_back esc]
  have yl : y.1.length = x.1.length := by rw [y1, setL_len hn]
  refine ⟨_, rfl, ha, dx7, _, rfl, ea7, hf_no _ _ _ (by decide +kernel) (by decide +kernel) (by decide +kernel), _, rfl, _, rfl, _, rfl, pa, pv0, _, v, rfl, rfl, SqT.of (kf7.2 _ _ epv), atI_nat ev, ?_⟩
  refine ⟨F0, ha, pt, y, past ++ [x], n, v, sc, rfl, J7.hh, hGy, J7.hF, aF, pF, by rw [List.length_append, List.length_singleton]; omega, by omega, SAt.keep kf7.2 _ _ _ hv, by rw [y1, setL_back esc]; exact hP, fun f2 H8 hh8 k8 hF8 hf8 ef8 => ?_⟩
  rw [yback] at hh8
  rw [show setL y.1 n sc = x.1 from congrArg (·.1) yback, y2, othN_comm] at ef8
  obtain ⟨J8, kf8'⟩ := J7.deed g hh8 k8 hF8 hGx
  have kf8 := kf7.trans kf8'
  have shw8 := shw7.kf kf8'
  have ef8' := kf8'.1 _ _ ef7 fF
  clear J7 shw7 kf7 ef7
  dsimp only [gName]
  -- good
  refine ⟨_, rfl, _, rfl, natsD (othN x.1 y.1 x.2), natsD (othN x.1 y.1 x.2), .lst (SqL.of ef8) (nats_dp _), .lst (SqL.of ef8') (nats_dp _), (natsD_sh _).ok (by decide), (natsD_sh _).ok (by decide), _, rfl, ?_⟩
  rw [SeqAt.eqv_refl _ (natsD_sh _).1]
  refine iteT ⟨_, rfl, F0, ha, pt, x, past ++ [x] ++ [y], rfl, J8.hh, J8.hG, J8.hF, fun f3 H9 s9 hf3 shw9 => ⟨_, rfl, shownD x, shownD x, shw9.dp, (shw8.kf (KF.same s9)).dp, (shownD_sh hGx).ok (by decide), (shownD_sh hGx).ok (by decide), _, rfl, ?_⟩⟩
  rw [shown_eq hGx]
  have J9 := J8.same s9
  have kf9 := kf8.trans (KF.same s9)
  obtain ⟨dx9, pa9, he9, ea9, _⟩ := id J9.hh
  refine iteT ⟨_, rfl, ha, dx9, _, rfl, ea9, hf_no _ _ _ (by decide +kernel) (by decide +kernel) (by decide +kernel), _, rfl, _, rfl, _, rfl, pa, pv0, _, v, rfl, rfl, SqT.of (kf9.2 _ _ epv), atI_nat ev, ?_⟩
  refine ⟨F0, ha, pt, x, past ++ [x] ++ [y], n, v, sc, rfl, J9.hh, hGx, J9.hF, aF, pF, by simp; omega, hn, SAt.keep kf9.2 _ _ _ hv, by rw [setL_self esc]; exact hP, fun f4 HA hhA kA hFA hfA efA => ?_⟩
  rw [setL_self esc] at hhA efA
  rw [othN_self] at efA
  obtain ⟨JA, kfA'⟩ := J9.deed g (y := x) hhA kA hFA hGx
  have kfA := kf9.trans kfA'
  refine ⟨Nat.zero_le _, fun e he => ⟨natsD [], .list [], .lst (SqL.of (Same.new he _ _ efA)) (nats_dp []), .lst (SqL.of upd_same) .nil, (natsD_sh _).ok (by decide), rfl, ?_⟩⟩
  rw [show PyData.eqv (natsD []) (.list []) = true from SeqAt.eqv_refl _ (natsD_sh []).1]
  try dsimp only [gName]
  refine ⟨_, rfl, _, rfl, iteT (q 3 (past ++ [x] ++ [y] ++ [x]) _ (JA.same (Same.new he)) ?_ (by decide) ?_ (kfA.trans (KF.same (Same.new he))))⟩
  · simp
  · cases past <;> rfl
end
end MS
end
section
set_option maxRecDepth 100000
set_option maxHeartbeats 4000000
namespace MS
open PySem L2
open HeY LamX XLs XQs
theorem upd_none {H : Hp} {a z : Addr} {o : HO} (h : upd H a o z = none) : H z = none ∧ z ≠ a := by
  by_cases e : z = a
  · rw [e, upd_same] at h
    cases h
  · rw [upd_ne e] at h
    exact ⟨h, e⟩
theorem with_rest {t r : TS} {D : Ends} {σ : St} {H : Hp} (W : St → Hp → Prop) (h2 : ∀ σ' H', W σ' H' → r D σ' H') (h1 : (∀ σ' H', W σ' H' → r D σ' H') → t { D with nx := r D } σ H) : tSeq t r D σ H := h1 h2
/-! ### the law -/
abbrev s_law : Stmt := topS 68
abbrev nmLaw : List Str := ["_law_script", "_law_box", "_law_letters_here", "_law_paper_here", "_law_heap", "_law_many", "_law_turn", "_law_done"]
theorem sc_law : FnScope nmLaw ["_law_script"] (defScope s_law) := ⟨rfl, rfl, rfl, by decide +kernel, rfl, by decide +kernel, by decide +kernel⟩
structure D22 (K : PySem.W.Frag) (mg : Str → Option Value) where
  DBg : Def K mg "_law_begun" s_L_begun ["_law_script"]
  DT : Def K mg "_law_take" s_L_take ["_law_box", "_law_many"]
  DTo : Def K mg "_law_told" s_L_told ["_law_work_here"]
  DLe : Def K mg "_law_letters" s_L_letters ["_law_box"]
  DSc : Def K mg "_law_scheme" s_L_scheme psScheme
  DCo : Def K mg "_law_counted" s_L_counted psCounted
  DPa : Def K mg "_law_paper" s_L_paper ["_law_box", "_law_letters_here"]
  DSt : Def K mg "_law_step" s_L_step ["_law_box", "_law_letters_here", "_law_was_wrong"]
  DWk : Def K mg "_law_work" s_L_work ["_law_box", "_law_letters_here", "_law_most"]
  DTu : Def K mg "_law_turned" s_L_turned psTurned
  DSh : Def K mg "_law_shown" s_L_shown ["_law_heap"]
  DRe : Def K mg "_law_reread" s_L_reread psRe
  DCh : Def K mg "_law_change" s_L_change psCh
def spLaw (K : PySem.W.Frag) (P : Addr) : Sp := fun vs H Q _ => ∃ (a : Addr) (ns : List Int), vs = [.ref a] ∧ SqL K H a (ns.map V.int) ∧ ns.length ≤ 63 ∧ H P = some (.tbl #[]) ∧ ∀ H', Q (.bl true) H'
section
variable {P : Program} {w : World} {K : PySem.W.Frag} {mg : Str → Option Value} {base : Heap} {C CV : Addr}
theorem ok_law (T : PTx w K mg) (hmw : ∃ t, mg "MOST_WORKS" = some (.int 20 t)) (F : ErrF K mg) (YV : VCls K mg CV) (DRw : DRows K mg) (DP : DPaper K mg) (DH : DHeap K mg) (Y : HCls K mg C) (RW : Wr P w K mg base) (RS : Rs0 K mg "BadStep") (RC : Rs0 K mg "BadCount") (hS : RS.C = F.A 2) (hex : PySem.W.exmOne K (.ref RW.C) (.ref RW.C) = some true)
    (D : D22 K mg) {c Pt : Addr} (TB : TabB base mg c Pt) (hc : CodeAt K D.DRe.f c) (DW : Def K mg "law" s_law ["_law_script"]) : FnOk P w K mg base CX0 100 DW.f DW.fd ["_law_script"] (spLaw K Pt) := by
  have ml : mg "len" = none := T.free "len" (by decide +kernel)
  have mli : mg "list" = none := T.free "list" (by decide +kernel)
  have mi : mg "int" = none := T.free "int" (by decide +kernel)
  have mr : mg "range" = none := T.free "range" (by decide +kernel)
  have mt : mg "tuple" = none := T.free "tuple" (by decide +kernel)
  have mis : mg "isinstance" = none := T.free "isinstance" (by decide +kernel)
  have ma : mg "any" = none := T.free "any" (by decide +kernel)
  have GBg : FnOk P w K mg base CX0 1 D.DBg.f D.DBg.fd ["_law_script"] (spBegun K) := ok_begun D.DBg ml mli mi
  have GT : FnOk P w K mg base CX0 1 D.DT.f D.DT.fd ["_law_box", "_law_many"] spTake := ok_take D.DT
  have GLe : FnOk P w K mg base CX0 2 D.DLe.f D.DLe.fd ["_law_box"] spLetters := ok_letters D.DLe D.DT ml mli mr
  have GPa : FnOk P w K mg base CX0 7 D.DPa.f D.DPa.fd ["_law_box", "_law_letters_here"] spPaper := ok_paper D.DPa D.DT D.DSc D.DCo ml mr mt mi mis mli
  have GWk : FnOk P w K mg base CX0 3 D.DWk.f D.DWk.fd ["_law_box", "_law_letters_here", "_law_most"] spWork := ok_work D.DWk D.DT D.DSt ml mr ma
  have GHI : FnOk P w K mg base CX0 6 Y.DI.f Y.DI.fd ["self", "paper"] (spHInit C) := ok_hinit T DP Y
  have GA : FnOk P w K mg base CX0 95 Y.DA.f Y.DA.fd ["self", "work"] (fun vs H Q _ => spAdd C RC.C vs H Q (fun _ _ _ => False)) := (ok_add T hmw YV DRw Y RC).noX
  have GRe : FnOk P w K mg base CX0 98 D.DRe.f D.DRe.fd psRe (spRe C Pt) := ok_re T F YV DRw DP DH Y RW RS hS hex D.DTo D.DT D.DSt D.DSh D.DRe TB hc
  have GCh : FnOk P w K mg base CX0 96 D.DCh.f D.DCh.fd psCh (spCh C Pt) := ok_ch T YV DRw DP DH Y D.DT D.DTu D.DSh D.DCh
  have GB : FnOk P w K mg base CX0 1 Y.DB.f Y.DB.fd ["self"] (spBack C) := ok_back Y
  have GSh : FnOk P w K mg base CX0 2 Y.DS.f Y.DS.fd ["self"] (spSheet C) := ok_sheet T Y DRw.DPt
  have nd := sc_law.nd
  refine DW.ok sc_law (fun vs H Q E h => ?_) (fun cdv A outer s H vs Q E hr h => ?_)
  · obtain ⟨a, ns, rfl, _⟩ := h
    rfl
  obtain ⟨a, ns, rfl, hS0, hlen, hP, q⟩ := h
  have r1 : Room 1 _ := hr.mono (by decide)
  have r2 : Room 2 _ := hr.mono (by decide)
  have r3 : Room 3 _ := hr.mono (by decide)
  have r7 : Room 7 _ := hr.mono (by decide)
  have r95 : Room 95 _ := hr.mono (by decide)
  have r96 : Room 96 _ := hr.mono (by decide)
  have r98 : Room 98 _ := hr.mono (by decide)
  have hu := Nat.lt_of_le_of_lt (Nat.le_add_right _ 64) hr.units
  refine ⟨_, pss_cons (ps_set (i := 1) nd rfl (Or.inl rfl) (pcall D.DBg GBg r1 (pa_cons (pv 0) pa_nil)))
    (pss_cons (ps_set (i := 2) nd rfl (Or.inl rfl) (pcall D.DLe GLe r2 (pa_cons (pv 1) pa_nil)))
    (pss_cons (ps_set (i := 3) nd rfl (Or.inl rfl) (pcall D.DPa GPa r7 (pa_cons (pv 1) (pa_cons (pv 2) pa_nil))))
    (pss_cons (ps_par (i := 4) (j := 5) (by rfl) nd rfl rfl (by decide) rfl rfl (pa_cons (pe_make Y.mk' GHI r7 rfl Y.mgC Y.DI.b .nil pass0 (pa_cons (pv 3) pa_nil)) (pa_cons (pe_op op_add pe_int (pcall D.DT GT r1 (pa_cons (pv 1) (pa_cons (pe_ix ix_list (pe_lst (pa_cons pe_int (pa_cons pe_int pa_nil))) (pcall D.DT GT r1 (pa_cons (pv 1) (pa_cons pe_int pa_nil))) (fun _ _ => rfl)) pa_nil)))) pa_nil)) (by rfl))
    (pss_cons (ps_for PassesOwn.never rfl (pi_range1 rfl mr (pa_cons (pv 5) pa_nil)) (pg_name (i := 6) nd rfl (Or.inl rfl))
      (pss_one (ps_expr (pe_meth (pv 4) Y.cl Y.DA.me GA r95 Y.DA.b .nil pass0 (pa_cons (pcall D.DWk GWk r3 (pa_cons (pv 1) (pa_cons (pv 2) (pa_cons pe_int pa_nil)))) pa_nil)))))
    (pss_cons (ps_for PassesOwn.never rfl (pi_range1 rfl mr (pa_cons (pcall D.DT GT r1 (pa_cons (pv 1) (pa_cons pe_int pa_nil))) pa_nil)) (pg_name (i := 6) nd rfl (Or.inl rfl))
      (pss_cons (ps_if (pt_cmpR op_eq (pcall D.DT GT r1 (pa_cons (pv 1) (pa_cons pe_int pa_nil))) pe_int (nomark _))
        (pss_one (ps_set (i := 7) nd rfl (Or.inl rfl) (pcall D.DRe GRe r98 (pa_cons (pv 1) (pa_cons (pv 4) (pa_cons (pv 2) pa_nil))))))
        (pss_one (ps_set (i := 7) nd rfl (Or.inl rfl) (pcall D.DCh GCh r96 (pa_cons (pv 1) (pa_cons (pv 4) (pa_cons (pv 3) (pa_cons (pv 2) pa_nil))))))))
      (pss_cons (ps_if (pt_cmpR op_isN (pv 7) pe_non (nomark _)) (pss_one (ps_ret pe_bl)) pss_nil)
      (pss_one (ps_set (i := 5) nd rfl (Or.inl rfl) (pe_op op_add (pv 5) (pv 7)))))))
    (pss_cons (ps_for PassesOwn.never rfl (pi_range1 rfl mr (pa_cons (pv 5) pa_nil)) (pg_name (i := 6) nd rfl (Or.inl rfl))
      (pss_one (ps_if (pt_cmpR op_isnot_bl (pe_meth0 (pv 4) Y.cl Y.DB.me GB r1 Y.DB.b .nil pass0) pe_bl (nomark _)) (pss_one (ps_ret pe_bl)) pss_nil)))
    (pss_one (ps_ret (pe_and (pe_cmpR op_is_bl (pe_meth0 (pv 4) Y.cl Y.DB.me GB r1 Y.DB.b .nil pass0) pe_bl (nomark _)) (pe_one (pe_cmpR (op_eqD hr.units) (pe_meth0 (pv 4) Y.cl Y.DS.me GSh r2 Y.DS.b .nil pass0) (pe_lst pa_nil) (nomark _)))))))))))), ?_⟩
  refine ⟨_, rfl, a, ns, rfl, hS0, hlen, fun b l H1 hb hl B1 s1 => ?_⟩
  dsimp only [gName]
  have T1 : Tabs (lamT Pt) H1 := fun p hp => by
    obtain rfl := List.mem_singleton.mp hp
    exact TabS.nil (s1 _ _ hP)
  have eP1 := s1 _ _ hP
  refine ⟨_, rfl, b, l, rfl, B1, fun L FL H2 hL eL w1 l0 l1 B2 k2 => ?_⟩
  dsimp only [gName]
  have nL := B1.ne_new hL
  have nLi : L ∉ [b, l] := B1.nin hL
  have nPi : Pt ∉ [b, l] := fun m => by
    obtain ⟨_, ⟨n, e1⟩, ns, e2⟩ := B1
    rcases List.mem_cons.mp m with rfl | m
    · rw [e1] at eP1; cases eP1
    · rw [← List.mem_singleton.mp m, eP1] at e2; cases e2
  have T2 := tabs_keep T1 B1 k2
  have eP2 := k2 _ _ eP1 nPi
  refine ⟨_, rfl, _, rfl, b, l, L, FL, rfl, B2, nL.1, nL.2, eL, w1, l0, l1, fun v0 ps0 H3 hp0 hP0 B3 k3 => ?_⟩
  have T3 := tabs_keep T2 B2 k3
  have eL3 := k3 _ _ eL nLi
  have eP3 := k3 _ _ eP2 nPi
  obtain ⟨pa, pv0, rfl, epv, pp⟩ := id hp0
  dsimp only [gName]
  refine ⟨_, rfl, fun ha dx hha hdx ne => ?_⟩
  have ha2 : upd H3 dx (.own ha) ha = none := by rw [upd_ne ne.symm]; exact hha
  have s4 : Same H3 (upd (upd H3 dx (.own ha)) ha (.ins C dx [])) := (Same.new hdx).trans (Same.new ha2)
  refine ⟨ha, dx, pa, ps0, rfl, upd_same, hp0.kt (Same.tupK s4), hP0, fun he pt H4 nhp h1 h2 ea ehe ept kp => ⟨rfl, ?_⟩⟩
  have sm : Same H3 H4 := fun b o e => by
    have nb : b ≠ ha := ne_of_none e hha
    exact kp _ _ (s4 _ _ e) fun m => nb (List.mem_singleton.mp m)
  obtain ⟨h1a, nha⟩ := upd_none h1
  obtain ⟨h1b, _⟩ := upd_none h1a
  obtain ⟨h2a, npa⟩ := upd_none h2
  obtain ⟨h2b, _⟩ := upd_none h2a
  obtain ⟨nbl, ⟨bn, eb3⟩, bns, el3⟩ := id B3
  have fr : ∀ {z : Addr}, H3 z = none → z ≠ b ∧ z ≠ l ∧ z ≠ Pt ∧ z ≠ L := fun {z} hz => ⟨(fun e => by rw [e, eb3] at hz; cases hz), (fun e => by rw [e, el3] at hz; cases hz), (fun e => by rw [e, eP3] at hz; cases hz), (fun e => by rw [e, eL3] at hz; cases hz)⟩
  obtain ⟨f1, f2, f3, f4⟩ := fr hha
  obtain ⟨f5, f6, f7, f8⟩ := fr h2b
  obtain ⟨f17, f18, f19, f20⟩ := fr h1b
  have nLP : L ≠ Pt := fun z => by rw [z, eP3] at eL3; cases eL3
  obtain ⟨F0, eF0⟩ : ∃ F0 : List Addr, F0 = [b, l, ha, pt, Pt] := ⟨_, rfl⟩
  have g : GeoK F0 b l Pt ha pt := by
    refine ⟨fun z hz => by rw [eF0]; exact hz, ?_⟩
    simp only [List.nodup_cons, List.mem_cons, List.not_mem_nil, or_false, not_or, not_false_eq_true, List.nodup_nil, and_true]
    exact ⟨⟨nbl, Ne.symm f1, Ne.symm f5⟩, ⟨Ne.symm f2, Ne.symm f6⟩, Ne.symm npa⟩
  have heF : he ∉ F0 := by
    rw [eF0]
    simp only [List.mem_cons, List.not_mem_nil, or_false, not_or]
    exact ⟨f17, f18, nha, nhp, f19⟩
  have LF : L ∉ F0 := by
    rw [eF0]
    simp only [List.mem_cons, List.not_mem_nil, or_false, not_or]
    exact ⟨nL.1, nL.2, Ne.symm f4, Ne.symm f8, nLP⟩
  have B4 := B3.same sm
  have T4 := T3.ext sm
  have hp4 := hp0.kt (Same.tupK sm)
  have J4 : LK C F0 FL b l L Pt ha pt (ps0, []) [] H4 := by
    obtain ⟨_, ⟨n5, eb5⟩, ns5, el5⟩ := id B4
    refine ⟨B4, LF, sm _ _ eL3, ⟨dx, pa, he, ea, hp4, ⟨[], ehe, heF, .nil⟩, [], ept, .nil⟩, ⟨hP0, (fun _ h => nomatch h), Nat.zero_le _⟩, ?_, T4, ?_⟩
    · intro z hz
      rw [eF0] at hz
      simp only [List.mem_cons, List.not_mem_nil, or_false] at hz
      rcases hz with rfl | rfl | rfl | rfl | rfl
      · rw [eb5]; exact fun q => nomatch q
      · rw [el5]; exact fun q => nomatch q
      · rw [ea]; exact fun q => nomatch q
      · rw [ept]; exact fun q => nomatch q
      · rw [sm _ _ eP3]; exact fun q => nomatch q
    · intro z hz hn ps
      rw [eF0] at hz
      simp only [List.mem_cons, List.not_mem_nil, or_false] at hz
      rcases hz with rfl | rfl | rfl | rfl | rfl
      · rw [eb5]; exact fun q => nomatch q
      · rw [el5]; exact fun q => nomatch q
      · rw [ea]; exact fun q => nomatch q
      · rw [ept]; exact fun q => nomatch q
      · exact absurd rfl hn
  have aF : ha ∈ F0 := g.inF ha (by simp)
  have pF : pt ∈ F0 := g.inF pt (by simp)
  clear eF0 heF
  refine ⟨_, rfl, (by show 2 ≤ sizeLine; decide), fun pl hpl => ⟨_, rfl, b, l, 2, rfl, by decide, by decide, (J4.same (Same.new hpl)).B, fun r H6 c0 c1 B6 k6 => ?_⟩⟩
  have plF : pl ∉ F0 := J4.hF.nin hpl
  have s5 : Same H4 (upd H4 pl (.lst [.int 8, .int 20])) := Same.new hpl
  have epl : upd H4 pl (.lst [.int 8, .int 20]) pl = some (.lst [.int 8, .int 20]) := upd_same
  have J5 := J4.same s5
  have hp5 := hp4.kt (Same.tupK s5)
  generalize upd H4 pl (.lst [.int 8, .int 20]) = H5 at *
  obtain ⟨J6, kf6⟩ := J5.bk g ⟨B6, k6⟩
  obtain ⟨m, hat, hm0, hm1⟩ : ∃ m : Int, atI [V.int 8, V.int 20] r = some (.int m) ∧ 0 < m ∧ m ≤ 20 := by
    obtain rfl | rfl : r = 0 ∨ r = 1 := by omega
    · exact ⟨8, at0, by decide, by decide⟩
    · exact ⟨20, at1, by decide, by decide⟩
  refine ⟨pl, _, _, .int m, rfl, rfl, SqL.of (kf6.1 _ _ epl plF), hat, b, l, m, rfl, hm0, by omega, J6.B, fun r2 H7 d0 d1 B7 k7 => ⟨_, _, rfl, rfl, ?_⟩⟩
  obtain ⟨J7, kf7⟩ := J6.bk g ⟨B7, k7⟩
  have hp7 := (hp5.kt kf6.2).kt kf7.2
  refine ⟨_, _, rfl, ?_⟩
  obtain ⟨N, eN⟩ : ∃ N : Nat, 1 + r2 = ((N : Nat) : Int) := ⟨(1 + r2).toNat, by omega⟩
  dsimp only
  rw [eN]
  have hN : (((N : Nat) : Int)).toNat = N := by omega
  have N1 : 1 ≤ N := by omega
  have N20 : N ≤ 20 := by omega
  clear J4 J5 J6
  try dsimp only
  refine ⟨_, rfl, _, rfl, by omega, by omega, ?_⟩
  refine for_range (lo := 0) (n := (((N : Nat) : Int)).toNat) (fun i σ H' => ∃ (x : HS) (past : List HS) (v6 : Option V), σ = [some (.ref a), some (.ref b), some (.ref L), some (.ref pa), some (.ref ha), some (.int ((N : Nat) : Int)), v6, none] ∧ LK C F0 FL b l L Pt ha pt x past H' ∧ x.1 = ps0 ∧ x.2.length = i ∧ past.length = i ∧ (past ++ [x]).head? = some (ps0, []) ∧ PaperAt H' ps0 (.ref pa))
    ⟨(ps0, []), [], none, rfl, J7, rfl, rfl, rfl, rfl, hp7⟩ ?_ ?_
  · rintro i σ H8 hi ⟨x, past, v6, rfl, J8, x1, x2, pl8, hd8, hp8⟩
    rw [hN] at hi
    dsimp only [gName]
    obtain ⟨dx8, pa8, he8, ea8, _⟩ := id J8.hh
    refine ⟨_, rfl, ha, dx8, _, rfl, ea8, hf_no _ _ _ (by decide +kernel) (by decide +kernel) (by decide +kernel), _, rfl, _, rfl, b, l, L, FL, rfl, J8.B, nL.1, nL.2, J8.eL, w1, l0, l1, fun p ws H9 hpn ep hw B9 k9 => ?_⟩
    obtain ⟨J9, kf9⟩ := J8.bk g ⟨B9, k9⟩
    refine ⟨F0, ha, pt, p, x, past, ws, rfl, J9.hh, J9.hG, J9.hF, aF, pF, by omega, ep, hw, fun h20 => absurd h20 (by omega), fun hlt HA hhA kA hFA => ?_⟩
    have hGy : GoodS (x.1, x.2 ++ [ws]) := ⟨J8.hG.1, fun z hz => by
      rcases List.mem_append.mp hz with hz | hz
      · exact J8.hG.2.1 z hz
      · rw [List.mem_singleton.mp hz]
        exact hw, by rw [List.length_append, List.length_singleton]; omega⟩
    obtain ⟨JA, kfA⟩ := J9.deed g hhA kA hFA hGy
    refine ⟨_, past ++ [x], _, rfl, JA, x1, ?_, ?_, ?_, (hp8.kt kf9.2).kt kfA.2⟩
    · rw [List.length_append, List.length_singleton, x2]
    · rw [List.length_append, List.length_singleton, pl8]
    · rw [head_snoc]
      exact hd8
  rintro σ H8 ⟨x, past, v6, rfl, J8, x1, x2, pl8, hd8, hp8⟩
  rw [hN] at x2 pl8
  try dsimp only
  clear J7 hp7
  refine ⟨_, rfl, b, l, 9, rfl, by decide, by decide, J8.B, fun r0 H9 g0 g1 B9 k9 => ⟨r0, rfl, by omega, by omega, ?_⟩⟩
  obtain ⟨J9, kf9⟩ := J8.bk g ⟨B9, k9⟩
  have hp9 := hp8.kt kf9.2
  have hr0 : r0.toNat ≤ 8 := by omega
  refine for_range (lo := 0) (n := r0.toNat) (fun i σ H' => ∃ (x : HS) (past : List HS) (v6 v7 : Option V), σ = [some (.ref a), some (.ref b), some (.ref L), some (.ref pa), some (.ref ha), some (.int ((past.length : Nat) : Int)), v6, v7] ∧ LK C F0 FL b l L Pt ha pt x past H' ∧ x.1 = ps0 ∧ 0 < x.2.length ∧ past.length ≤ 20 + 3 * i ∧ (past ++ [x]).head? = some (ps0, []) ∧ PaperAt H' ps0 (.ref pa))
    ⟨x, past, _, _, by rw [pl8], J9, x1, by omega, by omega, hd8, hp9⟩ ?_ ?_
  · clear J9 hp9 J8 hp8 x1 x2 pl8 hd8 kf9
    rintro i σ HA hi ⟨x, past, v6, v7, rfl, JA, x1, x2, plA, hdA, hpA⟩
    dsimp only [gName]
    refine with_rest (fun σ' H' => ∃ (n : Nat) (past' : List HS), σ' = [some (.ref a), some (.ref b), some (.ref L), some (.ref pa), some (.ref ha), some (.int ((past.length : Nat) : Int)), some (.int (0 + (i : Int))), some (.int ((n : Nat) : Int))] ∧ LK C F0 FL b l L Pt ha pt x past' H' ∧ past'.length = past.length + n ∧ n ≤ 3 ∧ (past' ++ [x]).head? = some (ps0, []) ∧ PaperAt H' ps0 (.ref pa)) (fun σ' HB hB => ?_) (fun rest => ?_)
    · obtain ⟨n, past', rfl, JB, ln, n3, hdB, hpB⟩ := hB
      try dsimp only
      refine seq_if (b := false) (fun Q q => ⟨_, rfl, rfl, _, rfl, by rw [decide_eq_false (fun z => nomatch z)]; exact q⟩) (fun z => nomatch z) (fun _ => ?_)
      refine ⟨_, rfl, _, rfl, _, _, rfl, rfl, ?_⟩
      refine ⟨x, past', some (.int (0 + (i : Int))), some (.int ((n : Nat) : Int)), ?_, JB, x1, x2, by omega, hdB, hpB⟩
      rw [show ((past'.length : Nat) : Int) = ((past.length : Nat) : Int) + ((n : Nat) : Int) by omega]
      rfl
    · refine ⟨_, rfl, b, l, 2, rfl, by decide, by decide, JA.B, fun r HB c0 c1 BB kB => ⟨rfl, _, rfl, ?_⟩⟩
      obtain ⟨JB, kfB⟩ := JA.bk g ⟨BB, kB⟩
      have hpB := hpA.kt kfB.2
      refine ite2 (fun _ => ?_) (fun _ => ?_)
      · refine ⟨_, rfl, _, rfl, _, rfl, F0, b, l, L, ha, pt, FL, x, past, rfl, w1, l0, l1, JB, g, x2, by omega, fun n past' HC JC ln n3 hd kf => ?_⟩
        exact rest _ _ ⟨n, past', rfl, JC, ln, n3, hd.trans hdA, hpB.kt kf.2⟩
      · refine ⟨_, rfl, _, rfl, _, rfl, _, rfl, F0, b, l, L, ha, pt, pa, FL, x, past, rfl, w1, l0, l1, JB, g, by rw [x1]; exact hpB, by omega, fun n past' HC JC ln n3 hd kf => ?_⟩
        exact rest _ _ ⟨n, past', rfl, JC, ln, n3, hd.trans hdA, hpB.kt kf.2⟩
  clear J9 hp9 J8 hp8 x1 x2 pl8 hd8 kf9 x past
  rintro σ HA ⟨x, past, v6', v7, rfl, JA, x1, x2, plA, hdA, hpA⟩
  try dsimp only
  refine ⟨_, rfl, _, rfl, by omega, by omega, ?_⟩
  have hn : (((past.length : Nat) : Int)).toNat = past.length := by omega
  refine for_range (lo := 0) (n := (((past.length : Nat) : Int)).toNat) (fun k σ H' => ∃ (v6 : Option V) (y : HS) (p' : List HS), σ = [some (.ref a), some (.ref b), some (.ref L), some (.ref pa), some (.ref ha), some (.int ((past.length : Nat) : Int)), v6, v7] ∧ HeapAt C F0 H' ha pt y p' ∧ p'.length + k = past.length ∧ (p' ++ [y]).head? = some (ps0, []))
    ⟨_, x, past, rfl, JA.hh, rfl, hdA⟩ ?_ ?_
  · rintro k σ HB hk ⟨v6, y, p', rfl, hh', hlen', hhd'⟩
    dsimp only [gName]
    rw [hn] at hk
    obtain ⟨dx, pa2, he, ea, _⟩ := id hh'
    refine ⟨_, rfl, ha, dx, _, rfl, ea, hf_no _ _ _ (by decide +kernel) (by decide +kernel) (by decide +kernel), F0, ha, pt, y, p', rfl, hh', aF, pF, fun hnil => ?_, fun y2 p2 HC e hh2 kp => ?_⟩
    · rw [hnil] at hlen'
      exact absurd hlen' (by show ¬ 0 + k = _; omega)
    · subst e
      refine ⟨true, true, rfl, rfl, _, rfl, iteF ⟨_, y2, p2, rfl, hh2, ?_, ?_⟩⟩
      · rw [List.length_append, List.length_singleton] at hlen'
        omega
      · rw [← hhd']
        exact head_snoc.symm
  · rintro σ HB ⟨v6, y, p', rfl, hh', hlen', hhd'⟩
    rw [hn] at hlen'
    obtain rfl : p' = [] := List.eq_nil_of_length_eq_zero (by omega)
    obtain rfl : y = (ps0, []) := Option.some.inj hhd'
    try dsimp only
    obtain ⟨dx, pa2, he, ea, _⟩ := id hh'
    refine ⟨_, rfl, ha, dx, _, rfl, ea, hf_no _ _ _ (by decide +kernel) (by decide +kernel) (by decide +kernel), F0, ha, pt, (ps0, []), [], rfl, hh', aF, pF, fun _ => ⟨false, false, rfl, rfl, _, rfl, ?_⟩, fun y p H2 e => absurd e (by simp)⟩
    refine iteT ⟨_, rfl, ha, dx, _, rfl, ea, hf_no _ _ _ (by decide +kernel) (by decide +kernel) (by decide +kernel), F0, ha, pt, (ps0, []), [], rfl, hh', ⟨hP0, (fun _ h => nomatch h), Nat.zero_le _⟩, fun f H' s' hf ef => ⟨Nat.zero_le _, fun e he => ⟨.list [], .list [], .lst (SqL.of (Same.new he _ _ ef)) .nil, .lst (SqL.of upd_same) .nil, rfl, rfl, ?_⟩⟩⟩
    exact q _
end
end MS
end
section
set_option maxRecDepth 100000
set_option maxHeartbeats 4000000
namespace HeY
open PySem PySem.Spec PyProof.Rows L2 He
/-! the same facts, looked up at addresses that are written down -/
def obsZ (as : List Addr) (fa : List Fa) (fn : List DefD) (ts : List Tab) (tf : List Defn) (xs : List InD) (ex : PySem.W.Frag → Bool) (g : Addr → Option Obj) : AlY :=
  ((obsT fa fn ts (frT g as), ex (frT g as) && tabsB g tf (frT g as)), xs.map fun d => fnY (frT g as) d.cls)
theorem saysZ_of {as : List Addr} {fa : List Fa} {fn : List DefD} {ts : List Tab} {tf : List Defn} {xs : List InD} {ex : PySem.W.Frag → Bool} {w : World} {h : Heap} (e : obsZ as fa fn ts tf xs ex h.get? = valY fn ts xs w) : SaysY fa fn ts tf xs ex w h (frT h.get? as) := by
  have e0 : (obsT fa fn ts (frT h.get? as), ex (frT h.get? as) && tabsB h.get? tf (frT h.get? as)) = valX fn ts w := congrArg (fun z : AlY => z.1) e
  have e3 : xs.map (fun d => fnY (frT h.get? as) d.cls) = xs.map InD.val := congrArg (fun z : AlY => z.2) e
  obtain ⟨m1, m2⟩ := ba (show (ex (frT h.get? as) && tabsB h.get? tf (frT h.get? as)) = true from congrArg (fun z : AlX => z.2) e0)
  have at_ : ∀ p ∈ tf, PySem.W.codeHdIn (frT h.get? as) (cT (frT h.get? as) p).1 (cT (frT h.get? as) p).2 = true ∧ ∃ o, h.get? (cT (frT h.get? as) p).2 = some o ∧ emptyTab o = true := fun p hp => by
    have b := ba (List.all_eq_true.mp m2 p hp)
    refine ⟨b.1, ?_⟩
    have b2 := b.2
    cases q : h.get? (cT (frT h.get? as) p).2 with
    | none => rw [q] at b2; cases b2
    | some o => rw [q] at b2; exact ⟨o, rfl, b2⟩
  refine ⟨⟨congrArg (fun z : AlX => z.1) e0, m1, fun p hp => (at_ p hp).1, fun p hp => ?_, fun p hp => ?_⟩, e3⟩
  · obtain ⟨o, q, z⟩ := (at_ p hp).2
    exact frT_none q z
  · obtain ⟨o, q, z⟩ := (at_ p hp).2
    rw [q, emptyTab_eq z]
abbrev hookZ (as : List Addr) (fa : List Fa) (fn : List DefD) (ts : List Tab) (tf : List Defn) (xs : List InD) (ex : PySem.W.Frag → Bool) : PySem.W.Hook := {
  α := AlY
  obs := fun s => obsZ as fa fn ts tf xs ex s.heap.get?
  val := fun w => valY fn ts xs w
  says := fun w h => ∃ K : PySem.W.Frag, K.In h ∧ SaysY fa fn ts tf xs ex w h K
  of := fun _ _ e => ⟨_, frT_in, saysZ_of e⟩
  keeps := fun _ _ _ ⟨K, hK, c⟩ k => ⟨K, PySem.W.Frag.In.keeps hK k, ⟨⟨c.x.t, c.x.more, c.x.hd, c.x.out, fun p hp => k _ _ (c.x.empty p hp)⟩, c.inits⟩⟩ }
theorem obsZ_eq {as : List Addr} {fa : List Fa} {fn : List DefD} {ts : List Tab} {tf : List Defn} {xs : List InD} {ex : PySem.W.Frag → Bool} {g : Addr → Option Obj} {s : Shared} (h : ∀ a, g a = s.heap.get? a) : obsZ as fa fn ts tf xs ex g = (hookZ as fa fn ts tf xs ex).obs s := by
  have e : g = s.heap.get? := funext h
  rw [e] <;> rfl
end HeY
end
section
set_option maxRecDepth 100000
set_option maxHeartbeats 0
namespace K3H
open PySem PySem.W PySem.Calls PyProof.Rows
abbrev R : OpenRow := OpenLaw.row PySem.Challenge.rw_markscript_k22_whole_there_and_back
abbrev qv : Program := view R.prog [68]
def names0 : List PySem.Str := ["MarkError", "BadPaper", "BadWork", "BadStep", "BadCount", "NoWork", "BadText", "WORDS", "RIGHT", "WRONG", "CARRIED", "MOST_STEPS", "is_step", "check_work", "SHAPES", "BOUNDS", "MOST_WITHIN", "is_number", "fits", "can_be", "within", "MOST_IN_PAPER", "MOST_IN_SCHEME", "LONGEST_PLACE", "EARNERS", "MOST_EARNERS", "WATCHERS"]
def names1 : List PySem.Str := ["MOST_WATCHERS", "placed", "schemes_in", "many_of", "check_paper", "View", "points_of", "first_points", "row_at", "rows_of_each", "rows_of_all", "rows_of", "rows_by", "MOST_WORKS", "is_place", "with_step", "earnings", "differences", "Heap", "_law_begun", "_law_take", "_law_alike", "_law_told", "_law_letters", "_law_scheme", "_law_counted", "_law_paper"]
def names2 : List PySem.Str := ["_law_step", "_law_work", "_law_near", "_law_turned", "_law_shown", "_law_reread", "_law_change"]
def names : List PySem.Str := names0 ++ names1 ++ names2
/-- a def of the top -/
def dG (x : PySem.Str) (st : Stmt) : He.DefD := ⟨(x, none), x, x, L2.defArgs st, L2.defBody st, L2.defScope st, [], []⟩
def fn0 : List He.DefD := [dG "is_step" MS.s_is_step, dG "check_work" MS.s_check_work, dG "is_number" MS.s_is_number, dG "fits" MS.s_fits, dG "can_be" MS.s_can_be, dG "within" MS.s_within, dG "placed" MS.s_placed, dG "schemes_in" MS.s_schemes_in, dG "many_of" MS.s_many_of, dG "check_paper" MS.s_check_paper, dG "points_of" MS.s_points_of, dG "first_points" MS.s_first_points, dG "row_at" MS.s_row_at, dG "rows_of_each" MS.s_rows_of_each, dG "rows_of_all" MS.s_rows_of_all, dG "rows_of" MS.s_rows_of, dG "rows_by" MS.s_rows_by, dG "is_place" MS.s_is_place]
def fn1 : List He.DefD := [dG "with_step" MS.s_with_step, dG "earnings" MS.s_earnings, dG "differences" MS.s_differences, dG "_law_begun" MS.s_L_begun, dG "_law_take" MS.s_L_take, dG "_law_alike" MS.s_L_alike, dG "_law_told" MS.s_L_told, dG "_law_letters" MS.s_L_letters, dG "_law_scheme" MS.s_L_scheme, dG "_law_counted" MS.s_L_counted, dG "_law_paper" MS.s_L_paper, dG "_law_step" MS.s_L_step, dG "_law_work" MS.s_L_work, dG "_law_turned" MS.s_L_turned, dG "_law_shown" MS.s_L_shown, dG "_law_reread" MS.s_L_reread, dG "_law_change" MS.s_L_change, dG "law" MS.s_law]
/-- a method of a class of the top -/
def dM (C m q : PySem.Str) (st : Stmt) : He.DefD := ⟨(C, some m), m, q, L2.defArgs st, L2.defBody st, L2.defScope st, [], []⟩
def fn2 : List He.DefD := [dM "View" "__init__" "View.__init__" MS.s_View_init, dM "View" "counts" "View.counts" MS.s_View_counts, dM "View" "first" "View.first" MS.s_View_first, dM "View" "last" "View.last" MS.s_View_last, dM "View" "stands" "View.stands" MS.s_View_stands, dM "View" "behind" "View.behind" MS.s_View_behind, dM "View" "carrying" "View.carrying" MS.s_View_carrying, dM "Heap" "__init__" "Heap.__init__" MS.s_H_init, dM "Heap" "become" "Heap.become" MS.s_H_become, dM "Heap" "kept" "Heap.kept" MS.s_H_kept, dM "Heap" "add" "Heap.add" MS.s_H_add, dM "Heap" "reread" "Heap.reread" MS.s_H_reread, dM "Heap" "change" "Heap.change" MS.s_H_change, dM "Heap" "back" "Heap.back" MS.s_H_back, dM "Heap" "work" "Heap.work" MS.s_H_work, dM "Heap" "rows" "Heap.rows" MS.s_H_rows, dM "Heap" "sheet" "Heap.sheet" MS.s_H_sheet]
def fn : List He.DefD := fn0 ++ (fn1 ++ (fn2))
def glo0 : List PySem.Str := ["MarkError", "BadPaper", "BadWork", "BadStep", "BadCount", "NoWork", "BadText", "WORDS", "is_step", "check_work", "SHAPES", "BOUNDS", "is_number", "fits", "can_be", "within", "EARNERS", "WATCHERS", "placed", "schemes_in", "many_of", "check_paper"]
def glo1 : List PySem.Str := ["View", "points_of", "first_points", "row_at", "rows_of_each", "rows_of_all", "rows_of", "rows_by", "is_place", "with_step", "earnings", "differences", "Heap", "_law_begun", "_law_take", "_law_alike", "_law_told", "_law_letters", "_law_scheme", "_law_counted", "_law_paper", "_law_step"]
def glo2 : List PySem.Str := ["_law_work", "_law_turned", "_law_shown", "_law_reread", "_law_change", "law"]
def gloL : List PySem.Str := glo0 ++ glo1 ++ glo2
def freeL : List PySem.Str := ["len", "list", "range", "tuple", "int", "isinstance", "any", "all", "zip", "enumerate", "str", "bool", "min", "max", "sum", "sorted", "set", "reversed", "super", "ValueError"]
def errL : List PySem.Str := ["BadPaper", "BadWork", "BadStep", "BadCount", "NoWork", "BadText"]
def restA : List He.Fa := [.str "RIGHT" "r", .str "WRONG" "w", .str "CARRIED" "c", .int "MOST_STEPS" 12, .int "MOST_WITHIN" 4, .int "MOST_IN_PAPER" 5, .int "MOST_IN_SCHEME" 12, .int "LONGEST_PLACE" 4, .int "MOST_EARNERS" 7, .int "MOST_WATCHERS" 3, .int "MOST_WORKS" 20, .noat "BadPaper" "scheme", .noat "BadPaper" "place", .noat "BadWork" "number", .noat "BadText" "place",
  .cls "View", .noat "View" "steps", .noat "View" "start", .noat "View" "ways", .mkr "View", .cls "Heap", .noat "Heap" "paper", .noat "Heap" "held", .noat "Heap" "past", .mkr "Heap"]
def restB : List He.Fa := [.meth "View" "__init__", .meth "View" "counts", .meth "View" "first", .meth "View" "last", .meth "View" "stands", .meth "View" "behind", .meth "View" "carrying", .meth "Heap" "__init__", .meth "Heap" "become", .meth "Heap" "kept", .meth "Heap" "add", .meth "Heap" "reread", .meth "Heap" "change", .meth "Heap" "back", .meth "Heap" "work", .meth "Heap" "rows", .meth "Heap" "sheet"]
def restF : List He.Fa := restA ++ restB
def fa : List He.Fa := gloL.map .glo ++ (freeL.map .free ++ (restF ++ errL.map fun x => .exm x "MarkError" true))
/-- what stands at a key of a dict of the top, if it is an object -/
def inD (x k : PySem.Str) (K : Frag) : Addr := match nsIn K (He.ga K x) k with
  | some (some (.ref a)) => a
  | _ => 0
/-- a tuple of these stands there -/
def tupAt (K : Frag) (a : Addr) (vs : List L2.V) : Bool := match K.lookup a with
  | some ⟨.type c, _, .seq its _, _⟩ => decide (c = "tuple") && (decide (its.size ≤ sizeLine) && He.relAll vs its.toList)
  | _ => false
def entB (x : PySem.Str) (k : PySem.Str) (vs : List L2.V) (K : Frag) : Bool := He.eqO (nsIn K (He.ga K x) k) (some (some (.ref (inD x k K)))) && tupAt K (inD x k K) vs
def shapesV : List (PySem.Str × List L2.V) := [("step", [.str "word", .str "points"]), ("all", [.str "schemes"]), ("best", [.str "schemes"]), ("most", [.str "limit", .str "scheme"]), ("half", [.str "scheme"]), ("seen", [.str "word", .str "scheme"]), ("behind", [.str "word", .str "scheme"]), ("carry", [.str "scheme"]), ("end", [.str "word", .str "points", .str "scheme"]), ("use", [.str "later"])]
def boundsV : List (PySem.Str × List L2.V) := [("points", [.int 1, .int 9]), ("limit", [.int 0, .int 30])]
def wordsD : List He.Dv := [.str "a", .str "b", .str "c", .str "d", .str "e", .str "f", .str "g", .str "h"]
/-- what is asked of an error caught -/
def excCB (K : Frag) (D : Addr) : Bool := He.eqO (findIn K (.ref D) "__getattribute__") (some (some (.builtin "BaseException.__getattribute__"))) && (He.eqO (findIn K (.ref D) "__getattr__") (some none) && (decide (subIn K (.ref D) (.type "BaseException") = some true) && (hasDictIn K D &&
  (He.eqO (findIn K (.ref D) "__class__") (some (some (.builtin "object.__class__"))) && (He.eqO (specialIn K (.builtin "object.__class__") "__get__") (some (some (.builtin "getset_descriptor.__get__"))) && (decide (takesIn K (.builtin "object.__class__") = some true) && decide (mroIn K D (.type "object") = some true)))))))
def kitB (K : Frag) (i : Nat) : Bool := (List.range 6).all fun j => decide (kitOne K (.ref (He.ga K (errL.getD i ""))) (.ref (He.ga K (errL.getD j ""))) = some (decide (i = j)))
def errB (K : Frag) (i : Nat) : Bool := excCB K (He.ga K (errL.getD i "")) && (kitB K i && (decide (kitOne K (.ref (He.ga K (errL.getD i ""))) (.type "ValueError") = some true) && L2.xfB K (He.ga K (errL.getD i ""))))
def noDfl (K : Frag) (f : Addr) : Bool := match K.lookup f with
  | some ⟨_, _, .func fd, _⟩ => decide (fd.defaults = .none)
  | _ => false
def file : PySem.Str := R.prog.main.file
def initB (K : Frag) (x qn : PySem.Str) : Bool := HeY.supB K file x qn && noDfl K (He.ma K (He.ga K x) "__init__")
def exT (K : Frag) : Bool := He.tupB K "WORDS" wordsD && (He.tupB K "EARNERS" [.str "step", .str "end"] && (He.tupB K "WATCHERS" [.str "seen", .str "behind"] && (shapesV.all (fun p => entB "SHAPES" p.1 p.2 K) && boundsV.all (fun p => entB "BOUNDS" p.1 p.2 K))))
/-- an own error without __init__ -/
def rs0B (K : Frag) (x : PySem.Str) : Bool := excIn K (He.ga K x) [.type "ValueError", .type "Exception", .type "BaseException", .type "object"] "ValueError.__new__" && (keepIn K (.ref (He.ga K x)) && (decide (subIn K (.ref (He.ga K x)) (.type "BaseException") = some true) && decide (typeIn K (.ref (He.ga K x)) = some (.type "type"))))
def exS (K : Frag) : Bool := rs0B K "BadStep" && (rs0B K "BadCount" && decide (exmOne K (.ref (He.ga K "BadWork")) (.ref (He.ga K "BadWork")) = some true))
def ex (K : Frag) : Bool := exT K && ((List.range 6).all (errB K) && (initB K "BadWork" "BadWork.__init__" && exS K))
def ts : List He.Tab := [(fun K => He.ga K "SHAPES", shapesV.map (·.1)), (fun K => He.ga K "BOUNDS", boundsV.map (·.1))]
def tf : List He.Defn := [("_law_reread", none)]
def xs : List HeY.InD := [MS.dWork]
/-- where the top's names, their classes' methods and the code of these stand, when the top has run -/
def asL : List Addr := [3, 2, 24, 46, 67, 79, 91, 103, 124, 266, 411, 0, 1, 6, 17, 23, 30, 45, 51, 66, 72, 78, 84, 90, 96, 102, 108, 123, 142, 153, 212, 265, 338, 410, 43, 42, 64, 63, 121, 120, 134, 133, 141, 140, 162, 161, 169, 168, 174, 173, 181, 180, 188, 187, 195, 194, 202, 201, 209, 208, 223, 222, 230, 229, 237, 236, 244, 243, 249, 248, 256, 255, 263, 262, 275, 274, 282, 281, 289, 288, 294, 293, 299, 298, 304, 303, 311, 310, 318, 317, 325, 324, 330, 329, 335, 334, 349, 348, 356, 355, 363, 362, 370, 369, 377, 376, 382, 381, 389, 388, 396, 395, 403, 402, 408, 407, 422, 421, 429, 428, 436, 435, 443, 442, 450, 449, 455, 454, 460, 459, 465, 464, 472, 471, 477, 476, 484, 483, 491, 490, 496, 495, 501, 500, 506, 505, 513, 512, 9, 12, 13, 16, 20, 25, 26, 27, 29, 31, 33, 34, 47, 48, 50, 52, 54, 55, 68, 69, 71, 75, 80, 81, 83, 87, 92, 93, 95, 99, 104, 105, 107, 109, 111, 112, 125, 126, 127, 143, 144, 145, 146, 147, 148, 149, 150, 151, 152, 154, 155, 182, 183, 211, 214, 215, 267, 268, 269, 270, 337, 340, 341, 412, 413, 414, 415]
abbrev hk : Hook := HeY.hookZ asL fa fn ts tf xs ex
def ob (s : SharedT) : HeY.AlY := HeY.obsZ asL fa fn ts tf xs ex (HandSHeadRun.getT s)
theorem ob_eq (s : SharedT) : ob s = hk.obs s.abs := HeY.obsZ_eq (HandSHeadRun.getT_eq s)
theorem runF (w : World) : HandSHeadRun.RunEq R qv hk ob 6000 names (w.withFollow "special-get-raises" false) := fun os => by kernel_rfl
theorem runT (w : World) : HandSHeadRun.RunEq R qv hk ob 6000 names (w.withFollow "special-get-raises" true) := fun os => by kernel_rfl
theorem run (w : World) : HandSHeadRun.RunEq R qv hk ob 6000 names w :=
  byRow2 "special-get-raises" (P := fun w => HandSHeadRun.RunEq R qv hk ob 6000 names w) runF runT w
end K3H
end
section
set_option maxRecDepth 100000
set_option maxHeartbeats 4000000
namespace MS
open PySem L2
/-! ### the head: what the top has left -/
section
variable {w : World} {K : PySem.W.Frag} {h : Heap} {mg : Str → Option Value}
theorem fa_glo (c : He.SaysD K3H.fa K3H.fn K) {x : Str} (hx : x ∈ K3H.gloL) : (He.Fa.glo x).ok K = true := c.facts (List.mem_append_left _ (List.mem_map_of_mem hx))
theorem fa_free (c : He.SaysD K3H.fa K3H.fn K) {x : Str} (hx : x ∈ K3H.freeL) : (He.Fa.free x).ok K = true := c.facts (List.mem_append_right _ (List.mem_append_left _ (List.mem_map_of_mem hx)))
theorem fa_rest (c : He.SaysD K3H.fa K3H.fn K) (i : Nat) {f : He.Fa} (hi : K3H.restF[i]? = some f := by rfl) : f.ok K = true := c.facts (List.mem_append_right _ (List.mem_append_right _ (List.mem_append_left _ (List.mem_of_getElem? hi))))
theorem fa_err (c : He.SaysD K3H.fa K3H.fn K) {x : Str} (hx : x ∈ K3H.errL) : (He.Fa.exm x "MarkError" true).ok K = true := c.facts (List.mem_append_right _ (List.mem_append_right _ (List.mem_append_right _ (List.mem_map_of_mem (f := fun x => He.Fa.exm x "MarkError" true) hx))))
theorem fn_0 (c : He.SaysD K3H.fa K3H.fn K) (i : Nat) {d : He.DefD} (hi : K3H.fn0[i]? = some d := by rfl) : ∃ fd, FunD K d.name d.qual d.params d.body d.scope (d.dvs K) (d.kws K) (He.fAd K d.at_) fd := c.defs (List.mem_append_left _ (List.mem_of_getElem? hi))
theorem fn_1 (c : He.SaysD K3H.fa K3H.fn K) (i : Nat) {d : He.DefD} (hi : K3H.fn1[i]? = some d := by rfl) : ∃ fd, FunD K d.name d.qual d.params d.body d.scope (d.dvs K) (d.kws K) (He.fAd K d.at_) fd := c.defs (List.mem_append_right _ (List.mem_append_left _ (List.mem_of_getElem? hi)))
theorem fn_2 (c : He.SaysD K3H.fa K3H.fn K) (i : Nat) {d : He.DefD} (hi : K3H.fn2[i]? = some d := by rfl) : ∃ fd, FunD K d.name d.qual d.params d.body d.scope (d.dvs K) (d.kws K) (He.fAd K d.at_) fd := c.defs (List.mem_append_right _ (List.mem_append_right _ (List.mem_of_getElem? hi)))
noncomputable def mkDef (X : K.In h) (G : h.Ns mainGlobals mg) (x : Str) (st : Stmt) (ps : List Str) (hg : (He.Fa.glo x).ok K = true) (hd : ∃ fd, FnP K x st (He.ga K x) fd) (hb : ∀ fd, FnP K x st (He.ga K x) fd → Binds K fd ps []) : Def K mg x st ps :=
  ⟨He.ga K x, hd.choose, hd.choose_spec, He.glo_ok X G hg, hb _ hd.choose_spec⟩
end
theorem tupAt_ok {K : PySem.W.Frag} {a : Addr} {vs : List V} (h : K3H.tupAt K a vs = true) (H : Hp) : SqT K H a vs := by
  unfold K3H.tupAt at h
  cases q : K.lookup a with
  | none =>
    rw [q] at h
    cases h
  | some o =>
    obtain ⟨oc, od, dt, osl⟩ := o
    rw [q] at h
    cases oc with
    | type c =>
      cases dt with
      | seq its n =>
        obtain ⟨g1, g2⟩ := He.ba (show (decide (c = "tuple") && (decide (its.size ≤ sizeLine) && He.relAll vs its.toList)) = true from h)
        obtain ⟨g3, g4⟩ := He.ba g2
        exact .inr ⟨_, its, n, q, congrArg Value.type (of_decide_eq_true g1), rfl, of_decide_eq_true g3, He.relAll_ok g4⟩
      | _ => cases h
    | _ => cases dt <;> cases h
theorem ent_ok {w : World} {K : PySem.W.Frag} {x k : Str} {vs : List V} (hd : ∃ es n, KDict K w (He.ga K x) es n) (h : K3H.entB x k vs K = true) : ∃ t, KDct K w (He.ga K x) k (.ref t) ∧ ∀ H, SqT K H t vs := by
  obtain ⟨h1, h2⟩ := He.ba h
  obtain ⟨es, n, l, kl, _⟩ := hd
  exact ⟨K3H.inD x k K, ⟨es, n, _, l, kl, He.eqO_ok h1, rfl⟩, fun H => tupAt_ok h2 H⟩
section
variable {w : World} {K : PySem.W.Frag} {h : Heap} {mg : Str → Option Value}
theorem excCB_ok {D : Addr} (h : K3H.excCB K D = true) : ExcC K D := by
  obtain ⟨h1, h⟩ := He.ba h
  obtain ⟨h2, h⟩ := He.ba h
  obtain ⟨h3, h⟩ := He.ba h
  obtain ⟨h4, h⟩ := He.ba h
  obtain ⟨h5, h⟩ := He.ba h
  obtain ⟨h6, h⟩ := He.ba h
  obtain ⟨h7, h8⟩ := He.ba h
  exact ⟨He.eqO_ok h1, He.eqO_ok h2, of_decide_eq_true h3, h4, He.eqO_ok h5, He.eqO_ok h6, of_decide_eq_true h7, of_decide_eq_true h8⟩
theorem ptx (X : K.In h) (G : h.Ns mainGlobals mg) (c : He.SaysT K3H.fa K3H.fn K3H.ts w K) (e : K3H.exT K = true) : PTx w K mg := by
  have d := c.d
  obtain ⟨e1, e⟩ := He.ba e
  obtain ⟨e2, e⟩ := He.ba e
  obtain ⟨e3, e⟩ := He.ba e
  obtain ⟨e4, e5⟩ := He.ba e
  have tS := c.tab 0 (t := (fun K => He.ga K "SHAPES", K3H.shapesV.map (·.1))) rfl
  have tB := c.tab 1 (t := (fun K => He.ga K "BOUNDS", K3H.boundsV.map (·.1))) rfl
  have bS : ∀ p ∈ K3H.boundsV, ∃ t, KDct K w (He.ga K "BOUNDS") p.1 (.ref t) ∧ ∀ H, SqT K H t p.2 := fun p hp => ent_ok tB (List.all_eq_true.mp e5 p hp)
  obtain ⟨t1, k1, q1⟩ := bS ("points", [.int 1, .int 9]) List.mem_cons_self
  obtain ⟨t2, k2, q2⟩ := bS ("limit", [.int 0, .int 30]) (List.mem_cons_of_mem _ List.mem_cons_self)
  have hSh : ∀ p ∈ shapesL, ∃ t, KDct K w (He.ga K "SHAPES") p.1 (.ref t) ∧ ∀ H, SqT K H t (p.2.map V.str) := fun p hp => by
    have hm : (p.1, p.2.map V.str) ∈ K3H.shapesV := by
      have hp' : (p.1, p.2.map V.str) ∈ shapesL.map fun p => (p.1, p.2.map V.str) := List.mem_map_of_mem (f := fun p : Str × List Str => (p.1, p.2.map V.str)) hp
      exact hp'
    exact ent_ok (x := "SHAPES") (k := p.1) (vs := p.2.map V.str) tS (List.all_eq_true.mp e4 _ hm)
  exact {
    words := ⟨_, He.glo_ok X G (fa_glo d (x := "WORDS") (by decide +kernel)), fun H => He.tupB_ok e1 H⟩
    right := He.str_ok X G (fa_rest d 0)
    wrong := He.str_ok X G (fa_rest d 1)
    carried := He.str_ok X G (fa_rest d 2)
    mostSteps := He.int_ok X G (fa_rest d 3)
    mostWithin := He.int_ok X G (fa_rest d 4)
    mostInPaper := He.int_ok X G (fa_rest d 5)
    mostInScheme := He.int_ok X G (fa_rest d 6)
    longest := He.int_ok X G (fa_rest d 7)
    mostE := He.int_ok X G (fa_rest d 8)
    mostW := He.int_ok X G (fa_rest d 9)
    earners := ⟨_, He.glo_ok X G (fa_glo d (x := "EARNERS") (by decide +kernel)), fun H => He.tupB_ok e2 H⟩
    watchers := ⟨_, He.glo_ok X G (fa_glo d (x := "WATCHERS") (by decide +kernel)), fun H => He.tupB_ok e3 H⟩
    shapes := ⟨_, He.glo_ok X G (fa_glo d (x := "SHAPES") (by decide +kernel)), by
      obtain ⟨_, _, _, _, z⟩ := tS
      exact z, hSh⟩
    bounds := ⟨_, He.glo_ok X G (fa_glo d (x := "BOUNDS") (by decide +kernel)), t1, t2, k1, q1, k2, q2⟩
    free := fun x hx => He.free_ok X G (fa_free d (show x ∈ K3H.freeL from (List.mem_append_left (["super", "ValueError"] : List Str) hx : x ∈ freeL ++ (["super", "ValueError"] : List Str)))) }
noncomputable def errF (X : K.In h) (G : h.Ns mainGlobals mg) (d : He.SaysD K3H.fa K3H.fn K) (e : K3H.ex K = true) : ErrF K mg := 
  have e1 := (He.ba (He.ba e).2).1
  have er : ∀ i, i < 6 → K3H.errB K i = true := fun i hi => List.all_eq_true.mp e1 i (List.mem_range.mpr hi)
  have parts : ∀ i, i < 6 → K3H.excCB K (He.ga K (errNm i)) = true ∧ K3H.kitB K i = true ∧ PySem.W.kitOne K (.ref (He.ga K (errNm i))) (.type "ValueError") = some true ∧ xfB K (He.ga K (errNm i)) = true := fun i hi => by
    obtain ⟨h1, h⟩ := He.ba (er i hi)
    obtain ⟨h2, h⟩ := He.ba h
    obtain ⟨h3, h4⟩ := He.ba h
    exact ⟨h1, h2, of_decide_eq_true h3, h4⟩
  { A := fun i => He.ga K (errNm i)
    CM := He.ga K "MarkError"
    gP := He.glo_ok X G (fa_glo d (x := "BadPaper") (by decide +kernel))
    gW := He.glo_ok X G (fa_glo d (x := "BadWork") (by decide +kernel))
    gS := He.glo_ok X G (fa_glo d (x := "BadStep") (by decide +kernel))
    gC := He.glo_ok X G (fa_glo d (x := "BadCount") (by decide +kernel))
    gN := He.glo_ok X G (fa_glo d (x := "NoWork") (by decide +kernel))
    gT := He.glo_ok X G (fa_glo d (x := "BadText") (by decide +kernel))
    gM := He.glo_ok X G (fa_glo d (x := "MarkError") (by decide +kernel))
    ve := He.free_ok X G (fa_free d (x := "ValueError") (by decide +kernel))
    isi := He.free_ok X G (fa_free d (x := "isinstance") (by decide +kernel))
    ex := fun i hi => excCB_ok (parts i hi).1
    kit := fun i j hi hj => of_decide_eq_true (List.all_eq_true.mp (parts i hi).2.1 j (List.mem_range.mpr hj))
    kv := fun i hi => (parts i hi).2.2.1
    exm := fun i hi => by
      have hm : errNm i ∈ K3H.errL := by
        have key : ∀ i, i < 6 → errNm i ∈ K3H.errL := by decide +kernel
        exact key i hi
      exact He.exm_ok (fa_err d hm)
    xf := fun i hi => xfB_ok (parts i hi).2.2.2
    no0 := He.noat_ok (fa_rest d 11)
    no1 := He.noat_ok (fa_rest d 12)
    no2 := He.noat_ok (fa_rest d 13)
    no3 := He.noat_ok (fa_rest d 14) }
noncomputable def mkDefM (C m q : Str) (st : Stmt) (ps : List Str) (hm : (He.Fa.meth C m).ok K = true) (hd : ∃ fd, FunD K m q (defArgs st) (defBody st) (defScope st) [] [] (He.ma K (He.ga K C) m) fd) (hb : ∀ fd, FunD K m q (defArgs st) (defBody st) (defScope st) [] [] (He.ma K (He.ga K C) m) fd → Binds K fd ps []) : DefM K (He.ga K C) m q st ps :=
  ⟨He.ma K (He.ga K C) m, hd.choose, hd.choose_spec, He.meth_ok hm, hb _ hd.choose_spec⟩
noncomputable def rs0 {x : Str} (X : K.In h) (G : h.Ns mainGlobals mg) (hg : (He.Fa.glo x).ok K = true) (e : K3H.rs0B K x = true) : Rs0 K mg x :=
  { C := He.ga K x
    q := (He.ba e).1
    g := He.glo_ok X G hg
    kC := (He.ba (He.ba e).2).1
    sb := of_decide_eq_true (He.ba (He.ba (He.ba e).2).2).1
    ty := of_decide_eq_true (He.ba (He.ba (He.ba e).2).2).2 }
theorem init_fd {P : Program} {dd : HeY.InD} (Y : HeY.SupX P K dd) (hn : K3H.noDfl K (He.ma K (He.ga K dd.cls) "__init__") = true) : ∃ (oc : Value) (od : Option Addr) (osl : Array (Option Value)) (kV doc pm : Value) (an : Option Addr) (ct : Value), K.lookup (He.ma K (He.ga K dd.cls) "__init__") = some ⟨oc, od, .func (PySem.W.ksFn "__init__" dd.qual dd.params dd.body dd.scope .none kV doc pm an (.ref (HeY.cdOf K (He.ma K (He.ga K dd.cls) "__init__"))) ct (HeY.ccOf K (He.ma K (He.ga K dd.cls) "__init__"))), osl⟩ := by
  obtain ⟨oc, od, osl, dV, kV, doc, pm, an, ct, lk⟩ := Y.c.fn
  unfold K3H.noDfl at hn
  rw [lk] at hn
  obtain rfl : dV = .none := of_decide_eq_true hn
  exact ⟨oc, od, osl, kV, doc, pm, an, ct, lk⟩
end
end MS
end
section
set_option maxRecDepth 100000
set_option maxHeartbeats 4000000
namespace MS
open PySem L2
section
set_option maxHeartbeats 0
theorem facts {P : Program} {w : World} {K : PySem.W.Frag} {h : Heap} {mg : Str → Option Value} {f : Addr} (hfile : P.main.file = K3H.file) (hsup : (P.main.scope.names.lookup ("super" : Str)).isSome = false) (X : K.In h) (G : h.Ns mainGlobals mg) (hfa : mg ("law" : Str) = some (.ref f)) (c : HeY.SaysY K3H.fa K3H.fn K3H.ts K3H.tf K3H.xs K3H.ex w h K) :
    ∃ fd : FuncData, (∀ (s : Shared) (v : Value), BindsTo s fd ⟨[v], []⟩ [("_law_script", v)]) ∧ ∀ base : Heap, K.In base → base.Ns mainGlobals mg → LamX.TabB base mg (He.cT K ("_law_reread", none)).1 (He.cT K ("_law_reread", none)).2 → FnOk P w K mg base CX0 100 f fd ["_law_script"] (spLaw K (He.cT K ("_law_reread", none)).2) := by
  have d := c.x.t.d
  obtain ⟨e1, e⟩ := He.ba c.x.more
  have T := ptx (w := w) X G c.x.t e1
  let F := errF X G d c.x.more
  obtain ⟨e2, e⟩ := He.ba e
  obtain ⟨e3, e⟩ := He.ba e
  obtain ⟨e3a, e3b⟩ := He.ba e3
  obtain ⟨e4, e⟩ := He.ba e
  obtain ⟨e5, e6⟩ := He.ba e
  have i0 : HeY.fnY K dWork.cls = dWork.val := by
    have := c.inits
    exact (List.cons.inj this).1
  have YW : HeY.SupX P K dWork := HeY.supB_ok i0 e3a hfile
  have msu : mg "super" = none := He.free_ok X G (fa_free d (x := "super") (by decide +kernel))
  obtain ⟨oc1, od1, osl1, kV1, doc1, pm1, an1, ct1, lk1⟩ := init_fd YW e3b
  let DP : DPaper K mg := {
    DN := (mkDef X G "is_number" s_is_number ["thing"] (fa_glo d (by decide +kernel)) (fn_0 d 2 (d := K3H.dG "is_number" s_is_number)) fun fd F => F.bindsN fun _ _ _ _ _ _ us hl => match us, hl with | [_], _ => rfl)
    DF := (mkDef X G "fits" s_fits ["part", "kind", "number", "many"] (fa_glo d (by decide +kernel)) (fn_0 d 3 (d := K3H.dG "fits" s_fits)) fun fd F => F.bindsN fun _ _ _ _ _ _ us hl => match us, hl with | [_, _, _, _], _ => rfl)
    DB := (mkDef X G "can_be" s_can_be ["thing", "number", "many"] (fa_glo d (by decide +kernel)) (fn_0 d 4 (d := K3H.dG "can_be" s_can_be)) fun fd F => F.bindsN fun _ _ _ _ _ _ us hl => match us, hl with | [_, _, _], _ => rfl)
    DI := (mkDef X G "within" s_within ["scheme"] (fa_glo d (by decide +kernel)) (fn_0 d 5 (d := K3H.dG "within" s_within)) fun fd F => F.bindsN fun _ _ _ _ _ _ us hl => match us, hl with | [_], _ => rfl)
    DP := (mkDef X G "placed" s_placed ["schemes", "place"] (fa_glo d (by decide +kernel)) (fn_0 d 6 (d := K3H.dG "placed" s_placed)) fun fd F => F.bindsN fun _ _ _ _ _ _ us hl => match us, hl with | [_, _], _ => rfl)
    DS := (mkDef X G "schemes_in" s_schemes_in ["paper", "number"] (fa_glo d (by decide +kernel)) (fn_0 d 7 (d := K3H.dG "schemes_in" s_schemes_in)) fun fd F => F.bindsN fun _ _ _ _ _ _ us hl => match us, hl with | [_, _], _ => rfl)
    DM := (mkDef X G "many_of" s_many_of ["names", "parts"] (fa_glo d (by decide +kernel)) (fn_0 d 8 (d := K3H.dG "many_of" s_many_of)) fun fd F => F.bindsN fun _ _ _ _ _ _ us hl => match us, hl with | [_, _], _ => rfl)
    DC := (mkDef X G "check_paper" s_check_paper ["paper"] (fa_glo d (by decide +kernel)) (fn_0 d 9 (d := K3H.dG "check_paper" s_check_paper)) fun fd F => F.bindsN fun _ _ _ _ _ _ us hl => match us, hl with | [_], _ => rfl) }
  let DRw : DRows K mg := {
    DPt := (mkDef X G "points_of" s_points_of ["rows"] (fa_glo d (by decide +kernel)) (fn_0 d 10 (d := K3H.dG "points_of" s_points_of)) fun fd F => F.bindsN fun _ _ _ _ _ _ us hl => match us, hl with | [_], _ => rfl)
    DFp := (mkDef X G "first_points" s_first_points ["rows", "limit"] (fa_glo d (by decide +kernel)) (fn_0 d 11 (d := K3H.dG "first_points" s_first_points)) fun fd F => F.bindsN fun _ _ _ _ _ _ us hl => match us, hl with | [_, _], _ => rfl)
    DRa := (mkDef X G "row_at" s_row_at ["place", "points", "where"] (fa_glo d (by decide +kernel)) (fn_0 d 12 (d := K3H.dG "row_at" s_row_at)) fun fd F => F.bindsN fun _ _ _ _ _ _ us hl => match us, hl with | [_, _, _], _ => rfl)
    DE := (mkDef X G "rows_of_each" s_rows_of_each ["paper", "schemes", "where", "view"] (fa_glo d (by decide +kernel)) (fn_0 d 13 (d := K3H.dG "rows_of_each" s_rows_of_each)) fun fd F => F.bindsN fun _ _ _ _ _ _ us hl => match us, hl with | [_, _, _, _], _ => rfl)
    DA := (mkDef X G "rows_of_all" s_rows_of_all ["paper", "schemes", "where", "view"] (fa_glo d (by decide +kernel)) (fn_0 d 14 (d := K3H.dG "rows_of_all" s_rows_of_all)) fun fd F => F.bindsN fun _ _ _ _ _ _ us hl => match us, hl with | [_, _, _, _], _ => rfl)
    DR := (mkDef X G "rows_of" s_rows_of ["paper", "scheme", "where", "view"] (fa_glo d (by decide +kernel)) (fn_0 d 15 (d := K3H.dG "rows_of" s_rows_of)) fun fd F => F.bindsN fun _ _ _ _ _ _ us hl => match us, hl with | [_, _, _, _], _ => rfl)
    DB := (mkDef X G "rows_by" s_rows_by ["paper", "work"] (fa_glo d (by decide +kernel)) (fn_0 d 16 (d := K3H.dG "rows_by" s_rows_by)) fun fd F => F.bindsN fun _ _ _ _ _ _ us hl => match us, hl with | [_, _], _ => rfl)
    DI := (mkDef X G "is_step" s_is_step ["thing"] (fa_glo d (by decide +kernel)) (fn_0 d 0 (d := K3H.dG "is_step" s_is_step)) fun fd F => F.bindsN fun _ _ _ _ _ _ us hl => match us, hl with | [_], _ => rfl)
    DC := (mkDef X G "check_work" s_check_work ["work"] (fa_glo d (by decide +kernel)) (fn_0 d 1 (d := K3H.dG "check_work" s_check_work)) fun fd F => F.bindsN fun _ _ _ _ _ _ us hl => match us, hl with | [_], _ => rfl) }
  let DH : DHeap K mg := {
    DPl := (mkDef X G "is_place" s_is_place ["thing", "many"] (fa_glo d (by decide +kernel)) (fn_0 d 17 (d := K3H.dG "is_place" s_is_place)) fun fd F => F.bindsN fun _ _ _ _ _ _ us hl => match us, hl with | [_, _], _ => rfl)
    DWS := (mkDef X G "with_step" s_with_step ["work", "place", "step"] (fa_glo d (by decide +kernel)) (fn_1 d 0 (d := K3H.dG "with_step" s_with_step)) fun fd F => F.bindsN fun _ _ _ _ _ _ us hl => match us, hl with | [_, _, _], _ => rfl)
    DE := (mkDef X G "earnings" s_earnings ["rows"] (fa_glo d (by decide +kernel)) (fn_1 d 1 (d := K3H.dG "earnings" s_earnings)) fun fd F => F.bindsN fun _ _ _ _ _ _ us hl => match us, hl with | [_], _ => rfl)
    DD := (mkDef X G "differences" s_differences ["rows", "other_rows"] (fa_glo d (by decide +kernel)) (fn_1 d 2 (d := K3H.dG "differences" s_differences)) fun fd F => F.bindsN fun _ _ _ _ _ _ us hl => match us, hl with | [_, _], _ => rfl) }
  let D : D22 K mg := {
    DBg := (mkDef X G "_law_begun" s_L_begun ["_law_script"] (fa_glo d (by decide +kernel)) (fn_1 d 3 (d := K3H.dG "_law_begun" s_L_begun)) fun fd F => F.bindsN fun _ _ _ _ _ _ us hl => match us, hl with | [_], _ => rfl)
    DT := (mkDef X G "_law_take" s_L_take ["_law_box", "_law_many"] (fa_glo d (by decide +kernel)) (fn_1 d 4 (d := K3H.dG "_law_take" s_L_take)) fun fd F => F.bindsN fun _ _ _ _ _ _ us hl => match us, hl with | [_, _], _ => rfl)
    DTo := (mkDef X G "_law_told" s_L_told ["_law_work_here"] (fa_glo d (by decide +kernel)) (fn_1 d 6 (d := K3H.dG "_law_told" s_L_told)) fun fd F => F.bindsN fun _ _ _ _ _ _ us hl => match us, hl with | [_], _ => rfl)
    DLe := (mkDef X G "_law_letters" s_L_letters ["_law_box"] (fa_glo d (by decide +kernel)) (fn_1 d 7 (d := K3H.dG "_law_letters" s_L_letters)) fun fd F => F.bindsN fun _ _ _ _ _ _ us hl => match us, hl with | [_], _ => rfl)
    DSc := (mkDef X G "_law_scheme" s_L_scheme ["_law_box", "_law_letters_here", "_law_left", "_law_deep", "_law_uses"] (fa_glo d (by decide +kernel)) (fn_1 d 8 (d := K3H.dG "_law_scheme" s_L_scheme)) fun fd F => F.bindsN fun _ _ _ _ _ _ us hl => match us, hl with | [_, _, _, _, _], _ => rfl)
    DCo := (mkDef X G "_law_counted" s_L_counted ["_law_scheme_here", "_law_uses"] (fa_glo d (by decide +kernel)) (fn_1 d 9 (d := K3H.dG "_law_counted" s_L_counted)) fun fd F => F.bindsN fun _ _ _ _ _ _ us hl => match us, hl with | [_, _], _ => rfl)
    DPa := (mkDef X G "_law_paper" s_L_paper ["_law_box", "_law_letters_here"] (fa_glo d (by decide +kernel)) (fn_1 d 10 (d := K3H.dG "_law_paper" s_L_paper)) fun fd F => F.bindsN fun _ _ _ _ _ _ us hl => match us, hl with | [_, _], _ => rfl)
    DSt := (mkDef X G "_law_step" s_L_step ["_law_box", "_law_letters_here", "_law_was_wrong"] (fa_glo d (by decide +kernel)) (fn_1 d 11 (d := K3H.dG "_law_step" s_L_step)) fun fd F => F.bindsN fun _ _ _ _ _ _ us hl => match us, hl with | [_, _, _], _ => rfl)
    DWk := (mkDef X G "_law_work" s_L_work ["_law_box", "_law_letters_here", "_law_most"] (fa_glo d (by decide +kernel)) (fn_1 d 12 (d := K3H.dG "_law_work" s_L_work)) fun fd F => F.bindsN fun _ _ _ _ _ _ us hl => match us, hl with | [_, _, _], _ => rfl)
    DTu := (mkDef X G "_law_turned" s_L_turned ["_law_box", "_law_scheme_here", "_law_letters_here"] (fa_glo d (by decide +kernel)) (fn_1 d 13 (d := K3H.dG "_law_turned" s_L_turned)) fun fd F => F.bindsN fun _ _ _ _ _ _ us hl => match us, hl with | [_, _, _], _ => rfl)
    DSh := (mkDef X G "_law_shown" s_L_shown ["_law_heap"] (fa_glo d (by decide +kernel)) (fn_1 d 14 (d := K3H.dG "_law_shown" s_L_shown)) fun fd F => F.bindsN fun _ _ _ _ _ _ us hl => match us, hl with | [_], _ => rfl)
    DRe := (mkDef X G "_law_reread" s_L_reread ["_law_box", "_law_heap", "_law_letters_here"] (fa_glo d (by decide +kernel)) (fn_1 d 15 (d := K3H.dG "_law_reread" s_L_reread)) fun fd F => F.bindsN fun _ _ _ _ _ _ us hl => match us, hl with | [_, _, _], _ => rfl)
    DCh := (mkDef X G "_law_change" s_L_change ["_law_box", "_law_heap", "_law_paper_here", "_law_letters_here"] (fa_glo d (by decide +kernel)) (fn_1 d 16 (d := K3H.dG "_law_change" s_L_change)) fun fd F => F.bindsN fun _ _ _ _ _ _ us hl => match us, hl with | [_, _, _, _], _ => rfl) }
  let YV : VCls K mg (He.ga K "View") := {
    cl := He.cls_ok (fa_rest d 15)
    nSteps := He.noat_ok (fa_rest d 16)
    nStart := He.noat_ok (fa_rest d 17)
    nWays := He.noat_ok (fa_rest d 18)
    mgC := He.glo_ok X G (fa_glo d (x := "View") (by decide +kernel))
    makes := (He.mkr_ok (fa_rest d 19)).makes
    kp := (He.mkr_ok (fa_rest d 19)).kp
    DI := mkDefM "View" "__init__" "View.__init__" s_View_init ["self", "steps", "start", "ways"] (fa_rest d 25) (fn_2 d 0 (d := K3H.dM "View" "__init__" "View.__init__" s_View_init)) fun fd F => F.bindsN fun _ _ _ _ _ _ us hl => match us, hl with | [_, _, _, _], _ => rfl
    DC := mkDefM "View" "counts" "View.counts" s_View_counts ["self", "place", "word"] (fa_rest d 26) (fn_2 d 1 (d := K3H.dM "View" "counts" "View.counts" s_View_counts)) fun fd F => F.bindsN fun _ _ _ _ _ _ us hl => match us, hl with | [_, _, _], _ => rfl
    DF := mkDefM "View" "first" "View.first" s_View_first ["self", "word"] (fa_rest d 27) (fn_2 d 2 (d := K3H.dM "View" "first" "View.first" s_View_first)) fun fd F => F.bindsN fun _ _ _ _ _ _ us hl => match us, hl with | [_, _], _ => rfl
    DL := mkDefM "View" "last" "View.last" s_View_last ["self", "word"] (fa_rest d 28) (fn_2 d 3 (d := K3H.dM "View" "last" "View.last" s_View_last)) fun fd F => F.bindsN fun _ _ _ _ _ _ us hl => match us, hl with | [_, _], _ => rfl
    DS := mkDefM "View" "stands" "View.stands" s_View_stands ["self", "word"] (fa_rest d 29) (fn_2 d 4 (d := K3H.dM "View" "stands" "View.stands" s_View_stands)) fun fd F => F.bindsN fun _ _ _ _ _ _ us hl => match us, hl with | [_, _], _ => rfl
    DB := mkDefM "View" "behind" "View.behind" s_View_behind ["self", "place"] (fa_rest d 30) (fn_2 d 5 (d := K3H.dM "View" "behind" "View.behind" s_View_behind)) fun fd F => F.bindsN fun _ _ _ _ _ _ us hl => match us, hl with | [_, _], _ => rfl
    DY := mkDefM "View" "carrying" "View.carrying" s_View_carrying ["self"] (fa_rest d 31) (fn_2 d 6 (d := K3H.dM "View" "carrying" "View.carrying" s_View_carrying)) fun fd F => F.bindsN fun _ _ _ _ _ _ us hl => match us, hl with | [_], _ => rfl }
  let Y : HCls K mg (He.ga K "Heap") := {
    cl := He.cls_ok (fa_rest d 20)
    nPaper := He.noat_ok (fa_rest d 21)
    nHeld := He.noat_ok (fa_rest d 22)
    nPast := He.noat_ok (fa_rest d 23)
    mgC := He.glo_ok X G (fa_glo d (x := "Heap") (by decide +kernel))
    makes := (He.mkr_ok (fa_rest d 24)).makes
    kp := (He.mkr_ok (fa_rest d 24)).kp
    DI := mkDefM "Heap" "__init__" "Heap.__init__" s_H_init ["self", "paper"] (fa_rest d 32) (fn_2 d 7 (d := K3H.dM "Heap" "__init__" "Heap.__init__" s_H_init)) fun fd F => F.bindsN fun _ _ _ _ _ _ us hl => match us, hl with | [_, _], _ => rfl
    DBe := mkDefM "Heap" "become" "Heap.become" s_H_become ["self", "paper", "held"] (fa_rest d 33) (fn_2 d 8 (d := K3H.dM "Heap" "become" "Heap.become" s_H_become)) fun fd F => F.bindsN fun _ _ _ _ _ _ us hl => match us, hl with | [_, _, _], _ => rfl
    DK := mkDefM "Heap" "kept" "Heap.kept" s_H_kept ["self", "number"] (fa_rest d 34) (fn_2 d 9 (d := K3H.dM "Heap" "kept" "Heap.kept" s_H_kept)) fun fd F => F.bindsN fun _ _ _ _ _ _ us hl => match us, hl with | [_, _], _ => rfl
    DA := mkDefM "Heap" "add" "Heap.add" s_H_add ["self", "work"] (fa_rest d 35) (fn_2 d 10 (d := K3H.dM "Heap" "add" "Heap.add" s_H_add)) fun fd F => F.bindsN fun _ _ _ _ _ _ us hl => match us, hl with | [_, _], _ => rfl
    DR := mkDefM "Heap" "reread" "Heap.reread" s_H_reread ["self", "number", "place", "step"] (fa_rest d 36) (fn_2 d 11 (d := K3H.dM "Heap" "reread" "Heap.reread" s_H_reread)) fun fd F => F.bindsN fun _ _ _ _ _ _ us hl => match us, hl with | [_, _, _, _], _ => rfl
    DC := mkDefM "Heap" "change" "Heap.change" s_H_change ["self", "number", "scheme"] (fa_rest d 37) (fn_2 d 12 (d := K3H.dM "Heap" "change" "Heap.change" s_H_change)) fun fd F => F.bindsN fun _ _ _ _ _ _ us hl => match us, hl with | [_, _, _], _ => rfl
    DB := mkDefM "Heap" "back" "Heap.back" s_H_back ["self"] (fa_rest d 38) (fn_2 d 13 (d := K3H.dM "Heap" "back" "Heap.back" s_H_back)) fun fd F => F.bindsN fun _ _ _ _ _ _ us hl => match us, hl with | [_], _ => rfl
    DW := mkDefM "Heap" "work" "Heap.work" s_H_work ["self", "number"] (fa_rest d 39) (fn_2 d 14 (d := K3H.dM "Heap" "work" "Heap.work" s_H_work)) fun fd F => F.bindsN fun _ _ _ _ _ _ us hl => match us, hl with | [_, _], _ => rfl
    DRo := mkDefM "Heap" "rows" "Heap.rows" s_H_rows ["self", "number"] (fa_rest d 40) (fn_2 d 15 (d := K3H.dM "Heap" "rows" "Heap.rows" s_H_rows)) fun fd F => F.bindsN fun _ _ _ _ _ _ us hl => match us, hl with | [_, _], _ => rfl
    DS := mkDefM "Heap" "sheet" "Heap.sheet" s_H_sheet ["self"] (fa_rest d 41) (fn_2 d 16 (d := K3H.dM "Heap" "sheet" "Heap.sheet" s_H_sheet)) fun fd F => F.bindsN fun _ _ _ _ _ _ us hl => match us, hl with | [_], _ => rfl }
  let DW : Def K mg "law" s_law ["_law_script"] := (mkDef X G "law" s_law ["_law_script"] (fa_glo d (by decide +kernel)) (fn_1 d 17 (d := K3H.dG "law" s_law)) fun fd F => F.bindsN fun _ _ _ _ _ _ us hl => match us, hl with | [_], _ => rfl)
  have e : f = DW.f := by
    have e := hfa.symm.trans DW.g
    cases e
    rfl
  subst e
  have hc : CodeAt K D.DRe.f (He.cT K ("_law_reread", none)).1 := fun oc od fd osl c' lk ec => (He.codeOf_eq (p := ("_law_reread", none)) lk ec).symm
  refine ⟨DW.fd, fun s v => FunD.bindsA (ps := ["_law_script"]) DW.F (fun _ _ _ _ _ _ us hl => match us, hl with | [_], _ => rfl) s [v] rfl, fun base _ _ TB => ?_⟩
  let RW : Wr P w K mg base := ⟨He.ga K "BadWork", _, _, YW.c.T, YW.init, YW.ty, init_work YW hsup msu (He.noat_ok (fa_rest d 13)) ⟨oc1, od1, osl1, lk1⟩, .all fun us hl => (match us, hl with | [_, _], _ => rfl), He.glo_ok X G (fa_glo d (x := "BadWork") (by decide +kernel))⟩
  exact ok_law T (He.int_ok X G (fa_rest d 10)) F YV DRw DP DH Y RW (rs0 X G (fa_glo d (x := "BadStep") (by decide +kernel)) e4) (rs0 X G (fa_glo d (x := "BadCount") (by decide +kernel)) e5) rfl (of_decide_eq_true e6) D TB hc DW
end
end MS
end
set_option Elab.async false
open PySem PySem.W PySem.Calls PyProof.Rows
set_option maxRecDepth 100000 in
set_option maxHeartbeats 0 in
theorem PySem.Challenge.cw_markscript_k22_whole_there_and_back_holds : PySem.Challenge.rw_markscript_k22_whole_there_and_back.Holds := by
  w_on; o_law
  refine HandSHeadRun.head_any (r := OpenLaw.row PySem.Challenge.rw_markscript_k22_whole_there_and_back) (q := view (OpenLaw.row PySem.Challenge.rw_markscript_k22_whole_there_and_back).prog [68]) (H := K3H.hk) (ob := K3H.ob) (M := 6000) (loose := K3H.names) (d := HandSHeadRun.topDef (OpenLaw.row PySem.Challenge.rw_markscript_k22_whole_there_and_back).prog 68) (kwd := []) K3H.ob_eq
    (by kernel_rfl) (fun s => by kernel_rfl) K3H.run (by kernel_rfl) (by kernel_rfl) (by kernel_rfl) (by rfl) (by first | assumption | decide +kernel) (by decide +kernel) ⟨rfl, rfl, rfl, rfl, rfl, by decide +kernel⟩ ?hw ?hc
  case hw => w_witness2
  case hc =>
    refine LamX.walk_ofTsE (l := PySem.Challenge.rw_markscript_k22_whole_there_and_back) (n := 63) (k := 100) (x := "_law_script") (CX := fun _ => L2.CX0) rfl (by decide) (by kernel_rfl) ⟨rfl, by decide, by decide⟩ ?F (fun _ _ _ _ _ z => z)
    intro w mg fa h Y G hmg0
    obtain ⟨K, KX, c⟩ := Y
    have hmg : mg ("law" : PySem.Str) = some (.ref fa) := by
      have e : (HandSHeadRun.topDef (OpenLaw.row PySem.Challenge.rw_markscript_k22_whole_there_and_back).prog 68).name = ("law" : PySem.Str) := by kernel_rfl
      rw [← e]
      exact hmg0
    obtain ⟨fd, hb, hF⟩ := MS.facts (P := (PySem.Challenge.rw_markscript_k22_whole_there_and_back).prog) (w := w) (by kernel_rfl) (by kernel_rfl) KX G hmg c
    have hm : (("_law_reread", none) : He.Defn) ∈ K3H.tf := List.mem_cons_self
    have one : ∀ p ∈ [He.cT K ("_law_reread", none)], p = He.cT K ("_law_reread", none) := fun p hp => List.mem_singleton.mp hp
    exact ⟨K, KX, fd, [He.cT K ("_law_reread", none)], MS.spLaw K (He.cT K ("_law_reread", none)).2, fun p hp => by rw [one p hp]; exact c.x.empty _ hm, fun p hp => by rw [one p hp]; exact c.x.out _ hm, fun p hp => by rw [one p hp]; exact PySem.W.codeHd_of_K KX (c.x.hd _ hm), hb,
      fun H a ns hl _ hT hS => ⟨a, ns, rfl, hS, hl, hT _ List.mem_cons_self, fun _ => rfl⟩, fun base KB GB hTB => hF base KB GB (hTB _ List.mem_cons_self)⟩
#print axioms PySem.Challenge.cw_markscript_k22_whole_there_and_back_holds
