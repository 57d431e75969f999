import PyProof.Rows.All
import Wide.All
import OpenK.AllK
import Wide.FinOn
import KE.KStateDown
import Lean
import HandS.Head0
import HandS.Head1
import HandS.Head2
import HandS.HeadEnd
import HandS.HeadHook1
import HandS.HeadHook2
import HandS.HeadHook3
import HandS.HeadHook4
import KE.DataMinKey
import HandS.ForMost
import HandS.Exc
import HandS.TryOnly
import HandS.ExcOwn
import HandS.WordsExc
import HandS.Defaults
import HandS.Flow
import HandS.Style
import HandS.TupAny
import HandS.Zip
import HandS.IsInst
import HandS.RevRange
import HandS.SetKeys
import HandS.WrittenGet
import HandS.Strs
import HandS.SortKw
import HandS.Walk
import HandS.Conv
import KE.GoesEnum
import HandS.Set
import PyProof.Rows.SortStr
import PyProof.Rows.SortShellK
import PyProof.Draws
import KE.GoesZip
import KE.GoesMore
import HandS.Base
import HandS.Call
import HandS.List
import HandS.Iter
import PyProof.ListMulRoad
import PyProof.FactsAll.tuple_2
import HandS.TupMul
import PyProof.EqAt
import PyProof.EqKinds
import PyProof.TupleCall
import KE.KeyNested
import KE.KDictKeyed
import KE.KDictDisplayH
import HandS.Dict
import HandS.More
import KE.LtData
import PyProof.DictMoreH
import HandS.TupLen
import PyProof.DictCompW
import KE.KEqDict
import KE.KDictCopyH
import KE.KDictList
import KE.KDictPairs
import HandS.Comp
import HandS.DictComp
import PyProof.NeKinds
import KE.DataMinMax
import HandS.WordsDict
import HandS.Deep
import HandS.Steps
import PySem.Challenge.RW_markscript_k04_whole_marks_by_the_words
set_option Elab.async false
set_option linter.all false
set_option maxRecDepth 100000
section
set_option maxRecDepth 100000
set_option maxHeartbeats 4000000
namespace MS
open PySem L2
def topS (i : Nat) : Stmt := PySem.Challenge.pw_markscript_k04_whole_marks_by_the_words.main.body.getD i (.Pass ⟨0, 0, 0, 0⟩)
abbrev s_is_step : Stmt := topS 10
/-- slots: 0 thing -/
theorem sc_is_step : FnScope ["thing"] ["thing"] (defScope s_is_step) := ⟨rfl, rfl, rfl, by decide +kernel, rfl, by decide +kernel, by decide +kernel⟩
abbrev s_check_work : Stmt := topS 11
/-- slots: 0 work, 1 went_wrong, 2 number, 3 step -/
theorem sc_check_work : FnScope ["work", "went_wrong", "number", "step"] ["work"] (defScope s_check_work) := ⟨rfl, rfl, rfl, by decide +kernel, rfl, by decide +kernel, by decide +kernel⟩
abbrev s_is_number : Stmt := topS 16
/-- slots: 0 thing -/
theorem sc_is_number : FnScope ["thing"] ["thing"] (defScope s_is_number) := ⟨rfl, rfl, rfl, by decide +kernel, rfl, by decide +kernel, by decide +kernel⟩
abbrev s_fits : Stmt := topS 17
/-- slots: 0 part, 1 kind, 2 number, 3 many, 4 least, 5 most -/
theorem sc_fits : FnScope ["part", "kind", "number", "many", "least", "most"] ["part", "kind", "number", "many"] (defScope s_fits) := ⟨rfl, rfl, rfl, by decide +kernel, rfl, by decide +kernel, by decide +kernel⟩
abbrev s_can_be : Stmt := topS 18
/-- slots: 0 thing, 1 number, 2 many, 3 shape, 4 part, 5 kind -/
theorem sc_can_be : FnScope ["thing", "number", "many", "shape", "part", "kind"] ["thing", "number", "many"] (defScope s_can_be) := ⟨rfl, rfl, rfl, by decide +kernel, rfl, by decide +kernel, by decide +kernel⟩
abbrev s_word_in : Stmt := topS 19
/-- slots: 0 scheme -/
theorem sc_word_in : FnScope ["scheme"] ["scheme"] (defScope s_word_in) := ⟨rfl, rfl, rfl, by decide +kernel, rfl, by decide +kernel, by decide +kernel⟩
abbrev s_within : Stmt := topS 20
/-- slots: 0 scheme, 1 last -/
theorem sc_within : FnScope ["scheme", "last"] ["scheme"] (defScope s_within) := ⟨rfl, rfl, rfl, by decide +kernel, rfl, by decide +kernel, by decide +kernel⟩
abbrev s_placed : Stmt := topS 29
/-- slots: 0 schemes, 1 place, 2 at, 3 scheme -/
theorem sc_placed : FnScope ["schemes", "place", "at", "scheme"] ["schemes", "place"] (defScope s_placed) := ⟨rfl, rfl, rfl, by decide +kernel, rfl, by decide +kernel, by decide +kernel⟩
abbrev s_schemes_in : Stmt := topS 30
/-- slots: 0 paper, 1 number, 2 found, 3 waiting, 4 place, 5 scheme -/
theorem sc_schemes_in : FnScope ["paper", "number", "found", "waiting", "place", "scheme"] ["paper", "number"] (defScope s_schemes_in) := ⟨rfl, rfl, rfl, by decide +kernel, rfl, by decide +kernel, by decide +kernel⟩
abbrev s_many_of : Stmt := topS 31
/-- slots: 0 names, 1 parts, 2 many, 3 number, 4 scheme -/
theorem sc_many_of : FnScope ["names", "parts", "many", "number", "scheme"] ["names", "parts"] (defScope s_many_of) := ⟨rfl, rfl, rfl, by decide +kernel, rfl, by decide +kernel, by decide +kernel⟩
abbrev s_check_paper : Stmt := topS 32
/-- slots: 0 paper, 1 parts, 2 number -/
theorem sc_check_paper : FnScope ["paper", "parts", "number"] ["paper"] (defScope s_check_paper) := ⟨rfl, rfl, rfl, by decide +kernel, rfl, by decide +kernel, by decide +kernel⟩
abbrev s_View_init : Stmt := inClass (topS 35) 0
/-- slots: 0 self, 1 steps, 2 start, 3 ways -/
theorem sc_View_init : FnScope ["self", "steps", "start", "ways"] ["self", "steps", "start", "ways"] (defScope s_View_init) := ⟨rfl, rfl, rfl, by decide +kernel, rfl, by decide +kernel, by decide +kernel⟩
abbrev s_View_counts : Stmt := inClass (topS 35) 1
/-- slots: 0 self, 1 place, 2 word, 3 step -/
theorem sc_View_counts : FnScope ["self", "place", "word", "step"] ["self", "place", "word"] (defScope s_View_counts) := ⟨rfl, rfl, rfl, by decide +kernel, rfl, by decide +kernel, by decide +kernel⟩
abbrev s_View_first : Stmt := inClass (topS 35) 2
/-- slots: 0 self, 1 word, 2 place -/
theorem sc_View_first : FnScope ["self", "word", "place"] ["self", "word"] (defScope s_View_first) := ⟨rfl, rfl, rfl, by decide +kernel, rfl, by decide +kernel, by decide +kernel⟩
abbrev s_View_last : Stmt := inClass (topS 35) 3
/-- slots: 0 self, 1 word, 2 place -/
theorem sc_View_last : FnScope ["self", "word", "place"] ["self", "word"] (defScope s_View_last) := ⟨rfl, rfl, rfl, by decide +kernel, rfl, by decide +kernel, by decide +kernel⟩
abbrev s_View_stands : Stmt := inClass (topS 35) 4
/-- slots: 0 self, 1 word, 2 step -/
theorem sc_View_stands : FnScope ["self", "word", "step"] ["self", "word"] (defScope s_View_stands) := ⟨rfl, rfl, rfl, by decide +kernel, rfl, by decide +kernel, by decide +kernel⟩
abbrev s_View_behind : Stmt := inClass (topS 35) 5
/-- slots: 0 self, 1 place -/
theorem sc_View_behind : FnScope ["self", "place"] ["self", "place"] (defScope s_View_behind) := ⟨rfl, rfl, rfl, by decide +kernel, rfl, by decide +kernel, by decide +kernel⟩
abbrev s_View_carrying : Stmt := inClass (topS 35) 6
/-- slots: 0 self -/
theorem sc_View_carrying : FnScope ["self"] ["self"] (defScope s_View_carrying) := ⟨rfl, rfl, rfl, by decide +kernel, rfl, by decide +kernel, by decide +kernel⟩
abbrev s_points_of : Stmt := topS 36
/-- slots: 0 rows, 1 place, 2 points, 3 where -/
theorem sc_points_of : FnScope ["rows", "place", "points", "where"] ["rows"] (defScope s_points_of) := ⟨rfl, rfl, rfl, by decide +kernel, rfl, by decide +kernel, by decide +kernel⟩
abbrev s_first_points : Stmt := topS 37
/-- slots: 0 rows, 1 limit, 2 kept, 3 left, 4 place, 5 points, 6 where, 7 taken -/
theorem sc_first_points : FnScope ["rows", "limit", "kept", "left", "place", "points", "where", "taken"] ["rows", "limit"] (defScope s_first_points) := ⟨rfl, rfl, rfl, by decide +kernel, rfl, by decide +kernel, by decide +kernel⟩
abbrev s_row_at : Stmt := topS 38
/-- slots: 0 place, 1 points, 2 where -/
theorem sc_row_at : FnScope ["place", "points", "where"] ["place", "points", "where"] (defScope s_row_at) := ⟨rfl, rfl, rfl, by decide +kernel, rfl, by decide +kernel, by decide +kernel⟩
abbrev s_rows_of_each : Stmt := topS 39
/-- slots: 0 paper, 1 schemes, 2 where, 3 view, 4 at, 5 scheme -/
theorem sc_rows_of_each : FnScope ["paper", "schemes", "where", "view", "at", "scheme"] ["paper", "schemes", "where", "view"] (defScope s_rows_of_each) := ⟨rfl, rfl, rfl, by decide +kernel, rfl, by decide +kernel, by decide +kernel⟩
abbrev s_rows_of_all : Stmt := topS 40
/-- slots: 0 paper, 1 schemes, 2 where, 3 view, 4 rows, 5 row -/
theorem sc_rows_of_all : FnScope ["paper", "schemes", "where", "view", "rows", "row"] ["paper", "schemes", "where", "view"] (defScope s_rows_of_all) := ⟨rfl, rfl, rfl, by decide +kernel, rfl, by decide +kernel, by decide +kernel⟩
abbrev s_rows_of : Stmt := topS 41
/-- slots: 0 paper, 1 scheme, 2 where, 3 view, 4 word, 5 points, 6 schemes, 7 limit, 8 inner, 9 rows, 10 place, 11 number -/
theorem sc_rows_of : FnScope ["paper", "scheme", "where", "view", "word", "points", "schemes", "limit", "inner", "rows", "place", "number"] ["paper", "scheme", "where", "view"] (defScope s_rows_of) := ⟨rfl, rfl, rfl, by decide +kernel, rfl, by decide +kernel, by decide +kernel⟩
abbrev s_earned : Stmt := topS 43
/-- slots: 0 paper, 1 work -/
theorem sc_earned : FnScope ["paper", "work"] ["paper", "work"] (defScope s_earned) := ⟨rfl, rfl, rfl, by decide +kernel, rfl, by decide +kernel, by decide +kernel⟩
abbrev s_marked : Stmt := topS 44
/-- slots: 0 paper, 1 work -/
theorem sc_marked : FnScope ["paper", "work"] ["paper", "work"] (defScope s_marked) := ⟨rfl, rfl, rfl, by decide +kernel, rfl, by decide +kernel, by decide +kernel⟩
abbrev s_L_begun : Stmt := topS 63
/-- slots: 0 _law_script, 1 _law_stirred, 2 _law_cell -/
theorem sc_L_begun : FnScope ["_law_script", "_law_stirred", "_law_cell"] ["_law_script"] (defScope s_L_begun) := ⟨rfl, rfl, rfl, by decide +kernel, rfl, by decide +kernel, by decide +kernel⟩
abbrev s_L_take : Stmt := topS 64
/-- slots: 0 _law_box, 1 _law_many, 2 _law_number -/
theorem sc_L_take : FnScope ["_law_box", "_law_many", "_law_number"] ["_law_box", "_law_many"] (defScope s_L_take) := ⟨rfl, rfl, rfl, by decide +kernel, rfl, by decide +kernel, by decide +kernel⟩
abbrev s_L_alike : Stmt := topS 65
/-- slots: 0 _law_found, 1 _law_due, 2 _law_k -/
theorem sc_L_alike : FnScope ["_law_found", "_law_due", "_law_k"] ["_law_found", "_law_due"] (defScope s_L_alike) := ⟨rfl, rfl, rfl, by decide +kernel, rfl, by decide +kernel, by decide +kernel⟩
abbrev s_L_letters : Stmt := topS 66
/-- slots: 0 _law_box, 1 _law_left, 2 _law_found, 3 _law_turn -/
theorem sc_L_letters : FnScope ["_law_box", "_law_left", "_law_found", "_law_turn"] ["_law_box"] (defScope s_L_letters) := ⟨rfl, rfl, rfl, by decide +kernel, rfl, by decide +kernel, by decide +kernel⟩
abbrev s_L_scheme : Stmt := topS 67
/-- slots: 0 _law_box, 1 _law_letters_here, 2 _law_left, 3 _law_deep, 4 _law_uses, 5 _law_word, 6 _law_way, 7 _law_one, 8 _law_some, 9 _law_kids, 10 _law_turn -/
theorem sc_L_scheme : FnScope ["_law_box", "_law_letters_here", "_law_left", "_law_deep_here", "_law_uses", "_law_word", "_law_way", "_law_one", "_law_some", "_law_kids", "_law_turn"] ["_law_box", "_law_letters_here", "_law_left", "_law_deep_here", "_law_uses"] (defScope s_L_scheme) := ⟨rfl, rfl, rfl, by decide +kernel, rfl, by decide +kernel, by decide +kernel⟩
abbrev s_L_counted : Stmt := topS 68
/-- slots: 0 _law_scheme_here, 1 _law_uses, 2 _law_found, 3 _law_kid, 4 _law_more, 5 _law_one -/
theorem sc_L_counted : FnScope ["_law_scheme_here", "_law_uses", "_law_found", "_law_kid", "_law_more", "_law_one"] ["_law_scheme_here", "_law_uses"] (defScope s_L_counted) := ⟨rfl, rfl, rfl, by decide +kernel, rfl, by decide +kernel, by decide +kernel⟩
abbrev s_L_paper : Stmt := topS 69
/-- slots: 0 _law_box, 1 _law_letters_here, 2 _law_left, 3 _law_words, 4 _law_turn, 5 _law_steps, 6 _law_whole, 7 _law_many, 8 _law_found, 9 _law_uses, 10 _law_number, 11 _law_scheme_here, 12 _law_word -/
theorem sc_L_paper : FnScope ["_law_box", "_law_letters_here", "_law_left", "_law_words", "_law_turn", "_law_steps", "_law_whole", "_law_many", "_law_found", "_law_uses", "_law_number", "_law_scheme_here", "_law_word"] ["_law_box", "_law_letters_here"] (defScope s_L_paper) := ⟨rfl, rfl, rfl, by decide +kernel, rfl, by decide +kernel, by decide +kernel⟩
abbrev s_L_step : Stmt := topS 70
/-- slots: 0 _law_box, 1 _law_letters_here, 2 _law_was_wrong, 3 _law_sign -/
theorem sc_L_step : FnScope ["_law_box", "_law_letters_here", "_law_was_wrong", "_law_sign"] ["_law_box", "_law_letters_here", "_law_was_wrong"] (defScope s_L_step) := ⟨rfl, rfl, rfl, by decide +kernel, rfl, by decide +kernel, by decide +kernel⟩
abbrev s_L_work : Stmt := topS 71
/-- slots: 0 _law_box, 1 _law_letters_here, 2 _law_most, 3 _law_found, 4 _law_turn, 5 _law_step_here -/
theorem sc_L_work : FnScope ["_law_box", "_law_letters_here", "_law_most", "_law_found", "_law_turn", "_law_step_here"] ["_law_box", "_law_letters_here", "_law_most"] (defScope s_L_work) := ⟨rfl, rfl, rfl, by decide +kernel, rfl, by decide +kernel, by decide +kernel⟩
abbrev s_parts_of : Stmt := topS 33
/-- slots: 0 paper, 1 scheme -/
theorem sc_parts_of : FnScope ["paper", "scheme"] ["paper", "scheme"] (defScope s_parts_of) := ⟨rfl, rfl, rfl, by decide +kernel, rfl, by decide +kernel, by decide +kernel⟩
abbrev s_rows_by : Stmt := topS 42
/-- slots: 0 paper, 1 work -/
theorem sc_rows_by : FnScope ["paper", "work"] ["paper", "work"] (defScope s_rows_by) := ⟨rfl, rfl, rfl, by decide +kernel, rfl, by decide +kernel, by decide +kernel⟩
abbrev FnP (K : PySem.W.Frag) (x : Str) (st : Stmt) (f : Addr) (fd : FuncData) : Prop := FunD K x x (defArgs st) (defBody st) (defScope st) [] [] f fd
/-- a def of the text: where it stands, by which name it is called -/
structure Def (K : PySem.W.Frag) (mg : Str → Option Value) (x : Str) (st : Stmt) (ps : List Str) where
  f : Addr
  fd : FuncData
  F : FnP K x st f fd
  g : mg x = some (.ref f)
  b : Binds K fd ps []
theorem pcall {X : Cx} {x : Str} {st : Stmt} {ps : List Str} {k : Nat} {sp : Sp} {e : Expr} {es : List Expr} {t : TA} {p pos : Pos} (D : Def X.K X.mg x st ps) (G : FnOk X.prog X.w X.K X.mg X.base CX0 k D.f D.fd ps sp) (hr : Room k X.A)
    (ha : PA X (e :: es) t) (hg : Gl X x := by rfl) (hdb : (x == ("__debug__" : Str)) = false := by decide) (he : starEach (e :: es) X.env = (false, eval e X.env) :: starEach es X.env := by rfl) (hpl : (backTo pos (starEach es X.env)).any (·.1) = false := by rfl) : PE X (.Call (.Name x p) (e :: es) [] pos) (tCall sp [] E0 t) :=
  pe_call G hr hg D.g D.F.kp D.b .nil pass0 ha hdb he hpl

/-- THE RULE for a def that lets nothing out -/
theorem Def.ok {P : Program} {w : World} {K : PySem.W.Frag} {mg : Str → Option Value} {base : Heap} {x : Str} {st : Stmt} {ps N : List Str} {k : Nat} {sp : Sp} (D : Def K mg x st ps) (S : FnScope N ps (defScope st)) (len : ∀ vs H Q E, sp vs H Q E → vs.length = ps.length)
    (hbody : ∀ (cdv : Value) (A : Around) (outer : List Env) (s : Shared) (H : Hp) (vs : List V) (Q : VK) (E : XK), Room k (A.deeper (PyProof.Rows.envOfC x (defScope st) s.heap.objs.size D.f cdv)) → sp vs H Q E →
      ∃ t, PSs (cxOf CX0 P w K mg base N x (defScope st) D.f cdv A outer s H E).nox (defBody st) t ∧ t { nx := fun _ H' => Q .non H', rt := Q } (start N vs) H) : FnOk P w K mg base CX0 (k + 1) D.f D.fd ps sp :=
  D.F.ok S len fun cdv A outer s H vs Q E hr hsp => by
    obtain ⟨t, h, q⟩ := hbody cdv A outer s H vs Q E hr hsp
    exact ⟨t, h.nox, q⟩

/-! ### what stays -/
/-- all but what stands at these addresses is as it was -/
def Keep (S : List Addr) (H H' : Hp) : Prop := ∀ a o, H a = some o → a ∉ S → H' a = some o
theorem Keep.refl (S : List Addr) (H : Hp) : Keep S H H := fun _ _ h _ => h
theorem Keep.trans {S : List Addr} {H H1 H2 : Hp} (a : Keep S H H1) (b : Keep S H1 H2) : Keep S H H2 := fun c o h n => b c o (a c o h n) n
theorem Keep.mono {S T : List Addr} {H H' : Hp} (a : Keep S H H') (h : ∀ x ∈ S, x ∈ T) : Keep T H H' := fun c o e n => a c o e fun z => n (h c z)
theorem Keep.same {H H' : Hp} (a : Keep [] H H') : Same H H' := fun b o h => a b o h (by simp)
theorem Same.keep {S : List Addr} {H H' : Hp} (a : Same H H') : Keep S H H' := fun b o h _ => a b o h
theorem Keep.new {S : List Addr} {H : Hp} {p : Addr} {o : HO} (h : H p = none) : Keep S H (upd H p o) := fun b u q _ => by rw [upd_ne (ne_of_none q h)]; exact q
theorem Same.new {H : Hp} {p : Addr} {o : HO} (h : H p = none) : Same H (upd H p o) := fun b u q => by rw [upd_ne (ne_of_none q h)]; exact q
theorem Keep.put {S : List Addr} {H : Hp} {p : Addr} {o : HO} (h : p ∈ S) : Keep S H (upd H p o) := fun b u q n => by rw [upd_ne (fun z => n (by rw [z]; exact h))]; exact q
theorem Keep.free {S : List Addr} {H H' : Hp} (e : Keep S H H') {l : Addr} (h : H' l = none) (hS : ∀ x ∈ S, H x ≠ none → H' x ≠ none) : H l = none := by
  cases q : H l with
  | none => rfl
  | some o =>
    by_cases m : l ∈ S
    · exact absurd h (hS l m (by rw [q]; exact fun z => nomatch z))
    · rw [e l o q m] at h; cases h

/-! ### data that may be compared -/
def ShN (n : Nat) (d : PyData) : Prop := d.canLay0 = true ∧ d.depth ≤ n
def ShAll (n : Nat) (ds : List PyData) : Prop := PyData.canLayAll0 ds = true ∧ PyData.depthAll ds ≤ n
theorem ShAll.nil {n : Nat} : ShAll n [] := ⟨rfl, Nat.zero_le _⟩
theorem ShAll.cons {n : Nat} {d : PyData} {ds : List PyData} (h : ShN n d) (r : ShAll n ds) : ShAll n (d :: ds) :=
  ⟨by rw [PyData.canLayAll0, h.1, r.1]; rfl, by rw [PyData.depthAll]; exact Nat.max_le.mpr ⟨h.2, r.2⟩⟩
theorem ShN.int {n : Nat} (i : Int) : ShN n (.int i) := ⟨by rw [PyData.canLay0], by rw [PyData.depth]; exact Nat.zero_le _⟩
theorem ShN.str {n : Nat} {x : Str} (h : PyData.strOk x = true) : ShN n (.str x) := ⟨by rw [PyData.canLay0]; exact h, by rw [PyData.depth]; exact Nat.zero_le _⟩
theorem ShN.lst {n : Nat} {ds : List PyData} (h : ShAll n ds) : ShN (n + 1) (.list ds) := ⟨by rw [PyData.canLay0]; exact h.1, by rw [PyData.depth]; exact Nat.succ_le_succ h.2⟩
theorem ShN.tup {n : Nat} {ds : List PyData} (h : ShAll n ds) : ShN (n + 1) (.tuple ds) := ⟨by rw [PyData.canLay0]; exact h.1, by rw [PyData.depth]; exact Nat.succ_le_succ h.2⟩
theorem ShN.mono {n m : Nat} {d : PyData} (h : ShN n d) (hm : n ≤ m) : ShN m d := ⟨h.1, Nat.le_trans h.2 hm⟩
theorem ShN.ok {n : Nat} {d : PyData} (h : ShN n d) (hn : n ≤ 64) : SeqAt.shaped d = true := by
  unfold SeqAt.shaped
  rw [h.1, decide_eq_true (Nat.le_trans h.2 hn)]
  rfl
theorem ShAll.of {n : Nat} : ∀ {ds : List PyData}, (∀ d ∈ ds, ShN n d) → ShAll n ds
  | [], _ => .nil
  | d :: r, h => .cons (h d List.mem_cons_self) (ShAll.of fun e he => h e (List.mem_cons_of_mem _ he))
theorem sh_ints (n : Nat) (ns : List Int) : ShAll n (ns.map PyData.int) := ShAll.of fun d h => by
  obtain ⟨i, _, rfl⟩ := List.mem_map.mp h
  exact .int i
/-! ### the box of draws: the script's numbers left, and the number behind them -/
def Box (H : Hp) (b l : Addr) : Prop := b ≠ l ∧ (∃ n : Int, H b = some (.lst [.ref l, .int n])) ∧ ∃ ns : List Int, H l = some (.lst (ns.map V.int))
theorem Box.keep {S : List Addr} {H H' : Hp} {b l : Addr} (h : Box H b l) (k : Keep S H H') (hb : b ∉ S) (hl : l ∉ S) : Box H' b l := by
  obtain ⟨ne, ⟨n, e1⟩, ns, e2⟩ := h
  exact ⟨ne, ⟨n, k _ _ e1 hb⟩, ns, k _ _ e2 hl⟩
def spTake : Sp := fun vs H Q _ => ∃ (b l : Addr) (m : Int), vs = [.ref b, .int m] ∧ 0 < m ∧ m < 1073741824 ∧ Box H b l ∧
  ∀ (r : Int) (H' : Hp), 0 ≤ r → r < m → Box H' b l → Keep [b, l] H H' → Q (.int r) H'
section
variable {P : Program} {w : World} {K : PySem.W.Frag} {mg : Str → Option Value} {base : Heap}
theorem dp_ints {K : PySem.W.Frag} {H : Hp} : ∀ ns : List Int, DpAll K H (ns.map V.int) (ns.map PyData.int)
  | [] => .nil
  | n :: r => .cons (.int n) (dp_ints r)
theorem at0 {x : V} {xs : List V} : atI (x :: xs) 0 = some x := at_of rfl rfl
theorem at1 {x y : V} {xs : List V} : atI (x :: y :: xs) 1 = some y := at_of rfl rfl
theorem at2 {x y z : V} {xs : List V} : atI (x :: y :: z :: xs) 2 = some z := at_of rfl rfl
theorem ix0 {n : Nat} : ixN (n + 1) 0 = some 0 := by
  unfold ixN
  rw [if_pos (by omega), if_pos (by omega)]
  rfl
theorem seq0 {n : Nat} : seqIndex? 0 (n + 1) = some 0 := (ixN_seq ix0).1
theorem ok_take (D : Def K mg "_law_take" s_L_take ["_law_box", "_law_many"]) : FnOk P w K mg base CX0 1 D.f D.fd ["_law_box", "_law_many"] spTake := by
  refine D.ok sc_L_take (fun vs H Q E h => ?_) (fun cdv A outer s H vs Q E hr h => ?_)
  · obtain ⟨b, l, m, rfl, _⟩ := h
    rfl
  obtain ⟨b, l, m, rfl, m0, m1, ⟨nbl, ⟨n, eb⟩, ns, el⟩, q⟩ := h
  refine ⟨_, pss_cons (ps_if (pt_cmpR (op_eqD hr.units) (pe_ix ix_list (pv 0) pe_int (fun _ _ => rfl)) (pe_lst pa_nil) (nomark _))
      (pss_cons (ps_asg (pe_op op_mod (pe_op op_mul (pe_ix ix_list (pv 0) pe_int (fun _ _ => rfl)) pe_int) pe_int) (pg_sub (pv 0) pe_int set_list))
        (pss_one (ps_ret (pe_op op_mod (pe_op op_fdiv (pe_ix ix_list (pv 0) pe_int (fun _ _ => rfl)) pe_int) (pv 1))))) pss_nil)
    (pss_cons (ps_set (i := 2) sc_L_take.nd rfl (Or.inl rfl) (pe_ix ix_list (pe_ix ix_list (pv 0) pe_int (fun _ _ => rfl)) pe_int (fun _ _ => rfl)))
    (pss_cons (ps_asg (pe_op op_fdiv (pv 2) (pv 1)) (pg_sub (pe_ix ix_list (pv 0) pe_int (fun _ _ => rfl)) pe_int set_list))
    (pss_cons (ps_if (PW.pt (pw_or (pt_cmpR op_eq (pe_ix ix_list (pe_ix ix_list (pv 0) pe_int (fun _ _ => rfl)) pe_int (fun _ _ => rfl)) pe_int (nomark _))
        (pw_or1 (pt_cmpR op_eq (pe_ix ix_list (pe_ix ix_list (pv 0) pe_int (fun _ _ => rfl)) pe_int (fun _ _ => rfl)) (pe_un un_neg pe_int) (nomark _)))))
        (pss_one (ps_expr (pe_bm PySem.F.plainAttrs_list PySem.F.slot_list_pop PySem.F.type_list_pop mt_popAt (pe_ix ix_list (pv 0) pe_int (fun _ _ => rfl)) (pa_cons pe_int pa_nil)))) pss_nil)
    (pss_one (ps_ret (pe_op op_mod (pv 2) (pv 1))))))), ?_⟩
  refine ⟨_, rfl, b, _, 0, .ref l, rfl, rfl, SqL.of eb, rfl, ?_⟩
  refine ⟨Nat.zero_le _, fun p hp => ?_⟩
  have nlp : l ≠ p := ne_of_none el hp
  have nbp : b ≠ p := ne_of_none eb hp
  have eb1 : upd H p (.lst []) b = some (.lst [.ref l, .int n]) := by rw [upd_ne nbp]; exact eb
  have el1 : upd H p (.lst []) l = some (.lst (ns.map V.int)) := by rw [upd_ne nlp]; exact el
  have k1 : Keep [b, l] H (upd H p (.lst [])) := Keep.new hp
  refine ⟨.list (ns.map PyData.int), .list [], .lst (SqL.of el1) (dp_ints ns), .lst (SqL.of upd_same) .nil, ?_, rfl, ?_⟩
  · exact (ShN.lst (sh_ints 0 ns)).ok (by decide)
  refine ⟨_, rfl, ?_⟩
  refine ite2 (fun c => ?_) (fun c => ?_)
  · refine ⟨_, rfl, b, _, 1, .int n, rfl, rfl, SqL.of eb1, rfl, _, _, rfl, rfl, .inr ⟨by decide, by decide⟩, _, _, rfl, rfl, (by show (0 : Int) < 2147483647; decide), ?_⟩
    refine ⟨_, rfl, b, _, 1, 1, rfl, rfl, eb1, rfl, ?_⟩
    refine ⟨_, rfl, b, _, 1, _, rfl, rfl, SqL.of upd_same, rfl, _, _, rfl, rfl, ⟨by decide, by decide⟩, _, rfl, _, _, rfl, rfl, m0, ?_⟩
    refine q _ _ (Int.emod_nonneg _ (by omega)) (Int.emod_lt_of_pos _ m0) ⟨nbl, ⟨_, upd_same⟩, ns, ?_⟩ (k1.trans (Keep.put (by simp)))
    rw [upd_ne nbl.symm]
    exact el1
  · have hne : ns ≠ [] := fun z => c (by rw [z]; rfl)
    obtain ⟨z, r, rfl⟩ : ∃ z r, ns = z :: r := by
      cases ns with
      | nil => exact absurd rfl hne
      | cons z r => exact ⟨z, r, rfl⟩
    refine ⟨_, rfl, b, _, 0, .ref l, rfl, rfl, SqL.of eb1, rfl, l, _, 0, .int z, rfl, rfl, SqL.of el1, at0, ?_⟩
    refine ⟨_, rfl, _, rfl, _, _, rfl, rfl, ⟨m0, m1⟩, _, rfl, b, _, 0, .ref l, rfl, rfl, SqL.of eb1, rfl, l, _, 0, 0, rfl, rfl, el1, ix0, ?_⟩
    have eb2 : ∀ o, upd (upd H p (.lst [])) l o b = some (.lst [.ref l, .int n]) := fun o => by rw [upd_ne nbl]; exact eb1
    refine ⟨_, rfl, b, _, 0, .ref l, rfl, rfl, SqL.of (eb2 _), rfl, l, _, 0, .int (z / m), rfl, rfl, SqL.of upd_same, at0, rfl, _, rfl, ?_⟩
    have fin : ∀ (H' : Hp), Box H' b l → Keep [b, l] H H' → Q (.int (z % m)) H' := fun H' B k => q _ _ (Int.emod_nonneg _ (by omega)) (Int.emod_lt_of_pos _ m0) B k
    have k2 : ∀ o, Keep [b, l] H (upd (upd H p (.lst [])) l o) := fun o => k1.trans (Keep.put (by simp))
    refine ite2 (fun c2 => ?_) (fun c2 => ?_)
    · refine iteT ⟨_, rfl, b, _, 0, .ref l, rfl, rfl, SqL.of (eb2 _), rfl, .inl ⟨rfl, _, SqL.of upd_same⟩, l, _, 0, 0, _, rfl, rfl, upd_same, by decide, by decide, seq0, rfl, ?_⟩
      refine ⟨_, rfl, _, rfl, _, _, rfl, rfl, m0, fin _ ⟨nbl, ⟨n, by rw [upd_ne nbl]; exact eb2 _⟩, r, upd_same⟩ ((k2 _).trans (Keep.put (by simp)))⟩
    · refine ⟨_, rfl, b, _, 0, .ref l, rfl, rfl, SqL.of (eb2 _), rfl, l, _, 0, .int (z / m), rfl, rfl, SqL.of upd_same, at0, _, rfl, rfl, _, rfl, ?_⟩
      by_cases c3 : decide (V.int (z / m) = V.int (-1)) = true
      · show (if decide (V.int (z / m) = V.int (-1)) = true then _ else _)
        rw [if_pos c3]
        refine ⟨_, rfl, b, _, 0, .ref l, rfl, rfl, SqL.of (eb2 _), rfl, .inl ⟨rfl, _, SqL.of upd_same⟩, l, _, 0, 0, _, rfl, rfl, upd_same, by decide, by decide, seq0, rfl, ?_⟩
        refine ⟨_, rfl, _, rfl, _, _, rfl, rfl, m0, fin _ ⟨nbl, ⟨n, by rw [upd_ne nbl]; exact eb2 _⟩, r, upd_same⟩ ((k2 _).trans (Keep.put (by simp)))⟩
      · show (if decide (V.int (z / m) = V.int (-1)) = true then _ else _)
        rw [if_neg c3]
        refine ⟨_, rfl, _, rfl, _, _, rfl, rfl, m0, fin _ ⟨nbl, ⟨n, eb2 _⟩, (z / m) :: r, upd_same⟩ (k2 _)⟩
end
/-- short lists -/
theorem small1000 {n : Nat} (h : n ≤ 6000) : n < sizeLine := Nat.lt_of_le_of_lt h (by decide)
end MS
end
section
set_option maxRecDepth 100000
set_option maxHeartbeats 0
namespace K3H
open PySem PySem.W PySem.Calls PyProof.Rows
abbrev R : OpenRow := OpenLaw.row PySem.Challenge.rw_markscript_k04_whole_marks_by_the_words
abbrev qv : Program := view R.prog [76]
def names0 : List PySem.Str := ["MarkError", "BadPaper", "BadWork", "WORDS", "RIGHT", "WRONG", "CARRIED", "MOST_STEPS", "is_step", "check_work", "SHAPES", "BOUNDS", "MOST_WITHIN", "is_number", "fits", "can_be", "word_in", "within", "MOST_IN_PAPER", "MOST_IN_SCHEME", "LONGEST_PLACE", "EARNERS", "MOST_EARNERS", "WATCHERS", "MOST_WATCHERS", "placed", "schemes_in"]
def names1 : List PySem.Str := ["many_of", "check_paper", "parts_of", "View", "points_of", "first_points", "row_at", "rows_of_each", "rows_of_all", "rows_of", "rows_by", "earned", "marked", "Watch", "add_watches", "watches_of", "state_behind", "state_of", "steps_of", "may_come", "explored", "points_by", "numbered", "finer", "levels_of", "moved", "parting_steps"]
def names2 : List PySem.Str := ["parted", "_law_begun", "_law_take", "_law_alike", "_law_letters", "_law_scheme", "_law_counted", "_law_paper", "_law_step", "_law_work", "_law_wrapped", "_law_plain", "_law_deep", "_law_is_alike"]
def names : List PySem.Str := names0 ++ names1 ++ names2
/-- a def of the top -/
def dG (x : PySem.Str) (st : Stmt) : He.DefD := ⟨(x, none), x, x, L2.defArgs st, L2.defBody st, L2.defScope st, [], []⟩
def dM (C m q : PySem.Str) (st : Stmt) : He.DefD := ⟨(C, some m), m, q, L2.defArgs st, L2.defBody st, L2.defScope st, [], []⟩
def fn0 : List He.DefD := [dG "is_step" MS.s_is_step, dG "check_work" MS.s_check_work, dG "is_number" MS.s_is_number, dG "fits" MS.s_fits, dG "can_be" MS.s_can_be, dG "word_in" MS.s_word_in, dG "within" MS.s_within, dG "placed" MS.s_placed, dG "schemes_in" MS.s_schemes_in, dG "many_of" MS.s_many_of, dG "check_paper" MS.s_check_paper, dG "parts_of" MS.s_parts_of, dG "points_of" MS.s_points_of, dG "first_points" MS.s_first_points, dG "row_at" MS.s_row_at, dG "rows_of_each" MS.s_rows_of_each, dG "rows_of_all" MS.s_rows_of_all, dG "rows_of" MS.s_rows_of]
def fn1 : List He.DefD := [dG "rows_by" MS.s_rows_by, dG "earned" MS.s_earned, dG "marked" MS.s_marked, dG "add_watches" (MS.topS 47), dG "watches_of" (MS.topS 48), dG "state_behind" (MS.topS 49), dG "state_of" (MS.topS 50), dG "steps_of" (MS.topS 51), dG "may_come" (MS.topS 52), dG "explored" (MS.topS 53), dG "points_by" (MS.topS 54), dG "numbered" (MS.topS 55), dG "finer" (MS.topS 56), dG "levels_of" (MS.topS 57), dG "moved" (MS.topS 59), dG "parting_steps" (MS.topS 60), dG "parted" (MS.topS 61), dG "_law_begun" MS.s_L_begun]
def fn2 : List He.DefD := [dG "_law_take" MS.s_L_take, dG "_law_alike" MS.s_L_alike, dG "_law_letters" MS.s_L_letters, dG "_law_scheme" MS.s_L_scheme, dG "_law_counted" MS.s_L_counted, dG "_law_paper" MS.s_L_paper, dG "_law_step" MS.s_L_step, dG "_law_work" MS.s_L_work, dG "_law_wrapped" (MS.topS 72), dG "_law_plain" (MS.topS 73), dG "_law_deep" (MS.topS 74), dG "_law_is_alike" (MS.topS 75), dG "law" (MS.topS 76)]
def fnM : List He.DefD := [dM "View" "__init__" "View.__init__" MS.s_View_init, dM "View" "counts" "View.counts" MS.s_View_counts, dM "View" "first" "View.first" MS.s_View_first, dM "View" "last" "View.last" MS.s_View_last, dM "View" "stands" "View.stands" MS.s_View_stands, dM "View" "behind" "View.behind" MS.s_View_behind, dM "View" "carrying" "View.carrying" MS.s_View_carrying, dM "Watch" "__init__" "Watch.__init__" (L2.inClass (MS.topS 46) 0), dM "Watch" "is_on" "Watch.is_on" (L2.inClass (MS.topS 46) 1)]
def fn : List He.DefD := fn0 ++ (fn1 ++ (fn2 ++ (fnM)))
def glo0 : List PySem.Str := ["WORDS", "is_step", "check_work", "SHAPES", "BOUNDS", "is_number", "fits", "can_be", "word_in", "within", "EARNERS", "WATCHERS", "placed", "schemes_in", "many_of", "check_paper", "parts_of", "View", "points_of", "first_points", "row_at", "rows_of_each"]
def glo1 : List PySem.Str := ["rows_of_all", "rows_of", "rows_by", "earned", "marked", "Watch", "add_watches", "watches_of", "state_behind", "state_of", "steps_of", "may_come", "explored", "points_by", "numbered", "finer", "levels_of", "moved", "parting_steps", "parted", "_law_begun", "_law_take"]
def glo2 : List PySem.Str := ["_law_alike", "_law_letters", "_law_scheme", "_law_counted", "_law_paper", "_law_step", "_law_work", "_law_wrapped", "_law_plain", "_law_deep", "_law_is_alike", "law"]
def gloL : List PySem.Str := glo0 ++ glo1 ++ glo2
def freeL : List PySem.Str := ["len", "list", "range", "tuple", "int", "isinstance", "any", "all", "zip", "enumerate", "str", "bool", "min", "max", "sum", "sorted", "set", "reversed"]
def restF : List He.Fa := [.str "RIGHT" "r", .str "WRONG" "w", .str "CARRIED" "c", .int "MOST_STEPS" 12, .int "MOST_WITHIN" 4, .int "MOST_IN_PAPER" 5, .int "MOST_IN_SCHEME" 12, .int "LONGEST_PLACE" 4, .int "MOST_EARNERS" 7, .int "MOST_WATCHERS" 3, .cls "View", .noat "View" "steps", .noat "View" "start", .noat "View" "ways", .mkr "View", .cls "Watch", .noat "Watch" "name", .noat "Watch" "word", .noat "Watch" "ways", .noat "Watch" "gate", .mkr "Watch"]
def methF : List He.Fa := [.meth "View" "__init__", .meth "View" "counts", .meth "View" "first", .meth "View" "last", .meth "View" "stands", .meth "View" "behind", .meth "View" "carrying", .meth "Watch" "__init__", .meth "Watch" "is_on"]
def fa : List He.Fa := gloL.map .glo ++ (freeL.map .free ++ (restF ++ methF))
/-- what stands at a key of a dict of the top, if it is an object -/
def inD (x k : PySem.Str) (K : Frag) : Addr := match nsIn K (He.ga K x) k with
  | some (some (.ref a)) => a
  | _ => 0
/-- a tuple of these stands there -/
def tupAt (K : Frag) (a : Addr) (vs : List L2.V) : Bool := match K.lookup a with
  | some ⟨.type c, _, .seq its _, _⟩ => decide (c = "tuple") && (decide (its.size ≤ sizeLine) && He.relAll vs its.toList)
  | _ => false
def entB (x : PySem.Str) (k : PySem.Str) (vs : List L2.V) (K : Frag) : Bool := He.eqO (nsIn K (He.ga K x) k) (some (some (.ref (inD x k K)))) && tupAt K (inD x k K) vs
def shapesV : List (PySem.Str × List L2.V) := [("step", [.str "word", .str "points"]), ("all", [.str "schemes"]), ("best", [.str "schemes"]), ("most", [.str "limit", .str "scheme"]), ("half", [.str "scheme"]), ("seen", [.str "word", .str "scheme"]), ("behind", [.str "word", .str "scheme"]), ("carry", [.str "scheme"]), ("end", [.str "word", .str "points", .str "scheme"]), ("use", [.str "later"])]
def boundsV : List (PySem.Str × List L2.V) := [("points", [.int 1, .int 9]), ("limit", [.int 0, .int 30])]
def wordsD : List He.Dv := [.str "a", .str "b", .str "c", .str "d", .str "e", .str "f", .str "g", .str "h"]
def ex (K : Frag) : Bool := He.tupB K "WORDS" wordsD && (He.tupB K "EARNERS" [.str "step", .str "end"] && (He.tupB K "WATCHERS" [.str "seen", .str "behind"] && (shapesV.all (fun p => entB "SHAPES" p.1 p.2 K) && boundsV.all (fun p => entB "BOUNDS" p.1 p.2 K))))
def ts : List He.Tab := [(fun K => He.ga K "SHAPES", shapesV.map (·.1)), (fun K => He.ga K "BOUNDS", boundsV.map (·.1))]
abbrev hk : Hook := He.hookX 5 fa fn ts [] ex
def ob (s : SharedT) : He.AlX := He.obsX 5 fa fn ts [] ex (HandSHeadRun.getT s)
theorem ob_eq (s : SharedT) : ob s = hk.obs s.abs := He.obsX_eq (HandSHeadRun.getT_eq s)
theorem runF (w : World) : HandSHeadRun.RunEq R qv hk ob 4000 names (w.withFollow "special-get-raises" false) := fun os => by kernel_rfl
theorem runT (w : World) : HandSHeadRun.RunEq R qv hk ob 4000 names (w.withFollow "special-get-raises" true) := fun os => by kernel_rfl
theorem run (w : World) : HandSHeadRun.RunEq R qv hk ob 4000 names w :=
  byRow2 "special-get-raises" (P := fun w => HandSHeadRun.RunEq R qv hk ob 4000 names w) runF runT w
end K3H
end
section
set_option maxRecDepth 100000
set_option maxHeartbeats 4000000
namespace MS
open PySem L2
/-! ### words, steps -/
def wordsL : List Str := ["a", "b", "c", "d", "e", "f", "g", "h"]
def marksL : List Str := ["r", "w", "c"]
def IsW (x : Str) : Prop := x ∈ wordsL
def IsM (x : Str) : Prop := x ∈ marksL
theorem IsW.len {x : Str} (h : IsW x) : x.length = 1 := by
  have h' : x ∈ wordsL := h
  have q : ∀ y ∈ wordsL, y.length = 1 := by decide +kernel
  exact q x h'
theorem IsM.len {x : Str} (h : IsM x) : x.length = 1 := by
  have h' : x ∈ marksL := h
  have q : ∀ y ∈ marksL, y.length = 1 := by decide +kernel
  exact q x h'
theorem IsW.ok {x : Str} (h : IsW x) : PyData.strOk x = true := by
  have h' : x ∈ wordsL := h
  have q : ∀ y ∈ wordsL, PyData.strOk y = true := by decide +kernel
  exact q x h'
/-- a step: its word, how it was done -/
abbrev StepT := Str × Str
def stepS (p : StepT) : Str := p.1 ++ p.2
def IsStep (p : StepT) : Prop := IsW p.1 ∧ IsM p.2
theorem step_look : ∀ x ∈ wordsL, ∀ m ∈ marksL, (∃ c, atI (stepS (x, m)).cps.toList 0 = some c ∧ (⟨#[c]⟩ : Str) = x) ∧ (∃ c, atI (stepS (x, m)).cps.toList 1 = some c ∧ (⟨#[c]⟩ : Str) = m) ∧ (stepS (x, m)).length = 2 ∧ PyData.strOk (stepS (x, m)) = true := by
  intro x hx m hm
  simp only [wordsL, marksL, List.mem_cons, List.not_mem_nil, or_false] at hx hm
  rcases hx with rfl | rfl | rfl | rfl | rfl | rfl | rfl | rfl <;> rcases hm with rfl | rfl | rfl <;> exact ⟨⟨_, rfl, by decide +kernel⟩, ⟨_, rfl, by decide +kernel⟩, by decide +kernel, by decide +kernel⟩
theorem IsStep.at0 {p : StepT} (h : IsStep p) : ∃ c, atI (stepS p).cps.toList 0 = some c ∧ (⟨#[c]⟩ : Str) = p.1 := (step_look p.1 h.1 p.2 h.2).1
theorem IsStep.at1 {p : StepT} (h : IsStep p) : ∃ c, atI (stepS p).cps.toList 1 = some c ∧ (⟨#[c]⟩ : Str) = p.2 := (step_look p.1 h.1 p.2 h.2).2.1
theorem IsStep.len {p : StepT} (h : IsStep p) : (stepS p).length = 2 := (step_look p.1 h.1 p.2 h.2).2.2.1
theorem IsStep.ok {p : StepT} (h : IsStep p) : PyData.strOk (stepS p) = true := (step_look p.1 h.1 p.2 h.2).2.2.2
/-- steps of which none is carried on without a wrong one ahead; w: there was one -/
def WorkFrom : Bool → List StepT → Prop
  | _, [] => True
  | w, p :: r => IsStep p ∧ (p.2 = "c" → w = true) ∧ WorkFrom (w || p.2 == "w") r
def WorkOk (ws : List StepT) : Prop := WorkFrom false ws ∧ ws.length ≤ 12
def anyWrong (ws : List StepT) : Bool := ws.any fun p => p.2 == "w"
theorem WorkFrom.snoc : ∀ {ws : List StepT} {w : Bool} {p : StepT}, WorkFrom w ws → IsStep p → (p.2 = "c" → (w || anyWrong ws) = true) → WorkFrom w (ws ++ [p])
  | [], w, p, _, hp, hc => ⟨hp, fun e => by
      have z := hc e
      rw [show anyWrong [] = false from rfl, Bool.or_false] at z
      exact z, trivial⟩
  | q :: r, w, p, h, hp, hc => ⟨h.1, h.2.1, WorkFrom.snoc h.2.2 hp fun e => by
      have z := hc e
      rw [show anyWrong (q :: r) = ((q.2 == "w") || anyWrong r) from rfl] at z
      rw [Bool.or_assoc]
      exact z⟩
theorem WorkFrom.all : ∀ {ws : List StepT} {w : Bool}, WorkFrom w ws → ∀ p ∈ ws, IsStep p
  | [], _, _, p, h => by cases h
  | q :: r, _, h, p, hp => by
    rcases List.mem_cons.mp hp with rfl | hp
    · exact h.1
    · exact WorkFrom.all h.2.2 p hp
def stepsV (ws : List StepT) : List V := ws.map fun p => V.str (stepS p)

/-! ### list(text) -/
def rListS : List V → Hp → VK → Prop := fun xs H Q => ∃ x : Str, xs = [.str x] ∧ x.cps.size ≤ sizeLine ∧ ∀ p, H p = none → Q (.ref p) (upd H p (.lst (x.cps.toList.map fun c => V.str ⟨#[c]⟩)))
theorem cr_listStr {X : Cx} (hc : X.calm = true) : CallR X (.type "list") rListS := by
  intro pins s σ H xs us Q I r h
  obtain ⟨x, rfl, hz, q⟩ := h
  obtain ⟨u, rfl, ru⟩ := vals1 r
  obtain ⟨t, rfl⟩ := ru
  refine call_list_str (hn := hz) (I.ok.hd hc) x t fun h' tk acc c' hk e hi => ?_
  refine (fun (hv : Vals (x.cps.toList.map fun c => V.str ⟨#[c]⟩) acc.toList) => ?_) ?_
  · exact ⟨.ref s.heap.objs.size, upd H s.heap.objs.size (.lst (x.cps.toList.map fun c => V.str ⟨#[c]⟩)), I.laid hk (Nat.le_refl _) ⟨by rw [List.length_map, Array.length_toList]; exact hz, acc.toList, c', hv, by rw [Array.toArray_toList]; exact e⟩, rfl, q _ (I.hok.fresh (Nat.le_refl _))⟩
  refine vals_of_idx _ _ (by rw [List.length_map, Array.length_toList, Array.length_toList]; exact hi.1) fun j u hj => ?_
  obtain ⟨c, t', hc, rfl⟩ := hi.2 j u (by rw [← Array.getElem?_toList]; exact hj)
  exact ⟨.str ⟨#[c]⟩, by simp [hc], ⟨_, rfl⟩⟩
theorem letters_of : (("abcdefgh" : Str).cps.toList.map fun c => V.str ⟨#[c]⟩) = wordsL.map V.str := by decide +kernel

/-! ### the draws' begin -/
def spBegun (K : PySem.W.Frag) : Sp := fun vs H Q _ => ∃ (a : Addr) (ns : List Int), vs = [.ref a] ∧ SqL K H a (ns.map V.int) ∧ ns.length ≤ 63 ∧
  ∀ (b l : Addr) (H' : Hp), H b = none → H l = none → Box H' b l → Same H H' → Q (.ref b) H'
section
variable {P : Program} {w : World} {K : PySem.W.Frag} {mg : Str → Option Value} {base : Heap}
theorem ok_begun (D : Def K mg "_law_begun" s_L_begun ["_law_script"]) (ml : mg "len" = none) (mli : mg "list" = none) (mi : mg "int" = none) : FnOk P w K mg base CX0 1 D.f D.fd ["_law_script"] (spBegun K) := by
  refine D.ok sc_L_begun (fun vs H Q E h => ?_) (fun cdv A outer s H vs Q E hr h => ?_)
  · obtain ⟨a, ns, rfl, _⟩ := h
    rfl
  obtain ⟨a, ns, rfl, hS, hlen, q⟩ := h
  refine ⟨_, pss_cons (ps_set (i := 1) sc_L_begun.nd rfl (Or.inl rfl) pe_int)
    (pss_cons (ps_for PassesOwn.never rfl (pi_list (pv 0)) (pg_name (i := 2) sc_L_begun.nd rfl (Or.inl rfl))
      (pss_one (ps_set (i := 1) sc_L_begun.nd rfl (Or.inl rfl) (pe_op op_mod (pe_op op_add (pe_op op_add (pe_op op_mul (pv 1) pe_int) (pe_op op_mul (pv 2) pe_int)) pe_int) pe_int))))
    (pss_one (ps_ret (pe_lst (pa_cons (pe_callTy call_list_of rfl mli (by decide +kernel) (pa_cons (pv 0) pa_nil))
      (pa_cons (pe_op op_mul (pv 1) (pe_callTy call_int1 rfl mi (by decide +kernel) (pa_cons (pe_cmpR op_gt (pe_callB call_len_seq rfl ml PySem.boot_len (pa_cons (pv 0) pa_nil)) pe_int (nomark _)) pa_nil))) pa_nil)))))), ?_⟩
  refine ⟨_, rfl, a, rfl, ⟨_, hS⟩, for_list (K := K) (a := a) (xs := ns.map V.int) (fun i σ H' => ∃ (z : Int) (v : Option V), σ = [some (.ref a), some (.int z), v] ∧ H' = H)
    ⟨0, none, rfl, rfl⟩ (fun i σ H' _ ⟨_, _, _, e⟩ => by rw [e]; exact hS) ?_ ?_⟩
  · rintro i y σ H' hi ⟨z, v, rfl, rfl⟩
    obtain ⟨u, rfl⟩ : ∃ u, y = V.int u := by
      obtain ⟨u, _, e⟩ := List.mem_map.mp (List.mem_of_getElem? hi)
      exact ⟨u, e.symm⟩
    exact ⟨_, rfl, _, _, rfl, rfl, .inr ⟨by decide, by decide⟩, _, rfl, _, _, rfl, rfl, .inr ⟨by decide, by decide⟩, _, _, rfl, rfl, _, _, rfl, rfl, _, _, rfl, rfl, (by show (0 : Int) < 2147483647; decide), _, _, rfl, rfl⟩
  · rintro σ H' ⟨z, v, rfl, rfl⟩
    refine ⟨_, rfl, a, _, rfl, .inl hS, fun l hl => ?_⟩
    have s1 : Same H' (upd H' l (.lst (ns.map V.int))) := Same.new hl
    refine ⟨_, rfl, _, rfl, a, _, rfl, .inl (s1.seq hS), _, _, rfl, rfl, .inr ⟨_, rfl, ?_⟩⟩
    refine ⟨_, _, rfl, rfl, .inr ?_, ?_⟩
    · split <;> exact ⟨by decide, by decide⟩
    refine ⟨(by show 2 ≤ sizeLine; decide), fun b hb => ?_⟩
    have nb : l ≠ b := ne_of_none upd_same hb
    have hb0 : H' b = none := s1.free hb
    refine q b l _ hb0 hl ⟨nb.symm, ⟨_, upd_same⟩, ns, by rw [upd_ne nb]; exact upd_same⟩ (s1.trans (Same.new hb))
/-! ### the letters -/
def spLetters : Sp := fun vs H Q _ => ∃ (b l : Addr), vs = [.ref b] ∧ Box H b l ∧
  ∀ (p : Addr) (F : List Str) (H' : Hp), H p = none → H' p = some (.lst (F.map V.str)) → (∀ x ∈ F, IsW x) → 0 < F.length → F.length ≤ 8 → Box H' b l → Keep [b, l] H H' → Q (.ref p) H'
end
end MS
end
section
set_option maxRecDepth 100000
set_option maxHeartbeats 4000000
namespace MS
open PySem L2
theorem mem_eraseIdx {α : Type} {l : List α} {k : Nat} {x : α} (h : x ∈ l.eraseIdx k) : x ∈ l := List.mem_of_mem_eraseIdx h
theorem map_erase {α β : Type} (f : α → β) : ∀ (l : List α) (k : Nat), (l.map f).eraseIdx k = (l.eraseIdx k).map f
  | [], _ => rfl
  | _ :: _, 0 => rfl
  | a :: r, k + 1 => congrArg (f a :: ·) (map_erase f r k)
theorem seq_of {n : Nat} {i : Int} (h0 : 0 ≤ i) (h1 : i < n) : seqIndex? i n = some i.toNat := by
  have e : ixN n i = some i.toNat := by
    unfold ixN
    rw [if_pos h0, if_pos h1]
  exact (ixN_seq e).1
theorem atI_of {α : Type} {l : List α} {i : Int} {x : α} (h0 : 0 ≤ i) (h : l[i.toNat]? = some x) : atI l i = some x := by
  have e : i = ((i.toNat : Nat) : Int) := by omega
  rw [e]
  exact atI_nat h
theorem get_map {α β : Type} (f : α → β) (l : List α) {i : Nat} (h : i < l.length) : (l.map f)[i]? = some (f (l[i]'h)) := by
  rw [List.getElem?_map, List.getElem?_eq_getElem h]
  rfl
theorem Keep.newer {S : List Addr} {H H1 : Hp} {p : Addr} {o : HO} (k : Keep S H H1) (h : H p = none) : Keep S H (upd H1 p o) := fun b u q n => by
  rw [upd_ne (ne_of_none q h)]
  exact k b u q n
theorem Box.ne_new {H : Hp} {b l x : Addr} (B : Box H b l) (hx : H x = none) : x ≠ b ∧ x ≠ l := by
  obtain ⟨_, ⟨n, e1⟩, ns, e2⟩ := B
  exact ⟨(ne_of_none e1 hx).symm, (ne_of_none e2 hx).symm⟩
theorem Box.nin {H : Hp} {b l x : Addr} (B : Box H b l) (hx : H x = none) : x ∉ [b, l] := fun hm => by
  rcases List.mem_cons.mp hm with e | hm
  · exact (B.ne_new hx).1 e
  · exact (B.ne_new hx).2 (List.mem_singleton.mp hm)
theorem Box.put {H : Hp} {b l x : Addr} {o : HO} (B : Box H b l) (hb : x ≠ b) (hl : x ≠ l) : Box (upd H x o) b l := by
  obtain ⟨ne, ⟨n, e1⟩, ns, e2⟩ := B
  exact ⟨ne, ⟨n, by rw [upd_ne hb.symm]; exact e1⟩, ns, by rw [upd_ne hl.symm]; exact e2⟩
theorem Box.new {H : Hp} {b l x : Addr} {o : HO} (B : Box H b l) (hx : H x = none) : Box (upd H x o) b l := B.put (B.ne_new hx).1 (B.ne_new hx).2
theorem sz2 : 2 ≤ sizeLine := by decide
theorem szN {n : Nat} (h : n ≤ 6000) : n ≤ sizeLine := Nat.le_of_lt (small1000 h)
/-- one of two numbers, by a draw -/
theorem pick2 {x y r m : Int} (hx : 0 ≤ x ∧ x < m) (hy : 0 ≤ y ∧ y < m) (h0 : 0 ≤ r) (h1 : r < 2) : ∃ z, atI [V.int x, V.int y] r = some (.int z) ∧ 0 ≤ z ∧ z < m := by
  have e : r = 0 ∨ r = 1 := by omega
  rcases e with rfl | rfl
  · exact ⟨x, at0, hx⟩
  · exact ⟨y, at1, hy⟩
section
variable {P : Program} {w : World} {K : PySem.W.Frag} {mg : Str → Option Value} {base : Heap}
theorem ok_letters (D : Def K mg "_law_letters" s_L_letters ["_law_box"]) (DT : Def K mg "_law_take" s_L_take ["_law_box", "_law_many"]) (ml : mg "len" = none) (mli : mg "list" = none) (mr : mg "range" = none) : FnOk P w K mg base CX0 2 D.f D.fd ["_law_box"] spLetters := by
  have GT : FnOk P w K mg base CX0 1 DT.f DT.fd ["_law_box", "_law_many"] spTake := ok_take DT
  refine D.ok sc_L_letters (fun vs H Q E h => ?_) (fun cdv A outer s H vs Q E hr h => ?_)
  · obtain ⟨b, l, rfl, _⟩ := h
    rfl
  obtain ⟨b, l, rfl, B, q⟩ := h
  refine ⟨_, pss_cons (ps_par (i := 1) (j := 2) (by rfl) sc_L_letters.nd rfl rfl (by decide) rfl rfl (pa_cons (pe_callTy (cr_listStr rfl) rfl mli (by decide +kernel) (pa_cons pe_str pa_nil)) (pa_cons (pe_lst pa_nil) pa_nil)) (by rfl))
    (pss_cons (ps_for PassesOwn.never rfl (pi_range1 rfl mr (pa_cons (pe_op op_add pe_int (pe_ix ix_list (pe_lst (pa_cons (pcall DT GT hr (pa_cons (pv 0) (pa_cons pe_int pa_nil))) (pa_cons (pcall DT GT hr (pa_cons (pv 0) (pa_cons pe_int pa_nil))) pa_nil))) (pcall DT GT hr (pa_cons (pv 0) (pa_cons pe_int pa_nil))) (fun _ _ => rfl))) pa_nil)) (pg_name (i := 3) sc_L_letters.nd rfl (Or.inl rfl))
      (pss_one (ps_expr (pe_bm PySem.F.plainAttrs_list PySem.F.slot_list_append PySem.F.type_list_append mt_append (pv 2)
        (pa_cons (pe_bm PySem.F.plainAttrs_list PySem.F.slot_list_pop PySem.F.type_list_pop mt_popAt (pv 1) (pa_cons (pcall DT GT hr (pa_cons (pv 0) (pa_cons (pe_callB call_len_seq rfl ml PySem.boot_len (pa_cons (pv 1) pa_nil)) pa_nil))) pa_nil)) pa_nil)))))
    (pss_one (ps_ret (pv 2)))), ?_⟩
  refine ⟨_, rfl, by decide, fun p hp => ?_⟩
  rw [letters_of]
  refine ⟨Nat.zero_le _, fun f hf => ?_⟩
  have npf : p ≠ f := ne_of_none upd_same hf
  have hpf : upd (upd H p (.lst (wordsL.map V.str))) f (.lst []) p = some (.lst (wordsL.map V.str)) := by rw [upd_ne npf]; exact upd_same
  have k1 : Keep [b, l] H (upd (upd H p (.lst (wordsL.map V.str))) f (.lst [])) := (Keep.new hp).trans (Keep.new hf)
  have hf0 : H f = none := (Same.new hp).free hf
  have nfb := B.ne_new hf0
  have npb := B.ne_new hp
  have B1 : Box (upd (upd H p (.lst (wordsL.map V.str))) f (.lst [])) b l := (B.new hp).put nfb.1 nfb.2
  refine ⟨_, _, rfl, ?_⟩
  refine ⟨_, rfl, b, l, 2, rfl, by decide, by decide, B1, fun r1 H1 a0 a1 B2 k2 => ?_⟩
  refine ⟨_, rfl, b, l, 7, rfl, by decide, by decide, B2, fun r2 H2 b0 b1 B3 k3 => ?_⟩
  refine ⟨sz2, fun L hL => ?_⟩
  refine ⟨_, rfl, b, l, 2, rfl, by decide, by decide, B3.new hL, fun r3 H3 c0 c1 B4 k4 => ?_⟩
  have k5 : Keep [b, l] H2 H3 := (Keep.new hL).trans k4
  have nL := B3.ne_new hL
  have eL : H3 L = some (.lst [.int r1, .int r2]) := k4 L _ upd_same (by simp [nL.1, nL.2])
  obtain ⟨z, ez, z0, z1⟩ := pick2 (x := r1) (y := r2) (m := 7) ⟨a0, by omega⟩ ⟨b0, b1⟩ c0 c1
  refine ⟨L, _, r3, .int z, rfl, rfl, SqL.of eL, ez, _, _, rfl, rfl, _, rfl, by omega, by omega, ?_⟩
  have k6 : Keep [b, l] (upd (upd H p (.lst (wordsL.map V.str))) f (.lst [])) H3 := k2.trans (k3.trans k5)
  have nin : ∀ {x : Addr}, x ≠ b ∧ x ≠ l → x ∉ [b, l] := fun {x} h => by simp [h.1, h.2]
  refine for_range (lo := 0) (n := (2 + z).toNat) (fun i σ H' => ∃ (W F : List Str) (v : Option V), σ = [some (.ref b), some (.ref p), some (.ref f), v] ∧ H' p = some (.lst (W.map V.str)) ∧ H' f = some (.lst (F.map V.str)) ∧
      W.length + i = 8 ∧ F.length = i ∧ (∀ x ∈ W, IsW x) ∧ (∀ x ∈ F, IsW x) ∧ Box H' b l ∧ Keep [b, l] H H')
    ⟨wordsL, [], none, rfl, k6 _ _ hpf (nin npb), k6 _ _ upd_same (nin nfb), rfl, rfl, fun _ h => h, fun _ h => (nomatch h), B4, k1.trans k6⟩ ?_ ?_
  · rintro i σ H' hi ⟨W, F, v, rfl, e1, e2, l1, l2, w1, w2, B', k'⟩
    have hW : 0 < W.length := by omega
    refine ⟨_, rfl, .inl ⟨rfl, _, SqL.of e2⟩, _, rfl, .inl ⟨rfl, _, SqL.of e1⟩, _, rfl, _, rfl, p, _, rfl, .inl (SqL.of e1), b, l, _, rfl, (by rw [List.length_map]; omega), (by rw [List.length_map]; omega), B', fun r H2' r0 r1' B2' k2' => ?_⟩
    rw [List.length_map] at r1'
    have hr' : r.toNat < W.length := by omega
    have e1' := k2' _ _ e1 (nin npb)
    have e2' := k2' _ _ e2 (nin nfb)
    refine ⟨p, _, r, r.toNat, .str (W[r.toNat]'hr'), rfl, rfl, e1', by omega, by omega, seq_of r0 (by rw [List.length_map]; exact r1'), get_map V.str W hr', ?_⟩
    refine ⟨f, _, _, rfl, rfl, (by rw [upd_ne npf.symm]; exact e2'), (by rw [List.length_map]; exact small1000 (by omega)), ?_⟩
    refine ⟨W.eraseIdx r.toNat, F ++ [W[r.toNat]'hr'], _, rfl, ?_, ?_, ?_, ?_, fun x hx => w1 x (mem_eraseIdx hx), fun x hx => ?_, (B2'.put npb.1 npb.2).put nfb.1 nfb.2, ((k'.trans k2').newer hp).newer hf0⟩
    · rw [upd_ne npf, upd_same, map_erase]
    · rw [upd_same, List.map_append]
      rfl
    · rw [List.length_eraseIdx_of_lt hr']
      omega
    · rw [List.length_append, l2]
      rfl
    · rcases List.mem_append.mp hx with hx | hx
      · exact w2 x hx
      · rw [List.mem_singleton.mp hx]
        exact w1 _ (List.getElem_mem hr')
  · rintro σ H' ⟨W, F, v, rfl, e1, e2, l1, l2, w1, w2, B', k'⟩
    exact ⟨_, rfl, q f F H' hf0 e2 w2 (by omega) (by omega) B' k'⟩
end
end MS
end
section
set_option maxRecDepth 100000
set_option maxHeartbeats 4000000
namespace MS
open PySem L2
def spStep : Sp := fun vs H Q _ => ∃ (b l L : Addr) (F : List Str) (c : Bool), vs = [.ref b, .ref L, .bl c] ∧ Box H b l ∧ L ≠ b ∧ L ≠ l ∧ H L = some (.lst (F.map V.str)) ∧ (∀ x ∈ F, IsW x) ∧ 0 < F.length ∧ F.length ≤ 8 ∧
  ∀ (p : StepT) (H' : Hp), IsStep p → (p.2 = "c" → c = true) → Box H' b l → Keep [b, l] H H' → Q (.str (stepS p)) H'
theorem pick_mark {r : Int} (h0 : 0 ≤ r) (h1 : r < 4) : ∃ m, atI [V.str "r", V.str "w", V.str "r", V.str "c"] r = some (.str m) ∧ IsM m := by
  have e : r = 0 ∨ r = 1 ∨ r = 2 ∨ r = 3 := by omega
  rcases e with rfl | rfl | rfl | rfl
  · exact ⟨"r", at0, by unfold IsM; decide +kernel⟩
  · exact ⟨"w", at1, by unfold IsM; decide +kernel⟩
  · exact ⟨"r", at2, by unfold IsM; decide +kernel⟩
  · exact ⟨"c", at_of (j := 3) rfl rfl, by unfold IsM; decide +kernel⟩
theorem pick_word {F : List Str} {r : Int} (w1 : ∀ x ∈ F, IsW x) (h0 : 0 ≤ r) (h1 : r < ((F.map V.str).length : Nat)) : ∃ x, atI (F.map V.str) r = some (.str x) ∧ IsW x ∧ x ∈ F := by
  rw [List.length_map] at h1
  have hr : r.toNat < F.length := by omega
  exact ⟨F[r.toNat]'hr, atI_of h0 (get_map V.str F hr), w1 _ (List.getElem_mem hr), List.getElem_mem hr⟩
section
variable {P : Program} {w : World} {K : PySem.W.Frag} {mg : Str → Option Value} {base : Heap}
theorem ok_step (D : Def K mg "_law_step" s_L_step ["_law_box", "_law_letters_here", "_law_was_wrong"]) (DT : Def K mg "_law_take" s_L_take ["_law_box", "_law_many"]) (ml : mg "len" = none) : FnOk P w K mg base CX0 2 D.f D.fd ["_law_box", "_law_letters_here", "_law_was_wrong"] spStep := by
  have GT : FnOk P w K mg base CX0 1 DT.f DT.fd ["_law_box", "_law_many"] spTake := ok_take DT
  refine D.ok sc_L_step (fun vs H Q E h => ?_) (fun cdv A outer s H vs Q E hr h => ?_)
  · obtain ⟨b, l, L, F, c, rfl, _⟩ := h
    rfl
  obtain ⟨b, l, L, F, c, rfl, B, nb, nl, eL, w1, l0, l1, q⟩ := h
  refine ⟨_, pss_cons (ps_set (i := 3) sc_L_step.nd rfl (Or.inl rfl) (pe_ix ix_list (pe_lst (pa_cons pe_str (pa_cons pe_str (pa_cons pe_str (pa_cons pe_str pa_nil))))) (pcall DT GT hr (pa_cons (pv 0) (pa_cons pe_int pa_nil))) (fun _ _ => rfl)))
    (pss_one (ps_ret (pe_op op_add_str (pe_ix ix_list (pv 1) (pcall DT GT hr (pa_cons (pv 0) (pa_cons (pe_callB call_len_seq rfl ml PySem.boot_len (pa_cons (pv 1) pa_nil)) pa_nil))) (fun _ _ => rfl))
      (pe_ifExp (PW.pt (pw_or (pt_cmpR op_ne (pv 3) pe_str (nomark _)) (pw_or1 (pt_val (pv 2))))) (pv 3) pe_str)))), ?_⟩
  refine ⟨(by show 4 ≤ sizeLine; decide), fun T hT => ?_⟩
  refine ⟨_, rfl, b, l, 4, rfl, by decide, by decide, B.new hT, fun r H1 a0 a1 B1 k1 => ?_⟩
  have k2 : Keep [b, l] H H1 := (Keep.new hT).trans k1
  have eT := k1 T _ upd_same (B.nin hT)
  obtain ⟨m, em, hm⟩ := pick_mark a0 a1
  refine ⟨T, _, r, .str m, rfl, rfl, SqL.of eT, em, ?_⟩
  have eL1 := k2 L _ eL (by simp [nb, nl])
  refine ⟨_, rfl, _, rfl, _, rfl, L, _, rfl, .inl (SqL.of eL1), b, l, _, rfl, (by rw [List.length_map]; omega), (by rw [List.length_map]; omega), B1, fun r2 H2 b0 b1 B2 k3 => ?_⟩
  have eL2 := k3 L _ eL1 (by simp [nb, nl])
  obtain ⟨x, ex, hx, _⟩ := pick_word w1 b0 b1
  refine ⟨L, _, r2, .str x, rfl, rfl, SqL.of eL2, ex, ?_⟩
  have fin : ∀ m' : Str, IsM m' → (m' = "c" → c = true) → x.length + m'.length ≤ sizeLine ∧ Q (.str (x ++ m')) H2 := fun m' h1 h2 =>
    ⟨by rw [hx.len, h1.len]; decide, q (x, m') H2 ⟨hx, h1⟩ h2 B2 (k2.trans k3)⟩
  refine ⟨_, rfl, rfl, _, rfl, ?_⟩
  refine ite2 (fun c1 => ?_) (fun c1 => ?_)
  · refine iteT ⟨_, rfl, x, m, rfl, rfl, fin m hm fun e => ?_⟩
    subst e
    exact absurd c1 (by decide +kernel)
  · have e : m = "c" := by
      by_cases z : m = "c"
      · exact z
      · refine absurd ?_ c1
        rw [decide_eq_false (fun y => z (V.str.inj y))]
        rfl
    subst e
    refine ⟨_, rfl, c, rfl, ?_⟩
    cases c with
    | true => exact iteT ⟨_, rfl, x, "c", rfl, rfl, fin "c" hm fun _ => rfl⟩
    | false => exact iteF ⟨x, "w", rfl, rfl, fin "w" (by unfold IsM; decide +kernel) fun e => absurd e (by decide +kernel)⟩
/-! ### a work -/
def spWork : Sp := fun vs H Q _ => ∃ (b l L : Addr) (F : List Str), vs = [.ref b, .ref L, .int 12] ∧ Box H b l ∧ L ≠ b ∧ L ≠ l ∧ H L = some (.lst (F.map V.str)) ∧ (∀ x ∈ F, IsW x) ∧ 0 < F.length ∧ F.length ≤ 8 ∧
  ∀ (p : Addr) (ws : List StepT) (H' : Hp), H p = none → H' p = some (.lst (stepsV ws)) → WorkOk ws → Box H' b l → Keep [b, l] H H' → Q (.ref p) H'
theorem ok_work (D : Def K mg "_law_work" s_L_work ["_law_box", "_law_letters_here", "_law_most"]) (DT : Def K mg "_law_take" s_L_take ["_law_box", "_law_many"]) (DS : Def K mg "_law_step" s_L_step ["_law_box", "_law_letters_here", "_law_was_wrong"]) (ml : mg "len" = none) (mr : mg "range" = none) (ma : mg "any" = none) :
    FnOk P w K mg base CX0 3 D.f D.fd ["_law_box", "_law_letters_here", "_law_most"] spWork := by
  have GT : FnOk P w K mg base CX0 1 DT.f DT.fd ["_law_box", "_law_many"] spTake := ok_take DT
  have GS : FnOk P w K mg base CX0 2 DS.f DS.fd ["_law_box", "_law_letters_here", "_law_was_wrong"] spStep := ok_step DS DT ml
  refine D.ok sc_L_work (fun vs H Q E h => ?_) (fun cdv A outer s H vs Q E hr h => ?_)
  · obtain ⟨b, l, L, F, rfl, _⟩ := h
    rfl
  obtain ⟨b, l, L, F, rfl, B, nb, nl, eL, w1, l0, l1, q⟩ := h
  have hr1 : Room 1 _ := hr.mono (by decide)
  have nd := sc_L_work.nd
  refine ⟨_, pss_cons (ps_set (i := 3) nd rfl (Or.inl rfl) (pe_lst pa_nil))
    (pss_cons (ps_for PassesOwn.never rfl (pi_range1 rfl mr (pa_cons (pcall DT GT hr1 (pa_cons (pv 0) (pa_cons (pe_op op_add (pv 2) pe_int) pa_nil))) pa_nil)) (pg_name (i := 4) nd rfl (Or.inl rfl))
      (pss_one (ps_expr (pe_bm PySem.F.plainAttrs_list PySem.F.slot_list_append PySem.F.type_list_append mt_append (pv 3)
        (pa_cons (pcall DS GS hr (pa_cons (pv 0) (pa_cons (pv 1) (pa_cons (pe_callB (cr_any rfl) rfl ma (by decide +kernel) (pa_cons
          (pe_lc (own := [("_law_step_here", 5)]) (g := gName 5) (tt := tYes) rfl nd (pi_list (pv 3)) (blkOk_by (N := ["_law_box", "_law_letters_here", "_law_most", "_law_found", "_law_turn", "_law_step_here"]) (sc := defScope s_L_work) (by decide +kernel)) (fun _ _ _ _ _ => pg_name (i := 5) nd rfl (Or.inl rfl)) (fun _ _ _ _ _ => pts_nil)
            (fun _ _ _ _ _ => pe_cmpR op_eq (pe_ix ix_str (pv 5) pe_int (fun _ _ => rfl)) pe_str (nomark _))) pa_nil)) pa_nil)))) pa_nil)))))
    (pss_one (ps_ret (pv 3)))), ?_⟩
  refine ⟨Nat.zero_le _, fun f hf => ?_⟩
  have nfb := B.ne_new hf
  refine ⟨_, rfl, _, rfl, _, _, rfl, rfl, b, l, _, rfl, by decide, by decide, B.new hf, fun r H1 a0 a1 B1 k1 => ?_⟩
  have a1' : r < 13 := a1
  have nin : ∀ {x : Addr}, x ≠ b ∧ x ≠ l → x ∉ [b, l] := fun {x} h => by simp [h.1, h.2]
  refine ⟨_, rfl, by omega, by omega, ?_⟩
  refine for_range (lo := 0) (n := r.toNat) (fun i σ H' => ∃ (ws : List StepT) (v : Option V), σ = [some (.ref b), some (.ref L), some (.int 12), some (.ref f), v, none] ∧ H' f = some (.lst (stepsV ws)) ∧ ws.length = i ∧ WorkFrom false ws ∧ Box H' b l ∧ Keep [b, l] H H')
    ⟨[], none, rfl, k1 _ _ upd_same (nin nfb), rfl, trivial, B1, (Keep.new hf).trans k1⟩ ?_ ?_
  · rintro i σ H' hi ⟨ws, v, rfl, ef, hl, hw, B', k'⟩
    have lws : (stepsV ws).length = ws.length := List.length_map _
    have all := hw.all
    refine ⟨_, rfl, .inl ⟨rfl, _, SqL.of ef⟩, _, rfl, _, rfl, _, rfl, f, rfl, ⟨_, SqL.of ef⟩, fun D hD => ?_⟩
    have nfD : f ≠ D := ne_of_none ef hD
    refine lc_list (K := K) (a := f) (xs := stepsV ws) (fun j H'' => H'' = upd H' D (.lst ((ws.take j).map fun p : StepT => V.bl (p.2 == ("w" : Str))))) rfl (fun j H'' _ e => by rw [e]; exact SqL.of (by rw [upd_ne nfD]; exact ef)) ?_ ?_
    · rintro j x H'' hj rfl
      have hjl : j < ws.length := by
        have z := (List.getElem?_eq_some_iff.mp hj).1
        rw [lws] at z
        exact z
      have ex : x = V.str (stepS (ws[j]'hjl)) := by
        have z := get_map (fun p => V.str (stepS p)) ws hjl
        exact Option.some.inj (hj.symm.trans z)
      subst ex
      have hs := all _ (List.getElem_mem hjl)
      obtain ⟨c, ec, em⟩ := hs.at1
      refine ⟨rfl, _, rfl, _, 1, c, rfl, rfl, by rw [hs.len]; decide, ec, rfl, _, upd_same, ?_, ?_⟩
      · rw [List.length_map, List.length_take]
        exact small1000 (by omega)
      · rw [upd_upd, em, List.take_succ_eq_append_getElem hjl, List.map_append, dec_str]
        rfl
    · rintro H'' rfl
      rw [lws, List.take_length]
      refine ⟨D, ws.map fun p : StepT => p.2 == ("w" : Str), rfl, SqL.of (by rw [upd_same, List.map_map]; rfl), ?_⟩
      have kD : Keep [b, l] H' (upd H' D (.lst (ws.map fun p : StepT => V.bl (p.2 == ("w" : Str))))) := Keep.new hD
      refine ⟨b, l, L, F, _, rfl, B'.new hD, nb, nl, (k'.trans kD) L _ eL (by simp [nb, nl]), w1, l0, l1, fun p H2 hp hc B2 k2 => ?_⟩
      have ef2 := (kD.trans k2) f _ ef (nin nfb)
      refine ⟨f, _, _, rfl, rfl, ef2, by rw [lws]; exact small1000 (by omega), ?_⟩
      refine ⟨ws ++ [p], _, rfl, ?_, ?_, hw.snoc hp fun e => ?_, B2.put nfb.1 nfb.2, ((k'.trans (kD.trans k2)).newer hf)⟩
      · rw [upd_same]
        unfold stepsV
        rw [List.map_append]
        rfl
      · rw [List.length_append, hl]
        rfl
      · have z := hc e
        rw [Bool.false_or]
        unfold anyWrong
        rw [List.any_map] at z
        exact z
  · rintro σ H' ⟨ws, v, rfl, ef, hl, hw, B', k'⟩
    exact ⟨_, rfl, q f ws H' hf ef ⟨hw, by omega⟩ B' k'⟩
end
end MS
end
section
set_option maxRecDepth 100000
set_option maxHeartbeats 4000000
namespace MS
open PySem L2
/-! ### schemes -/
inductive Sch where
  | step (w : Str) (p : Int)
  | all (k : List Sch)
  | best (k : List Sch)
  | most (n : Int) (s : Sch)
  | half (s : Sch)
  | seen (w : Str) (s : Sch)
  | behind (w : Str) (s : Sch)
  | carry (s : Sch)
  | fin (w : Str) (p : Int) (s : Sch)
  | use (n : Nat)
/-- a scheme of at most d levels stands in the heap -/
def SAt (H : Hp) : Nat → Sch → V → Prop
  | 0, _, _ => False
  | _ + 1, .step w p, v => ∃ a, v = .ref a ∧ H a = some (.tup [.str "step", .str w, .int p])
  | d + 1, .all k, v => ∃ a b vs, v = .ref a ∧ H a = some (.tup [.str "all", .ref b]) ∧ H b = some (.tup vs) ∧ Paired (SAt H d) k vs
  | d + 1, .best k, v => ∃ a b vs, v = .ref a ∧ H a = some (.tup [.str "best", .ref b]) ∧ H b = some (.tup vs) ∧ Paired (SAt H d) k vs
  | d + 1, .most n s, v => ∃ a u, v = .ref a ∧ H a = some (.tup [.str "most", .int n, u]) ∧ SAt H d s u
  | d + 1, .half s, v => ∃ a u, v = .ref a ∧ H a = some (.tup [.str "half", u]) ∧ SAt H d s u
  | d + 1, .seen w s, v => ∃ a u, v = .ref a ∧ H a = some (.tup [.str "seen", .str w, u]) ∧ SAt H d s u
  | d + 1, .behind w s, v => ∃ a u, v = .ref a ∧ H a = some (.tup [.str "behind", .str w, u]) ∧ SAt H d s u
  | d + 1, .carry s, v => ∃ a u, v = .ref a ∧ H a = some (.tup [.str "carry", u]) ∧ SAt H d s u
  | d + 1, .fin w p s, v => ∃ a u, v = .ref a ∧ H a = some (.tup [.str "end", .str w, .int p, u]) ∧ SAt H d s u
  | _ + 1, .use n, v => ∃ a, v = .ref a ∧ H a = some (.tup [.str "use", .int (n : Int)])
/-- tuples stay -/
def TupK (H H' : Hp) : Prop := ∀ a xs, H a = some (.tup xs) → H' a = some (.tup xs)
theorem TupK.refl (H : Hp) : TupK H H := fun _ _ h => h
theorem TupK.trans {H H1 H2 : Hp} (a : TupK H H1) (b : TupK H1 H2) : TupK H H2 := fun c o h => b c o (a c o h)
theorem TupK.new {H : Hp} {p : Addr} {o : HO} (h : H p = none) : TupK H (upd H p o) := fun b u q => by rw [upd_ne (ne_of_none q h)]; exact q
theorem TupK.put {H : Hp} {p : Addr} {o : HO} {ys : List V} (h : H p = some (.lst ys)) : TupK H (upd H p o) := fun b u q => by rw [upd_ne (ne_of q h (by intro z; cases z))]; exact q
theorem Keep.tup {S : List Addr} {H H' : Hp} (k : Keep S H H') (nt : ∀ a ∈ S, ∃ ys, H a = some (.lst ys)) : TupK H H' := fun a xs e => k a _ e fun hm => by
  obtain ⟨ys, z⟩ := nt a hm
  rw [e] at z
  cases z
theorem paired_imp {α β : Type} {R T : α → β → Prop} : ∀ {xs : List α} {ys : List β}, Paired R xs ys → (∀ x y, R x y → T x y) → Paired T xs ys
  | _, _, .nil, _ => .nil
  | _, _, .cons r t, h => .cons (h _ _ r) (paired_imp t h)
theorem SAt.keep {H H' : Hp} (k : TupK H H') : ∀ (d : Nat) (s : Sch) (v : V), SAt H d s v → SAt H' d s v
  | 0, _, _, h => by cases h
  | _ + 1, .step w p, v, ⟨a, e, h⟩ => ⟨a, e, k _ _ h⟩
  | d + 1, .all ks, v, ⟨a, b, vs, e, h1, h2, h3⟩ => ⟨a, b, vs, e, k _ _ h1, k _ _ h2, paired_imp h3 fun s v => SAt.keep k d s v⟩
  | d + 1, .best ks, v, ⟨a, b, vs, e, h1, h2, h3⟩ => ⟨a, b, vs, e, k _ _ h1, k _ _ h2, paired_imp h3 fun s v => SAt.keep k d s v⟩
  | d + 1, .most n s, v, ⟨a, u, e, h1, h2⟩ => ⟨a, u, e, k _ _ h1, SAt.keep k d s u h2⟩
  | d + 1, .half s, v, ⟨a, u, e, h1, h2⟩ => ⟨a, u, e, k _ _ h1, SAt.keep k d s u h2⟩
  | d + 1, .seen w s, v, ⟨a, u, e, h1, h2⟩ => ⟨a, u, e, k _ _ h1, SAt.keep k d s u h2⟩
  | d + 1, .behind w s, v, ⟨a, u, e, h1, h2⟩ => ⟨a, u, e, k _ _ h1, SAt.keep k d s u h2⟩
  | d + 1, .carry s, v, ⟨a, u, e, h1, h2⟩ => ⟨a, u, e, k _ _ h1, SAt.keep k d s u h2⟩
  | d + 1, .fin w p s, v, ⟨a, u, e, h1, h2⟩ => ⟨a, u, e, k _ _ h1, SAt.keep k d s u h2⟩
  | _ + 1, .use n, v, ⟨a, e, h⟩ => ⟨a, e, k _ _ h⟩
/-- a scheme that can be, in scheme i of M -/
def OkS (i M : Nat) : Nat → Sch → Prop
  | 0, _ => False
  | _ + 1, .step w p => IsW w ∧ 1 ≤ p ∧ p ≤ 9
  | d + 1, .all k => 0 < k.length ∧ k.length ≤ 4 ∧ ∀ s ∈ k, OkS i M d s
  | d + 1, .best k => 0 < k.length ∧ k.length ≤ 4 ∧ ∀ s ∈ k, OkS i M d s
  | d + 1, .most n s => (0 ≤ n ∧ n ≤ 30) ∧ OkS i M d s
  | d + 1, .half s => OkS i M d s
  | d + 1, .seen w s => IsW w ∧ OkS i M d s
  | d + 1, .behind w s => IsW w ∧ OkS i M d s
  | d + 1, .carry s => OkS i M d s
  | d + 1, .fin w p s => (IsW w ∧ 1 ≤ p ∧ p ≤ 9) ∧ OkS i M d s
  | _ + 1, .use n => i < n ∧ n < M
def sz : Nat → Sch → Int
  | 0, _ => 0
  | _ + 1, .step _ _ => 1
  | d + 1, .all k => 1 + (k.map (sz d)).sum
  | d + 1, .best k => 1 + (k.map (sz d)).sum
  | d + 1, .most _ s => 1 + sz d s
  | d + 1, .half s => 1 + sz d s
  | d + 1, .seen _ s => 1 + sz d s
  | d + 1, .behind _ s => 1 + sz d s
  | d + 1, .carry s => 1 + sz d s
  | d + 1, .fin _ _ s => 1 + sz d s
  | _ + 1, .use _ => 1
/-- steps and ends; c: those of the used ones -/
def er (c : Nat → Int) : Nat → Sch → Int
  | 0, _ => 0
  | _ + 1, .step _ _ => 1
  | d + 1, .all k => (k.map (er c d)).sum
  | d + 1, .best k => (k.map (er c d)).sum
  | d + 1, .most _ s => er c d s
  | d + 1, .half s => er c d s
  | d + 1, .seen _ s => er c d s
  | d + 1, .behind _ s => er c d s
  | d + 1, .carry s => er c d s
  | d + 1, .fin _ _ s => 1 + er c d s
  | _ + 1, .use n => c n
/-- seens and behinds -/
def wr (c : Nat → Int) : Nat → Sch → Int
  | 0, _ => 0
  | _ + 1, .step _ _ => 0
  | d + 1, .all k => (k.map (wr c d)).sum
  | d + 1, .best k => (k.map (wr c d)).sum
  | d + 1, .most _ s => wr c d s
  | d + 1, .half s => wr c d s
  | d + 1, .seen _ s => 1 + wr c d s
  | d + 1, .behind _ s => 1 + wr c d s
  | d + 1, .carry s => wr c d s
  | d + 1, .fin _ _ s => wr c d s
  | _ + 1, .use n => c n
/-- what is told of the later schemes: number, steps and ends, seens and behinds -/
def UAt (H : Hp) (i M : Nat) (ce cw : Nat → Int) (u : Addr) : Prop := ∃ (js : List Nat) (vs : List V), H u = some (.lst vs) ∧ js.length ≤ 5 ∧ (∀ j ∈ js, i < j ∧ j < M) ∧
  Paired (fun j v => ∃ t, v = V.ref t ∧ H t = some (.tup [.int ((j : Nat) : Int), .int (ce j), .int (cw j)])) js vs
theorem UAt.keep {H H' : Hp} {i M : Nat} {ce cw : Nat → Int} {u : Addr} (h : UAt H i M ce cw u) (k : TupK H H') (hu : ∀ vs, H u = some (.lst vs) → H' u = some (.lst vs)) : UAt H' i M ce cw u := by
  obtain ⟨js, vs, e, l, r, p⟩ := h
  exact ⟨js, vs, hu vs e, l, r, paired_imp p fun j v ⟨t, e1, e2⟩ => ⟨t, e1, k _ _ e2⟩⟩
end MS
end
section
set_option maxRecDepth 100000
set_option maxHeartbeats 4000000
namespace MS
open PySem L2
theorem ev_or {t u : TT} {σ : St} {H : Hp} {b c : Bool} (h1 : ∀ Q : Bool → Hp → Prop, Q b H → t σ H Q) (h2 : ∀ Q : Bool → Hp → Prop, Q c H → u σ H Q) : ∀ Q : Bool → Hp → Prop, Q (b || c) H → tOr t u σ H Q := fun Q q => h1 _ (by
  cases b with
  | true => exact iteT q
  | false => exact iteF (h2 _ q))
theorem ev_and {t u : TT} {σ : St} {H : Hp} {b c : Bool} (h1 : ∀ Q : Bool → Hp → Prop, Q b H → t σ H Q) (h2 : ∀ Q : Bool → Hp → Prop, Q c H → u σ H Q) : ∀ Q : Bool → Hp → Prop, Q (b && c) H → tAnd t u σ H Q := fun Q q => h1 _ (by
  cases b with
  | true => exact iteT (h2 _ q)
  | false => exact iteF q)
theorem seq_if {tc : TT} {t r : TS} {D : Ends} {σ : St} {H : Hp} {b : Bool} (h : ∀ Q : Bool → Hp → Prop, Q b H → tc σ H Q) (k1 : b = true → t { D with nx := r D } σ H) (k2 : b = false → r D σ H) : tSeq (tIfS tc t tNext) r D σ H := h _ (by
  cases b with
  | true => exact iteT (k1 rfl)
  | false => exact iteF (k2 rfl))
theorem one_if {tc : TT} {t : TS} {D : Ends} {σ : St} {H : Hp} {b : Bool} (h : ∀ Q : Bool → Hp → Prop, Q b H → tc σ H Q) (k1 : b = true → t D σ H) (k2 : b = false → D.nx σ H) : tIfS tc t tNext D σ H := h _ (by
  cases b with
  | true => exact iteT (k1 rfl)
  | false => exact iteF (k2 rfl))
theorem seq_if_to {tc : TT} {t r : TS} {D : Ends} {σ : St} {H : Hp} {b : Bool} (R : St → Hp → Prop) (h : ∀ Q : Bool → Hp → Prop, Q b H → tc σ H Q) (rest : ∀ σ' H', R σ' H' → r D σ' H')
    (k1 : b = true → (∀ σ' H', R σ' H' → r D σ' H') → t { D with nx := r D } σ H) (k2 : b = false → R σ H) : tSeq (tIfS tc t tNext) r D σ H := seq_if h (fun e => k1 e rest) fun e => rest _ _ (k2 e)
theorem paired_get' {α β : Type} {R : α → β → Prop} : ∀ {xs : List α} {ys : List β}, Paired R xs ys → ∀ {k : Nat} {y : β}, ys[k]? = some y → ∃ x, xs[k]? = some x ∧ R x y
  | _, _, .nil, _, _, h => by simp at h
  | _, _, .cons r t, 0, _, h => by
    simp at h
    subst h
    exact ⟨_, rfl, r⟩
  | _, _, .cons _ t, k + 1, y, h => by
    obtain ⟨x, e, r⟩ := paired_get' t (k := k) (y := y) (by simpa using h)
    exact ⟨x, by simpa using e, r⟩
theorem paired_snoc {α β : Type} {R : α → β → Prop} : ∀ {xs : List α} {ys : List β} {x : α} {y : β}, Paired R xs ys → R x y → Paired R (xs ++ [x]) (ys ++ [y])
  | _, _, _, _, .nil, h => .cons h .nil
  | _, _, _, _, .cons r t, h => .cons r (paired_snoc t h)
theorem pick_name {a b : Str} {r : Int} (h0 : 0 ≤ r) (h1 : r < 2) : atI [V.str a, V.str b] r = some (.str (if r = 0 then a else b)) := by
  have e : r = 0 ∨ r = 1 := by omega
  rcases e with rfl | rfl
  · exact at0
  · exact at1
structure GenAt (i M : Nat) (ce cw : Nat → Int) (H : Hp) (b l L m u : Addr) (F : List Str) (x y z : Int) : Prop where
  box : Box H b l
  left : H m = some (.lst [.int x, .int y, .int z])
  lets : H L = some (.lst (F.map V.str))
  words : ∀ x ∈ F, IsW x
  pos : 0 < F.length
  few : F.length ≤ 8
  uses : UAt H i M ce cw u
  bm : m ≠ b ∧ m ≠ l
  nL : L ∉ [b, l, m]
  nu : u ∉ [b, l, m]
section
variable {i M : Nat} {ce cw : Nat → Int} {H H' : Hp} {b l L m u : Addr} {F : List Str} {x y z x' y' z' : Int}
theorem GenAt.lists (G : GenAt i M ce cw H b l L m u F x y z) : ∀ a ∈ [b, l, m], ∃ ys, H a = some (.lst ys) := fun a ha => by
  obtain ⟨_, ⟨n, e1⟩, ns, e2⟩ := G.box
  rcases List.mem_cons.mp ha with rfl | ha
  · exact ⟨_, e1⟩
  · rcases List.mem_cons.mp ha with rfl | ha
    · exact ⟨_, e2⟩
    · rw [List.mem_singleton.mp ha]
      exact ⟨_, G.left⟩
theorem GenAt.tup (G : GenAt i M ce cw H b l L m u F x y z) (k : Keep [b, l, m] H H') : TupK H H' := k.tup G.lists
theorem GenAt.move (G : GenAt i M ce cw H b l L m u F x y z) (k : Keep [b, l, m] H H') (B : Box H' b l) (e : H' m = some (.lst [.int x', .int y', .int z'])) : GenAt i M ce cw H' b l L m u F x' y' z' :=
  ⟨B, e, k _ _ G.lets G.nL, G.words, G.pos, G.few, G.uses.keep (G.tup k) (fun vs h => k _ _ h G.nu), G.bm, G.nL, G.nu⟩
theorem GenAt.nm (G : GenAt i M ce cw H b l L m u F x y z) : m ∉ [b, l] := by simp [G.bm.1, G.bm.2]
theorem GenAt.draw (G : GenAt i M ce cw H b l L m u F x y z) (k : Keep [b, l] H H') (B : Box H' b l) : GenAt i M ce cw H' b l L m u F x y z :=
  G.move (k.mono fun _ h => by simp only [List.mem_cons, List.not_mem_nil, or_false] at h ⊢; rcases h with h | h <;> simp [h]) B (k _ _ G.left G.nm)
theorem GenAt.new (G : GenAt i M ce cw H b l L m u F x y z) {p : Addr} {o : HO} (h : H p = none) : GenAt i M ce cw (upd H p o) b l L m u F x y z :=
  G.draw (Keep.new h) (G.box.new h)
theorem GenAt.put (G : GenAt i M ce cw H b l L m u F x y z) : GenAt i M ce cw (upd H m (.lst [.int x', .int y', .int z'])) b l L m u F x' y' z' :=
  G.move (Keep.put (by simp)) (G.box.put G.bm.1 G.bm.2) upd_same
theorem k3 {b l m : Addr} {H H' : Hp} (k : Keep [b, l] H H') : Keep [b, l, m] H H' := k.mono fun _ h => by simp only [List.mem_cons, List.not_mem_nil, or_false] at h ⊢; rcases h with h | h <;> simp [h]
end
def spScheme (i M : Nat) (ce cw : Nat → Int) (d : Nat) : Sp := fun vs H Q _ => ∃ (b l L m u : Addr) (F : List Str) (x y z : Int), vs = [.ref b, .ref L, .ref m, .int (d : Int), .ref u] ∧ GenAt i M ce cw H b l L m u F x y z ∧ 1 ≤ x ∧ 1 ≤ y ∧ 0 ≤ z ∧
  ∀ (v : V) (s : Sch) (H' : Hp) (x' y' z' : Int), SAt H' (d + 1) s v → OkS i M (d + 1) s → sz (d + 1) s = x - x' → er ce (d + 1) s = y - y' → wr cw (d + 1) s = z - z' → 0 ≤ x' → 0 ≤ y' → 0 ≤ z' →
    H' m = some (.lst [.int x', .int y', .int z']) → Box H' b l → Keep [b, l, m] H H' → Q v H'
abbrev nmScheme : List Str := ["_law_box", "_law_letters_here", "_law_left", "_law_deep_here", "_law_uses", "_law_word", "_law_way", "_law_one", "_law_some", "_law_kids", "_law_turn"]
abbrev psScheme : List Str := ["_law_box", "_law_letters_here", "_law_left", "_law_deep_here", "_law_uses"]
section
variable {P : Program} {w : World} {K : PySem.W.Frag} {mg : Str → Option Value} {base : Heap}
theorem scheme_turn {i M d : Nat} {ce cw : Nat → Int} {sp' : Sp} (D : Def K mg "_law_scheme" s_L_scheme psScheme) (DT : Def K mg "_law_take" s_L_take ["_law_box", "_law_many"]) (ml : mg "len" = none) (mr : mg "range" = none) (mt : mg "tuple" = none)
    (G : FnOk P w K mg base CX0 (d + 1) D.f D.fd psScheme sp') (hs : ∀ d', d = d' + 1 → sp' = spScheme i M ce cw d') : FnOk P w K mg base CX0 (d + 2) D.f D.fd psScheme (spScheme i M ce cw d) := by
  have GT : FnOk P w K mg base CX0 1 DT.f DT.fd ["_law_box", "_law_many"] spTake := ok_take DT
  have nd := sc_L_scheme.nd
  refine D.ok sc_L_scheme (fun vs H Q E h => ?_) (fun cdv A outer s H vs Q E hr h => ?_)
  · obtain ⟨b, l, L, m, u, F, x, y, z, rfl, _⟩ := h
    rfl
  obtain ⟨b, l, L, m, u, F, x, y, z, rfl, g, hx, hy, hz, q⟩ := h
  have hr1 : Room 1 _ := hr.mono (by omega)
  refine ⟨_, pss_cons (ps_asg (pe_op op_sub (pe_ix ix_list (pv 2) pe_int (fun _ _ => rfl)) pe_int) (pg_sub (pv 2) pe_int set_list))
    (pss_cons (ps_set (i := 5) nd rfl (Or.inl rfl) (pe_ix ix_list (pv 1) (pcall DT GT hr1 (pa_cons (pv 0) (pa_cons (pe_callB call_len_seq rfl ml PySem.boot_len (pa_cons (pv 1) pa_nil)) pa_nil))) (fun _ _ => rfl)))
    (pss_cons (ps_set (i := 6) nd rfl (Or.inl rfl) (pcall DT GT hr1 (pa_cons (pv 0) (pa_cons pe_int pa_nil))))
    (pss_cons (ps_if (PW.pt (pw_or (pt_cmpR op_eq (pv 3) pe_int (nomark _)) (pw_or (pt_cmpR op_lt (pe_ix ix_list (pv 2) pe_int (fun _ _ => rfl)) pe_int (nomark _)) (pw_or (pt_cmpR op_lt (pe_ix ix_list (pv 2) pe_int (fun _ _ => rfl)) pe_int (nomark _)) (pw_or1 (pt_cmpR op_lt (pv 6) pe_int (nomark _)))))))
      (pss_cons (ps_asg (pe_op op_sub (pe_ix ix_list (pv 2) pe_int (fun _ _ => rfl)) pe_int) (pg_sub (pv 2) pe_int set_list)) (pss_one (ps_ret (pe_tup (pa_cons pe_str (pa_cons (pv 5) (pa_cons (pe_op op_add pe_int (pcall DT GT hr1 (pa_cons (pv 0) (pa_cons pe_int pa_nil)))) pa_nil))))))) pss_nil)
    (pss_cons (ps_if (pt_cmpR op_eq (pv 6) pe_int (nomark _))
      (pss_cons (ps_setLc (i := 8) (own := [("_law_one", 7)]) (g := gName 7) rfl nd rfl rfl (sw_true rfl rfl rfl (by decide +kernel)) (pi_list (pv 4)) (blkOk_by (N := nmScheme) (sc := defScope s_L_scheme) (by decide +kernel)) (fun _ _ _ _ _ => pg_name (i := 7) nd rfl (Or.inl rfl))
          (fun _ _ _ _ _ => pts_one (PW.pt (pw_and (pt_cmpR op_le (pe_ix (r := rIxT K) ix_tup (pv 7) pe_int (fun _ _ => rfl)) (pe_ix (r := rIxL K) ix_list (pv 2) pe_int (fun _ _ => rfl)) (nomark _)) (pw_and1 (pt_cmpR op_le (pe_ix (r := rIxT K) ix_tup (pv 7) pe_int (fun _ _ => rfl)) (pe_ix (r := rIxL K) ix_list (pv 2) pe_int (fun _ _ => rfl)) (nomark _))))))
          (fun _ _ _ _ _ => pv 7))
        (pss_one (ps_if (pt_cmpR (op_neD hr.units) (pv 8) (pe_lst pa_nil) (nomark _))
          (pss_cons (ps_set (i := 7) nd rfl (Or.inl rfl) (pe_ix ix_list (pv 8) (pcall DT GT hr1 (pa_cons (pv 0) (pa_cons (pe_callB call_len_seq rfl ml PySem.boot_len (pa_cons (pv 8) pa_nil)) pa_nil))) (fun _ _ => rfl)))
          (pss_cons (ps_asg (pe_tup (pa_cons (pe_op op_sub (pe_ix ix_list (pv 2) pe_int (fun _ _ => rfl)) (pe_ix ix_tup (pv 7) pe_int (fun _ _ => rfl))) (pa_cons (pe_op op_sub (pe_ix ix_list (pv 2) pe_int (fun _ _ => rfl)) (pe_ix ix_tup (pv 7) pe_int (fun _ _ => rfl))) pa_nil)))
              (pg_tup (by rfl) (pgs_cons (pg_sub (pv 2) pe_int set_list) (pgs_cons (pg_sub (pv 2) pe_int set_list) pgs_nil))))
          (pss_one (ps_ret (pe_tup (pa_cons pe_str (pa_cons (pe_ix ix_tup (pv 7) pe_int (fun _ _ => rfl)) pa_nil))))))) pss_nil))) pss_nil)
    (pss_cons (ps_if (pt_cmpR op_lt (pv 6) pe_int (nomark _))
      (pss_cons (ps_set (i := 9) nd rfl (Or.inl rfl) (pe_lst pa_nil))
      (pss_cons (ps_for PassesOwn.never rfl (pi_range1 rfl mr (pa_cons (pe_op op_add pe_int (pcall DT GT hr1 (pa_cons (pv 0) (pa_cons pe_int pa_nil)))) pa_nil)) (pg_name (i := 10) nd rfl (Or.inl rfl))
        (pss_one (ps_if (PW.pt (pw_and (pt_cmpR op_gt (pe_ix ix_list (pv 2) pe_int (fun _ _ => rfl)) pe_int (nomark _)) (pw_and1 (pt_cmpR op_gt (pe_ix ix_list (pv 2) pe_int (fun _ _ => rfl)) pe_int (nomark _)))))
          (pss_one (ps_expr (pe_bm PySem.F.plainAttrs_list PySem.F.slot_list_append PySem.F.type_list_append mt_append (pv 9) (pa_cons (pcall D G hr (pa_cons (pv 0) (pa_cons (pv 1) (pa_cons (pv 2) (pa_cons (pe_op op_sub (pv 3) pe_int) (pa_cons (pv 4) pa_nil)))))) pa_nil)))) pss_nil)))
      (pss_one (ps_ret (pe_tup (pa_cons (pe_ix ix_list (pe_lst (pa_cons pe_str (pa_cons pe_str pa_nil))) (pe_op op_mod (pv 6) pe_int) (fun _ _ => rfl)) (pa_cons (pe_callTy call_tuple_of rfl mt (by decide +kernel) (pa_cons (pv 9) pa_nil)) pa_nil))))))) pss_nil)
    (pss_cons (ps_if (PW.pt (pw_and (pt_cmpR op_lt (pv 6) pe_int (nomark _)) (pw_and1 (pt_cmpR op_gt (pe_ix ix_list (pv 2) pe_int (fun _ _ => rfl)) pe_int (nomark _)))))
      (pss_cons (ps_asg (pe_op op_sub (pe_ix ix_list (pv 2) pe_int (fun _ _ => rfl)) pe_int) (pg_sub (pv 2) pe_int set_list))
        (pss_one (ps_ret (pe_tup (pa_cons (pe_ix ix_list (pe_lst (pa_cons pe_str (pa_cons pe_str pa_nil))) (pe_op op_mod (pv 6) pe_int) (fun _ _ => rfl)) (pa_cons (pv 5) (pa_cons (pcall D G hr (pa_cons (pv 0) (pa_cons (pv 1) (pa_cons (pv 2) (pa_cons (pe_op op_sub (pv 3) pe_int) (pa_cons (pv 4) pa_nil)))))) pa_nil))))))) pss_nil)
    (pss_cons (ps_if (PW.pt (pw_and (pt_cmpR op_eq (pv 6) pe_int (nomark _)) (pw_and1 (pt_cmpR op_gt (pe_ix ix_list (pv 2) pe_int (fun _ _ => rfl)) pe_int (nomark _)))))
      (pss_cons (ps_asg (pe_op op_sub (pe_ix ix_list (pv 2) pe_int (fun _ _ => rfl)) pe_int) (pg_sub (pv 2) pe_int set_list))
        (pss_one (ps_ret (pe_tup (pa_cons pe_str (pa_cons (pv 5) (pa_cons (pe_op op_add pe_int (pcall DT GT hr1 (pa_cons (pv 0) (pa_cons pe_int pa_nil)))) (pa_cons (pcall D G hr (pa_cons (pv 0) (pa_cons (pv 1) (pa_cons (pv 2) (pa_cons (pe_op op_sub (pv 3) pe_int) (pa_cons (pv 4) pa_nil)))))) pa_nil)))))))) pss_nil)
    (pss_cons (ps_if (pt_cmpR op_eq (pv 6) pe_int (nomark _))
      (pss_one (ps_ret (pe_tup (pa_cons pe_str (pa_cons (pcall DT GT hr1 (pa_cons (pv 0) (pa_cons (pe_ix ix_list (pe_lst (pa_cons pe_int (pa_cons pe_int (pa_cons pe_int pa_nil)))) (pcall DT GT hr1 (pa_cons (pv 0) (pa_cons pe_int pa_nil))) (fun _ _ => rfl)) pa_nil))) (pa_cons (pcall D G hr (pa_cons (pv 0) (pa_cons (pv 1) (pa_cons (pv 2) (pa_cons (pe_op op_sub (pv 3) pe_int) (pa_cons (pv 4) pa_nil)))))) pa_nil)))))) pss_nil)
    (pss_one (ps_ret (pe_tup (pa_cons (pe_ix ix_list (pe_lst (pa_cons pe_str (pa_cons pe_str pa_nil))) (pe_op op_mod (pv 6) pe_int) (fun _ _ => rfl)) (pa_cons (pcall D G hr (pa_cons (pv 0) (pa_cons (pv 1) (pa_cons (pv 2) (pa_cons (pe_op op_sub (pv 3) pe_int) (pa_cons (pv 4) pa_nil)))))) pa_nil))))))))))))), ?_⟩
  -- left[0] = left[0] - 1
  refine ⟨_, rfl, m, _, 0, .int x, rfl, rfl, SqL.of g.left, at0, _, _, rfl, rfl, _, rfl, m, _, 0, 0, rfl, rfl, g.left, rfl, ?_⟩
  have g1 : GenAt i M ce cw (upd H m (.lst [.int (x - 1), .int y, .int z])) b l L m u F (x - 1) y z := g.put
  -- word
  refine ⟨_, rfl, _, rfl, _, rfl, L, _, rfl, .inl (SqL.of g1.lets), b, l, _, rfl, (by have := g.pos; rw [List.length_map]; omega), (by have := g.few; rw [List.length_map]; omega), g1.box, fun r1 H2 a0 a1 B2 k2 => ?_⟩
  have g2 := g1.draw k2 B2
  obtain ⟨wd, ew, hw, _⟩ := pick_word g.words a0 a1
  refine ⟨L, _, r1, .str wd, rfl, rfl, SqL.of g2.lets, ew, ?_⟩
  -- way
  refine ⟨_, rfl, b, l, 16, rfl, by decide, by decide, g2.box, fun way H3 c0 c1 B3 k3' => ?_⟩
  have g3 := g2.draw k3' B3
  have kk3 : Keep [b, l, m] H H3 := (Keep.put (by simp)).trans (k3 (k2.trans k3'))
  dsimp only [gName]
  refine seq_if (b := decide ((d : Int) = 0) || (decide (x - 1 < 2) || (decide (y < 2) || decide (way < 3)))) (ev_or (fun Q q => ⟨_, rfl, rfl, _, rfl, by rw [dec_int]; exact q⟩) (ev_or (fun Q q => ⟨_, rfl, m, _, 0, .int (x - 1), rfl, rfl, SqL.of g3.left, at0, _, _, rfl, rfl, _, rfl, q⟩)
    (ev_or (fun Q q => ⟨_, rfl, m, _, 1, .int y, rfl, rfl, SqL.of g3.left, at1, _, _, rfl, rfl, _, rfl, q⟩) (fun Q q => ⟨_, rfl, _, _, rfl, rfl, _, rfl, q⟩)))) (fun cc => ?_) (fun cc => ?_)
  · -- a step
    refine ⟨_, rfl, m, _, 1, .int y, rfl, rfl, SqL.of g3.left, at1, _, _, rfl, rfl, _, rfl, m, _, 1, 1, rfl, rfl, g3.left, rfl, ?_⟩
    have g4 : GenAt i M ce cw (upd H3 m (.lst [.int (x - 1), .int (y - 1), .int z])) b l L m u F (x - 1) (y - 1) z := g3.put
    refine ⟨_, rfl, _, rfl, b, l, 9, rfl, by decide, by decide, g4.box, fun r H5 d0 d1 B5 k5 => ?_⟩
    have g5 := g4.draw k5 B5
    refine ⟨_, _, rfl, rfl, (by show 3 ≤ sizeLine; decide), fun p hp => ?_⟩
    have g6 := g5.new (o := .tup [.str "step", .str wd, .int (1 + r)]) hp
    refine q _ (.step wd (1 + r)) _ (x - 1) (y - 1) z ⟨p, rfl, upd_same⟩ ⟨hw, by omega, by omega⟩ ?_ ?_ ?_ (by omega) (by omega) hz g6.left g6.box (kk3.trans ((Keep.put (by simp)).trans ((k3 k5).trans (Keep.new hp))))
    · show (1 : Int) = x - (x - 1)
      omega
    · show (1 : Int) = y - (y - 1)
      omega
    · show (0 : Int) = z - z
      omega
  simp only [Bool.or_eq_false_iff, decide_eq_false_iff_not] at cc
  obtain ⟨cd, cx, cy, cw'⟩ := cc
  obtain ⟨d', rfl⟩ : ∃ d', d = d' + 1 := ⟨d - 1, by omega⟩
  obtain rfl := hs d' rfl
  refine seq_if_to (b := decide (way = 3)) (fun σ' H' => ∃ v7 v8 : Option V, σ' = [some (.ref b), some (.ref L), some (.ref m), some (.int ((d' + 1 : Nat) : Int)), some (.ref u), some (.str wd), some (.int way), v7, v8, none, none] ∧ GenAt i M ce cw H' b l L m u F (x - 1) y z ∧ Keep [b, l, m] H H')
    (fun Q q => ⟨_, rfl, rfl, _, rfl, by rw [dec_int]; exact q⟩) ?_ ?_ (fun _ => ⟨none, none, rfl, g3, kk3⟩)
  · rintro σ' H4 ⟨v7, v8, rfl, g4, kk4⟩
    have recE : (.int (((d' + 1 : Nat) : Int) - 1) : V) = .int (d' : Int) := by rw [show (((d' + 1 : Nat) : Int) - 1) = (d' : Int) by omega]
    refine seq_if (b := decide (way < 9)) (fun Q q => ⟨_, rfl, _, _, rfl, rfl, _, rfl, q⟩) (fun _ => ?_) (fun c9 => ?_)
    · -- all, best
      refine ⟨Nat.zero_le _, fun kd hkd => ?_⟩
      have nkd := g4.box.ne_new hkd
      have nkm : kd ≠ m := (ne_of_none g4.left hkd).symm
      have gk := g4.new (o := .lst []) hkd
      have hkd0 : ∀ {S : List Addr} {H' : Hp} {o : HO}, Keep [b, l, m] H4 H' → Keep [b, l, m] H4 (upd H' kd o) := fun k => k.newer hkd
      have nin : kd ∉ [b, l, m] := by simp [nkd.1, nkd.2, nkm]
      refine ⟨_, rfl, b, l, 4, rfl, by decide, by decide, gk.box, fun r H5 e0 e1 B5 k5 => ?_⟩
      have g5 := gk.draw k5 B5
      refine ⟨_, _, rfl, rfl, _, rfl, by omega, by omega, ?_⟩
      refine for_range (lo := 0) (n := (1 + r).toNat) (fun k σ H' => ∃ (ks : List Sch) (vs : List V) (x' y' z' : Int) (v10 : Option V), σ = [some (.ref b), some (.ref L), some (.ref m), some (.int ((d' + 1 : Nat) : Int)), some (.ref u), some (.str wd), some (.int way), v7, v8, some (.ref kd), v10] ∧
          H' kd = some (.lst vs) ∧ Paired (SAt H' (d' + 1)) ks vs ∧ (∀ s ∈ ks, OkS i M (d' + 1) s) ∧ (ks.map (sz (d' + 1))).sum = (x - 1) - x' ∧ (ks.map (er ce (d' + 1))).sum = y - y' ∧ (ks.map (wr cw (d' + 1))).sum = z - z' ∧ 0 ≤ x' ∧ 0 ≤ y' ∧ 0 ≤ z' ∧
          ks.length ≤ k ∧ (0 < k → 0 < ks.length) ∧ (k = 0 → x' = x - 1 ∧ y' = y) ∧ GenAt i M ce cw H' b l L m u F x' y' z' ∧ Keep [b, l, m] H4 H')
        ⟨[], [], x - 1, y, z, none, rfl, k5 _ _ upd_same (by simp [nkd.1, nkd.2]), .nil, (fun _ h => nomatch h), by simp, by simp, by simp, by omega, by omega, hz, Nat.le_refl _, fun h => absurd h (Nat.lt_irrefl _), fun _ => ⟨rfl, rfl⟩, g5, (Keep.new hkd).trans (k3 k5)⟩ ?_ ?_
      · rintro k σ H' hk ⟨ks, vs, x', y', z', v10, rfl, ekd, pk, ok, s1, s2, s3, p1, p2, p3, len, pos, ini, g', kk'⟩
        refine one_if (b := decide (0 < x') && decide (0 < y')) (ev_and (fun Q q => ⟨_, rfl, m, _, 0, .int x', rfl, rfl, SqL.of g'.left, at0, _, _, rfl, rfl, _, rfl, q⟩) (fun Q q => ⟨_, rfl, m, _, 1, .int y', rfl, rfl, SqL.of g'.left, at1, _, _, rfl, rfl, _, rfl, q⟩)) (fun cc => ?_) (fun cc => ?_)
        · simp only [Bool.and_eq_true, decide_eq_true_eq] at cc
          refine ⟨_, rfl, .inl ⟨rfl, _, SqL.of ekd⟩, _, rfl, _, rfl, _, rfl, _, rfl, _, _, rfl, rfl, _, rfl, b, l, L, m, u, F, x', y', z', by rw [← recE] <;> rfl, g', by omega, by omega, p3, fun v s H6 x2 y2 z2 sa so q1 q2 q3 n1 n2 n3 el B6 k6 => ?_⟩
          have g6 := g'.move k6 B6 el
          have t6 := g'.tup k6
          refine ⟨kd, vs, v, rfl, rfl, k6 _ _ ekd nin, ?_, ?_⟩
          · have hl := Paired.length pk
            exact small1000 (by omega)
          · have g7 : GenAt i M ce cw (upd H6 kd (.lst (vs ++ [v]))) b l L m u F x2 y2 z2 := g4.move ((kk'.trans k6).newer hkd) (g6.box.put nkd.1 nkd.2) (by rw [upd_ne nkm.symm]; exact g6.left)
            have t7 : TupK H6 (upd H6 kd (.lst (vs ++ [v]))) := TupK.put (k6 _ _ ekd nin)
            refine ⟨ks ++ [s], vs ++ [v], x2, y2, z2, _, rfl, upd_same, paired_snoc (paired_imp pk fun s' v' h => SAt.keep (t6.trans t7) _ _ _ h) (SAt.keep t7 _ _ _ sa), ?_, ?_, ?_, ?_, n1, n2, n3, ?_, fun _ => by simp, fun h => absurd h (Nat.succ_ne_zero _), g7, (kk'.trans k6).newer hkd⟩
            · intro s' hs'
              rcases List.mem_append.mp hs' with h | h
              · exact ok s' h
              · rw [List.mem_singleton.mp h]
                exact so
            · simp only [List.map_append, List.sum_append, List.map_cons, List.map_nil, List.sum_cons, List.sum_nil]
              omega
            · simp only [List.map_append, List.sum_append, List.map_cons, List.map_nil, List.sum_cons, List.sum_nil]
              omega
            · simp only [List.map_append, List.sum_append, List.map_cons, List.map_nil, List.sum_cons, List.sum_nil]
              omega
            · simp only [List.length_append, List.length_cons, List.length_nil]
              omega
        · simp only [Bool.and_eq_false_iff, decide_eq_false_iff_not] at cc
          refine ⟨ks, vs, x', y', z', _, rfl, ekd, pk, ok, s1, s2, s3, p1, p2, p3, by omega, fun _ => pos ?_, fun h => absurd h (Nat.succ_ne_zero _), g', kk'⟩
          by_cases hk0 : k = 0
          · have := ini hk0
            omega
          · omega
      · rintro σ H' ⟨ks, vs, x', y', z', v10, rfl, ekd, pk, ok, s1, s2, s3, p1, p2, p3, len, pos, ini, g', kk'⟩
        have hm := Int.emod_nonneg way (show (2 : Int) ≠ 0 by decide)
        have hm2 := Int.emod_lt_of_pos way (show (0 : Int) < 2 by decide)
        refine ⟨sz2, fun T hT => ?_⟩
        have gT := g'.new (o := .lst [.str "all", .str "best"]) hT
        refine ⟨_, rfl, _, _, rfl, rfl, (by show (0 : Int) < 2; decide), T, _, way % 2, _, rfl, rfl, SqL.of upd_same, pick_name hm hm2, ?_⟩
        have nkT : kd ≠ T := ne_of_none ekd hT
        have ekT : upd H' T (.lst [.str "all", .str "best"]) kd = some (.lst vs) := by rw [upd_ne nkT]; exact ekd
        refine ⟨_, rfl, kd, vs, rfl, .inl ⟨SqL.of ekT, fun t ht => ?_⟩⟩
        have gt := gT.new (o := .tup vs) ht
        refine ⟨sz2, fun p hp => ?_⟩
        have tt : TupK H' (upd (upd (upd H' T (.lst [.str "all", .str "best"])) t (.tup vs)) p (.tup [.str (if way % 2 = 0 then "all" else "best"), .ref t])) := (TupK.new hT).trans ((TupK.new ht).trans (TupK.new hp))
        have gp := gt.new (o := .tup [.str (if way % 2 = 0 then "all" else "best"), .ref t]) hp
        have kp : Keep [b, l, m] H (upd (upd (upd H' T (.lst [.str "all", .str "best"])) t (.tup vs)) p (.tup [.str (if way % 2 = 0 then "all" else "best"), .ref t])) := kk4.trans (kk'.trans ((Keep.new hT).trans ((Keep.new ht).trans (Keep.new hp))))
        have et : (upd (upd (upd H' T (.lst [.str "all", .str "best"])) t (.tup vs)) p (.tup [.str (if way % 2 = 0 then "all" else "best"), .ref t])) t = some (.tup vs) := by rw [upd_ne (ne_of_none upd_same hp)]; exact upd_same
        have pk' := paired_imp pk fun s' v' h => SAt.keep tt _ _ _ h
        have hlen : 0 < ks.length ∧ ks.length ≤ 4 := ⟨pos (by omega), by omega⟩
        by_cases hw2 : way % 2 = 0
        · refine q _ (.all ks) _ x' y' z' ⟨p, t, vs, rfl, by rw [upd_same, if_pos hw2], et, pk'⟩ ⟨hlen.1, hlen.2, ok⟩ ?_ ?_ ?_ p1 p2 p3 gp.left gp.box kp
          · show 1 + (ks.map (sz (d' + 1))).sum = x - x'
            omega
          · exact s2
          · exact s3
        · refine q _ (.best ks) _ x' y' z' ⟨p, t, vs, rfl, by rw [upd_same, if_neg hw2], et, pk'⟩ ⟨hlen.1, hlen.2, ok⟩ ?_ ?_ ?_ p1 p2 p3 gp.left gp.box kp
          · show 1 + (ks.map (sz (d' + 1))).sum = x - x'
            omega
          · exact s2
          · exact s3
    have hm := Int.emod_nonneg way (show (2 : Int) ≠ 0 by decide)
    have hm2 := Int.emod_lt_of_pos way (show (0 : Int) < 2 by decide)
    refine seq_if (b := decide (way < 12) && decide (0 < z)) (ev_and (fun Q q => ⟨_, rfl, _, _, rfl, rfl, _, rfl, q⟩) (fun Q q => ⟨_, rfl, m, _, 2, .int z, rfl, rfl, SqL.of g4.left, at2, _, _, rfl, rfl, _, rfl, q⟩)) (fun cc => ?_) (fun c12 => ?_)
    · -- seen, behind
      simp only [Bool.and_eq_true, decide_eq_true_eq] at cc
      refine ⟨_, rfl, m, _, 2, .int z, rfl, rfl, SqL.of g4.left, at2, _, _, rfl, rfl, _, rfl, m, _, 2, 2, rfl, rfl, g4.left, rfl, ?_⟩
      have g5 : GenAt i M ce cw (upd H4 m (.lst [.int (x - 1), .int y, .int (z - 1)])) b l L m u F (x - 1) y (z - 1) := g4.put
      refine ⟨sz2, fun T hT => ?_⟩
      have g6 := g5.new (o := .lst [.str "seen", .str "behind"]) hT
      refine ⟨_, rfl, _, _, rfl, rfl, (by show (0 : Int) < 2; decide), T, _, way % 2, _, rfl, rfl, SqL.of upd_same, pick_name hm hm2, ?_⟩
      refine ⟨_, rfl, _, rfl, _, rfl, _, rfl, _, rfl, _, _, rfl, rfl, _, rfl, b, l, L, m, u, F, x - 1, y, z - 1, by rw [← recE] <;> rfl, g6, by omega, by omega, by omega, fun v s H6 x2 y2 z2 sa so q1 q2 q3 n1 n2 n3 el B6 k6 => ?_⟩
      have g7 := g6.move k6 B6 el
      refine ⟨(by show 3 ≤ sizeLine; decide), fun p hp => ?_⟩
      have tp : TupK H6 (upd H6 p (.tup [.str (if way % 2 = 0 then "seen" else "behind"), .str wd, v])) := TupK.new hp
      have g8 := g7.new (o := .tup [.str (if way % 2 = 0 then "seen" else "behind"), .str wd, v]) hp
      have kp : Keep [b, l, m] H (upd H6 p (.tup [.str (if way % 2 = 0 then "seen" else "behind"), .str wd, v])) := kk4.trans ((Keep.put (by simp)).trans ((Keep.new hT).trans (k6.trans (Keep.new hp))))
      by_cases hw2 : way % 2 = 0
      · refine q _ (.seen wd s) _ x2 y2 z2 ⟨p, v, rfl, by rw [upd_same, if_pos hw2], SAt.keep tp _ _ _ sa⟩ ⟨hw, so⟩ ?_ ?_ ?_ n1 n2 n3 g8.left g8.box kp
        · show 1 + sz (d' + 1) s = x - x2
          omega
        · exact q2
        · show 1 + wr cw (d' + 1) s = z - z2
          omega
      · refine q _ (.behind wd s) _ x2 y2 z2 ⟨p, v, rfl, by rw [upd_same, if_neg hw2], SAt.keep tp _ _ _ sa⟩ ⟨hw, so⟩ ?_ ?_ ?_ n1 n2 n3 g8.left g8.box kp
        · show 1 + sz (d' + 1) s = x - x2
          omega
        · exact q2
        · show 1 + wr cw (d' + 1) s = z - z2
          omega
    refine seq_if (b := decide (way = 12) && decide (1 < y)) (ev_and (fun Q q => ⟨_, rfl, rfl, _, rfl, by rw [dec_int]; exact q⟩) (fun Q q => ⟨_, rfl, m, _, 1, .int y, rfl, rfl, SqL.of g4.left, at1, _, _, rfl, rfl, _, rfl, q⟩)) (fun cc => ?_) (fun c13 => ?_)
    · -- end
      simp only [Bool.and_eq_true, decide_eq_true_eq] at cc
      refine ⟨_, rfl, m, _, 1, .int y, rfl, rfl, SqL.of g4.left, at1, _, _, rfl, rfl, _, rfl, m, _, 1, 1, rfl, rfl, g4.left, rfl, ?_⟩
      have g5 : GenAt i M ce cw (upd H4 m (.lst [.int (x - 1), .int (y - 1), .int z])) b l L m u F (x - 1) (y - 1) z := g4.put
      refine ⟨_, rfl, _, rfl, b, l, 9, rfl, by decide, by decide, g5.box, fun r H5 d0 d1 B5 k5 => ?_⟩
      have g6 := g5.draw k5 B5
      refine ⟨_, _, rfl, rfl, ?_⟩
      refine ⟨_, rfl, _, rfl, _, rfl, _, rfl, _, _, rfl, rfl, _, rfl, b, l, L, m, u, F, x - 1, y - 1, z, by rw [← recE] <;> rfl, g6, by omega, by omega, hz, fun v s H6 x2 y2 z2 sa so q1 q2 q3 n1 n2 n3 el B6 k6 => ?_⟩
      have g7 := g6.move k6 B6 el
      refine ⟨(by show 4 ≤ sizeLine; decide), fun p hp => ?_⟩
      have g8 := g7.new (o := .tup [.str "end", .str wd, .int (1 + r), v]) hp
      refine q _ (.fin wd (1 + r) s) _ x2 y2 z2 ⟨p, v, rfl, upd_same, SAt.keep (TupK.new hp) _ _ _ sa⟩ ⟨⟨hw, by omega, by omega⟩, so⟩ ?_ ?_ q3 n1 n2 n3 g8.left g8.box (kk4.trans ((Keep.put (by simp)).trans ((k3 k5).trans (k6.trans (Keep.new hp)))))
      · show 1 + sz (d' + 1) s = x - x2
        omega
      · show 1 + er ce (d' + 1) s = y - y2
        omega
    refine seq_if (b := decide (way = 13)) (fun Q q => ⟨_, rfl, rfl, _, rfl, by rw [dec_int]; exact q⟩) (fun _ => ?_) (fun _ => ?_)
    · -- most
      refine ⟨_, rfl, (by show 3 ≤ sizeLine; decide), fun T hT => ?_⟩
      have g5 := g4.new (o := .lst [.int 4, .int 12, .int 31]) hT
      refine ⟨_, rfl, b, l, 3, rfl, by decide, by decide, g5.box, fun r H5 d0 d1 B5 k5 => ?_⟩
      have g6 := g5.draw k5 B5
      have eT := k5 _ _ upd_same (g4.box.nin hT)
      obtain ⟨mm, em, mb⟩ : ∃ mm : Int, atI [V.int 4, V.int 12, V.int 31] r = some (.int mm) ∧ (0 < mm ∧ mm ≤ 31) := by
        have e : r = 0 ∨ r = 1 ∨ r = 2 := by omega
        rcases e with rfl | rfl | rfl
        · exact ⟨4, at0, by decide⟩
        · exact ⟨12, at1, by decide⟩
        · exact ⟨31, at2, by decide⟩
      refine ⟨T, _, r, .int mm, rfl, rfl, SqL.of eT, em, b, l, mm, rfl, mb.1, by omega, g6.box, fun r2 H6 f0 f1 B6 k6 => ?_⟩
      have g7 := g6.draw k6 B6
      refine ⟨_, rfl, _, rfl, _, rfl, _, rfl, _, _, rfl, rfl, _, rfl, b, l, L, m, u, F, x - 1, y, z, by rw [← recE] <;> rfl, g7, by omega, by omega, hz, fun v s H7 x2 y2 z2 sa so q1 q2 q3 n1 n2 n3 el B7 k7 => ?_⟩
      have g8 := g7.move k7 B7 el
      refine ⟨(by show 3 ≤ sizeLine; decide), fun p hp => ?_⟩
      have g9 := g8.new (o := .tup [.str "most", .int r2, v]) hp
      refine q _ (.most r2 s) _ x2 y2 z2 ⟨p, v, rfl, upd_same, SAt.keep (TupK.new hp) _ _ _ sa⟩ ⟨⟨f0, by omega⟩, so⟩ ?_ q2 q3 n1 n2 n3 g9.left g9.box (kk4.trans ((Keep.new hT).trans ((k3 (k5.trans k6)).trans (k7.trans (Keep.new hp)))))
      show 1 + sz (d' + 1) s = x - x2
      omega
    -- half, carry
    refine ⟨sz2, fun T hT => ?_⟩
    have g6 := g4.new (o := .lst [.str "half", .str "carry"]) hT
    refine ⟨_, rfl, _, _, rfl, rfl, (by show (0 : Int) < 2; decide), T, _, way % 2, _, rfl, rfl, SqL.of upd_same, pick_name hm hm2, ?_⟩
    refine ⟨_, rfl, _, rfl, _, rfl, _, rfl, _, _, rfl, rfl, _, rfl, b, l, L, m, u, F, x - 1, y, z, by rw [← recE] <;> rfl, g6, by omega, by omega, hz, fun v s H6 x2 y2 z2 sa so q1 q2 q3 n1 n2 n3 el B6 k6 => ?_⟩
    have g7 := g6.move k6 B6 el
    refine ⟨sz2, fun p hp => ?_⟩
    have tp : TupK H6 (upd H6 p (.tup [.str (if way % 2 = 0 then "half" else "carry"), v])) := TupK.new hp
    have g8 := g7.new (o := .tup [.str (if way % 2 = 0 then "half" else "carry"), v]) hp
    have kp : Keep [b, l, m] H (upd H6 p (.tup [.str (if way % 2 = 0 then "half" else "carry"), v])) := kk4.trans ((Keep.new hT).trans (k6.trans (Keep.new hp)))
    by_cases hw2 : way % 2 = 0
    · refine q _ (.half s) _ x2 y2 z2 ⟨p, v, rfl, by rw [upd_same, if_pos hw2], SAt.keep tp _ _ _ sa⟩ so ?_ q2 q3 n1 n2 n3 g8.left g8.box kp
      show 1 + sz (d' + 1) s = x - x2
      omega
    · refine q _ (.carry s) _ x2 y2 z2 ⟨p, v, rfl, by rw [upd_same, if_neg hw2], SAt.keep tp _ _ _ sa⟩ so ?_ q2 q3 n1 n2 n3 g8.left g8.box kp
      show 1 + sz (d' + 1) s = x - x2
      omega
  · -- a use
    intro _ rest
    obtain ⟨js, uv, eu, jl, jr, pu⟩ := g3.uses
    have gu : UAt H3 i M ce cw u := ⟨js, uv, eu, jl, jr, pu⟩
    have ul := Paired.length pu
    refine ⟨_, rfl, u, rfl, ⟨_, SqL.of eu⟩, fun Dd hD => ?_⟩
    have nuD : u ≠ Dd := ne_of_none eu hD
    refine lc_list (K := K) (a := u) (xs := uv) (fun k H'' => ∃ (js' : List Nat) (vs' : List V), H'' = upd H3 Dd (.lst vs') ∧ js'.length ≤ k ∧ (∀ j ∈ js', j ∈ js ∧ ce j ≤ y ∧ cw j ≤ z) ∧ Paired (fun j v => ∃ t, v = V.ref t ∧ H3 t = some (.tup [.int ((j : Nat) : Int), .int (ce j), .int (cw j)])) js' vs')
      ⟨[], [], rfl, Nat.le_refl _, (fun _ h => nomatch h), .nil⟩ (fun k H'' _ ⟨_, _, e, _⟩ => by rw [e]; exact SqL.of (by rw [upd_ne nuD]; exact eu)) ?_ ?_
    · rintro k xk H'' hk ⟨js', vs', rfl, l', sub, pu'⟩
      obtain ⟨j, ej, t, rfl, et⟩ := paired_get' pu hk
      have et' : upd H3 Dd (.lst vs') t = some (.tup [.int ((j : Nat) : Int), .int (ce j), .int (cw j)]) := by rw [upd_ne (ne_of_none et hD)]; exact et
      have em : upd H3 Dd (.lst vs') m = some (.lst [.int (x - 1), .int y, .int z]) := (g3.new hD).left
      refine ⟨rfl, ev_and (b := decide (ce j ≤ y)) (c := decide (cw j ≤ z)) (fun Q q => ⟨_, rfl, t, _, 1, .int (ce j), rfl, rfl, SqT.of et', at1, _, rfl, m, _, 1, .int y, rfl, rfl, SqL.of em, at1, _, _, rfl, rfl, _, rfl, q⟩)
        (fun Q q => ⟨_, rfl, t, _, 2, .int (cw j), rfl, rfl, SqT.of et', at2, _, rfl, m, _, 2, .int z, rfl, rfl, SqL.of em, at2, _, _, rfl, rfl, _, rfl, q⟩) _ ?_⟩
      have lv := Paired.length pu'
      have hkl := (List.getElem?_eq_some_iff.mp hk).1
      refine ite2 (fun c => ?_) (fun c => ?_)
      · simp only [Bool.and_eq_true, decide_eq_true_eq] at c
        refine ⟨_, rfl, vs', upd_same, small1000 (by omega), js' ++ [j], vs' ++ [.ref t], upd_upd, by simp only [List.length_append, List.length_cons, List.length_nil]; omega, fun j' hj' => ?_, paired_snoc pu' ⟨t, rfl, et⟩⟩
        rcases List.mem_append.mp hj' with h | h
        · exact sub j' h
        · rw [List.mem_singleton.mp h]
          exact ⟨List.mem_of_getElem? ej, c⟩
      · exact ⟨js', vs', rfl, by omega, sub, pu'⟩
    · rintro H'' ⟨js', vs', rfl, l', sub, pu'⟩
      have lv := Paired.length pu'
      have g4 := g3.new (o := .lst vs') hD
      have kk4 : Keep [b, l, m] H (upd H3 Dd (.lst vs')) := kk3.trans (Keep.new hD)
      dsimp only [gName]
      refine ⟨_, rfl, Nat.zero_le _, fun p hp => ?_⟩
      have g5 := g4.new (o := .lst []) hp
      have nDp : Dd ≠ p := ne_of_none upd_same hp
      have eD : upd (upd H3 Dd (.lst vs')) p (.lst []) Dd = some (.lst vs') := by rw [upd_ne nDp]; exact upd_same
      have kk5 : Keep [b, l, m] H (upd (upd H3 Dd (.lst vs')) p (.lst [])) := kk4.trans (Keep.new hp)
      have tk5 : TupK H3 (upd (upd H3 Dd (.lst vs')) p (.lst [])) := (TupK.new hD).trans (TupK.new hp)
      have pu5 : Paired (fun (j : Nat) (v : V) => ∃ t, v = V.ref t ∧ (upd (upd H3 Dd (.lst vs')) p (.lst [])) t = some (HO.tup [.int ((j : Nat) : Int), .int (ce j), .int (cw j)])) js' vs' := paired_imp pu' fun j v ⟨t, e1, e2⟩ => ⟨t, e1, tk5 _ _ e2⟩
      have dp : ∀ {js' : List Nat} {vs' : List V} {Hx : Hp}, Paired (fun j v => ∃ t, v = V.ref t ∧ Hx t = some (.tup [.int ((j : Nat) : Int), .int (ce j), .int (cw j)])) js' vs' → DpAll K Hx vs' (js'.map fun j => .tuple [.int ((j : Nat) : Int), .int (ce j), .int (cw j)]) := by
        intro js' vs' Hx h
        induction h with
        | nil => exact .nil
        | cons h1 _ ih =>
          obtain ⟨t, rfl, e⟩ := h1
          exact .cons (.tup (SqT.of e) (.cons (.int _) (.cons (.int _) (.cons (.int _) .nil)))) ih
      refine ⟨.list (js'.map fun j => .tuple [.int ((j : Nat) : Int), .int (ce j), .int (cw j)]), .list [], .lst (SqL.of eD) (dp pu5), .lst (SqL.of upd_same) .nil, (ShN.lst (n := 1) (ShAll.of fun dd h => ?_)).ok (by decide), rfl, _, rfl, ?_⟩
      · obtain ⟨j, _, rfl⟩ := List.mem_map.mp h
        exact ShN.tup (.cons (.int _) (.cons (.int _) (.cons (.int _) .nil)))
      refine ite2 (fun c => ?_) (fun c => ?_)
      · have hne : 0 < vs'.length := by
          cases js' with
          | nil => exact absurd c (by simp [PyData.eqv, PyData.eqvAll])
          | cons a r => rw [← lv]; exact Nat.succ_pos _
        refine ⟨_, rfl, _, rfl, _, rfl, Dd, _, rfl, .inl (SqL.of eD), b, l, _, rfl, by omega, by omega, g5.box, fun r H6 a0 a1 B6 k6 => ?_⟩
        have g6 := g5.draw k6 B6
        have eD6 := k6 _ _ eD (g3.box.nin hD)
        have hr' : r.toNat < vs'.length := by omega
        have ev : vs'[r.toNat]? = some (vs'[r.toNat]'hr') := List.getElem?_eq_getElem hr'
        obtain ⟨j, ej, t, et0, et⟩ := paired_get' pu5 ev
        have ht6 := g5.tup (k3 k6) _ _ et
        refine ⟨Dd, _, r, .ref t, rfl, rfl, SqL.of eD6, atI_of a0 (by rw [ev, et0]), ?_⟩
        obtain ⟨jin, j1, j2⟩ := sub j (List.mem_of_getElem? ej)
        refine ⟨_, rfl, m, _, 1, .int y, rfl, rfl, SqL.of g6.left, at1, _, rfl, t, _, 1, .int (ce j), rfl, rfl, SqT.of ht6, at1, _, _, rfl, rfl, ?_⟩
        refine ⟨_, rfl, m, _, 2, .int z, rfl, rfl, SqL.of g6.left, at2, _, rfl, t, _, 2, .int (cw j), rfl, rfl, SqT.of ht6, at2, _, _, rfl, rfl, ?_⟩
        refine ⟨sz2, fun T hT => ?_⟩
        have g7 := g6.new (o := .tup [.int (y - ce j), .int (z - cw j)]) hT
        refine ⟨T, _, rfl, SqT.of upd_same, rfl, _, _, rfl, _, rfl, m, _, 1, 1, rfl, rfl, g7.left, rfl, _, _, rfl, _, rfl, m, _, 2, 2, rfl, rfl, upd_same, rfl, rfl, ?_⟩
        have g7a : GenAt i M ce cw (upd (upd H6 T (.tup [.int (y - ce j), .int (z - cw j)])) m (.lst [.int (x - 1), .int (y - ce j), .int z])) b l L m u F (x - 1) (y - ce j) z := g7.put
        have g8 : GenAt i M ce cw (upd (upd (upd H6 T (.tup [.int (y - ce j), .int (z - cw j)])) m (.lst [.int (x - 1), .int (y - ce j), .int z])) m (.lst [.int (x - 1), .int (y - ce j), .int (z - cw j)])) b l L m u F (x - 1) (y - ce j) (z - cw j) := g7a.put
        have ht8 : (upd (upd (upd H6 T (.tup [.int (y - ce j), .int (z - cw j)])) m (.lst [.int (x - 1), .int (y - ce j), .int z])) m (.lst [.int (x - 1), .int (y - ce j), .int (z - cw j)])) t = some (.tup [.int ((j : Nat) : Int), .int (ce j), .int (cw j)]) := (TupK.put g7a.left) _ _ ((TupK.put g7.left) _ _ ((TupK.new hT) _ _ ht6))
        refine ⟨_, rfl, t, _, 0, .int ((j : Nat) : Int), rfl, rfl, SqT.of ht8, at0, sz2, fun p2 hp2 => ?_⟩
        have g9 := g8.new (o := .tup [.str "use", .int ((j : Nat) : Int)]) hp2
        refine q _ (.use j) _ (x - 1) (y - ce j) (z - cw j) ⟨p2, rfl, upd_same⟩ (jr j jin) ?_ ?_ ?_ (by omega) (by omega) (by omega) g9.left g9.box (kk5.trans ((k3 k6).trans ((Keep.new hT).trans ((Keep.put (by simp)).trans ((Keep.put (by simp)).trans (Keep.new hp2))))))
        · show (1 : Int) = x - (x - 1)
          omega
        · show ce j = y - (y - ce j)
          omega
        · show cw j = z - (z - cw j)
          omega
      · exact rest _ _ ⟨none, some (.ref Dd), rfl, g5, kk5⟩
end
end MS
end
section
set_option maxRecDepth 100000
set_option maxHeartbeats 4000000
namespace MS
open PySem L2
/-- two values are of the same kinds, and the same -/
def Alk (H : Hp) : Nat → V → V → Prop
  | 0, x, y => (∃ i : Int, x = .int i ∧ y = .int i) ∨ (∃ z : Str, x = .str z ∧ y = .str z) ∨ (∃ b : Bool, x = .bl b ∧ y = .bl b) ∨ (x = .non ∧ y = .non)
  | n + 1, x, y => Alk H n x y ∨ ∃ (a b : Addr) (xs ys : List V), x = .ref a ∧ y = .ref b ∧ ((H a = some (.lst xs) ∧ H b = some (.lst ys)) ∨ (H a = some (.tup xs) ∧ H b = some (.tup ys))) ∧ xs.length ≤ 6000 ∧ Paired (Alk H n) xs ys
theorem Alk.keep {H H' : Hp} (k : Same H H') : ∀ (n : Nat) (x y : V), Alk H n x y → Alk H' n x y
  | 0, _, _, h => h
  | n + 1, x, y, .inl h => .inl (Alk.keep k n x y h)
  | n + 1, x, y, .inr ⟨a, b, xs, ys, e1, e2, h, l, p⟩ => .inr ⟨a, b, xs, ys, e1, e2, by
      rcases h with ⟨h1, h2⟩ | ⟨h1, h2⟩
      · exact .inl ⟨k _ _ h1, k _ _ h2⟩
      · exact .inr ⟨k _ _ h1, k _ _ h2⟩, l, paired_imp p fun x y => Alk.keep k n x y⟩
def spAlike (n : Nat) : Sp := fun vs H Q _ => ∃ x y, vs = [x, y] ∧ Alk H n x y ∧ ∀ H', Same H H' → Q (.bl true) H'
theorem Alk.up {H : Hp} {n : Nat} {x y : V} (h : Alk H n x y) : Alk H (n + 1) x y := .inl h
theorem Alk.kind {H : Hp} : ∀ {n : Nat} {x y : V}, Alk H n x y → (∃ i : Int, x = .int i ∧ y = .int i) ∨ (∃ z : Str, x = .str z ∧ y = .str z) ∨ (∃ b : Bool, x = .bl b ∧ y = .bl b) ∨ (x = .non ∧ y = .non) ∨ ∃ (m : Nat) (a b : Addr) (xs ys : List V), n = m + 1 ∧ x = .ref a ∧ y = .ref b ∧ ((H a = some (.lst xs) ∧ H b = some (.lst ys)) ∨ (H a = some (.tup xs) ∧ H b = some (.tup ys))) ∧ xs.length ≤ 6000 ∧ Paired (Alk H m) xs ys
  | 0, _, _, .inl h => .inl h
  | 0, _, _, .inr (.inl h) => .inr (.inl h)
  | 0, _, _, .inr (.inr (.inl h)) => .inr (.inr (.inl h))
  | 0, _, _, .inr (.inr (.inr h)) => .inr (.inr (.inr (.inl h)))
  | n + 1, x, y, .inl h => by
    rcases Alk.kind h with h1 | h1 | h1 | h1 | ⟨m, a, b, xs, ys, e, e1, e2, h1, l, p⟩
    · exact .inl h1
    · exact .inr (.inl h1)
    · exact .inr (.inr (.inl h1))
    · exact .inr (.inr (.inr (.inl h1)))
    · subst e
      exact .inr (.inr (.inr (.inr ⟨m + 1, a, b, xs, ys, rfl, e1, e2, h1, l, paired_imp p fun _ _ z => z.up⟩)))
  | n + 1, x, y, .inr ⟨a, b, xs, ys, e1, e2, h, l, p⟩ => .inr (.inr (.inr (.inr ⟨n, a, b, xs, ys, rfl, e1, e2, h, l, p⟩)))
theorem one_to {tc : TT} {t u : TS} {D : Ends} {σ : St} {H : Hp} {b : Bool} (h : ∀ Q : Bool → Hp → Prop, (∀ H', Same H H' → Q b H') → tc σ H Q) (k1 : b = true → ∀ H', Same H H' → t D σ H') (k2 : b = false → ∀ H', Same H H' → u D σ H') : tIfS tc t u D σ H := h _ fun H' s => by
  cases b with
  | true => exact iteT (k1 rfl H' s)
  | false => exact iteF (k2 rfl H' s)
section
variable {P : Program} {w : World} {K : PySem.W.Frag} {mg : Str → Option Value} {base : Heap}
abbrev psAlike : List Str := ["_law_found", "_law_due"]
theorem alike_turn {n : Nat} {sp' : Sp} (D : Def K mg "_law_alike" s_L_alike psAlike) (mis : mg "isinstance" = none) (mb : mg "bool" = none) (mi : mg "int" = none) (ms : mg "str" = none) (mt : mg "tuple" = none) (mli : mg "list" = none) (ml : mg "len" = none) (mr : mg "range" = none)
    (G : FnOk P w K mg base CX0 n D.f D.fd psAlike sp') (hs : ∀ n', n = n' + 1 → sp' = spAlike n') : FnOk P w K mg base CX0 (n + 1) D.f D.fd psAlike (spAlike n) := by
  have nd := sc_L_alike.nd
  refine D.ok sc_L_alike (fun vs H Q E h => ?_) (fun cdv A outer s H vs Q E hr h => ?_)
  · obtain ⟨x, y, rfl, _⟩ := h
    rfl
  obtain ⟨x, y, rfl, hxy, q⟩ := h
  refine ⟨_, pss_cons (ps_if (pt_cmpR op_isN (pv 1) pe_non (nomark _)) (pss_one (ps_ret (pe_cmpR op_isN (pv 0) pe_non (by rfl)))) pss_nil)
    (pss_cons (ps_if (pt_val (pe_callB call_isi rfl mis (by decide +kernel) (pa_cons (pv 1) (pa_cons (pe_bltn rfl mb (by decide +kernel) (v := .ty "bool") rfl) pa_nil)))) (pss_one (ps_ret (pe_and (pe_callB call_isi rfl mis (by decide +kernel) (pa_cons (pv 0) (pa_cons (pe_bltn rfl mb (by decide +kernel) (v := .ty "bool") rfl) pa_nil))) (pe_one (pe_cmpR op_eq (pv 0) (pv 1) (nomark _)))))) pss_nil)
    (pss_cons (ps_if (pt_val (pe_callB call_isi rfl mis (by decide +kernel) (pa_cons (pv 1) (pa_cons (pe_bltn rfl mi (by decide +kernel) (v := .ty "int") rfl) pa_nil)))) (pss_one (ps_ret (pe_and (pe_callB call_isi rfl mis (by decide +kernel) (pa_cons (pv 0) (pa_cons (pe_bltn rfl mi (by decide +kernel) (v := .ty "int") rfl) pa_nil)))
        (pe_and (pe_not (pe_callB call_isi rfl mis (by decide +kernel) (pa_cons (pv 0) (pa_cons (pe_bltn rfl mb (by decide +kernel) (v := .ty "bool") rfl) pa_nil)))) (pe_one (pe_cmpR op_eq (pv 0) (pv 1) (nomark _))))))) pss_nil)
    (pss_cons (ps_if (pt_val (pe_callB call_isi rfl mis (by decide +kernel) (pa_cons (pv 1) (pa_cons (pe_bltn rfl ms (by decide +kernel) (v := .ty "str") rfl) pa_nil)))) (pss_one (ps_ret (pe_and (pe_callB call_isi rfl mis (by decide +kernel) (pa_cons (pv 0) (pa_cons (pe_bltn rfl ms (by decide +kernel) (v := .ty "str") rfl) pa_nil))) (pe_one (pe_cmpR op_eq (pv 0) (pv 1) (nomark _)))))) pss_nil)
    (pss_cons (ps_if (PW.pt (pw_or (pt_cmpR op_ne (pe_callB call_isi rfl mis (by decide +kernel) (pa_cons (pv 1) (pa_cons (pe_bltn rfl mt (by decide +kernel) (v := .ty "tuple") rfl) pa_nil))) (pe_callB call_isi rfl mis (by decide +kernel) (pa_cons (pv 0) (pa_cons (pe_bltn rfl mt (by decide +kernel) (v := .ty "tuple") rfl) pa_nil))) (nomark _))
        (pw_or1 (pt_cmpR op_ne (pe_callB call_isi rfl mis (by decide +kernel) (pa_cons (pv 1) (pa_cons (pe_bltn rfl mli (by decide +kernel) (v := .ty "list") rfl) pa_nil))) (pe_callB call_isi rfl mis (by decide +kernel) (pa_cons (pv 0) (pa_cons (pe_bltn rfl mli (by decide +kernel) (v := .ty "list") rfl) pa_nil))) (nomark _))))) (pss_one (ps_ret pe_bl)) pss_nil)
    (pss_cons (ps_if (pt_cmpR op_ne (pe_callB call_len_seq rfl ml PySem.boot_len (pa_cons (pv 0) pa_nil)) (pe_callB call_len_seq rfl ml PySem.boot_len (pa_cons (pv 1) pa_nil)) (nomark _)) (pss_one (ps_ret pe_bl)) pss_nil)
    (pss_cons (ps_for PassesOwn.never rfl (pi_range1 rfl mr (pa_cons (pe_callB call_len_seq rfl ml PySem.boot_len (pa_cons (pv 1) pa_nil)) pa_nil)) (pg_name (i := 2) nd rfl (Or.inl rfl))
      (pss_one (ps_if (pt_not (pt_val (pcall D G hr (pa_cons (pe_ix ix_seq (pv 0) (pv 2) (fun _ _ => rfl)) (pa_cons (pe_ix ix_seq (pv 1) (pv 2) (fun _ _ => rfl)) pa_nil))))) (pss_one (ps_ret pe_bl)) pss_nil)))
    (pss_one (ps_ret pe_bl)))))))), ?_⟩
  have qq : ∀ b : Bool, b = true → Q (.bl b) H := fun b e => by
    subst e
    exact q H (Same.refl _)
  rcases hxy.kind with ⟨i, rfl, rfl⟩ | ⟨z, rfl, rfl⟩ | ⟨bb, rfl, rfl⟩ | ⟨rfl, rfl⟩ | ⟨m, a, b, xs, ys, rfl, rfl, rfl, hab, hl, hp⟩
  · refine seq_if (b := false) (fun Q q => ⟨_, rfl, rfl, _, rfl, by rw [decide_eq_false (fun z => nomatch z)]; exact q⟩) (fun z => nomatch z) (fun _ => ?_)
    refine seq_if (b := false) (fun Q q => ⟨_, rfl, _, .ty "bool", .type "int", .type "bool", false, rfl, .ty _, .base (.int i), kit_ty (by decide +kernel), _, rfl, q⟩) (fun z => nomatch z) (fun _ => ?_)
    refine seq_if (b := true) (fun Q q => ⟨_, rfl, _, .ty "int", .type "int", .type "int", true, rfl, .ty _, .base (.int i), kit_ty (by decide +kernel), _, rfl, q⟩) (fun _ => ?_) (fun z => nomatch z)
    exact ⟨_, rfl, _, .ty "int", .type "int", .type "int", true, rfl, .ty _, .base (.int i), kit_ty (by decide +kernel), _, rfl, _, rfl, _, .ty "bool", .type "int", .type "bool", false, rfl, .ty _, .base (.int i), kit_ty (by decide +kernel), _, rfl, _, rfl, _, rfl, _, rfl, rfl, qq _ (decide_eq_true rfl)⟩
  · refine seq_if (b := false) (fun Q q => ⟨_, rfl, rfl, _, rfl, by rw [decide_eq_false (fun z => nomatch z)]; exact q⟩) (fun z => nomatch z) (fun _ => ?_)
    refine seq_if (b := false) (fun Q q => ⟨_, rfl, _, .ty "bool", .type "str", .type "bool", false, rfl, .ty _, .base (.str z), kit_ty (by decide +kernel), _, rfl, q⟩) (fun z => nomatch z) (fun _ => ?_)
    refine seq_if (b := false) (fun Q q => ⟨_, rfl, _, .ty "int", .type "str", .type "int", false, rfl, .ty _, .base (.str z), kit_ty (by decide +kernel), _, rfl, q⟩) (fun z => nomatch z) (fun _ => ?_)
    refine seq_if (b := true) (fun Q q => ⟨_, rfl, _, .ty "str", .type "str", .type "str", true, rfl, .ty _, .base (.str z), kit_ty (by decide +kernel), _, rfl, q⟩) (fun _ => ?_) (fun z => nomatch z)
    exact ⟨_, rfl, _, .ty "str", .type "str", .type "str", true, rfl, .ty _, .base (.str z), kit_ty (by decide +kernel), _, rfl, _, rfl, _, rfl, rfl, qq _ (decide_eq_true rfl)⟩
  · refine seq_if (b := false) (fun Q q => ⟨_, rfl, rfl, _, rfl, by rw [decide_eq_false (fun z => nomatch z)]; exact q⟩) (fun z => nomatch z) (fun _ => ?_)
    refine seq_if (b := true) (fun Q q => ⟨_, rfl, _, .ty "bool", .type "bool", .type "bool", true, rfl, .ty _, .base (.bl bb), kit_ty (by decide +kernel), _, rfl, q⟩) (fun _ => ?_) (fun z => nomatch z)
    exact ⟨_, rfl, _, .ty "bool", .type "bool", .type "bool", true, rfl, .ty _, .base (.bl bb), kit_ty (by decide +kernel), _, rfl, _, rfl, _, rfl, rfl, qq _ (decide_eq_true rfl)⟩
  · refine seq_if (b := true) (fun Q q => ⟨_, rfl, rfl, _, rfl, by rw [decide_eq_true rfl]; exact q⟩) (fun _ => ?_) (fun z => nomatch z)
    exact ⟨_, rfl, rfl, qq _ (decide_eq_true rfl)⟩
  · obtain rfl := hs m rfl
    have lxy := Paired.length hp
    obtain ⟨isT, tn, tya, tyb, cT, cL, sa, sb, nb, ni, nsx⟩ : ∃ (isT : Bool) (tn : String), TyX K H (.ref a) (.type tn) ∧ TyX K H (.ref b) (.type tn) ∧ PySem.W.kitOne K (.type tn) (.type "tuple") = some isT ∧ PySem.W.kitOne K (.type tn) (.type "list") = some (!isT) ∧
        (SqL K H a xs ∨ SqT K H a xs) ∧ (SqL K H b ys ∨ SqT K H b ys) ∧ PySem.W.kitOne K (.type tn) (.type "bool") = some false ∧ PySem.W.kitOne K (.type tn) (.type "int") = some false ∧ PySem.W.kitOne K (.type tn) (.type "str") = some false := by
      rcases hab with ⟨h1, h2⟩ | ⟨h1, h2⟩
      · exact ⟨false, "list", .base (.lst h1), .base (.lst h2), kit_ty (by decide +kernel), kit_ty (by decide +kernel), .inl (SqL.of h1), .inl (SqL.of h2), kit_ty (by decide +kernel), kit_ty (by decide +kernel), kit_ty (by decide +kernel)⟩
      · exact ⟨true, "tuple", .base (.tup h1), .base (.tup h2), kit_ty (by decide +kernel), kit_ty (by decide +kernel), .inr (SqT.of h1), .inr (SqT.of h2), kit_ty (by decide +kernel), kit_ty (by decide +kernel), kit_ty (by decide +kernel)⟩
    refine seq_if (b := false) (fun Q q => ⟨_, rfl, rfl, _, rfl, by rw [decide_eq_false (fun z => nomatch z)]; exact q⟩) (fun z => nomatch z) (fun _ => ?_)
    refine seq_if (b := false) (fun Q q => ⟨_, rfl, _, .ty "bool", _, .type "bool", false, rfl, .ty _, tyb, nb, _, rfl, q⟩) (fun z => nomatch z) (fun _ => ?_)
    refine seq_if (b := false) (fun Q q => ⟨_, rfl, _, .ty "int", _, .type "int", false, rfl, .ty _, tyb, ni, _, rfl, q⟩) (fun z => nomatch z) (fun _ => ?_)
    refine seq_if (b := false) (fun Q q => ⟨_, rfl, _, .ty "str", _, .type "str", false, rfl, .ty _, tyb, nsx, _, rfl, q⟩) (fun z => nomatch z) (fun _ => ?_)
    refine seq_if (b := false || false) (ev_or (b := false) (c := false) (fun Q q => ⟨_, rfl, _, .ty "tuple", _, .type "tuple", isT, rfl, .ty _, tyb, cT, _, rfl, _, .ty "tuple", _, .type "tuple", isT, rfl, .ty _, tya, cT, rfl, _, rfl, by rw [decide_eq_true rfl]; exact q⟩)
      (fun Q q => ⟨_, rfl, _, .ty "list", _, .type "list", !isT, rfl, .ty _, tyb, cL, _, rfl, _, .ty "list", _, .type "list", !isT, rfl, .ty _, tya, cL, rfl, _, rfl, by rw [decide_eq_true rfl]; exact q⟩)) (fun z => nomatch z) (fun _ => ?_)
    refine seq_if (b := false) (fun Q q => ⟨_, rfl, a, xs, rfl, sa, _, rfl, b, ys, rfl, sb, rfl, _, rfl, by rw [lxy, decide_eq_true rfl]; exact q⟩) (fun z => nomatch z) (fun _ => ?_)
    refine ⟨_, rfl, b, ys, rfl, sb, _, rfl, by omega, by omega, ?_⟩
    rw [Int.toNat_natCast]
    have ix : ∀ {c : Addr} {zs : List V} {H' : Hp} {j : Nat} {v : V} {Q : VK}, (SqL K H' c zs ∨ SqT K H' c zs) → zs[j]? = some v → Q v H' → rIx K (.ref c) (.int ((j : Nat) : Int)) H' Q := fun h e q => by
      rcases h with h | h
      · exact .inl ⟨_, _, _, _, rfl, rfl, h, atI_nat e, q⟩
      · exact .inr (.inl ⟨_, _, _, _, rfl, rfl, h, atI_nat e, q⟩)
    have seqK : ∀ {c : Addr} {zs : List V} {H' : Hp}, ((H c = some (.lst zs)) ∨ (H c = some (.tup zs))) → Same H H' → (SqL K H' c zs ∨ SqT K H' c zs) := fun h s => by
      rcases h with h | h
      · exact .inl (SqL.of (s _ _ h))
      · exact .inr (SqT.of (s _ _ h))
    have ha' : (H a = some (.lst xs)) ∨ (H a = some (.tup xs)) := hab.imp (·.1) (·.1)
    have hb' : (H b = some (.lst ys)) ∨ (H b = some (.tup ys)) := hab.imp (·.2) (·.2)
    refine for_range (lo := 0) (n := ys.length) (fun j σ H' => ∃ v2 : Option V, σ = [some (.ref a), some (.ref b), v2] ∧ Same H H') ⟨none, rfl, Same.refl _⟩ ?_ ?_
    · rintro j σ H' hj ⟨v2, rfl, s1⟩
      have hjx : j < xs.length := by omega
      have ex : xs[j]? = some (xs[j]'hjx) := List.getElem?_eq_getElem hjx
      obtain ⟨y', ey, hy⟩ : ∃ y', ys[j]? = some y' ∧ Alk H m (xs[j]'hjx) y' := by
        have eyj : ys[j]? = some (ys[j]'hj) := List.getElem?_eq_getElem hj
        obtain ⟨x', ex', hx'⟩ := paired_get' hp eyj
        rw [ex] at ex'
        cases ex'
        exact ⟨_, eyj, hx'⟩
      simp only [Int.zero_add]
      dsimp only [gName]
      refine one_to (b := false) (fun Q q => ⟨_, rfl, _, rfl, ix (seqK ha' s1) ex ⟨_, rfl, _, rfl, ix (seqK hb' s1) ey ⟨_, _, rfl, Alk.keep s1 _ _ _ hy, fun H6 s6 => ⟨_, rfl, q H6 s6⟩⟩⟩⟩) (fun z => nomatch z) (fun _ H6 s6 => ?_)
      exact ⟨_, rfl, s1.trans s6⟩
    · rintro σ H' ⟨v2, rfl, s1⟩
      exact q H' s1
theorem ok_alike (D : Def K mg "_law_alike" s_L_alike psAlike) (mis : mg "isinstance" = none) (mb : mg "bool" = none) (mi : mg "int" = none) (ms : mg "str" = none) (mt : mg "tuple" = none) (mli : mg "list" = none) (ml : mg "len" = none) (mr : mg "range" = none) :
    ∀ n : Nat, FnOk P w K mg base CX0 (n + 1) D.f D.fd psAlike (spAlike n)
  | 0 => alike_turn (sp' := fun _ _ _ _ => False) D mis mb mi ms mt mli ml mr ⟨fun vs H Q E h => h.elim, fun A outer s H args us vs Q E _ _ _ _ h => h.elim⟩ fun n' e => by omega
  | n + 1 => alike_turn (sp' := spAlike n) D mis mb mi ms mt mli ml mr (ok_alike D mis mb mi ms mt mli ml mr n) fun n' e => by
      have e' : n = n' := by omega
      rw [e']
end
end MS
end
section
set_option maxRecDepth 100000
set_option maxHeartbeats 4000000
/-! sorted(set(a list of texts)) -/
namespace SST
open PySem PySem.Spec PyProof.Rows L2
def keyT (e : Int × Value) : Str := match e.2 with | .str k _ => k | _ => Str.empty
def GoodT (P : Program) (w : World) (e : Int × Value) : Prop := ∃ k tk, e.2 = Value.str k tk ∧ e.1 = (PySem.strKind P w).hash k
/-- the set of the texts l at a -/
def SetT (P : Program) (w : World) (h : Heap) (a : Addr) (l : List Str) : Prop :=
  ∃ o es ep t, h.get? a = some o ∧ o.ExactSet ∧ o.data = .set es ep t ∧ (∀ e ∈ es.toList, GoodT P w e) ∧ (es.toList.map keyT).Nodup ∧ (∀ k, k ∈ l ↔ k ∈ es.toList.map keyT) ∧
    es.size ≤ l.length ∧ l.length < scanBound ∧ t.fits es.size = true ∧ Ris t.place.toList ∧ (w.params.followText "set-order" = true ∨ t.led = true)
section
variable {P : Program} {w : World} {h h' : Heap} {a : Addr} {l : List Str}
theorem SetT.at (R : SetT P w h a l) (k : ∀ o, h.get? a = some o → h'.get? a = some o) : SetT P w h' a l := by
  obtain ⟨o, es, ep, t, ho, r⟩ := R
  exact ⟨o, es, ep, t, k o ho, r⟩
theorem good_elems {l : List (Int × Value)} (g : ∀ e ∈ l, GoodT P w e) : ElemsOf (PySem.strKind P w) l := fun e he => by
  obtain ⟨k, tk, h1, h2⟩ := g e he
  exact ⟨⟨k, by rw [h1]; exact strKind_is P w k tk, h2⟩, by rw [h1] <;> rfl⟩
theorem good_is {e : Int × Value} (g : GoodT P w e) (k : Str) : (PySem.strKind P w).is k e.2 = true ↔ keyT e = k := by
  obtain ⟨k0, tk, h1, _⟩ := g
  have hk : keyT e = k0 := by unfold keyT; rw [h1]
  rw [hk, h1]
  constructor
  · intro z
    exact ((PySem.strKind P w).inj (.str k0 tk) k k0 z (strKind_is P w k0 tk)).symm
  · rintro rfl
    exact strKind_is P w k0 tk
theorem good_mem {l : List (Int × Value)} (g : ∀ e ∈ l, GoodT P w e) (k : Str) : k ∈ l.map keyT ↔ ∃ e ∈ l, (PySem.strKind P w).is k e.2 = true := by
  rw [List.mem_map]
  constructor
  · rintro ⟨e, he, q⟩
    exact ⟨e, he, (good_is (g e he) k).2 q⟩
  · rintro ⟨e, he, q⟩
    exact ⟨e, he, (good_is (g e he) k).1 q⟩
end
section
variable {P : Program} {w : World} {A : Around} {E : Value → Shared → Prop} {s : Shared} {a : Addr} {l : List Str}
theorem add_tail {g : Bool → Sem Unit} (hg : ∀ (b : Bool) (s₁ : Shared) (Q' : Unit → Shared → Prop), Q' () s₁ → wpAny (model P w) A (g b) Q' E s₁)
    {o : Obj} {es : Array (Int × Value)} {ep : Nat} {t : SetTable} (ho : s.heap.get? a = some o) (hex : o.ExactSet) (hd : o.data = .set es ep t)
    {es1 : Array (Int × Value)} {t2 : SetTable} {l' : List Str} (g1 : ∀ e ∈ es1.toList, GoodT P w e) (nd1 : (es1.toList.map keyT).Nodup) (m1 : ∀ k, k ∈ l' ↔ k ∈ es1.toList.map keyT)
    (hb1 : es1.size ≤ l'.length) (hb0 : l'.length < scanBound) (hf2 : t2.fits es1.size = true) (hr : Ris t2.place.toList) (hl : w.params.followText "set-order" = true ∨ t2.led = true) {wasDummy : Bool} {R : Option Bool → Shared → Prop}
    (hR : ∀ h', Heap.SameBut a s.heap h' → SetT P w h' a l' → R (some true) { s with heap := h' }) :
    wpAny (model P w) A (do
        storeSet a es1 t2
        if (!wasDummy && t2.tooFull) = true then do
            g (relayAll t2 es1 (SetTable.grown es1.size)).2.2
            storeSet a (relayAll t2 es1 (SetTable.grown es1.size)).1 (relayAll t2 es1 (SetTable.grown es1.size)).2.1
            pure (some true)
          else pure (some true)) R E s := by
  refine wpAny_bind (wpAny_storeSet_of ho hd ?_ (fits_of_scanBound (by omega)))
  have ho1 := store_at (es' := es1) (t' := t2) ho hd
  have sb1 := Heap.SameBut.update s.heap a (Obj.putSet es1 t2)
  split
  · have pm := relayAll_perm t2 es1 (SetTable.grown es1.size)
    have hf3 := relayAll_fits t2 es1 (SetTable.grown es1.size)
    have hr3 := relayAll_ris t2 es1 (SetTable.grown es1.size)
    have hl3 := relayAll_led t2 es1 (SetTable.grown es1.size)
    generalize relayAll t2 es1 (SetTable.grown es1.size) = Z at pm hf3 hr3 hl3 ⊢
    obtain ⟨es2, t3, gave⟩ := Z
    dsimp only at pm hf3 hr3 hl3 ⊢
    have hsz : es2.size = es1.size := by rw [← Array.length_toList, pm.length_eq, Array.length_toList]
    refine wpAny_bind (hg _ _ _ ?_)
    refine wpAny_bind (wpAny_storeSet_of ho1 rfl ?_ (fits_of_scanBound (by omega)))
    have ho2 := store_at (es' := es2) (t' := t3) ho1 rfl
    refine wpAny_pure (hR _ (sb1.trans (Heap.SameBut.update _ a _)) ?_)
    exact ⟨_, es2, _, t3, ho2, hex, rfl, fun e he => g1 e (pm.mem_iff.mp he), (pm.map keyT).nodup_iff.mpr nd1, fun k => (m1 k).trans (pm.map keyT).mem_iff.symm, by omega, hb0, by rw [hsz] at hf3 ⊢; exact hf3, hr3,
      hl.imp id fun z => by rw [hl3]; exact z⟩
  · exact wpAny_pure (hR _ sb1 ⟨_, es1, _, t2, ho1, hex, rfl, g1, nd1, m1, hb1, hb0, hf2, hr, hl⟩)
theorem add_hashed {k : Str} {tk : Tok} {Q : Bool → Shared → Prop} (R : SetT P w s.heap a l) (room : l.length + 1 < scanBound)
    (hQ : ∀ h' b, Heap.SameBut a s.heap h' → SetT P w h' a (l ++ [k]) → Q b { s with heap := h' }) :
    wpAny (model P w) A (setAddHashed a (.str k tk) ((PySem.strKind P w).hash k)) Q E s := by
  obtain ⟨o, es, ep, t, ho, hex, hd, g, nd, hm, hb, hb0, hf, hr, hl⟩ := R
  have hkey : (PySem.strKind P w).is k (.str k tk) = true := strKind_is P w k tk
  have hsc : (Value.str k tk).scannable = true := rfl
  have hel : ElemsOf (PySem.strKind P w) es.toList := good_elems g
  have lapp : (l ++ [k]).length = l.length + 1 := by simp
  unfold setAddHashed setAddHashedIn
  refine wpAny_holding (wpAny_bind (wpAny_setState_of ho hd hf ?_))
  dsimp only
  rw [byScan_of hsc (by omega) hel]
  simp only [↓reduceIte]
  unfold setAddByScan
  refine wpAny_bind ?_
  refine wpAny_bind (wpAny_rule ?_)
  refine wpAny_bind (wpAny_setScan_of hkey ho hd hf hel ?_)
  cases hfi : List.findIdx? (fun e => (PySem.strKind P w).is k e.2) es.toList with
  | some j =>
    dsimp only
    obtain ⟨hj, pj, _⟩ := List.findIdx?_eq_some_iff_getElem.mp hfi
    have hk : k ∈ l := (hm k).2 ((good_mem (P := P) (w := w) g k).2 ⟨es.toList[j], List.getElem_mem hj, pj⟩)
    refine wpAny_pure (wpAny_pure ?_)
    exact hQ s.heap _ (Heap.SameBut.refl a s.heap) ⟨o, es, ep, t, ho, hex, hd, g, nd, fun i => by
      rw [List.mem_append, List.mem_singleton, ← hm i]
      exact ⟨fun z => z.elim id (fun e => e ▸ hk), .inl⟩, by omega, by omega, hf, hr, hl⟩
  | none =>
    dsimp only
    have hnk : k ∉ es.toList.map keyT := fun z => by
      obtain ⟨e, he, q⟩ := (good_mem (P := P) (w := w) g k).1 z
      have c := List.findIdx?_eq_none_iff.mp hfi e he
      rw [q] at c
      cases c
    have hgw : ∀ (b : Bool) {s₁ : Shared} {Q' : Unit → Shared → Prop}, Q' () s₁ → wpAny (model P w) A (match b with | true => rule "set.scan.the-table-gave-way" | false => pure ()) Q' E s₁ :=
      fun b s₁ Q' q => by cases b <;> first | exact wpAny_pure q | exact wpAny_rule q
    have pm := layNew_perm t es ((PySem.strKind P w).hash k) (.str k tk)
    have hf1 := layNew_fits t es ((PySem.strKind P w).hash k) (.str k tk)
    have hr1 := layNew_ris t es ((PySem.strKind P w).hash k) (.str k tk) hr
    have hl1 := layNew_led t es ((PySem.strKind P w).hash k) (.str k tk)
    generalize layNew t es ((PySem.strKind P w).hash k) (.str k tk) = Z at pm hf1 hr1 hl1 ⊢
    obtain ⟨es1, t1, wasDummy, gave⟩ := Z
    dsimp only at pm hf1 hr1 hl1 ⊢
    rw [Array.toList_push] at pm
    have pc : es1.toList.Perm (((PySem.strKind P w).hash k, Value.str k tk) :: es.toList) := pm.trans (List.perm_append_singleton _ _)
    have pk : (es1.toList.map keyT).Perm (k :: es.toList.map keyT) := pc.map keyT
    have g1 : ∀ e ∈ es1.toList, GoodT P w e := fun e he => by
      rcases List.mem_cons.mp (pc.mem_iff.mp he) with z | z
      · rw [z]; exact ⟨k, tk, rfl, rfl⟩
      · exact g e z
    have nd1 : (es1.toList.map keyT).Nodup := pk.nodup_iff.mpr (List.nodup_cons.mpr ⟨hnk, nd⟩)
    have m1 : ∀ i, i ∈ l ++ [k] ↔ i ∈ es1.toList.map keyT := fun i => by
      rw [List.mem_append, List.mem_singleton, hm i, pk.mem_iff, List.mem_cons]
      exact Or.comm
    have hsz : es1.size = es.size + 1 := by rw [← Array.length_toList, pc.length_eq, List.length_cons, Array.length_toList]
    have hled : w.params.followText "set-order" = true ∨ t1.led = true := hl.imp id fun z => by rw [hl1]; exact z
    refine wpAny_bind (hgw _ ?_)
    split
    · refine wpAny_bind ?_
      rw [hashByValue_scannable 8 hsc]
      refine wpAny_pure ?_
      refine add_tail ?_ ho hex hd g1 nd1 m1 (by omega) (by omega) ?_ ?_ ?_ ?_
      · intro b s₁ Q' q; cases b <;> first | exact wpAny_pure q | exact wpAny_rule q
      · first | (split <;> first | exact hf1 | exact SetTable.fits_plain_off hf1) | exact hf1
      · first | (split <;> exact hr1) | exact hr1
      · first | (split <;> exact hled) | exact hled
      · intro h' sb r; dsimp only; exact wpAny_pure (hQ h' _ sb r)
    · refine wpAny_bind (wpAny_pure ?_)
      simp only [↓reduceIte]
      refine add_tail ?_ ho hex hd g1 nd1 m1 (by omega) (by omega) hf1 hr1 hled ?_
      · intro b s₁ Q' q; cases b <;> first | exact wpAny_pure q | exact wpAny_rule q
      · intro h' sb r; dsimp only; exact wpAny_pure (hQ h' _ sb r)
theorem fresh_T {P : Program} {w : World} {h : Heap} : SetT P w (h.push { cls := .type "set", dict := none, data := .set #[] 0 (.fresh 0 0 (!w.params.followText "set-order")) }) h.objs.size [] :=
  ⟨_, #[], 0, _, Heap.get?_push_size _ rfl, ⟨rfl, rfl, rfl⟩, rfl, (fun e he => by simp at he), (by simp), (fun k => by simp), (by simp), (by decide), (by rfl), List.Pairwise.nil, by
    show _ ∨ (!w.params.followText "set-order") = true
    cases w.params.followText "set-order"
    · exact .inr rfl
    · exact .inl rfl⟩
theorem code_new_led (a : Value) {Q₁ : Value → Shared → Prop}
    (h : Q₁ (.ref s.heap.objs.size) { s with heap := s.heap.push { cls := .type "set", dict := none, data := .set #[] 0 (.fresh 0 0 (!w.params.followText "set-order")) } }) :
    codeAny (model P w) A (.call (.builtin "set.__new__") ⟨[.type "set", a], []⟩) (wants Q₁ E) s := by
  refine codeAny_of_tree ?_
  show wpAny _ A.in1 (do checkBuiltinCall "set.__new__" ⟨[.type "set", a], []⟩; again (.builtin "set.__new__" ⟨[.type "set", a], []⟩)) _ _ s
  refine wpAny_bind (wpAny_of_eq (F.newCall_set_1 a) (wpAny_pure ⟨plainId_quiet F.plain_set_new _, codeAny_builtin F.entry_set_new ?_⟩))
  rw [Around.under_plainId F.plain_set_new _]
  unfold Builtin.«set.__new__» Builtin.Frozenset.newClass
  have hsub := sub_set_self
  obtain ⟨hp, g, d, tk, os⟩ := s
  dsimp only
  wp_walk
  refine wpAny_askSetting (wpAny_pure ?_)
  dsimp only
  simp only [newObj]
  refine wpAny_bind (wpAny_alloc (wpAny_pure ?_))
  exact wpAny_pure h
end
section
variable {prog : Program} {w : World} {A : Around} {R : Result → Shared → Prop} {I : Addr} {fp wr : List Addr} {G : Array GenState → Array GenState → Prop} {n : Nat} {P : Nat → Value → Prop} {St : Nat → Shared → Prop}
theorem loopT (W : WalksS prog w A.in1 I fp wr G n P St) (S : Addr) (hSf : S ∉ fp) (xs : List Str) (hsz : xs.length = n) (hn1 : n ≤ 1000)
    (hval : ∀ i v, P i v → ∃ t, v = .str (xs.getD i Str.empty) t) :
    ∀ (k i : Nat) (s : Shared), n - i = k → i ≤ n → St i s → SetT prog w s.heap S (xs.take i) →
      (∀ s', Moved (S :: wr) G s s' → SetT prog w s'.heap S xs → R (.ok (.ret .none)) s') →
      codeAny (model prog w) A (.builtin "set.update.loop" ⟨[.ref S, .ref I], []⟩) R s := by
  have hSw : S ∉ wr := fun h => hSf (W.sub _ h)
  have hsub : ∀ b ∈ wr, b ∈ S :: wr := fun b hb => List.mem_cons_of_mem _ hb
  intro k
  induction k with
  | zero =>
    intro i s hk hi hst hS hR
    have hin : i = n := by omega
    subst hin
    refine codeAny_builtin PyProof.Rows.F.entry_set_update_loop ?_
    rw [Around.under_plainId PyProof.Rows.F.plain_set_update_loop _]
    show wpAny _ A.in1 (pyNext (.ref I) >>= _) _ _ s
    refine wpAny_bind (W.done s _ _ hst fun s' hm => ?_)
    show wpAny _ A.in1 (ret Value.none) _ _ s'
    refine wpAny_pure (hR s' (hm.mono hsub) ?_)
    rw [← hsz, List.take_length] at hS
    exact hS.at fun o ho => hm.heap S _ hSw ho
  | succ k ih =>
    intro i s hk hi hst hS hR
    have hlt : i < n := by omega
    refine codeAny_builtin PyProof.Rows.F.entry_set_update_loop ?_
    rw [Around.under_plainId PyProof.Rows.F.plain_set_update_loop _]
    show wpAny _ A.in1 (pyNext (.ref I) >>= _) _ _ s
    refine wpAny_bind (W.item i s _ _ hlt hst fun v s' hP hst' hm => ?_)
    obtain ⟨t, rfl⟩ := hval i v hP
    have hS' : SetT prog w s'.heap S (xs.take i) := hS.at fun o ho => hm.heap S _ hSw ho
    show wpAny _ A.in1 (holding [Value.str (xs.getD i Str.empty) t] (setAdd S (.str (xs.getD i Str.empty) t)) >>= _) _ _ s'
    refine wpAny_bind (wpAny_holding ?_)
    unfold setAdd
    refine wpAny_holding ?_
    refine wpAny_bind ((PySem.strKind prog w).pyHash (k := xs.getD i Str.empty) (strKind_is _ _ _ _) ?_)
    refine add_hashed (s := { s' with toks := s'.toks + 1 }) hS' (by rw [List.length_take]; unfold scanBound; omega) fun h' b hsb hS2 => ?_
    have hSi : SetT prog w h' S (xs.take (i + 1)) := by
      have e : xs.take (i + 1) = xs.take i ++ [xs.getD i Str.empty] := by
        have hil : i < xs.length := by omega
        rw [List.take_succ_eq_append_getElem hil, List.getD_eq_getElem?_getD, List.getElem?_eq_getElem hil]
        rfl
      rw [e]
      exact hS2
    refine wpAny_pure ⟨plainId_quiet PyProof.Rows.F.plain_set_update_loop _, ih (i + 1) _ (by omega) hlt (W.frame _ s' _ _ hst' (Nat.le_succ _) fun b hb o e => ?_) hSi fun s'' hm'' hS'' => ?_⟩
    · rw [hsb.2 b (fun h : b = S => hSf (by rw [← h]; exact hb))]; exact e
    · refine hR s'' (Moved.trans W.gtrans ((hm.mono hsub).then_heap (Nat.le_succ _) fun b o hb e => ?_) hm'') hS''
      rw [hsb.2 b (fun h : b = S => hb (by rw [h]; exact List.mem_cons_self))]; exact e
end
section
variable {prog : Program} {w : World} {A : Around} {E : Value → Shared → Prop} {s : Shared}
theorem call_setT {l : Addr} {items : Array Value} {xs : List Str} {Q : Value → Shared → Prop}
    (hh : A.handled = none) (hl : s.heap.IsList l items) (hi : PyProof.Rows.StrsAre items.toList xs) (hn1 : xs.length ≤ 1000)
    (h : ∀ (h' : Heap) (tk : Nat), SetT prog w h' s.heap.objs.size xs →
      (∀ b o, b < s.heap.objs.size → s.heap.get? b = some o → h'.get? b = some o) → Q (.ref s.heap.objs.size) { s with heap := h', toks := tk }) :
    wpAny (model prog w) A (call (.type "set") [.ref l]) Q E s := by
  obtain ⟨c, tl, hmro⟩ := PySem.F.called_set.mro
  have hmade := PySem.F.called_set.made
  have hsub := PySem.F.called_set.sub
  refine wpAny_call (codeAny_of_tree ?_)
  show wpAny _ _ (callAny (.type "set") _) _ _ _
  refine wpAny_pure ⟨Code.quiet_builtin _ (by decide +kernel), codeAny_builtin PySem.F.entry_type_call ?_⟩
  rw [Around.under_plain (weight_type_call_type "set" [.ref l] []) rfl]
  have h1 := PySem.F.called_set.notType
  have h2 := PySem.F.called_set.canCreate
  have hct := PySem.F.typeCall_set_1 (.ref l)
  repeat (any_goals (first | assumption | wp_step))
  refine codeAny_mono (code_new_led (P := prog) (w := w) (.ref l) (E := E) (Q₁ := fun obj s₁ => obj = .ref s.heap.objs.size ∧ s₁ = { s with heap := s.heap.push { cls := .type "set", dict := none, data := .set #[] 0 (.fresh 0 0 (!w.params.followText "set-order")) } }) ⟨rfl, rfl⟩) fun r s₁ hr => ?_
  generalize hled : (!w.params.followText "set-order") = led at hr
  cases r with
  | error e => exact hr
  | ok fl =>
    cases fl with
    | ret obj =>
      obtain ⟨rfl, rfl⟩ := hr
      have hS : (s.heap.push { cls := .type "set", dict := none, data := .set #[] 0 (.fresh 0 0 led) }).get? s.heap.objs.size = some { cls := .type "set", dict := none, data := .set #[] 0 (.fresh 0 0 led) } := Heap.get?_push_size _ rfl
      have hT : Shared.TypeIs { s with heap := s.heap.push { cls := .type "set", dict := none, data := .set #[] 0 (.fresh 0 0 led) } } (.ref s.heap.objs.size) "set" := ⟨_, hS, rfl⟩
      have hli := PySem.F.called_set.init.lookup
      have hbi := PySem.F.called_set.init.bind (.ref s.heap.objs.size)
      repeat (any_goals (first | assumption | wp_step))
      refine codeAny_mono (codeAny_call_builtin (R := wants (fun r s₂ => r = .none ∧ ∃ h' tk, s₂ = { s with heap := h', toks := tk } ∧
          SetT prog w h' s.heap.objs.size xs ∧
          (∀ b o, b < s.heap.objs.size → s.heap.get? b = some o → h'.get? b = some o)) E) PySem.F.called_set.init.plain PySem.F.entry_set_init (check_set_init_1 hT ?_)) fun r₂ s₂ hr₂ => ?_
      · obtain ⟨ol, hol, hcl, nl, hdl⟩ := hl
        obtain ⟨ocls, odict, odata, oslots⟩ := ol
        simp only at hcl hdl
        subst hcl; subst hdl
        have hol' : (s.heap.push { cls := .type "set", dict := none, data := .set #[] 0 (.fresh 0 0 led) }).get? l = some { cls := .type "list", dict := odict, data := .seq items nl, slots := oslots } := Heap.get?_push_of_some _ hol
        have hsls := PySem.F.sub_list_set
        have hslf := PySem.F.sub_list_frozenset
        have hne : (Value.type "list" == Value.type "dict") = false := by decide
        have hl1 : (s.heap.push { cls := .type "set", dict := none, data := .set #[] 0 (.fresh 0 0 led) }).IsList l items := ⟨_, hol', rfl, nl, rfl⟩
        unfold Builtin.«set.__init__» noKeywords Builtin.Frozenset.updateFrom
        generalize hPI : pyIter = PI
        wp_walk
        subst hPI
        refine wpAny_pyIter_list hl1 ?_
        refine wpAny_bind (wpAny_runValue ?_)
        have hlS : l < s.heap.objs.size := Heap.lt_size hol
        have hh3 : A.in1.in1.in1.handled = none := by simp [hh]
        have hneI : l ≠ (s.heap.push { cls := .type "set", dict := none, data := .set #[] 0 (.fresh 0 0 led) }).objs.size := by
          rw [Heap.size_push]; exact Nat.ne_of_lt (Nat.lt_succ_of_lt hlS)
        have hSf : s.heap.objs.size ∉ [(s.heap.push { cls := .type "set", dict := none, data := .set #[] 0 (.fresh 0 0 led) }).objs.size, l] := by
          rw [Heap.size_push]; simp only [List.mem_cons, List.mem_singleton, List.not_mem_nil, or_false, not_or]
          exact ⟨Nat.ne_of_lt (Nat.lt_succ_self _), Nat.ne_of_gt hlS⟩
        have hsz : xs.length = items.size := by rw [← StrsAre.len_eq hi, Array.length_toList]
        have hval : ∀ (i : Nat) (v : Value), items[i]? = some v → ∃ t, v = .str (xs.getD i Str.empty) t := fun i v hv => SS.strs_at hi i v (by rw [Array.getElem?_toList]; exact hv)
        refine loopT ((Walks.list hh3 _ l hneI items).toS) s.heap.objs.size
          hSf xs hsz (by rw [← hsz]; exact hn1) hval (items.size - 0) 0 _ (by omega) (Nat.zero_le _)
          ⟨⟨_, Heap.get?_push_size _ rfl, rfl, rfl⟩, (hl1.push _)⟩ ?hS0 ?hR
        case hS0 =>
          have f : SetT prog w (s.heap.push { cls := .type "set", dict := none, data := .set #[] 0 (.fresh 0 0 led) }) s.heap.objs.size [] := by
            rw [← hled]
            exact fresh_T
          exact f.at fun o ho => Heap.get?_push_of_some _ ho
        case hR =>
          intro s' hm hS'
          obtain ⟨h', g', d', tk', os'⟩ := s'
          have eg : g' = s.gens := hm.gens
          have ed : d' = s.drawn := hm.drawn
          have eo : os' = s.os := hm.os
          subst eg; subst ed; subst eo
          show wpAny _ _ _ _ _ _
          refine wpAny_pure ?_
          show wpAny _ _ (ret Value.none) _ _ _
          refine wpAny_pure ⟨rfl, h', tk', rfl, hS', fun b o hb e => ?_⟩
          have hb1 : b ≠ s.heap.objs.size := Nat.ne_of_lt hb
          have hb2 : b ≠ (s.heap.push { cls := .type "set", dict := none, data := .set #[] 0 (.fresh 0 0 led) }).objs.size := by
            rw [Heap.size_push]; exact Nat.ne_of_lt (Nat.lt_succ_of_lt hb)
          exact hm.heap b o (by simp only [List.mem_cons, List.mem_singleton, List.not_mem_nil, or_false, not_or]; exact ⟨hb1, hb2⟩) (Heap.get?_push_of_some _ (Heap.get?_push_of_some _ e))
      · cases r₂ with
        | error e => exact hr₂
        | ok fl₂ =>
          cases fl₂ with
          | ret r =>
            obtain ⟨rfl, h', tk, rfl, hS', hk'⟩ := hr₂
            repeat (any_goals (first | assumption | wp_step))
            exact h _ _ hS' hk'
          | _ => exact hr₂.elim
    | _ => exact hr.elim
theorem strs_of : ∀ (l : List (Int × Value)), (∀ e ∈ l, GoodT prog w e) → ∀ vs : List Value, vs.Perm (l.map (·.2)) → ∃ ss, StrsAre vs ss ∧ ss.Perm (l.map keyT) := by
  intro l g vs pm
  have hv : ∀ v ∈ vs, ∃ k tk, v = Value.str k tk := fun v hv => by
    obtain ⟨e, he, q⟩ := List.mem_map.mp (pm.mem_iff.mp hv)
    obtain ⟨k, tk, h1, _⟩ := g e he
    exact ⟨k, tk, by rw [← q]; exact h1⟩
  have mk : ∀ vs : List Value, (∀ v ∈ vs, ∃ k tk, v = Value.str k tk) → StrsAre vs (vs.map fun v => keyT (0, v)) := by
    intro vs
    induction vs with
    | nil => intro _; exact .nil
    | cons v r ih =>
      intro h
      obtain ⟨k, tk, rfl⟩ := h v List.mem_cons_self
      exact .cons k tk (ih fun u hu => h u (List.mem_cons_of_mem _ hu))
  refine ⟨_, mk vs hv, ?_⟩
  have q := pm.map fun v => keyT (0, v)
  rw [List.map_map] at q
  exact q
theorem sorted_T {a : Addr} {l : List Str} {Q : Value → Shared → Prop} (R : SetT prog w s.heap a l) (hh : A.handled = none) (h64 : l.length < 64)
    (hQ : ∀ s' p (out : Array Value) (c : Nat) (ss : List Str), (∀ b o, s.heap.get? b = some o → s'.heap.get? b = some o) → s'.gens = s.gens → s'.os = s.os → s.heap.objs.size ≤ p →
      s'.heap.get? p = some (seqObj "list" out c) → StrsAre out.toList ss → sortedS ss = true → ss.Nodup → (∀ k, k ∈ ss ↔ k ∈ l) → ss.length ≤ l.length → Q (.ref p) s') :
    wpAny (model prog w) A (call (.builtin "sorted") [.ref a]) Q E s := by
  obtain ⟨o, es, ep, t, ho, hex, hd, g, nd, hm, hb, hb0, hf, hr, hl⟩ := R
  refine Calls.call_function_entry kind_sorted plain_sorted entry_sorted (args_sorted1 _) ?_
  unfold Builtin.«sorted»
  refine wpAny_bind (m := checkCount "sorted" 1 1 _) (wpAny_pure ?_)
  refine wpAny_bind (collect_set (A := A.in1) hh ⟨o, ho, hex.1, hd⟩ hf (by omega) hr hl fun s1 vs k1 hz g1 o1 pm => ?_)
  have hvl : vs.length = es.size := by rw [pm.length_eq, List.length_map, Array.length_toList]
  obtain ⟨ss0, hS, pk⟩ := strs_of (prog := prog) (w := w) es.toList g vs pm
  refine wpAny_bind (wpAny_newList ?_ (by rw [hvl, sizeLine_eq]; omega))
  have hoL : (s1.heap.push (seqObj "list" vs.toArray 0)).get? s1.heap.objs.size = some (seqObj "list" vs.toArray 0) := Heap.get?_push_size _ rfl
  refine wpAny_bind (wpAny_holding (wpAny_call_entry slot_list_sort ⟨_, hoL, rfl⟩ entry_list_sort (list_sort_treeK strKind_oneLt hoL hS.keysOf (fun v₁ v₂ rest e => keyKind_strs (by rw [← e]; exact hS)) (by rw [hvl]; omega) fun st' hp hs => ⟨_, rfl, ?_⟩) (args_list_sort _)))
  obtain ⟨ss', a1, a2, a3⟩ := sorted_out_str hS hp hs
  obtain ⟨c, hc⟩ := sortedHeap_at (vs := vs) (out := (arrOf st').map (·.2)) hoL
  have pn : ss'.Perm (es.toList.map keyT) := a2.trans pk
  refine wpAny_pure ⟨_, rfl, hQ _ s1.heap.objs.size _ c ss' (fun b u e => ?_) g1 o1 hz hc a1 a3 (pn.nodup_iff.mpr nd) (fun k => by rw [pn.mem_iff, ← hm k]) (by rw [pn.length_eq, List.length_map, Array.length_toList]; exact hb)⟩
  have q := k1 b u e
  have hlt := Heap.lt_size q
  show (sortedHeap (s1.heap.push (seqObj "list" vs.toArray 0)) s1.heap.objs.size vs ((arrOf st').map (·.2))).get? b = some u
  rw [sortedHeap_old (Nat.ne_of_lt hlt) (by rw [size_push']; exact Nat.lt_succ_of_lt hlt)]
  exact Heap.get?_push_of_some _ q
end
end SST
end
section
set_option maxRecDepth 100000
set_option maxHeartbeats 4000000
namespace SST
open PySem PySem.Spec PyProof.Rows L2
/-- sorted(set(xs)), xs a list of texts -/
def tSortSet (K : PySem.W.Frag) (ta : TE) : TE := fun σ H Q => ta σ H fun x H1 => ∃ l, ∃ xs : List Str, x = .ref l ∧ SqL K H1 l (xs.map V.str) ∧ xs.length ≤ 60 ∧ ∀ (p : Addr) (ss : List Str), H1 p = none → sortedS ss = true → ss.Nodup → (∀ k, k ∈ ss ↔ k ∈ xs) → Q (.ref p) (upd H1 p (.lst (ss.map V.str)))
theorem pe_sortSet {X : Cx} {a : Expr} {ta : TE} {p p2 q pos : Pos} (hc : X.calm = true) (hg : Gl X "sorted") (hm : X.mg "sorted" = none) (hg2 : Gl X "set") (hm2 : X.mg "set" = none) (ha : PE X a ta)
    (na : starEach [a] X.env = (false, eval a X.env) :: starEach [] X.env := by rfl) : PE X (.Call (.Name "sorted" p) [.Call (.Name "set" p2) [a] [] q] [] pos) (tSortSet X.K ta) := by
  refine ⟨fun pins s σ H Q I h => ?_⟩
  refine Call_ (ld_blt I hg hm boot_sorted ?_)
  refine PyProof.Rows.callWith_builtin1 (PyProof.Rows.args_cons ?_ rfl) rfl rfl
  refine Call_ (ld_blt I hg2 hm2 boot_set ?_)
  refine PyProof.Rows.callWith_type1 (PyProof.Rows.args_cons (thn (ha.run pins s σ H _ I h) fun v s1 ⟨x, H1, I1, r1, q1⟩ => PyProof.Rows.args_nil ?_) na) na rfl
  obtain ⟨l, xs, rfl, hq, h1, q1⟩ := q1
  cases r1
  obtain ⟨its, r, pl, hz⟩ := I1.list hq
  refine call_setT (I1.ok.hd hc) pl.isList (by simpa using strsAre_of r) (by omega) fun h' tk hS hk => ?_
  refine PyProof.Rows.args_nil ?_
  have I2 : Inv X pins σ H1 { s1 with heap := h', toks := tk } := I1.kept fun b o e => hk b o (Heap.lt_size e) e
  refine sorted_T hS (I2.ok.hd hc) (by omega) fun s' p out c ss k2 g2 o2 hp hget hss srt nd hmem hle => ?_
  have hsl : ss.length ≤ 60 := by omega
  have hlen : (ss.map V.str).length ≤ sizeLine := by rw [List.length_map]; exact Nat.le_trans hsl (by decide)
  have hn : H1 p = none := I2.hok.fresh hp
  have J : L2.Inv X pins σ (upd H1 p (.lst (ss.map V.str))) { ({ heap := h', gens := s1.gens, drawn := s1.drawn, toks := tk, os := s1.os } : Shared) with heap := s'.heap, gens := s'.gens, drawn := s'.drawn, toks := s'.toks } :=
    I2.call (ch := []) (Un.laid k2 hp hn) (I2.hok.laid k2 hp ⟨hlen, out.toList, c, vals_of_strs hss, hget⟩) (by rw [g2]; exact I2.bare) (fun _ z => nomatch z)
  have e : s' = { s1 with heap := s'.heap, gens := s'.gens, drawn := s'.drawn, toks := s'.toks } := by
    obtain ⟨h3, g3, d3, t3, os3⟩ := s'
    obtain rfl : os3 = s1.os := o2
    rfl
  rw [e]
  exact ⟨.ref p, _, J, rfl, q1 p ss hn srt nd hmem⟩
end SST
end
section
set_option maxRecDepth 100000
set_option maxHeartbeats 4000000
namespace MS
open PySem L2
section
variable {P : Program} {w : World} {K : PySem.W.Frag} {mg : Str → Option Value} {base : Heap}
theorem no_sp {k : Nat} {f : Addr} {fd : FuncData} {ps : List Str} : FnOk P w K mg base CX0 k f fd ps (fun _ _ _ _ => False) := ⟨fun vs H Q E h => h.elim, fun A outer s H args us vs Q E _ _ _ _ h => h.elim⟩
theorem ok_scheme {i M : Nat} {ce cw : Nat → Int} (D : Def K mg "_law_scheme" s_L_scheme psScheme) (DT : Def K mg "_law_take" s_L_take ["_law_box", "_law_many"]) (ml : mg "len" = none) (mr : mg "range" = none) (mt : mg "tuple" = none) :
    ∀ d : Nat, FnOk P w K mg base CX0 (d + 2) D.f D.fd psScheme (spScheme i M ce cw d)
  | 0 => scheme_turn D DT ml mr mt (sp' := fun _ _ _ _ => False) no_sp fun d' h => by omega
  | d + 1 => scheme_turn D DT ml mr mt (ok_scheme D DT ml mr mt d) fun d' h => by
      have e : d = d' := by omega
      rw [e]
end
/-! ### counts -/
/-- all later schemes are told -/
def UFull (H : Hp) (i M : Nat) (ce cw : Nat → Int) (u : Addr) : Prop := ∃ (js : List Nat) (vs : List V), H u = some (.lst vs) ∧ js.length ≤ 5 ∧ (∀ j, i < j → j < M → j ∈ js) ∧
  Paired (fun j v => ∃ t, v = V.ref t ∧ H t = some (.tup [.int ((j : Nat) : Int), .int (ce j), .int (cw j)])) js vs
theorem UFull.keep {H H' : Hp} {i M : Nat} {ce cw : Nat → Int} {u : Addr} (h : UFull H i M ce cw u) (k : Same H H') : UFull H' i M ce cw u := by
  obtain ⟨js, vs, e, l, r, p⟩ := h
  exact ⟨js, vs, k _ _ e, l, r, paired_imp p fun j v ⟨t, e1, e2⟩ => ⟨t, e1, k _ _ e2⟩⟩
theorem Same.tupK {H H' : Hp} (k : Same H H') : TupK H H' := fun a xs e => k a _ e
/-- what a value within a scheme counts -/
def KidR (i M : Nat) (ce cw : Nat → Int) (H : Hp) (d : Nat) (p : Int × Int) (v : V) : Prop := (∃ n, v = .int n ∧ p = (0, 0)) ∨ ∃ s, SAt H d s v ∧ OkS i M d s ∧ p = (er ce d s, wr cw d s)
def isAB (nm : Str) : Bool := inV (.str nm) [.str "all", .str "best"]
def n0 (nm : Str) : Int := if inV (.str nm) [.str "step", .str "end"] then 1 else 0
def n1 (nm : Str) : Int := if inV (.str nm) [.str "seen", .str "behind"] then 1 else 0
structure KidsOf (i M : Nat) (ce cw : Nat → Int) (H : Hp) (d : Nat) (nm : Str) (rest : List V) (e w : Int) : Prop where
  no : nm ≠ "use"
  kids : (isAB nm = true ∧ ∃ (b : Addr) (vs : List V) (ps : List (Int × Int)), rest = [.ref b] ∧ H b = some (.tup vs) ∧ Paired (KidR i M ce cw H d) ps vs ∧ e = n0 nm + (ps.map (·.1)).sum ∧ w = n1 nm + (ps.map (·.2)).sum) ∨
    (isAB nm = false ∧ ∃ (u : V) (p : Int × Int), cutV (.str nm :: rest) (some (-1)) none = [u] ∧ ¬ (HT.sIx (V.str nm :: rest).length 0 (some (-1)) = 0 ∧ HT.sIx (V.str nm :: rest).length (V.str nm :: rest).length none = (V.str nm :: rest).length) ∧ KidR i M ce cw H d p u ∧ e = n0 nm + p.1 ∧ w = n1 nm + p.2)
theorem kid_list {i M : Nat} {ce cw : Nat → Int} {H : Hp} {d : Nat} : ∀ {ks : List Sch} {vs : List V}, Paired (SAt H d) ks vs → (∀ s ∈ ks, OkS i M d s) → Paired (KidR i M ce cw H d) (ks.map fun s => (er ce d s, wr cw d s)) vs
  | _, _, .nil, _ => .nil
  | _, _, .cons r t, h => .cons (.inr ⟨_, r, h _ List.mem_cons_self, rfl⟩) (kid_list t fun s hs => h s (List.mem_cons_of_mem _ hs))
theorem SAt.view {i M : Nat} {ce cw : Nat → Int} {H : Hp} {d : Nat} {s : Sch} {v : V} (h : SAt H (d + 1) s v) (o : OkS i M (d + 1) s) :
    (∃ a j, v = .ref a ∧ s = .use j ∧ H a = some (.tup [.str "use", .int ((j : Nat) : Int)])) ∨
    ∃ a nm rest, v = .ref a ∧ H a = some (.tup (.str nm :: rest)) ∧ KidsOf i M ce cw H d nm rest (er ce (d + 1) s) (wr cw (d + 1) s) := by
  cases s with
  | step x p =>
    obtain ⟨a, rfl, e⟩ := h
    exact .inr ⟨a, "step", _, rfl, e, by decide +kernel, .inr ⟨by decide +kernel, .int p, (0, 0), rfl, (by show ¬ (HT.sIx 3 0 (some (-1)) = 0 ∧ HT.sIx 3 3 none = 3); decide), .inl ⟨p, rfl, rfl⟩, by show (1 : Int) = n0 "step" + 0; decide +kernel, by show (0 : Int) = n1 "step" + 0; decide +kernel⟩⟩
  | all k =>
    obtain ⟨a, b, vs, rfl, e, e2, pk⟩ := h
    refine .inr ⟨a, "all", _, rfl, e, by decide +kernel, .inl ⟨by decide +kernel, b, vs, _, rfl, e2, kid_list pk o.2.2, ?_, ?_⟩⟩
    · rw [List.map_map, show n0 "all" = 0 by decide +kernel, Int.zero_add]; rfl
    · rw [List.map_map, show n1 "all" = 0 by decide +kernel, Int.zero_add]; rfl
  | best k =>
    obtain ⟨a, b, vs, rfl, e, e2, pk⟩ := h
    refine .inr ⟨a, "best", _, rfl, e, by decide +kernel, .inl ⟨by decide +kernel, b, vs, _, rfl, e2, kid_list pk o.2.2, ?_, ?_⟩⟩
    · rw [List.map_map, show n0 "best" = 0 by decide +kernel, Int.zero_add]; rfl
    · rw [List.map_map, show n1 "best" = 0 by decide +kernel, Int.zero_add]; rfl
  | most n s =>
    obtain ⟨a, u, rfl, e, hs⟩ := h
    refine .inr ⟨a, "most", _, rfl, e, by decide +kernel, .inr ⟨by decide +kernel, u, _, rfl, (by show ¬ (HT.sIx 3 0 (some (-1)) = 0 ∧ HT.sIx 3 3 none = 3); decide), .inr ⟨s, hs, o.2, rfl⟩, ?_, ?_⟩⟩
    · rw [show n0 "most" = 0 by decide +kernel, Int.zero_add]; rfl
    · rw [show n1 "most" = 0 by decide +kernel, Int.zero_add]; rfl
  | half s =>
    obtain ⟨a, u, rfl, e, hs⟩ := h
    refine .inr ⟨a, "half", _, rfl, e, by decide +kernel, .inr ⟨by decide +kernel, u, _, rfl, (by show ¬ (HT.sIx 2 0 (some (-1)) = 0 ∧ HT.sIx 2 2 none = 2); decide), .inr ⟨s, hs, o, rfl⟩, ?_, ?_⟩⟩
    · rw [show n0 "half" = 0 by decide +kernel, Int.zero_add]; rfl
    · rw [show n1 "half" = 0 by decide +kernel, Int.zero_add]; rfl
  | seen x s =>
    obtain ⟨a, u, rfl, e, hs⟩ := h
    refine .inr ⟨a, "seen", _, rfl, e, by decide +kernel, .inr ⟨by decide +kernel, u, _, rfl, (by show ¬ (HT.sIx 3 0 (some (-1)) = 0 ∧ HT.sIx 3 3 none = 3); decide), .inr ⟨s, hs, o.2, rfl⟩, ?_, ?_⟩⟩
    · rw [show n0 "seen" = 0 by decide +kernel, Int.zero_add]; rfl
    · rw [show n1 "seen" = 1 by decide +kernel]; rfl
  | behind x s =>
    obtain ⟨a, u, rfl, e, hs⟩ := h
    refine .inr ⟨a, "behind", _, rfl, e, by decide +kernel, .inr ⟨by decide +kernel, u, _, rfl, (by show ¬ (HT.sIx 3 0 (some (-1)) = 0 ∧ HT.sIx 3 3 none = 3); decide), .inr ⟨s, hs, o.2, rfl⟩, ?_, ?_⟩⟩
    · rw [show n0 "behind" = 0 by decide +kernel, Int.zero_add]; rfl
    · rw [show n1 "behind" = 1 by decide +kernel]; rfl
  | carry s =>
    obtain ⟨a, u, rfl, e, hs⟩ := h
    refine .inr ⟨a, "carry", _, rfl, e, by decide +kernel, .inr ⟨by decide +kernel, u, _, rfl, (by show ¬ (HT.sIx 2 0 (some (-1)) = 0 ∧ HT.sIx 2 2 none = 2); decide), .inr ⟨s, hs, o, rfl⟩, ?_, ?_⟩⟩
    · rw [show n0 "carry" = 0 by decide +kernel, Int.zero_add]; rfl
    · rw [show n1 "carry" = 0 by decide +kernel, Int.zero_add]; rfl
  | fin x p s =>
    obtain ⟨a, u, rfl, e, hs⟩ := h
    refine .inr ⟨a, "end", _, rfl, e, by decide +kernel, .inr ⟨by decide +kernel, u, _, rfl, (by show ¬ (HT.sIx 4 0 (some (-1)) = 0 ∧ HT.sIx 4 4 none = 4); decide), .inr ⟨s, hs, o.2, rfl⟩, ?_, ?_⟩⟩
    · rw [show n0 "end" = 1 by decide +kernel]; rfl
    · rw [show n1 "end" = 0 by decide +kernel, Int.zero_add]; rfl
  | use n =>
    obtain ⟨a, rfl, e⟩ := h
    exact .inl ⟨a, n, rfl, rfl, e⟩
theorem KidR.keep {i M : Nat} {ce cw : Nat → Int} {H H' : Hp} {d : Nat} {p : Int × Int} {v : V} (h : KidR i M ce cw H d p v) (k : TupK H H') : KidR i M ce cw H' d p v := by
  rcases h with h | ⟨s, h1, h2⟩
  · exact .inl h
  · exact .inr ⟨s, SAt.keep k _ _ _ h1, h2⟩
theorem KidsOf.keep {i M : Nat} {ce cw : Nat → Int} {H H' : Hp} {d : Nat} {nm : Str} {rest : List V} {e w : Int} (h : KidsOf i M ce cw H d nm rest e w) (k : TupK H H') : KidsOf i M ce cw H' d nm rest e w := by
  refine ⟨h.no, ?_⟩
  rcases h.kids with ⟨hb, b, vs, ps, e1, eb, pk, ee, ew⟩ | ⟨hb, u, p, eu, nw, hk, ee, ew⟩
  · exact .inl ⟨hb, b, vs, ps, e1, k _ _ eb, paired_imp pk fun _ _ z => z.keep k, ee, ew⟩
  · exact .inr ⟨hb, u, p, eu, nw, hk.keep k, ee, ew⟩
theorem SAt.ref {H : Hp} {d : Nat} {s : Sch} {v : V} (h : SAt H d s v) : ∃ a xs, v = .ref a ∧ H a = some (.tup xs) := by
  cases d with
  | zero => cases h
  | succ d =>
    cases s with
    | step x p => obtain ⟨a, e, h⟩ := h; exact ⟨a, _, e, h⟩
    | all k => obtain ⟨a, b, vs, e, h, _⟩ := h; exact ⟨a, _, e, h⟩
    | best k => obtain ⟨a, b, vs, e, h, _⟩ := h; exact ⟨a, _, e, h⟩
    | most n s => obtain ⟨a, u, e, h, _⟩ := h; exact ⟨a, _, e, h⟩
    | half s => obtain ⟨a, u, e, h, _⟩ := h; exact ⟨a, _, e, h⟩
    | seen x s => obtain ⟨a, u, e, h, _⟩ := h; exact ⟨a, _, e, h⟩
    | behind x s => obtain ⟨a, u, e, h, _⟩ := h; exact ⟨a, _, e, h⟩
    | carry s => obtain ⟨a, u, e, h, _⟩ := h; exact ⟨a, _, e, h⟩
    | fin x p s => obtain ⟨a, u, e, h, _⟩ := h; exact ⟨a, _, e, h⟩
    | use n => obtain ⟨a, e, h⟩ := h; exact ⟨a, _, e, h⟩
/-- what the laws' walks go through within a scheme -/
def tKids (K : PySem.W.Frag) : TE := tIf (tTest (tOp (rIn K false) (tOp (rIxT K) (tVar 0) (tC (.int 0))) (tTup (tCons (tC (.str "all")) (tCons (tC (.str "best")) tNil))))) (tOp (rIxT K) (tVar 0) (tC (.int 1)))
  (tSl (rSlA K) (tVar 0) (tPart (tUn (rU fun i => .int (-i)) (tC (.int 1)))) tNoPart)
theorem kids_ev {K : PySem.W.Frag} {i M : Nat} {ce cw : Nat → Int} {σ : St} {H : Hp} {d : Nat} {a : Addr} {nm : Str} {rest : List V} {e w : Int} {Q : VK} (s0 : σ[0]? = some (some (.ref a))) (ea : H a = some (.tup (.str nm :: rest))) (k : KidsOf i M ce cw H d nm rest e w)
    (h : ∀ (kd : Addr) (kv : List V) (ps : List (Int × Int)) (H1 : Hp), Same H H1 → H1 kd = some (.tup kv) → Paired (KidR i M ce cw H d) ps kv → e = n0 nm + (ps.map (·.1)).sum → w = n1 nm + (ps.map (·.2)).sum → Q (.ref kd) H1) : tKids K σ H Q := by
  refine ⟨_, s0, a, _, 0, .str nm, rfl, rfl, SqT.of ea, at0, sz2, fun t ht => ⟨t, _, rfl, .inr (SqT.of upd_same), rfl, rfl, _, rfl, ?_⟩⟩
  have s1 : Same H (upd H t (.tup [.str "all", .str "best"])) := Same.new ht
  have ea1 := s1 _ _ ea
  rcases k.kids with ⟨hb, b, vs, ps, rfl, eb, pk, ee, ew⟩ | ⟨hb, u, p, eu, nw, hk, ee, ew⟩
  · show (if isAB nm = true then _ else _)
    rw [if_pos hb]
    exact ⟨_, s0, a, _, 1, .ref b, rfl, rfl, SqT.of ea1, at1, h b vs ps _ s1 (s1 _ _ eb) pk ee ew⟩
  · show (if isAB nm = true then _ else _)
    rw [if_neg (by rw [hb]; decide)]
    refine ⟨_, s0, 1, rfl, -1, rfl, a, _, rfl, SqT.of ea1, fun z => absurd z nw, fun _ q hq => ?_⟩
    refine h q [u] [p] _ (s1.trans (Same.new hq)) (by rw [upd_same, eu]) (.cons hk .nil) ?_ ?_
    · rw [ee, List.map_singleton, List.sum_singleton]
    · rw [ew, List.map_singleton, List.sum_singleton]
def spCounted (K : PySem.W.Frag) (i M : Nat) (ce cw : Nat → Int) (d : Nat) : Sp := fun vs H Q _ => ∃ (v : V) (u : Addr) (s : Sch), vs = [v, .ref u] ∧ SAt H d s v ∧ OkS i M d s ∧ UFull H i M ce cw u ∧
  ∀ (p : Addr) (H' : Hp), Same H H' → H' p = some (.tup [.int (er ce d s), .int (wr cw d s)]) → Q (.ref p) H'
abbrev nmCounted : List Str := ["_law_scheme_here", "_law_uses", "_law_found", "_law_kid", "_law_more", "_law_one"]
abbrev psCounted : List Str := ["_law_scheme_here", "_law_uses"]
section
variable {P : Program} {w : World} {K : PySem.W.Frag} {mg : Str → Option Value} {base : Heap}
theorem counted_turn {i M d : Nat} {ce cw : Nat → Int} (D : Def K mg "_law_counted" s_L_counted psCounted) (mi : mg "int" = none) (mt : mg "tuple" = none) (mis : mg "isinstance" = none)
    (G : FnOk P w K mg base CX0 d D.f D.fd psCounted (spCounted K i M ce cw d)) : FnOk P w K mg base CX0 (d + 1) D.f D.fd psCounted (spCounted K i M ce cw (d + 1)) := by
  have nd := sc_L_counted.nd
  refine D.ok sc_L_counted (fun vs H Q E h => ?_) (fun cdv A outer s H vs Q E hr h => ?_)
  · obtain ⟨v, u, s, rfl, _⟩ := h
    rfl
  obtain ⟨v, u, sc, rfl, hs, ho, hu, q⟩ := h
  refine ⟨_, pss_cons (ps_if (pt_cmpR op_eq (pe_ix ix_tup (pv 0) pe_int (fun _ _ => rfl)) pe_str (nomark _))
      (pss_one (ps_ret (pe_ix ix_list (pe_lc (own := [("_law_one", 5)]) (g := gName 5) rfl nd (pi_list (pv 1)) (blkOk_by (N := nmCounted) (sc := defScope s_L_counted) (by decide +kernel)) (fun _ _ _ _ _ => pg_name (i := 5) nd rfl (Or.inl rfl))
          (fun _ _ _ _ _ => pts_one (pt_cmpR op_eq (pe_ix (r := rIxT K) ix_tup (pv 5) pe_int (fun _ _ => rfl)) (pe_ix (r := rIxT K) ix_tup (pv 0) pe_int (fun _ _ => rfl)) (nomark _)))
          (fun _ _ _ _ _ => pe_slice (r := rSlA K) sl_tupA (pv 5) (po_some pe_int) po_none)) pe_int (fun _ _ => rfl)))) pss_nil)
    (pss_cons (ps_set (i := 2) nd rfl (Or.inl rfl) (pe_lst (pa_cons (pe_callTy call_int1 rfl mi (by decide +kernel) (pa_cons (pe_cmpR op_in_seq (pe_ix ix_tup (pv 0) pe_int (fun _ _ => rfl)) (pe_tup (pa_cons pe_str (pa_cons pe_str pa_nil))) (by rfl)) pa_nil))
      (pa_cons (pe_callTy call_int1 rfl mi (by decide +kernel) (pa_cons (pe_cmpR op_in_seq (pe_ix ix_tup (pv 0) pe_int (fun _ _ => rfl)) (pe_tup (pa_cons pe_str (pa_cons pe_str pa_nil))) (by rfl)) pa_nil)) pa_nil))))
    (pss_cons (ps_for PassesOwn.never rfl (pi_tup (pe_ifExp (pt_cmpR op_in_seq (pe_ix ix_tup (pv 0) pe_int (fun _ _ => rfl)) (pe_tup (pa_cons pe_str (pa_cons pe_str pa_nil))) (by rfl)) (pe_ix ix_tup (pv 0) pe_int (fun _ _ => rfl)) (pe_slice sl_tupA (pv 0) (po_some (pe_un un_neg pe_int)) po_none))) (pg_name (i := 3) nd rfl (Or.inl rfl))
      (pss_one (ps_if (pt_val (pe_callB call_isi rfl mis (by decide +kernel) (pa_cons (pv 3) (pa_cons (pe_bltn rfl mt (by decide +kernel) (v := .ty "tuple") rfl) pa_nil))))
        (pss_cons (ps_set (i := 4) nd rfl (Or.inl rfl) (pcall D G hr (pa_cons (pv 3) (pa_cons (pv 1) pa_nil))))
        (pss_one (ps_set (i := 2) nd rfl (Or.inl rfl) (pe_lst (pa_cons (pe_op op_add (pe_ix ix_list (pv 2) pe_int (fun _ _ => rfl)) (pe_ix ix_tup (pv 4) pe_int (fun _ _ => rfl))) (pa_cons (pe_op op_add (pe_ix ix_list (pv 2) pe_int (fun _ _ => rfl)) (pe_ix ix_tup (pv 4) pe_int (fun _ _ => rfl))) pa_nil)))))) pss_nil)))
    (pss_one (ps_ret (pe_callTy call_tuple_of rfl mt (by decide +kernel) (pa_cons (pv 2) pa_nil)))))), ?_⟩
  rcases hs.view (ce := ce) (cw := cw) ho with ⟨a, j, rfl, rfl, ea⟩ | ⟨a, nm, rest, rfl, ea, kk⟩
  · -- a use
    refine seq_if (b := true) (fun Q q => ⟨_, rfl, a, _, 0, .str "use", rfl, rfl, SqT.of ea, at0, rfl, _, rfl, by rw [dec_str]; exact q⟩) (fun _ => ?_) (fun z => nomatch z)
    obtain ⟨js, uv, eu, jl, jf, pu⟩ := hu
    have ul := Paired.length pu
    refine ⟨_, rfl, u, rfl, ⟨_, SqL.of eu⟩, fun Dd hD => ?_⟩
    have jin : j ∈ js := jf j ho.1 ho.2
    refine lc_list (K := K) (a := u) (xs := uv) (fun k H'' => ∃ rs : List Addr, H'' Dd = some (.lst (rs.map V.ref)) ∧ Same H H'' ∧ (∀ r ∈ rs, H'' r = some (.tup [.int (ce j), .int (cw j)])) ∧ rs.length ≤ k ∧ (j ∈ js.take k → rs ≠ []))
      ⟨[], upd_same, Same.new hD, (fun _ h => nomatch h), Nat.le_refl _, fun h => by simp at h⟩ (fun k H'' _ ⟨_, _, s1, _⟩ => SqL.of (s1 _ _ eu)) ?_ ?_
    · rintro k xk H'' hk ⟨rs, eD, s1, hrs, lr, hin⟩
      obtain ⟨j', ej, t, rfl, et⟩ := paired_get' pu hk
      have et' := s1 _ _ et
      have ea' := s1 _ _ ea
      have hkl := (List.getElem?_eq_some_iff.mp hk).1
      have tk : js.take (k + 1) = js.take k ++ [j'] := by
        rw [List.take_succ, ej]
        rfl
      refine ⟨rfl, _, rfl, t, _, 0, .int ((j' : Nat) : Int), rfl, rfl, SqT.of et', at0, _, rfl, a, _, 1, .int ((j : Nat) : Int), rfl, rfl, SqT.of ea', at1, rfl, _, rfl, ?_⟩
      refine ite2 (fun c => ?_) (fun c => ?_)
      · have e : j' = j := by
          have z := V.int.inj (of_decide_eq_true c)
          omega
        subst e
        refine ⟨_, rfl, 1, rfl, t, _, rfl, SqT.of et', fun z => absurd z (by show ¬ (HT.sIx 3 0 (some 1) = 0 ∧ HT.sIx 3 3 none = 3); decide), fun _ p hp => ?_⟩
        refine ⟨_, (by rw [upd_ne (ne_of_none eD hp)]; exact eD), (by rw [List.length_map]; exact small1000 (by omega)), rs ++ [p], ?_, fun b o e => ?_, fun r hr => ?_, by simp only [List.length_append, List.length_cons, List.length_nil]; omega, fun _ => by simp⟩
        · rw [upd_same, List.map_append]
          rfl
        · rw [upd_ne (ne_of_none e hD)]
          exact Same.new hp _ _ (s1 _ _ e)
        · have nD : ∀ x xs, H'' x = some (HO.tup xs) → x ≠ Dd := fun x xs e => ne_of e eD (by intro z; cases z)
          rcases List.mem_append.mp hr with h | h
          · rw [upd_ne (nD r _ (hrs r h))]
            exact Same.new hp _ _ (hrs r h)
          · rw [List.mem_singleton.mp h, upd_ne (ne_of_none eD hp).symm, upd_same]
            rfl
      · refine ⟨rs, eD, s1, hrs, by omega, fun h => hin ?_⟩
        rw [tk] at h
        rcases List.mem_append.mp h with h | h
        · exact h
        · exact absurd (by rw [List.mem_singleton.mp h]; exact decide_eq_true rfl) c
    · rintro H'' ⟨rs, eD, s1, hrs, lr, hin⟩
      have hne := hin (by rw [List.take_of_length_le (by omega)]; exact jin)
      cases rs with
      | nil => exact absurd rfl hne
      | cons r0 rr => exact ⟨Dd, _, 0, .ref r0, rfl, rfl, SqL.of eD, at0, q r0 H'' s1 (hrs r0 List.mem_cons_self)⟩
  · refine seq_if (b := false) (fun Q q => ⟨_, rfl, a, _, 0, .str nm, rfl, rfl, SqT.of ea, at0, rfl, _, rfl, by rw [dec_str, beq_eq_false_iff_ne.mpr kk.no]; exact q⟩) (fun z => nomatch z) (fun _ => ?_)
    refine ⟨_, rfl, a, _, 0, .str nm, rfl, rfl, SqT.of ea, at0, sz2, fun t1 h1 => ⟨t1, _, rfl, .inr (SqT.of upd_same), rfl, rfl, .inr ⟨_, rfl, ?_⟩⟩⟩
    have s1 : Same H (upd H t1 (.tup [.str "step", .str "end"])) := Same.new h1
    refine ⟨_, rfl, a, _, 0, .str nm, rfl, rfl, SqT.of (s1 _ _ ea), at0, sz2, fun t2 h2 => ⟨t2, _, rfl, .inr (SqT.of upd_same), rfl, rfl, .inr ⟨_, rfl, sz2, fun fd0 hf0 => ?_⟩⟩⟩
    have s2 : Same H (upd (upd H t1 (.tup [.str "step", .str "end"])) t2 (.tup [.str "seen", .str "behind"])) := s1.trans (Same.new h2)
    have hf00 : H fd0 = none := s2.free hf0
    have s3 : Same H (upd (upd (upd H t1 (.tup [.str "step", .str "end"])) t2 (.tup [.str "seen", .str "behind"])) fd0 (.lst [.int (n0 nm), .int (n1 nm)])) := s2.trans (Same.new hf0)
    dsimp only [gName]
    refine kids_ev (K := K) (d := d) rfl (s3 _ _ ea) (kk.keep (Same.tupK s3)) (fun kd kv ps H1 s4 ekd pk ee ew => ?_)
    have s5 := s3.trans s4
    have pk1 := paired_imp pk fun _ _ z => z.keep (Same.tupK s4)
    refine ⟨kd, rfl, ⟨_, SqT.of ekd⟩, for_tup (K := K) (a := kd) (xs := kv) (fun k σ H' => ∃ (f : Addr) (v3 v4 : Option V), σ = [some (.ref a), some (.ref u), some (.ref f), v3, v4, none] ∧ H' f = some (.lst [.int (n0 nm + ((ps.take k).map (·.1)).sum), .int (n1 nm + ((ps.take k).map (·.2)).sum)]) ∧ Same H1 H')
      ⟨fd0, none, none, rfl, by rw [List.take_zero, List.map_nil, List.map_nil, List.sum_nil, Int.add_zero, Int.add_zero]; exact s4 _ _ upd_same, Same.refl _⟩ (fun k σ H' _ ⟨_, _, _, _, _, s6⟩ => SqT.of (s6 _ _ ekd)) ?_ ?_⟩
    · rintro k x σ H' hk ⟨f, v3, v4, rfl, ef, s6⟩
      obtain ⟨p, ep, hp⟩ := paired_get' pk1 hk
      have hkl := (List.getElem?_eq_some_iff.mp ep).1
      have tk : ps.take (k + 1) = ps.take k ++ [p] := by rw [List.take_succ, ep]; rfl
      rcases hp with ⟨n, rfl, rfl⟩ | ⟨s', hs', ho', rfl⟩
      · refine one_if (b := false) (fun Q q => ⟨_, rfl, _, .ty "tuple", .type "int", .type "tuple", false, rfl, .ty _, .base (.int n), kit_ty (by decide +kernel), _, rfl, q⟩) (fun z => nomatch z) (fun _ => ?_)
        refine ⟨f, _, v4, rfl, ?_, s6⟩
        rw [tk]
        simpa using ef
      · obtain ⟨t, xs, rfl, et⟩ := hs'.ref
        have et' := s6 _ _ et
        refine one_if (b := true) (fun Q q => ⟨_, rfl, _, .ty "tuple", .type "tuple", .type "tuple", true, rfl, .ty _, .base (.tup et'), kit_ty (by decide +kernel), _, rfl, q⟩) (fun _ => ?_) (fun z => nomatch z)
        refine ⟨_, rfl, _, rfl, .ref t, u, s', rfl, SAt.keep (Same.tupK s6) _ _ _ hs', ho', hu.keep (s5.trans s6), fun p H2 s7 ep => ?_⟩
        have ef' := s7 _ _ ef
        refine ⟨_, rfl, f, _, 0, .int _, rfl, rfl, SqL.of ef', at0, _, rfl, p, _, 0, .int _, rfl, rfl, SqT.of ep, at0, _, _, rfl, rfl, _, rfl, f, _, 1, .int _, rfl, rfl, SqL.of ef', at1, _, rfl, p, _, 1, .int _, rfl, rfl, SqT.of ep, at1, _, _, rfl, rfl, sz2, fun f2 hf2 => ?_⟩
        refine ⟨f2, _, _, rfl, ?_, s6.trans (s7.trans (Same.new hf2))⟩
        rw [upd_same, tk]
        simp only [List.map_append, List.sum_append, List.map_cons, List.map_nil, List.sum_cons, List.sum_nil, Int.add_zero, Int.add_assoc]
    · rintro σ H' ⟨f, v3, v4, rfl, ef, s6⟩
      have lp := Paired.length pk
      rw [← lp, List.take_length, ← ee, ← ew] at ef
      exact ⟨_, rfl, f, _, rfl, .inl ⟨SqL.of ef, fun t ht => q t _ ((s5.trans s6).trans (Same.new ht)) upd_same⟩⟩
end
end MS
end
section
set_option maxRecDepth 100000
set_option maxHeartbeats 4000000
namespace MS
open PySem L2
theorem er_congr {i M : Nat} {c c' : Nat → Int} (h : ∀ j, i < j → j < M → c j = c' j) : ∀ (d : Nat) (s : Sch), OkS i M d s → er c d s = er c' d s
  | 0, _, o => by cases o
  | _ + 1, .step _ _, _ => rfl
  | d + 1, .all k, o => by
    show (k.map (er c d)).sum = (k.map (er c' d)).sum
    rw [List.map_congr_left fun s hs => er_congr h d s (o.2.2 s hs)]
  | d + 1, .best k, o => by
    show (k.map (er c d)).sum = (k.map (er c' d)).sum
    rw [List.map_congr_left fun s hs => er_congr h d s (o.2.2 s hs)]
  | d + 1, .most _ s, o => er_congr h d s o.2
  | d + 1, .half s, o => er_congr h d s o
  | d + 1, .seen _ s, o => er_congr h d s o.2
  | d + 1, .behind _ s, o => er_congr h d s o.2
  | d + 1, .carry s, o => er_congr h d s o
  | d + 1, .fin _ _ s, o => congrArg (1 + ·) (er_congr h d s o.2)
  | _ + 1, .use n, o => h n o.1 o.2
theorem wr_congr {i M : Nat} {c c' : Nat → Int} (h : ∀ j, i < j → j < M → c j = c' j) : ∀ (d : Nat) (s : Sch), OkS i M d s → wr c d s = wr c' d s
  | 0, _, o => by cases o
  | _ + 1, .step _ _, _ => rfl
  | d + 1, .all k, o => by
    show (k.map (wr c d)).sum = (k.map (wr c' d)).sum
    rw [List.map_congr_left fun s hs => wr_congr h d s (o.2.2 s hs)]
  | d + 1, .best k, o => by
    show (k.map (wr c d)).sum = (k.map (wr c' d)).sum
    rw [List.map_congr_left fun s hs => wr_congr h d s (o.2.2 s hs)]
  | d + 1, .most _ s, o => wr_congr h d s o.2
  | d + 1, .half s, o => wr_congr h d s o
  | d + 1, .seen _ s, o => congrArg (1 + ·) (wr_congr h d s o.2)
  | d + 1, .behind _ s, o => congrArg (1 + ·) (wr_congr h d s o.2)
  | d + 1, .carry s, o => wr_congr h d s o
  | d + 1, .fin _ _ s, o => wr_congr h d s o.2
  | _ + 1, .use n, o => h n o.1 o.2
/-- a paper stands in the heap -/
def PaperAt (H : Hp) (ps : List Sch) (v : V) : Prop := ∃ a vs, v = .ref a ∧ H a = some (.tup vs) ∧ Paired (SAt H 5) ps vs
theorem PaperAt.keep {H H' : Hp} {ps : List Sch} {v : V} (h : PaperAt H ps v) (k : TupK H H') : PaperAt H' ps v := by
  obtain ⟨a, vs, e, h1, h2⟩ := h
  exact ⟨a, vs, e, k _ _ h1, paired_imp h2 fun s v => SAt.keep k _ _ _⟩
/-- the later ones from the n-th on can be -/
def TailOk (ce cw : Nat → Int) (M n : Nat) (ps : List Sch) : Prop := ∀ k s, ps[k]? = some s → OkS (n + k) M 5 s ∧ ce (n + k) = er ce 5 s ∧ cw (n + k) = wr cw 5 s ∧ sz 5 s ≤ 12 ∧ er ce 5 s ≤ 7 ∧ wr cw 5 s ≤ 3
def PaperOk (ps : List Sch) : Prop := 0 < ps.length ∧ ps.length ≤ 5 ∧ ∃ ce cw : Nat → Int, TailOk ce cw ps.length 0 ps
theorem TailOk.cons {ce cw : Nat → Int} {M n : Nat} {ps : List Sch} {s : Sch} (h : TailOk ce cw M (n + 1) ps) (o : OkS n M 5 s) (hM : n + 1 + ps.length ≤ M) (h1 : sz 5 s ≤ 12) (h2 : er ce 5 s ≤ 7) (h3 : wr cw 5 s ≤ 3) :
    TailOk (fun j => if j = n then er ce 5 s else ce j) (fun j => if j = n then wr cw 5 s else cw j) M n (s :: ps) := by
  have key : ∀ i t, n ≤ i → OkS i M 5 t → er (fun j => if j = n then er ce 5 s else ce j) 5 t = er ce 5 t ∧ wr (fun j => if j = n then wr cw 5 s else cw j) 5 t = wr cw 5 t := fun i t hi ot =>
    ⟨er_congr (fun j hj _ => if_neg (by omega)) 5 t ot, wr_congr (fun j hj _ => if_neg (by omega)) 5 t ot⟩
  intro k t e
  cases k with
  | zero =>
    obtain rfl : s = t := by simpa using e
    obtain ⟨k1, k2⟩ := key n s (Nat.le_refl _) o
    rw [k1, k2]
    exact ⟨o, if_pos rfl, if_pos rfl, h1, h2, h3⟩
  | succ k =>
    obtain ⟨q1, q2, q3, q4, q5, q6⟩ := h k t (by simpa using e)
    have en : n + 1 + k = n + (k + 1) := by omega
    rw [en] at q1 q2 q3
    obtain ⟨k1, k2⟩ := key (n + (k + 1)) t (by omega) q1
    rw [k1, k2]
    exact ⟨q1, by rw [← q2]; exact if_neg (by omega), by rw [← q3]; exact if_neg (by omega), q4, q5, q6⟩
theorem fn_any {P : Program} {w : World} {K : PySem.W.Frag} {mg : Str → Option Value} {base : Heap} {ι : Type} {sp : ι → Sp} {k : Nat} {f : Addr} {fd : FuncData} {ps : List Str} (G : ∀ i, FnOk P w K mg base CX0 k f fd ps (sp i)) : FnOk P w K mg base CX0 k f fd ps (fun vs H Q E => ∃ i, sp i vs H Q E) :=
  ⟨fun vs H Q E ⟨i, h⟩ => (G i).1 vs H Q E h, fun A outer s H args us vs Q E a1 a2 a3 a4 ⟨i, h⟩ => (G i).2 A outer s H args us vs Q E a1 a2 a3 a4 h⟩
structure Gp where
  i : Nat
  M : Nat
  ce : Nat → Int
  cw : Nat → Int
theorem cut_to (xs : List V) (k : Nat) : cutV xs none (some (k : Int)) = xs.take k := by
  unfold cutV
  rw [HT.sIx_none, HT.sIx_nat, List.drop_zero, Nat.sub_zero]
  by_cases h : k ≤ xs.length
  · rw [Nat.min_eq_left h]
  · rw [Nat.min_eq_right (by omega), List.take_of_length_le (Nat.le_refl _), List.take_of_length_le (by omega)]
theorem cut_from (xs : List V) (k : Nat) : cutV xs (some (k : Int)) none = xs.drop k := by
  unfold cutV
  rw [HT.sIx_none, HT.sIx_nat]
  by_cases h : k ≤ xs.length
  · rw [Nat.min_eq_left h, List.take_of_length_le (by rw [List.length_drop]; exact Nat.le_refl _)]
  · rw [Nat.min_eq_right (by omega), List.drop_eq_nil_of_le (Nat.le_refl _), List.drop_eq_nil_of_le (by omega)]
    simp
/-- plain steps in a row -/
def StepR (H : Hp) (s : Sch) (v : V) : Prop := ∃ x p a, s = .step x p ∧ v = V.ref a ∧ H a = some (.tup [.str "step", .str x, .int p]) ∧ IsW x ∧ 1 ≤ p ∧ p ≤ 9
theorem StepR.keep {H H' : Hp} {s : Sch} {v : V} (h : StepR H s v) (k : TupK H H') : StepR H' s v := by
  obtain ⟨x, p, a, e1, e2, e3, r⟩ := h
  exact ⟨x, p, a, e1, e2, k _ _ e3, r⟩
theorem StepR.at {H : Hp} {s : Sch} {v : V} (h : StepR H s v) (d : Nat) : SAt H (d + 1) s v := by
  obtain ⟨x, p, a, rfl, e2, e3, r⟩ := h
  exact ⟨a, e2, e3⟩
theorem steps_ok {H : Hp} {i M : Nat} {ce cw : Nat → Int} (d : Nat) : ∀ {ss : List Sch} {vs : List V}, Paired (StepR H) ss vs → (∀ s ∈ ss, OkS i M (d + 1) s) ∧ (ss.map (sz (d + 1))).sum = ss.length ∧ (ss.map (er ce (d + 1))).sum = ss.length ∧ (ss.map (wr cw (d + 1))).sum = 0
  | _, _, .nil => ⟨(fun _ h => nomatch h), rfl, rfl, rfl⟩
  | _, _, .cons h t => by
    obtain ⟨h1, h2, h3, h4⟩ := steps_ok (i := i) (M := M) (ce := ce) (cw := cw) d t
    obtain ⟨x, p, a, rfl, _, _, r1, r2⟩ := h
    refine ⟨fun s' hs' => ?_, ?_, ?_, ?_⟩
    · rcases List.mem_cons.mp hs' with rfl | hs'
      · exact ⟨r1, r2⟩
      · exact h1 s' hs'
    · rw [List.map_cons, List.sum_cons, h2, List.length_cons]
      show (1 : Int) + _ = _
      omega
    · rw [List.map_cons, List.sum_cons, h3, List.length_cons]
      show (1 : Int) + _ = _
      omega
    · rw [List.map_cons, List.sum_cons, h4]
      rfl
theorem paired_take {α β : Type} {R : α → β → Prop} : ∀ {xs : List α} {ys : List β}, Paired R xs ys → ∀ n, Paired R (xs.take n) (ys.take n)
  | _, _, .nil, n => by simp; exact .nil
  | _, _, .cons r t, 0 => .nil
  | _, _, .cons r t, n + 1 => .cons r (paired_take t n)
theorem paired_drop {α β : Type} {R : α → β → Prop} : ∀ {xs : List α} {ys : List β}, Paired R xs ys → ∀ n, Paired R (xs.drop n) (ys.drop n)
  | _, _, .nil, n => by simp; exact .nil
  | _, _, .cons r t, 0 => .cons r t
  | _, _, .cons r t, n + 1 => paired_drop t n
theorem Keep.drop {b l m : Addr} {H H1 H2 : Hp} (k1 : Keep [b, l] H H1) (k2 : Keep [b, l, m] H1 H2) (hm : H m = none) : Keep [b, l] H H2 := fun a o e n => k2 a o (k1 a o e n) fun h => by
  have ne : a ≠ m := ne_of_none e hm
  simp only [List.mem_cons, List.not_mem_nil, or_false] at h n
  rcases h with h | h | h
  · exact n (.inl h)
  · exact n (.inr h)
  · exact ne h
theorem Keep.freeN {S : List Addr} {H H' : Hp} {m : Addr} (k : Keep S H H') (hm : H' m = none) (n : m ∉ S) : H m = none := by
  cases q : H m with
  | none => rfl
  | some o =>
    have z := k m o q n
    rw [hm] at z
    cases z
theorem pick3 {x y z r : Int} (h0 : 0 ≤ r) (h1 : r < 3) : ∃ w, atI [V.int x, V.int y, V.int z] r = some (.int w) ∧ (w = x ∨ w = y ∨ w = z) := by
  have e : r = 0 ∨ r = 1 ∨ r = 2 := by omega
  rcases e with rfl | rfl | rfl
  · exact ⟨x, at0, .inl rfl⟩
  · exact ⟨y, at1, .inr (.inl rfl)⟩
  · exact ⟨z, at2, .inr (.inr rfl)⟩
theorem pick2' {x y r : Int} (h0 : 0 ≤ r) (h1 : r < 2) : ∃ w, atI [V.int x, V.int y] r = some (.int w) ∧ (w = x ∨ w = y) := by
  have e : r = 0 ∨ r = 1 := by omega
  rcases e with rfl | rfl
  · exact ⟨x, at0, .inl rfl⟩
  · exact ⟨y, at1, .inr rfl⟩
def UseR (ce cw : Nat → Int) (H : Hp) (j : Nat) (v : V) : Prop := ∃ t, v = V.ref t ∧ H t = some (.tup [.int ((j : Nat) : Int), .int (ce j), .int (cw j)])
theorem use_other {ce cw : Nat → Int} {H : Hp} {n : Nat} {x y : Int} : ∀ {js : List Nat} {uv : List V}, Paired (UseR ce cw H) js uv → (∀ j ∈ js, j ≠ n) → Paired (UseR (fun j => if j = n then x else ce j) (fun j => if j = n then y else cw j) H) js uv
  | _, _, .nil, _ => .nil
  | _, _, .cons h t, al => .cons (by
      obtain ⟨t, e1, e2⟩ := h
      exact ⟨t, e1, by simp [e2, al _ List.mem_cons_self]⟩) (use_other t fun j hj => al j (List.mem_cons_of_mem _ hj))
theorem use_new {ce cw : Nat → Int} {H : Hp} {n : Nat} {x y : Int} {p : Addr} (h : H p = some (.tup [.int ((n : Nat) : Int), .int x, .int y])) : UseR (fun j => if j = n then x else ce j) (fun j => if j = n then y else cw j) H n (.ref p) :=
  ⟨p, rfl, by simp [h]⟩
theorem Box.tup {H H' : Hp} {b l : Addr} (B : Box H b l) (k : Keep [b, l] H H') : TupK H H' := k.tup fun a ha => by
  obtain ⟨_, ⟨n, e1⟩, ns, e2⟩ := B
  rcases List.mem_cons.mp ha with rfl | ha
  · exact ⟨_, e1⟩
  · rw [List.mem_singleton.mp ha]; exact ⟨_, e2⟩
def spPaper : Sp := fun vs H Q _ => ∃ (b l L : Addr) (F : List Str), vs = [.ref b, .ref L] ∧ Box H b l ∧ L ≠ b ∧ L ≠ l ∧ H L = some (.lst (F.map V.str)) ∧ (∀ x ∈ F, IsW x) ∧ 0 < F.length ∧ F.length ≤ 8 ∧
  ∀ (v : V) (ps : List Sch) (H' : Hp), PaperAt H' ps v → PaperOk ps → Box H' b l → Keep [b, l] H H' → Q v H'
abbrev nmPaper : List Str := ["_law_box", "_law_letters_here", "_law_left", "_law_words", "_law_turn", "_law_steps", "_law_whole", "_law_many", "_law_found", "_law_uses", "_law_number", "_law_scheme_here", "_law_word"]
section
variable {P : Program} {w : World} {K : PySem.W.Frag} {mg : Str → Option Value} {base : Heap}
theorem ok_counted {i M : Nat} {ce cw : Nat → Int} (D : Def K mg "_law_counted" s_L_counted psCounted) (mi : mg "int" = none) (mt : mg "tuple" = none) (mis : mg "isinstance" = none) : ∀ d : Nat, FnOk P w K mg base CX0 d D.f D.fd psCounted (spCounted K i M ce cw d)
  | 0 => by
    have no : ∀ vs H Q E, ¬ spCounted K i M ce cw 0 vs H Q E := fun vs H Q E h => by
      obtain ⟨v, u, s, _, h, _⟩ := h
      cases h
    exact ⟨fun vs H Q E h => absurd h (no vs H Q E), fun A outer s H args us vs Q E _ _ _ _ h => absurd h (no vs H Q E)⟩
  | d + 1 => counted_turn D mi mt mis (ok_counted D mi mt mis d)
theorem ok_paper (D : Def K mg "_law_paper" s_L_paper ["_law_box", "_law_letters_here"]) (DT : Def K mg "_law_take" s_L_take ["_law_box", "_law_many"]) (DS : Def K mg "_law_scheme" s_L_scheme psScheme) (DC : Def K mg "_law_counted" s_L_counted psCounted)
    (ml : mg "len" = none) (mr : mg "range" = none) (mt : mg "tuple" = none) (mi : mg "int" = none) (mis : mg "isinstance" = none) (mli : mg "list" = none) : FnOk P w K mg base CX0 7 D.f D.fd ["_law_box", "_law_letters_here"] spPaper := by
  have GT : FnOk P w K mg base CX0 1 DT.f DT.fd ["_law_box", "_law_many"] spTake := ok_take DT
  have GS : FnOk P w K mg base CX0 6 DS.f DS.fd psScheme (fun vs H Q E => ∃ g : Gp, spScheme g.i g.M g.ce g.cw 4 vs H Q E) := fn_any fun g => ok_scheme DS DT ml mr mt 4
  have GC : FnOk P w K mg base CX0 5 DC.f DC.fd psCounted (fun vs H Q E => ∃ g : Gp, spCounted K g.i g.M g.ce g.cw 5 vs H Q E) := fn_any fun g => ok_counted DC mi mt mis 5
  have nd := sc_L_paper.nd
  refine D.ok sc_L_paper (fun vs H Q E h => ?_) (fun cdv A outer s H vs Q E hr h => ?_)
  · obtain ⟨b, l, L, F, rfl, _⟩ := h
    rfl
  obtain ⟨b, l, L, F, rfl, B, nb, nl, eL, w1, l0, l1, q⟩ := h
  have hr1 : Room 1 _ := hr.mono (by decide)
  have hr5 : Room 5 _ := hr.mono (by decide)
  refine ⟨_, pss_cons (ps_if (pt_cmpR op_eq (pcall DT GT hr1 (pa_cons (pv 0) (pa_cons pe_int pa_nil))) pe_int (nomark _))
      (pss_cons (ps_par (i := 2) (j := 3) (by rfl) nd rfl rfl (by decide) rfl rfl (pa_cons (pe_callTy (cr_listStr rfl) rfl mli (by decide +kernel) (pa_cons pe_str pa_nil)) (pa_cons (pe_lst pa_nil) pa_nil)) (by rfl))
      (pss_cons (ps_for PassesOwn.never rfl (pi_range1 rfl mr (pa_cons (pe_op op_add pe_int (pcall DT GT hr1 (pa_cons (pv 0) (pa_cons pe_int pa_nil)))) pa_nil)) (pg_name (i := 4) nd rfl (Or.inl rfl))
        (pss_one (ps_expr (pe_bm PySem.F.plainAttrs_list PySem.F.slot_list_append PySem.F.type_list_append mt_append (pv 3)
          (pa_cons (pe_bm PySem.F.plainAttrs_list PySem.F.slot_list_pop PySem.F.type_list_pop mt_popAt (pv 2) (pa_cons (pcall DT GT hr1 (pa_cons (pv 0) (pa_cons (pe_callB call_len_seq rfl ml PySem.boot_len (pa_cons (pv 2) pa_nil)) pa_nil))) pa_nil)) pa_nil)))))
      (pss_cons (ps_setLc (i := 5) (own := [("_law_word", 12)]) (g := gName 12) (tt := tYes) rfl nd rfl rfl (sw_true rfl rfl rfl (by decide +kernel)) (pi_list (pe_slice sl_list (pv 3) po_none (po_some pe_int))) (blkOk_by (N := nmPaper) (sc := defScope s_L_paper) (by decide +kernel)) (fun _ _ _ _ _ => pg_name (i := 12) nd rfl (Or.inl rfl)) (fun _ _ _ _ _ => pts_nil)
          (fun _ _ _ _ _ => pe_tup (pa_cons pe_str (pa_cons (pv 12) (pa_cons (pe_op op_add pe_int (pcall DT GT hr1 (pa_cons (pv 0) (pa_cons pe_int pa_nil)))) pa_nil)))))
      (pss_cons (ps_set (i := 6) nd rfl (Or.inl rfl) (pe_tup (pa_cons pe_str (pa_cons (pe_tup (pa_cons (pe_tup (pa_cons pe_str (pa_cons (pe_callTy call_tuple_of rfl mt (by decide +kernel) (pa_cons (pe_slice sl_list (pv 5) po_none (po_some pe_int)) pa_nil)) pa_nil)))
          (pa_cons (pe_tup (pa_cons pe_str (pa_cons (pe_callTy call_tuple_of rfl mt (by decide +kernel) (pa_cons (pe_slice sl_list (pv 5) (po_some pe_int) po_none) pa_nil)) pa_nil))) pa_nil))) pa_nil))))
      (pss_one (ps_ret (pe_tup (pa_cons (pe_ifExp (pt_cmpR op_gt (pe_callB call_len_seq rfl ml PySem.boot_len (pa_cons (pv 3) pa_nil)) pe_int (nomark _)) (pe_tup (pa_cons pe_str (pa_cons (pe_ix ix_list (pv 3) pe_int (fun _ _ => rfl)) (pa_cons (pv 6) pa_nil)))) (pv 6)) pa_nil)))))))) pss_nil)
    (pss_cons (ps_set (i := 7) nd rfl (Or.inl rfl) (pe_op op_add pe_int (pe_ix ix_list (pe_lst (pa_cons pe_int (pa_cons (pcall DT GT hr1 (pa_cons (pv 0) (pa_cons pe_int pa_nil))) (pa_cons (pcall DT GT hr1 (pa_cons (pv 0) (pa_cons pe_int pa_nil))) pa_nil)))) (pcall DT GT hr1 (pa_cons (pv 0) (pa_cons pe_int pa_nil))) (fun _ _ => rfl))))
    (pss_cons (ps_par (i := 8) (j := 9) (by rfl) nd rfl rfl (by decide) rfl rfl (pa_cons (pe_lst pa_nil) (pa_cons (pe_lst pa_nil) pa_nil)) (by rfl))
    (pss_cons (ps_for PassesOwn.never rfl (pi_range3 rfl mr (pa_cons (pe_op op_sub (pv 7) pe_int) (pa_cons (pe_un un_neg pe_int) (pa_cons (pe_un un_neg pe_int) pa_nil)))) (pg_name (i := 10) nd rfl (Or.inl rfl))
      (pss_cons (ps_set (i := 2) nd rfl (Or.inl rfl) (pe_lst (pa_cons (pe_ix ix_list (pe_lst (pa_cons pe_int (pa_cons pe_int (pa_cons pe_int pa_nil)))) (pcall DT GT hr1 (pa_cons (pv 0) (pa_cons pe_int pa_nil))) (fun _ _ => rfl))
          (pa_cons (pe_ix ix_list (pe_lst (pa_cons pe_int (pa_cons pe_int (pa_cons pe_int pa_nil)))) (pcall DT GT hr1 (pa_cons (pv 0) (pa_cons pe_int pa_nil))) (fun _ _ => rfl))
          (pa_cons (pe_ix ix_list (pe_lst (pa_cons pe_int (pa_cons pe_int pa_nil))) (pcall DT GT hr1 (pa_cons (pv 0) (pa_cons pe_int pa_nil))) (fun _ _ => rfl)) pa_nil)))))
      (pss_cons (ps_set (i := 11) nd rfl (Or.inl rfl) (pcall DS GS hr (pa_cons (pv 0) (pa_cons (pv 1) (pa_cons (pv 2) (pa_cons pe_int (pa_cons (pv 9) pa_nil)))))))
      (pss_cons (ps_set (i := 8) nd rfl (Or.inl rfl) (pe_op op_cat (pe_lst (pa_cons (pv 11) pa_nil)) (pv 8)))
      (pss_one (ps_set (i := 9) nd rfl (Or.inl rfl) (pe_op op_cat (pv 9) (pe_lst (pa_cons (pe_op op_catA (pe_tup (pa_cons (pv 10) pa_nil)) (pe_callTy call_tuple_of rfl mt (by decide +kernel) (pa_cons (pcall DC GC hr5 (pa_cons (pv 11) (pa_cons (pv 9) pa_nil))) pa_nil))) pa_nil)))))))))
    (pss_one (ps_ret (pe_callTy call_tuple_of rfl mt (by decide +kernel) (pa_cons (pv 8) pa_nil))))))), ?_⟩
  refine ⟨_, rfl, b, l, 12, rfl, by decide, by decide, B, fun r0 H1 a0 a1 B1 k1 => ?_⟩
  have nin : ∀ {x : Addr}, x ≠ b ∧ x ≠ l → x ∉ [b, l] := fun {x} h => by simp [h.1, h.2]
  refine ⟨rfl, _, rfl, ?_⟩
  refine ite2 (fun _ => ?_) (fun _ => ?_)
  · -- a paper of many words
    refine ⟨_, rfl, by decide, fun p hp => ?_⟩
    rw [letters_of]
    refine ⟨Nat.zero_le _, fun f hf => ⟨_, _, rfl, ?_⟩⟩
    have npf : p ≠ f := ne_of_none upd_same hf
    have hpf : upd (upd H1 p (.lst (wordsL.map V.str))) f (.lst []) p = some (.lst (wordsL.map V.str)) := by rw [upd_ne npf]; exact upd_same
    have k2 : Keep [b, l] H1 (upd (upd H1 p (.lst (wordsL.map V.str))) f (.lst [])) := (Keep.new hp).trans (Keep.new hf)
    have hf0 : H1 f = none := (Same.new hp).free hf
    have nfb := B1.ne_new hf0
    have npb := B1.ne_new hp
    have B2 : Box (upd (upd H1 p (.lst (wordsL.map V.str))) f (.lst [])) b l := (B1.new hp).put nfb.1 nfb.2
    refine ⟨_, rfl, b, l, 3, rfl, by decide, by decide, B2, fun r H3 b0 b1 B3 k3 => ⟨_, _, rfl, rfl, _, rfl, by omega, by omega, ?_⟩⟩
    refine for_range (lo := 0) (n := (6 + r).toNat) (fun i σ H' => ∃ (W F : List Str) (v : Option V), σ = [some (.ref b), some (.ref L), some (.ref p), some (.ref f), v, none, none, none, none, none, none, none, none] ∧ H' p = some (.lst (W.map V.str)) ∧ H' f = some (.lst (F.map V.str)) ∧
        W.length + i = 8 ∧ F.length = i ∧ (∀ x ∈ W, IsW x) ∧ (∀ x ∈ F, IsW x) ∧ Box H' b l ∧ Keep [b, l] H1 H')
      ⟨wordsL, [], none, rfl, k3 _ _ hpf (nin npb), k3 _ _ upd_same (nin nfb), rfl, rfl, fun _ h => h, (fun _ h => nomatch h), B3, k2.trans k3⟩ ?_ ?_
    · rintro i σ H' hi ⟨W, F, v, rfl, e1, e2, l1, l2, w1, w2, B', k'⟩
      have hW : 0 < W.length := by omega
      refine ⟨_, rfl, .inl ⟨rfl, _, SqL.of e2⟩, _, rfl, .inl ⟨rfl, _, SqL.of e1⟩, _, rfl, _, rfl, p, _, rfl, .inl (SqL.of e1), b, l, _, rfl, (by rw [List.length_map]; omega), (by rw [List.length_map]; omega), B', fun r H2' r0 r1' B2' k2' => ?_⟩
      rw [List.length_map] at r1'
      have hr' : r.toNat < W.length := by omega
      have e1' := k2' _ _ e1 (nin npb)
      have e2' := k2' _ _ e2 (nin nfb)
      refine ⟨p, _, r, r.toNat, .str (W[r.toNat]'hr'), rfl, rfl, e1', by omega, by omega, seq_of r0 (by rw [List.length_map]; exact r1'), get_map V.str W hr', ?_⟩
      refine ⟨f, _, _, rfl, rfl, (by rw [upd_ne npf.symm]; exact e2'), (by rw [List.length_map]; exact small1000 (by omega)), ?_⟩
      refine ⟨W.eraseIdx r.toNat, F ++ [W[r.toNat]'hr'], _, rfl, ?_, ?_, ?_, ?_, fun x hx => w1 x (mem_eraseIdx hx), fun x hx => ?_, (B2'.put npb.1 npb.2).put nfb.1 nfb.2, ((k'.trans k2').newer hp).newer hf0⟩
      · rw [upd_ne npf, upd_same, map_erase]
      · rw [upd_same, List.map_append]
        rfl
      · rw [List.length_eraseIdx_of_lt hr']
        omega
      · rw [List.length_append, l2]
        rfl
      · rcases List.mem_append.mp hx with hx | hx
        · exact w2 x hx
        · rw [List.mem_singleton.mp hx]
          exact w1 _ (List.getElem_mem hr')
    · rintro σ H4 ⟨W, F, v, rfl, e1, e2, l1, l2, w1, w2, B4, k4⟩
      have F6 : 6 ≤ F.length ∧ F.length ≤ 8 := by omega
      refine ⟨_, rfl, 7, rfl, f, _, rfl, SqL.of e2, fun q1 hq1 => ?_⟩
      have ec : cutV (F.map V.str) none (some 7) = (F.take 7).map V.str := by rw [List.map_take]; exact cut_to _ 7
      rw [ec]
      refine ⟨q1, rfl, ⟨_, SqL.of upd_same⟩, fun Dd hD => ?_⟩
      have nqD : q1 ≠ Dd := ne_of_none upd_same hD
      have B5 := B4.new (o := .lst ((F.take 7).map V.str)) hq1
      have hD4 : H4 Dd = none := (Same.new hq1).free hD
      have k5 : Keep [b, l] H1 (upd (upd H4 q1 (.lst ((F.take 7).map V.str))) Dd (.lst [])) := k4.trans ((Keep.new hq1).trans (Keep.new hD))
      have nDb := B4.ne_new hD4
      refine lc_list (K := K) (a := q1) (xs := (F.take 7).map V.str) (fun k H'' => ∃ (ss : List Sch) (vs' : List V), H'' Dd = some (.lst vs') ∧ ss.length = k ∧ Paired (StepR H'') ss vs' ∧ Box H'' b l ∧ Keep [b, l] (upd H4 q1 (.lst ((F.take 7).map V.str))) H'')
        ⟨[], [], upd_same, rfl, .nil, B5.put nDb.1 nDb.2, Keep.new hD⟩ (fun k H'' _ ⟨_, _, _, _, _, _, kk⟩ => SqL.of (kk _ _ upd_same (B4.nin hq1))) ?_ ?_
      · rintro k x H'' hk ⟨ss, vs', eD, ls, pw, B6, k6⟩
        obtain ⟨y, hy, rfl⟩ := List.mem_map.mp (List.mem_of_getElem? hk)
        have yw := w2 y (List.mem_of_mem_take hy)
        have hkl := (List.getElem?_eq_some_iff.mp hk).1
        rw [List.length_map, List.length_take] at hkl
        refine ⟨rfl, _, rfl, _, rfl, b, l, 9, rfl, by decide, by decide, B6, fun r H7 c0 c1 B7 k7 => ⟨_, _, rfl, rfl, (by show 3 ≤ sizeLine; decide), fun t ht => ?_⟩⟩
        have eD7 := k7 _ _ eD (nin nDb)
        have nDt : Dd ≠ t := ne_of_none eD7 ht
        have lv := Paired.length pw
        have t7 : TupK H'' H7 := k7.tup fun a ha => by
          obtain ⟨_, ⟨n, e1⟩, ns, e2⟩ := B6
          rcases List.mem_cons.mp ha with rfl | ha
          · exact ⟨_, e1⟩
          · rw [List.mem_singleton.mp ha]; exact ⟨_, e2⟩
        have eD8 : upd H7 t (.tup [.str "step", .str y, .int (1 + r)]) Dd = some (.lst vs') := by rw [upd_ne nDt]; exact eD7
        have t8 : TupK H7 (upd (upd H7 t (.tup [.str "step", .str y, .int (1 + r)])) Dd (.lst (vs' ++ [.ref t]))) := (TupK.new ht).trans (TupK.put eD8)
        refine ⟨vs', eD8, small1000 (by omega), ss ++ [.step y (1 + r)], vs' ++ [.ref t], upd_same, by simp [ls], paired_snoc (paired_imp pw fun s' v' h => h.keep (t7.trans t8)) ⟨y, 1 + r, t, rfl, rfl, by rw [upd_ne nDt.symm]; exact upd_same, yw, by omega, by omega⟩, ((B7.new ht).put nDb.1 nDb.2), ?_⟩
        exact ((k6.trans k7).trans (Keep.new ht)).newer (by rw [upd_ne (ne_of_none upd_same hD).symm] <;> exact hD4)
      · rintro H5 ⟨ss, vs', eD, ls, pw, B6, k6⟩
        rw [List.length_map, List.length_take] at ls
        have k4' : Keep [b, l] H4 H5 := (Keep.new hq1).trans k6
        have e2' := k4' _ _ e2 (nin nfb)
        dsimp only [gName]
        refine ⟨_, rfl, 4, rfl, Dd, _, rfl, SqL.of eD, fun s2 hs2 => ⟨s2, _, rfl, .inl ⟨SqL.of upd_same, fun t2 ht2 => ⟨sz2, fun A1 hA1 => ?_⟩⟩⟩⟩
        have eDx := Same.new (o := .tup [.str "all", .ref t2]) hA1 _ _ (Same.new (o := .tup (cutV vs' none (some 4))) ht2 _ _ (Same.new (o := .lst (cutV vs' none (some 4))) hs2 _ _ eD))
        refine ⟨_, rfl, 4, rfl, Dd, _, rfl, SqL.of eDx, fun s3 hs3 => ⟨s3, _, rfl, .inl ⟨SqL.of upd_same, fun t3 ht3 => ⟨sz2, fun A2 hA2 => ⟨sz2, fun A3 hA3 => ⟨sz2, fun A4 hA4 => ?_⟩⟩⟩⟩⟩⟩
        have c1 : cutV vs' none (some 4) = vs'.take 4 := cut_to _ 4
        have c2 : cutV vs' (some 4) none = vs'.drop 4 := cut_from _ 4
        have o4 := Same.new (o := .tup [.str "all", .ref A3]) hA4
        have o3 := (Same.new (o := .tup [.ref A1, .ref A2]) hA3).trans o4
        have o2 := (Same.new (o := .tup [.str "best", .ref t3]) hA2).trans o3
        have ot3 := (Same.new (o := .tup (cutV vs' (some 4) none)) ht3).trans o2
        have os3 := (Same.new (o := .lst (cutV vs' (some 4) none)) hs3).trans ot3
        have o1 := (Same.new (o := .tup [.str "all", .ref t2]) hA1).trans os3
        have ot2 := (Same.new (o := .tup (cutV vs' none (some 4))) ht2).trans o1
        have o5 := (Same.new (o := .lst (cutV vs' none (some 4))) hs2).trans ot2
        have f3 := o4 _ _ (upd_same (a := A3) (o := .tup [.ref A1, .ref A2]))
        have f2 := o3 _ _ (upd_same (a := A2) (o := .tup [.str "best", .ref t3]))
        have ft3 := o2 _ _ (upd_same (a := t3) (o := .tup (cutV vs' (some 4) none)))
        have f1 := os3 _ _ (upd_same (a := A1) (o := .tup [.str "all", .ref t2]))
        have ft2 := o1 _ _ (upd_same (a := t2) (o := .tup (cutV vs' none (some 4))))
        dsimp only [gName]
        have e2f := o5 _ _ e2'
        have lF : (F.map V.str).length = F.length := List.length_map _
        have ss6 : 6 ≤ ss.length ∧ ss.length ≤ 7 := by omega
        have pwA := paired_take pw 4
        have pwB := paired_drop pw 4
        have B8 : Box _ b l := B6.keep (S := []) (fun a o e _ => o5 _ _ e) (by simp) (by simp)
        have k8 : Keep [b, l] H _ := k1.trans (k4.trans (k4'.trans (fun a o e _ => o5 _ _ e)))
        -- the whole, at any depth
        have wholeAt : ∀ (d : Nat) (Hf : Hp), TupK _ Hf → SAt Hf (d + 3) (.all [.all (ss.take 4), .best (ss.drop 4)]) (.ref A4) := fun d Hf kt =>
          ⟨A4, A3, _, rfl, kt _ _ upd_same, kt _ _ f3, .cons ⟨A1, t2, _, rfl, kt _ _ f1, (show Hf t2 = some (.tup (vs'.take 4)) by rw [← c1]; exact kt _ _ ft2), paired_imp pwA fun s' v' h => ((h.keep (Same.tupK o5)).keep kt).at d⟩ (.cons ⟨A2, t3, _, rfl, kt _ _ f2, (show Hf t3 = some (.tup (vs'.drop 4)) by rw [← c2]; exact kt _ _ ft3), paired_imp pwB fun s' v' h => ((h.keep (Same.tupK o5)).keep kt).at d⟩ .nil)⟩
        have wholeOk : ∀ d, OkS 0 1 (d + 3) (.all [.all (ss.take 4), .best (ss.drop 4)]) ∧ sz (d + 3) (.all [.all (ss.take 4), .best (ss.drop 4)]) ≤ 10 ∧ er (fun _ => 0) (d + 3) (.all [.all (ss.take 4), .best (ss.drop 4)]) ≤ 7 ∧ wr (fun _ => 0) (d + 3) (.all [.all (ss.take 4), .best (ss.drop 4)]) = 0 := fun d => by
          obtain ⟨a1, a2, a3, a4⟩ := steps_ok (i := 0) (M := 1) (ce := fun _ => 0) (cw := fun _ => 0) d pwA
          obtain ⟨d1, d2, d3, d4⟩ := steps_ok (i := 0) (M := 1) (ce := fun _ => 0) (cw := fun _ => 0) d pwB
          rw [List.length_take] at a2 a3
          rw [List.length_drop] at d2 d3
          have lA : (ss.take 4).length = 4 := by rw [List.length_take]; omega
          have lB : (ss.drop 4).length = ss.length - 4 := List.length_drop
          refine ⟨⟨by simp, by simp, fun s' hs' => ?_⟩, ?_, ?_, ?_⟩
          · rcases List.mem_cons.mp hs' with rfl | hs'
            · exact ⟨by omega, by omega, a1⟩
            · rw [List.mem_singleton.mp hs']
              exact ⟨by omega, by omega, d1⟩
          · show 1 + ((1 + ((ss.take 4).map (sz (d + 1))).sum) + ((1 + ((ss.drop 4).map (sz (d + 1))).sum) + 0)) ≤ 10
            omega
          · show (((ss.take 4).map (er (fun _ => 0) (d + 1))).sum) + ((((ss.drop 4).map (er (fun _ => 0) (d + 1))).sum) + 0) ≤ 7
            omega
          · show (((ss.take 4).map (wr (fun _ => 0) (d + 1))).sum) + ((((ss.drop 4).map (wr (fun _ => 0) (d + 1))).sum) + 0) = 0
            omega
        refine ⟨_, rfl, f, _, rfl, .inl (SqL.of e2f), _, _, rfl, rfl, _, rfl, ?_⟩
        refine ite2 (fun c => ?_) (fun c => ?_)
        · have c8 : 7 < F.length := by
            have z := of_decide_eq_true c
            rw [lF] at z
            omega
          refine ⟨_, rfl, f, _, 7, .str (F[7]'c8), rfl, rfl, SqL.of e2f, at_of (j := 7) rfl (get_map V.str F c8), _, rfl, (by show 3 ≤ sizeLine; decide), fun A5 hA5 => ?_⟩
          refine ⟨(by show 1 ≤ sizeLine; decide), fun R hR => ?_⟩
          have oR := (Same.new (o := .tup [.str "seen", .str (F[7]'c8), .ref A4]) hA5).trans (Same.new (o := .tup [.ref A5]) hR)
          obtain ⟨w1', w2', w3', w4'⟩ := wholeOk 1
          refine q (.ref R) [.seen (F[7]'c8) (.all [.all (ss.take 4), .best (ss.drop 4)])] _ ⟨R, _, rfl, upd_same, .cons ⟨A5, _, rfl, Same.new hR _ _ upd_same, wholeAt 1 _ (Same.tupK oR)⟩ .nil⟩ ⟨by simp, by simp, fun _ => er (fun _ => 0) 5 (.seen (F[7]'c8) (.all [.all (ss.take 4), .best (ss.drop 4)])), fun _ => wr (fun _ => 0) 5 (.seen (F[7]'c8) (.all [.all (ss.take 4), .best (ss.drop 4)])), ?_⟩
            (B8.keep (S := []) (fun a o e _ => oR _ _ e) (by simp) (by simp)) (k8.trans (fun a o e _ => oR _ _ e))
          intro k s' hk
          cases k with
          | succ k => simp at hk
          | zero =>
            obtain rfl : _ = s' := by simpa using hk
            have o := (show OkS 0 1 5 (.seen (F[7]'c8) (.all [.all (ss.take 4), .best (ss.drop 4)])) from ⟨w2 _ (List.getElem_mem c8), w1'⟩)
            refine ⟨o, (er_congr (fun j h1 h2 => by omega) 5 _ o), (wr_congr (fun j h1 h2 => by omega) 5 _ o), ?_, ?_, ?_⟩
            · show 1 + sz (1 + 3) _ ≤ 12
              omega
            · rw [er_congr (c' := fun _ => 0) (fun j h1 h2 => by omega) 5 _ o]
              exact w3'
            · rw [wr_congr (c' := fun _ => 0) (fun j h1 h2 => by omega) 5 _ o]
              show 1 + wr (fun _ => 0) (1 + 3) _ ≤ 3
              omega
        · refine ⟨_, rfl, (by show 1 ≤ sizeLine; decide), fun R hR => ?_⟩
          have oR := (Same.new (o := .tup [.ref A4]) hR)
          obtain ⟨w1', w2', w3', w4'⟩ := wholeOk 2
          refine q (.ref R) [.all [.all (ss.take 4), .best (ss.drop 4)]] _ ⟨R, _, rfl, upd_same, .cons (wholeAt 2 _ (Same.tupK oR)) .nil⟩ ⟨by simp, by simp, fun _ => er (fun _ => 0) 5 (.all [.all (ss.take 4), .best (ss.drop 4)]), fun _ => wr (fun _ => 0) 5 (.all [.all (ss.take 4), .best (ss.drop 4)]), ?_⟩
            (B8.keep (S := []) (fun a o e _ => oR _ _ e) (by simp) (by simp)) (k8.trans (fun a o e _ => oR _ _ e))
          intro k s' hk
          cases k with
          | succ k => simp at hk
          | zero =>
            obtain rfl : _ = s' := by simpa using hk
            refine ⟨w1', (er_congr (fun j h1 h2 => by omega) 5 _ w1'), (wr_congr (fun j h1 h2 => by omega) 5 _ w1'), Int.le_trans w2' (by decide), ?_, ?_⟩
            · rw [er_congr (c' := fun _ => 0) (fun j h1 h2 => by omega) 5 _ w1']
              exact w3'
            · rw [wr_congr (c' := fun _ => 0) (fun j h1 h2 => by omega) 5 _ w1']
              exact Int.le_trans (Int.le_of_eq w4') (by decide)
  · refine ⟨_, rfl, b, l, 3, rfl, by decide, by decide, B1, fun r1 H2 b0 b1 B2 k2 => ?_⟩
    refine ⟨_, rfl, b, l, 5, rfl, by decide, by decide, B2, fun r2 H3 c0 c1 B3 k3 => ⟨(by show 3 ≤ sizeLine; decide), fun T hT => ?_⟩⟩
    refine ⟨_, rfl, b, l, 3, rfl, by decide, by decide, B3.new hT, fun r3 H4 d0 d1 B4 k4 => ?_⟩
    have eT := k4 _ _ upd_same (B3.nin hT)
    obtain ⟨mm, em, hmm⟩ := pick3 (x := 0) (y := r1) (z := r2) d0 d1
    have mm0 : 0 ≤ mm ∧ mm ≤ 4 := by omega
    refine ⟨T, _, r3, .int mm, rfl, rfl, SqL.of eT, em, _, _, rfl, rfl, ?_⟩
    have kk4 : Keep [b, l] H H4 := k1.trans (k2.trans (k3.trans ((Keep.new hT).trans k4)))
    refine ⟨Nat.zero_le _, fun f0 hf0 => ⟨Nat.zero_le _, fun u0 hu0 => ⟨_, _, rfl, ?_⟩⟩⟩
    have hu00 : H4 u0 = none := (Same.new hf0).free hu0
    have nfu : f0 ≠ u0 := ne_of_none upd_same hu0
    have B5 := (B4.new (o := .lst []) hf0).new (o := .lst []) hu0
    have kk5 : Keep [b, l] H (upd (upd H4 f0 (.lst [])) u0 (.lst [])) := kk4.trans ((Keep.new hf0).trans (Keep.new hu0))
    have hM : ∃ M : Nat, (M : Int) = 1 + mm := ⟨(1 + mm).toNat, by omega⟩
    obtain ⟨M, eM⟩ := hM
    refine ⟨_, rfl, _, _, rfl, rfl, 1, rfl, 1, rfl, 1 + mm - 1, -1, -1, (1 + mm - 1 - -1).toNat, rfl, RgC.neg (by omega) (by omega) (by decide) (by decide), ?_⟩
    have en : (1 + mm - 1 - -1).toNat = M := by omega
    rw [en]
    refine for_rangeC (lo := 1 + mm - 1) (c := -1) (n := M) (fun k σ H' => ∃ (f u : Addr) (vs : List V) (ps : List Sch) (js : List Nat) (uv : List V) (ce cw : Nat → Int) (v2 v10 v11 : Option V), σ = [some (.ref b), some (.ref L), v2, none, none, none, none, some (.int (1 + mm)), some (.ref f), some (.ref u), v10, v11, none] ∧
        H' f = some (.lst vs) ∧ H' u = some (.lst uv) ∧ (u ≠ b ∧ u ≠ l) ∧ (f ≠ b ∧ f ≠ l) ∧ Paired (SAt H' 5) ps vs ∧ ps.length = k ∧ k ≤ M ∧ TailOk ce cw M (M - k) ps ∧ Paired (UseR ce cw H') js uv ∧ (∀ j, j ∈ js ↔ M - k ≤ j ∧ j < M) ∧ js.length = k ∧ Box H' b l ∧ Keep [b, l] H H')
      ⟨f0, u0, [], [], [], [], fun _ => 0, fun _ => 0, none, none, none, rfl, by rw [upd_ne nfu]; exact upd_same, upd_same, B4.ne_new hu00, B4.ne_new hf0, .nil, rfl, Nat.zero_le _, (fun k s h => by simp at h), .nil, (fun j => ⟨(fun h => nomatch h), fun h => by omega⟩), rfl, B5, kk5⟩ ?_ ?_
    · rintro k σ H' hk ⟨f, u, vs, ps, js, uv, ce, cw, v2, v10, v11, rfl, ef, eu, nu, nf, pp, lp, kM, tl, pu, iff, lj, B', k'⟩
      refine ⟨(by show 3 ≤ sizeLine; decide), fun T1 hT1 => ⟨_, rfl, b, l, 3, rfl, by decide, by decide, B'.new hT1, fun q1 H5 _ _ B5 k5 => ?_⟩⟩
      have eT1 := k5 _ _ upd_same (B'.nin hT1)
      obtain ⟨x, ex, hx⟩ := pick3 (x := 4) (y := 8) (z := 12) (r := q1) (by assumption) (by assumption)
      refine ⟨T1, _, q1, .int x, rfl, rfl, SqL.of eT1, ex, ?_⟩
      refine ⟨(by show 3 ≤ sizeLine; decide), fun T2 hT2 => ⟨_, rfl, b, l, 3, rfl, by decide, by decide, B5.new hT2, fun q2 H6 g0 g1 B6 k6 => ?_⟩⟩
      have eT2 := k6 _ _ upd_same (B5.nin hT2)
      obtain ⟨y, ey, hy⟩ := pick3 (x := 2) (y := 4) (z := 7) (r := q2) g0 g1
      refine ⟨T2, _, q2, .int y, rfl, rfl, SqL.of eT2, ey, ?_⟩
      refine ⟨sz2, fun T3 hT3 => ⟨_, rfl, b, l, 2, rfl, by decide, by decide, B6.new hT3, fun q3 H7 h0 h1 B7 k7 => ?_⟩⟩
      have eT3 := k7 _ _ upd_same (B6.nin hT3)
      obtain ⟨z, ez, hz⟩ := pick2' (x := 1) (y := 3) (r := q3) h0 h1
      refine ⟨T3, _, q3, .int z, rfl, rfl, SqL.of eT3, ez, ?_⟩
      refine ⟨(by show 3 ≤ sizeLine; decide), fun m hm => ?_⟩
      have kk7 : Keep [b, l] H' H7 := (Keep.new hT1).trans (k5.trans ((Keep.new hT2).trans (k6.trans ((Keep.new hT3).trans k7))))
      have B8 := B7.new (o := .lst [.int x, .int y, .int z]) hm
      have kk8 : Keep [b, l] H' (upd H7 m (.lst [.int x, .int y, .int z])) := kk7.trans (Keep.new hm)
      have t8 := B'.tup kk8
      have eu8 := kk8 _ _ eu (nin nu)
      have nmb := B7.ne_new hm
      have eL7 := (k'.trans kk7) _ _ eL (nin ⟨nb, nl⟩)
      have eu7 := kk7 _ _ eu (nin nu)
      have nLm : L ≠ m := ne_of_none eL7 hm
      have num : u ≠ m := ne_of_none eu7 hm
      have pu8 : Paired (UseR ce cw (upd H7 m (.lst [.int x, .int y, .int z]))) js uv := paired_imp pu fun j v ⟨t, e1, e2⟩ => ⟨t, e1, t8 _ _ e2⟩
      have jM : js.length ≤ 5 := by omega
      have g : GenAt (M - 1 - k) M ce cw (upd H7 m (.lst [.int x, .int y, .int z])) b l L m u F x y z :=
        ⟨B8, upd_same, by rw [upd_ne nLm]; exact eL7, w1, l0, l1, ⟨js, uv, eu8, jM, fun j hj => (by have := (iff j).mp hj; omega), pu8⟩, nmb, by simp [nb, nl, nLm], by simp [nu.1, nu.2, num]⟩
      dsimp only [gName]
      refine ⟨_, rfl, _, rfl, _, rfl, _, rfl, ⟨M - 1 - k, M, ce, cw⟩, b, l, L, m, u, F, x, y, z, rfl, g, by omega, by omega, by omega, fun v s H9 x' y' z' sa so e1 e2 e3 p1 p2 p3 el B9 k9 => ?_⟩
      have g9 := g.move k9 B9 el
      have hm' : H' m = none := kk7.freeN hm (nin nmb)
      have k10 : Keep [b, l] H' H9 := Keep.drop kk8 k9 hm'
      have t10 := B'.tup k10
      have ef10 := k10 _ _ ef (nin nf)
      have eu10 := k10 _ _ eu (nin nu)
      have lv := Paired.length pp
      have lu := Paired.length pu
      dsimp only [gName]
      refine ⟨_, rfl, (by show 1 ≤ sizeLine; decide), fun X1 hX1 => ⟨_, rfl, X1, f, _, _, rfl, rfl, upd_same, Same.new hX1 _ _ ef10, szN (by simp only [List.length_cons, List.length_nil]; omega), fun f2 hf2 => ?_⟩⟩
      have o1 := (Same.new (o := .lst [v]) hX1).trans (Same.new (o := .lst ([v] ++ vs)) hf2)
      refine ⟨_, rfl, _, rfl, (by show 1 ≤ sizeLine; decide), fun t1 ht1 => ?_⟩
      have o2 := o1.trans (Same.new (o := .tup [.int (1 + mm - 1 + ((k : Nat) : Int) * -1)]) ht1)
      have eNum : 1 + mm - 1 + ((k : Nat) : Int) * -1 = ((M - 1 - k : Nat) : Int) := by omega
      refine ⟨_, rfl, _, rfl, ⟨M - 1 - k, M, ce, cw⟩, v, u, s, rfl, SAt.keep (Same.tupK o2) _ _ _ sa, so, ⟨js, uv, o2 _ _ eu10, jM, fun j h1 h2 => (iff j).mpr ⟨by have h1' : M - 1 - k < j := h1; omega, h2⟩, paired_imp pu fun j v ⟨t, e1, e2⟩ => ⟨t, e1, (Same.tupK o2) _ _ (t10 _ _ e2)⟩⟩, fun p H6 s6 ep => ?_⟩
      have o3 := o2.trans s6
      refine ⟨p, _, rfl, .inr ⟨SqT.of ep, t1, p, _, _, rfl, rfl, SqT.of (s6 _ _ upd_same), SqT.of ep, (by show 3 ≤ sizeLine; decide), (fun z => nomatch z), (fun _ z => nomatch z), fun _ _ p2 hp2 => ⟨(by show 1 ≤ sizeLine; decide), fun w1 hw1 => ?_⟩⟩⟩
      have o4 := (Same.new (o := .tup ([.int (1 + mm - 1 + ((k : Nat) : Int) * -1)] ++ [.int (er ce 5 s), .int (wr cw 5 s)])) hp2)
      have o5 := o4.trans (Same.new (o := .lst [.ref p2]) hw1)
      refine ⟨u, w1, _, _, rfl, rfl, o5 _ _ (o3 _ _ eu10), upd_same, szN (by simp only [List.length_cons, List.length_nil]; omega), fun u2 hu2 => ?_⟩
      have o6 := o5.trans (Same.new (o := .lst (uv ++ [.ref p2])) hu2)
      have oAll := o3.trans o6
      have tAll := Same.tupK oAll
      have B10 := B9.keep (S := []) (fun a o e _ => oAll _ _ e) (by simp) (by simp)
      have kAll : Keep [b, l] H' _ := k10.trans (fun a o e _ => oAll _ _ e)
      have hN : M - (k + 1) = M - 1 - k := by omega
      have hN1 : M - 1 - k + 1 = M - k := by omega
      have e1' : sz 5 s = x - x' := e1
      have e2' : er ce 5 s = y - y' := e2
      have e3' : wr cw 5 s = z - z' := e3
      have tl0 : TailOk ce cw M (M - 1 - k + 1) ps := by rw [hN1]; exact tl
      have tl' := TailOk.cons (n := M - 1 - k) (s := s) tl0 so (show M - 1 - k + 1 + ps.length ≤ M by omega) (show sz 5 s ≤ 12 by omega) (show er ce 5 s ≤ 7 by omega) (show wr cw 5 s ≤ 3 by omega)
      have f2b := B9.ne_new (hX1 : H9 X1 = none)
      refine ⟨f2, u2, [v] ++ vs, s :: ps, js ++ [M - 1 - k], uv ++ [.ref p2], _, _, _, _, _, rfl, ?_, upd_same, ?_, ?_, ?_, by simp only [List.length_cons]; omega, by omega, by rw [hN]; exact tl', ?_, fun j => ?_, by simp only [List.length_append, List.length_cons, List.length_nil]; omega, B10, k'.trans kAll⟩
      · exact (Same.new (o := .tup [.int (1 + mm - 1 + ((k : Nat) : Int) * -1)]) ht1).trans (s6.trans o6) _ _ upd_same
      · exact (B9.keep (S := []) (fun a o e _ => o3.trans o5 _ _ e) (by simp) (by simp)).ne_new hu2
      · exact (B9.new (o := .lst [v]) hX1).ne_new hf2
      · exact .cons (SAt.keep tAll _ _ _ sa) (paired_imp pp fun s' v' h => SAt.keep (t10.trans tAll) _ _ _ h)
      · have al : ∀ j ∈ js, j ≠ M - 1 - k := fun j hj => by have := (iff j).mp hj; omega
        have z := ((Same.new (o := .lst [.ref p2]) hw1).trans (Same.new (o := .lst (uv ++ [.ref p2])) hu2)) _ _ (upd_same (a := p2) (o := .tup ([.int (1 + mm - 1 + ((k : Nat) : Int) * -1)] ++ [.int (er ce 5 s), .int (wr cw 5 s)])))
        have z2 := z.trans (by rw [eNum]; rfl : some (HO.tup ([V.int (1 + mm - 1 + ((k : Nat) : Int) * -1)] ++ [V.int (er ce 5 s), V.int (wr cw 5 s)])) = some (.tup [V.int ((M - 1 - k : Nat) : Int), V.int (er ce 5 s), V.int (wr cw 5 s)]))
        exact paired_snoc (use_other (paired_imp pu fun j v ⟨t, e1, e2⟩ => ⟨t, e1, tAll _ _ (t10 _ _ e2)⟩) al) (use_new z2)
      · rw [List.mem_append, List.mem_singleton, iff j]
        omega
    · rintro σ H' ⟨f, u, vs, ps, js, uv, ce, cw, v2, v10, v11, rfl, ef, eu, nu, nf, pp, lp, kM, tl, pu, iff, lj, B', k'⟩
      refine ⟨_, rfl, f, _, rfl, .inl ⟨SqL.of ef, fun t ht => ?_⟩⟩
      refine q (.ref t) ps _ ⟨t, vs, rfl, upd_same, paired_imp pp fun s v h => SAt.keep (TupK.new ht) _ _ _ h⟩ ⟨by omega, by omega, ce, cw, ?_⟩ (B'.new ht) (k'.trans (Keep.new ht))
      rw [lp]
      rw [Nat.sub_self] at tl
      exact tl
end
end MS
end
section
set_option maxRecDepth 100000
set_option maxHeartbeats 4000000
namespace MS
open PySem L2
def shapesL : List (Str × List Str) := [("step", ["word", "points"]), ("all", ["schemes"]), ("best", ["schemes"]), ("most", ["limit", "scheme"]), ("half", ["scheme"]), ("seen", ["word", "scheme"]), ("behind", ["word", "scheme"]), ("carry", ["scheme"]), ("end", ["word", "points", "scheme"]), ("use", ["later"])]
def freeL : List Str := ["len", "list", "range", "tuple", "int", "isinstance", "any", "all", "zip", "enumerate", "str", "bool", "min", "max", "sum", "sorted", "set", "reversed"]
/-- what the program's top leaves -/
structure PTx (w : World) (K : PySem.W.Frag) (mg : Str → Option Value) : Prop where
  words : ∃ a, mg "WORDS" = some (.ref a) ∧ ∀ H, SqT K H a (wordsL.map V.str)
  right : ∃ t, mg "RIGHT" = some (.str "r" t)
  wrong : ∃ t, mg "WRONG" = some (.str "w" t)
  carried : ∃ t, mg "CARRIED" = some (.str "c" t)
  mostSteps : ∃ t, mg "MOST_STEPS" = some (.int 12 t)
  mostWithin : ∃ t, mg "MOST_WITHIN" = some (.int 4 t)
  mostInPaper : ∃ t, mg "MOST_IN_PAPER" = some (.int 5 t)
  mostInScheme : ∃ t, mg "MOST_IN_SCHEME" = some (.int 12 t)
  longest : ∃ t, mg "LONGEST_PLACE" = some (.int 4 t)
  mostE : ∃ t, mg "MOST_EARNERS" = some (.int 7 t)
  mostW : ∃ t, mg "MOST_WATCHERS" = some (.int 3 t)
  earners : ∃ a, mg "EARNERS" = some (.ref a) ∧ ∀ H, SqT K H a [.str "step", .str "end"]
  watchers : ∃ a, mg "WATCHERS" = some (.ref a) ∧ ∀ H, SqT K H a [.str "seen", .str "behind"]
  shapes : ∃ a, mg "SHAPES" = some (.ref a) ∧ (a == sysModules) = false ∧ ∀ p ∈ shapesL, ∃ t, KDct K w a p.1 (.ref t) ∧ ∀ H, SqT K H t (p.2.map V.str)
  bounds : ∃ a, mg "BOUNDS" = some (.ref a) ∧ ∃ t1 t2, KDct K w a "points" (.ref t1) ∧ (∀ H, SqT K H t1 [.int 1, .int 9]) ∧ KDct K w a "limit" (.ref t2) ∧ ∀ H, SqT K H t2 [.int 0, .int 30]
  free : ∀ x ∈ freeL, mg x = none
theorem str_len2 {z : Str} (h : z.length = 2) : z.length ≤ sizeLine := by rw [h]; decide
def spIsStep : Sp := fun vs H Q _ => ∃ p : StepT, vs = [.str (stepS p)] ∧ IsStep p ∧ ∀ H', Same H H' → Q (.bl true) H'
theorem inV_words {x : Str} (h : IsW x) : inV (.str x) (wordsL.map V.str) = true := by
  have h' : x ∈ wordsL := h
  have q : ∀ y ∈ wordsL, inV (.str y) (wordsL.map V.str) = true := by decide +kernel
  exact q x h'
theorem inV_marks {x : Str} (h : IsM x) : inV (.str x) [.str "r", .str "w", .str "c"] = true := by
  have h' : x ∈ marksL := h
  have q : ∀ y ∈ marksL, inV (.str y) [.str "r", .str "w", .str "c"] = true := by decide +kernel
  exact q x h'
section
variable {P : Program} {w : World} {K : PySem.W.Frag} {mg : Str → Option Value} {base : Heap}
theorem ok_is_step (T : PTx w K mg) (D : Def K mg "is_step" s_is_step ["thing"]) : FnOk P w K mg base CX0 1 D.f D.fd ["thing"] spIsStep := by
  obtain ⟨aW, gW, qW⟩ := T.words
  obtain ⟨tr, gr⟩ := T.right
  obtain ⟨tw, gw⟩ := T.wrong
  obtain ⟨tc, gc⟩ := T.carried
  refine D.ok sc_is_step (fun vs H Q E h => ?_) (fun cdv A outer s H vs Q E hr h => ?_)
  · obtain ⟨p, rfl, _⟩ := h
    rfl
  obtain ⟨p, rfl, hp, q⟩ := h
  refine ⟨_, pss_cons (ps_if (PW.pt (pw_or (pt_not (pt_val (pe_callB call_isi rfl (T.free "isinstance" (by decide +kernel)) (by decide +kernel) (pa_cons (pv 0) (pa_cons (pe_bltn rfl (T.free "str" (by decide +kernel)) (by decide +kernel) (v := .ty "str") rfl) pa_nil)))))
      (pw_or1 (pt_cmpR op_ne (pe_callB call_len_str rfl (T.free "len" (by decide +kernel)) PySem.boot_len (pa_cons (pv 0) pa_nil)) pe_int (nomark _))))) (pss_one ps_never) pss_nil)
    (pss_one (ps_ret (pe_and (pe_cmpR op_in_seq (pe_ix ix_str (pv 0) pe_int (fun _ _ => rfl)) (pe_glob rfl gW (v := .ref aW) rfl) (by rfl))
      (pe_one (pe_cmpR op_in_seq (pe_ix ix_str (pv 0) pe_int (fun _ _ => rfl)) (pe_tup (pa_cons (pe_glob rfl gr (v := .str "r") ⟨_, rfl⟩) (pa_cons (pe_glob rfl gw (v := .str "w") ⟨_, rfl⟩) (pa_cons (pe_glob rfl gc (v := .str "c") ⟨_, rfl⟩) pa_nil)))) (by rfl)))))), ?_⟩
  obtain ⟨c0, e0, x0⟩ := hp.at0
  obtain ⟨c1, e1, x1⟩ := hp.at1
  refine seq_if (b := false) (fun Q q => ?_) (fun z => nomatch z) (fun _ => ?_)
  · refine ⟨_, rfl, _, .ty "str", .type "str", .type "str", true, rfl, .ty _, .base (.str _), kit_ty (by decide +kernel), _, rfl, ?_⟩
    refine ⟨_, rfl, _, rfl, str_len2 hp.len, rfl, _, rfl, ?_⟩
    rw [hp.len]
    exact q
  · refine ⟨_, rfl, _, 0, c0, rfl, rfl, str_len2 hp.len, e0, ?_⟩
    rw [x0]
    refine ⟨aW, _, rfl, .inr (qW _), rfl, by decide +kernel, _, rfl, ?_⟩
    show (if inV (.str p.1) (wordsL.map V.str) = true then _ else _)
    rw [if_pos (inV_words hp.1)]
    refine ⟨_, rfl, _, 1, c1, rfl, rfl, str_len2 hp.len, e1, ?_⟩
    rw [x1]
    refine ⟨(by show 3 ≤ sizeLine; decide), fun t ht => ⟨t, _, rfl, .inr (SqT.of upd_same), rfl, rfl, ?_⟩⟩
    show Q (.bl (inV (.str p.2) [.str "r", .str "w", .str "c"])) _
    rw [inV_marks hp.2]
    exact q _ (Same.new ht)
def spCheckWork : Sp := fun vs H Q _ => ∃ (a : Addr) (ws : List StepT), vs = [.ref a] ∧ H a = some (.lst (stepsV ws)) ∧ WorkOk ws ∧ ∀ H', Same H H' → Q .non H'
theorem WorkFrom.at : ∀ {ws : List StepT} {w : Bool} {i : Nat} {p : StepT}, WorkFrom w ws → ws[i]? = some p → IsStep p ∧ (p.2 = "c" → (w || anyWrong (ws.take i)) = true)
  | [], _, _, _, _, h => by simp at h
  | q :: r, w, 0, p, h, e => by
    obtain rfl : q = p := by simpa using e
    exact ⟨h.1, fun z => by rw [h.2.1 z]; rfl⟩
  | q :: r, w, i + 1, p, h, e => by
    obtain ⟨h1, h2⟩ := WorkFrom.at (i := i) h.2.2 (by simpa using e)
    refine ⟨h1, fun z => ?_⟩
    have z2 := h2 z
    rw [Bool.or_assoc] at z2
    exact z2
theorem ok_check_work (T : PTx w K mg) (D : Def K mg "check_work" s_check_work ["work"]) (DI : Def K mg "is_step" s_is_step ["thing"]) : FnOk P w K mg base CX0 2 D.f D.fd ["work"] spCheckWork := by
  have GI : FnOk P w K mg base CX0 1 DI.f DI.fd ["thing"] spIsStep := ok_is_step T DI
  obtain ⟨tw, gw⟩ := T.wrong
  obtain ⟨tc, gc⟩ := T.carried
  obtain ⟨tm, gm⟩ := T.mostSteps
  have nd := sc_check_work.nd
  refine D.ok sc_check_work (fun vs H Q E h => ?_) (fun cdv A outer s H vs Q E hr h => ?_)
  · obtain ⟨a, ws, rfl, _⟩ := h
    rfl
  obtain ⟨a, ws, rfl, ea, hw, q⟩ := h
  refine ⟨_, pss_cons (ps_if (pt_not (pt_val (pe_callB call_isi rfl (T.free "isinstance" (by decide +kernel)) (by decide +kernel) (pa_cons (pv 0) (pa_cons (pe_bltn rfl (T.free "list" (by decide +kernel)) (by decide +kernel) (v := .ty "list") rfl) pa_nil))))) (pss_one ps_never) pss_nil)
    (pss_cons (ps_set (i := 1) nd rfl (Or.inl rfl) pe_bl)
    (pss_one (ps_for PassesOwn.never rfl (pi_enum rfl (T.free "enumerate" (by decide +kernel)) (pa_cons (pv 0) pa_nil)) (pg_tup (by rfl) (pgs_cons (pg_name (i := 2) nd rfl (Or.inl rfl)) (pgs_cons (pg_name (i := 3) nd rfl (Or.inl rfl)) pgs_nil)))
      (pss_cons (ps_if (PW.pt (pw_or (pt_cmpR op_eq (pv 2) (pe_glob rfl gm (v := .int 12) ⟨_, rfl⟩) (nomark _)) (pw_or1 (pt_not (pt_val (pcall DI GI hr (pa_cons (pv 3) pa_nil))))))) (pss_one ps_never) pss_nil)
      (pss_cons (ps_if (PW.pt (pw_and (pt_cmpR op_eq (pe_ix ix_str (pv 3) pe_int (fun _ _ => rfl)) (pe_glob rfl gc (v := .str "c") ⟨_, rfl⟩) (nomark _)) (pw_and1 (pt_not (pt_val (pv 1)))))) (pss_one ps_never) pss_nil)
      (pss_one (ps_set (i := 1) nd rfl (Or.inl rfl) (pe_or (pv 1) (pe_one (pe_cmpR op_eq (pe_ix ix_str (pv 3) pe_int (fun _ _ => rfl)) (pe_glob rfl gw (v := .str "w") ⟨_, rfl⟩) (nomark _))))))))))), ?_⟩
  refine seq_if (b := false) (fun Q q => ⟨_, rfl, _, .ty "list", .type "list", .type "list", true, rfl, .ty _, .base (.lst ea), kit_ty (by decide +kernel), _, rfl, q⟩) (fun z => nomatch z) (fun _ => ?_)
  have lws : (stepsV ws).length = ws.length := List.length_map _
  refine ⟨_, rfl, a, _, rfl, SqL.of ea, for_it (walk_enum (K := K) (a := a) (xs := stepsV ws)) (fun i σ H' => ∃ v2 v3 : Option V, σ = [some (.ref a), some (.bl (anyWrong (ws.take i))), v2, v3] ∧ Same H H')
    ⟨none, none, rfl, Same.refl _⟩ (fun i σ H' _ ⟨_, _, _, sm⟩ => SqL.of (sm _ _ ea)) ?_ ?_⟩
  · rintro i x σ H1 H2 hi ⟨v2, v3, rfl, sm⟩ ⟨T1, x1, x2, rfl, hT1, rfl, ex1, ex2⟩
    obtain rfl : V.int ((i : Nat) : Int) = x1 := Option.some.inj ex1
    rw [lws] at hi
    have ep : ws[i]? = some (ws[i]'hi) := List.getElem?_eq_getElem hi
    obtain rfl : V.str (stepS (ws[i]'hi)) = x2 := Option.some.inj ((get_map (fun p => V.str (stepS p)) ws hi).symm.trans ex2)
    obtain ⟨hp, hc⟩ := hw.1.at ep
    obtain ⟨c1, e1, y1⟩ := hp.at1
    have sm1 : Same H (upd H1 T1 (.tup [.int ((i : Nat) : Int), .str (stepS (ws[i]'hi))])) := sm.trans (Same.new hT1)
    refine ⟨T1, _, rfl, SqT.of upd_same, rfl, _, _, rfl, _, _, rfl, rfl, ?_⟩
    have hlen := hw.2
    refine ⟨_, rfl, rfl, _, rfl, ?_⟩
    have ne : decide (V.int ((i : Nat) : Int) = V.int 12) = false := decide_eq_false (fun z => by have := V.int.inj z; omega)
    rw [ne]
    refine iteF ⟨_, rfl, _, rfl, hp, fun H3 s3 => ⟨_, rfl, iteF ?_⟩⟩
    dsimp only [tNext]
    refine seq_if (b := (ws[i]'hi).2 == "c" && !anyWrong (ws.take i)) (ev_and (fun Q q => ⟨_, rfl, _, 1, c1, rfl, rfl, str_len2 hp.len, e1, rfl, _, rfl, by rw [y1, dec_str]; exact q⟩) (fun Q q => ⟨_, rfl, _, rfl, q⟩)) (fun z => ?_) (fun _ => ?_)
    · rw [Bool.and_eq_true] at z
      have z1 := hc (eq_of_beq z.1)
      rw [Bool.false_or] at z1
      rw [z1] at z
      exact absurd z.2 (by decide)
    · refine ⟨_, rfl, _, rfl, ?_⟩
      have tk : anyWrong (ws.take (i + 1)) = (anyWrong (ws.take i) || ((ws[i]'hi).2 == "w")) := by
        rw [List.take_succ_eq_append_getElem hi]
        unfold anyWrong
        rw [List.any_append]
        simp
      refine ite2 (fun z => ?_) (fun z => ?_)
      · exact ⟨_, _, by rw [tk, z]; rfl, (sm1.trans s3)⟩
      · refine ⟨_, rfl, _, 1, c1, rfl, rfl, str_len2 hp.len, e1, rfl, ?_⟩
        rw [y1]
        refine ⟨some (.int ((i : Nat) : Int)), some (.str (stepS (ws[i]'hi))), ?_, (sm1.trans s3)⟩
        rw [tk, Bool.eq_false_iff.mpr z, Bool.false_or, dec_str]
        rfl
  · rintro σ H' ⟨v2, v3, rfl, sm⟩
    exact q H' sm
end
end MS
end
section
set_option maxRecDepth 100000
set_option maxHeartbeats 4000000
namespace MS
open PySem L2
/-! ### a written dict: get -/
def tKGet2 (K : PySem.W.Frag) (w : World) (td ty tx : TE) : TE := fun σ H Q => td σ H fun x H1 => ∃ a, x = .ref a ∧ (a == sysModules) = false ∧ (∃ z0 v0, KDct K w a z0 v0) ∧ ty σ H1 fun y H2 => tx σ H2 fun d H3 => ∃ z, y = .str z ∧ ((∃ v, KDct K w a z v ∧ Q v H3) ∨ (KMiss K w a z ∧ Q d H3))
theorem pe_kget2 {X : Cx} {o e f : Expr} {apos cpos : Pos} {td ty tx : TE} (ho : PE X o td) (he : PE X e ty) (hf : PE X f tx) (m : M2 X o "get" apos e f cpos) : PE X (.Call (.Attribute o "get" apos) [e, f] [] cpos) (tKGet2 X.K X.w td ty tx) := by
  refine ⟨fun pins s σ H Q I h => ?_⟩
  refine wpAny_Call_method m.base m.few m.line PySem.F.plainAttrs_dict PySem.F.slot_dict_get PySem.F.type_dict_get (thn (ho.run pins s σ H _ I h) fun u s1 ⟨x, H1, I1, rx, a, ex, low, ⟨z0, v0, es, n, u0, hl, hk, e0, ru⟩, q1⟩ => ?_)
  subst ex
  obtain rfl : u = Value.ref a := rx
  refine ⟨(PySem.W.mapOf_K (prog := X.prog) (w := X.w) I1.kIn hl hk).typeIs, (fun b q => by
    cases q
    exact ⟨_, I1.kIn _ _ hl, rfl⟩), ?_⟩
  rw [m.trees]
  refine Calls.callWith_builtin rfl (Calls.evalArgs_plain (Calls.spliced_cons (thn (he.run pins s1 σ H1 _ I1 q1) fun iv s2 ⟨y, H2, I2, ry, q2⟩ =>
    Calls.spliced_cons (thn (hf.run pins s2 σ H2 _ I2 q2) fun fv s3 ⟨d, H3, I3, rz, z, ey, q3⟩ => Calls.spliced_nil ?_))))
  subst ey
  obtain ⟨t, rfl⟩ := ry
  have hm := PySem.W.mapOf_K (prog := X.prog) (w := X.w) I3.kIn hl hk
  refine call_meetsIn PySem.F.slot_dict_get hm.typeIs PySem.F.entry_dict_get (PySem.F.args_dict_get_3 _ _ _) (meets_dict_get_default (strKind X.prog X.w) a (strKind_is X.prog X.w z t) low fv) ⟨_, hm, ?_⟩
  rcases q3 with ⟨v, ⟨es2, n2, u2, hl2, hk2, e2, ru2⟩, q3⟩ | ⟨⟨es2, n2, hl2, hk2, low2, e2⟩, q3⟩
  · rw [hl] at hl2
    cases hl2
    rw [PySem.W.find_K hl e2]
    exact ⟨v, H3, I3.tok _, ru2, q3⟩
  · rw [hl] at hl2
    cases hl2
    rw [PySem.W.find_K hl e2]
    exact ⟨d, H3, I3.tok _, rz, q3⟩
end MS
end
section
set_option maxRecDepth 100000
set_option maxHeartbeats 4000000
namespace MS
open PySem L2
def FitsR (H : Hp) (i M : Nat) (part : V) (kind : Str) : Prop :=
  (kind = "word" ∧ ∃ x, part = .str x ∧ IsW x) ∨ (kind = "points" ∧ ∃ p : Int, part = .int p ∧ 1 ≤ p ∧ p ≤ 9) ∨ (kind = "limit" ∧ ∃ p : Int, part = .int p ∧ 0 ≤ p ∧ p ≤ 30) ∨
  (kind = "schemes" ∧ ∃ b vs, part = .ref b ∧ H b = some (.tup vs) ∧ 0 < vs.length ∧ vs.length ≤ 4) ∨ kind = "scheme" ∨ (kind = "later" ∧ ∃ j : Nat, part = .int (j : Int) ∧ i < j ∧ j < M)
def spIsNumber : Sp := fun vs H Q _ => ∃ i : Int, vs = [.int i] ∧ Q (.bl true) H
def spFits (i M : Nat) : Sp := fun vs H Q _ => ∃ (part : V) (kind : Str), vs = [part, .str kind, .int (i : Int), .int (M : Int)] ∧ FitsR H i M part kind ∧ Q (.bl true) H
section
variable {P : Program} {w : World} {K : PySem.W.Frag} {mg : Str → Option Value} {base : Heap}
theorem ok_is_number (T : PTx w K mg) (D : Def K mg "is_number" s_is_number ["thing"]) : FnOk P w K mg base CX0 1 D.f D.fd ["thing"] spIsNumber := by
  refine D.ok sc_is_number (fun vs H Q E h => ?_) (fun cdv A outer s H vs Q E hr h => ?_)
  · obtain ⟨i, rfl, _⟩ := h
    rfl
  obtain ⟨i, rfl, q⟩ := h
  refine ⟨_, pss_one (ps_ret (pe_and (pe_callB call_isi rfl (T.free "isinstance" (by decide +kernel)) (by decide +kernel) (pa_cons (pv 0) (pa_cons (pe_bltn rfl (T.free "int" (by decide +kernel)) (by decide +kernel) (v := .ty "int") rfl) pa_nil)))
    (pe_one (pe_not (pe_callB call_isi rfl (T.free "isinstance" (by decide +kernel)) (by decide +kernel) (pa_cons (pv 0) (pa_cons (pe_bltn rfl (T.free "bool" (by decide +kernel)) (by decide +kernel) (v := .ty "bool") rfl) pa_nil))))))), ?_⟩
  exact ⟨_, rfl, _, .ty "int", .type "int", .type "int", true, rfl, .ty _, .base (.int _), kit_ty (by decide +kernel), _, rfl, _, rfl, _, .ty "bool", .type "int", .type "bool", false, rfl, .ty _, .base (.int _), kit_ty (by decide +kernel), _, rfl, q⟩
theorem ok_fits {i M : Nat} (T : PTx w K mg) (D : Def K mg "fits" s_fits ["part", "kind", "number", "many"]) (DN : Def K mg "is_number" s_is_number ["thing"]) : FnOk P w K mg base CX0 2 D.f D.fd ["part", "kind", "number", "many"] (spFits i M) := by
  have GN : FnOk P w K mg base CX0 1 DN.f DN.fd ["thing"] spIsNumber := ok_is_number T DN
  obtain ⟨aW, gW, qW⟩ := T.words
  obtain ⟨tm, gm⟩ := T.mostWithin
  obtain ⟨aB, gB, t1, t2, kb1, qb1, kb2, qb2⟩ := T.bounds
  have nd := sc_fits.nd
  refine D.ok sc_fits (fun vs H Q E h => ?_) (fun cdv A outer s H vs Q E hr h => ?_)
  · obtain ⟨part, kind, rfl, _⟩ := h
    rfl
  obtain ⟨part, kind, rfl, hf, q⟩ := h
  refine ⟨_, pss_cons (ps_if (pt_cmpR op_eq (pv 1) pe_str (nomark _)) (pss_one (ps_ret (pe_cmpR op_in_seq (pv 0) (pe_glob rfl gW (v := .ref aW) rfl) (by rfl)))) pss_nil)
    (pss_cons (ps_if (pt_cmpR op_eq (pv 1) pe_str (nomark _)) (pss_one (ps_ret (pe_and (pe_callB call_isi rfl (T.free "isinstance" (by decide +kernel)) (by decide +kernel) (pa_cons (pv 0) (pa_cons (pe_bltn rfl (T.free "tuple" (by decide +kernel)) (by decide +kernel) (v := .ty "tuple") rfl) pa_nil)))
        (pe_one (pe_chain op_le op_le pe_int (pe_callB call_len_seq rfl (T.free "len" (by decide +kernel)) PySem.boot_len (pa_cons (pv 0) pa_nil)) (pe_glob rfl gm (v := .int 4) ⟨_, rfl⟩)))))) pss_nil)
    (pss_cons (ps_if (pt_cmpR op_eq (pv 1) pe_str (nomark _)) (pss_one (ps_ret pe_bl)) pss_nil)
    (pss_cons (ps_if (pt_cmpR op_eq (pv 1) pe_str (nomark _)) (pss_one (ps_ret (pe_and (pcall DN GN hr (pa_cons (pv 0) pa_nil)) (pe_one (pe_chain op_lt op_lt (pv 2) (pv 0) (pv 3)))))) pss_nil)
    (pss_cons (ps_asg (pe_ix ix_kdict (pe_glob rfl gB (v := .ref aB) rfl) (pv 1) (fun _ _ => rfl)) (pg_tup (by rfl) (pgs_cons (pg_name (i := 4) nd rfl (Or.inl rfl)) (pgs_cons (pg_name (i := 5) nd rfl (Or.inl rfl)) pgs_nil))))
    (pss_one (ps_ret (pe_and (pcall DN GN hr (pa_cons (pv 0) pa_nil)) (pe_one (pe_chain op_le op_le (pv 4) (pv 0) (pv 5)))))))))), ?_⟩
  have tst : ∀ {c : Str} {σ : St} {b : Bool}, σ[1]? = some (some (.str kind)) → (kind == c) = b → ∀ Q : Bool → Hp → Prop, Q b H → tTest (tOp rEq (tVar 1) (tC (.str c))) σ H Q := fun s1 e Q q => ⟨_, s1, rfl, _, rfl, by rw [dec_str, e]; exact q⟩
  rcases hf with ⟨rfl, x, rfl, hx⟩ | ⟨rfl, p, rfl, p1, p2⟩ | ⟨rfl, p, rfl, p1, p2⟩ | ⟨rfl, b, vs, rfl, eb, v1, v2⟩ | rfl | ⟨rfl, j, rfl, j1, j2⟩
  · refine seq_if (b := true) (tst rfl (by decide +kernel)) (fun _ => ?_) (fun z => nomatch z)
    refine ⟨_, rfl, aW, _, rfl, .inr (qW _), rfl, by decide +kernel, ?_⟩
    show Q (.bl (inV (.str x) (wordsL.map V.str))) _
    rw [inV_words hx]
    exact q
  · refine seq_if (b := false) (tst rfl (by decide +kernel)) (fun z => nomatch z) (fun _ => seq_if (b := false) (tst rfl (by decide +kernel)) (fun z => nomatch z) (fun _ => seq_if (b := false) (tst rfl (by decide +kernel)) (fun z => nomatch z) (fun _ => seq_if (b := false) (tst rfl (by decide +kernel)) (fun z => nomatch z) (fun _ => ?_))))
    refine ⟨_, rfl, aB, "points", .ref t1, rfl, rfl, kb1, t1, _, rfl, qb1 _, rfl, _, _, rfl, _, _, rfl, rfl, ?_⟩
    refine ⟨_, rfl, p, rfl, _, rfl, ?_⟩
    refine ⟨_, rfl, _, rfl, _, _, rfl, rfl, _, rfl, ?_⟩
    rw [decide_eq_true p1]
    refine iteT ⟨_, rfl, _, _, rfl, rfl, ?_⟩
    show Q (V.bl (decide _)) H
    rw [decide_eq_true p2]
    exact q
  · refine seq_if (b := false) (tst rfl (by decide +kernel)) (fun z => nomatch z) (fun _ => seq_if (b := false) (tst rfl (by decide +kernel)) (fun z => nomatch z) (fun _ => seq_if (b := false) (tst rfl (by decide +kernel)) (fun z => nomatch z) (fun _ => seq_if (b := false) (tst rfl (by decide +kernel)) (fun z => nomatch z) (fun _ => ?_))))
    refine ⟨_, rfl, aB, "limit", .ref t2, rfl, rfl, kb2, t2, _, rfl, qb2 _, rfl, _, _, rfl, _, _, rfl, rfl, ?_⟩
    refine ⟨_, rfl, p, rfl, _, rfl, ?_⟩
    refine ⟨_, rfl, _, rfl, _, _, rfl, rfl, _, rfl, ?_⟩
    rw [decide_eq_true p1]
    refine iteT ⟨_, rfl, _, _, rfl, rfl, ?_⟩
    show Q (V.bl (decide _)) H
    rw [decide_eq_true p2]
    exact q
  · refine seq_if (b := false) (tst rfl (by decide +kernel)) (fun z => nomatch z) (fun _ => seq_if (b := true) (tst rfl (by decide +kernel)) (fun _ => ?_) (fun z => nomatch z))
    refine ⟨_, rfl, _, .ty "tuple", .type "tuple", .type "tuple", true, rfl, .ty _, .base (.tup eb), kit_ty (by decide +kernel), _, rfl, ?_⟩
    refine iteT ⟨_, rfl, b, vs, rfl, .inr (SqT.of eb), _, _, rfl, rfl, _, rfl, ?_⟩
    rw [decide_eq_true (show (1 : Int) ≤ (vs.length : Int) by omega)]
    refine iteT ⟨_, _, rfl, rfl, ?_⟩
    show Q (V.bl (decide _)) H
    rw [decide_eq_true (show (vs.length : Int) ≤ 4 by omega)]
    exact q
  · refine seq_if (b := false) (tst rfl (by decide +kernel)) (fun z => nomatch z) (fun _ => seq_if (b := false) (tst rfl (by decide +kernel)) (fun z => nomatch z) (fun _ => seq_if (b := true) (tst rfl (by decide +kernel)) (fun _ => q) (fun z => nomatch z)))
  · refine seq_if (b := false) (tst rfl (by decide +kernel)) (fun z => nomatch z) (fun _ => seq_if (b := false) (tst rfl (by decide +kernel)) (fun z => nomatch z) (fun _ => seq_if (b := false) (tst rfl (by decide +kernel)) (fun z => nomatch z) (fun _ => seq_if (b := true) (tst rfl (by decide +kernel)) (fun _ => ?_) (fun z => nomatch z))))
    refine ⟨_, rfl, _, rfl, _, rfl, ?_⟩
    refine iteT ⟨_, rfl, _, rfl, _, _, rfl, rfl, _, rfl, ?_⟩
    rw [decide_eq_true (show ((i : Nat) : Int) < ((j : Nat) : Int) by omega)]
    refine iteT ⟨_, rfl, _, _, rfl, rfl, ?_⟩
    show Q (V.bl (decide _)) H
    rw [decide_eq_true (show ((j : Nat) : Int) < ((M : Nat) : Int) by omega)]
    exact q
end
end MS
end
section
set_option maxRecDepth 100000
set_option maxHeartbeats 4000000
namespace MS
open PySem L2
/-! ### what the law earns, point by point -/
/-- a point: the place of the step, the place in the paper -/
abbrev Un := Nat × List Nat
def okAt (c : Bool) (x : Str) (p : StepT) : Bool := (p.1 == x) && (p.2 == "r" || (c && p.2 == "c"))
/-- the places from st on where a step of a word counts -/
def hits (ws : List StepT) (c : Bool) (x : Str) (st : Nat) : List Nat := (List.range' st (ws.length - st)).filter fun i => match ws[i]? with
  | some p => okAt c x p
  | none => false
def lastOk (ws : List StepT) (c : Bool) (x : Str) (st : Nat) : Bool := decide (st < ws.length) && match ws.getLast? with
  | some p => okAt c x p
  | none => false
def allU {α : Type} (f : Sch → Nat → List α) : List Sch → Nat → List α
  | [], _ => []
  | s :: r, j => f s j ++ allU f r (j + 1)
def bestU {α : Type} (f : Sch → Nat → List α) : List Sch → Nat → List α → List α
  | [], _, acc => acc
  | s :: r, j, acc => bestU f r (j + 1) (if acc.length < (f s j).length then f s j else acc)
def uP (ps : List Sch) (ws : List StepT) : Nat → Sch → Nat → Bool → List Nat → List Un
  | 0, _, _, _, _ => []
  | k + 1, .step x p, st, c, wh => match hits ws c x st with
    | [] => []
    | i :: _ => List.replicate p.toNat (i, wh)
  | k + 1, .behind x s, st, c, wh => match hits ws c x st with
    | [] => []
    | i :: _ => uP ps ws k s (i + 1) c (wh ++ [0])
  | k + 1, .use n, st, c, wh => match ps[n]? with
    | none => []
    | some s => uP ps ws k s st c (wh ++ [0])
  | k + 1, .all ks, st, c, wh => allU (fun s j => uP ps ws k s st c (wh ++ [j])) ks 0
  | k + 1, .best ks, st, c, wh => bestU (fun s j => uP ps ws k s st c (wh ++ [j])) ks 0 []
  | k + 1, .fin x p s, st, c, wh => if lastOk ws c x st = true then List.replicate p.toNat (ws.length - 1, wh) else uP ps ws k s st c (wh ++ [0])
  | k + 1, .seen x s, st, c, wh => if (ws.any fun p => p.1 == x) = true then uP ps ws k s st c (wh ++ [0]) else []
  | k + 1, .most n s, st, c, wh => (uP ps ws k s st c (wh ++ [0])).take n.toNat
  | k + 1, .half s, st, c, wh => (uP ps ws k s st c (wh ++ [0])).take ((uP ps ws k s st c (wh ++ [0])).length / 2)
  | k + 1, .carry s, st, c, wh => uP ps ws k s st true (wh ++ [0])
def natV (l : List Nat) : List V := l.map fun j : Nat => V.int ((j : Nat) : Int)
def UnR (H : Hp) (u : Un) (v : V) : Prop := ∃ a b, v = V.ref a ∧ H a = some (.tup [.int ((u.1 : Nat) : Int), .ref b]) ∧ H b = some (.tup (natV u.2))
theorem UnR.keep {H H' : Hp} {u : Un} {v : V} (h : UnR H u v) (k : TupK H H') : UnR H' u v := by
  obtain ⟨a, b, e, h1, h2⟩ := h
  exact ⟨a, b, e, k _ _ h1, k _ _ h2⟩
/-- how many points at most -/
theorem take_le {α : Type} (l : List α) (n : Nat) : (l.take n).length ≤ l.length := by
  rw [List.length_take]
  exact Nat.min_le_right _ _
theorem er_nonneg {i M : Nat} {c : Nat → Int} (h : ∀ j, i < j → j < M → 0 ≤ c j) : ∀ (d : Nat) (s : Sch), OkS i M d s → 0 ≤ er c d s
  | 0, _, o => by cases o
  | _ + 1, .step _ _, _ => by show (0 : Int) ≤ 1; decide
  | d + 1, .all k, o => by
    show 0 ≤ (k.map (er c d)).sum
    have : ∀ s ∈ k, 0 ≤ er c d s := fun s hs => er_nonneg h d s (o.2.2 s hs)
    clear o
    induction k with
    | nil => exact Int.le_refl _
    | cons a r ih =>
      rw [List.map_cons, List.sum_cons]
      have := ih fun s hs => this s (List.mem_cons_of_mem _ hs)
      have := ‹∀ s ∈ a :: r, 0 ≤ er c d s› a List.mem_cons_self
      omega
  | d + 1, .best k, o => by
    show 0 ≤ (k.map (er c d)).sum
    have : ∀ s ∈ k, 0 ≤ er c d s := fun s hs => er_nonneg h d s (o.2.2 s hs)
    clear o
    induction k with
    | nil => exact Int.le_refl _
    | cons a r ih =>
      rw [List.map_cons, List.sum_cons]
      have := ih fun s hs => this s (List.mem_cons_of_mem _ hs)
      have := ‹∀ s ∈ a :: r, 0 ≤ er c d s› a List.mem_cons_self
      omega
  | d + 1, .most _ s, o => er_nonneg h d s o.2
  | d + 1, .half s, o => er_nonneg h d s o
  | d + 1, .seen _ s, o => er_nonneg h d s o.2
  | d + 1, .behind _ s, o => er_nonneg h d s o.2
  | d + 1, .carry s, o => er_nonneg h d s o
  | d + 1, .fin _ _ s, o => by
    have := er_nonneg h d s o.2
    show 0 ≤ 1 + er c d s
    omega
  | _ + 1, .use n, o => h n o.1 o.2
theorem allU_len {α : Type} {f : Sch → Nat → List α} {g : Sch → Int} : ∀ (ks : List Sch) (j : Nat), (∀ s ∈ ks, ∀ j, ((f s j).length : Int) ≤ 9 * g s) → ((allU f ks j).length : Int) ≤ 9 * (ks.map g).sum
  | [], _, _ => by show (0 : Int) ≤ 9 * 0; decide
  | s :: r, j, h => by
    show (((f s j) ++ allU f r (j + 1)).length : Int) ≤ _
    rw [List.map_cons, List.sum_cons, List.length_append]
    have := h s List.mem_cons_self j
    have := allU_len r (j + 1) fun s hs => h s (List.mem_cons_of_mem _ hs)
    omega
theorem bestU_len {α : Type} {f : Sch → Nat → List α} {g : Sch → Int} : ∀ (ks : List Sch) (j : Nat) (acc : List α), (∀ s ∈ ks, ∀ j, ((f s j).length : Int) ≤ 9 * g s) → (∀ s ∈ ks, 0 ≤ g s) → ∀ B : Int, ((acc.length : Int) ≤ 9 * B) → 0 ≤ B → ((bestU f ks j acc).length : Int) ≤ 9 * (B + (ks.map g).sum)
  | [], _, acc, _, _, B, h, hB => by
    show (acc.length : Int) ≤ 9 * (B + 0)
    omega
  | s :: r, j, acc, h, h0, B, hb, hB => by
    show ((bestU f r (j + 1) (if acc.length < (f s j).length then f s j else acc)).length : Int) ≤ _
    rw [List.map_cons, List.sum_cons]
    have a1 := h s List.mem_cons_self j
    have a0 := h0 s List.mem_cons_self
    have := bestU_len r (j + 1) (if acc.length < (f s j).length then f s j else acc) (fun s hs => h s (List.mem_cons_of_mem _ hs)) (fun s hs => h0 s (List.mem_cons_of_mem _ hs)) (B + g s) (by
      split
      · omega
      · omega) (by omega)
    omega
theorem uP_len {ps : List Sch} {ws : List StepT} {ce : Nat → Int} {M : Nat} (hp : ∀ (j : Nat) (s : Sch), ps[j]? = some s → OkS j M 5 s ∧ ce j = er ce 5 s) (h0 : ∀ j, j < M → 0 ≤ ce j) :
    ∀ (k : Nat) (i d : Nat) (s : Sch) (st : Nat) (c : Bool) (wh : List Nat), OkS i M d s → ((uP ps ws k s st c wh).length : Int) ≤ 9 * er ce d s
  | 0, i, d, s, st, c, wh, o => by
    have := er_nonneg (c := ce) (fun j _ hj => h0 j hj) d s o
    show (0 : Int) ≤ _
    omega
  | k + 1, i, 0, s, st, c, wh, o => by cases o
  | k + 1, i, d + 1, .step x p, st, c, wh, o => by
    show ((match hits ws c x st with
      | [] => []
      | i :: _ => List.replicate p.toNat (i, wh)).length : Int) ≤ 9 * 1
    have := o.2.2
    split
    · simp
    · rw [List.length_replicate]
      omega
  | k + 1, i, d + 1, .behind x s, st, c, wh, o => by
    show ((match hits ws c x st with
      | [] => []
      | i :: _ => uP ps ws k s (i + 1) c (wh ++ [0])).length : Int) ≤ 9 * er ce d s
    have := er_nonneg (c := ce) (fun j _ hj => h0 j hj) d s o.2
    split
    · show (0 : Int) ≤ _
      omega
    · exact uP_len hp h0 k i d s _ c _ o.2
  | k + 1, i, d + 1, .use n, st, c, wh, o => by
    show ((match ps[n]? with
      | none => []
      | some s => uP ps ws k s st c (wh ++ [0])).length : Int) ≤ 9 * ce n
    have := h0 n o.2
    split
    · show (0 : Int) ≤ _
      omega
    · rename_i s e
      obtain ⟨o', e'⟩ := hp n s e
      rw [e']
      exact uP_len hp h0 k n 5 s st c _ o'
  | k + 1, i, d + 1, .all ks, st, c, wh, o => allU_len ks 0 fun s hs j => uP_len hp h0 k i d s st c _ (o.2.2 s hs)
  | k + 1, i, d + 1, .best ks, st, c, wh, o => by
    have := bestU_len (f := fun s j => uP ps ws k s st c (wh ++ [j])) (g := er ce d) ks 0 [] (fun s hs j => uP_len hp h0 k i d s st c _ (o.2.2 s hs)) (fun s hs => er_nonneg (c := ce) (fun j _ hj => h0 j hj) d s (o.2.2 s hs)) 0 (by simp) (Int.le_refl _)
    rw [Int.zero_add] at this
    exact this
  | k + 1, i, d + 1, .fin x p s, st, c, wh, o => by
    show ((if lastOk ws c x st = true then List.replicate p.toNat (ws.length - 1, wh) else uP ps ws k s st c (wh ++ [0])).length : Int) ≤ 9 * (1 + er ce d s)
    have := er_nonneg (c := ce) (fun j _ hj => h0 j hj) d s o.2
    have := o.1.2.2
    have := uP_len (ws := ws) hp h0 k i d s st c (wh ++ [0]) o.2
    split
    · rw [List.length_replicate]
      omega
    · omega
  | k + 1, i, d + 1, .seen x s, st, c, wh, o => by
    show ((if (ws.any fun p => p.1 == x) = true then uP ps ws k s st c (wh ++ [0]) else []).length : Int) ≤ 9 * er ce d s
    have := er_nonneg (c := ce) (fun j _ hj => h0 j hj) d s o.2
    split
    · exact uP_len hp h0 k i d s st c _ o.2
    · show (0 : Int) ≤ _
      omega
  | k + 1, i, d + 1, .most n s, st, c, wh, o => by
    have := uP_len (ws := ws) hp h0 k i d s st c (wh ++ [0]) o.2
    have := take_le (uP ps ws k s st c (wh ++ [0])) n.toNat
    show (((uP ps ws k s st c (wh ++ [0])).take n.toNat).length : Int) ≤ 9 * er ce d s
    omega
  | k + 1, i, d + 1, .half s, st, c, wh, o => by
    have := uP_len (ws := ws) hp h0 k i d s st c (wh ++ [0]) o
    have := take_le (uP ps ws k s st c (wh ++ [0])) ((uP ps ws k s st c (wh ++ [0])).length / 2)
    show (((uP ps ws k s st c (wh ++ [0])).take _).length : Int) ≤ 9 * er ce d s
    omega
  | k + 1, i, d + 1, .carry s, st, c, wh, o => uP_len hp h0 k i d s st true (wh ++ [0]) o
end MS
end
section
set_option maxRecDepth 100000
set_option maxHeartbeats 4000000
namespace MS
open PySem L2
abbrev nmUnits : List Str := ["_law_paper_here", "_law_scheme_here", "_law_work_here", "_law_look", "_law_is_carried", "_law_where", "_law_word", "_law_signs", "_law_some", "_law_later", "_law_found", "_law_k", "_law_place", "_law_step_here"]
abbrev psUnits : List Str := ["_law_paper_here", "_law_scheme_here", "_law_work_here", "_law_look", "_law_is_carried", "_law_where"]
/-- the paper, the work, the places looked at -/
structure UCtx (H : Hp) (ps : List Sch) (ws : List StepT) (pa wa la : Addr) (st : Nat) : Prop where
  paper : ∃ pv, H pa = some (.tup pv) ∧ Paired (SAt H 5) ps pv
  work : H wa = some (.lst (stepsV ws))
  look : H la = some (.lst (natV (List.range' st (ws.length - st))))
theorem UCtx.keep {H H' : Hp} {ps : List Sch} {ws : List StepT} {pa wa la : Addr} {st : Nat} (h : UCtx H ps ws pa wa la st) (k : Same H H') : UCtx H' ps ws pa wa la st := by
  obtain ⟨⟨pv, e, p⟩, h2, h3⟩ := h
  exact ⟨⟨pv, k _ _ e, paired_imp p fun s v => SAt.keep (Same.tupK k) _ _ _⟩, k _ _ h2, k _ _ h3⟩
def spUnits (ps : List Sch) (ws : List StepT) (ce : Nat → Int) (M k : Nat) : Sp := fun vs H Q _ => ∃ (pa wa la wr : Addr) (v : V) (c : Bool) (s : Sch) (i d st : Nat) (wh : List Nat), vs = [.ref pa, v, .ref wa, .ref la, .bl c, .ref wr] ∧
  UCtx H ps ws pa wa la st ∧ st ≤ ws.length ∧ SAt H d s v ∧ OkS i M d s ∧ er ce d s ≤ 7 ∧ (M - i) * 5 + d ≤ k ∧ wh.length + k ≤ 100 ∧ H wr = some (.tup (natV wh)) ∧
  ∀ (r : Addr) (uv : List V) (H' : Hp), Same H H' → H r = none → H' r = some (.lst uv) → Paired (UnR H') (uP ps ws k s st c wh) uv → Q (.ref r) H'
theorem strl2 {z : Str} (h : z.length = 2) : z.length ≤ sizeLine := by rw [h]; decide
/-- a test that may make new things -/
theorem seq_new {tc : TT} {t r : TS} {D : Ends} {σ : St} {H : Hp} {b : Bool} (h : ∀ Q : Bool → Hp → Prop, (∀ H', Same H H' → Q b H') → tc σ H Q) (k1 : b = true → ∀ H', Same H H' → t { D with nx := r D } σ H') (k2 : b = false → ∀ H', Same H H' → r D σ H') : tSeq (tIfS tc t tNext) r D σ H := h _ fun H' s => by
  cases b with
  | true => exact iteT (k1 rfl H' s)
  | false => exact iteF (k2 rfl H' s)
theorem in_two {K : PySem.W.Frag} {σ : St} {H : Hp} {i : Nat} {nm x y : Str} {b : Bool} (s : σ[i]? = some (some (.str nm))) (e : inV (.str nm) [.str x, .str y] = b) : ∀ Q : Bool → Hp → Prop, (∀ H', Same H H' → Q b H') → tTest (tOp (rIn K false) (tVar i) (tTup (tCons (tC (.str x)) (tCons (tC (.str y)) tNil)))) σ H Q := fun Q q =>
  ⟨_, s, sz2, fun t ht => ⟨t, _, rfl, .inr (SqT.of upd_same), rfl, rfl, _, rfl, by
    show Q (inV (.str nm) [.str x, .str y]) _
    rw [e]
    exact q _ (Same.new ht)⟩⟩
theorem is_word {σ : St} {H : Hp} {i : Nat} {nm x : Str} {b : Bool} (s : σ[i]? = some (some (.str nm))) (e : (nm == x) = b) : ∀ Q : Bool → Hp → Prop, Q b H → tTest (tOp rEq (tVar i) (tC (.str x))) σ H Q := fun Q q =>
  ⟨_, s, rfl, _, rfl, by rw [dec_str, e]; exact q⟩
def sgL (c : Bool) : List V := cutV [.str "r", .str "c"] none (some (1 + if c then 1 else 0))
theorem sg_in {c : Bool} {m : Str} (h : IsM m) : inV (.str m) (sgL c) = (m == "r" || (c && m == "c")) := by
  have h' : m ∈ marksL := h
  have q : ∀ c : Bool, ∀ y ∈ marksL, inV (.str y) (sgL c) = (y == "r" || (c && y == "c")) := by decide +kernel
  exact q c m h'
theorem sg_flat (c : Bool) : (sgL c).all flatV = true := by cases c <;> rfl
theorem SAt.tag {H : Hp} {d : Nat} {s : Sch} {v : V} (h : SAt H d s v) : ∃ a nm rest, v = V.ref a ∧ H a = some (.tup (.str nm :: rest)) := by
  cases d with
  | zero => cases h
  | succ d =>
    cases s with
    | step x p => obtain ⟨a, e, h⟩ := h; exact ⟨a, _, _, e, h⟩
    | all k => obtain ⟨a, b, vs, e, h, _⟩ := h; exact ⟨a, _, _, e, h⟩
    | best k => obtain ⟨a, b, vs, e, h, _⟩ := h; exact ⟨a, _, _, e, h⟩
    | most n s => obtain ⟨a, u, e, h, _⟩ := h; exact ⟨a, _, _, e, h⟩
    | half s => obtain ⟨a, u, e, h, _⟩ := h; exact ⟨a, _, _, e, h⟩
    | seen x s => obtain ⟨a, u, e, h, _⟩ := h; exact ⟨a, _, _, e, h⟩
    | behind x s => obtain ⟨a, u, e, h, _⟩ := h; exact ⟨a, _, _, e, h⟩
    | carry s => obtain ⟨a, u, e, h, _⟩ := h; exact ⟨a, _, _, e, h⟩
    | fin x p s => obtain ⟨a, u, e, h, _⟩ := h; exact ⟨a, _, _, e, h⟩
    | use n => obtain ⟨a, e, h⟩ := h; exact ⟨a, _, _, e, h⟩
/-- what has one scheme within, but no `behind` -/
structure OneR (H : Hp) (i M d : Nat) (sc : Sch) (nm : Str) (rest : List V) : Prop where
  nb : inV (.str nm) [.str "step", .str "behind"] = false
  nu : (nm == "use") = false
  na : inV (.str nm) [.str "all", .str "best"] = false
  nm5 : nm = "most" ∨ nm = "half" ∨ nm = "seen" ∨ nm = "carry" ∨ nm = "end"
  kid : ∃ u s', atI (.str nm :: rest) (-1) = some u ∧ SAt H d s' u ∧ OkS i M d s' ∧ (nm = "end" → ∃ x p, sc = .fin x p s' ∧ rest = [.str x, .int p, u] ∧ IsW x ∧ 1 ≤ p ∧ p ≤ 9) ∧ (nm = "seen" → ∃ x, sc = .seen x s' ∧ rest = [.str x, u] ∧ IsW x) ∧
    (nm = "most" → ∃ n, sc = .most n s' ∧ rest = [.int n, u] ∧ 0 ≤ n) ∧ (nm = "half" → sc = .half s' ∧ rest = [u]) ∧ (nm = "carry" → sc = .carry s' ∧ rest = [u]) ∧ ∃ x1, atI (.str nm :: rest) 1 = some x1
inductive SKind (H : Hp) (i M d : Nat) : Sch → Str → List V → Prop
  | step {x : Str} {p : Int} (hx : IsW x) (h1 : 1 ≤ p) (h2 : p ≤ 9) : SKind H i M d (.step x p) "step" [.str x, .int p]
  | behind {x : Str} {s : Sch} {u : V} (hx : IsW x) (hs : SAt H d s u) (ho : OkS i M d s) : SKind H i M d (.behind x s) "behind" [.str x, u]
  | use {n : Nat} (h1 : i < n) (h2 : n < M) : SKind H i M d (.use n) "use" [.int ((n : Nat) : Int)]
  | all {ks : List Sch} {b : Addr} {vs : List V} (eb : H b = some (.tup vs)) (hk : Paired (SAt H d) ks vs) (ho : ∀ s ∈ ks, OkS i M d s) (hl : ks.length ≤ 4) : SKind H i M d (.all ks) "all" [.ref b]
  | best {ks : List Sch} {b : Addr} {vs : List V} (eb : H b = some (.tup vs)) (hk : Paired (SAt H d) ks vs) (ho : ∀ s ∈ ks, OkS i M d s) (hl : ks.length ≤ 4) : SKind H i M d (.best ks) "best" [.ref b]
  | one {sc : Sch} {nm : Str} {rest : List V} (h : OneR H i M d sc nm rest) : SKind H i M d sc nm rest
theorem SAt.kind {H : Hp} {i M d : Nat} {sc : Sch} {a : Addr} {nm : Str} {rest : List V} (h : SAt H (d + 1) sc (.ref a)) (o : OkS i M (d + 1) sc) (ea : H a = some (.tup (.str nm :: rest))) : SKind H i M d sc nm rest := by
  have inj : ∀ {a' : Addr} {nm' : Str} {rest' : List V}, (V.ref a = V.ref a') → H a' = some (.tup (.str nm' :: rest')) → nm' = nm ∧ rest' = rest := fun e h => by
    cases e
    rw [ea] at h
    cases h
    exact ⟨rfl, rfl⟩
  cases sc with
  | step x p =>
    obtain ⟨a', e, h⟩ := h
    obtain ⟨rfl, rfl⟩ := inj e h
    exact .step o.1 o.2.1 o.2.2
  | all k =>
    obtain ⟨a', b, vs, e, h, eb, hk⟩ := h
    obtain ⟨rfl, rfl⟩ := inj e h
    exact .all eb hk o.2.2 o.2.1
  | best k =>
    obtain ⟨a', b, vs, e, h, eb, hk⟩ := h
    obtain ⟨rfl, rfl⟩ := inj e h
    exact .best eb hk o.2.2 o.2.1
  | most n s =>
    obtain ⟨a', u, e, h, hs⟩ := h
    obtain ⟨rfl, rfl⟩ := inj e h
    exact .one ⟨by decide +kernel, by decide +kernel, by decide +kernel, .inl rfl, u, s, rfl, hs, o.2, (fun z => absurd z (by decide +kernel)), (fun z => absurd z (by decide +kernel)), fun _ => ⟨n, rfl, rfl, o.1.1⟩, (fun z => absurd z (by decide +kernel)), (fun z => absurd z (by decide +kernel)), _, at1⟩
  | half s =>
    obtain ⟨a', u, e, h, hs⟩ := h
    obtain ⟨rfl, rfl⟩ := inj e h
    exact .one ⟨by decide +kernel, by decide +kernel, by decide +kernel, .inr (.inl rfl), u, s, rfl, hs, o, (fun z => absurd z (by decide +kernel)), (fun z => absurd z (by decide +kernel)), (fun z => absurd z (by decide +kernel)), fun _ => ⟨rfl, rfl⟩, (fun z => absurd z (by decide +kernel)), _, at1⟩
  | seen x s =>
    obtain ⟨a', u, e, h, hs⟩ := h
    obtain ⟨rfl, rfl⟩ := inj e h
    exact .one ⟨by decide +kernel, by decide +kernel, by decide +kernel, .inr (.inr (.inl rfl)), u, s, rfl, hs, o.2, (fun z => absurd z (by decide +kernel)), (fun _ => ⟨x, rfl, rfl, o.1⟩), (fun z => absurd z (by decide +kernel)), (fun z => absurd z (by decide +kernel)), (fun z => absurd z (by decide +kernel)), _, at1⟩
  | behind x s =>
    obtain ⟨a', u, e, h, hs⟩ := h
    obtain ⟨rfl, rfl⟩ := inj e h
    exact .behind o.1 hs o.2
  | carry s =>
    obtain ⟨a', u, e, h, hs⟩ := h
    obtain ⟨rfl, rfl⟩ := inj e h
    exact .one ⟨by decide +kernel, by decide +kernel, by decide +kernel, .inr (.inr (.inr (.inl rfl))), u, s, rfl, hs, o, (fun z => absurd z (by decide +kernel)), (fun z => absurd z (by decide +kernel)), (fun z => absurd z (by decide +kernel)), (fun z => absurd z (by decide +kernel)), fun _ => ⟨rfl, rfl⟩, _, at1⟩
  | fin x p s =>
    obtain ⟨a', u, e, h, hs⟩ := h
    obtain ⟨rfl, rfl⟩ := inj e h
    exact .one ⟨by decide +kernel, by decide +kernel, by decide +kernel, .inr (.inr (.inr (.inr rfl))), u, s, rfl, hs, o.2, (fun _ => ⟨x, p, rfl, rfl, o.1.1, o.1.2.1, o.1.2.2⟩), (fun z => absurd z (by decide +kernel)), (fun z => absurd z (by decide +kernel)), (fun z => absurd z (by decide +kernel)), (fun z => absurd z (by decide +kernel)), _, at1⟩
  | use n =>
    obtain ⟨a', e, h⟩ := h
    obtain ⟨rfl, rfl⟩ := inj e h
    exact .use o.1 o.2
theorem natV_len (l : List Nat) : (natV l).length = l.length := List.length_map _
theorem natV_snoc (l : List Nat) (j : Nat) : natV l ++ [V.int ((j : Nat) : Int)] = natV (l ++ [j]) := by
  unfold natV
  rw [List.map_append]
  rfl
theorem range_after {st n i : Nat} (h1 : st ≤ i) (h2 : i < n) : (List.range' st (n - st)).filter (fun q => decide (i < q)) = List.range' (i + 1) (n - (i + 1)) := by
  have e : List.range' st (n - st) = List.range' st (i + 1 - st) ++ List.range' (i + 1) (n - (i + 1)) := by
    have z := List.range'_append (s := st) (m := i + 1 - st) (n := n - (i + 1)) (step := 1)
    rw [Nat.one_mul, show st + (i + 1 - st) = i + 1 by omega, show i + 1 - st + (n - (i + 1)) = n - st by omega] at z
    exact z.symm
  have e1 : (List.range' st (i + 1 - st)).filter (fun q => decide (i < q)) = [] := List.filter_eq_nil_iff.mpr fun q hq => by
    have := (List.mem_range'_1.mp hq).2
    simp
    omega
  have e2 : (List.range' (i + 1) (n - (i + 1))).filter (fun q => decide (i < q)) = List.range' (i + 1) (n - (i + 1)) := List.filter_eq_self.mpr fun q hq => by
    have := (List.mem_range'_1.mp hq).1
    simp
    omega
  rw [e, List.filter_append, e1, e2, List.nil_append]
theorem hits_in {ws : List StepT} {c : Bool} {x : Str} {st i : Nat} {r : List Nat} (h : hits ws c x st = i :: r) : st ≤ i ∧ i < ws.length := by
  have m : i ∈ hits ws c x st := by rw [h]; exact List.mem_cons_self
  have z := List.mem_range'_1.mp (List.mem_filter.mp m).1
  omega
theorem flat_rep {α : Type} (x : α) : ∀ n : Nat, (List.replicate n [x]).flatten = List.replicate n x
  | 0 => rfl
  | n + 1 => by
    show [x] ++ (List.replicate n [x]).flatten = x :: List.replicate n x
    rw [flat_rep x n]
    rfl
theorem paired_rep {α β : Type} {R : α → β → Prop} {x : α} {y : β} (h : R x y) : ∀ n : Nat, Paired R (List.replicate n x) (List.replicate n y)
  | 0 => .nil
  | n + 1 => .cons h (paired_rep h n)
theorem natV_ints (l : List Nat) : natV l = (l.map fun j : Nat => ((j : Nat) : Int)).map V.int := by
  unfold natV
  rw [List.map_map]
  rfl
theorem ints_nil (ns : List Int) : PyData.eqv (.list (ns.map PyData.int)) (.list []) = ns.isEmpty := by
  cases ns with
  | nil => rfl
  | cons a r => rfl
theorem cat_where {K : PySem.W.Frag} {σ : St} {H : Hp} {wr : Addr} {wh : List Nat} {j : Nat} {te : TE} {Q : VK} (s5 : σ[5]? = some (some (.ref wr))) (ewr : H wr = some (.tup (natV wh))) (hl : wh.length ≤ 200) (ht : ∀ Q : VK, Q (.int ((j : Nat) : Int)) H → te σ H Q)
    (q : ∀ (wr' : Addr) (H' : Hp), Same H H' → H' wr' = some (.tup (natV (wh ++ [j]))) → Q (.ref wr') H') : tOp (rCatA K) (tVar 5) (tTup (tCons te tNil)) σ H Q := by
  refine ⟨_, s5, ht _ ⟨(by show 1 ≤ sizeLine; decide), fun t htn => ⟨wr, t, natV wh, [.int ((j : Nat) : Int)], rfl, rfl, SqT.of (Same.new htn _ _ ewr), SqT.of upd_same, szN (by rw [natV_len]; show wh.length + 1 ≤ 6000; omega), (fun z => ?_), (fun _ z => nomatch z), fun z _ p hp => ?_⟩⟩⟩
  · have z' : wh = [] := List.map_eq_nil_iff.mp z
    subst z'
    exact q t _ (Same.new htn) upd_same
  · exact q p _ ((Same.new htn).trans (Same.new hp)) (by rw [upd_same, natV_snoc])
theorem allU_snoc {α : Type} (f : Sch → Nat → List α) : ∀ (l : List Sch) (s : Sch) (j : Nat), allU f (l ++ [s]) j = allU f l j ++ f s (j + l.length)
  | [], s, j => by
    show f s j ++ [] = [] ++ f s (j + 0)
    rw [List.append_nil]
    rfl
  | a :: l, s, j => by
    show f a j ++ allU f (l ++ [s]) (j + 1) = (f a j ++ allU f l (j + 1)) ++ f s (j + (l.length + 1))
    rw [allU_snoc f l s (j + 1), List.append_assoc, show j + 1 + l.length = j + (l.length + 1) by omega]
theorem bestU_snoc {α : Type} (f : Sch → Nat → List α) : ∀ (l : List Sch) (s : Sch) (j : Nat) (acc : List α), bestU f (l ++ [s]) j acc = if (bestU f l j acc).length < (f s (j + l.length)).length then f s (j + l.length) else bestU f l j acc
  | [], s, j, acc => rfl
  | a :: l, s, j, acc => by
    show bestU f (l ++ [s]) (j + 1) _ = if (bestU f l (j + 1) _).length < (f s (j + (l.length + 1))).length then f s (j + (l.length + 1)) else bestU f l (j + 1) _
    rw [bestU_snoc f l s (j + 1), show j + 1 + l.length = j + (l.length + 1) by omega]
theorem le_sum {l : List Int} (h : ∀ x ∈ l, 0 ≤ x) : ∀ x ∈ l, x ≤ l.sum := by
  induction l with
  | nil => intro x hx; cases hx
  | cons a r ih =>
    intro x hx
    have nn : ∀ {r : List Int}, (∀ x ∈ r, 0 ≤ x) → 0 ≤ r.sum := by
      intro r
      induction r with
      | nil => intro _; exact Int.le_refl _
      | cons b t ih2 =>
        intro h2
        have := ih2 fun x hx => h2 x (List.mem_cons_of_mem _ hx)
        have := h2 b List.mem_cons_self
        rw [List.sum_cons]
        omega
    have n1 := nn fun x hx => h x (List.mem_cons_of_mem _ hx)
    rw [List.sum_cons]
    rcases List.mem_cons.mp hx with rfl | hx
    · omega
    · have := ih (fun x hx => h x (List.mem_cons_of_mem _ hx)) x hx
      have := h a List.mem_cons_self
      omega
theorem ev_and_new {t u : TT} {σ : St} {H : Hp} {b c : Bool} (h1 : ∀ Q : Bool → Hp → Prop, (∀ H', Same H H' → Q b H') → t σ H Q) (h2 : b = true → ∀ H', Same H H' → ∀ Q : Bool → Hp → Prop, (∀ H'', Same H' H'' → Q c H'') → u σ H' Q) :
    ∀ Q : Bool → Hp → Prop, (∀ H', Same H H' → Q (b && c) H') → tAnd t u σ H Q := fun Q q => h1 _ fun H' s => by
  cases b with
  | true => exact iteT (h2 rfl H' s _ fun H'' s'' => q H'' (s.trans s''))
  | false => exact iteF (q H' s)
theorem seq_to {C : Prop} {tc : TT} {t r : TS} {D : Ends} {σ : St} {H : Hp} {b : Bool} (h : ∀ Q : Bool → Hp → Prop, (∀ H', Same H H' → Q b H') → tc σ H Q) (k1 : b = true → ∀ H', Same H H' → (C → ∀ H'', Same H H'' → r D σ H'') → t { D with nx := r D } σ H') (k2 : b = false → C)
    (rest : C → ∀ H', Same H H' → r D σ H') : tSeq (tIfS tc t tNext) r D σ H := seq_new h (fun e H' s => k1 e H' s rest) (fun e H' s => rest (k2 e) H' s)
theorem to_new {t : TT} {σ : St} {H H0 : Hp} {b : Bool} (s : Same H0 H) (h : ∀ Q : Bool → Hp → Prop, Q b H → t σ H Q) : ∀ Q : Bool → Hp → Prop, (∀ H', Same H0 H' → Q b H') → t σ H Q := fun Q q => h Q (q H s)
theorem range_last {st n : Nat} (h : st < n) : List.range' st (n - st) = List.range' st (n - st - 1) ++ [n - 1] := by
  have e : n - st = (n - st - 1) + 1 := by omega
  have z := List.range'_concat (s := st) (n := n - st - 1) (step := 1)
  rw [← e, Nat.one_mul, show st + (n - st - 1) = n - 1 by omega] at z
  exact z
theorem paired_app {α β : Type} {R : α → β → Prop} {as cs : List α} {bs ds : List β} (h : Paired R as bs) (g : Paired R cs ds) : Paired R (as ++ cs) (bs ++ ds) := by
  induction h with
  | nil => exact g
  | cons r _ ih => exact .cons r ih
theorem in_words (x : Str) (ws : List StepT) : inV (.str x) (ws.map fun p : StepT => V.str p.1) = ws.any fun p => p.1 == x := by
  unfold inV
  rw [List.any_map]
  rfl
theorem or_carry {σ : St} {H : Hp} {c : Bool} {nm : Str} {Q : VK} (s4 : σ[4]? = some (some (.bl c))) (s6 : σ[6]? = some (some (.str nm))) (q : Q (.bl (c || nm == "carry")) H) : tOrV (tVar 4) (tOp rEq (tVar 6) (tC (.str "carry"))) σ H Q :=
  ⟨_, s4, c, rfl, by
    cases c with
    | true => exact iteT q
    | false => exact iteF ⟨_, s6, rfl, by rw [dec_str]; exact q⟩⟩
theorem look_last {st n : Nat} (h : st < n) : atI (natV (List.range' st (n - st))) (-1) = some (V.int ((n - 1 : Nat) : Int)) := by
  rw [range_last h, ← natV_snoc]
  exact atI_last _ _
theorem last_get {ws : List StepT} (h : 0 < ws.length) : ws.getLast? = some (ws[ws.length - 1]'(by omega)) := by
  rw [List.getLast?_eq_getElem?, List.getElem?_eq_getElem (by omega)]
theorem steps_last {ws : List StepT} (h : 0 < ws.length) : atI (stepsV ws) (-1) = some (V.str (stepS (ws[ws.length - 1]'(by omega)))) := by
  have hl : (stepsV ws).length = ws.length := List.length_map _
  unfold atI ixN
  rw [hl, if_neg (by decide), if_pos (by omega), show ((-1 : Int) + (ws.length : Int)).toNat = ws.length - 1 by omega]
  exact get_map (fun p => V.str (stepS p)) ws (by omega)
def seenW : Sch → Str
  | .seen x _ => x
  | _ => ""
theorem get_most {x y : V} : valV (mergeK [] [((.inr "most" : Key), x), (.inr "half", y)]) (.inr "most") = some x := by
  have h1 : ((.inr "most" : Key) = .inr "half") = False := by simp; decide +kernel
  have h2 : ((.inr "half" : Key) = .inr "most") = False := by simp; decide +kernel
  simp [mergeK, putK, valV, h1, h2]
theorem get_half {x y : V} : valV (mergeK [] [((.inr "most" : Key), x), (.inr "half", y)]) (.inr "half") = some y := by
  have h1 : ((.inr "most" : Key) = .inr "half") = False := by simp; decide +kernel
  have h2 : ((.inr "half" : Key) = .inr "most") = False := by simp; decide +kernel
  simp [mergeK, putK, valV, h1, h2]
theorem get_none {x y : V} {nm : Str} (n1 : ("most" : Str) ≠ nm) (n2 : ("half" : Str) ≠ nm) : valV (mergeK [] [((.inr "most" : Key), x), (.inr "half", y)]) (.inr nm) = none := by
  have h1 : ((.inr "most" : Key) = .inr "half") = False := by simp; decide +kernel
  have h3 : ((.inr "most" : Key) = .inr nm) = False := by simpa using n1
  have h4 : ((.inr "half" : Key) = .inr nm) = False := by simpa using n2
  simp [mergeK, putK, valV, h1, h3, h4]
section
variable {P : Program} {w : World} {K : PySem.W.Frag} {mg : Str → Option Value} {base : Heap}
end
end MS
end
section
set_option maxRecDepth 100000
set_option maxHeartbeats 4000000
namespace MS
open PySem L2
theorem rg_nat (n : Nat) : rgV 0 (n : Int) = natV (List.range' 0 n) := by
  unfold rgV natV
  rw [show ((n : Int) - 0).toNat = n by omega, List.range_eq_range']
  refine List.map_congr_left fun i _ => ?_
  rw [Int.zero_add]
theorem PaperOk.facts {ps : List Sch} (h : PaperOk ps) : ∃ ce : Nat → Int, (∀ (j : Nat) (s : Sch), ps[j]? = some s → OkS j ps.length 5 s ∧ ce j = er ce 5 s) ∧ (∀ j, j < ps.length → 0 ≤ ce j) ∧ ∀ j, j < ps.length → ce j ≤ 7 := by
  obtain ⟨_, _, ce, cw, t⟩ := h
  have hp : ∀ (j : Nat) (s : Sch), ps[j]? = some s → OkS j ps.length 5 s ∧ ce j = er ce 5 s := fun j s e => by
    obtain ⟨q1, q2, _⟩ := t j s e
    rw [Nat.zero_add] at q1 q2
    exact ⟨q1, q2⟩
  have h0 : ∀ n j, ps.length - j ≤ n → j < ps.length → 0 ≤ ce j := by
    intro n
    induction n with
    | zero => intro j a b; omega
    | succ n ih =>
      intro j a b
      obtain ⟨o, e⟩ := hp j _ (List.getElem?_eq_getElem b)
      rw [e]
      exact er_nonneg (fun j' h1 h2 => ih j' (by omega) h2) 5 _ o
  refine ⟨ce, hp, fun j hj => h0 _ j (Nat.le_refl _) hj, fun j hj => ?_⟩
  obtain ⟨_, q2, _, _, q5, _⟩ := t j _ (List.getElem?_eq_getElem hj)
  rw [Nat.zero_add] at q2
  rw [q2]
  exact q5
/-- steps, not too many -/
def StepsOk (ws : List StepT) : Prop := (∀ p ∈ ws, IsStep p) ∧ ws.length ≤ 4000
theorem WorkOk.steps {ws : List StepT} (h : WorkOk ws) : StepsOk ws := ⟨h.1.all, Nat.le_trans h.2 (by decide)⟩
/-- a paper, a work -/
structure PWAt (H : Hp) (ps : List Sch) (ws : List StepT) (pa wa : Addr) : Prop where
  paper : ∃ pv, H pa = some (.tup pv) ∧ Paired (SAt H 5) ps pv
  work : H wa = some (.lst (stepsV ws))
theorem PWAt.keep {H H' : Hp} {ps : List Sch} {ws : List StepT} {pa wa : Addr} (h : PWAt H ps ws pa wa) (k : Same H H') : PWAt H' ps ws pa wa := by
  obtain ⟨⟨pv, e, p⟩, h2⟩ := h
  exact ⟨⟨pv, k _ _ e, paired_imp p fun s v => SAt.keep (Same.tupK k) _ _ _⟩, k _ _ h2⟩
/-- all that is earned, point by point -/
def uAll (ps : List Sch) (ws : List StepT) : List Un := match ps with
  | [] => []
  | s :: _ => uP ps ws 30 s 0 false []
/-- the rows of points -/
abbrev Row := Nat × Nat × List Nat
def addU (acc : List Row) (u : Un) : List Row := match acc.getLast? with
  | some (_, n, wh) => if wh = u.2 then acc.dropLast ++ [(u.1, n + 1, u.2)] else acc ++ [(u.1, 1, u.2)]
  | none => [(u.1, 1, u.2)]
def eP (us : List Un) : List Row := us.foldl addU []
def RowR (H : Hp) (u : Row) (v : V) : Prop := ∃ a b, v = V.ref a ∧ H a = some (.tup [.int ((u.1 : Nat) : Int), .int ((u.2.1 : Nat) : Int), .ref b]) ∧ H b = some (.tup (natV u.2.2))
theorem RowR.keep {H H' : Hp} {u : Row} {v : V} (h : RowR H u v) (k : TupK H H') : RowR H' u v := by
  obtain ⟨a, b, e, h1, h2⟩ := h
  exact ⟨a, b, e, k _ _ h1, k _ _ h2⟩
def spMarks (ps : List Sch) (ws : List StepT) : Sp := fun vs H Q _ => ∃ pa wa, vs = [.ref pa, .ref wa] ∧ PWAt H ps ws pa wa ∧ ∀ H', Same H H' → Q (.int (((uAll ps ws).length : Nat) : Int)) H'
def spEarned (ps : List Sch) (ws : List StepT) : Sp := fun vs H Q _ => ∃ pa wa, vs = [.ref pa, .ref wa] ∧ PWAt H ps ws pa wa ∧ ∀ (f : Addr) (rv : List V) (H' : Hp), Same H H' → H f = none → H' f = some (.lst rv) → Paired (RowR H') (eP (uAll ps ws)) rv → Q (.ref f) H'
theorem one_new {tc : TT} {t u : TS} {D : Ends} {σ : St} {H : Hp} {b : Bool} (h : ∀ Q : Bool → Hp → Prop, (∀ H', Same H H' → Q b H') → tc σ H Q) (k1 : b = true → ∀ H', Same H H' → t D σ H') (k2 : b = false → ∀ H', Same H H' → u D σ H') : tIfS tc t u D σ H := h _ fun H' s => by
  cases b with
  | true => exact iteT (k1 rfl H' s)
  | false => exact iteF (k2 rfl H' s)
theorem list_nil (ds : List PyData) : PyData.eqv (.list ds) (.list []) = ds.isEmpty := by
  cases ds with
  | nil => simp only [PyData.eqv, PyData.eqvAll]; rfl
  | cons a r => simp only [PyData.eqv, PyData.eqvAll]; rfl
def natD (l : List Nat) : List PyData := l.map fun j : Nat => PyData.int ((j : Nat) : Int)
theorem natD_eqvAll : ∀ l m : List Nat, PyData.eqvAll (natD l) (natD m) = decide (l = m)
  | [], [] => by show PyData.eqvAll [] [] = _; simp only [PyData.eqvAll]; rfl
  | [], b :: m => by show PyData.eqvAll [] (_ :: _) = _; simp only [PyData.eqvAll]; rfl
  | a :: l, [] => by show PyData.eqvAll (_ :: _) [] = _; simp only [PyData.eqvAll]; rfl
  | a :: l, b :: m => by
    have ih := natD_eqvAll l m
    show PyData.eqvAll (PyData.int ((a : Nat) : Int) :: natD l) (PyData.int ((b : Nat) : Int) :: natD m) = _
    simp only [PyData.eqvAll, PyData.eqv, ih]
    by_cases h1 : a = b
    · subst h1
      by_cases h2 : l = m
      · subst h2; simp
      · simp [h2]
    · have : ((a : Nat) : Int) ≠ ((b : Nat) : Int) := by omega
      simp [h1, this]
theorem natD_eqv (l m : List Nat) : PyData.eqv (.tuple (natD l)) (.tuple (natD m)) = decide (l = m) := by
  simp only [PyData.eqv]
  exact natD_eqvAll l m
theorem natD_sh (n : Nat) (l : List Nat) : ShAll n (natD l) := ShAll.of fun d h => by
  obtain ⟨i, _, rfl⟩ := List.mem_map.mp h
  exact .int _
theorem natD_dp {K : PySem.W.Frag} {H : Hp} : ∀ l : List Nat, DpAll K H (natV l) (natD l)
  | [] => .nil
  | n :: r => .cons (.int _) (natD_dp r)
def rowD (r : Row) : PyData := .tuple [.int ((r.1 : Nat) : Int), .int ((r.2.1 : Nat) : Int), .tuple (natD r.2.2)]
theorem rowD_sh (r : Row) : ShN 2 (rowD r) := .tup (.cons (.int _) (.cons (.int _) (.cons (.tup (natD_sh 0 _)) .nil)))
theorem rows_sh (rs : List Row) : ShN 3 (.list (rs.map rowD)) := .lst (ShAll.of fun d h => by
  obtain ⟨r, _, rfl⟩ := List.mem_map.mp h
  exact rowD_sh r)
theorem rows_dp {K : PySem.W.Frag} {H : Hp} : ∀ {rs : List Row} {rv : List V}, Paired (RowR H) rs rv → DpAll K H rv (rs.map rowD)
  | _, _, .nil => .nil
  | _, _, .cons h t => by
    obtain ⟨a, b, rfl, h1, h2⟩ := h
    exact .cons (.tup (SqT.of h1) (.cons (.int _) (.cons (.int _) (.cons (.tup (SqT.of h2) (natD_dp _)) .nil)))) (rows_dp t)
theorem paired_snoc_inv {α β : Type} {R : α → β → Prop} : ∀ {xs : List α} {x : α} {ys : List β}, Paired R (xs ++ [x]) ys → ∃ ys' y, ys = ys' ++ [y] ∧ Paired R xs ys' ∧ R x y
  | [], x, _, .cons h .nil => ⟨[], _, rfl, .nil, h⟩
  | a :: xs, x, _, .cons h t => by
    obtain ⟨ys', y, e, h1, h2⟩ := paired_snoc_inv t
    exact ⟨_ :: ys', y, by rw [e]; rfl, .cons h h1, h2⟩
theorem last_set (xs : List V) (x y : V) : (xs ++ [x]).set xs.length y = xs ++ [y] := by
  rw [List.set_append_right _ _ (Nat.le_refl _), Nat.sub_self]
  rfl
theorem ixN_last {n : Nat} : ixN (n + 1) (-1) = some n := by
  unfold ixN
  rw [if_neg (by decide), if_pos (by omega)]
  congr 1
  omega
theorem addU_len (acc : List Row) (u : Un) : (addU acc u).length ≤ acc.length + 1 := by
  unfold addU
  split
  · split
    · rw [List.length_append, List.length_dropLast, List.length_singleton]
      omega
    · simp
  · simp
def sameW (acc : List Row) (u : Un) : Bool := match acc.getLast? with
  | some r => decide (r.2.2 = u.2)
  | none => false
theorem sameW_snoc (ini : List Row) (r : Row) (u : Un) : sameW (ini ++ [r]) u = decide (r.2.2 = u.2) := by
  unfold sameW
  rw [show (ini ++ [r]).getLast? = some r by simp]
theorem addU_same (ini : List Row) (r : Row) (u : Un) (h : r.2.2 = u.2) : addU (ini ++ [r]) u = ini ++ [(u.1, r.2.1 + 1, u.2)] := by
  unfold addU
  rw [show (ini ++ [r]).getLast? = some r by simp]
  obtain ⟨a, b, c⟩ := r
  show (if c = u.2 then _ else _) = _
  rw [if_pos h]
  simp
theorem addU_else (acc : List Row) (u : Un) (h : ((!acc.isEmpty) && sameW acc u) = false) : addU acc u = acc ++ [(u.1, 1, u.2)] := by
  rcases List.eq_nil_or_concat acc with rfl | ⟨ini, r, rfl⟩
  · rfl
  · rw [List.concat_eq_append] at h ⊢
    rw [sameW_snoc] at h
    have h2 : r.2.2 ≠ u.2 := fun z => by
      rw [z, decide_eq_true rfl, Bool.and_true] at h
      cases ini <;> cases h
    unfold addU
    rw [show (ini ++ [r]).getLast? = some r by simp]
    obtain ⟨a, b, c⟩ := r
    show (if c = u.2 then _ else _) = _
    rw [if_neg h2]
section
variable {P : Program} {w : World} {K : PySem.W.Frag} {mg : Str → Option Value} {base : Heap}
end
end MS
end
section
set_option maxRecDepth 100000
set_option maxHeartbeats 4000000
namespace MS
open PySem L2
/-! ### the words of a scheme -/
def wP (ps : List Sch) : Nat → Sch → List Str
  | 0, _ => []
  | _ + 1, .step x _ => [x]
  | k + 1, .seen x s => x :: wP ps k s
  | k + 1, .behind x s => x :: wP ps k s
  | k + 1, .fin x _ s => x :: wP ps k s
  | k + 1, .most _ s => wP ps k s
  | k + 1, .half s => wP ps k s
  | k + 1, .carry s => wP ps k s
  | k + 1, .all ks => (ks.map (wP ps k)).flatten
  | k + 1, .best ks => (ks.map (wP ps k)).flatten
  | k + 1, .use n => match ps[n]? with
    | none => []
    | some s => wP ps k s
theorem wr_nonneg {i M : Nat} {c : Nat → Int} (h : ∀ j, i < j → j < M → 0 ≤ c j) : ∀ (d : Nat) (s : Sch), OkS i M d s → 0 ≤ wr c d s
  | 0, _, o => by cases o
  | _ + 1, .step _ _, _ => by show (0 : Int) ≤ 0; decide
  | d + 1, .all k, o => by
    show 0 ≤ (k.map (wr c d)).sum
    have : ∀ s ∈ k, 0 ≤ wr c d s := fun s hs => wr_nonneg h d s (o.2.2 s hs)
    clear o
    induction k with
    | nil => exact Int.le_refl _
    | cons a r ih =>
      rw [List.map_cons, List.sum_cons]
      have := ih fun s hs => this s (List.mem_cons_of_mem _ hs)
      have := ‹∀ s ∈ a :: r, 0 ≤ wr c d s› a List.mem_cons_self
      omega
  | d + 1, .best k, o => by
    show 0 ≤ (k.map (wr c d)).sum
    have : ∀ s ∈ k, 0 ≤ wr c d s := fun s hs => wr_nonneg h d s (o.2.2 s hs)
    clear o
    induction k with
    | nil => exact Int.le_refl _
    | cons a r ih =>
      rw [List.map_cons, List.sum_cons]
      have := ih fun s hs => this s (List.mem_cons_of_mem _ hs)
      have := ‹∀ s ∈ a :: r, 0 ≤ wr c d s› a List.mem_cons_self
      omega
  | d + 1, .most _ s, o => wr_nonneg h d s o.2
  | d + 1, .half s, o => wr_nonneg h d s o
  | d + 1, .seen _ s, o => by
    have := wr_nonneg h d s o.2
    show 0 ≤ 1 + wr c d s
    omega
  | d + 1, .behind _ s, o => by
    have := wr_nonneg h d s o.2
    show 0 ≤ 1 + wr c d s
    omega
  | d + 1, .carry s, o => wr_nonneg h d s o
  | d + 1, .fin _ _ s, o => wr_nonneg h d s o.2
  | _ + 1, .use n, o => h n o.1 o.2
/-- its words, the schemes within -/
structure WV (H : Hp) (i M d : Nat) (ps : List Sch) (k : Nat) (sc : Sch) (nm : Str) (rest : List V) (pre : List Str) (ks : List Sch) (kv : List V) : Prop where
  nu : (nm == "use") = false
  eq : wP ps (k + 1) sc = pre ++ (ks.map (wP ps k)).flatten
  pl : pre.length ≤ 1
  kl : ks.length ≤ 4
  ok : ∀ s ∈ ks, OkS i M d s
  at_ : Paired (SAt H d) ks kv
  w1 : inV (.str nm) [.str "step", .str "seen", .str "behind", .str "end"] = true → ∃ x, pre = [x] ∧ atI (.str nm :: rest) 1 = some (.str x)
  w0 : inV (.str nm) [.str "step", .str "seen", .str "behind", .str "end"] = false → pre = []
  k2 : inV (.str nm) [.str "all", .str "best"] = true → ∃ b, atI (.str nm :: rest) 1 = some (.ref b) ∧ H b = some (.tup kv)
  k1 : inV (.str nm) [.str "all", .str "best"] = false → nm ≠ "step" → ∃ u, atI (.str nm :: rest) (-1) = some u ∧ kv = [u]
  k0 : nm = "step" → kv = []
theorem SKind.words {H : Hp} {i M d : Nat} {ps : List Sch} {k : Nat} {sc : Sch} {nm : Str} {rest : List V} (h : SKind H i M d sc nm rest) : (∃ n : Nat, rest = [.int ((n : Nat) : Int)] ∧ sc = .use n ∧ nm = "use" ∧ i < n ∧ n < M) ∨ ∃ pre ks kv, WV H i M d ps k sc nm rest pre ks kv := by
  cases h with
  | @step x p hx _ _ => exact .inr ⟨[x], [], [], by decide +kernel, rfl, by simp, by simp, (fun s h => nomatch h), .nil, fun _ => ⟨x, rfl, at1⟩, (fun z => absurd z (by decide +kernel)), (fun z => absurd z (by decide +kernel)), fun _ z => absurd rfl z, fun _ => rfl⟩
  | @behind x s u hx hs ho => exact .inr ⟨[x], [s], [u], by decide +kernel, by show x :: wP ps k s = [x] ++ (wP ps k s ++ []); rw [List.append_nil]; rfl, by simp, by simp, (fun s' h' => by rw [List.mem_singleton.mp h']; exact ho), .cons hs .nil, fun _ => ⟨x, rfl, at1⟩, (fun z => absurd z (by decide +kernel)), (fun z => absurd z (by decide +kernel)), fun _ _ => ⟨u, rfl, rfl⟩, (fun z => absurd z (by decide +kernel))⟩
  | use h1 h2 => exact .inl ⟨_, rfl, rfl, rfl, h1, h2⟩
  | @all ks b vs eb hk ho hl => exact .inr ⟨[], ks, vs, by decide +kernel, rfl, by simp, hl, ho, hk, (fun z => absurd z (by decide +kernel)), fun _ => rfl, fun _ => ⟨b, at1, eb⟩, (fun z => absurd z (by decide +kernel)), (fun z => absurd z (by decide +kernel))⟩
  | @best ks b vs eb hk ho hl => exact .inr ⟨[], ks, vs, by decide +kernel, rfl, by simp, hl, ho, hk, (fun z => absurd z (by decide +kernel)), fun _ => rfl, fun _ => ⟨b, at1, eb⟩, (fun z => absurd z (by decide +kernel)), (fun z => absurd z (by decide +kernel))⟩
  | one h =>
    obtain ⟨u, s', hlast, hs', ho', c5, c6, cm, chh, cc, x1, ex1⟩ := h.kid
    have nst : nm ≠ "step" := fun e => by
      have := h.nb
      rw [e] at this
      exact absurd this (by decide +kernel)
    have a1 : ∀ s ∈ [s'], OkS i M d s := fun s h' => by rw [List.mem_singleton.mp h']; exact ho'
    rcases h.nm5 with e | e | e | e | e
    · obtain ⟨n, hsc, hre, _⟩ := cm e
      exact .inr ⟨[], [s'], [u], h.nu, by rw [hsc]; show wP ps k s' = [] ++ (wP ps k s' ++ []); rw [List.append_nil]; rfl, by simp, by simp, a1, .cons hs' .nil, (fun z => by rw [e] at z; exact absurd z (by decide +kernel)), fun _ => rfl, (fun z => by rw [h.na] at z; cases z), fun _ _ => ⟨u, hlast, rfl⟩, fun z => absurd z nst⟩
    · obtain ⟨hsc, hre⟩ := chh e
      exact .inr ⟨[], [s'], [u], h.nu, by rw [hsc]; show wP ps k s' = [] ++ (wP ps k s' ++ []); rw [List.append_nil]; rfl, by simp, by simp, a1, .cons hs' .nil, (fun z => by rw [e] at z; exact absurd z (by decide +kernel)), fun _ => rfl, (fun z => by rw [h.na] at z; cases z), fun _ _ => ⟨u, hlast, rfl⟩, fun z => absurd z nst⟩
    · obtain ⟨x, hsc, hre, hx⟩ := c6 e
      exact .inr ⟨[x], [s'], [u], h.nu, by rw [hsc]; show x :: wP ps k s' = [x] ++ (wP ps k s' ++ []); rw [List.append_nil]; rfl, by simp, by simp, a1, .cons hs' .nil, fun _ => ⟨x, rfl, by rw [hre]; exact at1⟩, (fun z => by rw [e] at z; exact absurd z (by decide +kernel)), (fun z => by rw [h.na] at z; cases z), fun _ _ => ⟨u, hlast, rfl⟩, fun z => absurd z nst⟩
    · obtain ⟨hsc, hre⟩ := cc e
      exact .inr ⟨[], [s'], [u], h.nu, by rw [hsc]; show wP ps k s' = [] ++ (wP ps k s' ++ []); rw [List.append_nil]; rfl, by simp, by simp, a1, .cons hs' .nil, (fun z => by rw [e] at z; exact absurd z (by decide +kernel)), fun _ => rfl, (fun z => by rw [h.na] at z; cases z), fun _ _ => ⟨u, hlast, rfl⟩, fun z => absurd z nst⟩
    · obtain ⟨x, p, hsc, hre, hx, _⟩ := c5 e
      exact .inr ⟨[x], [s'], [u], h.nu, by rw [hsc]; show x :: wP ps k s' = [x] ++ (wP ps k s' ++ []); rw [List.append_nil]; rfl, by simp, by simp, a1, .cons hs' .nil, fun _ => ⟨x, rfl, by rw [hre]; exact at1⟩, (fun z => by rw [e] at z; exact absurd z (by decide +kernel)), (fun z => by rw [h.na] at z; cases z), fun _ _ => ⟨u, hlast, rfl⟩, fun z => absurd z nst⟩
theorem flat_len {g : Sch → Int} {f : Sch → List Str} : ∀ (ks : List Sch), (∀ s ∈ ks, ((f s).length : Int) ≤ g s) → (((ks.map f).flatten).length : Int) ≤ (ks.map g).sum
  | [], _ => Int.le_refl _
  | s :: r, h => by
    rw [List.map_cons, List.flatten_cons, List.length_append, List.map_cons, List.sum_cons]
    have := h s List.mem_cons_self
    have := flat_len r fun s hs => h s (List.mem_cons_of_mem _ hs)
    omega
theorem sum_two {g h : Sch → Int} : ∀ (ks : List Sch), (ks.map fun s => g s + h s).sum = (ks.map g).sum + (ks.map h).sum
  | [] => rfl
  | s :: r => by
    rw [List.map_cons, List.sum_cons, List.map_cons, List.sum_cons, List.map_cons, List.sum_cons, sum_two r]
    omega
theorem wP_len {ps : List Sch} {ce cw : Nat → Int} {M : Nat} (hp : ∀ (j : Nat) (s : Sch), ps[j]? = some s → OkS j M 5 s ∧ ce j = er ce 5 s ∧ cw j = wr cw 5 s) (h0 : ∀ j, j < M → 0 ≤ ce j) (h1 : ∀ j, j < M → 0 ≤ cw j) :
    ∀ (k : Nat) (i d : Nat) (s : Sch), OkS i M d s → ((wP ps k s).length : Int) ≤ er ce d s + wr cw d s
  | 0, i, d, s, o => by
    have := er_nonneg (c := ce) (fun j _ hj => h0 j hj) d s o
    have := wr_nonneg (c := cw) (fun j _ hj => h1 j hj) d s o
    show (0 : Int) ≤ _
    omega
  | k + 1, i, 0, s, o => by cases o
  | k + 1, i, d + 1, .step x p, o => by show (1 : Int) ≤ 1 + 0; decide
  | k + 1, i, d + 1, .behind x s, o => by
    have := wP_len hp h0 h1 k i d s o.2
    show (((x :: wP ps k s).length : Nat) : Int) ≤ er ce d s + (1 + wr cw d s)
    rw [List.length_cons]
    omega
  | k + 1, i, d + 1, .seen x s, o => by
    have := wP_len hp h0 h1 k i d s o.2
    show (((x :: wP ps k s).length : Nat) : Int) ≤ er ce d s + (1 + wr cw d s)
    rw [List.length_cons]
    omega
  | k + 1, i, d + 1, .fin x p s, o => by
    have := wP_len hp h0 h1 k i d s o.2
    show (((x :: wP ps k s).length : Nat) : Int) ≤ (1 + er ce d s) + wr cw d s
    rw [List.length_cons]
    omega
  | k + 1, i, d + 1, .use n, o => by
    show ((match ps[n]? with
      | none => []
      | some s => wP ps k s).length : Int) ≤ ce n + cw n
    have := h0 n o.2
    have := h1 n o.2
    split
    · show (0 : Int) ≤ _
      omega
    · rename_i s e
      obtain ⟨o', e1, e2⟩ := hp n s e
      rw [e1, e2]
      exact wP_len hp h0 h1 k n 5 s o'
  | k + 1, i, d + 1, .all ks, o => by
    have := flat_len (f := wP ps k) (g := fun s => er ce d s + wr cw d s) ks fun s hs => wP_len hp h0 h1 k i d s (o.2.2 s hs)
    rw [sum_two] at this
    exact this
  | k + 1, i, d + 1, .best ks, o => by
    have := flat_len (f := wP ps k) (g := fun s => er ce d s + wr cw d s) ks fun s hs => wP_len hp h0 h1 k i d s (o.2.2 s hs)
    rw [sum_two] at this
    exact this
  | k + 1, i, d + 1, .most n s, o => wP_len hp h0 h1 k i d s o.2
  | k + 1, i, d + 1, .half s, o => wP_len hp h0 h1 k i d s o
  | k + 1, i, d + 1, .carry s, o => wP_len hp h0 h1 k i d s o
def spWords (ps : List Sch) (M k : Nat) : Sp := fun vs H Q _ => ∃ (pa : Addr) (v : V) (s : Sch) (i d : Nat), vs = [.ref pa, v] ∧ (∃ pv, H pa = some (.tup pv) ∧ Paired (SAt H 5) ps pv) ∧ SAt H d s v ∧ OkS i M d s ∧ (M - i) * 5 + d ≤ k ∧ (wP ps k s).length ≤ 100 ∧
  ∀ (f : Addr) (H' : Hp), Same H H' → H f = none → H' f = some (.lst ((wP ps k s).map V.str)) → Q (.ref f) H'
abbrev psWords : List Str := ["_law_paper_here", "_law_scheme_here"]
theorem flat_split {f : Sch → List Str} : ∀ (ks : List Sch) (j : Nat) (s : Sch), ks[j]? = some s → (((ks.take j).map f).flatten).length + (f s).length ≤ ((ks.map f).flatten).length
  | [], _, _, h => by simp at h
  | a :: r, 0, s, h => by
    obtain rfl : a = s := by simpa using h
    rw [List.map_cons, List.flatten_cons, List.length_append]
    show 0 + _ ≤ _
    omega
  | a :: r, j + 1, s, h => by
    have ih := flat_split (f := f) r j s (by simpa using h)
    rw [List.take_succ_cons, List.map_cons, List.flatten_cons, List.length_append, List.map_cons, List.flatten_cons, List.length_append]
    omega
theorem found_if {σ : St} {H1 : Hp} {Q : VK} {b : Bool} {ta : TA} {pre : List V} (h1 : b = true → ∀ R : List V → Hp → Prop, R pre H1 → ta σ H1 R) (h2 : b = false → pre = []) (lp : pre.length ≤ 1000) (c : ∀ f, H1 f = none → Q (.ref f) (upd H1 f (.lst pre))) : if b = true then tLst ta σ H1 Q else tLst tNil σ H1 Q := by
  cases b with
  | true => exact iteT (h1 rfl _ ⟨szN (Nat.le_trans lp (by decide)), c⟩)
  | false =>
    have e := h2 rfl
    subst e
    exact iteF ⟨Nat.zero_le _, c⟩
theorem kids_if {σ : St} {H1 : Hp} {Q : VK} {b : Bool} {t1 t2 : TE} {kv : List V} (h1 : b = true → ∀ R : VK, (∀ l, H1 l = none → R (.ref l) (upd H1 l (.lst kv))) → t1 σ H1 R) (h2 : b = false → ∀ R : VK, (∀ l, H1 l = none → R (.ref l) (upd H1 l (.lst kv))) → t2 σ H1 R)
    (c : ∀ l, H1 l = none → Q (.ref l) (upd H1 l (.lst kv))) : if b = true then t1 σ H1 Q else t2 σ H1 Q := by
  cases b with
  | true => exact iteT (h1 rfl _ c)
  | false => exact iteF (h2 rfl _ c)
section
variable {P : Program} {w : World} {K : PySem.W.Frag} {mg : Str → Option Value} {base : Heap}
end
section
variable {P : Program} {w : World} {K : PySem.W.Frag} {mg : Str → Option Value} {base : Heap}
end
/-- the words of a paper that can be are few -/
theorem wAll_len {ps : List Sch} (h : PaperOk ps) {s : Sch} {j : Nat} (e : ps[j]? = some s) (k : Nat) : (wP ps k s).length ≤ 10 := by
  obtain ⟨_, _, ce, cw, t⟩ := h
  have hp : ∀ (j : Nat) (s : Sch), ps[j]? = some s → OkS j ps.length 5 s ∧ ce j = er ce 5 s ∧ cw j = wr cw 5 s := fun j s e => by
    obtain ⟨q1, q2, q3, _⟩ := t j s e
    rw [Nat.zero_add] at q1 q2 q3
    exact ⟨q1, q2, q3⟩
  have h0 : ∀ n j, ps.length - j ≤ n → j < ps.length → 0 ≤ ce j ∧ 0 ≤ cw j := by
    intro n
    induction n with
    | zero => intro j a b; omega
    | succ n ih =>
      intro j a b
      obtain ⟨o, e1, e2⟩ := hp j _ (List.getElem?_eq_getElem b)
      rw [e1, e2]
      exact ⟨er_nonneg (fun j' h1 h2 => (ih j' (by omega) h2).1) 5 _ o, wr_nonneg (fun j' h1 h2 => (ih j' (by omega) h2).2) 5 _ o⟩
  obtain ⟨_, _, _, _, q5, q6⟩ := t j s e
  have := wP_len hp (fun j hj => (h0 _ j (Nat.le_refl _) hj).1) (fun j hj => (h0 _ j (Nat.le_refl _) hj).2) k j 5 s (hp j s e).1
  omega
end MS
end
section
set_option maxRecDepth 100000
set_option maxHeartbeats 4000000
namespace MS
open PySem L2
/-! ### rows and points: the same told twice -/
def pts (rs : List Row) : Nat := (rs.map fun r => r.2.1).sum
def expand (rs : List Row) : List Un := rs.flatMap fun r => List.replicate r.2.1 (r.1, r.2.2)
/-- the first so many points of rows -/
def firstP : List Row → Nat → List Row
  | [], _ => []
  | (i, n, wh) :: r, left => if left = 0 then [] else (i, min n left, wh) :: firstP r (left - min n left)
def bestR (f : Sch → Nat → List Row) : List Sch → Nat → List Row → List Row
  | [], _, acc => acc
  | s :: r, j, acc => bestR f r (j + 1) (if pts acc < pts (f s j) then f s j else acc)
def rP (ps : List Sch) (ws : List StepT) : Nat → Sch → Nat → Bool → List Nat → List Row
  | 0, _, _, _, _ => []
  | k + 1, .step x p, st, c, wh => match hits ws c x st with
    | [] => []
    | i :: _ => [(i, p.toNat, wh)]
  | k + 1, .behind x s, st, c, wh => match hits ws c x st with
    | [] => []
    | i :: _ => rP ps ws k s (i + 1) c (wh ++ [0])
  | k + 1, .use n, st, c, wh => match ps[n]? with
    | none => []
    | some s => rP ps ws k s st c (wh ++ [0])
  | k + 1, .all ks, st, c, wh => allU (fun s j => rP ps ws k s st c (wh ++ [j])) ks 0
  | k + 1, .best ks, st, c, wh => bestR (fun s j => rP ps ws k s st c (wh ++ [j])) ks 0 []
  | k + 1, .fin x p s, st, c, wh => if lastOk ws c x st = true then [(ws.length - 1, p.toNat, wh)] else rP ps ws k s st c (wh ++ [0])
  | k + 1, .seen x s, st, c, wh => if (ws.any fun p => p.1 == x) = true then rP ps ws k s st c (wh ++ [0]) else []
  | k + 1, .most n s, st, c, wh => firstP (rP ps ws k s st c (wh ++ [0])) n.toNat
  | k + 1, .half s, st, c, wh => firstP (rP ps ws k s st c (wh ++ [0])) (pts (rP ps ws k s st c (wh ++ [0])) / 2)
  | k + 1, .carry s, st, c, wh => rP ps ws k s st true (wh ++ [0])
theorem pts_zero : pts [] = 0 := rfl
theorem pts_cons (r : Row) (rs : List Row) : pts (r :: rs) = r.2.1 + pts rs := by
  unfold pts
  rw [List.map_cons, List.sum_cons]
theorem expand_cons (r : Row) (rs : List Row) : expand (r :: rs) = List.replicate r.2.1 (r.1, r.2.2) ++ expand rs := by
  unfold expand
  rw [List.flatMap_cons]
theorem expand_app (as bs : List Row) : expand (as ++ bs) = expand as ++ expand bs := by
  unfold expand
  rw [List.flatMap_append]
theorem expand_len : ∀ rs : List Row, (expand rs).length = pts rs
  | [] => rfl
  | r :: rs => by rw [expand_cons, List.length_append, List.length_replicate, expand_len rs, pts_cons]
theorem expand_first : ∀ (rs : List Row) (n : Nat), expand (firstP rs n) = (expand rs).take n
  | [], n => by
    show [] = List.take n []
    rw [List.take_nil]
  | (i, m, wh) :: r, n => by
    unfold firstP
    by_cases h : n = 0
    · rw [if_pos h, h, List.take_zero]
      rfl
    · rw [if_neg h, expand_cons, expand_cons, expand_first r, List.take_append, List.length_replicate, List.take_replicate]
      show List.replicate (min m n) _ ++ _ = List.replicate (min n m) _ ++ _
      rw [Nat.min_comm m n, show n - min n m = n - m by omega]
theorem expand_all {f : Sch → Nat → List Row} {g : Sch → Nat → List Un} : ∀ (ks : List Sch) (j : Nat), (∀ s ∈ ks, ∀ j, g s j = expand (f s j)) → allU g ks j = expand (allU f ks j)
  | [], _, _ => rfl
  | s :: r, j, h => by
    show g s j ++ allU g r (j + 1) = expand (f s j ++ allU f r (j + 1))
    rw [expand_app, h s List.mem_cons_self j, expand_all r (j + 1) fun s hs => h s (List.mem_cons_of_mem _ hs)]
theorem expand_best {f : Sch → Nat → List Row} {g : Sch → Nat → List Un} : ∀ (ks : List Sch) (j : Nat) (acc : List Row), (∀ s ∈ ks, ∀ j, g s j = expand (f s j)) → bestU g ks j (expand acc) = expand (bestR f ks j acc)
  | [], _, _, _ => rfl
  | s :: r, j, acc, h => by
    show bestU g r (j + 1) (if (expand acc).length < (g s j).length then g s j else expand acc) = expand (bestR f r (j + 1) (if pts acc < pts (f s j) then f s j else acc))
    rw [h s List.mem_cons_self j, expand_len, expand_len, ← expand_best r (j + 1) _ fun s hs => h s (List.mem_cons_of_mem _ hs)]
    split <;> rfl
/-- the points are those of the rows -/
theorem uP_expand {ps : List Sch} {ws : List StepT} : ∀ (k : Nat) (s : Sch) (st : Nat) (c : Bool) (wh : List Nat), uP ps ws k s st c wh = expand (rP ps ws k s st c wh)
  | 0, _, _, _, _ => rfl
  | k + 1, .step x p, st, c, wh => by
    unfold uP rP
    cases hits ws c x st with
    | nil => rfl
    | cons i r => show List.replicate _ _ = expand [_]; rw [expand_cons]; show _ = List.replicate _ _ ++ []; rw [List.append_nil]
  | k + 1, .behind x s, st, c, wh => by
    unfold uP rP
    cases hits ws c x st with
    | nil => rfl
    | cons i r => exact uP_expand k s _ c _
  | k + 1, .use n, st, c, wh => by
    unfold uP rP
    cases ps[n]? with
    | none => rfl
    | some s => exact uP_expand k s st c _
  | k + 1, .all ks, st, c, wh => expand_all ks 0 fun s _ j => uP_expand k s st c _
  | k + 1, .best ks, st, c, wh => expand_best ks 0 [] fun s _ j => uP_expand k s st c _
  | k + 1, .fin x p s, st, c, wh => by
    unfold uP rP
    split
    · rw [expand_cons]
      show _ = List.replicate _ _ ++ []
      rw [List.append_nil]
    · exact uP_expand k s st c _
  | k + 1, .seen x s, st, c, wh => by
    unfold uP rP
    split
    · exact uP_expand k s st c _
    · rfl
  | k + 1, .most n s, st, c, wh => by
    unfold uP rP
    rw [uP_expand k s st c _, expand_first]
  | k + 1, .half s, st, c, wh => by
    unfold uP rP
    rw [uP_expand k s st c _, expand_first, expand_len]
  | k + 1, .carry s, st, c, wh => uP_expand k s st true _
/-- rows that can stand side by side: each has points, no two one place -/
def Good (wh : List Nat) (rs : List Row) : Prop := (∀ r ∈ rs, 0 < r.2.1 ∧ wh <+: r.2.2) ∧ (rs.map fun r => r.2.2).Nodup
theorem Good.nil (wh : List Nat) : Good wh [] := ⟨(fun _ h => nomatch h), List.nodup_nil⟩
theorem Good.one {i n : Nat} (wh : List Nat) (h : 0 < n) : Good wh [(i, n, wh)] := ⟨fun r hr => by rw [List.mem_singleton.mp hr]; exact ⟨h, List.prefix_refl _⟩, by simp⟩
theorem Good.up {wh : List Nat} {j : Nat} {rs : List Row} (h : Good (wh ++ [j]) rs) : Good wh rs := ⟨fun r hr => ⟨(h.1 r hr).1, (List.prefix_append _ _).trans (h.1 r hr).2⟩, h.2⟩
theorem first_mem : ∀ (rs : List Row) (n : Nat) (r : Row), r ∈ firstP rs n → (∀ r ∈ rs, 0 < r.2.1) → 0 < r.2.1 ∧ ∃ r' ∈ rs, r'.2.2 = r.2.2
  | [], _, _, h, _ => by cases h
  | (i, m, w) :: t, n, r, h, hp => by
    unfold firstP at h
    by_cases hn : n = 0
    · rw [if_pos hn] at h
      cases h
    · rw [if_neg hn] at h
      rcases List.mem_cons.mp h with rfl | h
      · have : 0 < m := hp _ List.mem_cons_self
        exact ⟨by show 0 < min m n; omega, _, List.mem_cons_self, rfl⟩
      · obtain ⟨h1, r', h2, h3⟩ := first_mem t _ r h fun r hr => hp r (List.mem_cons_of_mem _ hr)
        exact ⟨h1, r', List.mem_cons_of_mem _ h2, h3⟩
theorem first_sub : ∀ (rs : List Row) (n : Nat), ((firstP rs n).map fun r => r.2.2).Sublist (rs.map fun r => r.2.2)
  | [], _ => List.Sublist.slnil
  | (i, m, w) :: t, n => by
    unfold firstP
    split
    · exact List.nil_sublist _
    · exact (first_sub t _).cons_cons _
theorem Good.first {wh : List Nat} {rs : List Row} (h : Good wh rs) (n : Nat) : Good wh (firstP rs n) := ⟨fun r hr => by
  obtain ⟨h1, r', h2, h3⟩ := first_mem rs n r hr fun r hr => (h.1 r hr).1
  exact ⟨h1, by rw [← h3]; exact (h.1 r' h2).2⟩, h.2.sublist (first_sub rs n)⟩
theorem pre_eq {wh t : List Nat} {i j : Nat} (h1 : wh ++ [i] <+: t) (h2 : wh ++ [j] <+: t) : i = j := by
  have h := List.prefix_of_prefix_length_le h1 h2 (by simp)
  obtain ⟨u, hu⟩ := h
  rw [List.append_assoc] at hu
  have := List.append_cancel_left hu
  simp at this
  exact this.1
theorem good_all {wh : List Nat} {f : Sch → Nat → List Row} : ∀ (ks : List Sch) (j : Nat), (∀ s ∈ ks, ∀ j, Good (wh ++ [j]) (f s j)) → (∀ r ∈ allU f ks j, 0 < r.2.1 ∧ ∃ j', j ≤ j' ∧ wh ++ [j'] <+: r.2.2) ∧ ((allU f ks j).map fun r => r.2.2).Nodup
  | [], _, _ => ⟨(fun _ h => nomatch h), List.nodup_nil⟩
  | s :: t, j, h => by
    obtain ⟨a1, a2⟩ := good_all t (j + 1) fun s hs => h s (List.mem_cons_of_mem _ hs)
    have g := h s List.mem_cons_self j
    show (∀ r ∈ f s j ++ allU f t (j + 1), _) ∧ ((f s j ++ allU f t (j + 1)).map fun r => r.2.2).Nodup
    refine ⟨fun r hr => ?_, ?_⟩
    · rcases List.mem_append.mp hr with hr | hr
      · exact ⟨(g.1 r hr).1, j, Nat.le_refl _, (g.1 r hr).2⟩
      · obtain ⟨p, j', h1, h2⟩ := a1 r hr
        exact ⟨p, j', by omega, h2⟩
    · rw [List.map_append]
      refine List.nodup_append.mpr ⟨g.2, a2, fun x hx y hy e => ?_⟩
      obtain ⟨r1, m1, rfl⟩ := List.mem_map.mp hx
      obtain ⟨r2, m2, e2⟩ := List.mem_map.mp hy
      obtain ⟨_, j', h1, h2⟩ := a1 r2 m2
      have p1 := (g.1 r1 m1).2
      rw [e, ← e2] at p1
      have := pre_eq p1 h2
      omega
theorem good_best {wh : List Nat} {f : Sch → Nat → List Row} : ∀ (ks : List Sch) (j : Nat) (acc : List Row), (∀ s ∈ ks, ∀ j, Good (wh ++ [j]) (f s j)) → Good wh acc → Good wh (bestR f ks j acc)
  | [], _, _, _, g => g
  | s :: t, j, acc, h, g => good_best t (j + 1) _ (fun s hs => h s (List.mem_cons_of_mem _ hs)) (by
    split
    · exact (h s List.mem_cons_self j).up
    · exact g)
theorem rP_good {ps : List Sch} {ws : List StepT} {M : Nat} (hp : ∀ (j : Nat) (s : Sch), ps[j]? = some s → OkS j M 5 s) : ∀ (k : Nat) (i d : Nat) (s : Sch) (st : Nat) (c : Bool) (wh : List Nat), OkS i M d s → Good wh (rP ps ws k s st c wh)
  | 0, _, _, _, _, _, _, _ => Good.nil _
  | k + 1, i, 0, s, st, c, wh, o => by cases o
  | k + 1, i, d + 1, .step x p, st, c, wh, o => by
    unfold rP
    have := o.2.1
    split
    · exact Good.nil _
    · exact Good.one _ (by omega)
  | k + 1, i, d + 1, .behind x s, st, c, wh, o => by
    unfold rP
    split
    · exact Good.nil _
    · exact (rP_good hp k i d s _ c _ o.2).up
  | k + 1, i, d + 1, .use n, st, c, wh, o => by
    unfold rP
    split
    · exact Good.nil _
    · rename_i s e
      exact (rP_good hp k n 5 s st c _ (hp n s e)).up
  | k + 1, i, d + 1, .all ks, st, c, wh, o => by
    obtain ⟨a1, a2⟩ := good_all (wh := wh) (f := fun s j => rP ps ws k s st c (wh ++ [j])) ks 0 fun s hs j => rP_good hp k i d s st c _ (o.2.2 s hs)
    exact ⟨fun r hr => by
      obtain ⟨p, j', _, h2⟩ := a1 r hr
      exact ⟨p, (List.prefix_append _ _).trans h2⟩, a2⟩
  | k + 1, i, d + 1, .best ks, st, c, wh, o => good_best ks 0 [] (fun s hs j => rP_good hp k i d s st c _ (o.2.2 s hs)) (Good.nil _)
  | k + 1, i, d + 1, .fin x p s, st, c, wh, o => by
    unfold rP
    have := o.1.2.1
    split
    · exact Good.one _ (by omega)
    · exact (rP_good hp k i d s st c _ o.2).up
  | k + 1, i, d + 1, .seen x s, st, c, wh, o => by
    unfold rP
    split
    · exact (rP_good hp k i d s st c _ o.2).up
    · exact Good.nil _
  | k + 1, i, d + 1, .most n s, st, c, wh, o => ((rP_good hp k i d s st c _ o.2).up).first _
  | k + 1, i, d + 1, .half s, st, c, wh, o => ((rP_good hp k i d s st c _ o).up).first _
  | k + 1, i, d + 1, .carry s, st, c, wh, o => (rP_good hp k i d s st true _ o).up
theorem add_more (acc : List Row) (i : Nat) (w : List Nat) : ∀ (n m : Nat), (List.replicate n ((i, w) : Un)).foldl addU (acc ++ [(i, m, w)]) = acc ++ [(i, m + n, w)]
  | 0, m => rfl
  | n + 1, m => by
    show (List.replicate n ((i, w) : Un)).foldl addU (addU (acc ++ [(i, m, w)]) (i, w)) = _
    rw [addU_same acc (i, m, w) (i, w) rfl]
    show (List.replicate n ((i, w) : Un)).foldl addU (acc ++ [(i, m + 1, w)]) = _
    rw [add_more acc i w n (m + 1), show m + 1 + n = m + (n + 1) by omega]
theorem add_rows : ∀ (rs acc : List Row), (∀ r ∈ rs, 0 < r.2.1) → ((acc ++ rs).map fun r => r.2.2).Nodup → (expand rs).foldl addU acc = acc ++ rs
  | [], acc, _, _ => by rw [List.append_nil]; rfl
  | (i, n, w) :: t, acc, hp, hn => by
    have n0 : 0 < n := hp _ List.mem_cons_self
    obtain ⟨m, rfl⟩ : ∃ m, n = m + 1 := ⟨n - 1, by omega⟩
    have hnw : w ∉ acc.map fun r => r.2.2 := fun z => by
      rw [List.map_append] at hn
      exact (List.nodup_append.mp hn).2.2 w z w List.mem_cons_self rfl
    have he : addU acc (i, w) = acc ++ [(i, 1, w)] := addU_else acc (i, w) (by
      have : sameW acc (i, w) = false := by
        unfold sameW
        cases hl : acc.getLast? with
        | none => rfl
        | some r =>
          refine decide_eq_false fun e => hnw ?_
          rw [← show r.2.2 = w from e]
          exact List.mem_map_of_mem (List.mem_of_getLast? hl)
      rw [this, Bool.and_false])
    rw [expand_cons, List.foldl_append]
    show (expand t).foldl addU ((List.replicate m ((i, w) : Un)).foldl addU (addU acc (i, w))) = _
    rw [he, add_more, add_rows t _ (fun r hr => hp r (List.mem_cons_of_mem _ hr)) (by
      rw [show acc ++ [(i, 1 + m, w)] ++ t = acc ++ ((i, 1 + m, w) :: t) by simp]
      rw [List.map_append] at hn ⊢
      exact hn)]
    rw [show 1 + m = m + 1 by omega]
    simp
theorem eP_expand {wh : List Nat} {rs : List Row} (h : Good wh rs) : eP (expand rs) = rs := by
  have := add_rows rs [] (fun r hr => (h.1 r hr).1) (by simpa using h.2)
  simpa [eP] using this
/-- all rows that a work earns -/
def rAll (ps : List Sch) (ws : List StepT) : List Row := match ps with
  | [] => []
  | s :: _ => rP ps ws 30 s 0 false []
theorem eP_all {ps : List Sch} {ws : List StepT} (h : PaperOk ps) : eP (uAll ps ws) = rAll ps ws := by
  obtain ⟨ce, hp, _, _⟩ := h.facts
  cases ps with
  | nil => rfl
  | cons s r =>
    show eP (uP (s :: r) ws 30 s 0 false []) = rP (s :: r) ws 30 s 0 false []
    rw [uP_expand]
    exact eP_expand (rP_good (fun j s e => (hp j s e).1) 30 0 5 s 0 false [] (hp 0 s rfl).1)
theorem uAll_len {ps : List Sch} {ws : List StepT} : (uAll ps ws).length = pts (rAll ps ws) := by
  cases ps with
  | nil => rfl
  | cons s r =>
    show (uP (s :: r) ws 30 s 0 false []).length = pts (rP (s :: r) ws 30 s 0 false [])
    rw [uP_expand, expand_len]
end MS
end
section
set_option maxRecDepth 100000
set_option maxHeartbeats 4000000
namespace MS
open PySem L2
/-- the word that a scheme names itself -/
def wordOf : Sch → Str
  | .step x _ => x
  | .seen x _ => x
  | .behind x _ => x
  | .fin x _ _ => x
  | _ => ""
/-- the schemes within -/
def kidsOf : Sch → List Sch
  | .step _ _ => []
  | .all k => k
  | .best k => k
  | .most _ s => [s]
  | .half s => [s]
  | .seen _ s => [s]
  | .behind _ s => [s]
  | .carry s => [s]
  | .fin _ _ s => [s]
  | .use _ => []
structure Shp (H : Hp) (i M d : Nat) (sc : Sch) (nm : Str) (rest : List V) (kinds : List Str) (kv : List V) : Prop where
  mem : (nm, kinds) ∈ shapesL
  fit : Paired (FitsR H i M) rest kinds
  ok : ∀ s ∈ kidsOf sc, OkS i M d s
  at_ : Paired (SAt H d) (kidsOf sc) kv
  w1 : ∃ k0 kr, kinds = k0 :: kr ∧ ((k0 = "word" ∧ atI (.str nm :: rest) 1 = some (.str (wordOf sc))) ∨ (k0 ≠ "word" ∧ wordOf sc = ""))
  k1 : ∃ kl, atI (kinds.map V.str) (-1) = some (.str kl) ∧ ((kl = "schemes" ∧ ∃ b, atI (.str nm :: rest) (-1) = some (.ref b) ∧ H b = some (.tup kv)) ∨ (kl = "scheme" ∧ ∃ u, atI (.str nm :: rest) (-1) = some u ∧ kv = [u]) ∨ (kl ≠ "schemes" ∧ kl ≠ "scheme" ∧ kv = []))
theorem SAt.shape {H : Hp} {i M d : Nat} {sc : Sch} {a : Addr} {nm : Str} {rest : List V} (h : SAt H (d + 1) sc (.ref a)) (o : OkS i M (d + 1) sc) (ea : H a = some (.tup (.str nm :: rest))) : ∃ kinds kv, Shp H i M d sc nm rest kinds kv := by
  have inj : ∀ {a' : Addr} {nm' : Str} {rest' : List V}, (V.ref a = V.ref a') → H a' = some (.tup (.str nm' :: rest')) → nm' = nm ∧ rest' = rest := fun e h => by
    cases e
    rw [ea] at h
    cases h
    exact ⟨rfl, rfl⟩
  have fw : ∀ {x : Str}, IsW x → FitsR H i M (.str x) "word" := fun hx => .inl ⟨rfl, _, rfl, hx⟩
  have fp : ∀ {p : Int}, 1 ≤ p → p ≤ 9 → FitsR H i M (.int p) "points" := fun h1 h2 => .inr (.inl ⟨rfl, _, rfl, h1, h2⟩)
  have fs : ∀ {u : V}, FitsR H i M u "scheme" := .inr (.inr (.inr (.inr (.inl rfl))))
  have one : ∀ {s : Sch}, OkS i M d s → ∀ s' ∈ [s], OkS i M d s' := fun o s' h' => by rw [List.mem_singleton.mp h']; exact o
  cases sc with
  | step x p =>
    obtain ⟨a', e, h⟩ := h
    obtain ⟨rfl, rfl⟩ := inj e h
    exact ⟨["word", "points"], [], by decide +kernel, .cons (fw o.1) (.cons (fp o.2.1 o.2.2) .nil), (fun _ h => nomatch h), .nil, ⟨_, _, rfl, .inl ⟨rfl, at1⟩⟩, ⟨"points", rfl, .inr (.inr ⟨by decide +kernel, by decide +kernel, rfl⟩)⟩⟩
  | all k =>
    obtain ⟨a', b, vs, e, h, eb, hk⟩ := h
    obtain ⟨rfl, rfl⟩ := inj e h
    have := Paired.length hk
    have h1 := o.1
    have h2 := o.2.1
    exact ⟨["schemes"], vs, by decide +kernel, .cons (.inr (.inr (.inr (.inl ⟨rfl, b, vs, rfl, eb, by omega, by omega⟩)))) .nil, o.2.2, hk, ⟨_, _, rfl, .inr ⟨by decide +kernel, rfl⟩⟩, ⟨"schemes", rfl, .inl ⟨rfl, b, rfl, eb⟩⟩⟩
  | best k =>
    obtain ⟨a', b, vs, e, h, eb, hk⟩ := h
    obtain ⟨rfl, rfl⟩ := inj e h
    have := Paired.length hk
    have h1 := o.1
    have h2 := o.2.1
    exact ⟨["schemes"], vs, by decide +kernel, .cons (.inr (.inr (.inr (.inl ⟨rfl, b, vs, rfl, eb, by omega, by omega⟩)))) .nil, o.2.2, hk, ⟨_, _, rfl, .inr ⟨by decide +kernel, rfl⟩⟩, ⟨"schemes", rfl, .inl ⟨rfl, b, rfl, eb⟩⟩⟩
  | most n s =>
    obtain ⟨a', u, e, h, hs⟩ := h
    obtain ⟨rfl, rfl⟩ := inj e h
    exact ⟨["limit", "scheme"], [u], by decide +kernel, .cons (.inr (.inr (.inl ⟨rfl, n, rfl, o.1.1, o.1.2⟩))) (.cons fs .nil), one o.2, .cons hs .nil, ⟨_, _, rfl, .inr ⟨by decide +kernel, rfl⟩⟩, ⟨"scheme", rfl, .inr (.inl ⟨rfl, u, rfl, rfl⟩)⟩⟩
  | half s =>
    obtain ⟨a', u, e, h, hs⟩ := h
    obtain ⟨rfl, rfl⟩ := inj e h
    exact ⟨["scheme"], [u], by decide +kernel, .cons fs .nil, one o, .cons hs .nil, ⟨_, _, rfl, .inr ⟨by decide +kernel, rfl⟩⟩, ⟨"scheme", rfl, .inr (.inl ⟨rfl, u, rfl, rfl⟩)⟩⟩
  | seen x s =>
    obtain ⟨a', u, e, h, hs⟩ := h
    obtain ⟨rfl, rfl⟩ := inj e h
    exact ⟨["word", "scheme"], [u], by decide +kernel, .cons (fw o.1) (.cons fs .nil), one o.2, .cons hs .nil, ⟨_, _, rfl, .inl ⟨rfl, at1⟩⟩, ⟨"scheme", rfl, .inr (.inl ⟨rfl, u, rfl, rfl⟩)⟩⟩
  | behind x s =>
    obtain ⟨a', u, e, h, hs⟩ := h
    obtain ⟨rfl, rfl⟩ := inj e h
    exact ⟨["word", "scheme"], [u], by decide +kernel, .cons (fw o.1) (.cons fs .nil), one o.2, .cons hs .nil, ⟨_, _, rfl, .inl ⟨rfl, at1⟩⟩, ⟨"scheme", rfl, .inr (.inl ⟨rfl, u, rfl, rfl⟩)⟩⟩
  | carry s =>
    obtain ⟨a', u, e, h, hs⟩ := h
    obtain ⟨rfl, rfl⟩ := inj e h
    exact ⟨["scheme"], [u], by decide +kernel, .cons fs .nil, one o, .cons hs .nil, ⟨_, _, rfl, .inr ⟨by decide +kernel, rfl⟩⟩, ⟨"scheme", rfl, .inr (.inl ⟨rfl, u, rfl, rfl⟩)⟩⟩
  | fin x p s =>
    obtain ⟨a', u, e, h, hs⟩ := h
    obtain ⟨rfl, rfl⟩ := inj e h
    exact ⟨["word", "points", "scheme"], [u], by decide +kernel, .cons (fw o.1.1) (.cons (fp o.1.2.1 o.1.2.2) (.cons fs .nil)), one o.2, .cons hs .nil, ⟨_, _, rfl, .inl ⟨rfl, at1⟩⟩, ⟨"scheme", rfl, .inr (.inl ⟨rfl, u, rfl, rfl⟩)⟩⟩
  | use n =>
    obtain ⟨a', e, h⟩ := h
    obtain ⟨rfl, rfl⟩ := inj e h
    exact ⟨["later"], [], by decide +kernel, .cons (.inr (.inr (.inr (.inr (.inr ⟨rfl, n, rfl, o.1, o.2⟩))))) .nil, (fun _ h => nomatch h), .nil, ⟨_, _, rfl, .inr ⟨by decide +kernel, rfl⟩⟩, ⟨"later", rfl, .inr (.inr ⟨by decide +kernel, by decide +kernel, rfl⟩)⟩⟩
def spWordIn : Sp := fun vs H Q _ => ∃ (v : V) (sc : Sch) (i M d : Nat), vs = [v] ∧ SAt H (d + 1) sc v ∧ OkS i M (d + 1) sc ∧ Q (.str (wordOf sc)) H
def spWithin : Sp := fun vs H Q _ => ∃ (v : V) (sc : Sch) (i M d : Nat), vs = [v] ∧ SAt H (d + 1) sc v ∧ OkS i M (d + 1) sc ∧ ∀ (f : Addr) (kv : List V), H f = none → Paired (SAt H d) (kidsOf sc) kv → Q (.ref f) (upd H f (.lst kv))
section
variable {P : Program} {w : World} {K : PySem.W.Frag} {mg : Str → Option Value} {base : Heap}
theorem ok_word_in (T : PTx w K mg) (D : Def K mg "word_in" s_word_in ["scheme"]) : FnOk P w K mg base CX0 1 D.f D.fd ["scheme"] spWordIn := by
  obtain ⟨aS, gS, low, hS⟩ := T.shapes
  refine D.ok sc_word_in (fun vs H Q E h => ?_) (fun cdv A outer s H vs Q E hr h => ?_)
  · obtain ⟨v, sc, i, M, d, rfl, _⟩ := h
    rfl
  obtain ⟨v, sc, i, M, d, rfl, hs, ho, q⟩ := h
  refine ⟨_, pss_one (ps_ret (pe_ifExp (pt_cmpR op_eq (pe_ix ix_tup (pe_ix ix_kdict (pe_glob rfl gS (v := .ref aS) rfl) (pe_ix ix_tup (pv 0) pe_int (fun _ _ => rfl)) (fun _ _ => rfl)) pe_int (fun _ _ => rfl)) pe_str (nomark _)) (pe_ix ix_tup (pv 0) pe_int (fun _ _ => rfl)) pe_str)), ?_⟩
  obtain ⟨a, nm, rest, rfl, ea⟩ := hs.tag
  obtain ⟨kinds, kv, S⟩ := hs.shape ho ea
  obtain ⟨t, kd, qt⟩ := hS _ S.mem
  obtain ⟨k0, kr, rfl, hk⟩ := S.w1
  refine ⟨_, rfl, a, _, 0, .str nm, rfl, rfl, SqT.of ea, at0, aS, nm, .ref t, rfl, rfl, kd, t, _, 0, .str k0, rfl, rfl, qt _, at0, rfl, _, rfl, ?_⟩
  rw [dec_str]
  rcases hk with ⟨e, e1⟩ | ⟨e, e1⟩
  · rw [e, show (("word" : Str) == "word") = true by decide +kernel]
    exact iteT ⟨_, rfl, a, _, 1, _, rfl, rfl, SqT.of ea, e1, q⟩
  · rw [beq_eq_false_iff_ne.mpr e]
    rw [e1] at q
    exact iteF q
theorem ok_within (T : PTx w K mg) (D : Def K mg "within" s_within ["scheme"]) : FnOk P w K mg base CX0 1 D.f D.fd ["scheme"] spWithin := by
  obtain ⟨aS, gS, low, hS⟩ := T.shapes
  have nd := sc_within.nd
  refine D.ok sc_within (fun vs H Q E h => ?_) (fun cdv A outer s H vs Q E hr h => ?_)
  · obtain ⟨v, sc, i, M, d, rfl, _⟩ := h
    rfl
  obtain ⟨v, sc, i, M, d, rfl, hs, ho, q⟩ := h
  refine ⟨_, pss_cons (ps_set (i := 1) nd rfl (Or.inl rfl) (pe_ix ix_tup (pe_ix ix_kdict (pe_glob rfl gS (v := .ref aS) rfl) (pe_ix ix_tup (pv 0) pe_int (fun _ _ => rfl)) (fun _ _ => rfl)) (pe_un un_neg pe_int) (fun _ _ => rfl)))
    (pss_cons (ps_if (pt_cmpR op_eq (pv 1) pe_str (nomark _)) (pss_one (ps_ret (pe_callTy call_list_of rfl (T.free "list" (by decide +kernel)) (by decide +kernel) (pa_cons (pe_ix ix_tup (pv 0) (pe_un un_neg pe_int) (fun _ _ => rfl)) pa_nil)))) pss_nil)
    (pss_one (ps_ret (pe_ifExp (pt_cmpR op_eq (pv 1) pe_str (nomark _)) (pe_lst (pa_cons (pe_ix ix_tup (pv 0) (pe_un un_neg pe_int) (fun _ _ => rfl)) pa_nil)) (pe_lst pa_nil))))), ?_⟩
  obtain ⟨a, nm, rest, rfl, ea⟩ := hs.tag
  obtain ⟨kinds, kv, S⟩ := hs.shape ho ea
  obtain ⟨t, kd, qt⟩ := hS _ S.mem
  obtain ⟨kl, hl, hk⟩ := S.k1
  refine ⟨_, rfl, a, _, 0, .str nm, rfl, rfl, SqT.of ea, at0, aS, nm, .ref t, rfl, rfl, kd, 1, rfl, t, _, -1, .str kl, rfl, rfl, qt _, hl, ?_⟩
  have S_at := S.at_
  rcases hk with ⟨e, b, e1, eb⟩ | ⟨e, u, e1, ek⟩ | ⟨n1, n2, ek⟩
  · refine seq_if (b := true) (is_word rfl (by rw [e]; decide +kernel)) (fun _ => ?_) (fun z => nomatch z)
    exact ⟨_, rfl, 1, rfl, a, _, -1, .ref b, rfl, rfl, SqT.of ea, e1, b, kv, rfl, .inr (SqT.of eb), fun l hl' => q l kv hl' S_at⟩
  · refine seq_if (b := false) (is_word rfl (by rw [e]; decide +kernel)) (fun z => nomatch z) (fun _ => ?_)
    refine is_word (b := true) rfl (by rw [e]; decide +kernel) _ (iteT ?_)
    exact ⟨_, rfl, 1, rfl, a, _, -1, u, rfl, rfl, SqT.of ea, e1, szN (by show 1 ≤ 6000; decide), fun l hl' => q l _ hl' (by rw [← ek]; exact S_at)⟩
  · refine seq_if (b := false) (is_word rfl (beq_eq_false_iff_ne.mpr n1)) (fun z => nomatch z) (fun _ => ?_)
    refine is_word (b := false) rfl (beq_eq_false_iff_ne.mpr n2) _ (iteF ?_)
    exact ⟨Nat.zero_le _, fun l hl' => q l _ hl' (by rw [← ek]; exact S_at)⟩
end
end MS
end
section
set_option maxRecDepth 100000
set_option maxHeartbeats 4000000
namespace MS
open PySem L2
/-! ### rows in the program -/
theorem pts_sum : ∀ rs : List Row, (rs.map fun r => ((r.2.1 : Nat) : Int)).sum = ((pts rs : Nat) : Int)
  | [] => rfl
  | r :: t => by
    rw [List.map_cons, List.sum_cons, pts_sum t, pts_cons]
    omega
def spPoints : Sp := fun vs H Q _ => ∃ (a : Addr) (rs : List Row) (rv : List V), vs = [.ref a] ∧ H a = some (.lst rv) ∧ Paired (RowR H) rs rv ∧ rs.length ≤ 1000 ∧ ∀ H', Same H H' → Q (.int ((pts rs : Nat) : Int)) H'
def spFirst : Sp := fun vs H Q _ => ∃ (a : Addr) (n : Nat) (rs : List Row) (rv : List V), vs = [.ref a, .int ((n : Nat) : Int)] ∧ H a = some (.lst rv) ∧ Paired (RowR H) rs rv ∧ rs.length ≤ 1000 ∧
  ∀ (f : Addr) (rv' : List V) (H' : Hp), Same H H' → H f = none → H' f = some (.lst rv') → Paired (RowR H') (firstP rs n) rv' → Q (.ref f) H'
theorem first_step (r : Row) (t : List Row) (left : Nat) : firstP (r :: t) left = if left = 0 then [] else (r.1, min r.2.1 left, r.2.2) :: firstP t (left - min r.2.1 left) := rfl
theorem first_zero (rs : List Row) : firstP rs 0 = [] := by
  cases rs with
  | nil => rfl
  | cons r t => rw [first_step, if_pos rfl]
theorem Same.newer {H H1 : Hp} {p : Addr} {o : HO} (k : Same H H1) (h : H p = none) : Same H (upd H1 p o) := fun b u q => by
  rw [upd_ne (ne_of_none q h)]
  exact k b u q
section
variable {P : Program} {w : World} {K : PySem.W.Frag} {mg : Str → Option Value} {base : Heap}
theorem ok_points_of (T : PTx w K mg) (D : Def K mg "points_of" s_points_of ["rows"]) : FnOk P w K mg base CX0 1 D.f D.fd ["rows"] spPoints := by
  have nd := sc_points_of.nd
  refine D.ok sc_points_of (fun vs H Q E h => ?_) (fun cdv A outer s H vs Q E hr h => ?_)
  · obtain ⟨a, rs, rv, rfl, _⟩ := h
    rfl
  obtain ⟨a, rs, rv, rfl, ea, pr, hl, q⟩ := h
  refine ⟨_, pss_one (ps_ret (pe_callB (cr_sum rfl) rfl (T.free "sum" (by decide +kernel)) (by decide +kernel) (pa_cons
    (pe_lc (own := [("place", 1), ("points", 2), ("where", 3)]) (g := gTup K 3 (gCons (gName 1) (gCons (gName 2) (gCons (gName 3) gNil)))) (tt := tYes) rfl nd (pi_list (pv 0)) (blkOk_by (N := ["rows", "place", "points", "where"]) (sc := defScope s_points_of) (by decide +kernel))
      (fun _ _ _ _ _ => pg_tup rfl (pgs_cons (pg_name (i := 1) nd rfl (Or.inl rfl)) (pgs_cons (pg_name (i := 2) nd rfl (Or.inl rfl)) (pgs_cons (pg_name (i := 3) nd rfl (Or.inl rfl)) pgs_nil)))) (fun _ _ _ _ _ => pts_nil) (fun _ _ _ _ _ => pv 2)) pa_nil))), ?_⟩
  have lr := Paired.length pr
  refine ⟨_, rfl, a, rfl, ⟨_, SqL.of ea⟩, fun Dd hD => ?_⟩
  have naD : a ≠ Dd := ne_of_none ea hD
  refine lc_list (K := K) (a := a) (xs := rv) (fun j H'' => H'' = upd H Dd (.lst (((rs.take j).map fun r => ((r.2.1 : Nat) : Int)).map V.int))) rfl (fun j H'' _ e => by rw [e]; exact SqL.of (by rw [upd_ne naD]; exact ea)) ?_ ?_
  · rintro j x H'' hj rfl
    obtain ⟨r, er', ⟨b, c, rfl, eb, ec⟩⟩ := paired_get' pr hj
    have hjl := (List.getElem?_eq_some_iff.mp er').1
    have tk : rs.take (j + 1) = rs.take j ++ [r] := by
      rw [List.take_succ, er']
      rfl
    refine ⟨b, _, rfl, SqT.of (Same.new hD _ _ eb), rfl, _, _, rfl, _, _, rfl, _, _, rfl, rfl, rfl, _, rfl, _, upd_same, ?_, ?_⟩
    · rw [List.length_map, List.length_map, List.length_take]
      exact small1000 (by omega)
    · rw [upd_upd, tk, List.map_append, List.map_append]
      rfl
  · rintro H'' rfl
    rw [← lr, List.take_length]
    refine ⟨Dd, _, rfl, SqL.of upd_same, ?_⟩
    rw [pts_sum]
    exact q _ (Same.new hD)
theorem ok_first_points (T : PTx w K mg) (D : Def K mg "first_points" s_first_points ["rows", "limit"]) : FnOk P w K mg base CX0 1 D.f D.fd ["rows", "limit"] spFirst := by
  have nd := sc_first_points.nd
  refine D.ok sc_first_points (fun vs H Q E h => ?_) (fun cdv A outer s H vs Q E hr h => ?_)
  · obtain ⟨a, n, rs, rv, rfl, _⟩ := h
    rfl
  obtain ⟨a, n, rs, rv, rfl, ea, pr, hl, q⟩ := h
  refine ⟨_, pss_cons (ps_set (i := 2) nd rfl (Or.inl rfl) (pe_lst pa_nil))
    (pss_cons (ps_set (i := 3) nd rfl (Or.inl rfl) (pv 1))
    (pss_cons (ps_for PassesOwn.never rfl (pi_list (pv 0)) (pg_tup (by rfl) (pgs_cons (pg_name (i := 4) nd rfl (Or.inl rfl)) (pgs_cons (pg_name (i := 5) nd rfl (Or.inl rfl)) (pgs_cons (pg_name (i := 6) nd rfl (Or.inl rfl)) pgs_nil))))
      (pss_cons (ps_if (pt_cmpR op_eq (pv 3) pe_int (nomark _)) (pss_one ps_break) pss_nil)
      (pss_cons (ps_set (i := 7) nd rfl (Or.inl rfl) (pe_callB (call_min2 rfl) rfl (T.free "min" (by decide +kernel)) (by decide +kernel) (pa_cons (pv 5) (pa_cons (pv 3) pa_nil))))
      (pss_cons (ps_expr (pe_bm PySem.F.plainAttrs_list PySem.F.slot_list_append PySem.F.type_list_append mt_append (pv 2) (pa_cons (pe_tup (pa_cons (pv 4) (pa_cons (pv 7) (pa_cons (pv 6) pa_nil)))) pa_nil)))
      (pss_one (ps_aug (i := 3) nd rfl (Or.inl rfl) (pv 7) ip_sub))))))
    (pss_one (ps_ret (pv 2))))), ?_⟩
  have lr := Paired.length pr
  refine ⟨Nat.zero_le _, fun f hf => ?_⟩
  dsimp only [gName]
  refine ⟨_, rfl, ?_⟩
  dsimp only [gName]
  have s1 : Same H (upd H f (.lst [])) := Same.new hf
  refine ⟨_, rfl, a, rfl, ⟨_, SqL.of (s1 _ _ ea)⟩, for_list (K := K) (a := a) (xs := rv) (fun j σ H'' => ∃ (kj : List Row) (kv : List V) (left : Nat) (v4 v5 v6 v7 : Option V), σ = [some (.ref a), some (.int ((n : Nat) : Int)), some (.ref f), some (.int ((left : Nat) : Int)), v4, v5, v6, v7] ∧ H'' f = some (.lst kv) ∧ Paired (RowR H'') kj kv ∧ kj.length ≤ j ∧ firstP rs n = kj ++ firstP (rs.drop j) left ∧ Same H H'')
    ⟨[], [], n, none, none, none, none, rfl, upd_same, .nil, Nat.le_refl _, rfl, s1⟩ (fun j σ H'' _ ⟨_, _, _, _, _, _, _, _, _, _, _, _, s2⟩ => SqL.of (s2 _ _ ea)) ?_ ?_⟩
  · rintro j x σ H5 hj ⟨kj, kv, left, v4, v5, v6, v7, rfl, ef, pk, lk, hf1, s2⟩
    obtain ⟨r, er', ⟨b, c, rfl, eb, ec⟩⟩ := paired_get' pr hj
    have eb5 := s2 _ _ eb
    have ec5 := s2 _ _ ec
    have hjl := (List.getElem?_eq_some_iff.mp er').1
    have dr : rs.drop j = r :: rs.drop (j + 1) := by
      rw [List.drop_eq_getElem_cons hjl]
      congr 1
      exact Option.some.inj ((List.getElem?_eq_getElem hjl).symm.trans er')
    rw [dr, first_step] at hf1
    refine ⟨b, _, rfl, SqT.of eb5, rfl, _, _, rfl, _, _, rfl, _, _, rfl, rfl, ?_⟩
    refine seq_if (b := ((left : Nat) : Int) == 0) (fun Q q => ⟨_, rfl, rfl, _, rfl, by rw [dec_int]; exact q⟩) (fun z => ?_) (fun z => ?_)
    · have z0 : left = 0 := by have := eq_of_beq z; omega
      rw [if_pos z0, List.append_nil] at hf1
      exact ⟨_, rfl, q f kv H5 s2 hf ef (by rw [hf1]; exact pk)⟩
    · have z0 : left ≠ 0 := fun e => by rw [e] at z; cases z
      rw [if_neg z0] at hf1
      have hmin : (if ((left : Nat) : Int) < ((r.2.1 : Nat) : Int) then ((left : Nat) : Int) else ((r.2.1 : Nat) : Int)) = ((min r.2.1 left : Nat) : Int) := by split <;> omega
      refine ⟨_, rfl, _, rfl, _, _, rfl, ?_⟩
      rw [hmin]
      dsimp only [gName]
      refine ⟨_, rfl, .inl ⟨rfl, _, SqL.of ef⟩, _, rfl, _, rfl, _, rfl, szN (by show 3 ≤ 6000; decide), fun t ht => ?_⟩
      have ntf : f ≠ t := ne_of_none ef ht
      have ef7 : upd H5 t (.tup [.int ((r.1 : Nat) : Int), .int ((min r.2.1 left : Nat) : Int), .ref c]) f = some (.lst kv) := by rw [upd_ne ntf]; exact ef
      have tk : ∀ o, TupK H5 (upd (upd H5 t (.tup [.int ((r.1 : Nat) : Int), .int ((min r.2.1 left : Nat) : Int), .ref c])) f o) := fun o => (TupK.new ht).trans (TupK.put ef7)
      have lkv := Paired.length pk
      refine ⟨f, _, _, rfl, rfl, ef7, small1000 (by omega), ?_⟩
      refine ⟨_, rfl, _, rfl, _, _, rfl, rfl, ?_⟩
      refine ⟨kj ++ [(r.1, min r.2.1 left, r.2.2)], _, left - min r.2.1 left, some (.int ((r.1 : Nat) : Int)), some (.int ((r.2.1 : Nat) : Int)), some (.ref c), some (.int ((min r.2.1 left : Nat) : Int)), ?_, upd_same, paired_app (paired_imp pk fun _ _ h => RowR.keep h (tk _)) (.cons ⟨t, c, rfl, ?_, tk _ _ _ ec5⟩ .nil), ?_, ?_, ?_⟩
      · rw [show (((left - min r.2.1 left : Nat)) : Int) = ((left : Nat) : Int) - ((min r.2.1 left : Nat) : Int) by omega]
        rfl
      · rw [upd_ne ntf.symm, upd_same]
      · rw [List.length_append]
        simp
        omega
      · rw [hf1]
        simp
      · exact Same.newer (s2.trans (Same.new ht)) hf
  · rintro σ H5 ⟨kj, kv, left, v4, v5, v6, v7, rfl, ef, pk, lk, hf1, s2⟩
    rw [← lr, List.drop_length] at hf1
    have e : firstP rs n = kj := by rw [hf1]; show kj ++ [] = kj; rw [List.append_nil]
    exact ⟨_, rfl, q f kv H5 s2 hf ef (by rw [e]; exact pk)⟩
end
end MS
end
section
set_option maxRecDepth 100000
set_option maxHeartbeats 4000000
namespace MS
open PySem L2
theorem walk_zipT {K : PySem.W.Frag} {a b : Addr} {xs ys : List V} {n : Nat} (hn : n = min xs.length ys.length) : Walk (RZ.ItzT K a b) n (fun H => SqT K H a xs ∧ SqT K H b ys) (YPair (fun i => xs[i]?) (fun i => ys[i]?)) := by
  subst hn
  refine ⟨fun i _ hi q => ?_, fun _ q => ⟨xs, ys, q.1, q.2, by omega⟩, fun i H v H' _ q y => ?_⟩
  · have h1 : i < xs.length := by omega
    have h2 : i < ys.length := by omega
    exact ⟨xs, ys, xs[i], ys[i], q.1, q.2, by simp [h1], by simp [h2]⟩
  · obtain ⟨T, x, z, h1, h2, h3, h4, h5⟩ := y
    exact ⟨T, x, z, h1, h2, h3, h4 xs q.1, h5 ys q.2⟩
def spCanBe (i M : Nat) : Sp := fun vs H Q _ => ∃ (v : V) (sc : Sch) (d : Nat), vs = [v, .int ((i : Nat) : Int), .int ((M : Nat) : Int)] ∧ SAt H (d + 1) sc v ∧ OkS i M (d + 1) sc ∧ ∀ H', Same H H' → Q (.bl true) H'
abbrev nmCanBe : List Str := ["thing", "number", "many", "shape", "part", "kind"]
abbrev psFits : List Str := ["part", "kind", "number", "many"]
theorem FitsR.keep {H H' : Hp} {i M : Nat} {v : V} {z : Str} (h : FitsR H i M v z) (k : Same H H') : FitsR H' i M v z := by
  rcases h with h | h | h | ⟨e, b, vs, e1, e2, h1, h2⟩ | h | h
  · exact .inl h
  · exact .inr (.inl h)
  · exact .inr (.inr (.inl h))
  · exact .inr (.inr (.inr (.inl ⟨e, b, vs, e1, k _ _ e2, h1, h2⟩)))
  · exact .inr (.inr (.inr (.inr (.inl h))))
  · exact .inr (.inr (.inr (.inr (.inr h))))
theorem not_whole {n : Nat} (h : 0 < n) : ¬ (HT.sIx n 0 (some 1) = 0 ∧ HT.sIx n n none = n) := fun ⟨h1, _⟩ => by
  have e := HT.sIx_nat n 0 1
  have h2 : HT.sIx n 0 (some ((1 : Nat) : Int)) = 0 := h1
  rw [e] at h2
  omega
section
variable {P : Program} {w : World} {K : PySem.W.Frag} {mg : Str → Option Value} {base : Heap}
theorem ok_can_be {i M : Nat} (T : PTx w K mg) (D : Def K mg "can_be" s_can_be ["thing", "number", "many"]) (DF : Def K mg "fits" s_fits psFits) (DN : Def K mg "is_number" s_is_number ["thing"]) : FnOk P w K mg base CX0 3 D.f D.fd ["thing", "number", "many"] (spCanBe i M) := by
  have GF : FnOk P w K mg base CX0 2 DF.f DF.fd psFits (spFits i M) := ok_fits T DF DN
  obtain ⟨aS, gS, low, hS⟩ := T.shapes
  have nd := sc_can_be.nd
  refine D.ok sc_can_be (fun vs H Q E h => ?_) (fun cdv A outer s H vs Q E hr h => ?_)
  · obtain ⟨v, sc, d, rfl, _⟩ := h
    rfl
  obtain ⟨v, sc, d, rfl, hs, ho, q⟩ := h
  refine ⟨_, pss_cons (ps_if (PW.pt (pw_or (pt_not (pt_val (pe_callB call_isi rfl (T.free "isinstance" (by decide +kernel)) (by decide +kernel) (pa_cons (pv 0) (pa_cons (pe_bltn rfl (T.free "tuple" (by decide +kernel)) (by decide +kernel) (v := .ty "tuple") rfl) pa_nil)))))
      (pw_or (pt_not (pt_truth (pv 0) (by intro _; rfl))) (pw_or1 (pt_not (pt_val (pe_callB call_isi rfl (T.free "isinstance" (by decide +kernel)) (by decide +kernel) (pa_cons (pe_ix ix_tup (pv 0) pe_int (fun _ _ => rfl)) (pa_cons (pe_bltn rfl (T.free "str" (by decide +kernel)) (by decide +kernel) (v := .ty "str") rfl) pa_nil))))))))) (pss_one (ps_ret pe_bl)) pss_nil)
    (pss_cons (ps_set (i := 3) nd rfl (Or.inl rfl) (pe_kget2 (pe_glob rfl gS (v := .ref aS) rfl) (pe_ix ix_tup (pv 0) pe_int (fun _ _ => rfl)) pe_non ⟨rfl, rfl, rfl, rfl⟩))
    (pss_cons (ps_if (PW.pt (pw_or (pt_cmpR op_isN (pv 3) pe_non (nomark _)) (pw_or1 (pt_cmpR op_ne (pe_callB call_len_seq rfl (T.free "len" (by decide +kernel)) PySem.boot_len (pa_cons (pv 0) pa_nil)) (pe_op op_add (pe_callB call_len_seq rfl (T.free "len" (by decide +kernel)) PySem.boot_len (pa_cons (pv 3) pa_nil)) pe_int) (nomark _))))) (pss_one (ps_ret pe_bl)) pss_nil)
    (pss_one (ps_ret (pe_callB (cr_all rfl) rfl (T.free "all" (by decide +kernel)) (by decide +kernel) (pa_cons
      (pe_lc (own := [("part", 4), ("kind", 5)]) (g := gTup K 2 (gCons (gName 4) (gCons (gName 5) gNil))) (tt := tYes) rfl nd (RZ.pi_zipA rfl (T.free "zip" (by decide +kernel)) (pa_cons (pe_slice sl_tupA (pv 0) (po_some pe_int) po_none) (pa_cons (pv 3) pa_nil))) (blkOk_by (N := nmCanBe) (sc := defScope s_can_be) (by decide +kernel))
        (fun _ _ _ _ _ => pg_tup rfl (pgs_cons (pg_name (i := 4) nd rfl (Or.inl rfl)) (pgs_cons (pg_name (i := 5) nd rfl (Or.inl rfl)) pgs_nil))) (fun _ _ _ _ _ => pts_nil)
        (fun _ _ _ _ _ => pcall DF GF hr (pa_cons (pv 4) (pa_cons (pv 5) (pa_cons (pv 1) (pa_cons (pv 2) pa_nil)))))) pa_nil)))))), ?_⟩
  obtain ⟨a, nm, rest, rfl, ea⟩ := hs.tag
  obtain ⟨kinds, kv, S⟩ := hs.shape ho ea
  obtain ⟨t, kd, qt⟩ := hS _ S.mem
  have lrk := Paired.length S.fit
  have lk3 : kinds.length ≤ 3 := by
    have z : ∀ p ∈ shapesL, p.2.length ≤ 3 := by decide +kernel
    exact z _ S.mem
  refine seq_if (b := false || (false || false)) (ev_or (b := false) (c := false || false) (fun Q q => ⟨_, rfl, _, .ty "tuple", .type "tuple", .type "tuple", true, rfl, .ty _, .base (.tup ea), kit_ty (by decide +kernel), _, rfl, q⟩)
    (ev_or (b := false) (c := false) (fun Q q => ⟨_, rfl, true, .inr (.inl ⟨_, SqT.of ea, rfl⟩), q⟩) (fun Q q => ⟨_, rfl, a, _, 0, .str nm, rfl, rfl, SqT.of ea, at0, _, .ty "str", .type "str", .type "str", true, rfl, .ty _, .base (.str nm), kit_ty (by decide +kernel), _, rfl, q⟩))) (fun z => nomatch z) (fun _ => ?_)
  refine ⟨aS, rfl, low, ⟨_, _, kd⟩, _, rfl, a, _, 0, .str nm, rfl, rfl, SqT.of ea, at0, nm, rfl, .inl ⟨_, kd, ?_⟩⟩
  dsimp only [gName]
  refine seq_if (b := false || false) (ev_or (b := false) (c := false) (fun Q q => ⟨_, rfl, rfl, _, rfl, by rw [decide_eq_false (fun z => nomatch z)]; exact q⟩)
    (fun Q q => ⟨_, rfl, a, _, rfl, .inr (SqT.of ea), _, rfl, t, _, rfl, .inr (qt _), _, _, rfl, rfl, rfl, _, rfl, (by
      have e : V.int (((V.str nm :: rest).length : Nat) : Int) = V.int (((kinds.map V.str).length : Nat) + 1 : Int) := by
        rw [List.length_cons, List.length_map, lrk]
        rfl
      rw [decide_eq_true e]
      exact q)⟩)) (fun z => nomatch z) (fun _ => ?_)
  refine ⟨_, rfl, 1, rfl, a, _, rfl, SqT.of ea, fun z => absurd z (not_whole (Nat.succ_pos _)), fun _ p hp => ?_⟩
  have s1 : Same H (upd H p (.tup (cutV (V.str nm :: rest) (some 1) none))) := Same.new hp
  have ec : cutV (V.str nm :: rest) (some 1) none = rest := cut_from (V.str nm :: rest) 1
  rw [ec] at s1 ⊢
  refine ⟨_, rfl, p, t, rest, kinds.map V.str, rfl, .inr ⟨SqT.of upd_same, qt _, fun Dd hD => ?_⟩⟩
  have s2 := s1.trans (Same.new (o := .lst []) hD)
  have ep : upd H p (.tup rest) p = some (.tup rest) := upd_same
  refine lc_it (walk_zipT (K := K) (a := p) (b := t) (xs := rest) (ys := kinds.map V.str) (n := rest.length) (by rw [List.length_map]; omega)) (fun j H'' => H'' Dd = some (.lst ((List.replicate j true).map V.bl)) ∧ Same (upd H p (.tup rest)) H'') ⟨upd_same, Same.new hD⟩ (fun j H'' _ ⟨_, s3⟩ => ⟨SqT.of (s3 _ _ ep), qt _⟩) ?_ ?_
  · rintro j x H2 H3 hj ⟨eD, s3⟩ ⟨T1, x1, x2, rfl, hT1, rfl, ex1, ex2⟩
    obtain ⟨k', ek', rfl⟩ : ∃ k', kinds[j]? = some k' ∧ x2 = V.str k' := by
      have ex2 : (kinds.map V.str)[j]? = some x2 := ex2
      rw [List.getElem?_map] at ex2
      cases e : kinds[j]? with
      | none => rw [e] at ex2; cases ex2
      | some k' => rw [e] at ex2; exact ⟨k', rfl, (Option.some.inj ex2).symm⟩
    obtain ⟨x', ex', hf⟩ := paired_get' S.fit ek'
    have ex1 : rest[j]? = some x1 := ex1
    rw [ex1] at ex'
    cases ex'
    have s4 := (s1.trans s3).trans (Same.new (o := .tup [x1, .str k']) hT1)
    refine ⟨T1, _, rfl, SqT.of upd_same, rfl, _, _, rfl, _, _, rfl, rfl, rfl, _, rfl, _, rfl, _, rfl, _, rfl, x1, k', rfl, hf.keep s4, _, Same.new hT1 _ _ eD, ?_, ?_, ?_⟩
    · rw [List.length_map, List.length_replicate]
      exact small1000 (by omega)
    · rw [upd_same, List.replicate_succ']
      rw [List.map_append]
      rfl
    · exact fun b o e => by
        rw [upd_ne (ne_of_none e hD)]
        exact (s3.trans (Same.new hT1)) b o e
  · rintro H'' ⟨eD, s3⟩
    refine ⟨Dd, _, rfl, SqL.of eD, ?_⟩
    rw [show (List.replicate rest.length true).all id = true by rw [List.all_replicate]; simp]
    exact q _ (s1.trans s3)
end
end MS
end
section
set_option maxRecDepth 100000
set_option maxHeartbeats 4000000
namespace MS
open PySem L2
theorem cat_at {K : PySem.W.Frag} {σ : St} {H : Hp} {wr : Addr} {wh : List Nat} {j i : Nat} {te : TE} {Q : VK} (s5 : σ[i]? = some (some (.ref wr))) (ewr : H wr = some (.tup (natV wh))) (hl : wh.length ≤ 200) (ht : ∀ Q : VK, Q (.int ((j : Nat) : Int)) H → te σ H Q)
    (q : ∀ (wr' : Addr) (H' : Hp), Same H H' → H' wr' = some (.tup (natV (wh ++ [j]))) → Q (.ref wr') H') : tOp (rCatA K) (tVar i) (tTup (tCons te tNil)) σ H Q := by
  refine ⟨_, s5, ht _ ⟨(by show 1 ≤ sizeLine; decide), fun t htn => ⟨wr, t, natV wh, [.int ((j : Nat) : Int)], rfl, rfl, SqT.of (Same.new htn _ _ ewr), SqT.of upd_same, szN (by rw [natV_len]; show wh.length + 1 ≤ 6000; omega), (fun z => ?_), (fun _ z => nomatch z), fun z _ p hp => ?_⟩⟩⟩
  · have z' : wh = [] := List.map_eq_nil_iff.mp z
    subst z'
    exact q t _ (Same.new htn) upd_same
  · exact q p _ ((Same.new htn).trans (Same.new hp)) (by rw [upd_same, natV_snoc])
/-- a place and what stands there -/
def PlR (H : Hp) (x : List Nat × V) (v : V) : Prop := ∃ b q, v = V.ref b ∧ H b = some (.tup [.ref q, x.2]) ∧ H q = some (.tup (natV x.1))
theorem PlR.keep {H H' : Hp} {x : List Nat × V} {v : V} (h : PlR H x v) (k : TupK H H') : PlR H' x v := by
  obtain ⟨b, q, e, h1, h2⟩ := h
  exact ⟨b, q, e, k _ _ h1, k _ _ h2⟩
def placedL (wh : List Nat) (xs : List V) : List (List Nat × V) := xs.zipIdx.map fun p => (wh ++ [p.2], p.1)
def spPlaced : Sp := fun vs H Q _ => ∃ (l pl : Addr) (xs : List V) (wh : List Nat), vs = [.ref l, .ref pl] ∧ H l = some (.lst xs) ∧ H pl = some (.tup (natV wh)) ∧ xs.length ≤ 100 ∧ wh.length ≤ 100 ∧
  ∀ (f : Addr) (pv : List V) (H' : Hp), Same H H' → H f = none → H' f = some (.lst pv) → Paired (PlR H') (placedL wh xs) pv → Q (.ref f) H'
section
variable {P : Program} {w : World} {K : PySem.W.Frag} {mg : Str → Option Value} {base : Heap}
theorem ok_placed (T : PTx w K mg) (D : Def K mg "placed" s_placed ["schemes", "place"]) : FnOk P w K mg base CX0 1 D.f D.fd ["schemes", "place"] spPlaced := by
  have nd := sc_placed.nd
  refine D.ok sc_placed (fun vs H Q E h => ?_) (fun cdv A outer s H vs Q E hr h => ?_)
  · obtain ⟨l, pl, xs, wh, rfl, _⟩ := h
    rfl
  obtain ⟨l, pl, xs, wh, rfl, el, epl, lx, lw, q⟩ := h
  refine ⟨_, pss_one (ps_ret (pe_lc (own := [("at", 2), ("scheme", 3)]) (g := gTup K 2 (gCons (gName 2) (gCons (gName 3) gNil))) (tt := tYes) rfl nd (pi_enum rfl (T.free "enumerate" (by decide +kernel)) (pa_cons (pv 0) pa_nil)) (blkOk_by (N := ["schemes", "place", "at", "scheme"]) (sc := defScope s_placed) (by decide +kernel))
      (fun _ _ _ _ _ => pg_tup rfl (pgs_cons (pg_name (i := 2) nd rfl (Or.inl rfl)) (pgs_cons (pg_name (i := 3) nd rfl (Or.inl rfl)) pgs_nil))) (fun _ _ _ _ _ => pts_nil)
      (fun _ _ _ _ _ => pe_tup (pa_cons (pe_op (r := rCatA K) op_catA (pv 1) (pe_tup (pa_cons (pv 2) pa_nil))) (pa_cons (pv 3) pa_nil))))), ?_⟩
  refine ⟨_, rfl, l, _, rfl, SqL.of el, fun Dd hD => ?_⟩
  have nlD : l ≠ Dd := ne_of_none el hD
  refine lc_it (walk_enum (K := K) (a := l) (xs := xs)) (fun j H'' => ∃ pv, H'' Dd = some (.lst pv) ∧ Paired (PlR H'') (placedL wh (xs.take j)) pv ∧ Same H H'') ⟨[], upd_same, .nil, Same.new hD⟩ (fun j H'' _ ⟨_, _, _, s3⟩ => SqL.of (s3 _ _ el)) ?_ ?_
  · rintro j x H2 H3 hj ⟨pv0, eD, pp, s3⟩ ⟨T1, x1, x2, rfl, hT1, rfl, ex1, ex2⟩
    obtain rfl : V.int ((j : Nat) : Int) = x1 := Option.some.inj ex1
    have ex2 : xs[j]? = some x2 := ex2
    have s4 := s3.trans (Same.new (o := .tup [.int ((j : Nat) : Int), x2]) hT1)
    refine ⟨T1, _, rfl, SqT.of upd_same, rfl, _, _, rfl, _, _, rfl, rfl, rfl, ?_⟩
    refine cat_at (i := 1) (j := j) rfl (s4 _ _ epl) (by omega) (fun Q q => ⟨_, rfl, q⟩) (fun wr' H5 s5 ew => ?_)
    refine ⟨_, rfl, sz2, fun p hp => ?_⟩
    have s6 := (Same.new (o := .tup [.int ((j : Nat) : Int), x2]) hT1).trans (s5.trans (Same.new (o := .tup [.ref wr', x2]) hp))
    have eD6 := s6 _ _ eD
    have lpv := Paired.length pp
    have tk : TupK H2 (upd (upd H5 p (.tup [.ref wr', x2])) Dd (.lst (pv0 ++ [.ref p]))) := (Same.tupK s6).trans (TupK.put eD6)
    have npD : p ≠ Dd := fun e => by rw [e] at eD6; rw [upd_same] at eD6; cases eD6
    refine ⟨_, eD6, ?_, _, upd_same, ?_, ?_⟩
    · have : (placedL wh (xs.take j)).length ≤ 100 := by
        unfold placedL
        rw [List.length_map, List.length_zipIdx, List.length_take]
        omega
      exact small1000 (by omega)
    · have e : placedL wh (xs.take (j + 1)) = placedL wh (xs.take j) ++ [(wh ++ [j], x2)] := by
        have hjl := (List.getElem?_eq_some_iff.mp ex2).1
        unfold placedL
        rw [List.take_succ, ex2]
        simp [List.zipIdx_append, List.length_take, Nat.min_eq_left (Nat.le_of_lt hjl)]
      rw [e]
      refine paired_app (paired_imp pp fun _ _ h => PlR.keep h tk) (.cons ⟨p, wr', rfl, by rw [upd_ne npD, upd_same], ?_⟩ .nil)
      exact TupK.put eD6 _ _ (Same.new hp _ _ ew)
    · intro b o e
      rw [upd_ne (ne_of_none e hD)]
      exact (s3.trans s6) b o e
  · rintro H'' ⟨pv0, eD, pp, s3⟩
    rw [List.take_length] at pp
    exact q Dd pv0 H'' s3 hD eD pp
end
/-- the one row of a step, or none -/
def spRowAt : Sp := fun vs H Q _ => ∃ (o : Option Nat) (p : Nat) (wr : Addr) (wh : List Nat), vs = [(match o with | some i => V.int ((i : Nat) : Int) | none => V.non), .int ((p : Nat) : Int), .ref wr] ∧ H wr = some (.tup (natV wh)) ∧
  ∀ (f : Addr) (rv : List V) (H' : Hp), Same H H' → H f = none → H' f = some (.lst rv) → Paired (RowR H') (match o with | some i => [(i, p, wh)] | none => []) rv → Q (.ref f) H'
section
variable {P : Program} {w : World} {K : PySem.W.Frag} {mg : Str → Option Value} {base : Heap}
theorem ok_row_at (T : PTx w K mg) (D : Def K mg "row_at" s_row_at ["place", "points", "where"]) : FnOk P w K mg base CX0 1 D.f D.fd ["place", "points", "where"] spRowAt := by
  have nd := sc_row_at.nd
  refine D.ok sc_row_at (fun vs H Q E h => ?_) (fun cdv A outer s H vs Q E hr h => ?_)
  · obtain ⟨o, p, wr, wh, rfl, _⟩ := h
    rfl
  obtain ⟨o, p, wr, wh, rfl, ewr, q⟩ := h
  refine ⟨_, pss_one (ps_ret (pe_ifExp (pt_cmpR op_isN (pv 0) pe_non (nomark _)) (pe_lst pa_nil) (pe_lst (pa_cons (pe_tup (pa_cons (pv 0) (pa_cons (pv 1) (pa_cons (pv 2) pa_nil)))) pa_nil)))), ?_⟩
  cases o with
  | none =>
    refine ⟨_, rfl, rfl, _, rfl, ?_⟩
    rw [decide_eq_true rfl]
    exact iteT ⟨Nat.zero_le _, fun f hf => q f [] _ (Same.new hf) hf upd_same .nil⟩
  | some i =>
    refine ⟨_, rfl, rfl, _, rfl, ?_⟩
    rw [decide_eq_false (fun z => nomatch z)]
    refine iteF ⟨_, rfl, _, rfl, _, rfl, szN (by show 3 ≤ 6000; decide), fun t ht => ⟨(by show 1 ≤ sizeLine; decide), fun f hf => ?_⟩⟩
    have s1 : Same H (upd H t (.tup [.int ((i : Nat) : Int), .int ((p : Nat) : Int), .ref wr])) := Same.new ht
    have s2 := Same.new (o := .lst [V.ref t]) hf
    exact q f _ _ (s1.trans s2) (s1.free hf) upd_same (.cons ⟨t, wr, rfl, s2 _ _ upd_same, (s1.trans s2) _ _ ewr⟩ .nil)
end
end MS
end
section
set_option maxRecDepth 100000
set_option maxHeartbeats 4000000
namespace MS
open PySem L2
theorem word_ne {x : Str} (h : IsW x) : x.length ≠ 0 := by rw [h.len]; decide
theorem wP_shape {ps : List Sch} {k i M d : Nat} {sc : Sch} (o : OkS i M (d + 1) sc) (nu : ∀ n, sc ≠ .use n) : wP ps (k + 1) sc = (if (wordOf sc).length ≠ 0 then [wordOf sc] else []) ++ ((kidsOf sc).map (wP ps k)).flatten := by
  have one : ∀ s, ([s].map (wP ps k)).flatten = wP ps k s := fun s => by
    show wP ps k s ++ [] = _
    rw [List.append_nil]
  have z0 : ¬ (Str.length "" ≠ 0) := by decide
  cases sc with
  | step x p => rw [if_pos (show (wordOf (Sch.step x p)).length ≠ 0 from word_ne o.1)]; rfl
  | all ks => rw [if_neg (show ¬ (wordOf (Sch.all ks)).length ≠ 0 from z0)]; rfl
  | best ks => rw [if_neg (show ¬ (wordOf (Sch.best ks)).length ≠ 0 from z0)]; rfl
  | most n s => rw [if_neg (show ¬ (wordOf (Sch.most n s)).length ≠ 0 from z0)]; exact (one s).symm
  | half s => rw [if_neg (show ¬ (wordOf (Sch.half s)).length ≠ 0 from z0)]; exact (one s).symm
  | seen x s => rw [if_pos (show (wordOf (Sch.seen x s)).length ≠ 0 from word_ne o.1)]; show x :: wP ps k s = x :: ([s].map (wP ps k)).flatten; rw [one]
  | behind x s => rw [if_pos (show (wordOf (Sch.behind x s)).length ≠ 0 from word_ne o.1)]; show x :: wP ps k s = x :: ([s].map (wP ps k)).flatten; rw [one]
  | carry s => rw [if_neg (show ¬ (wordOf (Sch.carry s)).length ≠ 0 from z0)]; exact (one s).symm
  | fin x p s => rw [if_pos (show (wordOf (Sch.fin x p s)).length ≠ 0 from word_ne o.1.1)]; show x :: wP ps k s = x :: ([s].map (wP ps k)).flatten; rw [one]
  | use n => exact absurd rfl (nu n)
theorem wordOf_len {i M d : Nat} {sc : Sch} (o : OkS i M (d + 1) sc) : (wordOf sc).length ≤ 1 := by
  cases sc with
  | step x p => exact Nat.le_of_eq (IsW.len o.1)
  | seen x s => exact Nat.le_of_eq (IsW.len o.1)
  | behind x s => exact Nat.le_of_eq (IsW.len o.1)
  | fin x p s => exact Nat.le_of_eq (IsW.len o.1.1)
  | all ks => show Str.length "" ≤ 1; decide
  | best ks => show Str.length "" ≤ 1; decide
  | most n s => show Str.length "" ≤ 1; decide
  | half s => show Str.length "" ≤ 1; decide
  | carry s => show Str.length "" ≤ 1; decide
  | use n => show Str.length "" ≤ 1; decide

theorem paired_impM {α β : Type} {R T : α → β → Prop} : ∀ {xs : List α} {ys : List β}, Paired R xs ys → (∀ x ∈ xs, ∀ y, R x y → T x y) → Paired T xs ys
  | _, _, .nil, _ => .nil
  | _, _, .cons r t, h => .cons (h _ List.mem_cons_self _ r) (paired_impM t fun x hx => h x (List.mem_cons_of_mem _ hx))
/-- the schemes within, of a use the used one -/
def partsOf (ps : List Sch) : Sch → List Sch
  | .use n => (ps[n]?).toList
  | s => kidsOf s
theorem parts_kids {ps : List Sch} {sc : Sch} (nu : ∀ n, sc ≠ .use n) : partsOf ps sc = kidsOf sc := by
  cases sc with
  | use n => exact absurd rfl (nu n)
  | _ => rfl
theorem wP_parts {ps : List Sch} {k i M d : Nat} {sc : Sch} (o : OkS i M (d + 1) sc) : wP ps (k + 1) sc = (if (wordOf sc).length ≠ 0 then [wordOf sc] else []) ++ ((partsOf ps sc).map (wP ps k)).flatten := by
  by_cases h : ∃ n, sc = .use n
  · obtain ⟨n, rfl⟩ := h
    have z0 : ¬ (Str.length "" ≠ 0) := by decide
    rw [if_neg (show ¬ (wordOf (Sch.use n)).length ≠ 0 from z0)]
    show (match ps[n]? with
      | none => []
      | some s => wP ps k s) = [] ++ (((ps[n]?).toList).map (wP ps k)).flatten
    cases ps[n]? with
    | none => rfl
    | some s => show wP ps k s = wP ps k s ++ []; rw [List.append_nil]
  · have nu : ∀ n, sc ≠ .use n := fun n e => h ⟨n, e⟩
    rw [parts_kids nu]
    exact wP_shape o nu
def PartR (H : Hp) (M k : Nat) (s : Sch) (v : V) : Prop := ∃ i d, SAt H d s v ∧ OkS i M d s ∧ (M - i) * 5 + d ≤ k
def spParts (ps : List Sch) (M k : Nat) : Sp := fun vs H Q _ => ∃ (pa : Addr) (v : V) (s : Sch) (i d : Nat), vs = [.ref pa, v] ∧ (∃ pv, H pa = some (.tup pv) ∧ Paired (SAt H 5) ps pv) ∧ SAt H (d + 1) s v ∧ OkS i M (d + 1) s ∧ (M - i) * 5 + (d + 1) ≤ k + 1 ∧
  ∀ (f : Addr) (kv : List V), H f = none → Paired (PartR H M k) (partsOf ps s) kv → (partsOf ps s).length ≤ 4 → Q (.ref f) (upd H f (.lst kv))
section
variable {P : Program} {w : World} {K : PySem.W.Frag} {mg : Str → Option Value} {base : Heap}
theorem kids_few {i M d : Nat} {sc : Sch} (o : OkS i M (d + 1) sc) : (kidsOf sc).length ≤ 4 := by
  cases sc with
  | all k => exact o.2.1
  | best k => exact o.2.1
  | _ => first | (show 0 ≤ 4; decide) | (show 1 ≤ 4; decide)
theorem ok_parts_of {ps : List Sch} {M k : Nat} (hM : ps.length = M) (hp : ∀ (j : Nat) (s : Sch), ps[j]? = some s → OkS j M 5 s) (T : PTx w K mg) (D : Def K mg "parts_of" s_parts_of ["paper", "scheme"]) (DI : Def K mg "within" s_within ["scheme"]) :
    FnOk P w K mg base CX0 2 D.f D.fd ["paper", "scheme"] (spParts ps M k) := by
  have GI : FnOk P w K mg base CX0 1 DI.f DI.fd ["scheme"] spWithin := ok_within T DI
  refine D.ok sc_parts_of (fun vs H Q E h => ?_) (fun cdv A outer s H vs Q E hr h => ?_)
  · obtain ⟨pa, v, s, i, d, rfl, _⟩ := h
    rfl
  obtain ⟨pa, v, sc, i, d, rfl, ⟨pv0, epv, pp⟩, hs, ho, hk, q⟩ := h
  refine ⟨_, pss_one (ps_ret (pe_ifExp (pt_cmpR op_eq (pe_ix ix_tup (pv 1) pe_int (fun _ _ => rfl)) pe_str (nomark _)) (pe_lst (pa_cons (pe_ix ix_tup (pv 0) (pe_ix ix_tup (pv 1) pe_int (fun _ _ => rfl)) (fun _ _ => rfl)) pa_nil)) (pcall DI GI hr (pa_cons (pv 1) pa_nil)))), ?_⟩
  obtain ⟨a, nm, rest, rfl, ea⟩ := hs.tag
  rcases (hs.kind ho ea).words (ps := ps) (k := k) with ⟨n, rfl, rfl, rfl, h1, h2⟩ | ⟨_, _, _, W⟩
  · refine ⟨_, rfl, a, _, 0, .str "use", rfl, rfl, SqT.of ea, at0, rfl, _, rfl, ?_⟩
    rw [dec_str, show (("use" : Str) == "use") = true by decide +kernel]
    have nl : n < pv0.length := by rw [← Paired.length pp]; omega
    have epn : pv0[n]? = some (pv0[n]'nl) := List.getElem?_eq_getElem nl
    obtain ⟨s', es', hs'⟩ := paired_get' pp epn
    have ho' := hp n s' es'
    have el : partsOf ps (.use n) = [s'] := by show (ps[n]?).toList = _; rw [es']; rfl
    rw [el] at q
    exact iteT ⟨_, rfl, _, rfl, a, _, 1, .int ((n : Nat) : Int), rfl, rfl, SqT.of ea, at1, pa, pv0, _, _, rfl, rfl, SqT.of epv, atI_nat epn, szN (by show 1 ≤ 6000; decide), fun f hf => q f _ hf (.cons ⟨n, 5, hs', ho', by omega⟩ .nil) (by show 1 ≤ 4; decide)⟩
  · have nu : ∀ n, sc ≠ .use n := fun n e => by
      subst e
      obtain ⟨a', e, h⟩ := hs
      cases e
      rw [ea] at h
      cases h
      exact absurd W.nu (by decide +kernel)
    refine ⟨_, rfl, a, _, 0, .str nm, rfl, rfl, SqT.of ea, at0, rfl, _, rfl, ?_⟩
    rw [dec_str, W.nu]
    obtain ⟨_, _, hsh⟩ := hs.shape ho ea
    have hok := hsh.ok
    rw [parts_kids nu] at q
    exact iteF ⟨_, rfl, _, sc, i, M, d, rfl, hs, ho, fun f kv hf at_ => q f kv hf (paired_impM at_ fun s hs' v' hv' => ⟨i, d, hv', hok s hs', by omega⟩) (kids_few ho)⟩
theorem PartR.keep {H H' : Hp} {M k : Nat} {s : Sch} {v : V} (h : PartR H M k s v) (t : TupK H H') : PartR H' M k s v := by
  obtain ⟨i, d, h1, h2, h3⟩ := h
  exact ⟨i, d, SAt.keep t _ _ _ h1, h2, h3⟩
end
end MS
end
section
set_option maxRecDepth 100000
set_option maxHeartbeats 4000000
namespace MS
open PySem L2
/-! ### all schemes in one -/
def pre : Nat → Sch → List Sch
  | 0, _ => []
  | d + 1, s => s :: ((kidsOf s).map (pre d)).flatten
theorem pre_succ (d : Nat) (s : Sch) : pre (d + 1) s = s :: ((kidsOf s).map (pre d)).flatten := rfl
theorem ok_kids {i M d : Nat} {s : Sch} (o : OkS i M (d + 1) s) : ∀ x ∈ kidsOf s, OkS i M d x := by
  cases s with
  | step w p => exact fun _ h => nomatch h
  | all k => exact o.2.2
  | best k => exact o.2.2
  | most n s => intro x h; rw [List.mem_singleton.mp h]; exact o.2
  | half s => intro x h; rw [List.mem_singleton.mp h]; exact o
  | seen w s => intro x h; rw [List.mem_singleton.mp h]; exact o.2
  | behind w s => intro x h; rw [List.mem_singleton.mp h]; exact o.2
  | carry s => intro x h; rw [List.mem_singleton.mp h]; exact o
  | fin w p s => intro x h; rw [List.mem_singleton.mp h]; exact o.2
  | use n => exact fun _ h => nomatch h
theorem sz_kids (d : Nat) (s : Sch) : sz (d + 1) s = 1 + ((kidsOf s).map (sz d)).sum := by
  cases s <;> simp [sz, kidsOf]
/-- what a scheme is itself -/
def ownE (c : Nat → Int) : Sch → Int
  | .step _ _ => 1
  | .fin _ _ _ => 1
  | .use n => c n
  | _ => 0
def ownW (c : Nat → Int) : Sch → Int
  | .seen _ _ => 1
  | .behind _ _ => 1
  | .use n => c n
  | _ => 0
theorem er_kids (c : Nat → Int) (d : Nat) (s : Sch) : er c (d + 1) s = ownE c s + ((kidsOf s).map (er c d)).sum := by
  cases s <;> simp [er, ownE, kidsOf]
theorem wr_kids (c : Nat → Int) (d : Nat) (s : Sch) : wr c (d + 1) s = ownW c s + ((kidsOf s).map (wr c d)).sum := by
  cases s <;> simp [wr, ownW, kidsOf]
theorem flat_lenEq {f : Sch → List Sch} {g : Sch → Int} : ∀ ks : List Sch, (∀ s ∈ ks, ((f s).length : Int) = g s) → (((ks.map f).flatten).length : Int) = (ks.map g).sum
  | [], _ => rfl
  | s :: r, h => by
    rw [List.map_cons, List.flatten_cons, List.length_append, List.map_cons, List.sum_cons]
    have := h s List.mem_cons_self
    have := flat_lenEq r fun s hs => h s (List.mem_cons_of_mem _ hs)
    omega
theorem flat_sumEq {f : Sch → List Sch} {o g : Sch → Int} : ∀ ks : List Sch, (∀ s ∈ ks, ((f s).map o).sum = g s) → (((ks.map f).flatten).map o).sum = (ks.map g).sum
  | [], _ => rfl
  | s :: r, h => by
    rw [List.map_cons, List.flatten_cons, List.map_append, List.sum_append, List.map_cons, List.sum_cons, h s List.mem_cons_self, flat_sumEq r fun s hs => h s (List.mem_cons_of_mem _ hs)]
theorem pre_len {i M : Nat} : ∀ (d : Nat) (s : Sch), OkS i M d s → ((pre d s).length : Int) = sz d s
  | 0, _, o => by cases o
  | d + 1, s, o => by
    rw [pre_succ, List.length_cons, sz_kids]
    have := flat_lenEq (f := pre d) (g := sz d) (kidsOf s) fun x hx => pre_len d x (ok_kids o x hx)
    omega
theorem pre_er {i M : Nat} (c : Nat → Int) : ∀ (d : Nat) (s : Sch), OkS i M d s → ((pre d s).map (ownE c)).sum = er c d s
  | 0, _, o => by cases o
  | d + 1, s, o => by
    rw [pre_succ, List.map_cons, List.sum_cons, er_kids, flat_sumEq (f := pre d) (g := er c d) (kidsOf s) fun x hx => pre_er c d x (ok_kids o x hx)]
theorem pre_wr {i M : Nat} (c : Nat → Int) : ∀ (d : Nat) (s : Sch), OkS i M d s → ((pre d s).map (ownW c)).sum = wr c d s
  | 0, _, o => by cases o
  | d + 1, s, o => by
    rw [pre_succ, List.map_cons, List.sum_cons, wr_kids, flat_sumEq (f := pre d) (g := wr c d) (kidsOf s) fun x hx => pre_wr c d x (ok_kids o x hx)]
/-- a scheme that was found -/
def FoundR (H : Hp) (i M : Nat) (s : Sch) (v : V) : Prop := ∃ d, SAt H (d + 1) s v ∧ OkS i M (d + 1) s
theorem FoundR.keep {H H' : Hp} {i M : Nat} {s : Sch} {v : V} (h : FoundR H i M s v) (k : TupK H H') : FoundR H' i M s v := by
  obtain ⟨d, h1, h2⟩ := h
  exact ⟨d, SAt.keep k _ _ _ h1, h2⟩
/-- a scheme that waits, behind its place -/
def WaitR (H : Hp) (i M : Nat) (x : List Nat × Sch) (v : V) : Prop := ∃ b q u, v = V.ref b ∧ H b = some (.tup [.ref q, u]) ∧ H q = some (.tup (natV x.1)) ∧ x.1.length ≤ 4 ∧ SAt H (5 - x.1.length) x.2 u ∧ OkS i M (5 - x.1.length) x.2
theorem WaitR.keep {H H' : Hp} {i M : Nat} {x : List Nat × Sch} {v : V} (h : WaitR H i M x v) (k : TupK H H') : WaitR H' i M x v := by
  obtain ⟨b, q, u, e, h1, h2, h3, h4, h5⟩ := h
  exact ⟨b, q, u, e, k _ _ h1, k _ _ h2, h3, SAt.keep k _ _ _ h4, h5⟩
def restOf (L : List (List Nat × Sch)) : List Sch := (L.map fun p => pre (5 - p.1.length) p.2).flatten
def waitsOf (wh : List Nat) (n : Nat) (ks : List Sch) : List (List Nat × Sch) := (ks.zipIdx n).map fun p => (wh ++ [p.2], p.1)
theorem rest_waits {wh : List Nat} {d : Nat} (hd : 5 - (wh.length + 1) = d) : ∀ (ks : List Sch) (n : Nat), restOf (waitsOf wh n ks) = (ks.map (pre d)).flatten
  | [], _ => rfl
  | s :: r, n => by
    have ih := rest_waits hd r (n + 1)
    unfold restOf waitsOf at ih ⊢
    rw [List.zipIdx_cons, List.map_cons, List.map_cons, List.flatten_cons, ih, List.map_cons, List.flatten_cons]
    show pre (5 - (wh ++ [n]).length) s ++ _ = _
    rw [List.length_append, List.length_singleton, hd]
theorem rest_app (a b : List (List Nat × Sch)) : restOf (a ++ b) = restOf a ++ restOf b := by
  unfold restOf
  rw [List.map_append, List.flatten_append]
theorem waits_at {H : Hp} {i M d : Nat} {wh : List Nat} (hd : 5 - (wh.length + 1) = d) : ∀ {ks : List Sch} {kv : List V} (n : Nat), Paired (SAt H d) ks kv → (∀ s ∈ ks, OkS i M d s) → ∀ {pv : List V}, Paired (PlR H) ((kv.zipIdx n).map fun p => (wh ++ [p.2], p.1)) pv → Paired (WaitR H i M) (waitsOf wh n ks) pv
  | _, _, n, .nil, _, _, .nil => .nil
  | s :: ks, v :: kv, n, .cons h t, ok, pv, hp => by
    rw [List.zipIdx_cons, List.map_cons] at hp
    cases hp with
    | @cons _ p0 _ pr h0 hr =>
      obtain ⟨b, q, e, h1, h2⟩ := h0
      have o := ok s List.mem_cons_self
      have hd0 : d ≠ 0 := fun z => by rw [z] at o; cases o
      have el : (wh ++ [n]).length = wh.length + 1 := by rw [List.length_append, List.length_singleton]
      show Paired (WaitR H i M) ((wh ++ [n], s) :: waitsOf wh (n + 1) ks) _
      refine .cons ⟨b, q, v, e, h1, h2, ?_, ?_, ?_⟩ (waits_at hd (n + 1) t (fun s hs => ok s (List.mem_cons_of_mem _ hs)) hr)
      · show (wh ++ [n]).length ≤ 4
        rw [el]
        omega
      · show SAt H (5 - (wh ++ [n]).length) s v
        rw [el, hd]
        exact h
      · show OkS i M (5 - (wh ++ [n]).length) s
        rw [el, hd]
        exact o
def SIn (K : PySem.W.Frag) (M i : Nat) (s : Sch) (pa f : Addr) (H : Hp) (m : Nat) (σ : St) (H' : Hp) : Prop :=
  ∃ (wl : Addr) (done : List Sch) (L : List (List Nat × Sch)) (fv wv : List V) (v4 v5 : Option V), σ = [some (.ref pa), some (.int ((i : Nat) : Int)), some (.ref f), some (.ref wl), v4, v5] ∧ H' f = some (.lst fv) ∧ H' wl = some (.lst wv) ∧
    Paired (FoundR H' i M) done fv ∧ Paired (WaitR H' i M) L wv ∧ done ++ restOf L = pre 5 s ∧ L.length ≤ 1000 ∧ m = (restOf L).length ∧ Same H H'
def spSchemesIn (ps : List Sch) (i : Nat) : Sp := fun vs H Q _ => ∃ (pa : Addr) (pv : List V) (s : Sch), vs = [.ref pa, .int ((i : Nat) : Int)] ∧ H pa = some (.tup pv) ∧ Paired (SAt H 5) ps pv ∧ ps[i]? = some s ∧ OkS i ps.length 5 s ∧ sz 5 s ≤ 12 ∧
  ∀ (f : Addr) (fv : List V) (H' : Hp), Same H H' → H f = none → H' f = some (.lst fv) → Paired (FoundR H' i ps.length) (pre 5 s) fv → Q (.ref f) H'
theorem paired_get2 {α β : Type} {R : α → β → Prop} : ∀ {xs : List α} {ys : List β}, Paired R xs ys → ∀ {k : Nat} {x : α}, xs[k]? = some x → ∃ y, ys[k]? = some y ∧ R x y
  | _, _, .nil, _, _, h => by simp at h
  | _, _, .cons r t, 0, _, h => by
    simp at h
    subst h
    exact ⟨_, rfl, r⟩
  | _, _, .cons _ t, k + 1, x, h => by
    obtain ⟨y, e, r⟩ := paired_get2 t (k := k) (x := x) (by simpa using h)
    exact ⟨y, by simpa using e, r⟩
theorem rest_len_le : ∀ {H : Hp} {i M : Nat} {L : List (List Nat × Sch)} {wv : List V}, Paired (WaitR H i M) L wv → L.length ≤ (restOf L).length
  | _, _, _, _, _, .nil => Nat.le_refl _
  | H, i, M, x :: L, _, .cons h t => by
    have ih := rest_len_le t
    obtain ⟨b, q, u, e, h1, h2, h3, h4, h5⟩ := h
    obtain ⟨d, hd⟩ : ∃ d, 5 - x.1.length = d + 1 := ⟨4 - x.1.length, by omega⟩
    show (x :: L).length ≤ (restOf ([x] ++ L)).length
    rw [rest_app, List.length_append, List.length_cons]
    have : 1 ≤ (restOf [x]).length := by
      show 1 ≤ ((pre (5 - x.1.length) x.2) ++ []).length
      rw [hd, pre_succ, List.append_nil, List.length_cons]
      omega
    omega
section
variable {P : Program} {w : World} {K : PySem.W.Frag} {mg : Str → Option Value} {base : Heap}
theorem ok_schemes_in {ps : List Sch} {i : Nat} (T : PTx w K mg) (D : Def K mg "schemes_in" s_schemes_in ["paper", "number"]) (DB : Def K mg "can_be" s_can_be ["thing", "number", "many"]) (DF : Def K mg "fits" s_fits psFits) (DN : Def K mg "is_number" s_is_number ["thing"])
    (DI : Def K mg "within" s_within ["scheme"]) (DP : Def K mg "placed" s_placed ["schemes", "place"]) : FnOk P w K mg base CX0 4 D.f D.fd ["paper", "number"] (spSchemesIn ps i) := by
  have GB : FnOk P w K mg base CX0 3 DB.f DB.fd ["thing", "number", "many"] (spCanBe i ps.length) := ok_can_be T DB DF DN
  have GI : FnOk P w K mg base CX0 1 DI.f DI.fd ["scheme"] spWithin := ok_within T DI
  have GP : FnOk P w K mg base CX0 1 DP.f DP.fd ["schemes", "place"] spPlaced := ok_placed T DP
  obtain ⟨tS, gS⟩ := T.mostInScheme
  obtain ⟨tL, gL⟩ := T.longest
  have nd := sc_schemes_in.nd
  refine D.ok sc_schemes_in (fun vs H Q E h => ?_) (fun cdv A outer s H vs Q E hr h => ?_)
  · obtain ⟨pa, pv, s, rfl, _⟩ := h
    rfl
  obtain ⟨pa, pv0, sc, rfl, epv, pp, es, ho, hz, q⟩ := h
  have hr1 : Room 1 _ := hr.mono (by decide)
  refine ⟨_, pss_cons (ps_set (i := 2) nd rfl (Or.inl rfl) (pe_lst pa_nil))
    (pss_cons (ps_set (i := 3) nd rfl (Or.inl rfl) (pe_lst (pa_cons (pe_tup (pa_cons (pe_tup pa_nil) (pa_cons (pe_ix ix_tup (pv 0) (pv 1) (fun _ _ => rfl)) pa_nil))) pa_nil)))
    (pss_cons (ps_while PassesOwn.never (pt_truth (pv 3) (by intro _; rfl))
      (pss_cons (ps_asg (pe_ix ix_list (pv 3) pe_int (fun _ _ => rfl)) (pg_tup (by rfl) (pgs_cons (pg_name (i := 4) nd rfl (Or.inl rfl)) (pgs_cons (pg_name (i := 5) nd rfl (Or.inl rfl)) pgs_nil))))
      (pss_cons (ps_if (PW.pt (pw_or (pt_cmpR op_eq (pe_callB call_len_seq rfl (T.free "len" (by decide +kernel)) PySem.boot_len (pa_cons (pv 2) pa_nil)) (pe_glob rfl gS (v := .int 12) ⟨_, rfl⟩) (nomark _)) (pw_or1 (pt_cmpR op_gt (pe_callB call_len_seq rfl (T.free "len" (by decide +kernel)) PySem.boot_len (pa_cons (pv 4) pa_nil)) (pe_glob rfl gL (v := .int 4) ⟨_, rfl⟩) (nomark _))))) (pss_one ps_never) pss_nil)
      (pss_cons (ps_if (pt_not (pt_val (pcall DB GB hr (pa_cons (pv 5) (pa_cons (pv 1) (pa_cons (pe_callB call_len_seq rfl (T.free "len" (by decide +kernel)) PySem.boot_len (pa_cons (pv 0) pa_nil)) pa_nil)))))) (pss_one ps_never) pss_nil)
      (pss_cons (ps_expr (pe_bm PySem.F.plainAttrs_list PySem.F.slot_list_append PySem.F.type_list_append mt_append (pv 2) (pa_cons (pv 5) pa_nil)))
      (pss_one (ps_set (i := 3) nd rfl (Or.inl rfl) (pe_op op_cat (pcall DP GP hr1 (pa_cons (pcall DI GI hr1 (pa_cons (pv 5) pa_nil)) (pa_cons (pv 4) pa_nil))) (pe_slice sl_list (pv 3) (po_some pe_int) po_none)))))))))
    (pss_one (ps_ret (pv 2))))), ?_⟩
  have hM := Paired.length pp
  have hlen : ((pre 5 sc).length : Int) = sz 5 sc := pre_len 5 sc ho
  obtain ⟨v0, ev0, hs0⟩ := paired_get2 pp es
  refine ⟨Nat.zero_le _, fun f hf => ?_⟩
  have s1 : Same H (upd H f (.lst [])) := Same.new hf
  dsimp only [gName]
  refine ⟨Nat.zero_le _, fun t0 ht0 => ?_⟩
  have s2 := s1.trans (Same.new (o := .tup []) ht0)
  refine ⟨_, rfl, _, rfl, pa, _, _, v0, rfl, rfl, SqT.of (s2 _ _ epv), atI_nat ev0, sz2, fun t1 ht1 => ?_⟩
  have s3 := s2.trans (Same.new (o := .tup [.ref t0, v0]) ht1)
  refine ⟨szN (by show 1 ≤ 6000; decide), fun wl hwl => ?_⟩
  have s4 := s3.trans (Same.new (o := .lst [.ref t1]) hwl)
  dsimp only [gName]
  have b1 := Same.new (o := .lst [V.ref t1]) hwl
  have b2 := (Same.new (o := .tup [.ref t0, v0]) ht1).trans b1
  have b3 := (Same.new (o := .tup []) ht0).trans b2
  have R0 : restOf [(([] : List Nat), sc)] = pre 5 sc := by show pre 5 sc ++ [] = _; rw [List.append_nil]
  refine ⟨fun m σ H' => SIn K ps.length i sc pa f H m σ H', ⟨(restOf [([], sc)]).length, wl, [], [([], sc)], [], [.ref t1], none, none, rfl, b3 _ _ upd_same, upd_same, .nil, .cons ⟨t1, t0, v0, rfl, b1 _ _ upd_same, b2 _ _ upd_same, by show 0 ≤ 4; decide, SAt.keep (Same.tupK s4) _ _ _ hs0, ho⟩ .nil, R0, by show 1 ≤ 1000; decide, rfl, s4⟩, ?_⟩
  rintro m σ H1 ⟨wl1, done, L, fv, wv, v4, v5, rfl, ef, ewl, pf, pw, eall, hL, em, sm⟩
  have lall := congrArg List.length eall
  rw [List.length_append] at lall
  have hrl := rest_len_le pw
  have lfv := Paired.length pf
  have lwv := Paired.length pw
  refine ⟨_, rfl, !wv.isEmpty, .inl ⟨_, SqL.of ewl, rfl⟩, ?_⟩
  cases pw with
  | nil =>
    have e : done = pre 5 sc := by rw [← eall]; show done = done ++ []; rw [List.append_nil]
    rw [e] at pf
    exact iteF ⟨_, rfl, q f fv H1 sm hf ef pf⟩
  | @cons x vb L' wr hx hrest =>
    obtain ⟨b, qa, u, rfl, eb, eqa, hx4, hsx, hox⟩ := hx
    obtain ⟨wh, s'⟩ := x
    have hx4 : wh.length ≤ 4 := hx4
    obtain ⟨d, hd⟩ : ∃ d, 5 - wh.length = d + 1 := ⟨4 - wh.length, by omega⟩
    have hsx : SAt H1 (5 - wh.length) s' u := hsx
    have hox : OkS i ps.length (5 - wh.length) s' := hox
    rw [hd] at hsx hox
    have eR : restOf ((wh, s') :: L') = s' :: (((kidsOf s').map (pre d)).flatten ++ restOf L') := by
      show pre (5 - wh.length) s' ++ restOf L' = _
      rw [hd, pre_succ]
      rfl
    rw [eR] at eall lall em hrl
    rw [List.length_cons] at lall em
    have hrl' : L'.length ≤ 12 := by
      rw [List.length_cons, List.length_cons] at hrl
      omega
    refine iteT ⟨fun σ' H' => ∃ m', m' < m ∧ SIn K ps.length i sc pa f H m' σ' H', fun _ _ z => z, ?_⟩
    refine ⟨_, rfl, wl1, _, 0, .ref b, rfl, rfl, SqL.of ewl, at0, b, _, rfl, SqT.of eb, rfl, _, _, rfl, _, _, rfl, rfl, ?_⟩
    dsimp only [gName]
    refine seq_if (b := false || false) (ev_or (b := false) (c := false) (fun Q q => ⟨_, rfl, f, _, rfl, .inl (SqL.of ef), rfl, _, rfl, by
        rw [decide_eq_false (fun z => by have z2 := V.int.inj z; omega)]
        exact q⟩) (fun Q q => ⟨_, rfl, qa, _, rfl, .inr (SqT.of eqa), _, _, rfl, rfl, _, rfl, by
        rw [decide_eq_false (show ¬ ((4 : Int) < (((natV wh).length : Nat) : Int)) by rw [natV_len]; omega)]
        exact q⟩)) (fun z => nomatch z) (fun _ => ?_)
    refine seq_new (b := false) (fun Q q => ⟨_, rfl, _, rfl, _, rfl, pa, _, rfl, .inr (SqT.of (sm _ _ epv)), u, s', d, by rw [hM]; rfl, hsx, hox, fun H3 s3 => ⟨_, rfl, q H3 s3⟩⟩) (fun z => nomatch z) (fun _ H3 s3 => ?_)
    have ef3 := s3 _ _ ef
    refine ⟨_, rfl, .inl ⟨rfl, _, SqL.of ef3⟩, _, rfl, f, _, _, rfl, rfl, ef3, small1000 (by omega), ?_⟩
    have t4 : TupK H1 (upd H3 f (.lst (fv ++ [u]))) := (Same.tupK s3).trans (TupK.put ef3)
    have ef4 : upd H3 f (.lst (fv ++ [u])) f = some (.lst (fv ++ [u])) := upd_same
    have nfw : wl1 ≠ f := fun z => by
      rw [z, ef] at ewl
      have e2 := HO.lst.inj (Option.some.inj ewl)
      subst e2
      cases pf with
      | @cons s9 v9 _ _ h9 _ =>
        obtain ⟨d9, h9, _⟩ := h9
        obtain ⟨a9, nm9, r9, e9, ea9⟩ := h9.tag
        cases e9
        rw [eb] at ea9
        cases ea9
    have ewl4 : upd H3 f (.lst (fv ++ [u])) wl1 = some (.lst (V.ref b :: wr)) := by rw [upd_ne nfw]; exact s3 _ _ ewl
    have sm4 : Same H (upd H3 f (.lst (fv ++ [u]))) := Same.newer (sm.trans s3) hf
    generalize hH4 : upd H3 f (.lst (fv ++ [u])) = H4 at t4 ef4 ewl4 sm4 ⊢
    refine ⟨_, rfl, u, s', i, ps.length, d, rfl, SAt.keep t4 _ _ _ hsx, hox, fun l kv hl at_ => ?_⟩
    have lkv := Paired.length at_
    have lkf := kids_few hox
    have s5 := Same.new (o := .lst kv) hl
    have t5 := t4.trans (Same.tupK s5)
    refine ⟨_, rfl, l, qa, kv, wh, rfl, upd_same, t5 _ _ eqa, by omega, by omega, fun g pv' H6 s6 hg eg pp6 => ?_⟩
    have s56 := s5.trans s6
    refine ⟨_, rfl, 1, rfl, wl1, _, rfl, SqL.of (s56 _ _ ewl4), fun p hp => ?_⟩
    have ec : cutV (V.ref b :: wr) (some 1) none = wr := cut_from (V.ref b :: wr) 1
    rw [ec]
    have ngp : g ≠ p := ne_of_none eg hp
    have lpv := Paired.length pp6
    have lpl : (placedL wh kv).length = kv.length := by unfold placedL; rw [List.length_map, List.length_zipIdx]
    have lcat : pv'.length + wr.length ≤ 1000 := by
      have := Paired.length hrest
      omega
    refine ⟨g, p, _, _, rfl, rfl, by rw [upd_ne ngp]; exact eg, upd_same, szN (Nat.le_trans lcat (by decide)), fun r hr => ?_⟩
    have s7 := (s56.trans (Same.new (o := .lst wr) hp)).trans (Same.new (o := .lst (pv' ++ wr)) hr)
    have s67 := (s6.trans (Same.new (o := .lst wr) hp)).trans (Same.new (o := .lst (pv' ++ wr)) hr)
    have t6 := (Same.new (o := .lst wr) hp).trans (Same.new (o := .lst (pv' ++ wr)) hr)
    dsimp only [gName]
    have hd' : 5 - (wh.length + 1) = d := by omega
    have tk7 := t4.trans (Same.tupK s7)
    refine ⟨(restOf (waitsOf wh 0 (kidsOf s') ++ L')).length, ?_, r, done ++ [s'], waitsOf wh 0 (kidsOf s') ++ L', fv ++ [u], pv' ++ wr, _, _, rfl, s7 _ _ ef4, upd_same, ?_, ?_, ?_, ?_, rfl, sm4.trans s7⟩
    · rw [rest_app, rest_waits hd']
      omega
    · exact paired_app (paired_imp pf fun _ _ h => FoundR.keep h tk7) (.cons ⟨d, SAt.keep tk7 _ _ _ hsx, hox⟩ .nil)
    · refine paired_app ?_ (paired_imp hrest fun _ _ h => WaitR.keep h tk7)
      exact waits_at hd' 0 (paired_imp at_ fun _ _ h => SAt.keep (Same.tupK (s5.trans s67)) _ _ _ h) (ok_kids hox) (paired_imp pp6 fun _ _ h => PlR.keep h (Same.tupK t6))
    · rw [rest_app, rest_waits hd', ← eall]
      simp
    · rw [List.length_append]
      unfold waitsOf
      rw [List.length_map, List.length_zipIdx]
      omega
end
end MS
end
section
set_option maxRecDepth 100000
set_option maxHeartbeats 4000000
namespace MS
open PySem L2
/-! ### how many of some names -/
def rGetL (K : PySem.W.Frag) : V → V → Hp → VK → Prop := fun x y H Q => ∃ p xs i v, x = .ref p ∧ y = .int i ∧ SqL K H p xs ∧ 0 ≤ i ∧ xs[i.toNat]? = some v ∧ Q v H
theorem pget_list {X : Cx} : PGet X (rGetL X.K) := by
  intro pins s σ H o i ov iv Q I ro ri h
  obtain ⟨p, xs, k, v, rfl, rfl, hq, h0, he, q⟩ := h
  cases ro
  obtain ⟨t, rfl⟩ := ri
  obtain ⟨its, r, pl, hz⟩ := I.list hq
  obtain ⟨w, ew, rw'⟩ := r.get he
  have hl := r.length
  have hn := line63
  have hk := (List.getElem?_eq_some_iff.mp he).1
  exact PyProof.Rows.getItem_listL pl.isList h0 (by omega) ew ⟨v, H, I, rw', q⟩
theorem ix_nat {n k : Nat} (h : k < n) : ixN n ((k : Nat) : Int) = some k := by
  unfold ixN
  rw [if_pos (by omega), if_pos (by omega)]
  congr 1
def own (E : Bool) (c : Nat → Int) (s : Sch) : Int := match E with
  | true => ownE c s
  | false => ownW c s
def namesV (E : Bool) : List V := match E with
  | true => [.str "step", .str "end"]
  | false => [.str "seen", .str "behind"]
theorem names_flat (E : Bool) : (namesV E).all flatV = true := by cases E <;> rfl
theorem own_tag {H : Hp} {d : Nat} {s : Sch} {a : Addr} {nm : Str} {rest : List V} (h : SAt H (d + 1) s (.ref a)) (ea : H a = some (.tup (.str nm :: rest))) :
    (∃ n, s = .use n ∧ nm = "use" ∧ rest = [.int ((n : Nat) : Int)]) ∨ ((nm == "use") = false ∧ ∀ E c, own E c s = if inV (.str nm) (namesV E) = true then 1 else 0) := by
  have inj : ∀ {a' : Addr} {nm' : Str} {rest' : List V}, (V.ref a = V.ref a') → H a' = some (.tup (.str nm' :: rest')) → nm' = nm ∧ rest' = rest := fun e h => by
    cases e
    rw [ea] at h
    cases h
    exact ⟨rfl, rfl⟩
  cases s with
  | step x p =>
    obtain ⟨a', e, h⟩ := h
    obtain ⟨rfl, rfl⟩ := inj e h
    refine .inr ⟨by decide +kernel, fun E c => ?_⟩
    cases E
    · show (0 : Int) = if inV (.str "step") [.str "seen", .str "behind"] = true then 1 else 0
      decide +kernel
    · show (1 : Int) = if inV (.str "step") [.str "step", .str "end"] = true then 1 else 0
      decide +kernel
  | all k =>
    obtain ⟨a', b, vs, e, h, _⟩ := h
    obtain ⟨rfl, rfl⟩ := inj e h
    refine .inr ⟨by decide +kernel, fun E c => ?_⟩
    cases E
    · show (0 : Int) = if inV (.str "all") [.str "seen", .str "behind"] = true then 1 else 0
      decide +kernel
    · show (0 : Int) = if inV (.str "all") [.str "step", .str "end"] = true then 1 else 0
      decide +kernel
  | best k =>
    obtain ⟨a', b, vs, e, h, _⟩ := h
    obtain ⟨rfl, rfl⟩ := inj e h
    refine .inr ⟨by decide +kernel, fun E c => ?_⟩
    cases E
    · show (0 : Int) = if inV (.str "best") [.str "seen", .str "behind"] = true then 1 else 0
      decide +kernel
    · show (0 : Int) = if inV (.str "best") [.str "step", .str "end"] = true then 1 else 0
      decide +kernel
  | most n s =>
    obtain ⟨a', u, e, h, _⟩ := h
    obtain ⟨rfl, rfl⟩ := inj e h
    refine .inr ⟨by decide +kernel, fun E c => ?_⟩
    cases E
    · show (0 : Int) = if inV (.str "most") [.str "seen", .str "behind"] = true then 1 else 0
      decide +kernel
    · show (0 : Int) = if inV (.str "most") [.str "step", .str "end"] = true then 1 else 0
      decide +kernel
  | half s =>
    obtain ⟨a', u, e, h, _⟩ := h
    obtain ⟨rfl, rfl⟩ := inj e h
    refine .inr ⟨by decide +kernel, fun E c => ?_⟩
    cases E
    · show (0 : Int) = if inV (.str "half") [.str "seen", .str "behind"] = true then 1 else 0
      decide +kernel
    · show (0 : Int) = if inV (.str "half") [.str "step", .str "end"] = true then 1 else 0
      decide +kernel
  | seen x s =>
    obtain ⟨a', u, e, h, _⟩ := h
    obtain ⟨rfl, rfl⟩ := inj e h
    refine .inr ⟨by decide +kernel, fun E c => ?_⟩
    cases E
    · show (1 : Int) = if inV (.str "seen") [.str "seen", .str "behind"] = true then 1 else 0
      decide +kernel
    · show (0 : Int) = if inV (.str "seen") [.str "step", .str "end"] = true then 1 else 0
      decide +kernel
  | behind x s =>
    obtain ⟨a', u, e, h, _⟩ := h
    obtain ⟨rfl, rfl⟩ := inj e h
    refine .inr ⟨by decide +kernel, fun E c => ?_⟩
    cases E
    · show (1 : Int) = if inV (.str "behind") [.str "seen", .str "behind"] = true then 1 else 0
      decide +kernel
    · show (0 : Int) = if inV (.str "behind") [.str "step", .str "end"] = true then 1 else 0
      decide +kernel
  | carry s =>
    obtain ⟨a', u, e, h, _⟩ := h
    obtain ⟨rfl, rfl⟩ := inj e h
    refine .inr ⟨by decide +kernel, fun E c => ?_⟩
    cases E
    · show (0 : Int) = if inV (.str "carry") [.str "seen", .str "behind"] = true then 1 else 0
      decide +kernel
    · show (0 : Int) = if inV (.str "carry") [.str "step", .str "end"] = true then 1 else 0
      decide +kernel
  | fin x p s =>
    obtain ⟨a', u, e, h, _⟩ := h
    obtain ⟨rfl, rfl⟩ := inj e h
    refine .inr ⟨by decide +kernel, fun E c => ?_⟩
    cases E
    · show (0 : Int) = if inV (.str "end") [.str "seen", .str "behind"] = true then 1 else 0
      decide +kernel
    · show (1 : Int) = if inV (.str "end") [.str "step", .str "end"] = true then 1 else 0
      decide +kernel
  | use n =>
    obtain ⟨a', e, h⟩ := h
    obtain ⟨rfl, rfl⟩ := inj e h
    exact .inl ⟨n, rfl, rfl, rfl⟩
def mvOf (N : Nat) (g : Nat → Int) : List V := (List.range N).map fun j => V.int (g j)
theorem mv_len (N : Nat) (g : Nat → Int) : (mvOf N g).length = N := by unfold mvOf; simp
theorem mv_get {N k : Nat} {g : Nat → Int} (h : k < N) : (mvOf N g)[k]? = some (.int (g k)) := by
  unfold mvOf
  rw [List.getElem?_map, List.getElem?_range h]
  rfl
theorem mv_congr {N : Nat} {g g' : Nat → Int} (h : ∀ j, j < N → g j = g' j) : mvOf N g = mvOf N g' := by
  unfold mvOf
  exact List.map_congr_left fun j hj => by rw [h j (List.mem_range.mp hj)]
theorem mv_set (N k : Nat) (g : Nat → Int) (z : Int) : (mvOf N g).set k (.int z) = mvOf N (fun j => if j = k then z else g j) := by
  refine List.ext_getElem (by simp [mvOf]) fun j h1 h2 => ?_
  simp only [mvOf, List.getElem_set, List.getElem_map, List.getElem_range]
  by_cases e : k = j
  · subst e
    simp
  · rw [if_neg e, if_neg (fun z => e z.symm)]
theorem mv_zero {N : Nat} {g : Nat → Int} (h : ∀ j, j < N → g j = 0) : mvOf N g = List.replicate N (V.int 0) := by
  refine List.ext_getElem (by simp [mvOf]) fun j h1 h2 => ?_
  simp only [mvOf, List.getElem_map, List.getElem_range, List.getElem_replicate]
  rw [h j (by simpa [mvOf] using h1)]
/-- the schemes of each of a paper stand at plv -/
def PartsAt (H : Hp) (ps : List Sch) (plv : List V) : Prop := ∀ j s, ps[j]? = some s → ∃ fj fv, plv[j]? = some (V.ref fj) ∧ H fj = some (.lst fv) ∧ Paired (FoundR H j ps.length) (pre 5 s) fv
theorem PartsAt.keep {H H' : Hp} {ps : List Sch} {plv : List V} (h : PartsAt H ps plv) (k : Same H H') : PartsAt H' ps plv := fun j s e => by
  obtain ⟨fj, fv, h1, h2, h3⟩ := h j s e
  exact ⟨fj, fv, h1, k _ _ h2, paired_imp h3 fun _ _ h => FoundR.keep h (Same.tupK k)⟩
def spMany (K : PySem.W.Frag) (E : Bool) (ps : List Sch) (c : Nat → Int) : Sp := fun vs H Q _ => ∃ (na pl : Addr) (plv : List V), vs = [.ref na, .ref pl] ∧ (∀ H', SqT K H' na (namesV E)) ∧ H pl = some (.lst plv) ∧ plv.length = ps.length ∧ 0 < ps.length ∧ ps.length ≤ 5 ∧ PartsAt H ps plv ∧
  (∀ j s, ps[j]? = some s → c j = ((pre 5 s).map (own E c)).sum) ∧ ∀ H', Same H H' → Q (.int (c 0)) H'
section
variable {P : Program} {w : World} {K : PySem.W.Frag} {mg : Str → Option Value} {base : Heap}
theorem ok_many_of {E : Bool} {ps : List Sch} {c : Nat → Int} (T : PTx w K mg) (D : Def K mg "many_of" s_many_of ["names", "parts"]) : FnOk P w K mg base CX0 1 D.f D.fd ["names", "parts"] (spMany K E ps c) := by
  have nd := sc_many_of.nd
  refine D.ok sc_many_of (fun vs H Q E h => ?_) (fun cdv A outer s H vs Q E' hr h => ?_)
  · obtain ⟨na, pl, plv, rfl, _⟩ := h
    rfl
  obtain ⟨na, pl, plv, rfl, hna, epl, hl, h0, h5, hparts, hc, q⟩ := h
  refine ⟨_, pss_cons (ps_set (i := 2) nd rfl (Or.inl rfl) (pe_op op_rep (pe_lst (pa_cons pe_int pa_nil)) (pe_callB call_len_seq rfl (T.free "len" (by decide +kernel)) PySem.boot_len (pa_cons (pv 1) pa_nil))))
    (pss_cons (ps_for PassesOwn.never rfl (pi_revR rfl (T.free "reversed" (by decide +kernel)) (prg_1 rfl (T.free "range" (by decide +kernel)) (pe_callB call_len_seq rfl (T.free "len" (by decide +kernel)) PySem.boot_len (pa_cons (pv 1) pa_nil)))) (pg_name (i := 3) nd rfl (Or.inl rfl))
      (pss_one (ps_for PassesOwn.never rfl (pi_list (pe_ix ix_list (pv 1) (pv 3) (fun _ _ => rfl))) (pg_name (i := 4) nd rfl (Or.inl rfl))
        (pss_one (ps_if (pt_cmpR op_eq (pe_ix ix_tup (pv 4) pe_int (fun _ _ => rfl)) pe_str (nomark _))
          (pss_one (ps_augS (pv 2) (pv 3) pget_list (pe_ix ix_list (pv 2) (pe_ix ix_tup (pv 4) pe_int (fun _ _ => rfl)) (fun _ _ => rfl)) ip_add set_list))
          (pss_one (ps_if (pt_cmpR op_in_seq (pe_ix ix_tup (pv 4) pe_int (fun _ _ => rfl)) (pv 0) (by rfl)) (pss_one (ps_augS (pv 2) (pv 3) pget_list pe_int ip_add set_list)) pss_nil)))))))
    (pss_one (ps_ret (pe_ix ix_list (pv 2) pe_int (fun _ _ => rfl))))), ?_⟩
  have hN : (((plv.length : Nat) : Int) - 0).toNat = ps.length := by rw [hl]; omega
  refine ⟨szN (by show 1 ≤ 6000; decide), fun p0 hp0 => ?_⟩
  have s1 : Same H (upd H p0 (.lst [.int 0])) := Same.new hp0
  refine ⟨_, rfl, pl, _, rfl, .inl (SqL.of (s1 _ _ epl)), p0, _, _, rfl, rfl, upd_same, by omega, by omega, szN (by show 1 * _ ≤ 6000; omega), fun ml hml => ?_⟩
  rw [flat_rep, show (((plv.length : Nat) : Int)).toNat = ps.length by omega]
  have s2 := s1.trans (Same.new (o := .lst (List.replicate ps.length (V.int 0))) hml)
  have hm0 : H ml = none := s1.free hml
  dsimp only [gName]
  refine ⟨_, rfl, pl, _, rfl, .inl (SqL.of (s2 _ _ epl)), _, rfl, by omega, by omega, by omega, by omega, ?_⟩
  refine for_rangeC (lo := 0 + ((((plv.length : Nat) : Int) - 0).toNat : Int) - 1) (c := -1) (n := (((plv.length : Nat) : Int) - 0).toNat) (fun i σ H' => ∃ v3 v4 : Option V, σ = [some (.ref na), some (.ref pl), some (.ref ml), v3, v4] ∧ H' ml = some (.lst (mvOf ps.length fun j => if ps.length - i ≤ j then c j else 0)) ∧ Same H H')
    ⟨none, none, rfl, by rw [mv_zero fun j hj => if_neg (by omega)]; exact upd_same, s2⟩ ?_ ?_
  · rintro i σ H1 hi ⟨v3, v4, rfl, em, sm⟩
    rw [hN] at hi
    dsimp only [gName]
    have ez : 0 + ((((plv.length : Nat) : Int) - 0).toNat : Int) - 1 + ((i : Nat) : Int) * -1 = ((ps.length - 1 - i : Nat) : Int) := by rw [hN]; omega
    rw [ez]
    have hk : ps.length - 1 - i < ps.length := by omega
    obtain ⟨fj, fv, e1, e2, e3⟩ := hparts _ _ (List.getElem?_eq_getElem hk)
    have ck := hc _ _ (List.getElem?_eq_getElem hk)
    have lfv := Paired.length e3
    generalize hs : ps[ps.length - 1 - i]'hk = s at e3 ck lfv
    have hki : ps.length - 1 - i + 1 = ps.length - i := by omega
    generalize ps.length - 1 - i = k at e1 e3 ck hk hki ⊢
    refine ⟨_, rfl, _, rfl, pl, _, _, .ref fj, rfl, rfl, SqL.of (sm _ _ epl), atI_nat e1, fj, rfl, ⟨_, SqL.of (sm _ _ e2)⟩, ?_⟩
    have gt : ∀ t, t < (pre 5 s).length → ∀ s', (pre 5 s)[t]? = some s' → (((pre 5 s).take (t + 1)).map (own E c)).sum = (((pre 5 s).take t).map (own E c)).sum + own E c s' := fun t ht s' e => by
      rw [List.take_succ, e, List.map_append, List.sum_append]
      simp
    have hstart : ∀ j, (if ps.length - i ≤ j then c j else 0) = if j = k then (((pre 5 s).take 0).map (own E c)).sum else if ps.length - i ≤ j then c j else 0 := fun j => by
      by_cases ej : j = k
      · rw [if_pos ej, if_neg (by omega)]
        rfl
      · rw [if_neg ej]
    refine for_list (K := K) (a := fj) (xs := fv) (fun t σ H' => ∃ v4 : Option V, σ = [some (.ref na), some (.ref pl), some (.ref ml), some (.int ((k : Nat) : Int)), v4] ∧ H' ml = some (.lst (mvOf ps.length fun j => if j = k then (((pre 5 s).take t).map (own E c)).sum else if ps.length - i ≤ j then c j else 0)) ∧ Same H H')
      ⟨v4, rfl, by rw [em]; exact congrArg (fun z => some (HO.lst z)) (mv_congr fun j _ => hstart j), sm⟩ (fun t σ H' _ ⟨_, _, _, s5⟩ => SqL.of (s5 _ _ e2)) ?_ ?_
    · rintro t y σ H2 hy ⟨v4', rfl, em2, s5⟩
      obtain ⟨s', es', d, hsx, hox⟩ := paired_get' e3 hy
      have htl := (List.getElem?_eq_some_iff.mp es').1
      have gt1 := gt t htl s' es'
      obtain ⟨a, nm, rest, rfl, ea⟩ := hsx.tag
      have ea2 := s5 _ _ ea
      dsimp only [gName]
      have fin : ∀ z : Int, (((pre 5 s).take (t + 1)).map (own E c)).sum = z → ∃ v4 : Option V, [some (V.ref na), some (V.ref pl), some (V.ref ml), some (V.int ((k : Nat) : Int)), some (V.ref a)] = [some (V.ref na), some (V.ref pl), some (V.ref ml), some (V.int ((k : Nat) : Int)), v4] ∧
          upd H2 ml (.lst ((mvOf ps.length fun j => if j = k then (((pre 5 s).take t).map (own E c)).sum else if ps.length - i ≤ j then c j else 0).set k (.int z))) ml = some (.lst (mvOf ps.length fun j => if j = k then (((pre 5 s).take (t + 1)).map (own E c)).sum else if ps.length - i ≤ j then c j else 0)) ∧
          Same H (upd H2 ml (.lst ((mvOf ps.length fun j => if j = k then (((pre 5 s).take t).map (own E c)).sum else if ps.length - i ≤ j then c j else 0).set k (.int z)))) := fun z hz => by
        refine ⟨_, rfl, ?_, Same.newer s5 hm0⟩
        rw [upd_same, mv_set]
        congr 2
        refine mv_congr fun j hj => ?_
        by_cases ej : j = k
        · rw [if_pos ej, if_pos ej, hz]
        · rw [if_neg ej, if_neg ej, if_neg ej]
      have gk : (mvOf ps.length fun j => if j = k then (((pre 5 s).take t).map (own E c)).sum else if ps.length - i ≤ j then c j else 0)[k]? = some (.int (((pre 5 s).take t).map (own E c)).sum) := by
        rw [mv_get hk, if_pos rfl]
      have ixk : ixN (mvOf ps.length fun j => if j = k then (((pre 5 s).take t).map (own E c)).sum else if ps.length - i ≤ j then c j else 0).length ((k : Nat) : Int) = some k := by rw [mv_len]; exact ix_nat hk
      refine ⟨_, rfl, a, _, 0, .str nm, rfl, rfl, SqT.of ea2, at0, rfl, _, rfl, ?_⟩
      rw [dec_str]
      rcases own_tag hsx ea with ⟨n, rfl, rfl, rfl⟩ | ⟨nu, ho⟩
      · have hn : k < n ∧ n < ps.length := hox
        rw [show (("use" : Str) == "use") = true by decide +kernel]
        have eo : own E c (.use n) = c n := by cases E <;> rfl
        rw [eo] at gt1
        have gn : (mvOf ps.length fun j => if j = k then (((pre 5 s).take t).map (own E c)).sum else if ps.length - i ≤ j then c j else 0)[n]? = some (.int (c n)) := by
          rw [mv_get hn.2, if_neg (by omega), if_pos (by omega)]
        exact iteT ⟨_, rfl, _, rfl, ml, _, _, _, rfl, rfl, SqL.of em2, by omega, gk, _, rfl, _, rfl, a, _, 1, .int ((n : Nat) : Int), rfl, rfl, SqT.of ea2, at1, ml, _, _, .int (c n), rfl, rfl, SqL.of em2, atI_nat gn, _, _, rfl, rfl, ml, _, _, k, rfl, rfl, em2, ixk, fin _ gt1⟩
      · rw [nu]
        rw [ho E c] at gt1
        refine iteF ⟨_, rfl, a, _, 0, .str nm, rfl, rfl, SqT.of ea2, at0, _, rfl, na, _, rfl, .inr (hna _), rfl, names_flat E, _, rfl, ?_⟩
        refine ite2 (fun z => ?_) (fun z => ?_)
        · have z : inV (.str nm) (namesV E) = true := z
          rw [if_pos z] at gt1
          exact ⟨_, rfl, _, rfl, ml, _, _, _, rfl, rfl, SqL.of em2, by omega, gk, _, _, rfl, rfl, ml, _, _, k, rfl, rfl, em2, ixk, fin _ gt1⟩
        · have z : ¬ inV (.str nm) (namesV E) = true := z
          rw [if_neg z, Int.add_zero] at gt1
          refine ⟨_, rfl, ?_, s5⟩
          rw [em2, gt1]
    · rintro σ H2 ⟨v4', rfl, em2, s5⟩
      rw [← lfv, List.take_length, ← ck] at em2
      refine ⟨_, _, rfl, ?_, s5⟩
      rw [em2]
      congr 2
      refine mv_congr fun j hj => ?_
      by_cases ej : j = k
      · rw [if_pos ej, if_pos (by omega), ej]
      · rw [if_neg ej]
        by_cases e2 : ps.length - i ≤ j
        · rw [if_pos e2, if_pos (by omega)]
        · rw [if_neg e2, if_neg (by omega)]
  · rintro σ H1 ⟨v3, v4, rfl, em, sm⟩
    rw [hN] at em
    refine ⟨_, rfl, ml, _, 0, .int (c 0), rfl, rfl, SqL.of em, ?_, q _ sm⟩
    refine atI_nat (j := 0) ?_
    rw [mv_get h0, if_pos (by omega)]
end
end MS
end
section
set_option maxRecDepth 100000
set_option maxHeartbeats 4000000
namespace MS
open PySem L2
/-! ### what can be a paper -/
theorem ev_or_new {t u : TT} {σ : St} {H : Hp} {b c : Bool} (h1 : ∀ Q : Bool → Hp → Prop, (∀ H', Same H H' → Q b H') → t σ H Q) (h2 : b = false → ∀ H', Same H H' → ∀ Q : Bool → Hp → Prop, (∀ H'', Same H' H'' → Q c H'') → u σ H' Q) :
    ∀ Q : Bool → Hp → Prop, (∀ H', Same H H' → Q (b || c) H') → tOr t u σ H Q := fun Q q => h1 _ fun H' s => by
  cases b with
  | true => exact iteT (q H' s)
  | false => exact iteF (h2 rfl H' s _ fun H'' s'' => q H'' (s.trans s''))
def spCheckPaper : Sp := fun vs H Q _ => ∃ (pa : Addr) (ps : List Sch) (pv : List V), vs = [.ref pa] ∧ H pa = some (.tup pv) ∧ Paired (SAt H 5) ps pv ∧ PaperOk ps ∧ ∀ H', Same H H' → Q .non H'
def spCheckPaper1 (ps : List Sch) : Sp := fun vs H Q _ => ∃ (pa : Addr) (pv : List V), vs = [.ref pa] ∧ H pa = some (.tup pv) ∧ Paired (SAt H 5) ps pv ∧ PaperOk ps ∧ ∀ H', Same H H' → Q .non H'
structure DPaper (K : PySem.W.Frag) (mg : Str → Option Value) where
  DN : Def K mg "is_number" s_is_number ["thing"]
  DF : Def K mg "fits" s_fits psFits
  DB : Def K mg "can_be" s_can_be ["thing", "number", "many"]
  DW : Def K mg "word_in" s_word_in ["scheme"]
  DI : Def K mg "within" s_within ["scheme"]
  DP : Def K mg "placed" s_placed ["schemes", "place"]
  DS : Def K mg "schemes_in" s_schemes_in ["paper", "number"]
  DM : Def K mg "many_of" s_many_of ["names", "parts"]
  DC : Def K mg "check_paper" s_check_paper ["paper"]
  DO : Def K mg "parts_of" s_parts_of ["paper", "scheme"]
section
variable {P : Program} {w : World} {K : PySem.W.Frag} {mg : Str → Option Value} {base : Heap}
theorem ok_check_paper1 {ps : List Sch} (T : PTx w K mg) (D : DPaper K mg) : FnOk P w K mg base CX0 5 D.DC.f D.DC.fd ["paper"] (spCheckPaper1 ps) := by
  by_cases hP : PaperOk ps
  case neg =>
    have e : spCheckPaper1 ps = fun _ _ _ _ => False := by
      funext vs H Q E
      refine propext ⟨fun h => ?_, fun h => h.elim⟩
      obtain ⟨_, _, _, _, _, z, _⟩ := h
      exact hP z
    rw [e]
    exact no_sp
  have hPl := hP.1
  have hP5 := hP.2.1
  obtain ⟨ce, cw, tl⟩ := hP.2.2
  have GS : FnOk P w K mg base CX0 4 D.DS.f D.DS.fd ["paper", "number"] (fun vs H Q E => ∃ i, spSchemesIn ps i vs H Q E) := fn_any fun i => ok_schemes_in T D.DS D.DB D.DF D.DN D.DI D.DP
  have GE : FnOk P w K mg base CX0 1 D.DM.f D.DM.fd ["names", "parts"] (spMany K true ps ce) := ok_many_of T D.DM
  have GW : FnOk P w K mg base CX0 1 D.DM.f D.DM.fd ["names", "parts"] (spMany K false ps cw) := ok_many_of T D.DM
  obtain ⟨tP, gP⟩ := T.mostInPaper
  obtain ⟨tE, gE⟩ := T.mostE
  obtain ⟨tW, gW⟩ := T.mostW
  obtain ⟨aE, hE, qE⟩ := T.earners
  obtain ⟨aW, hW, qW⟩ := T.watchers
  have nd := sc_check_paper.nd
  refine D.DC.ok sc_check_paper (fun vs H Q E h => ?_) (fun cdv A outer s H vs Q E hr h => ?_)
  · obtain ⟨pa, pv, rfl, _⟩ := h
    rfl
  obtain ⟨pa, pv0, rfl, epv, pp, _, q⟩ := h
  have hr1 : Room 1 _ := hr.mono (by decide)
  refine ⟨_, pss_cons (ps_if (PW.pt (pw_or (pt_not (pt_val (pe_callB call_isi rfl (T.free "isinstance" (by decide +kernel)) (by decide +kernel) (pa_cons (pv 0) (pa_cons (pe_bltn rfl (T.free "tuple" (by decide +kernel)) (by decide +kernel) (v := .ty "tuple") rfl) pa_nil)))))
      (pw_or1 (pt_not (pt_truth (pv 0) (by intro _; rfl)))))) (pss_one ps_never) pss_nil)
    (pss_cons (ps_set (i := 1) nd rfl (Or.inl rfl) (pe_lst pa_nil))
    (pss_cons (ps_for PassesOwn.never rfl (pi_range1 rfl (T.free "range" (by decide +kernel)) (pa_cons (pe_callB call_len_seq rfl (T.free "len" (by decide +kernel)) PySem.boot_len (pa_cons (pv 0) pa_nil)) pa_nil)) (pg_name (i := 2) nd rfl (Or.inl rfl))
      (pss_cons (ps_if (pt_cmpR op_eq (pv 2) (pe_glob rfl gP (v := .int 5) ⟨_, rfl⟩) (nomark _)) (pss_one ps_never) pss_nil)
      (pss_one (ps_expr (pe_bm PySem.F.plainAttrs_list PySem.F.slot_list_append PySem.F.type_list_append mt_append (pv 1) (pa_cons (pcall D.DS GS hr (pa_cons (pv 0) (pa_cons (pv 2) pa_nil))) pa_nil))))))
    (pss_one (ps_if (PW.pt (pw_or (pt_cmpR op_gt (pcall D.DM GE hr1 (pa_cons (pe_glob rfl hE (v := .ref aE) rfl) (pa_cons (pv 1) pa_nil))) (pe_glob rfl gE (v := .int 7) ⟨_, rfl⟩) (nomark _))
      (pw_or1 (pt_cmpR op_gt (pcall D.DM GW hr1 (pa_cons (pe_glob rfl hW (v := .ref aW) rfl) (pa_cons (pv 1) pa_nil))) (pe_glob rfl gW (v := .int 3) ⟨_, rfl⟩) (nomark _))))) (pss_one ps_never) pss_nil)))), ?_⟩
  have hM := Paired.length pp
  refine seq_if (b := false || false) (ev_or (b := false) (c := false) (fun Q q => ⟨_, rfl, _, .ty "tuple", .type "tuple", .type "tuple", true, rfl, .ty _, .base (.tup epv), kit_ty (by decide +kernel), _, rfl, q⟩)
    (fun Q q => ⟨_, rfl, true, .inr (.inl ⟨_, SqT.of epv, by cases pp with
      | nil => exact absurd hPl (by simp)
      | cons _ _ => rfl⟩), q⟩)) (fun z => nomatch z) (fun _ => ?_)
  refine ⟨Nat.zero_le _, fun p hp => ?_⟩
  have s1 : Same H (upd H p (.lst [])) := Same.new hp
  dsimp only [gName]
  refine ⟨_, rfl, pa, _, rfl, .inr (SqT.of (s1 _ _ epv)), _, rfl, by omega, by omega, ?_⟩
  have hn : (((pv0.length : Nat) : Int)).toNat = ps.length := by omega
  refine for_range (lo := 0) (n := (((pv0.length : Nat) : Int)).toNat) (fun i σ H' => ∃ (plv : List V) (v : Option V), σ = [some (.ref pa), some (.ref p), v] ∧ H' p = some (.lst plv) ∧ plv.length = i ∧
      (∀ j s, j < i → ps[j]? = some s → ∃ fj fv, plv[j]? = some (V.ref fj) ∧ fj ≠ p ∧ H' fj = some (.lst fv) ∧ Paired (FoundR H' j ps.length) (pre 5 s) fv) ∧ Same H H')
    ⟨[], none, rfl, upd_same, rfl, (fun _ _ h => by omega), s1⟩ ?_ ?_
  · rintro i σ H1 hi ⟨plv, v, rfl, ep, hl, hparts, sm⟩
    rw [hn] at hi
    have ez : (0 : Int) + ((i : Nat) : Int) = ((i : Nat) : Int) := by omega
    dsimp only [gName]
    rw [ez]
    refine seq_if (b := false) (fun Q q => ⟨_, rfl, rfl, _, rfl, by rw [decide_eq_false (fun z => by have := V.int.inj z; omega)]; exact q⟩) (fun z => nomatch z) (fun _ => ?_)
    obtain ⟨t1, t2, t3, t4, _⟩ := tl i _ (List.getElem?_eq_getElem hi)
    rw [Nat.zero_add] at t1
    refine ⟨_, rfl, .inl ⟨rfl, _, SqL.of ep⟩, _, rfl, _, rfl, i, pa, pv0, _, rfl, sm _ _ epv, paired_imp pp fun _ _ => SAt.keep (Same.tupK sm) _ _ _, List.getElem?_eq_getElem hi, t1, t4, fun f fv H2 s2 hf ef pf => ?_⟩
    have ep2 := s2 _ _ ep
    have nfp : f ≠ p := fun z => by rw [z, ep] at hf; cases hf
    have tk : TupK H2 (upd H2 p (.lst (plv ++ [.ref f]))) := TupK.put ep2
    refine ⟨p, _, _, rfl, rfl, ep2, small1000 (by omega), ?_⟩
    refine ⟨plv ++ [.ref f], _, rfl, upd_same, by rw [List.length_append, hl]; rfl, fun j s hj es => ?_, Same.newer (sm.trans s2) hp⟩
    by_cases e : j < i
    · obtain ⟨fj, fv', e1, e2, e3, e4⟩ := hparts j s e es
      exact ⟨fj, fv', by rw [List.getElem?_append_left (by omega)]; exact e1, e2, by rw [upd_ne e2]; exact s2 _ _ e3, paired_imp e4 fun _ _ h => FoundR.keep h ((Same.tupK s2).trans tk)⟩
    · have e : j = i := by omega
      subst e
      obtain rfl : ps[j] = s := Option.some.inj ((List.getElem?_eq_getElem hi).symm.trans es)
      refine ⟨f, fv, ?_, nfp, by rw [upd_ne nfp]; exact ef, paired_imp pf fun _ _ h => FoundR.keep h tk⟩
      rw [List.getElem?_append_right (by omega), hl, Nat.sub_self]
      rfl
  · rintro σ H1 ⟨plv, v, rfl, ep, hl, hparts, sm⟩
    rw [hn] at hl hparts
    have hPA : PartsAt H1 ps plv := fun j s es => by
      obtain ⟨fj, fv, e1, _, e3, e4⟩ := hparts j s (List.getElem?_eq_some_iff.mp es).1 es
      exact ⟨fj, fv, e1, e3, e4⟩
    obtain ⟨t1, t2, t3, t4, t5, t6⟩ := tl 0 _ (List.getElem?_eq_getElem hPl)
    rw [Nat.zero_add] at t2 t3
    dsimp only
    refine one_new (u := tNext) (b := false || false) (ev_or_new (b := false) (c := false) (fun Q q => ?_) (fun _ H2 s2 Q q => ?_)) (fun z => nomatch z) (fun _ H2 s2 => ?_)
    · refine ⟨_, rfl, aE, p, plv, rfl, qE, ep, hl, hPl, hP5, hPA, fun j s es => ?_, fun H2 s2 => ?_⟩
      · obtain ⟨u1, u2, _⟩ := tl j s es
        rw [Nat.zero_add] at u1 u2
        rw [u2]
        exact (pre_er ce 5 s u1).symm
      · refine ⟨_, _, rfl, rfl, _, rfl, ?_⟩
        rw [decide_eq_false (show ¬ (7 : Int) < ce 0 by omega)]
        exact q H2 s2
    · refine ⟨_, rfl, aW, p, plv, rfl, qW, s2 _ _ ep, hl, hPl, hP5, hPA.keep s2, fun j s es => ?_, fun H3 s3 => ?_⟩
      · obtain ⟨u1, _, u3, _⟩ := tl j s es
        rw [Nat.zero_add] at u1 u3
        rw [u3]
        exact (pre_wr cw 5 s u1).symm
      · refine ⟨_, _, rfl, rfl, _, rfl, ?_⟩
        rw [decide_eq_false (show ¬ (3 : Int) < cw 0 by omega)]
        exact q H3 s3
    · exact q H2 (sm.trans s2)
theorem ok_check_paper (T : PTx w K mg) (D : DPaper K mg) : FnOk P w K mg base CX0 5 D.DC.f D.DC.fd ["paper"] spCheckPaper := by
  have G : FnOk P w K mg base CX0 5 D.DC.f D.DC.fd ["paper"] (fun vs H Q E => ∃ ps, spCheckPaper1 ps vs H Q E) := fn_any fun ps => ok_check_paper1 T D
  have e : spCheckPaper = fun vs H Q E => ∃ ps, spCheckPaper1 ps vs H Q E := by
    funext vs H Q E
    refine propext ⟨fun h => ?_, fun h => ?_⟩
    · obtain ⟨pa, ps, pv, h⟩ := h
      exact ⟨ps, pa, pv, h⟩
    · obtain ⟨ps, pa, pv, h⟩ := h
      exact ⟨pa, ps, pv, h⟩
  rw [e]
  exact G
end
end MS
end
section
set_option maxRecDepth 100000
set_option maxHeartbeats 4000000
namespace MS
open PySem L2
/-! ### the words of a paper, rising -/
def sortW (l : List Str) : List Str := wordsL.filter fun x => decide (x ∈ l)
abbrev leS (a b : Str) : Prop := Spec.ltCps b.cps.toList a.cps.toList = false
theorem leS_trans : ∀ a ∈ wordsL, ∀ b ∈ wordsL, ∀ c ∈ wordsL, leS a b → leS b c → leS a c := by decide +kernel
theorem leS_anti : ∀ a ∈ wordsL, ∀ b ∈ wordsL, leS a b → leS b a → a = b := by decide +kernel
theorem leS_words : wordsL.Pairwise leS := by decide +kernel
theorem words_nodup : wordsL.Nodup := by decide +kernel
theorem rising_pw : ∀ (r : List Str) (p : Str), p ∈ wordsL → (∀ x ∈ r, x ∈ wordsL) → PyProof.Rows.risingS p r = true → (∀ y ∈ r, leS p y) ∧ r.Pairwise leS
  | [], _, _, _, _ => ⟨(fun _ h => nomatch h), List.Pairwise.nil⟩
  | x :: r, p, hp, hr, h => by
    have h' : (!Spec.ltCps x.cps.toList p.cps.toList && PyProof.Rows.risingS x r) = true := h
    rw [Bool.and_eq_true, Bool.not_eq_true'] at h'
    have hx := hr x List.mem_cons_self
    obtain ⟨h1, h2⟩ := rising_pw r x hx (fun y hy => hr y (List.mem_cons_of_mem _ hy)) h'.2
    refine ⟨fun y hy => ?_, List.pairwise_cons.mpr ⟨h1, h2⟩⟩
    rcases List.mem_cons.mp hy with rfl | hy
    · exact h'.1
    · exact leS_trans p hp x hx y (hr y (List.mem_cons_of_mem _ hy)) h'.1 (h1 y hy)
theorem sort_uniq {ss l : List Str} (hs : PyProof.Rows.sortedS ss = true) (nd : ss.Nodup) (hm : ∀ k, k ∈ ss ↔ k ∈ l) (hl : ∀ x ∈ l, IsW x) : ss = sortW l := by
  have hw : ∀ x ∈ ss, x ∈ wordsL := fun x hx => hl x ((hm x).1 hx)
  have p1 : ss.Pairwise leS := by
    cases ss with
    | nil => exact List.Pairwise.nil
    | cons x r =>
      obtain ⟨a, b⟩ := rising_pw r x (hw x List.mem_cons_self) (fun y hy => hw y (List.mem_cons_of_mem _ hy)) hs
      exact List.pairwise_cons.mpr ⟨a, b⟩
  have p2 : (sortW l).Pairwise leS := leS_words.sublist List.filter_sublist
  have n2 : (sortW l).Nodup := words_nodup.sublist List.filter_sublist
  have pm : ss.Perm (sortW l) := (List.perm_ext_iff_of_nodup nd n2).mpr fun x => by
    unfold sortW
    rw [List.mem_filter, decide_eq_true_eq, hm x]
    exact ⟨fun h => ⟨hl x h, h⟩, fun h => h.2⟩
  exact List.Perm.eq_of_pairwise (fun a b ha hb h1 h2 => leS_anti a (hw a ha) b (List.mem_filter.mp hb).1 h1 h2) p1 p2 pm
theorem sortW_len (l : List Str) : (sortW l).length ≤ 8 := List.length_filter_le _ _
theorem sortW_w {l : List Str} : ∀ x ∈ sortW l, IsW x := fun x h => (List.mem_filter.mp h).1
theorem mem_flat {f : Sch → List Str} {ks : List Sch} (h : ∀ s ∈ ks, ∀ x ∈ f s, IsW x) : ∀ x ∈ (ks.map f).flatten, IsW x := fun x hx => by
  obtain ⟨l, hl, hx⟩ := List.mem_flatten.mp hx
  obtain ⟨s, hs, rfl⟩ := List.mem_map.mp hl
  exact h s hs x hx
theorem wP_words {ps : List Sch} {M : Nat} (hp : ∀ (j : Nat) (s : Sch), ps[j]? = some s → OkS j M 5 s) : ∀ (k i d : Nat) (s : Sch), OkS i M d s → ∀ x ∈ wP ps k s, IsW x
  | 0, _, _, _, _ => fun _ h => nomatch h
  | k + 1, i, 0, s, o => by cases o
  | k + 1, i, d + 1, s, o => by
    rw [wP_parts o]
    intro x hx
    rcases List.mem_append.mp hx with hx | hx
    · by_cases hl : (wordOf s).length ≠ 0
      · rw [if_pos hl] at hx
        rw [List.mem_singleton.mp hx]
        cases s with
        | step w p => exact o.1
        | seen w s => exact o.1
        | behind w s => exact o.1
        | fin w p s => exact o.1.1
        | _ => exact absurd (show Str.length "" = 0 by decide) hl
      · rw [if_neg hl] at hx
        cases hx
    · refine mem_flat (f := wP ps k) (ks := partsOf ps s) (fun s' hs' => ?_) x hx
      by_cases h : ∃ n, s = .use n
      · obtain ⟨n, rfl⟩ := h
        have hs2 : s' ∈ (ps[n]?).toList := hs'
        rw [Option.mem_toList] at hs2
        exact wP_words hp k n 5 s' (hp n s' hs2)
      · rw [parts_kids fun n e => h ⟨n, e⟩] at hs'
        exact wP_words hp k i d s' (ok_kids o s' hs')
def allW (ps : List Sch) : List Str := match ps with
  | [] => []
  | s :: _ => sortW (wP ps 30 s)
theorem allW_len (ps : List Sch) : (allW ps).length ≤ 8 := by
  cases ps with
  | nil => exact Nat.zero_le _
  | cons s r => exact sortW_len _
def spWordsOf1 (ps : List Sch) : Sp := fun vs H Q _ => ∃ (pa : Addr) (pv : List V), vs = [.ref pa] ∧ H pa = some (.tup pv) ∧ Paired (SAt H 5) ps pv ∧ PaperOk ps ∧ ∀ (f : Addr) (H' : Hp), Same H H' → H f = none → H' f = some (.lst ((allW ps).map V.str)) → Q (.ref f) H'
section
variable {P : Program} {w : World} {K : PySem.W.Frag} {mg : Str → Option Value} {base : Heap}
end
end MS
end
section
set_option maxRecDepth 100000
set_option maxHeartbeats 4000000
namespace MS
open PySem L2
/-! ### match over a tuple whose first item is a text -/
inductive Caps (X : Cx) : List Pattern → List (Str × Nat) → Prop
  | nil : Caps X [] []
  | cons {n : Str} {i : Nat} {pos : Pos} {ps : List Pattern} {l : List (Str × Nat)} (hi : X.N[i]? = some n) (hx : Loc X.env.scope n) (hf : X.fn n = true ∨ X.env.scope.names.lookup n = some .local) (t : Caps X ps l) : Caps X (.MatchAs none (some n) pos :: ps) ((n, i) :: l)
def setAll : St → List Nat → List V → St
  | σ, i :: is, v :: vs => setAll (σ.set i (some v)) is vs
  | σ, _, _ => σ
section
variable {X : Cx} {pins : List (Addr × Obj)} {A : Around}
theorem Caps.each {E : Value → Shared → Prop} {s : Shared} : ∀ {ps : List Pattern} {l : List (Str × Nat)} {vs : List Value} {Q : Option (List (Str × Value)) → Shared → Prop}, Caps X ps l → vs.length = l.length → Q (some ((l.map (·.1)).zip vs)) s → wpAny (model X.prog X.w) A (matchEach ps X.env vs) Q E s
  | _, _, [], _, .nil, _, h => wpAny_matchEach_nil h
  | _, _, _ :: _, _, .nil, e, _ => nomatch e
  | _, _, [], _, .cons _ _ _ _, e, _ => nomatch e
  | _, _, v :: vs, Q, .cons hi hx hf t, e, h => wpAny_matchEach_cons (wpAny_matchPattern_Capture (Caps.each t (by simpa using e) h)) rfl
theorem Caps.len {ps : List Pattern} {l : List (Str × Nat)} (h : Caps X ps l) : ps.length = l.length := by
  induction h with
  | nil => rfl
  | cons _ _ _ _ ih => simp [ih]
theorem Caps.nostar : ∀ {ps : List Pattern} {l : List (Str × Nat)}, Caps X ps l → ∀ n, List.findIdx?.go (fun p : Pattern => p.isStar) ps n = none
  | _, _, .nil, _ => rfl
  | _, _, .cons hi hx hf t, n => by
    show (if _ then _ else _) = none
    rw [if_neg (by simp [Pattern.isStar])]
    exact Caps.nostar t (n + 1)
theorem Caps.store {E : Value → Shared → Prop} : ∀ {ps : List Pattern} {l : List (Str × Nat)} {us : List Value} {vs : List V} {σ : St} {H : Hp} {s : Shared} {Q : Unit → Shared → Prop}, Caps X ps l → X.N.Nodup → Vals vs us → us.length = l.length → Inv X pins σ H s → (∀ s', Inv X pins (setAll σ (l.map (·.2)) vs) H s' → Q () s') →
    wpAny (model X.prog X.w) A (assignInOrder ((((l.map (·.1)).zip us)).map fun (n, _) => bindName X.env n) (((l.map (·.1)).zip us).map (·.2))) Q E s
  | _, _, [], _, _, _, _, _, .nil, _, .nil, _, I, h => wpAny_assignInOrder_none (h _ I)
  | _, _, _ :: _, _, _, _, _, _, .nil, _, _, e, _, _ => nomatch e
  | _, _, [], _, _, _, _, _, .cons _ _ _ _, _, _, e, _, _ => nomatch e
  | _, _, u :: us, v :: vs, σ, H, s, Q, .cons hi hx hf t, hN, .cons r rr, e, I, h => by
    refine wpAny_assignInOrder_more ?_
    show wpAny _ _ (holding [u] point >>= fun _ => storeName X.env _ u >>= fun _ => point) _ _ _
    refine wpAny_bind (wpAny_holding (wpAny_point (wpAny_bind (store_ok I hN hi hx r (fun s' I' => ?_) hf))))
    exact wpAny_point (Caps.store t hN rr (by simpa using e) I' h)
end
/-- the cases of a match -/
abbrev TM := V → TS
structure PM (X : Cx) (cs : List MatchCase) (t : TM) : Prop where
  run : ∀ (first : Bool) (pins : List (Addr × Obj)) (s : Shared) (σ : St) (H : Hp) (x : V) (u : Value) (D : Ends), Inv X pins σ H s → RelV x u → t x D σ H → wpAny (model X.prog X.w) X.A (matchCases cs X.env u first) (SP X pins D) X.xe s
section
variable {X : Cx}
theorem pm_nil : PM X [] (fun _ D σ H => D.nx σ H) := ⟨fun first pins s σ H x u D I r h => wpAny_matchCases_nil ⟨σ, H, I, h⟩⟩
def tCase (K : PySem.W.Frag) (nm : Str) (is : List Nat) (tb : TS) (tr : TM) : TM := fun x D σ H => ∃ (a : Addr) (z : Str) (tl : List V), x = .ref a ∧ SqT K H a (.str z :: tl) ∧ tl.length ≤ 1000 ∧
  if tl.length = is.length ∧ z = nm then tb D (setAll σ is tl) H else tr x D σ H
theorem pm_cons {nm : Str} {k : Nat} {p1 p2 p3 : Pos} {ps : List Pattern} {l : List (Str × Nat)} {body : List Stmt} {cs : List MatchCase} {tb : TS} {tr : TM} (hc : X.calm = true) (hN : X.N.Nodup) (c : Caps X ps l) (hb : PSs X body tb) (hr : PM X cs tr) :
    PM X (⟨.MatchSequence (.MatchValue (.Constant (.str nm) k p1) p2 :: ps) p3, none, body⟩ :: cs) (tCase X.K nm (l.map (·.2)) tb tr) := by
  refine ⟨fun first pins s σ H x u D I r h => ?_⟩
  obtain ⟨a, z, tl, rfl, hq, hz, h⟩ := h
  obtain rfl : u = .ref a := r
  obtain ⟨its, rv, ht, _⟩ := I.tuple hq
  have hl := rv.length
  rw [List.length_cons] at hl
  have hps := c.len
  have hfit : (its.toArray.size : Int) < 2 ^ 63 := by
    rw [List.size_toArray, ← hl]
    omega
  have nost : (Pattern.MatchValue (.Constant (.str nm) k p1) p2 :: ps).findIdx? (·.isStar) = none := by
    have q := c.nostar 1
    simp only [List.findIdx?, List.findIdx?.go, Pattern.isStar, Bool.false_eq_true, if_false]
    exact q
  have nowild : ((Pattern.MatchValue (.Constant (.str nm) k p1) p2 :: ps).all fun p => p.isWildcard || (p.isStar && p.names.isEmpty)) = false := by
    simp [Pattern.isWildcard, Pattern.isStar]
  refine wpAny_matchCases_cons ?_
  by_cases hlen : tl.length = l.length
  · refine PyProof.Rows.matchSeq_tuple_hit ht hfit (by rw [List.size_toArray, ← hl, List.length_cons, hps, hlen]) ?_ nost nowild
    have esz : (Pattern.MatchValue (.Constant (.str nm) k p1) p2 :: ps).length = its.toArray.size := by rw [List.size_toArray, ← hl, List.length_cons, hps, hlen]
    rw [esz]
    refine PyProof.Rows.unpackItems_tuple (I.ok.hd hc) ht fun h' hx => ?_
    have I1 : Inv X pins σ H { s with heap := h', toks := s.toks + 1 + 1 } := I.kept (t' := s.toks + 1 + 1) fun b o e => hx b o (Nat.ne_of_lt (Heap.lt_size e)) e
    cases rv with
    | cons r0 rt =>
      rename_i u0 us
      obtain ⟨t0, rfl⟩ := r0
      have hus : us.length = l.length := by rw [← rt.length]; exact hlen
      refine wpAny_matchEach_cons (p := .MatchValue (.Constant (.str nm) k p1) p2) ?_ rfl
      refine wpAny_matchPattern_Value (Calls.Constant_str (PyProof.Rows.eq_str (wpAny_truthy_bool ?_)))
      by_cases hnm : z = nm
      · subst hnm
        rw [if_pos ⟨by rw [List.length_map]; exact hlen, rfl⟩] at h
        rw [if_pos (by simp)]
        refine c.each hus ?_
        refine c.store hN rt hus (I1.tok _) fun s' I' => ?_
        exact hb.run pins s' _ H D I' h
      · rw [if_neg (fun q => hnm q.2)] at h
        rw [if_neg (fun q => hnm (eq_of_beq q))]
        exact hr.run false pins _ σ H (.ref a) _ D (I1.tok _) rfl h
  · rw [if_neg (fun q => hlen (by rw [q.1, List.length_map]))] at h
    refine PyProof.Rows.matchSeq_tuple_miss ht hfit (by rw [List.size_toArray, ← hl, List.length_cons, hps]; omega) ?_ nost nowild
    exact hr.run false pins _ σ H (.ref a) _ D (I.tok _) rfl h
def tMatch (te : TE) (tm : TM) : TS := fun D σ H => te σ H fun x H1 => tm x D σ H1
theorem ps_match {e : Expr} {cs : List MatchCase} {te : TE} {tm : TM} {pos : Pos} (he : PE X e te) (hm : PM X cs tm) : PS X (.Match e cs pos) (tMatch te tm) := by
  refine ⟨fun pins s σ H D I h => ?_⟩
  refine wpAny_Match (thn (he.run pins s σ H _ I h) fun u s1 ⟨x, H1, I1, r1, q1⟩ => ?_)
  exact hm.run true pins s1 σ H1 x u D I1 r1 q1
end
end MS
end
section
set_option maxRecDepth 100000
set_option maxHeartbeats 4000000
namespace MS
open PySem L2
/-! ### enumerate(tuple) -/
theorem meets_enumerate_newT (l : Addr) (items : Array Value) :
    Meets (Builtin.«enumerate.__new__» ⟨[.type "enumerate", .ref l], []⟩) (fun _ R s => s.heap.IsTuple l items ∧
      R (.ok (.ret (.ref (s.heap.push { cls := .type "tuple_iterator", data := .fields #[.ref l, .int 0 0] }).objs.size)))
        { s with heap := (s.heap.push { cls := .type "tuple_iterator", data := .fields #[.ref l, .int 0 0] }).push { cls := .type "enumerate", data := .fields #[.none, .bool false, .ref s.heap.objs.size, rawInt 0, .none, .none] } }) :=
  .of_wp fun prog w A R s h => by
    obtain ⟨hp, g, d, tk, os⟩ := s; obtain ⟨hl, h⟩ := h
    have hsub := sub_enumerate
    have q1 : ∀ {A' : Around} {E : Value → Shared → Prop} {Q : Value → Shared → Prop}, Q (.ref hp.objs.size) ⟨hp.push { cls := .type "tuple_iterator", data := .fields #[.ref l, .int 0 0] }, g, d, tk, os⟩ → wpAny (model prog w) A' (pyIter (.ref l)) Q E ⟨hp, g, d, tk, os⟩ :=
      fun q => wpAny_pyIter_tuple (s := ⟨hp, g, d, tk, os⟩) hl q
    wp_walk using q1
    refine wpAny_stack_any fun st => wpAny_pure ?_
    split
    · rename_i c _ _ _ _ _
      cases (c == Value.type "enumerate")
      · wp_walk using q1
        exact ⟨_, rfl, h⟩
      · wp_walk using q1
        exact ⟨_, rfl, h⟩
    · wp_walk using q1
      exact ⟨_, rfl, h⟩
theorem call_enumerate_tuple {prog : Program} {w : World} {A : Around} {E : Value → Shared → Prop} {s : Shared} {l : Addr} {items : Array Value} {Q : Value → Shared → Prop} (hL : s.heap.IsTuple l items)
    (h : ∀ h', IsEnum h' (s.heap.objs.size + 1) s.heap.objs.size 0 .none → h'.IsTupleIter s.heap.objs.size l 0 → h'.objs.size = s.heap.objs.size + 2 →
      (∀ b o, s.heap.get? b = some o → h'.get? b = some o) → Q (.ref (s.heap.objs.size + 1)) { s with heap := h' }) :
    wpAny (model prog w) A (call (.type "enumerate") [.ref l]) Q E s := by
  refine callType_new F.called_enumerate (by decide) (F.typeCall_enumerate_1 _) (F.newCall_enumerate_1 _) (fun obj => F.args_object_init_2 obj _) F.entry_enumerate_new
    (meets_enumerate_newT l items) ⟨hL, ?_⟩
  have hz : (s.heap.push { cls := .type "tuple_iterator", data := .fields #[.ref l, .int 0 0] }).objs.size = s.heap.objs.size + 1 := Heap.size_push ..
  show _ ∧ _
  rw [hz]
  have he : IsEnum ((s.heap.push { cls := .type "tuple_iterator", data := .fields #[.ref l, .int 0 0] }).push
      { cls := .type "enumerate", data := .fields #[.none, .bool false, .ref s.heap.objs.size, rawInt 0, .none, .none] }) (s.heap.objs.size + 1) s.heap.objs.size 0 .none := by
    have := Heap.get?_push_size (s.heap.push { cls := .type "tuple_iterator", data := .fields #[.ref l, .int 0 0] })
      (o := { cls := .type "enumerate", data := .fields #[.none, .bool false, .ref s.heap.objs.size, rawInt 0, .none, .none] }) rfl
    rw [hz] at this; exact this
  refine ⟨⟨_, he, rfl⟩, h _ he ⟨_, Heap.get?_push_of_some _ (Heap.get?_push_size _ rfl), rfl, rfl⟩ (by rw [Heap.size_push, hz]) fun b o x => Heap.get?_push_of_some _ (Heap.get?_push_of_some _ x)⟩
/-- the tuple at a as it stands at each turn, each item in a new pair -/
def IteT (K : PySem.W.Frag) (a : Addr) : It :=
  ⟨fun i H => ∃ (xs : List V) (x : V), SqT K H a xs ∧ xs[i]? = some x, fun i H v H' => ∃ T x, v = .ref T ∧ H T = none ∧ H' = upd H T (.tup [.int (i : Nat), x]) ∧ ∀ xs, SqT K H a xs → xs[i]? = some x, fun i H => ∃ xs : List V, SqT K H a xs ∧ xs.length ≤ i⟩
theorem walk_enumT {K : PySem.W.Frag} {a : Addr} {xs : List V} : Walk (IteT K a) xs.length (fun H => SqT K H a xs) (YPair (fun i => some (.int (i : Nat))) (fun i => xs[i]?)) := by
  refine ⟨fun i _ hi q => ⟨xs, xs[i], q, by simp [hi]⟩, fun _ q => ⟨xs, q, Nat.le_refl _⟩, fun i H v H' _ q y => ?_⟩
  obtain ⟨T, x, h1, h2, h3, h4⟩ := y
  exact ⟨T, .int (i : Nat), x, h1, h2, h3, rfl, h4 xs q⟩
theorem turn_enumT {P : Program} {w : World} {K : PySem.W.Frag} {elts : List Expr} {kk : Nat} {tpos : Pos} (a e it : Addr) :
    Turn P w K (.Tuple elts kk tpos) (IteT K a) [e, it] e (fun i h => (∃ old, IsEnum h e it ((i : Nat) : Int) old) ∧ h.IsTupleIter it a i ∧ e ≠ it ∧ e ≠ a ∧ a ≠ it) where
  mem := by simp
  obj := fun i h st b hb => by
    obtain ⟨⟨old, he⟩, ⟨o, ho, hc, hd⟩, _⟩ := st
    have e' : b = e ∨ b = it := by simpa using hb
    rcases e' with z | z
    · rw [z]; exact ⟨_, he, fun v q => nomatch q⟩
    · rw [z]; exact ⟨o, ho, fun v q => by rw [hd] at q; cases q⟩
  keep := fun i h h' st k => let ⟨⟨old, he⟩, hi, hne⟩ := st; ⟨⟨old, k e (by simp) _ he⟩, hi.at fun o q => k it (by simp) o q, hne⟩
  item := by
    intro X hP hw hK hc i pins s σ H E I hf st hg
    subst hP hw hK
    obtain ⟨⟨old, he⟩, hit, hne, hea, hai⟩ := st
    obtain ⟨xs, x, hq, hx⟩ := hg
    obtain ⟨its, rv, p, hz⟩ := I.tuple hq
    obtain ⟨u, hu, ru⟩ := rv.get hx
    have hel : e < s.heap.objs.size := Heap.lt_size he
    have hil : it < s.heap.objs.size := by obtain ⟨_, q, _⟩ := hit; exact Heap.lt_size q
    have hlt : i < its.toArray.size := by
      have z := (List.getElem?_eq_some_iff.mp hu).1
      rw [List.size_toArray]
      exact z
    refine wpAny_pyNext_enum_itemD (Draws.tuple (A := X.A.in1) (I.ok.hd hc) it a hai its.toArray) he ⟨hit, p⟩ hlt hne (by simp [hne, hea]) fun x' h' tk hx' ho hit' hT hsz hk => ?_
    have eu : x' = u := by
      have z : its.toArray[i]? = some u := by simpa using hu
      exact Option.some.inj (hx'.symm.trans z)
    subst eu
    refine ⟨_, rfl, wpAny_letOwnedTupleGo_enum (s := { s with heap := h', toks := tk + 1 }) ho fun h'' he' sb => ?_⟩
    have hT2 : h''.get? s.heap.objs.size = some { cls := .type "tuple", data := .seq #[.int i tk, x'] } := (sb.2 _ (Nat.ne_of_gt hel)).trans hT
    have new : ObjOk X.prog X.w (upd H s.heap.objs.size (.tup [.int (i : Nat), x])) h'' s.heap.objs.size (.tup [.int (i : Nat), x]) :=
      ⟨by show 2 ≤ sizeLine; decide, [.int i tk, x'], .cons ⟨_, rfl⟩ (.cons ru .nil), ⟨_, hT2, rfl, _, rfl⟩⟩
    have I1 : Inv X pins σ (upd H s.heap.objs.size (.tup [.int (i : Nat), x])) { s with heap := h'', toks := tk + 1 } :=
      I.turnedNew (ch := [e, it]) (fun b ob hb q => (sb.2 b (fun z => hb (by simp [z]))).trans (hk b ob (fun z => hb (by simp [z])) (fun z => hb (by simp [z])) q)) hf (Nat.le_refl _) new
    refine ⟨.ref s.heap.objs.size, _, I1, rfl, ⟨_, x, rfl, I.hok.fresh (Nat.le_refl _), rfl, fun ys hy => by rw [I.tuple_inj hy hq]; exact hx⟩, ⟨⟨x', ?_⟩, hit'.1.at fun o q => (sb.2 it (Ne.symm hne)).trans q, hne, hea, hai⟩, fun b hb => ?_⟩
    · have e1 : ((i + 1 : Nat) : Int) = (i : Int) + 1 := by omega
      rw [e1]; exact he'
    · have hb' : b < s.heap.objs.size := by
        have e' : b = e ∨ b = it := by simpa using hb
        rcases e' with z | z
        · rw [z]; exact hel
        · rw [z]; exact hil
      rw [upd_ne (Nat.ne_of_lt hb')]
      exact (hf b hb).1
  done := by
    intro X hP hw hK hc i pins s σ H E I hf st hg
    subst hP hw hK
    obtain ⟨⟨old, he⟩, hit, hne, hea, hai⟩ := st
    obtain ⟨xs, hq, hx⟩ := hg
    obtain ⟨its, rv, p, hz⟩ := I.tuple hq
    obtain ⟨f0, f1, f2, f3, f4, f5⟩ := hf it (by simp)
    have hl := rv.length
    have hT : s.TypeIs (.ref e) "enumerate" := ⟨_, he, rfl⟩
    unfold pyNext
    refine wpAny_bind (wpAny_attempt (wpAny_callSpecial?_slot (name := Str.ofString "__next__") hT F.slot_enumerate_next
      (wpAny_call_entry F.slot_enumerate_next hT F.entry_enumerate_next ?_ (F.args_enumerate_next_1 _))))
    show wpAny _ _ (field (.ref e) 2 >>= _) _ _ _
    refine wpAny_bind (wpAny_field he rfl (x := .ref it) rfl ?_)
    refine wpAny_bind (wpAny_nextOf_tuple_end (A := X.A.in1) (I.ok.hd hc) hit (show s.heap.IsTuple a its.toArray from p) (by simp; omega) fun h' x he' hx' => ?_)
    obtain ⟨o, ho, hc'⟩ := hx'
    refine wpAny_bind (wpAny_isInstance (T := "StopIteration") (b := true) ⟨o, ho, hc'⟩ isSubtype_stop ?_)
    exact wpAny_pure ⟨rfl, I.turned (t' := s.toks) (fun b o hb q => he' b o hb q) f0 f1 f3 f4 f5⟩
  self := fun A i s Q E st h => let ⟨⟨_, he⟩, _⟩ := st; wpAny_pyIter_enum he h
def iEnumT (K : PySem.W.Frag) (ta : TA) : TI := fun σ H R => ta σ H fun vs H1 => ∃ a xs, vs = [.ref a] ∧ SqT K H1 a xs ∧ R (IteT K a) H1
theorem pi_enumT {X : Cx} {e : Expr} {ta : TA} {p pos tpos : Pos} {elts : List Expr} {kk : Nat} (hg : Gl X "enumerate") (hm : X.mg "enumerate" = none) (ha : PA X [e] ta) (hs : starEach [e] X.env = [(false, eval e X.env)] := by rfl) :
    PI X (.Tuple elts kk tpos) (.Call (.Name "enumerate" p) [e] [] pos) (iEnumT X.K ta) := by
  refine ⟨fun pins s σ H R I h => ?_⟩
  refine PyProof.Rows.Call_ (ld_blt I hg hm PyProof.Rows.boot_enumerate (PyProof.Rows.callWith_type1 (thn (ha.run pos pins s σ H _ I h) fun us s1 ⟨vs, H1, I1, r1, q1⟩ => ?_) hs rfl))
  obtain ⟨a, xs, ex, hq, q⟩ := q1
  subst ex
  cases r1 with
  | cons r rr =>
    cases rr
    cases r
    obtain ⟨its, rv, p', hz⟩ := I1.tuple hq
    have hal : a < s1.heap.objs.size := p'.lt
    refine call_enumerate_tuple (show s1.heap.IsTuple a its.toArray from p') fun h' he hit hsz hk => wpAny_pyIter_enum he ?_
    have I2 : Inv X pins σ H1 { s1 with heap := h' } := I1.kept (t' := s1.toks) hk
    refine ⟨s1.heap.objs.size + 1, [s1.heap.objs.size + 1, s1.heap.objs.size], _, _, H1, rfl, I2, turn_enumT a (s1.heap.objs.size + 1) s1.heap.objs.size, ⟨⟨.none, he⟩, hit, Nat.succ_ne_self _, Nat.ne_of_gt (Nat.lt_succ_of_lt hal), Nat.ne_of_lt hal⟩, fun b hb => ?_, q⟩
    have e' : b = s1.heap.objs.size + 1 ∨ b = s1.heap.objs.size := by simpa using hb
    have hle : s1.heap.objs.size ≤ b := by
      rcases e' with z | z
      · rw [z]; exact Nat.le_add_right _ _
      · rw [z]; exact Nat.le_refl _
    exact I1.fpOk hle (I1.hok.fresh hle)
end MS
end
section
set_option maxRecDepth 100000
set_option maxHeartbeats 4000000
namespace MS
open PySem L2
/-! ### max(list of objects, key=f), f a def of the text: the first of the greatest -/
def gtB (kf : Nat → Int) : Nat → Nat → Bool := fun i j => decide (kf j < kf i)
def rMaxKey (f : Addr) (sp : Sp) : List V → List V → Hp → VK → Prop := fun vs zs H Q => ∃ (a : Addr) (xs : List V) (kf : Nat → Int), vs = [.ref a] ∧ zs = [.ref f] ∧ H a = some (.lst xs) ∧ (∀ x ∈ xs, ∃ b, x = V.ref b) ∧ 0 < xs.length ∧
  (∀ H' i x, Same H H' → xs[i]? = some x → sp [x] H' (fun v H'' => v = .int (kf i) ∧ Same H' H'') E0) ∧ ∀ x H', Same H H' → xs[argBest (gtB kf) (xs.length - 1)]? = some x → Q x H'
theorem vals_refs_eq : ∀ {xs : List V} {us ws : List Value}, (∀ x ∈ xs, ∃ b, x = V.ref b) → Vals xs us → Vals xs ws → us = ws
  | _, _, _, _, .nil, .nil => rfl
  | _, _, _, h, .cons r t, .cons r' t' => by
    obtain ⟨b, rfl⟩ := h _ List.mem_cons_self
    cases r
    cases r'
    rw [vals_refs_eq (fun x hx => h x (List.mem_cons_of_mem _ hx)) t t']
theorem cr_maxKey {X : Cx} {k : Nat} {f : Addr} {fd : FuncData} {ps : List Str} {sp : Sp} (hc : X.calm = true) (F : FnOk X.prog X.w X.K X.mg X.base CX0 k f fd ps sp) (hr : Room (k + 1) X.A) (hb : Binds X.K fd ps []) : CallRK X (.builtin "max") [Str.ofString "key"] (rMaxKey f sp) := by
  intro pins s σ H vs zs us ws Q I r1 r2 h
  obtain ⟨a, xs, kf, rfl, rfl, ea, hx, hpos, hkey, hQ⟩ := h
  obtain ⟨u, rfl, ru⟩ := vals1 r1
  obtain ⟨u2, rfl, ru2⟩ := vals1 r2
  obtain rfl : u = .ref a := ru
  obtain rfl : u2 = .ref f := ru2
  show wpAny _ _ (call (.builtin "max") [.ref a] [(Str.ofString "key", .ref f)]) _ _ _
  obtain ⟨its, rv, pl, hz⟩ := I.list (SqL.of ea)
  have hlen := rv.length
  refine call_max_walkK (wpAny_pyIter_list pl.isList ?_)
  have hIn : H s.heap.objs.size = none := I.hok.fresh (Nat.le_refl _)
  have I1 : Inv X pins σ H { s with heap := s.heap.push { cls := .type "list_iterator", data := .fields #[.ref a, .int 0 0] } } := I.kept (t' := s.toks) fun b o e => Heap.get?_push_of_some _ e
  have hsz : (s.heap.push { cls := .type "list_iterator", data := .fields #[.ref a, .int 0 0] }).objs.size = s.heap.objs.size + 1 := Heap.size_push ..
  have hal : a < s.heap.objs.size := by
    obtain ⟨o, e, _⟩ := pl.isList
    exact Heap.lt_size e
  have fI : FpOk X pins H s.heap.objs.size := I.fpOk (Nat.le_refl _) hIn
  have fS : FpOk X pins H (s.heap.objs.size + 1) := I.fpOk (Nat.le_succ _) (I.hok.fresh (Nat.le_succ _))
  have hh : X.A.in1.handled = none := I.ok.hd hc
  have W := (Walks.list (prog := X.prog) (w := X.w) (A := X.A.in1) hh s.heap.objs.size a (Nat.ne_of_lt hal) its.toArray).toS
  have look : ∀ {H' : Hp} {s' : Shared}, Inv X pins σ H' s' → Same H H' → s'.heap.IsList a its.toArray := fun {H' s'} I' sm => by
    obtain ⟨its', rv', pl', _⟩ := I'.list (SqL.of (sm _ _ ea))
    rw [vals_refs_eq hx rv rv']
    exact pl'.isList
  refine ⟨s.heap.objs.size, _, _, _, _, _, _, (fun s' => ∃ H', Same H H' ∧ Inv X pins σ H' s' ∧ (∀ b ∈ [s.heap.objs.size + 1, s.heap.objs.size], H' b = none)), (fun i v _ => ∃ t, v = .int (kf i) t), gtB kf, rfl, W, ⟨⟨_, Heap.get?_push_size _ rfl, rfl, rfl⟩, look I1 (Same.refl _)⟩, ?_, by rw [List.size_toArray, ← hlen]; exact hpos, ?_, ⟨H, Same.refl _, I1, ?_⟩, ?_⟩
  · intro b hb
    have e' : b = s.heap.objs.size ∨ b = a := by simpa using hb
    have e2 : b < s.heap.objs.size + 1 := by
      rcases e' with e' | e'
      · rw [e']; exact Nat.lt_succ_self _
      · rw [e']; exact Nat.lt_succ_of_lt hal
    rw [← hsz] at e2
    exact e2
  · rw [hsz]
    refine ⟨fun s1 s2 ⟨H', sm, I', fr⟩ mv => ?_, fun i v s1 s2 h _ => h, fun i v s1 o Q' E' hi hv ⟨H', sm, I', fr⟩ hst hS hQ' => ?_, fun i j ki kj s1 Q' E' _ hki hkj q => ?_⟩
    · rw [Moved.eq_with mv]
      refine ⟨H', sm, I'.turnedL (ch := [s.heap.objs.size + 1, s.heap.objs.size]) (fun b o hb e => mv.heap b o (by simpa using hb) e) (fun b hb => ?_), fr⟩
      have e' : b = s.heap.objs.size + 1 ∨ b = s.heap.objs.size := by simpa using hb
      rcases e' with e' | e'
      · subst e'; exact ⟨fr _ (by simp), fS.2⟩
      · subst e'; exact ⟨fr _ (by simp), fI.2⟩
    · obtain ⟨x, ex, rx⟩ : ∃ x, xs[i]? = some x ∧ RelV x v := by
        have hv' : its[i]? = some v := by simpa using hv
        have hil := (List.getElem?_eq_some_iff.mp hv').1
        have hix : i < xs.length := by omega
        obtain ⟨u, hu, ru⟩ := rv.get (i := i) (x := xs[i]) (by simp [hix])
        rw [hv'] at hu
        cases hu
        exact ⟨_, by simp [hix], ru⟩
      have r' : Vals [x] [v] := .cons rx .nil
      have hsp := hkey H' i x sm ex
      have hl : ([v] : List Value).length = ps.length := by rw [← F.len _ _ _ _ hsp]; rfl
      refine wpAny_call (codeAny_mono (F.run X.A.in1 X.stack s1 H' ⟨[v], []⟩ [v] [x] _ E0 hr.in1 I'.env0.in1 (by have z := hb s1 [v] I'.kIn (by simpa using hl); simpa using z) r' hsp) fun r s2 hq => ?_)
      cases r with
      | error e => exact False.elim hq
      | ok fl =>
        cases fl with
        | next => exact False.elim hq
        | brk => exact False.elim hq
        | cont => exact False.elim hq
        | ret u =>
          have hq' : CE X.stack X.prog X.w H' s1 (fun v H'' => v = .int (kf i) ∧ Same H' H'') u s2 := hq
          obtain ⟨w', H'', os, bare, un, hok, rw', ev, sm2⟩ := hq'
          subst ev
          obtain ⟨t, rfl⟩ := rw'
          have I'' : Inv X pins σ H'' s2 := by
            obtain ⟨hp2, g2, d2, t2, os2⟩ := s2
            obtain rfl : os2 = s1.os := os
            exact I'.call (h' := hp2) (g' := g2) (d' := d2) (t' := t2) (ch := []) un hok bare (fun b z => absurd z (by simp))
          have nst : ∀ b, FpOk X pins H b → b ∉ frs X.stack := fun b fb hm => by
            rcases List.mem_cons.mp (I'.stkSub b hm) with e | e
            · exact fb.2.1 e
            · exact fb.2.2.1 e
          obtain ⟨⟨oI, hoI, hoc, hod⟩, _⟩ := hst
          have kI := un.keep _ oI hoI (fr _ (by simp)) (nst _ fI) (by simp)
          have kS := un.keep _ o hS (fr _ (by simp)) (nst _ fS) (by simp)
          have fI2 := un.free _ oI hoI (fr _ (by simp)) (by simp)
          have fS2 := un.free _ o hS (fr _ (by simp)) (by simp)
          refine hQ' _ s2 ⟨H'', sm.trans sm2, I'', fun b hb => ?_⟩ ⟨⟨oI, kI, hoc, hod⟩, look I'' (sm.trans sm2)⟩ kS ⟨t, rfl⟩ (fun j k' h => h)
          have e' : b = s.heap.objs.size + 1 ∨ b = s.heap.objs.size := by simpa using hb
          rcases e' with e' | e'
          · subst e'; exact fS2
          · subst e'; exact fI2
    · obtain ⟨ti, rfl⟩ := hki
      obtain ⟨tj, rfl⟩ := hkj
      exact CmpOf.ints_gt (prog := X.prog) (w := X.w) (A := X.A.in1) (P := fun i v => ∃ t, v = .int (kf i) t) kf (fun i v h => h) i j _ _ _ _ _ ⟨ti, rfl⟩ ⟨tj, rfl⟩ q
  · intro b hb
    have e' : b = s.heap.objs.size + 1 ∨ b = s.heap.objs.size := by simpa using hb
    rcases e' with e' | e'
    · subst e'; exact fS.1
    · subst e'; exact hIn
  · rintro v s' hv ⟨H', sm, I', _⟩
    have hv' : its[argBest (gtB kf) (its.length - 1)]? = some v := by simpa using hv
    have hil := (List.getElem?_eq_some_iff.mp hv').1
    rw [← hlen] at hil hv'
    obtain ⟨u, hu, ru⟩ := rv.get (i := argBest (gtB kf) (xs.length - 1)) (x := xs[argBest (gtB kf) (xs.length - 1)]'hil) (by simp [hil])
    rw [hv'] at hu
    cases hu
    exact ⟨_, H', I', ru, hQ _ H' sm (by simp [hil])⟩
end MS
end
section
set_option maxRecDepth 100000
set_option maxHeartbeats 4000000
namespace MS
open PySem L2
/-! ### the view: what a scheme looks at -/
def waysV (c : Bool) : List V := if c then [.str "r", .str "c"] else [.str "r"]
theorem ways_in {c : Bool} {m : Str} (h : IsM m) : inV (.str m) (waysV c) = (m == "r" || (c && m == "c")) := by
  have h' : m ∈ marksL := h
  have q : ∀ c : Bool, ∀ y ∈ marksL, inV (.str y) (waysV c) = (y == "r" || (c && y == "c")) := by decide +kernel
  exact q c m h'
theorem ways_flat (c : Bool) : (waysV c).all flatV = true := by cases c <;> rfl
theorem n_sw : ¬ (("steps" : Str) = "ways") := by decide +kernel
theorem n_ss : ¬ (("steps" : Str) = "start") := by decide +kernel
theorem n_tw : ¬ (("start" : Str) = "ways") := by decide +kernel
def vf (wa : Addr) (st : Nat) (wp : Addr) : List (Str × V) := putF "ways" (.ref wp) (putF "start" (.int ((st : Nat) : Int)) (putF "steps" (.ref wa) []))
theorem vf_steps (wa : Addr) (st : Nat) (wp : Addr) : (vf wa st wp).lookup ("steps" : Str) = some (.ref wa) := by
  unfold vf
  rw [lookup_putF, if_neg n_sw, lookup_putF, if_neg n_ss, lookup_putF, if_pos rfl]
theorem vf_start (wa : Addr) (st : Nat) (wp : Addr) : (vf wa st wp).lookup ("start" : Str) = some (.int ((st : Nat) : Int)) := by
  unfold vf
  rw [lookup_putF, if_neg n_tw, lookup_putF, if_pos rfl]
theorem vf_ways (wa : Addr) (st : Nat) (wp : Addr) : (vf wa st wp).lookup ("ways" : Str) = some (.ref wp) := by
  unfold vf
  rw [lookup_putF, if_pos rfl]
theorem vf_no (wa : Addr) (st : Nat) (wp : Addr) {m : Str} (h1 : ¬ m = "ways") (h2 : ¬ m = "start") (h3 : ¬ m = "steps") : (vf wa st wp).lookup m = none := by
  unfold vf
  rw [lookup_putF, if_neg h1, lookup_putF, if_neg h2, lookup_putF, if_neg h3]
  all_goals rfl
theorem vf_counts (wa : Addr) (st : Nat) (wp : Addr) : (vf wa st wp).lookup ("counts" : Str) = none := vf_no wa st wp (by decide +kernel) (by decide +kernel) (by decide +kernel)
theorem vf_first (wa : Addr) (st : Nat) (wp : Addr) : (vf wa st wp).lookup ("first" : Str) = none := vf_no wa st wp (by decide +kernel) (by decide +kernel) (by decide +kernel)
theorem vf_last (wa : Addr) (st : Nat) (wp : Addr) : (vf wa st wp).lookup ("last" : Str) = none := vf_no wa st wp (by decide +kernel) (by decide +kernel) (by decide +kernel)
theorem vf_stands (wa : Addr) (st : Nat) (wp : Addr) : (vf wa st wp).lookup ("stands" : Str) = none := vf_no wa st wp (by decide +kernel) (by decide +kernel) (by decide +kernel)
theorem vf_behind (wa : Addr) (st : Nat) (wp : Addr) : (vf wa st wp).lookup ("behind" : Str) = none := vf_no wa st wp (by decide +kernel) (by decide +kernel) (by decide +kernel)
theorem vf_carrying (wa : Addr) (st : Nat) (wp : Addr) : (vf wa st wp).lookup ("carrying" : Str) = none := vf_no wa st wp (by decide +kernel) (by decide +kernel) (by decide +kernel)
/-- a view stands in the heap -/
def ViewAt (C : Addr) (H : Hp) (v : Addr) (ws : List StepT) (st : Nat) (c : Bool) : Prop := ∃ dx wa wp, H v = some (.ins C dx (vf wa st wp)) ∧ H wa = some (.lst (stepsV ws)) ∧ H wp = some (.tup (waysV c))
theorem ViewAt.keep {C : Addr} {H H' : Hp} {v : Addr} {ws : List StepT} {st : Nat} {c : Bool} (h : ViewAt C H v ws st c) (k : Same H H') : ViewAt C H' v ws st c := by
  obtain ⟨dx, wa, wp, h1, h2, h3⟩ := h
  exact ⟨dx, wa, wp, k _ _ h1, k _ _ h2, k _ _ h3⟩
/-- a method of the text -/
structure DefM (K : PySem.W.Frag) (C : Addr) (m q : Str) (st : Stmt) (ps : List Str) where
  f : Addr
  fd : FuncData
  F : FunD K m q (defArgs st) (defBody st) (defScope st) [] [] f fd
  me : Meth K C m f
  b : Binds K fd ps []
theorem DefM.ok {P : Program} {w : World} {K : PySem.W.Frag} {mg : Str → Option Value} {base : Heap} {C : Addr} {m x : Str} {st : Stmt} {ps N : List Str} {k : Nat} {sp : Sp} (D : DefM K C m x st ps) (S : FnScope N ps (defScope st)) (len : ∀ vs H Q E, sp vs H Q E → vs.length = ps.length)
    (hbody : ∀ (cdv : Value) (A : Around) (outer : List Env) (s : Shared) (H : Hp) (vs : List V) (Q : VK) (E : XK), Room k (A.deeper (PyProof.Rows.envOfC x (defScope st) s.heap.objs.size D.f cdv)) → sp vs H Q E →
      ∃ t, PSs (cxOf CX0 P w K mg base N x (defScope st) D.f cdv A outer s H E).nox (defBody st) t ∧ t { nx := fun _ H' => Q .non H', rt := Q } (start N vs) H) : FnOk P w K mg base CX0 (k + 1) D.f D.fd ps sp :=
  D.F.ok S len fun cdv A outer s H vs Q E hr hsp => by
    obtain ⟨t, h, q⟩ := hbody cdv A outer s H vs Q E hr hsp
    exact ⟨t, h.nox, q⟩
/-- what the text says of the class -/
structure VCls (K : PySem.W.Frag) (mg : Str → Option Value) (C : Addr) where
  cl : Cls K C
  nSteps : NoAttr K C "steps"
  nStart : NoAttr K C "start"
  nWays : NoAttr K C "ways"
  mgC : mg "View" = some (.ref C)
  makes : PySem.W.makesIn K C = true
  kp : PySem.W.keepIn K (.ref C) = true
  DI : DefM K C "__init__" "View.__init__" s_View_init ["self", "steps", "start", "ways"]
  DC : DefM K C "counts" "View.counts" s_View_counts ["self", "place", "word"]
  DF : DefM K C "first" "View.first" s_View_first ["self", "word"]
  DL : DefM K C "last" "View.last" s_View_last ["self", "word"]
  DS : DefM K C "stands" "View.stands" s_View_stands ["self", "word"]
  DB : DefM K C "behind" "View.behind" s_View_behind ["self", "place"]
  DY : DefM K C "carrying" "View.carrying" s_View_carrying ["self"]
theorem VCls.mk' {K : PySem.W.Frag} {mg : Str → Option Value} {C : Addr} (V : VCls K mg C) : Mk K C V.DI.f := ⟨V.makes, V.DI.me.at_, V.DI.me.fn, V.kp⟩
def spVInit (C : Addr) : Sp := fun vs H Q _ => ∃ (p dx wa wp : Addr) (st : Nat), vs = [.ref p, .ref wa, .int ((st : Nat) : Int), .ref wp] ∧ H p = some (.ins C dx []) ∧ ∀ H' : Hp, H' p = some (.ins C dx (vf wa st wp)) → (∀ b, b ≠ p → H' b = H b) → Q .non H'
def spCounts (C : Addr) : Sp := fun vs H Q _ => ∃ (v : Addr) (i : Nat) (x : Str) (ws : List StepT) (st : Nat) (c : Bool) (p : StepT), vs = [.ref v, .int ((i : Nat) : Int), .str x] ∧ ViewAt C H v ws st c ∧ ws[i]? = some p ∧ IsStep p ∧ Q (.bl (okAt c x p)) H
def natO (o : Option Nat) : V := match o with
  | some i => V.int ((i : Nat) : Int)
  | none => V.non
def spVFirst (C : Addr) : Sp := fun vs H Q _ => ∃ (v : Addr) (x : Str) (ws : List StepT) (st : Nat) (c : Bool), vs = [.ref v, .str x] ∧ ViewAt C H v ws st c ∧ (∀ p ∈ ws, IsStep p) ∧ ws.length ≤ 4000 ∧ st ≤ 4000 ∧ Q (natO (hits ws c x st).head?) H
def spVLast (C : Addr) : Sp := fun vs H Q _ => ∃ (v : Addr) (x : Str) (ws : List StepT) (st : Nat) (c : Bool), vs = [.ref v, .str x] ∧ ViewAt C H v ws st c ∧ (∀ p ∈ ws, IsStep p) ∧ ws.length ≤ 4000 ∧ Q (natO (if lastOk ws c x st = true then some (ws.length - 1) else none)) H
def spStands (C : Addr) : Sp := fun vs H Q _ => ∃ (v : Addr) (x : Str) (ws : List StepT) (st : Nat) (c : Bool), vs = [.ref v, .str x] ∧ ViewAt C H v ws st c ∧ (∀ p ∈ ws, IsStep p) ∧ ws.length ≤ 4000 ∧ ∀ H', Same H H' → Q (.bl (ws.any fun p => p.1 == x)) H'
def spVBehind (C : Addr) : Sp := fun vs H Q _ => ∃ (v : Addr) (i : Nat) (ws : List StepT) (st : Nat) (c : Bool), vs = [.ref v, .int ((i : Nat) : Int)] ∧ ViewAt C H v ws st c ∧ ∀ (u : Addr) (H' : Hp), Same H H' → ViewAt C H' u ws (i + 1) c → Q (.ref u) H'
def spCarrying (C : Addr) : Sp := fun vs H Q _ => ∃ (v : Addr) (ws : List StepT) (st : Nat) (c : Bool), vs = [.ref v] ∧ ViewAt C H v ws st c ∧ ∀ (u : Addr) (H' : Hp), Same H H' → ViewAt C H' u ws st true → Q (.ref u) H'
theorem hits_cons {ws : List StepT} {c : Bool} {x : Str} {i : Nat} {p : StepT} (h : ws[i]? = some p) : hits ws c x i = if okAt c x p = true then i :: hits ws c x (i + 1) else hits ws c x (i + 1) := by
  have hi := (List.getElem?_eq_some_iff.mp h).1
  unfold hits
  rw [show ws.length - i = (ws.length - (i + 1)) + 1 by omega, List.range'_succ, List.filter_cons]
  simp only [h]
theorem hits_end {ws : List StepT} {c : Bool} {x : Str} {i : Nat} (h : ws.length ≤ i) : hits ws c x i = [] := by
  unfold hits
  rw [show ws.length - i = 0 by omega]
  rfl
section
variable {P : Program} {w : World} {K : PySem.W.Frag} {mg : Str → Option Value} {base : Heap} {C : Addr}
theorem ok_vinit (Y : VCls K mg C) : FnOk P w K mg base CX0 1 Y.DI.f Y.DI.fd ["self", "steps", "start", "ways"] (spVInit C) := by
  refine Y.DI.ok sc_View_init (fun vs H Q E h => ?_) (fun cdv A outer s H vs Q E hr h => ?_)
  · obtain ⟨p, dx, wa, wp, st, rfl, _⟩ := h
    rfl
  obtain ⟨p, dx, wa, wp, st, rfl, hp, q⟩ := h
  refine ⟨_, pss_cons (ps_fld (pv 0) (pv 1) rfl) (pss_cons (ps_fld (pv 0) (pv 2) rfl) (pss_one (ps_fld (pv 0) (pv 3) rfl))), ?_⟩
  refine ⟨_, rfl, _, rfl, p, C, dx, _, rfl, hp, Y.cl, Y.nSteps, (by show 0 < 1000; decide), ?_⟩
  refine ⟨_, rfl, _, rfl, p, C, dx, _, rfl, upd_same, Y.cl, Y.nStart, (by show 1 < 1000; decide), ?_⟩
  refine ⟨_, rfl, _, rfl, p, C, dx, _, rfl, upd_same, Y.cl, Y.nWays, Nat.lt_of_le_of_lt (length_putF _ _ _) (by show 1 + 1 < 1000; decide), ?_⟩
  exact q _ upd_same fun b hb => by rw [upd_ne hb, upd_ne hb, upd_ne hb]
theorem ok_counts (Y : VCls K mg C) : FnOk P w K mg base CX0 1 Y.DC.f Y.DC.fd ["self", "place", "word"] (spCounts C) := by
  have nd := sc_View_counts.nd
  refine Y.DC.ok sc_View_counts (fun vs H Q E h => ?_) (fun cdv A outer s H vs Q E hr h => ?_)
  · obtain ⟨v, i, x, ws, st, c, p, rfl, _⟩ := h
    rfl
  obtain ⟨v, i, x, ws, st, c, p, rfl, ⟨dx, wa, wp, hv, ewa, ewp⟩, hi, hp, q⟩ := h
  refine ⟨_, pss_cons (ps_set (i := 3) nd rfl (Or.inl rfl) (pe_ix ix_list (pe_fld (pv 0) rfl) (pv 1) (fun _ _ => rfl)))
    (pss_one (ps_ret (pe_and (pe_cmpR op_eq (pe_ix ix_str (pv 3) pe_int (fun _ _ => rfl)) (pv 2) (nomark _)) (pe_one (pe_cmpR op_in_seq (pe_ix ix_str (pv 3) pe_int (fun _ _ => rfl)) (pe_fld (pv 0) rfl) (by rfl)))))), ?_⟩
  obtain ⟨c0, e0, x0⟩ := hp.at0
  obtain ⟨c1, e1, x1⟩ := hp.at1
  have eit : (stepsV ws)[i]? = some (V.str (stepS p)) := by
    unfold stepsV
    rw [List.getElem?_map, hi]
    rfl
  refine ⟨_, rfl, v, C, dx, _, _, rfl, hv, Y.cl, Y.nSteps, vf_steps _ _ _, _, rfl, wa, _, _, _, rfl, rfl, SqL.of ewa, atI_nat eit, ?_⟩
  dsimp only [gName]
  refine ⟨_, rfl, _, 0, c0, rfl, rfl, str_len2 hp.len, e0, ?_⟩
  rw [x0]
  refine ⟨_, rfl, rfl, _, rfl, ?_⟩
  rw [dec_str]
  unfold okAt at q
  cases e : p.1 == x with
  | false =>
    rw [e, Bool.false_and] at q
    exact iteF q
  | true =>
    rw [e, Bool.true_and] at q
    refine iteT ⟨_, rfl, _, 1, c1, rfl, rfl, str_len2 hp.len, e1, ?_⟩
    rw [x1]
    refine ⟨_, rfl, v, C, dx, _, _, rfl, hv, Y.cl, Y.nWays, vf_ways _ _ _, wp, _, rfl, .inr (SqT.of ewp), rfl, ways_flat c, ?_⟩
    show Q (.bl (inV (.str p.2) (waysV c))) H
    rw [ways_in hp.2]
    exact q
theorem ok_vfirst (T : PTx w K mg) (Y : VCls K mg C) : FnOk P w K mg base CX0 2 Y.DF.f Y.DF.fd ["self", "word"] (spVFirst C) := by
  have GC : FnOk P w K mg base CX0 1 Y.DC.f Y.DC.fd ["self", "place", "word"] (spCounts C) := ok_counts Y
  have nd := sc_View_first.nd
  refine Y.DF.ok sc_View_first (fun vs H Q E h => ?_) (fun cdv A outer s H vs Q E hr h => ?_)
  · obtain ⟨v, x, ws, st, c, rfl, _⟩ := h
    rfl
  obtain ⟨v, x, ws, st, c, rfl, hva, hw, hl, hst, q⟩ := h
  obtain ⟨dx, wa, wp, hv, ewa, ewp⟩ := id hva
  refine ⟨_, pss_cons (ps_for PassesOwn.never rfl (pi_range2 rfl (T.free "range" (by decide +kernel)) (pa_cons (pe_fld (pv 0) rfl) (pa_cons (pe_callB call_len_seq rfl (T.free "len" (by decide +kernel)) PySem.boot_len (pa_cons (pe_fld (pv 0) rfl) pa_nil)) pa_nil))) (pg_name (i := 2) nd rfl (Or.inl rfl))
      (pss_one (ps_if (pt_val (pe_meth (pv 0) Y.cl Y.DC.me GC hr Y.DC.b .nil pass0 (pa_cons (pv 2) (pa_cons (pv 1) pa_nil)))) (pss_one (ps_ret (pv 2))) pss_nil)))
    (pss_one (ps_ret pe_non)), ?_⟩
  have lws : (stepsV ws).length = ws.length := List.length_map _
  have en : (((stepsV ws).length : Int) - ((st : Nat) : Int)).toNat = ws.length - st := by rw [lws]; omega
  refine ⟨_, rfl, v, C, dx, _, _, rfl, hv, Y.cl, Y.nStart, vf_start _ _ _, _, rfl, v, C, dx, _, _, rfl, hv, Y.cl, Y.nSteps, vf_steps _ _ _, wa, _, rfl, .inl (SqL.of ewa), _, _, rfl, ⟨by omega, by omega, by omega, by omega⟩, ?_⟩
  refine for_range (lo := ((st : Nat) : Int)) (n := (((stepsV ws).length : Int) - ((st : Nat) : Int)).toNat) (fun i σ H' => ∃ v2 : Option V, σ = [some (.ref v), some (.str x), v2] ∧ H' = H ∧ hits ws c x st = hits ws c x (st + i)) ⟨none, rfl, rfl, rfl⟩ ?_ ?_
  · rintro i σ H' hi ⟨v2, rfl, rfl, eh⟩
    rw [en] at hi
    have hil : st + i < ws.length := by omega
    have ei : ws[st + i]? = some (ws[st + i]'hil) := List.getElem?_eq_getElem hil
    rw [hits_cons ei] at eh
    have ez : ((st : Nat) : Int) + ((i : Nat) : Int) = ((st + i : Nat) : Int) := by omega
    dsimp only [gName]
    rw [ez]
    refine ⟨_, rfl, v, dx, _, rfl, hv, vf_counts _ _ _, _, rfl, _, rfl, v, st + i, x, ws, st, c, _, rfl, hva, ei, hw _ (List.getElem_mem hil), _, rfl, ?_⟩
    cases e : okAt c x (ws[st + i]'hil) with
    | true =>
      rw [if_pos e] at eh
      rw [eh] at q
      exact iteT ⟨_, rfl, q⟩
    | false =>
      rw [if_neg (by rw [e]; decide)] at eh
      exact iteF ⟨_, rfl, rfl, eh⟩
  · rintro σ H' ⟨v2, rfl, rfl, eh⟩
    rw [en] at eh
    rw [eh, hits_end (show ws.length ≤ st + (ws.length - st) by omega)] at q
    exact q
theorem ok_vlast (T : PTx w K mg) (Y : VCls K mg C) : FnOk P w K mg base CX0 2 Y.DL.f Y.DL.fd ["self", "word"] (spVLast C) := by
  have GC : FnOk P w K mg base CX0 1 Y.DC.f Y.DC.fd ["self", "place", "word"] (spCounts C) := ok_counts Y
  have nd := sc_View_last.nd
  refine Y.DL.ok sc_View_last (fun vs H Q E h => ?_) (fun cdv A outer s H vs Q E hr h => ?_)
  · obtain ⟨v, x, ws, st, c, rfl, _⟩ := h
    rfl
  obtain ⟨v, x, ws, st, c, rfl, hva, hw, hl, q⟩ := h
  obtain ⟨dx, wa, wp, hv, ewa, ewp⟩ := id hva
  refine ⟨_, pss_cons (ps_set (i := 2) nd rfl (Or.inl rfl) (pe_op op_sub (pe_callB call_len_seq rfl (T.free "len" (by decide +kernel)) PySem.boot_len (pa_cons (pe_fld (pv 0) rfl) pa_nil)) pe_int))
    (pss_one (ps_ret (pe_ifExp (PW.pt (pw_and (pt_cmpR op_ge (pv 2) (pe_fld (pv 0) rfl) (nomark _)) (pw_and1 (pt_val (pe_meth (pv 0) Y.cl Y.DC.me GC hr Y.DC.b .nil pass0 (pa_cons (pv 2) (pa_cons (pv 1) pa_nil))))))) (pv 2) pe_non))), ?_⟩
  have lws : (stepsV ws).length = ws.length := List.length_map _
  refine ⟨_, rfl, v, C, dx, _, _, rfl, hv, Y.cl, Y.nSteps, vf_steps _ _ _, wa, _, rfl, .inl (SqL.of ewa), _, _, rfl, rfl, ?_⟩
  dsimp only [gName]
  refine ⟨_, rfl, _, rfl, v, C, dx, _, _, rfl, hv, Y.cl, Y.nStart, vf_start _ _ _, _, _, rfl, rfl, _, rfl, ?_⟩
  rw [lws]
  by_cases hlt : st < ws.length
  · rw [decide_eq_true (show ((st : Nat) : Int) ≤ ((ws.length : Nat) : Int) - 1 by omega)]
    have hil : ws.length - 1 < ws.length := by omega
    have ei : ws[ws.length - 1]? = some (ws[ws.length - 1]'hil) := List.getElem?_eq_getElem hil
    have ez : ((ws.length : Nat) : Int) - 1 = ((ws.length - 1 : Nat) : Int) := by omega
    rw [ez]
    have elo : lastOk ws c x st = okAt c x (ws[ws.length - 1]'hil) := by
      unfold lastOk
      rw [decide_eq_true hlt, Bool.true_and, last_get (by omega)]
    rw [elo] at q
    refine iteT ⟨_, rfl, v, dx, _, rfl, hv, vf_counts _ _ _, _, rfl, _, rfl, v, ws.length - 1, x, ws, st, c, _, rfl, hva, ei, hw _ (List.getElem_mem hil), _, rfl, ?_⟩
    cases e : okAt c x (ws[ws.length - 1]'hil) with
    | true =>
      rw [if_pos e] at q
      exact iteT ⟨_, rfl, q⟩
    | false =>
      rw [if_neg (by rw [e]; decide)] at q
      exact iteF q
  · rw [decide_eq_false (show ¬ ((st : Nat) : Int) ≤ ((ws.length : Nat) : Int) - 1 by omega)]
    have elo : lastOk ws c x st = false := by
      unfold lastOk
      rw [decide_eq_false hlt, Bool.false_and]
    rw [elo] at q
    exact iteF (iteF q)
theorem ok_stands (T : PTx w K mg) (Y : VCls K mg C) : FnOk P w K mg base CX0 1 Y.DS.f Y.DS.fd ["self", "word"] (spStands C) := by
  have nd := sc_View_stands.nd
  refine Y.DS.ok sc_View_stands (fun vs H Q E h => ?_) (fun cdv A outer s H vs Q E hr h => ?_)
  · obtain ⟨v, x, ws, st, c, rfl, _⟩ := h
    rfl
  obtain ⟨v, x, ws, st, c, rfl, hva, hw, hl, q⟩ := h
  obtain ⟨dx, wa, wp, hv, ewa, ewp⟩ := id hva
  refine ⟨_, pss_one (ps_ret (pe_callB (cr_any rfl) rfl (T.free "any" (by decide +kernel)) (by decide +kernel) (pa_cons
      (pe_lc (own := [("step", 2)]) (g := gName 2) (tt := tYes) rfl nd (pi_list (pe_fld (pv 0) rfl)) (blkOk_by (N := ["self", "word", "step"]) (sc := defScope s_View_stands) (by decide +kernel)) (fun _ _ _ _ _ => pg_name (i := 2) nd rfl (Or.inl rfl)) (fun _ _ _ _ _ => pts_nil)
            (fun _ _ _ _ _ => pe_cmpR op_eq (pe_ix ix_str (pv 2) pe_int (fun _ _ => rfl)) (pv 1) (nomark _))) pa_nil))), ?_⟩
  have lws : (stepsV ws).length = ws.length := List.length_map _
  refine ⟨_, rfl, v, C, dx, _, _, rfl, hv, Y.cl, Y.nSteps, vf_steps _ _ _, wa, rfl, ⟨_, SqL.of ewa⟩, fun D hD => ?_⟩
  have nwD : wa ≠ D := ne_of_none ewa hD
  refine lc_list (K := K) (a := wa) (xs := stepsV ws) (fun j H'' => H'' = upd H D (.lst ((ws.take j).map fun p : StepT => V.bl (p.1 == x)))) rfl (fun j H'' _ e => by rw [e]; exact SqL.of (by rw [upd_ne nwD]; exact ewa)) ?_ ?_
  · rintro j y H'' hj rfl
    have hjl : j < ws.length := by
      have z := (List.getElem?_eq_some_iff.mp hj).1
      rw [lws] at z
      exact z
    have ey : y = V.str (stepS (ws[j]'hjl)) := by
      have z := get_map (fun p => V.str (stepS p)) ws hjl
      exact Option.some.inj (hj.symm.trans z)
    subst ey
    have hs := hw _ (List.getElem_mem hjl)
    obtain ⟨c0, ec, em⟩ := hs.at0
    refine ⟨rfl, _, rfl, _, 0, c0, rfl, rfl, by rw [hs.len]; decide, ec, ?_⟩
    rw [em]
    refine ⟨_, rfl, rfl, _, upd_same, ?_, ?_⟩
    · rw [List.length_map, List.length_take]
      exact small1000 (by omega)
    · rw [upd_upd, List.take_succ_eq_append_getElem hjl, List.map_append, dec_str]
      rfl
  · rintro H'' rfl
    rw [lws, List.take_length]
    refine ⟨D, ws.map fun p : StepT => p.1 == x, rfl, SqL.of (by rw [upd_same, List.map_map]; rfl), ?_⟩
    rw [show (ws.map fun p : StepT => p.1 == x).any id = ws.any fun p => p.1 == x by rw [List.any_map]; rfl]
    exact q _ (Same.new hD)
/-- a view is made -/
theorem view_made {C wa wp x dx : Addr} {H H1 : Hp} {ws : List StepT} {st : Nat} {c : Bool} {Q : VK} (ewa : H wa = some (.lst (stepsV ws))) (ewp : H wp = some (.tup (waysV c))) (hx : H x = none) (hdx : H dx = none) (ne : dx ≠ x) (e1 : H1 = upd (upd H dx (.own x)) x (.ins C dx []))
    (q : ∀ (u : Addr) (H' : Hp), Same H H' → ViewAt C H' u ws st c → Q (.ref u) H') : spVInit C [.ref x, .ref wa, .int ((st : Nat) : Int), .ref wp] H1 (fun v H2 => v = .non ∧ Q (.ref x) H2) E0 := by
  subst e1
  refine ⟨x, dx, wa, wp, st, rfl, upd_same, fun H' h1 h2 => ⟨rfl, ?_⟩⟩
  have sm : Same H H' := fun b o e => by
    have nb : b ≠ x := ne_of_none e hx
    have nd : b ≠ dx := ne_of_none e hdx
    rw [h2 b nb, upd_ne nb, upd_ne nd]
    exact e
  exact q x H' sm ⟨dx, wa, wp, h1, sm _ _ ewa, sm _ _ ewp⟩
theorem ok_vbehind (T : PTx w K mg) (Y : VCls K mg C) : FnOk P w K mg base CX0 3 Y.DB.f Y.DB.fd ["self", "place"] (spVBehind C) := by
  have GI : FnOk P w K mg base CX0 1 Y.DI.f Y.DI.fd ["self", "steps", "start", "ways"] (spVInit C) := ok_vinit Y
  refine Y.DB.ok sc_View_behind (fun vs H Q E h => ?_) (fun cdv A outer s H vs Q E hr h => ?_)
  · obtain ⟨v, i, ws, st, c, rfl, _⟩ := h
    rfl
  obtain ⟨v, i, ws, st, c, rfl, hva, q⟩ := h
  obtain ⟨dx, wa, wp, hv, ewa, ewp⟩ := id hva
  refine ⟨_, pss_one (ps_ret (pe_make Y.mk' GI hr rfl Y.mgC Y.DI.b .nil pass0 (pa_cons (pe_fld (pv 0) rfl) (pa_cons (pe_op op_add (pv 1) pe_int) (pa_cons (pe_fld (pv 0) rfl) pa_nil))))), ?_⟩
  refine ⟨_, rfl, v, C, dx, _, _, rfl, hv, Y.cl, Y.nSteps, vf_steps _ _ _, _, rfl, _, _, rfl, rfl, _, rfl, v, C, dx, _, _, rfl, hv, Y.cl, Y.nWays, vf_ways _ _ _, fun x dx' hx hdx ne => ?_⟩
  exact view_made (st := i + 1) ewa ewp hx hdx ne rfl q
theorem ok_carrying (T : PTx w K mg) (Y : VCls K mg C) : FnOk P w K mg base CX0 3 Y.DY.f Y.DY.fd ["self"] (spCarrying C) := by
  have GI : FnOk P w K mg base CX0 1 Y.DI.f Y.DI.fd ["self", "steps", "start", "ways"] (spVInit C) := ok_vinit Y
  obtain ⟨tr, gr⟩ := T.right
  obtain ⟨tc, gc⟩ := T.carried
  refine Y.DY.ok sc_View_carrying (fun vs H Q E h => ?_) (fun cdv A outer s H vs Q E hr h => ?_)
  · obtain ⟨v, ws, st, c, rfl, _⟩ := h
    rfl
  obtain ⟨v, ws, st, c, rfl, hva, q⟩ := h
  obtain ⟨dx, wa, wp, hv, ewa, ewp⟩ := id hva
  refine ⟨_, pss_one (ps_ret (pe_make Y.mk' GI hr rfl Y.mgC Y.DI.b .nil pass0 (pa_cons (pe_fld (pv 0) rfl) (pa_cons (pe_fld (pv 0) rfl) (pa_cons (pe_tup (pa_cons (pe_glob rfl gr (v := .str "r") ⟨_, rfl⟩) (pa_cons (pe_glob rfl gc (v := .str "c") ⟨_, rfl⟩) pa_nil))) pa_nil))))), ?_⟩
  refine ⟨_, rfl, v, C, dx, _, _, rfl, hv, Y.cl, Y.nSteps, vf_steps _ _ _, _, rfl, v, C, dx, _, _, rfl, hv, Y.cl, Y.nStart, vf_start _ _ _, sz2, fun t ht => ?_⟩
  intro x dx' hx hdx ne
  have s1 : Same H (upd H t (.tup [.str "r", .str "c"])) := Same.new ht
  exact view_made (st := st) (c := true) (s1 _ _ ewa) upd_same hx hdx ne rfl fun u H' sm hu => q u H' (s1.trans sm) hu
end
end MS
end
section
set_option maxRecDepth 100000
set_option maxHeartbeats 4000000
namespace MS
open PySem L2
/-! ### rows of each, of all -/
theorem inner_list {K : PySem.W.Frag} {a : Addr} {xs : List V} {g : TG} {tt : TT} {te : TE} {vs : List Nat} {σ : St} {H1 : Hp} {D : Addr} {Qd : Hp → Prop} (Pv : Nat → Hp → Prop) (h0 : Pv 0 H1) (hl : ∀ i H, i ≤ xs.length → Pv i H → SqL K H a xs)
    (hs : ∀ i x H, xs[i]? = some x → Pv i H → g x (wipe σ vs) H fun σ2 H2 => wipe σ2 vs = wipe σ vs ∧ tt σ2 H2 fun b H3 =>
      if b = true then te σ2 H3 fun y H4 => ∃ acc, H4 D = some (.lst acc) ∧ acc.length < sizeLine ∧ Pv (i + 1) (upd H4 D (.lst (acc ++ [y]))) else Pv (i + 1) H3) (hd : ∀ H, Pv xs.length H → Qd H) :
    ∃ W : Nat → Nat → Hp → Prop, (∃ m, W 0 m H1) ∧ ∀ i m H, W i m H →
      ((Itl K a).stop i H ∧ Qd H) ∨ ((Itl K a).go i H ∧ ∃ Nx : Hp → Prop, (∀ H', Nx H' → ∃ m', m' < m ∧ W (i + 1) m' H') ∧ ∀ x H', (Itl K a).yld i H x H' → g x (wipe σ vs) H' fun σ2 H2 => wipe σ2 vs = wipe σ vs ∧ tt σ2 H2 fun b H3 =>
        if b = true then te σ2 H3 fun y H4 => ∃ acc, H4 D = some (.lst acc) ∧ acc.length < sizeLine ∧ Nx (upd H4 D (.lst (acc ++ [y]))) else Nx H3) := by
  refine ⟨fun i m H => m = xs.length - i ∧ i ≤ xs.length ∧ Pv i H, ⟨xs.length, by simp, Nat.zero_le _, h0⟩, ?_⟩
  rintro i m H ⟨rfl, hi, p⟩
  have q := hl i H hi p
  by_cases hlt : i < xs.length
  · refine .inr ⟨⟨xs, xs[i], q, by simp [hlt]⟩, Pv (i + 1), fun H' p' => ⟨xs.length - (i + 1), by omega, rfl, hlt, p'⟩, fun x H' y => ?_⟩
    obtain ⟨e, y⟩ := y
    subst e
    exact hs i x _ (y xs q) p
  · have e : i = xs.length := by omega
    subst e
    exact .inl ⟨⟨xs, q, Nat.le_refl _⟩, hd H p⟩
theorem outer_list {K : PySem.W.Frag} {a : Addr} {xs : List V} {g g1 : TG} {tt tt1 : TT} {wi1 : TI} {te : TE} {vs vs1 : List Nat} {σ : St} {H1 : Hp} {D : Addr} {Qd : Hp → Prop} (Pv : Nat → Hp → Prop) (h0 : Pv 0 (upd H1 D (.lst []))) (hl : ∀ i H, i ≤ xs.length → Pv i H → SqL K H a xs)
    (hs : ∀ i x H, xs[i]? = some x → Pv i H → g x (wipe σ vs) H fun σ2 H2 => wipe σ2 vs = wipe σ vs ∧ tt σ2 H2 fun b H3 =>
      if b = true then wi1 σ2 H3 fun J1 H4 => ∃ W1 : Nat → Nat → Hp → Prop, (∃ m, W1 0 m H4) ∧ ∀ j k H, W1 j k H →
        (J1.stop j H ∧ Pv (i + 1) H) ∨ (J1.go j H ∧ ∃ Nx1 : Hp → Prop, (∀ H', Nx1 H' → ∃ k', k' < k ∧ W1 (j + 1) k' H') ∧ ∀ x H', J1.yld j H x H' → g1 x (wipe σ2 vs1) H' fun σ3 H5 => wipe σ3 vs1 = wipe σ2 vs1 ∧ tt1 σ3 H5 fun b H6 =>
          if b = true then te σ3 H6 fun y H7 => ∃ acc, H7 D = some (.lst acc) ∧ acc.length < sizeLine ∧ Nx1 (upd H7 D (.lst (acc ++ [y]))) else Nx1 H6)
      else Pv (i + 1) H3) (hd : ∀ H, Pv xs.length H → Qd H) :
    ∃ W : Nat → Nat → Hp → Prop, (∃ m, W 0 m (upd H1 D (.lst []))) ∧ ∀ i m H, W i m H →
      ((Itl K a).stop i H ∧ Qd H) ∨ ((Itl K a).go i H ∧ ∃ Nx : Hp → Prop, (∀ H', Nx H' → ∃ m', m' < m ∧ W (i + 1) m' H') ∧ ∀ x H', (Itl K a).yld i H x H' → g x (wipe σ vs) H' fun σ2 H2 => wipe σ2 vs = wipe σ vs ∧ tt σ2 H2 fun b H3 =>
        if b = true then wi1 σ2 H3 fun J1 H4 => ∃ W1 : Nat → Nat → Hp → Prop, (∃ m, W1 0 m H4) ∧ ∀ j k H, W1 j k H →
          (J1.stop j H ∧ Nx H) ∨ (J1.go j H ∧ ∃ Nx1 : Hp → Prop, (∀ H', Nx1 H' → ∃ k', k' < k ∧ W1 (j + 1) k' H') ∧ ∀ x H', J1.yld j H x H' → g1 x (wipe σ2 vs1) H' fun σ3 H5 => wipe σ3 vs1 = wipe σ2 vs1 ∧ tt1 σ3 H5 fun b H6 =>
            if b = true then te σ3 H6 fun y H7 => ∃ acc, H7 D = some (.lst acc) ∧ acc.length < sizeLine ∧ Nx1 (upd H7 D (.lst (acc ++ [y]))) else Nx1 H6)
        else Nx H3) := by
  refine ⟨fun i m H => m = xs.length - i ∧ i ≤ xs.length ∧ Pv i H, ⟨xs.length, by simp, Nat.zero_le _, h0⟩, ?_⟩
  rintro i m H ⟨rfl, hi, p⟩
  have q := hl i H hi p
  by_cases hlt : i < xs.length
  · refine .inr ⟨⟨xs, xs[i], q, by simp [hlt]⟩, Pv (i + 1), fun H' p' => ⟨xs.length - (i + 1), by omega, rfl, hlt, p'⟩, fun x H' y => ?_⟩
    obtain ⟨e, y⟩ := y
    subst e
    exact hs i x _ (y xs q) p
  · have e : i = xs.length := by omega
    subst e
    exact .inl ⟨⟨xs, q, Nat.le_refl _⟩, hd H p⟩
abbrev psRows : List Str := ["paper", "scheme", "where", "view"]
abbrev psEach : List Str := ["paper", "schemes", "where", "view"]
structure RAt (C : Addr) (H : Hp) (ps : List Sch) (ws : List StepT) (pa wr vw : Addr) (st : Nat) (c : Bool) (wh : List Nat) : Prop where
  paper : ∃ pv, H pa = some (.tup pv) ∧ Paired (SAt H 5) ps pv
  view : ViewAt C H vw ws st c
  wher : H wr = some (.tup (natV wh))
theorem RAt.keep {C : Addr} {H H' : Hp} {ps : List Sch} {ws : List StepT} {pa wr vw : Addr} {st : Nat} {c : Bool} {wh : List Nat} (h : RAt C H ps ws pa wr vw st c wh) (k : Same H H') : RAt C H' ps ws pa wr vw st c wh := by
  obtain ⟨⟨pv, e, p⟩, h2, h3⟩ := h
  exact ⟨⟨pv, k _ _ e, paired_imp p fun s v => SAt.keep (Same.tupK k) _ _ _⟩, h2.keep k, k _ _ h3⟩
def spRows (C : Addr) (ps : List Sch) (ws : List StepT) (ce : Nat → Int) (M k : Nat) : Sp := fun vs H Q _ => ∃ (pa wr vw : Addr) (v : V) (s : Sch) (i d st : Nat) (c : Bool) (wh : List Nat), vs = [.ref pa, v, .ref wr, .ref vw] ∧ RAt C H ps ws pa wr vw st c wh ∧ st ≤ ws.length ∧ SAt H d s v ∧ OkS i M d s ∧ er ce d s ≤ 7 ∧ (M - i) * 5 + d ≤ k ∧ wh.length + k ≤ 100 ∧
  ∀ (f : Addr) (rv : List V) (H' : Hp), Same H H' → H f = none → H' f = some (.lst rv) → Paired (RowR H') (rP ps ws k s st c wh) rv → Q (.ref f) H'
structure KAt (H : Hp) (ce : Nat → Int) (M k i d : Nat) (ks : List Sch) (kv : List V) (b : Addr) : Prop where
  at_ : H b = some (.tup kv)
  pr : Paired (SAt H d) ks kv
  ok : ∀ s ∈ ks, OkS i M d s ∧ er ce d s ≤ 7
  few : ks.length ≤ 4
  fuel : (M - i) * 5 + d ≤ k
theorem KAt.keep {H H' : Hp} {ce : Nat → Int} {M k i d : Nat} {ks : List Sch} {kv : List V} {b : Addr} (h : KAt H ce M k i d ks kv b) (s : Same H H') : KAt H' ce M k i d ks kv b := ⟨s _ _ h.at_, paired_imp h.pr fun _ _ => SAt.keep (Same.tupK s) _ _ _, h.ok, h.few, h.fuel⟩
/-- the rows of each stand at fv -/
def EachAt (H0 H : Hp) (F : Sch → Nat → List Row) (ks : List Sch) (fv : List V) : Prop := fv.length = ks.length ∧ ∀ j s, ks[j]? = some s → ∃ g rv, fv[j]? = some (V.ref g) ∧ H0 g = none ∧ H g = some (.lst rv) ∧ Paired (RowR H) (F s j) rv
def spEach (C : Addr) (ps : List Sch) (ws : List StepT) (ce : Nat → Int) (M k : Nat) : Sp := fun vs H Q _ => ∃ (pa wr vw b : Addr) (ks : List Sch) (kv : List V) (i d st : Nat) (c : Bool) (wh : List Nat), vs = [.ref pa, .ref b, .ref wr, .ref vw] ∧ RAt C H ps ws pa wr vw st c wh ∧ st ≤ ws.length ∧ KAt H ce M k i d ks kv b ∧ wh.length + 1 + k ≤ 100 ∧
  ∀ (f : Addr) (fv : List V) (H' : Hp), Same H H' → H f = none → H' f = some (.lst fv) → EachAt H H' (fun s j => rP ps ws k s st c (wh ++ [j])) ks fv → Q (.ref f) H'
def spAll (C : Addr) (ps : List Sch) (ws : List StepT) (ce : Nat → Int) (M k : Nat) : Sp := fun vs H Q _ => ∃ (pa wr vw b : Addr) (ks : List Sch) (kv : List V) (i d st : Nat) (c : Bool) (wh : List Nat), vs = [.ref pa, .ref b, .ref wr, .ref vw] ∧ RAt C H ps ws pa wr vw st c wh ∧ st ≤ ws.length ∧ KAt H ce M k i d ks kv b ∧ wh.length + 1 + k ≤ 100 ∧
  ∀ (f : Addr) (rv : List V) (H' : Hp), Same H H' → H f = none → H' f = some (.lst rv) → Paired (RowR H') (allU (fun s j => rP ps ws k s st c (wh ++ [j])) ks 0) rv → Q (.ref f) H'
theorem rows_le_pts : ∀ (rs : List Row), (∀ r ∈ rs, 0 < r.2.1) → rs.length ≤ pts rs
  | [], _ => Nat.zero_le _
  | r :: t, h => by
    rw [pts_cons, List.length_cons]
    have := rows_le_pts t fun r hr => h r (List.mem_cons_of_mem _ hr)
    have := h r List.mem_cons_self
    omega
theorem rP_len {ps : List Sch} {ws : List StepT} {ce : Nat → Int} {M : Nat} (hp : ∀ (j : Nat) (s : Sch), ps[j]? = some s → OkS j M 5 s ∧ ce j = er ce 5 s) (h0 : ∀ j, j < M → 0 ≤ ce j) {k i d : Nat} {s : Sch} {st : Nat} {c : Bool} {wh : List Nat} (o : OkS i M d s) (h7 : er ce d s ≤ 7) : (rP ps ws k s st c wh).length ≤ 63 := by
  have h1 := uP_len (ws := ws) hp h0 k i d s st c wh o
  rw [uP_expand, expand_len] at h1
  have h2 := rows_le_pts _ fun r hr => ((rP_good (ws := ws) (fun j s e => (hp j s e).1) k i d s st c wh o).1 r hr).1
  omega
theorem allU_le {α : Type} {f : Sch → Nat → List α} : ∀ (ks : List Sch) (j : Nat), (∀ s ∈ ks, ∀ j, (f s j).length ≤ 63) → (allU f ks j).length ≤ 63 * ks.length
  | [], _, _ => Nat.le_refl _
  | s :: r, j, h => by
    show (f s j ++ allU f r (j + 1)).length ≤ _
    rw [List.length_append, List.length_cons]
    have := h s List.mem_cons_self j
    have := allU_le r (j + 1) fun s hs => h s (List.mem_cons_of_mem _ hs)
    omega
section
variable {P : Program} {w : World} {K : PySem.W.Frag} {mg : Str → Option Value} {base : Heap} {C : Addr} {ps : List Sch} {ws : List StepT} {ce : Nat → Int} {M k L : Nat}
theorem ok_each (T : PTx w K mg) (DR : Def K mg "rows_of" s_rows_of psRows) (D : Def K mg "rows_of_each" s_rows_of_each psEach) (G : FnOk P w K mg base CX0 L DR.f DR.fd psRows (spRows C ps ws ce M k)) : FnOk P w K mg base CX0 (L + 1) D.f D.fd psEach (spEach C ps ws ce M k) := by
  have nd := sc_rows_of_each.nd
  refine D.ok sc_rows_of_each (fun vs H Q E h => ?_) (fun cdv A outer s H vs Q E hr h => ?_)
  · obtain ⟨pa, wr, vw, b, ks, kv, i, d, st, c, wh, rfl, _⟩ := h
    rfl
  obtain ⟨pa, wr, vw, b, ks, kv, i, d, st, c, wh, rfl, R, hst, KA, hwh, q⟩ := h
  refine ⟨_, pss_one (ps_ret (pe_lc (own := [("at", 4), ("scheme", 5)]) (g := gTup K 2 (gCons (gName 4) (gCons (gName 5) gNil))) (tt := tYes) rfl nd (pi_enumT rfl (T.free "enumerate" (by decide +kernel)) (pa_cons (pv 1) pa_nil)) (blkOk_by (N := ["paper", "schemes", "where", "view", "at", "scheme"]) (sc := defScope s_rows_of_each) (by decide +kernel))
      (fun _ _ _ _ _ => pg_tup rfl (pgs_cons (pg_name (i := 4) nd rfl (Or.inl rfl)) (pgs_cons (pg_name (i := 5) nd rfl (Or.inl rfl)) pgs_nil))) (fun _ _ _ _ _ => pts_nil)
      (fun _ _ _ _ _ => pcall DR G hr (pa_cons (pv 0) (pa_cons (pv 5) (pa_cons (pe_op (r := rCatA K) op_catA (pv 2) (pe_tup (pa_cons (pv 4) pa_nil))) (pa_cons (pv 3) pa_nil))))))), ?_⟩
  have hkl := Paired.length KA.pr
  have hfew := KA.few
  have hfu := KA.fuel
  refine ⟨_, rfl, b, _, rfl, SqT.of KA.at_, fun Dd hD => ?_⟩
  refine lc_it (walk_enumT (K := K) (a := b) (xs := kv)) (fun j H'' => ∃ fv, H'' Dd = some (.lst fv) ∧ fv.length = j ∧ (∀ j' s, j' < j → ks[j']? = some s → ∃ g rv, fv[j']? = some (V.ref g) ∧ g ≠ Dd ∧ H g = none ∧ H'' g = some (.lst rv) ∧ Paired (RowR H'') (rP ps ws k s st c (wh ++ [j'])) rv) ∧ Same H H'') ⟨[], upd_same, rfl, (fun _ _ h => by omega), Same.new hD⟩ (fun j H'' _ ⟨_, _, _, _, s3⟩ => SqT.of (s3 _ _ KA.at_)) ?_ ?_
  · rintro j x H2 H3 hj ⟨fv, eD, hl, hfv, s3⟩ ⟨T1, x1, x2, rfl, hT1, rfl, ex1, ex2⟩
    obtain rfl : V.int ((j : Nat) : Int) = x1 := Option.some.inj ex1
    have ex2 : kv[j]? = some x2 := ex2
    obtain ⟨s', es', hs'⟩ := paired_get' KA.pr ex2
    have hm := List.mem_of_getElem? es'
    obtain ⟨hok, h7⟩ := KA.ok s' hm
    have sT := Same.new (o := .tup [.int ((j : Nat) : Int), x2]) hT1
    have s4 := s3.trans sT
    have R4 := R.keep s4
    refine ⟨T1, _, rfl, SqT.of upd_same, rfl, _, _, rfl, _, _, rfl, rfl, rfl, _, rfl, _, rfl, ?_⟩
    refine cat_at (i := 2) (j := j) rfl R4.wher (by omega) (fun Q q => ⟨_, rfl, q⟩) (fun wr' H5 s5 ew => ?_)
    have s45 := s4.trans s5
    have R5 := R4.keep s5
    refine ⟨_, rfl, pa, wr', vw, x2, s', i, d, st, c, wh ++ [j], rfl, ⟨R5.paper, R5.view, ew⟩, hst, SAt.keep (Same.tupK s45) _ _ _ hs', hok, h7, hfu, by rw [List.length_append, List.length_singleton]; omega, fun g rv H6 s6 hg eg pr => ?_⟩
    have s26 := (sT.trans s5).trans s6
    have eD6 := s26 _ _ eD
    have ngD : g ≠ Dd := fun z => by rw [z, (sT.trans s5) _ _ eD] at hg; cases hg
    have tk : TupK H6 (upd H6 Dd (.lst (fv ++ [.ref g]))) := TupK.put eD6
    have hjl := (List.getElem?_eq_some_iff.mp es').1
    refine ⟨_, eD6, small1000 (by omega), fv ++ [.ref g], upd_same, by rw [List.length_append, hl]; rfl, fun j' s'' hj' es'' => ?_, Same.newer (s3.trans s26) hD⟩
    by_cases e : j' < j
    · obtain ⟨g', rv', e1, e2, e3, e4, e5⟩ := hfv j' s'' e es''
      exact ⟨g', rv', by rw [List.getElem?_append_left (by omega)]; exact e1, e2, e3, by rw [upd_ne e2]; exact s26 _ _ e4, paired_imp e5 fun _ _ h => RowR.keep h ((Same.tupK s26).trans tk)⟩
    · have e : j' = j := by omega
      subst e
      rw [es'] at es''
      cases es''
      refine ⟨g, rv, ?_, ngD, s45.free hg, by rw [upd_ne ngD]; exact eg, paired_imp pr fun _ _ h => RowR.keep h tk⟩
      rw [List.getElem?_append_right (by omega), hl, Nat.sub_self]
      rfl
  · rintro H'' ⟨fv, eD, hl, hfv, s3⟩
    refine q Dd fv H'' s3 hD eD ⟨by omega, fun j s' es' => ?_⟩
    have hjl := (List.getElem?_eq_some_iff.mp es').1
    obtain ⟨g', rv', e1, e2, e3, e4, e5⟩ := hfv j s' (by omega) es'
    exact ⟨g', rv', e1, e3, e4, e5⟩
theorem ok_all (hp : ∀ (j : Nat) (s : Sch), ps[j]? = some s → OkS j M 5 s ∧ ce j = er ce 5 s) (h0 : ∀ j, j < M → 0 ≤ ce j) (T : PTx w K mg) (DE : Def K mg "rows_of_each" s_rows_of_each psEach) (D : Def K mg "rows_of_all" s_rows_of_all psEach) (G : FnOk P w K mg base CX0 L DE.f DE.fd psEach (spEach C ps ws ce M k)) : FnOk P w K mg base CX0 (L + 1) D.f D.fd psEach (spAll C ps ws ce M k) := by
  have nd := sc_rows_of_all.nd
  refine D.ok sc_rows_of_all (fun vs H Q E h => ?_) (fun cdv A outer s H vs Q E hr h => ?_)
  · obtain ⟨pa, wr, vw, b, ks, kv, i, d, st, c, wh, rfl, _⟩ := h
    rfl
  obtain ⟨pa, wr, vw, b, ks, kv, i, d, st, c, wh, rfl, R, hst, KA, hwh, q⟩ := h
  refine ⟨_, pss_one (ps_ret (pe_lc2 (own := [("rows", 4), ("row", 5)]) (vs1 := [5]) (g := gName 4) (wi1 := iList K (tVar 4)) (g1 := gName 5) (tt := tYes) (tt1 := tYes) rfl nd (pi_list (pcall DE G hr (pa_cons (pv 0) (pa_cons (pv 1) (pa_cons (pv 2) (pa_cons (pv 3) pa_nil))))))
      (blkOk_by (N := ["paper", "schemes", "where", "view", "rows", "row"]) (sc := defScope s_rows_of_all) (by decide +kernel)) (by intro i hi; rw [List.mem_singleton.mp hi]; decide)
      (fun _ _ _ _ _ => pg_name (i := 4) nd rfl (Or.inl rfl)) (fun _ _ _ _ _ => pts_nil) (fun _ _ _ _ _ => pi_list (pv 4)) (fun _ _ _ _ _ => pg_name (i := 5) nd rfl (Or.inl rfl)) (fun _ _ _ _ _ => pts_nil) (fun _ _ _ _ _ => pv 5))), ?_⟩
  refine ⟨_, rfl, _, rfl, _, rfl, _, rfl, pa, wr, vw, b, ks, kv, i, d, st, c, wh, rfl, R, hst, KA, hwh, fun r fv Hr sr hr0 er' EA => ?_⟩
  have hfew := KA.few
  have lrow : ∀ s ∈ ks, ∀ j, ((fun s j => rP ps ws k s st c (wh ++ [j])) s j).length ≤ 63 := fun s hs j => rP_len hp h0 (KA.ok s hs).1 (KA.ok s hs).2
  generalize (fun s j => rP ps ws k s st c (wh ++ [j])) = F at q EA lrow
  obtain ⟨hfl, hEA⟩ := EA
  refine ⟨r, rfl, ⟨_, SqL.of er'⟩, fun D hD => ?_⟩
  have nrD : r ≠ D := ne_of_none er' hD
  have lAll : ∀ i, (allU F (ks.take i) 0).length ≤ 252 := fun i => by
    have := allU_le (f := F) (ks.take i) 0 fun s hs j => lrow s (List.mem_of_mem_take hs) j
    have : (ks.take i).length ≤ 4 := by rw [List.length_take]; omega
    omega
  refine outer_list (K := K) (a := r) (xs := fv) (fun i H' => ∃ av, H' D = some (.lst av) ∧ Paired (RowR H') (allU F (ks.take i) 0) av ∧ Same Hr H') ⟨[], upd_same, .nil, Same.new hD⟩ (fun i H' _ ⟨_, _, _, s5⟩ => SqL.of (s5 _ _ er')) ?_ ?_
  · rintro j x H5 hj ⟨av, eD, pa5, s5⟩
    have hjl : j < ks.length := by rw [← hfl]; exact (List.getElem?_eq_some_iff.mp hj).1
    have es' : ks[j]? = some (ks[j]'hjl) := List.getElem?_eq_getElem hjl
    obtain ⟨g, rv, e1, e2, e3, e4⟩ := hEA j _ es'
    rw [hj] at e1
    cases e1
    have tk : ks.take (j + 1) = ks.take j ++ [ks[j]'hjl] := by
      rw [List.take_succ, es']
      rfl
    have eF : allU F (ks.take (j + 1)) 0 = allU F (ks.take j) 0 ++ F (ks[j]'hjl) j := by
      rw [tk, allU_snoc, List.length_take, Nat.zero_add, Nat.min_eq_left (Nat.le_of_lt hjl)]
    have lF := lrow _ (List.getElem_mem hjl) j
    have lrv := Paired.length e4
    have lA := lAll j
    refine ⟨rfl, _, rfl, g, rfl, ⟨_, SqL.of (s5 _ _ e3)⟩, ?_⟩
    refine inner_list (K := K) (a := g) (xs := rv) (fun t H' => ∃ av, H' D = some (.lst av) ∧ Paired (RowR H') (allU F (ks.take j) 0 ++ (F (ks[j]'hjl) j).take t) av ∧ Same Hr H') ⟨av, eD, by rw [List.take_zero, List.append_nil]; exact pa5, s5⟩ (fun t H' _ ⟨_, _, _, s6⟩ => SqL.of (s6 _ _ e3)) ?_ ?_
    · rintro t y H6 hy ⟨av6, eD6, pa6, s6⟩
      obtain ⟨row, erow, hrow⟩ := paired_get' e4 hy
      have lav := Paired.length pa6
      rw [List.length_append, List.length_take] at lav
      have tk6 : TupK H6 (upd H6 D (.lst (av6 ++ [y]))) := TupK.put eD6
      refine ⟨rfl, _, rfl, _, eD6, small1000 (by omega), av6 ++ [y], upd_same, ?_, Same.newer s6 hD⟩
      have e : (F (ks[j]'hjl) j).take (t + 1) = (F (ks[j]'hjl) j).take t ++ [row] := by
        rw [List.take_succ, erow]
        rfl
      rw [e, ← List.append_assoc]
      exact paired_app (paired_imp pa6 fun _ _ h => RowR.keep h tk6) (.cons (RowR.keep hrow ((Same.tupK s6).trans tk6)) .nil)
    · rintro H6 ⟨av6, eD6, pa6, s6⟩
      rw [← lrv, List.take_length] at pa6
      exact ⟨av6, eD6, by rw [eF]; exact pa6, s6⟩
  · rintro H5 ⟨av, eD, pa5, s5⟩
    rw [hfl, List.take_length] at pa5
    exact q D av H5 (sr.trans s5) (sr.free hD) eD pa5
end
end MS
end
section
set_option maxRecDepth 100000
set_option maxHeartbeats 4000000
namespace MS
open PySem L2
/-! ### the rows of a scheme -/
theorem case_no {K : PySem.W.Frag} {nm : Str} {is : List Nat} {tb : TS} {tr : TM} {a : Addr} {z : Str} {tl : List V} {D : Ends} {σ : St} {H : Hp} (ea : H a = some (.tup (.str z :: tl))) (hl : tl.length ≤ 1000) (n : z ≠ nm) (h : tr (.ref a) D σ H) : tCase K nm is tb tr (.ref a) D σ H :=
  ⟨a, z, tl, rfl, SqT.of ea, hl, by rw [if_neg (fun q => n q.2)]; exact h⟩
theorem case_yes {K : PySem.W.Frag} {z : Str} {is : List Nat} {tb : TS} {tr : TM} {a : Addr} {tl : List V} {D : Ends} {σ : St} {H : Hp} (ea : H a = some (.tup (.str z :: tl))) (hl : tl.length ≤ 1000) (e : tl.length = is.length) (h : tb D (setAll σ is tl) H) : tCase K z is tb tr (.ref a) D σ H :=
  ⟨a, z, tl, rfl, SqT.of ea, hl, by rw [if_pos ⟨e, rfl⟩]; exact h⟩
def FF (f : Sch → Nat → List Row) (ks : List Sch) (i : Nat) : List Row := match ks[i]? with
  | some s => f s i
  | none => []
theorem bestR_snoc (f : Sch → Nat → List Row) : ∀ (l : List Sch) (s : Sch) (j : Nat) (acc : List Row), bestR f (l ++ [s]) j acc = if pts (bestR f l j acc) < pts (f s (j + l.length)) then f s (j + l.length) else bestR f l j acc
  | [], s, j, acc => rfl
  | a :: l, s, j, acc => by
    show bestR f (l ++ [s]) (j + 1) (if pts acc < pts (f a j) then f a j else acc) = _
    rw [bestR_snoc f l s (j + 1), List.length_cons, show j + 1 + l.length = j + (l.length + 1) by omega]
    rfl
theorem pts_nil' : ∀ {rs : List Row}, (∀ r ∈ rs, 0 < r.2.1) → pts rs = 0 → rs = []
  | [], _, _ => rfl
  | r :: t, h, e => by
    rw [pts_cons] at e
    have := h r List.mem_cons_self
    omega
theorem best_arg {f : Sch → Nat → List Row} {ks : List Sch} (hpos : ∀ s ∈ ks, ∀ j, ∀ r ∈ f s j, 0 < r.2.1) : ∀ m, m < ks.length → bestR f (ks.take (m + 1)) 0 [] = FF f ks (argBest (gtB fun i => ((pts (FF f ks i) : Nat) : Int)) m)
  | 0, h => by
    have e : ks[0]? = some (ks[0]'h) := List.getElem?_eq_getElem h
    have t : ks.take (0 + 1) = [ks[0]'h] := by
      rw [List.take_succ, e]
      rfl
    rw [t]
    have F0 : FF f ks 0 = f (ks[0]'h) 0 := by unfold FF; rw [e]
    show (if pts [] < pts (f (ks[0]'h) 0) then f (ks[0]'h) 0 else []) = FF f ks 0
    rw [F0]
    by_cases c : pts [] < pts (f (ks[0]'h) 0)
    · rw [if_pos c]
    · rw [if_neg c]
      have z : pts (f (ks[0]'h) 0) = 0 := by
        have : pts [] = 0 := rfl
        omega
      exact (pts_nil' (hpos _ (List.getElem_mem h) 0) z).symm
  | m + 1, h => by
    have e : ks[m + 1]? = some (ks[m + 1]'h) := List.getElem?_eq_getElem h
    have t : ks.take (m + 1 + 1) = ks.take (m + 1) ++ [ks[m + 1]'h] := by
      rw [List.take_succ, e]
      rfl
    have F1 : FF f ks (m + 1) = f (ks[m + 1]'h) (m + 1) := by unfold FF; rw [e]
    rw [t, bestR_snoc, best_arg hpos m (by omega), List.length_take, Nat.min_eq_left (Nat.le_of_lt h), Nat.zero_add, ← F1]
    show _ = FF f ks (if gtB (fun i => ((pts (FF f ks i) : Nat) : Int)) (m + 1) (argBest (gtB fun i => ((pts (FF f ks i) : Nat) : Int)) m) then m + 1 else argBest (gtB fun i => ((pts (FF f ks i) : Nat) : Int)) m)
    generalize argBest (gtB fun i => ((pts (FF f ks i) : Nat) : Int)) m = A
    by_cases c : pts (FF f ks A) < pts (FF f ks (m + 1))
    · rw [if_pos c, if_pos (show gtB (fun i => ((pts (FF f ks i) : Nat) : Int)) (m + 1) A = true from decide_eq_true (show ((pts (FF f ks A) : Nat) : Int) < ((pts (FF f ks (m + 1)) : Nat) : Int) by omega))]
    · rw [if_neg c, if_neg (show ¬ gtB (fun i => ((pts (FF f ks i) : Nat) : Int)) (m + 1) A = true from fun z => by
        have z2 : ((pts (FF f ks A) : Nat) : Int) < ((pts (FF f ks (m + 1)) : Nat) : Int) := of_decide_eq_true z
        omega)]
theorem arg_le (bt : Nat → Nat → Bool) : ∀ m, argBest bt m ≤ m
  | 0 => Nat.le_refl _
  | m + 1 => by
    show (if bt (m + 1) (argBest bt m) then m + 1 else argBest bt m) ≤ m + 1
    have := arg_le bt m
    split <;> omega
structure DRows (K : PySem.W.Frag) (mg : Str → Option Value) where
  DPt : Def K mg "points_of" s_points_of ["rows"]
  DFp : Def K mg "first_points" s_first_points ["rows", "limit"]
  DRa : Def K mg "row_at" s_row_at ["place", "points", "where"]
  DE : Def K mg "rows_of_each" s_rows_of_each psEach
  DA : Def K mg "rows_of_all" s_rows_of_all psEach
  DR : Def K mg "rows_of" s_rows_of psRows
  DB : Def K mg "rows_by" s_rows_by ["paper", "work"]
  DI : Def K mg "is_step" s_is_step ["thing"]
  DC : Def K mg "check_work" s_check_work ["work"]
  DN : Def K mg "earned" s_earned ["paper", "work"]
  DM : Def K mg "marked" s_marked ["paper", "work"]
theorem nat_of {p : Int} (h : 0 ≤ p) : ∃ n : Nat, p = ((n : Nat) : Int) := ⟨p.toNat, by omega⟩
section
variable {P : Program} {w : World} {K : PySem.W.Frag} {mg : Str → Option Value} {base : Heap} {C : Addr} {ps : List Sch} {ws : List StepT} {ce : Nat → Int} {M k L : Nat}
theorem rows_turn (hM : ps.length = M) (hw : ∀ p ∈ ws, IsStep p) (hws : ws.length ≤ 4000) (hp : ∀ (j : Nat) (s : Sch), ps[j]? = some s → OkS j M 5 s ∧ ce j = er ce 5 s) (h0 : ∀ j, j < M → 0 ≤ ce j) (h7 : ∀ j, j < M → ce j ≤ 7) (T : PTx w K mg) (Y : VCls K mg C) (D : DRows K mg) (hL : 1 ≤ L)
    (G : FnOk P w K mg base CX0 L D.DR.f D.DR.fd psRows (spRows C ps ws ce M k)) : FnOk P w K mg base CX0 (L + 3) D.DR.f D.DR.fd psRows (spRows C ps ws ce M (k + 1)) := by
  have GE : FnOk P w K mg base CX0 (L + 1) D.DE.f D.DE.fd psEach (spEach C ps ws ce M k) := ok_each T D.DR D.DE G
  have GA : FnOk P w K mg base CX0 (L + 2) D.DA.f D.DA.fd psEach (spAll C ps ws ce M k) := ok_all hp h0 T D.DE D.DA GE
  have GPt : FnOk P w K mg base CX0 1 D.DPt.f D.DPt.fd ["rows"] spPoints := ok_points_of T D.DPt
  have GFp : FnOk P w K mg base CX0 1 D.DFp.f D.DFp.fd ["rows", "limit"] spFirst := ok_first_points T D.DFp
  have GRa : FnOk P w K mg base CX0 1 D.DRa.f D.DRa.fd ["place", "points", "where"] spRowAt := ok_row_at T D.DRa
  have GF : FnOk P w K mg base CX0 2 Y.DF.f Y.DF.fd ["self", "word"] (spVFirst C) := ok_vfirst T Y
  have GL : FnOk P w K mg base CX0 2 Y.DL.f Y.DL.fd ["self", "word"] (spVLast C) := ok_vlast T Y
  have GS : FnOk P w K mg base CX0 1 Y.DS.f Y.DS.fd ["self", "word"] (spStands C) := ok_stands T Y
  have GB : FnOk P w K mg base CX0 3 Y.DB.f Y.DB.fd ["self", "place"] (spVBehind C) := ok_vbehind T Y
  have GY : FnOk P w K mg base CX0 3 Y.DY.f Y.DY.fd ["self"] (spCarrying C) := ok_carrying T Y
  have nd := sc_rows_of.nd
  refine D.DR.ok sc_rows_of (fun vs H Q E h => ?_) (fun cdv A outer s H vs Q E hr h => ?_)
  · obtain ⟨pa, wr, vw, v, s, i, d, st, c, wh, rfl, _⟩ := h
    rfl
  obtain ⟨pa, wr, vw, v, sc, i, d, st, c, wh, rfl, R, hst, hs, ho, he7, hk, hwh, q⟩ := h
  have hrL : Room L _ := hr.mono (by omega)
  have hrE : Room (L + 1) _ := hr.mono (by omega)
  have hrA : Room (L + 2) _ := hr.mono (by omega)
  have hr1 : Room 1 _ := hr.mono (by omega)
  have hr2 : Room (1 + 1) _ := hr.mono (by omega)
  have hr3 : Room 3 _ := hr.mono (by omega)
  refine ⟨_, pss_one (ps_match (pv 1)
    (pm_cons rfl nd (.cons (i := 4) rfl (Or.inl rfl) (Or.inr rfl) (.cons (i := 5) rfl (Or.inl rfl) (Or.inr rfl) .nil))
      (pss_one (ps_ret (pcall D.DRa GRa hr1 (pa_cons (pe_meth (pv 3) Y.cl Y.DF.me GF hr2 Y.DF.b .nil pass0 (pa_cons (pv 4) pa_nil)) (pa_cons (pv 5) (pa_cons (pv 2) pa_nil))))))
    (pm_cons rfl nd (.cons (i := 6) rfl (Or.inl rfl) (Or.inr rfl) .nil)
      (pss_one (ps_ret (pcall D.DA GA hrA (pa_cons (pv 0) (pa_cons (pv 6) (pa_cons (pv 2) (pa_cons (pv 3) pa_nil)))))))
    (pm_cons rfl nd (.cons (i := 6) rfl (Or.inl rfl) (Or.inr rfl) .nil)
      (pss_one (ps_ret (pe_callBK (cr_maxKey rfl GPt hr2 D.DPt.b) rfl (T.free "max" (by decide +kernel)) (by decide +kernel) (pa_cons (pcall D.DE GE hrE (pa_cons (pv 0) (pa_cons (pv 6) (pa_cons (pv 2) (pa_cons (pv 3) pa_nil))))) pa_nil) (pk_cons (pe_glob rfl D.DPt.g (v := .ref D.DPt.f) rfl) pk_nil))))
    (pm_cons rfl nd (.cons (i := 7) rfl (Or.inl rfl) (Or.inr rfl) (.cons (i := 8) rfl (Or.inl rfl) (Or.inr rfl) .nil))
      (pss_one (ps_ret (pcall D.DFp GFp hr1 (pa_cons (pcall D.DR G hrL (pa_cons (pv 0) (pa_cons (pv 8) (pa_cons (pe_op (r := rCatA K) op_catA (pv 2) (pe_tup (pa_cons pe_int pa_nil))) (pa_cons (pv 3) pa_nil))))) (pa_cons (pv 7) pa_nil)))))
    (pm_cons rfl nd (.cons (i := 8) rfl (Or.inl rfl) (Or.inr rfl) .nil)
      (pss_cons (ps_set (i := 9) nd rfl (Or.inl rfl) (pcall D.DR G hrL (pa_cons (pv 0) (pa_cons (pv 8) (pa_cons (pe_op (r := rCatA K) op_catA (pv 2) (pe_tup (pa_cons pe_int pa_nil))) (pa_cons (pv 3) pa_nil))))))
        (pss_one (ps_ret (pcall D.DFp GFp hr1 (pa_cons (pv 9) (pa_cons (pe_op op_fdiv (pcall D.DPt GPt hr1 (pa_cons (pv 9) pa_nil)) pe_int) pa_nil))))))
    (pm_cons rfl nd (.cons (i := 4) rfl (Or.inl rfl) (Or.inr rfl) (.cons (i := 8) rfl (Or.inl rfl) (Or.inr rfl) .nil))
      (pss_one (ps_ret (pe_ifExp (pt_val (pe_meth (pv 3) Y.cl Y.DS.me GS hr1 Y.DS.b .nil pass0 (pa_cons (pv 4) pa_nil))) (pcall D.DR G hrL (pa_cons (pv 0) (pa_cons (pv 8) (pa_cons (pe_op (r := rCatA K) op_catA (pv 2) (pe_tup (pa_cons pe_int pa_nil))) (pa_cons (pv 3) pa_nil))))) (pe_lst pa_nil))))
    (pm_cons rfl nd (.cons (i := 4) rfl (Or.inl rfl) (Or.inr rfl) (.cons (i := 8) rfl (Or.inl rfl) (Or.inr rfl) .nil))
      (pss_cons (ps_set (i := 10) nd rfl (Or.inl rfl) (pe_meth (pv 3) Y.cl Y.DF.me GF hr2 Y.DF.b .nil pass0 (pa_cons (pv 4) pa_nil)))
        (pss_one (ps_ret (pe_ifExp (pt_cmpR op_isN (pv 10) pe_non (nomark _)) (pe_lst pa_nil) (pcall D.DR G hrL (pa_cons (pv 0) (pa_cons (pv 8) (pa_cons (pe_op (r := rCatA K) op_catA (pv 2) (pe_tup (pa_cons pe_int pa_nil))) (pa_cons (pe_meth (pv 3) Y.cl Y.DB.me GB hr3 Y.DB.b .nil pass0 (pa_cons (pv 10) pa_nil)) pa_nil)))))))))
    (pm_cons rfl nd (.cons (i := 8) rfl (Or.inl rfl) (Or.inr rfl) .nil)
      (pss_one (ps_ret (pcall D.DR G hrL (pa_cons (pv 0) (pa_cons (pv 8) (pa_cons (pe_op (r := rCatA K) op_catA (pv 2) (pe_tup (pa_cons pe_int pa_nil))) (pa_cons (pe_meth0 (pv 3) Y.cl Y.DY.me GY hr3 Y.DY.b .nil pass0) pa_nil)))))))
    (pm_cons rfl nd (.cons (i := 4) rfl (Or.inl rfl) (Or.inr rfl) (.cons (i := 5) rfl (Or.inl rfl) (Or.inr rfl) (.cons (i := 8) rfl (Or.inl rfl) (Or.inr rfl) .nil)))
      (pss_one (ps_ret (pe_orT (pcall D.DRa GRa hr1 (pa_cons (pe_meth (pv 3) Y.cl Y.DL.me GL hr2 Y.DL.b .nil pass0 (pa_cons (pv 4) pa_nil)) (pa_cons (pv 5) (pa_cons (pv 2) pa_nil)))) (pe_one (pcall D.DR G hrL (pa_cons (pv 0) (pa_cons (pv 8) (pa_cons (pe_op (r := rCatA K) op_catA (pv 2) (pe_tup (pa_cons pe_int pa_nil))) (pa_cons (pv 3) pa_nil)))))))))
    (pm_cons rfl nd (.cons (i := 11) rfl (Or.inl rfl) (Or.inr rfl) .nil)
      (pss_one (ps_ret (pcall D.DR G hrL (pa_cons (pv 0) (pa_cons (pe_ix ix_tup (pv 0) (pv 11) (fun _ _ => rfl)) (pa_cons (pe_op (r := rCatA K) op_catA (pv 2) (pe_tup (pa_cons pe_int pa_nil))) (pa_cons (pv 3) pa_nil)))))))
    pm_nil))))))))))), ?_⟩
  obtain ⟨dxv, wav, wpv, hvw, ewa, ewp⟩ := id R.view
  have lw0 : (wh ++ [0]).length = wh.length + 1 := by rw [List.length_append]; rfl
  cases d with
  | zero => cases hs
  | succ d =>
  have hk' : (M - i) * 5 + d ≤ k := by omega
  have inner : ∀ {H1 : Hp} {wr' vw' : Addr} {u : V} {s' : Sch} {st' : Nat} {c' : Bool} {Q' : VK}, Same H H1 → H1 wr' = some (.tup (natV (wh ++ [0]))) → ViewAt C H1 vw' ws st' c' → st' ≤ ws.length → SAt H1 d s' u → OkS i M d s' → er ce d s' ≤ 7 →
      (∀ (f : Addr) (rv : List V) (H' : Hp), Same H1 H' → H1 f = none → H' f = some (.lst rv) → Paired (RowR H') (rP ps ws k s' st' c' (wh ++ [0])) rv → Q' (.ref f) H') → spRows C ps ws ce M k [.ref pa, u, .ref wr', .ref vw'] H1 Q' E0 := fun s1 ew hv hst' hs' ho' h7' q' =>
    ⟨pa, _, _, _, _, i, d, _, _, wh ++ [0], rfl, ⟨(R.keep s1).paper, hv, ew⟩, hst', hs', ho', h7', hk', by omega, q'⟩
  cases sc with
  | step x p =>
    obtain ⟨a, rfl, ea⟩ := hs
    obtain ⟨pn, rfl⟩ := nat_of (p := p) (by have := ho.2.1; omega)
    refine ⟨_, rfl, case_yes ea (by show 2 ≤ 1000; decide) rfl ?_⟩
    refine ⟨_, rfl, vw, dxv, _, rfl, hvw, vf_first _ _ _, _, rfl, vw, x, ws, st, c, rfl, R.view, hw, by omega, by omega, ?_⟩
    refine ⟨_, rfl, _, rfl, (hits ws c x st).head?, pn, wr, wh, rfl, R.wher, fun f rv H' s1 hf ef pr => q f rv H' s1 hf ef ?_⟩
    show Paired (RowR H') (match hits ws c x st with
      | [] => []
      | i :: _ => [(i, ((pn : Nat) : Int).toNat, wh)]) rv
    cases e : hits ws c x st with
    | nil => rw [e] at pr; exact pr
    | cons i r => rw [e] at pr; exact pr
  | all ks =>
    obtain ⟨a, b, kv, rfl, ea, eb, pr⟩ := hs
    have hsum : ∀ s ∈ ks, er ce d s ≤ 7 := fun s hs' => by
      have z : (ks.map (er ce d)).sum ≤ 7 := he7
      have := le_sum (l := ks.map (er ce d)) (fun x hx => by
        obtain ⟨s2, hs2, rfl⟩ := List.mem_map.mp hx
        exact er_nonneg (c := ce) (fun j _ hj => h0 j hj) d s2 (ho.2.2 s2 hs2)) _ (List.mem_map_of_mem hs')
      omega
    refine ⟨_, rfl, case_no ea (by show 1 ≤ 1000; decide) (by decide +kernel) (case_yes ea (by show 1 ≤ 1000; decide) rfl ?_)⟩
    refine ⟨_, rfl, _, rfl, _, rfl, _, rfl, pa, wr, vw, b, ks, kv, i, d, st, c, wh, rfl, R, hst, ⟨eb, pr, fun s hs' => ⟨ho.2.2 s hs', hsum s hs'⟩, ho.2.1, hk'⟩, by omega, fun f rv H' s1 hf ef pr' => q f rv H' s1 hf ef pr'⟩
  | best ks =>
    obtain ⟨a, b, kv, rfl, ea, eb, pr⟩ := hs
    have hsum : ∀ s ∈ ks, er ce d s ≤ 7 := fun s hs' => by
      have z : (ks.map (er ce d)).sum ≤ 7 := he7
      have := le_sum (l := ks.map (er ce d)) (fun x hx => by
        obtain ⟨s2, hs2, rfl⟩ := List.mem_map.mp hx
        exact er_nonneg (c := ce) (fun j _ hj => h0 j hj) d s2 (ho.2.2 s2 hs2)) _ (List.mem_map_of_mem hs')
      omega
    refine ⟨_, rfl, case_no ea (by show 1 ≤ 1000; decide) (by decide +kernel) (case_no ea (by show 1 ≤ 1000; decide) (by decide +kernel) (case_yes ea (by show 1 ≤ 1000; decide) rfl ?_))⟩
    refine ⟨_, rfl, _, rfl, _, rfl, _, rfl, pa, wr, vw, b, ks, kv, i, d, st, c, wh, rfl, R, hst, ⟨eb, pr, fun s hs' => ⟨ho.2.2 s hs', hsum s hs'⟩, ho.2.1, hk'⟩, by omega, fun r fv Hr sr hr0 er' EA => ?_⟩
    have hpos : ∀ s ∈ ks, ∀ j, ∀ r ∈ (fun s j => rP ps ws k s st c (wh ++ [j])) s j, 0 < r.2.1 := fun s hs' j r hr => ((rP_good (ws := ws) (fun j s e => (hp j s e).1) k i d s st c (wh ++ [j]) (ho.2.2 s hs')).1 r hr).1
    have hlen : ∀ s ∈ ks, ∀ j, ((fun s j => rP ps ws k s st c (wh ++ [j])) s j).length ≤ 63 := fun s hs' j => rP_len hp h0 (ho.2.2 s hs') (hsum s hs')
    have q : ∀ (f : Addr) (rv : List V) (H' : Hp), Same H H' → H f = none → H' f = some (.lst rv) → Paired (RowR H') (bestR (fun s j => rP ps ws k s st c (wh ++ [j])) ks 0 []) rv → Q (.ref f) H' := q
    generalize (fun s j => rP ps ws k s st c (wh ++ [j])) = F at q EA hpos hlen
    obtain ⟨hfl, hEA⟩ := EA
    have hk0 : 0 < ks.length := ho.1
    refine ⟨r, fv, fun i => ((pts (FF F ks i) : Nat) : Int), rfl, rfl, er', fun x hx => ?_, by omega, fun H' i' x sm ex => ?_, fun x H' sm ex => ?_⟩
    · obtain ⟨j, hj⟩ := List.getElem?_of_mem hx
      have hjl : j < ks.length := by rw [← hfl]; exact (List.getElem?_eq_some_iff.mp hj).1
      obtain ⟨g, rv, e1, _⟩ := hEA j _ (List.getElem?_eq_getElem hjl)
      rw [hj] at e1
      exact ⟨g, Option.some.inj e1⟩
    · have hjl : i' < ks.length := by rw [← hfl]; exact (List.getElem?_eq_some_iff.mp ex).1
      have es := List.getElem?_eq_getElem hjl
      obtain ⟨g, rv, e1, e2, e3, e4⟩ := hEA i' _ es
      rw [ex] at e1
      cases e1
      have l63 := hlen _ (List.getElem_mem hjl) i'
      refine ⟨g, F (ks[i']'hjl) i', rv, rfl, sm _ _ e3, paired_imp e4 fun _ _ h => RowR.keep h (Same.tupK sm), by omega, fun H'' s2 => ⟨?_, s2⟩⟩
      have eFF : FF F ks i' = F (ks[i']'hjl) i' := by unfold FF; rw [es]
      show V.int ((pts (F (ks[i']'hjl) i') : Nat) : Int) = V.int ((pts (FF F ks i') : Nat) : Int)
      rw [eFF]
    · rw [hfl] at ex
      have ha := arg_le (gtB fun i => ((pts (FF F ks i) : Nat) : Int)) (ks.length - 1)
      have hb := best_arg (f := F) hpos (ks.length - 1) (by omega)
      rw [show ks.length - 1 + 1 = ks.length by omega, List.take_length] at hb
      generalize argBest (gtB fun i => ((pts (FF F ks i) : Nat) : Int)) (ks.length - 1) = j at ex ha hb
      have hjl : j < ks.length := by omega
      have es := List.getElem?_eq_getElem hjl
      obtain ⟨g, rv, e1, e2, e3, e4⟩ := hEA j _ es
      rw [ex] at e1
      cases e1
      refine q g rv H' (sr.trans sm) e2 (sm _ _ e3) ?_
      rw [hb]
      unfold FF
      rw [es]
      exact paired_imp e4 fun _ _ h => RowR.keep h (Same.tupK sm)
  | most n s' =>
    obtain ⟨a, u, rfl, ea, hs'⟩ := hs
    obtain ⟨nn, rfl⟩ := nat_of (p := n) ho.1.1
    refine ⟨_, rfl, case_no ea (by show 2 ≤ 1000; decide) (by decide +kernel) (case_no ea (by show 2 ≤ 1000; decide) (by decide +kernel) (case_no ea (by show 2 ≤ 1000; decide) (by decide +kernel) (case_yes ea (by show 2 ≤ 1000; decide) rfl ?_)))⟩
    refine ⟨_, rfl, _, rfl, ?_⟩
    refine cat_at (i := 2) (j := 0) rfl R.wher (by omega) (fun Q q => q) (fun wr' H1 s1 ew => ?_)
    refine ⟨_, rfl, ?_⟩
    dsimp only [tNil]
    refine inner s1 ew (R.view.keep s1) hst (SAt.keep (Same.tupK s1) _ _ _ hs') ho.2 he7 fun f rv H2 s2 hf ef pr => ?_
    have l63 := rP_len (ws := ws) hp h0 (k := k) (st := st) (c := c) (wh := wh ++ [0]) ho.2 he7
    refine ⟨_, rfl, f, nn, _, rv, rfl, ef, pr, by omega, fun f3 rv3 H3 s3 hf3 ef3 pr3 => q f3 rv3 H3 ((s1.trans s2).trans s3) ((s1.trans s2).free hf3) ef3 ?_⟩
    show Paired (RowR H3) (firstP (rP ps ws k s' st c (wh ++ [0])) ((nn : Nat) : Int).toNat) rv3
    rw [Int.toNat_natCast]
    exact pr3
  | half s' =>
    obtain ⟨a, u, rfl, ea, hs'⟩ := hs
    refine ⟨_, rfl, case_no ea (by show 1 ≤ 1000; decide) (by decide +kernel) (case_no ea (by show 1 ≤ 1000; decide) (by decide +kernel) (case_no ea (by show 1 ≤ 1000; decide) (by decide +kernel) (case_no ea (by show 1 ≤ 1000; decide) (by decide +kernel) (case_yes ea (by show 1 ≤ 1000; decide) rfl ?_))))⟩
    refine ⟨_, rfl, _, rfl, ?_⟩
    refine cat_at (i := 2) (j := 0) rfl R.wher (by omega) (fun Q q => q) (fun wr' H1 s1 ew => ?_)
    refine ⟨_, rfl, ?_⟩
    dsimp only [tNil]
    refine inner s1 ew (R.view.keep s1) hst (SAt.keep (Same.tupK s1) _ _ _ hs') ho he7 fun f rv H2 s2 hf ef pr => ?_
    have l63 := rP_len (ws := ws) hp h0 (k := k) (i := i) (d := d) (s := s') (st := st) (c := c) (wh := wh ++ [0]) ho he7
    dsimp only [gName]
    refine ⟨_, rfl, _, rfl, f, _, rv, rfl, ef, pr, by omega, fun H3 s3 => ?_⟩
    refine ⟨_, _, rfl, rfl, ⟨by decide, by decide⟩, ?_⟩
    refine ⟨f, pts (rP ps ws k s' st c (wh ++ [0])) / 2, _, rv, congrArg (fun z => [V.ref f, V.int z]) (show ((pts (rP ps ws k s' st c (wh ++ [0])) : Nat) : Int) / 2 = ((pts (rP ps ws k s' st c (wh ++ [0])) / 2 : Nat) : Int) by omega), s3 _ _ ef, paired_imp pr fun _ _ h => RowR.keep h (Same.tupK s3), by omega, fun f4 rv4 H4 s4 hf4 ef4 pr4 => ?_⟩
    have sm := ((s1.trans s2).trans s3)
    exact q f4 rv4 H4 (sm.trans s4) (sm.free hf4) ef4 pr4
  | seen x s' =>
    obtain ⟨a, u, rfl, ea, hs'⟩ := hs
    refine ⟨_, rfl, case_no ea (by show 2 ≤ 1000; decide) (by decide +kernel) (case_no ea (by show 2 ≤ 1000; decide) (by decide +kernel) (case_no ea (by show 2 ≤ 1000; decide) (by decide +kernel) (case_no ea (by show 2 ≤ 1000; decide) (by decide +kernel) (case_no ea (by show 2 ≤ 1000; decide) (by decide +kernel) (case_yes ea (by show 2 ≤ 1000; decide) rfl ?_)))))⟩
    refine ⟨_, rfl, vw, dxv, _, rfl, hvw, vf_stands _ _ _, _, rfl, vw, x, ws, st, c, rfl, R.view, hw, by omega, fun H0 s0 => ⟨_, rfl, ?_⟩⟩
    have q : ∀ (f : Addr) (rv : List V) (H' : Hp), Same H H' → H f = none → H' f = some (.lst rv) → Paired (RowR H') (if (ws.any fun p => p.1 == x) = true then rP ps ws k s' st c (wh ++ [0]) else []) rv → Q (.ref f) H' := q
    have R0 := R.keep s0
    cases e : ws.any fun p => p.1 == x with
    | true =>
      rw [if_pos e] at q
      refine iteT ⟨_, rfl, _, rfl, ?_⟩
      refine cat_at (i := 2) (j := 0) rfl R0.wher (by omega) (fun Q q => q) (fun wr' H1 s1 ew => ?_)
      have s01 := s0.trans s1
      exact ⟨_, rfl, inner s01 ew (R.view.keep s01) hst (SAt.keep (Same.tupK s01) _ _ _ hs') ho.2 he7 fun f rv H2 s2 hf ef pr => q f rv H2 (s01.trans s2) (s01.free hf) ef pr⟩
    | false =>
      rw [if_neg (by rw [e]; decide)] at q
      exact iteF ⟨Nat.zero_le _, fun f hf => q f [] _ (s0.trans (Same.new hf)) (s0.free hf) upd_same .nil⟩
  | behind x s' =>
    obtain ⟨a, u, rfl, ea, hs'⟩ := hs
    refine ⟨_, rfl, case_no ea (by show 2 ≤ 1000; decide) (by decide +kernel) (case_no ea (by show 2 ≤ 1000; decide) (by decide +kernel) (case_no ea (by show 2 ≤ 1000; decide) (by decide +kernel) (case_no ea (by show 2 ≤ 1000; decide) (by decide +kernel) (case_no ea (by show 2 ≤ 1000; decide) (by decide +kernel) (case_no ea (by show 2 ≤ 1000; decide) (by decide +kernel) (case_yes ea (by show 2 ≤ 1000; decide) rfl ?_))))))⟩
    refine ⟨_, rfl, vw, dxv, _, rfl, hvw, vf_first _ _ _, _, rfl, vw, x, ws, st, c, rfl, R.view, hw, by omega, by omega, ?_⟩
    dsimp only [gName]
    have q : ∀ (f : Addr) (rv : List V) (H' : Hp), Same H H' → H f = none → H' f = some (.lst rv) → Paired (RowR H') (match hits ws c x st with
      | [] => []
      | i :: _ => rP ps ws k s' (i + 1) c (wh ++ [0])) rv → Q (.ref f) H' := q
    cases e : hits ws c x st with
    | nil =>
      rw [e] at q
      refine ⟨_, rfl, rfl, _, rfl, ?_⟩
      exact iteT ⟨Nat.zero_le _, fun f hf => q f [] _ (Same.new hf) hf upd_same .nil⟩
    | cons i0 r =>
      rw [e] at q
      have hin := hits_in e
      refine ⟨_, rfl, rfl, _, rfl, ?_⟩
      refine iteF ⟨_, rfl, _, rfl, ?_⟩
      refine cat_at (i := 2) (j := 0) rfl R.wher (by omega) (fun Q q => q) (fun wr' H1 s1 ew => ?_)
      refine ⟨_, rfl, vw, dxv, _, rfl, s1 _ _ hvw, vf_behind _ _ _, _, rfl, vw, i0, ws, st, c, rfl, R.view.keep s1, fun vw2 H2 s2 hv2 => ?_⟩
      have s12 := s1.trans s2
      exact inner s12 (s2 _ _ ew) hv2 (by omega) (SAt.keep (Same.tupK s12) _ _ _ hs') ho.2 he7 fun f rv H3 s3 hf ef pr => q f rv H3 (s12.trans s3) (s12.free hf) ef pr
  | carry s' =>
    obtain ⟨a, u, rfl, ea, hs'⟩ := hs
    refine ⟨_, rfl, case_no ea (by show 1 ≤ 1000; decide) (by decide +kernel) (case_no ea (by show 1 ≤ 1000; decide) (by decide +kernel) (case_no ea (by show 1 ≤ 1000; decide) (by decide +kernel) (case_no ea (by show 1 ≤ 1000; decide) (by decide +kernel) (case_no ea (by show 1 ≤ 1000; decide) (by decide +kernel) (case_no ea (by show 1 ≤ 1000; decide) (by decide +kernel) (case_no ea (by show 1 ≤ 1000; decide) (by decide +kernel) (case_yes ea (by show 1 ≤ 1000; decide) rfl ?_)))))))⟩
    refine ⟨_, rfl, _, rfl, ?_⟩
    refine cat_at (i := 2) (j := 0) rfl R.wher (by omega) (fun Q q => q) (fun wr' H1 s1 ew => ?_)
    refine ⟨_, rfl, vw, dxv, _, rfl, s1 _ _ hvw, vf_carrying _ _ _, vw, ws, st, c, rfl, R.view.keep s1, fun vw2 H2 s2 hv2 => ?_⟩
    have s12 := s1.trans s2
    exact inner s12 (s2 _ _ ew) hv2 hst (SAt.keep (Same.tupK s12) _ _ _ hs') ho he7 fun f rv H3 s3 hf ef pr => q f rv H3 (s12.trans s3) (s12.free hf) ef pr
  | fin x p s' =>
    obtain ⟨a, u, rfl, ea, hs'⟩ := hs
    obtain ⟨pn, rfl⟩ := nat_of (p := p) (by have := ho.1.2.1; omega)
    have he7' : er ce d s' ≤ 7 := by
      have z : 1 + er ce d s' ≤ 7 := he7
      omega
    refine ⟨_, rfl, case_no ea (by show 3 ≤ 1000; decide) (by decide +kernel) (case_no ea (by show 3 ≤ 1000; decide) (by decide +kernel) (case_no ea (by show 3 ≤ 1000; decide) (by decide +kernel) (case_no ea (by show 3 ≤ 1000; decide) (by decide +kernel) (case_no ea (by show 3 ≤ 1000; decide) (by decide +kernel) (case_no ea (by show 3 ≤ 1000; decide) (by decide +kernel) (case_no ea (by show 3 ≤ 1000; decide) (by decide +kernel) (case_no ea (by show 3 ≤ 1000; decide) (by decide +kernel) (case_yes ea (by show 3 ≤ 1000; decide) rfl ?_))))))))⟩
    refine ⟨_, rfl, vw, dxv, _, rfl, hvw, vf_last _ _ _, _, rfl, vw, x, ws, st, c, rfl, R.view, hw, by omega, ?_⟩
    have q : ∀ (f : Addr) (rv : List V) (H' : Hp), Same H H' → H f = none → H' f = some (.lst rv) → Paired (RowR H') (if lastOk ws c x st = true then [(ws.length - 1, ((pn : Nat) : Int).toNat, wh)] else rP ps ws k s' st c (wh ++ [0])) rv → Q (.ref f) H' := q
    refine ⟨_, rfl, _, rfl, if lastOk ws c x st = true then some (ws.length - 1) else none, pn, wr, wh, rfl, R.wher, fun f rv H1 s1 hf ef pr => ?_⟩
    cases e : lastOk ws c x st with
    | true =>
      rw [if_pos e] at q
      rw [e] at pr
      rw [Int.toNat_natCast] at q
      have pr : Paired (RowR H1) [(ws.length - 1, pn, wh)] rv := pr
      refine ⟨true, .inl ⟨rv, SqL.of ef, ?_⟩, iteT (q f rv H1 s1 hf ef pr)⟩
      cases pr
      rfl
    | false =>
      rw [if_neg (by rw [e]; decide)] at q
      rw [e] at pr
      have pr : Paired (RowR H1) [] rv := pr
      refine ⟨false, .inl ⟨rv, SqL.of ef, by cases pr; rfl⟩, iteF ⟨_, rfl, _, rfl, ?_⟩⟩
      have R1 := R.keep s1
      refine cat_at (i := 2) (j := 0) rfl R1.wher (by omega) (fun Q q => q) (fun wr' H2 s2 ew => ?_)
      have s12 := s1.trans s2
      exact ⟨_, rfl, inner s12 ew (R.view.keep s12) hst (SAt.keep (Same.tupK s12) _ _ _ hs') ho.2 he7' fun f rv H3 s3 hf ef pr => q f rv H3 (s12.trans s3) (s12.free hf) ef pr⟩
  | use n =>
    obtain ⟨a, rfl, ea⟩ := hs
    obtain ⟨pv0, epv, pp⟩ := R.paper
    have nl : n < ps.length := by rw [hM]; exact ho.2
    obtain ⟨v', ev', hs'⟩ := paired_get2 pp (List.getElem?_eq_getElem nl)
    obtain ⟨ho', ec⟩ := hp n _ (List.getElem?_eq_getElem nl)
    have hin : i < n := ho.1
    have hnM : n < M := ho.2
    refine ⟨_, rfl, case_no ea (by show 1 ≤ 1000; decide) (by decide +kernel) (case_no ea (by show 1 ≤ 1000; decide) (by decide +kernel) (case_no ea (by show 1 ≤ 1000; decide) (by decide +kernel) (case_no ea (by show 1 ≤ 1000; decide) (by decide +kernel) (case_no ea (by show 1 ≤ 1000; decide) (by decide +kernel) (case_no ea (by show 1 ≤ 1000; decide) (by decide +kernel) (case_no ea (by show 1 ≤ 1000; decide) (by decide +kernel) (case_no ea (by show 1 ≤ 1000; decide) (by decide +kernel) (case_no ea (by show 1 ≤ 1000; decide) (by decide +kernel) (case_yes ea (by show 1 ≤ 1000; decide) rfl ?_)))))))))⟩
    refine ⟨_, rfl, _, rfl, _, rfl, pa, pv0, _, _, rfl, rfl, SqT.of epv, atI_nat ev', ?_⟩
    refine cat_at (i := 2) (j := 0) rfl R.wher (by omega) (fun Q q => q) (fun wr' H1 s1 ew => ?_)
    have R1 := R.keep s1
    have q : ∀ (f : Addr) (rv : List V) (H' : Hp), Same H H' → H f = none → H' f = some (.lst rv) → Paired (RowR H') (match ps[n]? with
      | none => []
      | some s => rP ps ws k s st c (wh ++ [0])) rv → Q (.ref f) H' := q
    rw [List.getElem?_eq_getElem nl] at q
    exact ⟨_, rfl, pa, wr', vw, v', _, n, 5, st, c, wh ++ [0], rfl, ⟨R1.paper, R1.view, ew⟩, hst, SAt.keep (Same.tupK s1) _ _ _ hs', ho', by rw [← ec]; exact h7 n hnM, by omega, by omega, fun f rv H2 s2 hf ef pr => q f rv H2 (s1.trans s2) (s1.free hf) ef pr⟩
theorem ok_rows_of (hM : ps.length = M) (hw : ∀ p ∈ ws, IsStep p) (hws : ws.length ≤ 4000) (hp : ∀ (j : Nat) (s : Sch), ps[j]? = some s → OkS j M 5 s ∧ ce j = er ce 5 s) (h0 : ∀ j, j < M → 0 ≤ ce j) (h7 : ∀ j, j < M → ce j ≤ 7) (T : PTx w K mg) (Y : VCls K mg C) (D : DRows K mg) : ∀ k : Nat, FnOk P w K mg base CX0 (3 * k + 3) D.DR.f D.DR.fd psRows (spRows C ps ws ce M k)
  | 0 => by
    have e : spRows C ps ws ce M 0 = fun _ _ _ _ => False := by
      funext vs H Q E
      refine propext ⟨fun h => ?_, fun h => h.elim⟩
      obtain ⟨pa, wr, vw, v, s, i, d, st, c, wh, _, _, _, _, ho, _, hk, _⟩ := h
      have : d = 0 := by omega
      subst this
      cases ho
    rw [e]
    exact no_sp
  | k + 1 => rows_turn hM hw hws hp h0 h7 T Y D (by omega) (ok_rows_of hM hw hws hp h0 h7 T Y D k)
end
end MS
end
section
set_option maxRecDepth 100000
set_option maxHeartbeats 4000000
namespace MS
open PySem L2
/-! ### what a work earns -/
abbrev PW : Type := { x : List Sch × List StepT // PaperOk x.1 ∧ StepsOk x.2 }
def spRowsBy1 (x : PW) : Sp := fun vs H Q _ => ∃ pa wa, vs = [.ref pa, .ref wa] ∧ PWAt H x.1.1 x.1.2 pa wa ∧ ∀ (f : Addr) (rv : List V) (H' : Hp), Same H H' → H f = none → H' f = some (.lst rv) → Paired (RowR H') (rAll x.1.1 x.1.2) rv → Q (.ref f) H'
def spMarked1 (x : PW) : Sp := fun vs H Q _ => ∃ pa wa, vs = [.ref pa, .ref wa] ∧ PWAt H x.1.1 x.1.2 pa wa ∧ ∀ H', Same H H' → Q (.int ((pts (rAll x.1.1 x.1.2) : Nat) : Int)) H'
section
variable {P : Program} {w : World} {K : PySem.W.Frag} {mg : Str → Option Value} {base : Heap} {C : Addr}
theorem rAll_len (x : PW) : (rAll x.1.1 x.1.2).length ≤ 63 := by
  obtain ⟨⟨ps, ws⟩, hP, hW⟩ := x
  obtain ⟨ce, hp, h0, h7⟩ := hP.facts
  cases ps with
  | nil => exact Nat.zero_le _
  | cons s r =>
    obtain ⟨o, e⟩ := hp 0 s rfl
    exact rP_len hp h0 (k := 30) (st := 0) (c := false) (wh := []) o (by rw [← e]; exact h7 0 hP.1)
theorem ok_rows_by (x : PW) (T : PTx w K mg) (Y : VCls K mg C) (D : DRows K mg) : FnOk P w K mg base CX0 94 D.DB.f D.DB.fd ["paper", "work"] (spRowsBy1 x) := by
  obtain ⟨⟨ps, ws⟩, hP, hW⟩ := x
  have hP : PaperOk ps := hP
  have hW : StepsOk ws := hW
  obtain ⟨ce, hp, h0, h7⟩ := hP.facts
  have GI : FnOk P w K mg base CX0 1 Y.DI.f Y.DI.fd ["self", "steps", "start", "ways"] (spVInit C) := ok_vinit Y
  have G : FnOk P w K mg base CX0 93 D.DR.f D.DR.fd psRows (spRows C ps ws ce ps.length 30) := ok_rows_of rfl hW.1 hW.2 hp h0 h7 T Y D 30
  obtain ⟨tr, gr⟩ := T.right
  refine D.DB.ok sc_rows_by (fun vs H Q E h => ?_) (fun cdv A outer s H vs Q E hr h => ?_)
  · obtain ⟨pa, wa, rfl, _⟩ := h
    rfl
  obtain ⟨pa, wa, rfl, R, q⟩ := h
  have R : PWAt H ps ws pa wa := R
  have hr2 : Room (1 + 1) _ := hr.mono (by decide)
  refine ⟨_, pss_one (ps_ret (pcall D.DR G hr (pa_cons (pv 0) (pa_cons (pe_ix ix_tup (pv 0) pe_int (fun _ _ => rfl)) (pa_cons (pe_tup pa_nil) (pa_cons (pe_make Y.mk' GI hr2 rfl Y.mgC Y.DI.b .nil pass0 (pa_cons (pv 1) (pa_cons pe_int (pa_cons (pe_tup (pa_cons (pe_glob rfl gr (v := .str "r") ⟨_, rfl⟩) pa_nil)) pa_nil)))) pa_nil)))))), ?_⟩
  obtain ⟨pv0, epv, pp⟩ := R.paper
  have hPl := hP.1
  have hP5 := hP.2.1
  cases ps with
  | nil => exact absurd hPl (by decide)
  | cons s0 pr =>
  obtain ⟨v0, ev0, hs0⟩ := paired_get2 pp (k := 0) rfl
  obtain ⟨o0, e0⟩ := hp 0 s0 rfl
  refine ⟨_, rfl, _, rfl, pa, pv0, 0, v0, rfl, rfl, SqT.of epv, atI_nat (j := 0) ev0, Nat.zero_le _, fun t ht => ?_⟩
  have s1 : Same H (upd H t (.tup [])) := Same.new ht
  refine ⟨_, rfl, (by show 1 ≤ sizeLine; decide), fun t2 ht2 => ?_⟩
  have s2 := s1.trans (Same.new (o := .tup [.str "r"]) ht2)
  have et : upd (upd H t (.tup [])) t2 (.tup [.str "r"]) t = some (.tup []) := Same.new ht2 _ _ upd_same
  intro x dx hx hdx ne
  refine view_made (C := C) (ws := ws) (st := 0) (c := false) (Q := fun v H2 => spRows C (s0 :: pr) ws ce (s0 :: pr).length 30 [.ref pa, v0, .ref t, v] H2 Q E0) (s2 _ _ R.work) upd_same hx hdx ne rfl fun u H' sm hu => ?_
  have s3 := s2.trans sm
  have R3 := R.keep s3
  refine ⟨pa, t, u, v0, s0, 0, 5, 0, false, [], rfl, ⟨R3.paper, hu, sm _ _ et⟩, Nat.zero_le _, SAt.keep (Same.tupK s3) _ _ _ hs0, o0, by rw [← e0]; exact h7 0 hPl, by omega, by decide, fun f rv H4 s4 hf ef pr4 => ?_⟩
  exact q f rv H4 (s3.trans s4) (s3.free hf) ef pr4
theorem ok_earned_p (x : PW) (hWk : WorkOk x.1.2) (T : PTx w K mg) (Y : VCls K mg C) (D : DRows K mg) (DP : DPaper K mg) : FnOk P w K mg base CX0 95 D.DN.f D.DN.fd ["paper", "work"] (spRowsBy1 x) := by
  have GC : FnOk P w K mg base CX0 5 DP.DC.f DP.DC.fd ["paper"] spCheckPaper := ok_check_paper T DP
  have GW : FnOk P w K mg base CX0 2 D.DC.f D.DC.fd ["work"] spCheckWork := ok_check_work T D.DC D.DI
  have GB : FnOk P w K mg base CX0 94 D.DB.f D.DB.fd ["paper", "work"] (spRowsBy1 x) := ok_rows_by x T Y D
  refine D.DN.ok sc_earned (fun vs H Q E h => ?_) (fun cdv A outer s H vs Q E hr h => ?_)
  · obtain ⟨pa, wa, rfl, _⟩ := h
    rfl
  obtain ⟨pa, wa, rfl, R, q⟩ := h
  have hr5 : Room 5 _ := hr.mono (by decide)
  have hr2 : Room 2 _ := hr.mono (by decide)
  refine ⟨_, pss_cons (ps_expr (pcall DP.DC GC hr5 (pa_cons (pv 0) pa_nil))) (pss_cons (ps_expr (pcall D.DC GW hr2 (pa_cons (pv 1) pa_nil)))
    (pss_one (ps_ret (pcall D.DB GB hr (pa_cons (pv 0) (pa_cons (pv 1) pa_nil)))))), ?_⟩
  obtain ⟨pv0, epv, pp⟩ := R.paper
  refine ⟨_, rfl, pa, x.1.1, pv0, rfl, epv, pp, x.2.1, fun H1 s1 => ?_⟩
  refine ⟨_, rfl, wa, x.1.2, rfl, s1 _ _ R.work, hWk, fun H2 s2 => ?_⟩
  have s12 := s1.trans s2
  exact ⟨_, rfl, _, rfl, pa, wa, rfl, R.keep s12, fun f rv H3 s3 hf ef pr => q f rv H3 (s12.trans s3) (s12.free hf) ef pr⟩
theorem ok_marked_p (x : PW) (hWk : WorkOk x.1.2) (T : PTx w K mg) (Y : VCls K mg C) (D : DRows K mg) (DP : DPaper K mg) : FnOk P w K mg base CX0 96 D.DM.f D.DM.fd ["paper", "work"] (spMarked1 x) := by
  have GN : FnOk P w K mg base CX0 95 D.DN.f D.DN.fd ["paper", "work"] (spRowsBy1 x) := ok_earned_p x hWk T Y D DP
  have GPt : FnOk P w K mg base CX0 1 D.DPt.f D.DPt.fd ["rows"] spPoints := ok_points_of T D.DPt
  refine D.DM.ok sc_marked (fun vs H Q E h => ?_) (fun cdv A outer s H vs Q E hr h => ?_)
  · obtain ⟨pa, wa, rfl, _⟩ := h
    rfl
  obtain ⟨pa, wa, rfl, R, q⟩ := h
  have hr1 : Room 1 _ := hr.mono (by decide)
  refine ⟨_, pss_one (ps_ret (pcall D.DPt GPt hr1 (pa_cons (pcall D.DN GN hr (pa_cons (pv 0) (pa_cons (pv 1) pa_nil))) pa_nil))), ?_⟩
  refine ⟨_, rfl, _, rfl, ?_⟩
  dsimp only [tNil]
  refine ⟨pa, wa, rfl, R, fun f rv H1 s1 hf ef pr => ?_⟩
  have := rAll_len x
  exact ⟨f, _, rv, rfl, ef, pr, by omega, fun H2 s2 => q H2 (s1.trans s2)⟩
end
end MS
end
section
set_option maxRecDepth 100000
/-! for x, y in zip(a list, a tuple) -/
namespace L2
open PySem PySem.Spec PyProof.Rows
/-- a list's and a tuple's items, turn by turn, in new pairs -/
def ItzM (K : PySem.W.Frag) (a b : Addr) : It :=
  ⟨fun i H => ∃ (xs ys : List V) (x y : V), SqL K H a xs ∧ SqT K H b ys ∧ xs[i]? = some x ∧ ys[i]? = some y,
    fun i H v H' => ∃ T x y, v = .ref T ∧ H T = none ∧ H' = upd H T (.tup [x, y]) ∧ (∀ xs, SqL K H a xs → xs[i]? = some x) ∧ ∀ ys, SqT K H b ys → ys[i]? = some y,
    fun i H => ∃ xs ys : List V, SqL K H a xs ∧ SqT K H b ys ∧ i ≤ xs.length ∧ i ≤ ys.length ∧ (i = xs.length ∨ i = ys.length)⟩
structure ApartM (z TI TO i1 i2 a b : Addr) : Prop where
  sep : ZipSep2 z TI TO i1 i2 [i1, a] [i2, b]
  na : a ≠ i1
  nb : b ≠ i2
theorem apart_new (n a b : Nat) (ha : a < n) (hb : b < n) : ApartM (n + 4) (n + 2) (n + 3) n (n + 1) a b := by
  have h1 : ∀ x y c : Nat, x ≠ y → x ≠ c → x ∉ [y, c] := fun x y c e1 e2 h => by
    rcases List.mem_cons.mp h with h | h
    · exact e1 h
    · exact e2 (List.mem_singleton.mp h)
  exact ⟨⟨(by omega : n + 2 ≠ n + 4), (by omega : n + 3 ≠ n + 4), (by omega : n + 2 ≠ n + 3), (by omega : n + 2 ≠ n), List.mem_cons_self, h1 _ _ _ (by omega) (by omega), h1 _ _ _ (by omega) (by omega), (by omega : n + 2 ≠ n + 1), List.mem_cons_self, h1 _ _ _ (by omega) (by omega), h1 _ _ _ (by omega) (by omega),
    h1 _ _ _ (by omega) (by omega), h1 _ _ _ (by omega) (by omega)⟩, (by omega : a ≠ n), (by omega : b ≠ n + 1)⟩
theorem new_five (n c : Nat) (h : c ∈ [n + 4, n + 2, n + 3, n, n + 1]) : n ≤ c := by
  simp only [List.mem_cons, List.not_mem_nil, or_false] at h
  omega
theorem turn_zipM {P : Program} {w : World} {K : PySem.W.Frag} {elts : List Expr} {kk : Nat} {tpos : Pos} {a b z TI TO i1 i2 : Addr} (D : ApartM z TI TO i1 i2 a b) :
    Turn P w K (.Tuple elts kk tpos) (ItzM K a b) [z, TI, TO, i1, i2] z (fun i h => IsZip h z TI TO .none ∧ IsTupOf2 h TI (.ref i1) (.ref i2) ∧ (∃ x y, IsTupOf2 h TO x y) ∧ h.IsListIter i1 a i ∧ h.IsTupleIter i2 b i) where
  mem := by simp
  obj := fun i h ⟨hz, hTI, ⟨x, y, hTO⟩, ⟨o1, e1, _, d1⟩, ⟨o2, e2, _, d2⟩⟩ c hc => by
    simp only [List.mem_cons, List.not_mem_nil, or_false] at hc
    rcases hc with q | q | q | q | q <;> rw [q]
    · exact ⟨_, hz, fun v q => nomatch q⟩
    · exact ⟨_, hTI, fun v q => nomatch q⟩
    · exact ⟨_, hTO, fun v q => nomatch q⟩
    · exact ⟨o1, e1, fun v q => by rw [d1] at q; cases q⟩
    · exact ⟨o2, e2, fun v q => by rw [d2] at q; cases q⟩
  keep := fun i h h' ⟨hz, hTI, ⟨x, y, hTO⟩, h1, h2⟩ k => ⟨k z (by simp) _ hz, k TI (by simp) _ hTI, ⟨x, y, k TO (by simp) _ hTO⟩, h1.at fun o q => k i1 (by simp) o q, h2.at fun o q => k i2 (by simp) o q⟩
  item := by
    intro X hP hw hK hc i pins s σ H E I hf ⟨hz, hTI, ⟨x0, y0, hTO⟩, h1, h2⟩ ⟨xs, ys, x, y, hqx, hqy, hx, hy⟩
    subst hP hw hK
    obtain ⟨its, rv, p, _⟩ := I.list hqx
    obtain ⟨its2, rv2, p2, _⟩ := I.tuple hqy
    obtain ⟨u, hu, ru⟩ := rv.get hx
    obtain ⟨u2, hu2, ru2⟩ := rv2.get hy
    have hh : X.A.in1.handled = none := I.ok.hd hc
    have hzl : z < s.heap.objs.size := Heap.lt_size hz
    have l1 : i < its.toArray.size := by
      have := (List.getElem?_eq_some_iff.mp hu).1
      simpa using this
    have l2 : i < its2.toArray.size := by
      have := (List.getElem?_eq_some_iff.mp hu2).1
      simpa using this
    refine wpAny_pyNext_zipD2_item D.sep (Draws.list hh i1 a D.na its.toArray) (Draws.tuple hh i2 b D.nb its2.toArray) hz hTI hTO ⟨h1, p.isList⟩ ⟨h2, p2⟩ l1 l2 fun x1 x2 h' tk e1 e2 z' TO' s1 s2 hT hsz hk => ?_
    obtain rfl : x1 = u := by
      have e1 : its.toArray[i]? = some x1 := e1
      rw [List.getElem?_toArray, hu] at e1
      exact (Option.some.inj e1).symm
    obtain rfl : x2 = u2 := by
      have e2 : its2.toArray[i]? = some x2 := e2
      rw [List.getElem?_toArray, hu2] at e2
      exact (Option.some.inj e2).symm
    refine ⟨_, rfl, wpAny_letOwnedTupleGo_zip (s := { s with heap := h', toks := tk }) z' fun h'' z'' sb => ?_⟩
    have hT2 : h''.get? s.heap.objs.size = some { cls := .type "tuple", data := .seq #[x1, x2] } := (sb.2 _ (Nat.ne_of_gt hzl)).trans hT
    have new : ObjOk X.prog X.w (upd H s.heap.objs.size (.tup [x, y])) h'' s.heap.objs.size (.tup [x, y]) :=
      ⟨by show 2 ≤ sizeLine; decide, [x1, x2], .cons ru (.cons ru2 .nil), ⟨_, hT2, rfl, _, rfl⟩⟩
    have kk : ∀ c o, c ∉ [z, TI, TO, i1, i2] → s.heap.get? c = some o → h''.get? c = some o := fun c o hb q => by
      simp only [List.mem_cons, List.not_mem_nil, or_false, not_or] at hb
      exact (sb.2 c hb.1).trans (hk c o hb.1 hb.2.2.1 hb.2.2.2.1 hb.2.2.2.2 q)
    have I1 : Inv X pins σ (upd H s.heap.objs.size (.tup [x, y])) { s with heap := h'', toks := tk } := I.turnedNew (t' := tk) (ch := [z, TI, TO, i1, i2]) kk hf (Nat.le_refl _) new
    refine ⟨.ref s.heap.objs.size, _, I1, rfl, ⟨_, x, y, rfl, I.hok.fresh (Nat.le_refl _), rfl, fun l hl => by rw [I.list_inj hl hqx]; exact hx, fun l hl => by rw [I.tuple_inj hl hqy]; exact hy⟩, ⟨z'', ?_, ⟨x1, x2, ?_⟩, ?_, ?_⟩, fun c hcm => ?_⟩
    · exact (sb.2 _ D.sep.TIz).trans (hk _ _ D.sep.TIz D.sep.TITO D.sep.TIi1 D.sep.TIi2 hTI)
    · exact (sb.2 _ D.sep.TOz).trans TO'
    · exact s1.1.at fun o q => (sb.2 _ (ZipSep2.zi1 D.sep).symm).trans q
    · exact s2.1.at fun o q => (sb.2 _ (ZipSep2.zi2 D.sep).symm).trans q
    · have hlt : c < s.heap.objs.size := by
        simp only [List.mem_cons, List.not_mem_nil, or_false] at hcm
        rcases hcm with q | q | q | q | q <;> rw [q]
        · exact hzl
        · exact Heap.lt_size hTI
        · exact Heap.lt_size hTO
        · obtain ⟨_, e1, _⟩ := h1; exact Heap.lt_size e1
        · obtain ⟨_, e1, _⟩ := h2; exact Heap.lt_size e1
      rw [upd_ne (Nat.ne_of_lt hlt)]
      exact (hf c hcm).1
  done := by
    intro X hP hw hK hc i pins s σ H E I hf ⟨hz, hTI, ⟨x0, y0, hTO⟩, h1, h2⟩ ⟨xs, ys, hqx, hqy, hle1, hle2, hend⟩
    subst hP hw hK
    obtain ⟨its, rv, p, _⟩ := I.list hqx
    obtain ⟨its2, rv2, p2, _⟩ := I.tuple hqy
    have l1 := rv.length
    have l2 := rv2.length
    have hh : X.A.in1.handled = none := I.ok.hd hc
    refine wpAny_pyNext_zipD2_end D.sep (Draws.list hh i1 a D.na its.toArray) (Draws.tuple hh i2 b D.nb its2.toArray) hz hTI hTO ⟨h1, p.isList⟩ ⟨h2, p2⟩ (by simp; omega) (by simp; omega) (by simp; omega) fun h' tk hk => ⟨rfl, I.turnedL (t' := tk) (ch := [z, TI, TO, i1, i2]) (fun c o hb q => ?_) hf⟩
    simp only [List.mem_cons, List.not_mem_nil, or_false, not_or] at hb
    exact hk c o hb.1 hb.2.2.1 hb.2.2.2.1 hb.2.2.2.2 q
  self := fun A i s Q E st h => wpAny_pyIter_zip st.1 h
def iZipM (K : PySem.W.Frag) (ta : TA) : TI := fun σ H R => ta σ H fun vs H1 => ∃ a b xs ys, vs = [.ref a, .ref b] ∧ SqL K H1 a xs ∧ SqT K H1 b ys ∧ R (ItzM K a b) H1
theorem pi_zipM {X : Cx} {e e2 : Expr} {ta : TA} {p pos tpos : Pos} {elts : List Expr} {kk : Nat} (hg : Gl X "zip") (hm : X.mg "zip" = none) (ha : PA X [e, e2] ta)
    (hs : starEach [e, e2] X.env = (false, eval e X.env) :: starEach [e2] X.env := by rfl) (hpl : (backTo pos (starEach [e2] X.env)).any (·.1) = false := by rfl) :
    PI X (.Tuple elts kk tpos) (.Call (.Name "zip" p) [e, e2] [] pos) (iZipM X.K ta) := by
  refine ⟨fun pins s σ H R I h => Call_ (ld_blt I hg hm PyProof.Rows.boot_zip (PyProof.Rows.callWith_type1 (thn (ha.run pos pins s σ H _ I h) fun us s1 ⟨vs, H1, I1, r1, a, b, xs, ys, ex, hqx, hqy, q⟩ => ?_) hs hpl))⟩
  subst ex
  obtain ⟨v1, v2, rfl, r, r'⟩ : ∃ v1 v2, us = [v1, v2] ∧ RelV (.ref a) v1 ∧ RelV (.ref b) v2 := by
    cases r1 with
    | cons r rr =>
      cases rr with
      | cons r' rr =>
        cases rr
        exact ⟨_, _, rfl, r, r'⟩
  cases r
  cases r'
  obtain ⟨its, rv, p1, _⟩ := I1.list hqx
  obtain ⟨its2, rv2, p2, _⟩ := I1.tuple hqy
  obtain ⟨o2, ho2, _⟩ := id p2
  have la := p1.lt
  have lb := Heap.lt_size ho2
  have D := apart_new s1.heap.objs.size a b la lb
  refine zip_begins2 (begins_list a its.toArray) (begins_tuple b its2.toArray) p1.isList p2 fun h' hz hTI hTO h1 h2 hsz hk => wpAny_pyIter_zip hz ?_
  have I2 : Inv X pins σ H1 { s1 with heap := h' } := I1.kept (t' := s1.toks) hk
  refine ⟨s1.heap.objs.size + 4, [s1.heap.objs.size + 4, s1.heap.objs.size + 2, s1.heap.objs.size + 3, s1.heap.objs.size, s1.heap.objs.size + 1], _, _, H1, rfl, I2, turn_zipM D, ⟨hz, hTI, ⟨_, _, hTO⟩, ⟨_, h1, rfl, rfl⟩, ⟨_, h2, rfl, rfl⟩⟩, fun c hcm => ?_, q⟩
  have hle : s1.heap.objs.size ≤ c := new_five _ _ hcm
  exact I1.fpOk hle (I1.hok.fresh hle)
theorem walk_zipM {K : PySem.W.Frag} {a b : Addr} {xs ys : List V} {n : Nat} (hn : n = min xs.length ys.length) : Walk (ItzM K a b) n (fun H => SqL K H a xs ∧ SqT K H b ys) (YPair (fun i => xs[i]?) (fun i => ys[i]?)) := by
  subst hn
  refine ⟨fun i _ hi q => ?_, fun _ q => ⟨xs, ys, q.1, q.2, by omega, by omega, by omega⟩, fun i H v H' _ q ⟨T, x, z, h1, h2, h3, h4, h5⟩ => ⟨T, x, z, h1, h2, h3, h4 xs q.1, h5 ys q.2⟩⟩
  have h1 : i < xs.length := by omega
  have h2 : i < ys.length := by omega
  exact ⟨xs, ys, xs[i], ys[i], q.1, q.2, List.getElem?_eq_getElem h1, List.getElem?_eq_getElem h2⟩
end L2
end
section
set_option maxRecDepth 100000
set_option maxHeartbeats 4000000
/-! tuple * int, also by one -/
namespace L2
open PySem PySem.Spec PyProof.Rows
theorem tuple_mul1 (l : Addr) (items : Array Value) (n : Nat) (dd : Option Addr) (sl : Array (Option Value)) (u : Tok) :
    Meets (Builtin.«tuple.__mul__» ⟨[.ref l, .int 1 u], []⟩) (fun _ R s => s.heap.get? l = some { cls := .type "tuple", dict := dd, data := .seq items n, slots := sl } ∧ R (.ok (.ret (Value.ref l))) s) :=
  .of_wp fun prog w A R s h => by
    obtain ⟨hp, g, d, tk, os⟩ := s
    obtain ⟨hl, h⟩ := h
    have f1 := AutoSeq1.idx_int
    have c0 : (decide ((1 : Int) < -(2 ^ 63)) || decide ((1 : Int) ≥ 2 ^ 63)) = false := by decide
    have c1 : (items.isEmpty || (1 : Int) == 1) = true := by rw [show ((1 : Int) == 1) = true from rfl, Bool.or_true]
    wp_walk using wpAny_loadPart' hl
    repeat (first
      | (refine wpAny_ite_false (decide_eq_false (by rw [c0]; exact Bool.false_ne_true)) ?_; wp_walk using wpAny_loadPart' hl)
      | (refine wpAny_ite_true (decide_eq_true c1) ?_; wp_walk using wpAny_loadPart' hl))
    exact ⟨_, rfl, h⟩
/-- k = 1: the tuple itself -/
def rRepTA (K : PySem.W.Frag) : R2 := fun x y H Q => (∃ l xs, x = .ref l ∧ y = .int 1 ∧ SqT K H l xs ∧ Q (.ref l) H) ∨ rRepT K x y H Q
theorem op_repTA {X : Cx} : OpR X (binaryOp .Mult) (rRepTA X.K) := by
  intro pins s σ H x y v u Q I rx ry h
  rcases h with ⟨l, xs, rfl, rfl, hT, q⟩ | h
  · cases rx
    obtain ⟨t, rfl⟩ := ry
    obtain ⟨its, r, ⟨⟨cls, dd, data, sl⟩, ho, hc, n, hd⟩, hs⟩ := I.tuple hT
    simp only at hc hd
    subst hc hd
    exact wpAny_binaryOp_repeat_ref (T := "tuple") (U := "int") (by decide) ⟨_, ho, rfl⟩ (fun s' => typeIs_int s' 1 t) noFill_tuple_mul F.fills_int_mul F.slot_int_rmul repeat_tuple F.slot_int_index.lookup
      (call_meets F.slot_int_rmul (typeIs_int s 1 t) F.entry_int_rmul (F.args_int_rmul_2 _ _) (int_rmul_tuple 1 t l its.toArray n dd sl)
        ⟨ho, rfl, ⟨_, ho, rfl⟩, call_meets F.slot_tuple_mul ⟨_, ho, rfl⟩ F.entry_tuple_mul (F.args_tuple_mul_2 _ _) (tuple_mul1 l its.toArray n dd sl t) ⟨ho, .ref l, H, I, rfl, q⟩⟩)
  · exact op_repT pins s σ H x y v u Q I rx ry h
end L2
end
section
set_option maxRecDepth 100000
/-! a comprehension of two clauses over whatever a Walk is of -/
namespace L2
open PySem PySem.Spec PyProof.Rows
section
variable {J : It} {n : Nat} {G : Hp → Prop} {Y : Nat → Hp → V → Hp → Prop}
theorem inner_it (w : Walk J n G Y) {g : TG} {tt : TT} {te : TE} {vs : List Nat} {σ : St} {H1 : Hp} {D : Addr} {Qd : Hp → Prop} (Pv : Nat → Hp → Prop) (h0 : Pv 0 H1) (hG : ∀ i H, i ≤ n → Pv i H → G H)
    (hs : ∀ i x H H', i < n → Pv i H → Y i H x H' → g x (wipe σ vs) H' fun σ2 H2 => wipe σ2 vs = wipe σ vs ∧ tt σ2 H2 fun b H3 =>
      if b = true then te σ2 H3 fun y H4 => ∃ acc, H4 D = some (.lst acc) ∧ acc.length < sizeLine ∧ Pv (i + 1) (upd H4 D (.lst (acc ++ [y]))) else Pv (i + 1) H3) (hd : ∀ H, Pv n H → Qd H) :
    ∃ W : Nat → Nat → Hp → Prop, (∃ m, W 0 m H1) ∧ ∀ i m H, W i m H →
      (J.stop i H ∧ Qd H) ∨ (J.go i H ∧ ∃ Nx : Hp → Prop, (∀ H', Nx H' → ∃ m', m' < m ∧ W (i + 1) m' H') ∧ ∀ x H', J.yld i H x H' → g x (wipe σ vs) H' fun σ2 H2 => wipe σ2 vs = wipe σ vs ∧ tt σ2 H2 fun b H3 =>
        if b = true then te σ2 H3 fun y H4 => ∃ acc, H4 D = some (.lst acc) ∧ acc.length < sizeLine ∧ Nx (upd H4 D (.lst (acc ++ [y]))) else Nx H3) := by
  refine ⟨fun i m H => m = n - i ∧ i ≤ n ∧ Pv i H, ⟨n, by simp, Nat.zero_le _, h0⟩, ?_⟩
  rintro i m H ⟨rfl, hi, p⟩
  have q := hG i H hi p
  by_cases hlt : i < n
  · exact .inr ⟨w.goes i H hlt q, Pv (i + 1), fun H' p' => ⟨n - (i + 1), by omega, rfl, hlt, p'⟩, fun x H' y => hs i x H H' hlt p (w.yields i H x H' hlt q y)⟩
  · have e : i = n := by omega
    subst e
    exact .inl ⟨w.stops H q, hd H p⟩
theorem outer_it (w : Walk J n G Y) {g g1 : TG} {tt tt1 : TT} {wi1 : TI} {te : TE} {vs vs1 : List Nat} {σ : St} {H1 : Hp} {D : Addr} {Qd : Hp → Prop} (Pv : Nat → Hp → Prop) (h0 : Pv 0 (upd H1 D (.lst []))) (hG : ∀ i H, i ≤ n → Pv i H → G H)
    (hs : ∀ i x H H', i < n → Pv i H → Y i H x H' → g x (wipe σ vs) H' fun σ2 H2 => wipe σ2 vs = wipe σ vs ∧ tt σ2 H2 fun b H3 =>
      if b = true then wi1 σ2 H3 fun J1 H4 => ∃ W1 : Nat → Nat → Hp → Prop, (∃ m, W1 0 m H4) ∧ ∀ j k H, W1 j k H →
        (J1.stop j H ∧ Pv (i + 1) H) ∨ (J1.go j H ∧ ∃ Nx1 : Hp → Prop, (∀ H', Nx1 H' → ∃ k', k' < k ∧ W1 (j + 1) k' H') ∧ ∀ x H', J1.yld j H x H' → g1 x (wipe σ2 vs1) H' fun σ3 H5 => wipe σ3 vs1 = wipe σ2 vs1 ∧ tt1 σ3 H5 fun b H6 =>
          if b = true then te σ3 H6 fun y H7 => ∃ acc, H7 D = some (.lst acc) ∧ acc.length < sizeLine ∧ Nx1 (upd H7 D (.lst (acc ++ [y]))) else Nx1 H6)
      else Pv (i + 1) H3) (hd : ∀ H, Pv n H → Qd H) :
    ∃ W : Nat → Nat → Hp → Prop, (∃ m, W 0 m (upd H1 D (.lst []))) ∧ ∀ i m H, W i m H →
      (J.stop i H ∧ Qd H) ∨ (J.go i H ∧ ∃ Nx : Hp → Prop, (∀ H', Nx H' → ∃ m', m' < m ∧ W (i + 1) m' H') ∧ ∀ x H', J.yld i H x H' → g x (wipe σ vs) H' fun σ2 H2 => wipe σ2 vs = wipe σ vs ∧ tt σ2 H2 fun b H3 =>
        if b = true then wi1 σ2 H3 fun J1 H4 => ∃ W1 : Nat → Nat → Hp → Prop, (∃ m, W1 0 m H4) ∧ ∀ j k H, W1 j k H →
          (J1.stop j H ∧ Nx H) ∨ (J1.go j H ∧ ∃ Nx1 : Hp → Prop, (∀ H', Nx1 H' → ∃ k', k' < k ∧ W1 (j + 1) k' H') ∧ ∀ x H', J1.yld j H x H' → g1 x (wipe σ2 vs1) H' fun σ3 H5 => wipe σ3 vs1 = wipe σ2 vs1 ∧ tt1 σ3 H5 fun b H6 =>
            if b = true then te σ3 H6 fun y H7 => ∃ acc, H7 D = some (.lst acc) ∧ acc.length < sizeLine ∧ Nx1 (upd H7 D (.lst (acc ++ [y]))) else Nx1 H6)
        else Nx H3) := by
  refine ⟨fun i m H => m = n - i ∧ i ≤ n ∧ Pv i H, ⟨n, by simp, Nat.zero_le _, h0⟩, ?_⟩
  rintro i m H ⟨rfl, hi, p⟩
  have q := hG i H hi p
  by_cases hlt : i < n
  · exact .inr ⟨w.goes i H hlt q, Pv (i + 1), fun H' p' => ⟨n - (i + 1), by omega, rfl, hlt, p'⟩, fun x H' y => hs i x H H' hlt p (w.yields i H x H' hlt q y)⟩
  · have e : i = n := by omega
    subst e
    exact .inl ⟨w.stops H q, hd H p⟩
end
end L2
end
section
set_option maxRecDepth 100000
/-! dicts whose keys are nested tuples: {k: v}, k not in d, d[k], d[k] = v (k new), d.setdefault(k, v), len(d) -/
namespace L2
open PySem PySem.Spec PyProof.Rows
mutual
/-- the value is the key -/
def NKey (H : Hp) : NestedKey → V → Prop
  | .none, v => v = .non
  | .num i, v => v = .int i ∨ ∃ b : Bool, v = .bl b ∧ i = if b = true then 1 else 0
  | .text x, v => v = .str x
  | .tup ks, v => ∃ a vs, v = .ref a ∧ H a = some (.tup vs) ∧ NKeys H ks vs
def NKeys (H : Hp) : List NestedKey → List V → Prop
  | [], vs => vs = []
  | k :: ks, vs => ∃ v r, vs = v :: r ∧ NKey H k v ∧ NKeys H ks r
end
mutual
theorem NKey.keep {H H' : Hp} (s : ∀ a xs, H a = some (.tup xs) → H' a = some (.tup xs)) : ∀ (k : NestedKey) (v : V), NKey H k v → NKey H' k v
  | .none, _, h => h
  | .num _, _, h => h
  | .text _, _, h => h
  | .tup ks, _, h => by
    unfold NKey at h ⊢
    obtain ⟨a, vs, e, h1, h2⟩ := h
    exact ⟨a, vs, e, s _ _ h1, NKeys.keep s ks vs h2⟩
theorem NKeys.keep {H H' : Hp} (s : ∀ a xs, H a = some (.tup xs) → H' a = some (.tup xs)) : ∀ (ks : List NestedKey) (vs : List V), NKeys H ks vs → NKeys H' ks vs
  | [], _, h => h
  | k :: ks, _, h => by
    unfold NKeys at h ⊢
    obtain ⟨v, r, e, h1, h2⟩ := h
    exact ⟨v, r, e, NKey.keep s k v h1, NKeys.keep s ks r h2⟩
end
section
variable {P : Program} {w : World} {H : Hp} {h : Heap}
mutual
theorem nk_is (ok : HOk P w H h) : ∀ (k : NestedKey) (v : V) (u : Value), NKey H k v → RelV v u → NestedIs h k u
  | .none, v, u, e, r => by
    unfold NKey at e
    subst e
    cases (show u = Value.none from r)
    exact .none
  | .num i, v, u, e, r => by
    unfold NKey at e
    rcases e with rfl | ⟨b, rfl, e⟩
    · obtain ⟨t, rfl⟩ := (show ∃ t, u = Value.int i t from r)
      exact .int i t
    · cases (show u = Value.bool b from r)
      exact .bool e
  | .text x, v, u, e, r => by
    unfold NKey at e
    subst e
    obtain ⟨t, rfl⟩ := (show ∃ t, u = Value.str x t from r)
    exact .text x t
  | .tup ks, v, u, e, r => by
    unfold NKey at e
    obtain ⟨a, vs, rfl, h1, h2⟩ := e
    cases (show u = Value.ref a from r)
    obtain ⟨_, its, rv, ⟨o, ho, hc, n, hd⟩⟩ := ok a _ h1
    exact .tup ho hc hd (nks_is ok ks vs its h2 rv)
theorem nks_is (ok : HOk P w H h) : ∀ (ks : List NestedKey) (vs : List V) (us : List Value), NKeys H ks vs → Vals vs us → NestedAll h ks us
  | [], vs, us, e, r => by
    unfold NKeys at e
    subst e
    cases r
    exact .nil
  | k :: ks, vs, us, e, r => by
    unfold NKeys at e
    obtain ⟨v, rs, rfl, h1, h2⟩ := e
    cases r with
    | cons r1 r2 => exact .cons (nk_is ok k v _ h1 r1) (nks_is ok ks rs _ h2 r2)
end
end
abbrev NE : Type := NestedKey × Addr × V
/-- the dict's own object -/
def NDo (P : Program) (w : World) (d : Addr) (kvs : List NE) : HO := .ext fun h => ∃ xs : List (NestedKey × Addr × Value), Paired (fun (p : NE) (q : NestedKey × Addr × Value) => p.1 = q.1 ∧ p.2.1 = q.2.1 ∧ RelV p.2.2 q.2.2) kvs xs ∧
  ∃ o es ep, h.get? d = some o ∧ o.ExactDict ∧ o.data = .dict es ep ∧ es.toList = xs.map (entryOfKey (nestedKind P w))
/-- at d stands a dict with such keys -/
structure NDict (P : Program) (w : World) (H : Hp) (d : Addr) (kvs : List NE) : Prop where
  obj : H d = some (NDo P w d kvs)
  keys : ∀ p ∈ kvs, NKey H p.1 (.ref p.2.1) ∧ p.1.depth ≤ 8
  nodup : (kvs.map (·.1)).Nodup
  len : kvs.length ≤ sizeLine
  sys : (d == sysModules) = false
def valN (kvs : List NE) (k : NestedKey) : Option V := (kvs.find? fun p => decide (p.1 = k)).map (·.2.2)
theorem NDict.keep {P : Program} {w : World} {H H' : Hp} {d : Addr} {kvs : List NE} (n : NDict P w H d kvs) (hd : H' d = H d) (s : ∀ a xs, H a = some (.tup xs) → H' a = some (.tup xs)) : NDict P w H' d kvs :=
  ⟨hd.trans n.obj, fun p hp => ⟨NKey.keep s _ _ (n.keys p hp).1, (n.keys p hp).2⟩, n.nodup, n.len, n.sys⟩
abbrev NPr : NE → NestedKey × Addr × Value → Prop := fun p q => p.1 = q.1 ∧ p.2.1 = q.2.1 ∧ RelV p.2.2 q.2.2
theorem npr_keys : ∀ {kvs : List NE} {xs : List (NestedKey × Addr × Value)}, Paired NPr kvs xs → kvs.map (·.1) = xs.map (·.1)
  | _, _, .nil => rfl
  | _, _, .cons h t => by rw [List.map_cons, List.map_cons, h.1, npr_keys t]
theorem npr_val (k : NestedKey) : ∀ {kvs : List NE} {xs : List (NestedKey × Addr × Value)}, Paired NPr kvs xs → RelO (valN kvs k) ((atKey xs k).map (·.2))
  | _, _, .nil => True.intro
  | p :: kvs, q :: xs, .cons h t => by
    have ih := npr_val k t
    unfold valN atKey at ih ⊢
    rw [List.find?_cons, List.find?_cons, ← h.1]
    by_cases e : p.1 = k
    · simp only [e, decide_true]
      exact h.2.2
    · simp only [e, decide_false]
      exact ih
theorem npr_is {P : Program} {w : World} {H : Hp} {h : Heap} (ok : HOk P w H h) : ∀ {kvs : List NE} {xs : List (NestedKey × Addr × Value)}, Paired NPr kvs xs → (∀ p ∈ kvs, NKey H p.1 (.ref p.2.1) ∧ p.1.depth ≤ 8) → ∀ x ∈ xs, (nestedKind P w).is h x.1 x.2.1
  | _, _, .nil, _, x, hx => nomatch hx
  | p :: kvs, q :: xs, .cons r t, hk, x, hx => by
    rcases List.mem_cons.mp hx with rfl | hx
    · obtain ⟨h1, h2⟩ := hk p List.mem_cons_self
      rw [r.1, r.2.1] at h1
      rw [r.1] at h2
      exact ⟨nk_is ok _ _ _ h1 rfl, h2⟩
    · exact npr_is ok t (fun p hp => hk p (List.mem_cons_of_mem _ hp)) x hx
section
variable {X : Cx} {pins : List (Addr × Obj)} {σ : St} {H : Hp} {s : Shared}
theorem nd_of {d : Addr} {kvs : List NE} (I : Inv X pins σ H s) (n : NDict X.prog X.w H d kvs) : ∃ xs, Paired NPr kvs xs ∧ s.heap.DictOfH (nestedKind X.prog X.w) d xs ∧ xs.length ≤ sizeLine := by
  obtain ⟨⟨xs, rel, o, es, ep, h1, h2, h3, h4⟩, _, _⟩ := I.hok d _ n.obj
  exact ⟨xs, rel, ⟨o, es, ep, h1, h2, h3, h4, npr_is I.hok rel n.keys, by rw [← npr_keys rel]; exact n.nodup⟩, by rw [← Paired.length rel]; exact n.len⟩
theorem nk_room {A : Around} (hu : A.units + 20 < cLine) : (nestedKind X.prog X.w).room A.in1 := by
  show A.in1.units + 8 < cLine
  have : A.in1.units ≤ A.units + 4 := by
    show A.units + 1 ≤ A.units + 4
    omega
  omega
/-- a new pair is put in -/
theorem nd_put {d a : Addr} {kvs : List NE} {k : NestedKey} {v : V} {r : Value} {h' : Heap} {tk : Nat} {xs : List (NestedKey × Addr × Value)} (I : Inv X pins σ H s) (n : NDict X.prog X.w H d kvs) (hk : NKey H k (.ref a)) (hd8 : k.depth ≤ 8) (hv : valN kvs k = none) (hl : kvs.length < sizeLine) (rv : RelV v r) (rel : Paired NPr kvs xs)
    (dd : h'.DictOfH (nestedKind X.prog X.w) d (storedH xs k a r)) (hs : Heap.SameBut d s.heap h') : Inv X pins σ (upd H d (NDo X.prog X.w d (kvs ++ [(k, a, v)]))) { s with heap := h', toks := tk } ∧ NDict X.prog X.w (upd H d (NDo X.prog X.w d (kvs ++ [(k, a, v)]))) d (kvs ++ [(k, a, v)]) := by
  have hx : atKey xs k = none := by
    have := npr_val k rel
    rw [hv] at this
    cases e : atKey xs k with
    | none => rfl
    | some p => rw [e] at this; exact this.elim
  rw [storedH_new hx] at dd
  obtain ⟨o, es, ep, h1, h2, h3, h4, h5, h6⟩ := dd
  have rel2 : Paired NPr (kvs ++ [(k, a, v)]) (xs ++ [(k, a, r)]) := by
    clear h4 h5 h6 hx n hv hl
    induction rel with
    | nil => exact .cons ⟨rfl, rfl, rv⟩ .nil
    | cons q _ ih => exact .cons q ih
  have tupk : ∀ c zs, H c = some (.tup zs) → (upd H d (NDo X.prog X.w d (kvs ++ [(k, a, v)]))) c = some (.tup zs) := fun b ys e => by
    rw [upd_ne (ne_of e n.obj fun z => nomatch z)]
    exact e
  refine ⟨?_, upd_same, fun p hp => ?_, ?_, ?_, n.sys⟩
  · refine d_write I (by rw [n.obj]; exact True.intro) hs ⟨o, h1⟩ ⟨⟨_, rel2, o, es, ep, h1, h2, h3, h4⟩, ⟨o, h1⟩, fun g1 g2 φ st => ?_⟩
    obtain ⟨ys, r1, o1, es1, ep1, z1, z2, z3, z4⟩ := φ
    exact ⟨ys, r1, o1, es1, ep1, st _ z1, z2, z3, z4⟩
  · rcases List.mem_append.mp hp with hp | hp
    · exact ⟨NKey.keep (H' := upd H d (NDo X.prog X.w d (kvs ++ [(k, a, v)]))) tupk _ _ (n.keys p hp).1, (n.keys p hp).2⟩
    · rw [List.mem_singleton.mp hp]
      exact ⟨NKey.keep (H' := upd H d (NDo X.prog X.w d (kvs ++ [(k, a, v)]))) tupk _ _ hk, hd8⟩
  · rw [npr_keys rel2]
    exact h6
  · rw [List.length_append, List.length_singleton]
    omega
end
section
variable {X : Cx} {o i value : Expr} {pos pos' : Pos} {td ty tv : TE}
/-- y in d: d, its pairs, the key -/
def NLook (P : Program) (w : World) (H : Hp) (x y : V) (q : Addr → Addr → List NE → NestedKey → Prop) : Prop := ∃ d a kvs k, x = .ref d ∧ y = .ref a ∧ NDict P w H d kvs ∧ NKey H k (.ref a) ∧ k.depth ≤ 8 ∧ q d a kvs k
theorem pc_nnotin (hu : X.A.units + 20 < cLine) (hi : PE X i ty) (ho : PE X o td) : PC X .NotIn i o (fun σ H Q => ty σ H fun y H1 => td σ H1 fun x H2 => NLook X.prog X.w H2 x y fun _ _ kvs k => Q (.bl (!(valN kvs k).isSome)) H2) := by
  refine ⟨fun pins s σ H Q I h => ?_⟩
  refine thn (hi.run pins s σ H _ I h) fun iv s1 ⟨y, H1, I1, ry, q1⟩ => thn (ho.run pins s1 σ H1 _ I1 q1) fun u s2 ⟨x, H2, I2, rx, d, a, kvs, k, ex, ey, n, hk, h8, q2⟩ => ?_
  subst ex ey
  obtain rfl : u = Value.ref d := rx
  obtain rfl : iv = Value.ref a := ry
  obtain ⟨xs, rel, dd, _⟩ := nd_of I2 n
  refine wpAny_notIn_heap (nk_room hu) ⟨nk_is I2.hok _ _ _ hk rfl, h8⟩ n.sys dd ?_
  have q := (npr_val k rel).isSome_eq
  rw [Option.isSome_map] at q
  rw [← q]
  exact ⟨.bl (!(valN kvs k).isSome), H2, I2.tok _, rfl, q2⟩
theorem pe_nget (hu : X.A.units + 20 < cLine) (ho : PE X o td) (hi : PE X i ty) (hs : NoSl i) : PE X (.Subscript o i pos) (fun σ H Q => td σ H fun x H1 => ty σ H1 fun y H2 => NLook X.prog X.w H2 x y fun _ _ kvs k => ∃ v, valN kvs k = some v ∧ Q v H2) := by
  refine ⟨fun pins s σ H Q I h => ?_⟩
  refine subD_of PySem.F.slot_dict_getitem.lookup hs (thn (ho.run pins s σ H _ I h) fun u s1 ⟨x, H1, I1, rx, q1⟩ => thn (hi.run pins s1 σ H1 _ I1 q1) fun iv s2 ⟨y, H2, I2, ry, d, a, kvs, k, ex, ey, n, hk, h8, v, hv, q2⟩ => ?_)
  subst ex ey
  obtain rfl : u = Value.ref d := rx
  obtain rfl : iv = Value.ref a := ry
  obtain ⟨xs, rel, dd, _⟩ := nd_of I2 n
  refine ⟨dd.typeIs, ?_⟩
  obtain ⟨w', hw, rw'⟩ := RelO.some_of (v := v) (o := (atKey xs k).map (·.2)) (by rw [← hv]; exact npr_val k rel)
  obtain ⟨p, hp, hp2⟩ := Option.map_eq_some_iff.mp hw
  refine wpAny_getItem_heap (nk_room hu) ⟨nk_is I2.hok _ _ _ hk rfl, h8⟩ dd hp ?_
  rw [hp2]
  exact ⟨v, H2, I2.tok _, rw', q2⟩
/-- d[y] = v, a new key -/
theorem ps_nput (hu : X.A.units + 20 < cLine) (ho : PE X o td) (hi : PE X i ty) (hv : PE X value tv) (hs : swapsWith value (some (.Subscript o i pos')) pos.line X.env = pure false) :
    PS X (.Assign [.Subscript o i pos'] value pos) (fun D σ H => tv σ H fun v H1 => td σ H1 fun x H2 => ty σ H2 fun y H3 => NLook X.prog X.w H3 x y fun d a kvs k => valN kvs k = none ∧ kvs.length < sizeLine ∧
      (NDict X.prog X.w (upd H3 d (NDo X.prog X.w d (kvs ++ [(k, a, v)]))) d (kvs ++ [(k, a, v)]) → D.nx σ (upd H3 d (NDo X.prog X.w d (kvs ++ [(k, a, v)]))))) := by
  refine ⟨fun pins s σ H D I h => ?_⟩
  refine wpAny_Assign_Subscript (thn (hv.run pins s σ H _ I h) fun r s1 ⟨v, H1, I1, rv, q1⟩ => thn (ho.run pins s1 σ H1 _ I1 q1) fun u s2 ⟨x, H2, I2, rx, q2⟩ => thn (hi.run pins s2 σ H2 _ I2 q2) fun iv s3 ⟨y, H3, I3, ry, d, a, kvs, k, ex, ey, n, hk, h8, hn, hl, q3⟩ => ?_) hs
  subst ex ey
  obtain rfl : u = Value.ref d := rx
  obtain rfl : iv = Value.ref a := ry
  obtain ⟨xs, rel, dd, hz⟩ := nd_of I3 n
  refine wpAny_setItem_heap (hsz := hz) (nk_room hu) ⟨nk_is I3.hok _ _ _ hk rfl, h8⟩ dd fun h' dd' hs' => ?_
  obtain ⟨J, n'⟩ := nd_put I3 n hk h8 hn hl rv rel dd' hs'
  exact ⟨σ, _, J, q3 n'⟩
end
section
variable {X : Cx} {ke ve : Expr} {pos : Pos} {tk tv : TE}
theorem nd_empty {P : Program} {w : World} {H : Hp} (h : Heap) : ObjOk P w H (h.push { cls := .type "dict", data := .dict #[] }) h.objs.size (NDo P w h.objs.size []) := by
  obtain ⟨o, es, ep, h1, h2, h3, h4, _⟩ := Heap.DictOfH.new (knd := nestedKind P w) h
  refine ⟨⟨[], .nil, o, es, ep, h1, h2, h3, h4⟩, ⟨o, h1⟩, fun g1 g2 φ st => ?_⟩
  obtain ⟨ys, r1, o1, es1, ep1, z1, z2, z3, z4⟩ := φ
  exact ⟨ys, r1, o1, es1, ep1, st _ z1, z2, z3, z4⟩
theorem NDict.empty {P : Program} {w : World} {H : Hp} {d : Addr} (e : H d = some (NDo P w d [])) (hd : (d == sysModules) = false) : NDict P w H d [] := ⟨e, (fun _ h => nomatch h), List.nodup_nil, Nat.zero_le _, hd⟩
/-- {k: v}, one pair -/
theorem pe_ndisp1 (hu : X.A.units + 20 < cLine) (hk : PE X ke tk) (hv : PE X ve tv) : PE X (.Dict [some ke] [ve] pos) (fun σ H Q => ∀ d, H d = none → tk σ (upd H d (NDo X.prog X.w d [])) fun y H1 => tv σ H1 fun v H2 => H2 d = some (NDo X.prog X.w d []) ∧ ∃ a k, y = .ref a ∧ NKey H2 k (.ref a) ∧ k.depth ≤ 8 ∧
    (NDict X.prog X.w (upd H2 d (NDo X.prog X.w d ([] ++ [(k, a, v)]))) d ([] ++ [(k, a, v)]) → Q (.ref d) (upd H2 d (NDo X.prog X.w d ([] ++ [(k, a, v)]))))) := by
  refine ⟨fun pins s σ H Q I h => ?_⟩
  have hn := I.hok.fresh (Nat.le_refl s.heap.objs.size)
  have I1 := I.laid (a := s.heap.objs.size) (o := NDo X.prog X.w s.heap.objs.size []) (h' := s.heap.push { cls := .type "dict", data := .dict #[] }) (t' := s.toks) (fun _ _ q => Heap.get?_push_of_some _ q) (Nat.le_refl _) (nd_empty s.heap)
  have hsys : (s.heap.objs.size == sysModules) = false := beq_eq_false_iff_ne.mpr (Nat.ne_of_gt I.big)
  have hl := pairTrees_length [some ke] [ve] X.env pos rfl rfl
  have h0 : pairTrees [some ke] [ve] X.env pos ≠ [] := fun e => by
    rw [e] at hl
    simp at hl
  rw [arm_eval_Dict, zip_pairTrees [some ke] [ve] X.env pos rfl rfl, dictDisplay_pairs _ h0 (by rw [hl]; show 1 < 17; decide)]
  have hu1 : (nestedKind X.prog X.w).room X.A := by
    show X.A.units + 8 < cLine
    omega
  refine wpAny_bind (wpAny_standAt (wpAny_bind (wpAny_subDictH (knd := nestedKind X.prog X.w) (Q := fun d s' => wpAny (model X.prog X.w) X.A (pure (Value.ref d)) _ X.xe s') hu1 (by rw [hl]; show 1 ≤ 15; decide) ?_)))
  refine pairTrees_cons_walk (thn (hk.run pins _ σ _ _ I1 (h _ hn)) fun u s1 ⟨y, H1, I2, ry, q1⟩ => thn (hv.run pins s1 σ H1 _ I2 q1) fun r s2 ⟨v, H2, I3, rv, ed, a, k, ey, hk', h8, q2⟩ => pairTrees_nil_walk ?_)
  subst ey
  obtain rfl : u = Value.ref a := ry
  have n := NDict.empty ed hsys
  obtain ⟨xs, rel, dd, _⟩ := nd_of I3 n
  cases rel
  refine ⟨[(k, a, r)], ⟨rfl, rfl, ⟨nk_is I3.hok _ _ _ hk' rfl, h8⟩, True.intro⟩, dd, fun h' tk' dd' hs' => wpAny_pure ?_⟩
  obtain ⟨J, n'⟩ := nd_put (tk := tk') I3 n hk' h8 rfl (by decide) rv .nil dd' hs'
  exact ⟨.ref s.heap.objs.size, _, J, rfl, q2 n'⟩
end
end L2
end
section
set_option maxRecDepth 100000
/-! x < y of nested data of one kind at every place -/
namespace L2
open PySem PySem.Spec PyProof.Rows PySem.W
def rLtD (K : PySem.W.Frag) : R2 := fun x y H Q => ∃ d e, Dp K H x d ∧ Dp K H y e ∧ alike d e = true ∧ d ≠ .none ∧ min d.depth e.depth ≤ 64 ∧ Q (.bl (dataLt d e)) H
theorem op_ltD {X : Cx} (hu : X.A.units + 66 < cLine) : OpR X (compareOp .Lt) (rLtD X.K) := by
  intro pins s σ H x y v u Q I rx ry h
  obtain ⟨d, e, hd, he, ha, hn, hdp, q⟩ := h
  obtain ⟨as, r1⟩ := Dp.reads I d x v hd rx
  obtain ⟨bs, r2⟩ := Dp.reads I e y u he ry
  have rc := rcLt_alike d e X.A s v u as bs r1 r2 ha hn (by omega)
  exact rc X.prog X.w _ _ ⟨.bl _, H, I, rfl, q⟩
def ltTexts : List Str → List Str → Bool
  | [], [] => false
  | [], _ :: _ => true
  | _ :: _, [] => false
  | x :: xs, y :: ys => if x = y then ltTexts xs ys else decide (x.cps.toList < y.cps.toList)
theorem lex_texts : ∀ xs ys : List Str, PyProof.Rows.lexLt itemOrd (keyToksAll (xs.map PyData.str)) (keyToksAll (ys.map PyData.str)) = ltTexts xs ys
  | [], [] => by rfl
  | [], y :: ys => by
    rw [List.map_cons, toks_all_cons]
    rfl
  | x :: xs, [] => by
    rw [List.map_cons, toks_all_cons]
    rfl
  | x :: xs, y :: ys => by
    rw [List.map_cons, List.map_cons]
    show _ = if x = y then ltTexts xs ys else decide (x.cps.toList < y.cps.toList)
    by_cases e : x = y
    · rw [dataLt_all_yes (x := .str x) (y := .str y) rfl (by rw [e]; exact eqv_refl_alike _ rfl), if_pos e, lex_texts xs ys]
    · rw [dataLt_all_no (x := .str x) (y := .str y) rfl (by simp [PyData.eqv, e]), if_neg e, dataLt_str]
theorem alike_texts : ∀ xs ys : List Str, alikeAll (xs.map PyData.str) (ys.map PyData.str) = true
  | [], _ => by rw [List.map_nil]; unfold alikeAll; rfl
  | _ :: _, [] => by rw [List.map_nil, List.map_cons]; unfold alikeAll; rfl
  | x :: xs, y :: ys => by
    rw [List.map_cons, List.map_cons]
    unfold alikeAll
    rw [alike_texts xs ys]
    rfl
theorem eqv_texts : ∀ xs ys : List Str, PyData.eqvAll (xs.map PyData.str) (ys.map PyData.str) = decide (xs = ys)
  | [], [] => by rfl
  | [], y :: ys => by rfl
  | x :: xs, [] => by rfl
  | x :: xs, y :: ys => by
    rw [List.map_cons, List.map_cons, eqv_all_cons, eqv_texts xs ys]
    by_cases e : x = y
    · subst e
      simp [PyData.eqv]
    · simp [PyData.eqv, e]
theorem ltTexts_irr : ∀ xs : List Str, ltTexts xs xs = false
  | [] => rfl
  | x :: xs => by
    show (if x = x then ltTexts xs xs else _) = false
    rw [if_pos rfl, ltTexts_irr xs]
/-- (n, texts) < (m, texts) -/
theorem lt_pair (n m : Int) (xs ys : List Str) : dataLt (.tuple [.int n, .list (xs.map PyData.str)]) (.tuple [.int m, .list (ys.map PyData.str)]) = if n = m then ltTexts xs ys else decide (n < m) := by
  have ha : alike (.list (xs.map PyData.str)) (.list (ys.map PyData.str)) = true := alike_texts xs ys
  rw [dataLt_tuple]
  by_cases e : n = m
  · subst e
    rw [dataLt_all_yes (x := .int n) (y := .int n) rfl (eqv_refl_alike _ rfl), if_pos rfl]
    by_cases h : xs = ys
    · subst h
      rw [dataLt_all_yes ha (eqv_refl_alike _ ha), ltTexts_irr]
      rfl
    · rw [dataLt_all_no ha (by
        show PyData.eqvAll _ _ = false
        rw [eqv_texts, decide_eq_false h]), dataLt_list, lex_texts]
  · rw [dataLt_all_no (x := .int n) (y := .int m) rfl (by simp [PyData.eqv, e]), if_neg e, dataLt_int]
end L2
end
section
set_option maxRecDepth 100000
/-! dicts keyed by nested tuples: {}, setdefault, len -/
namespace L2
open PySem PySem.Spec PyProof.Rows PySem.W PyProof
section
variable {X : Cx} {pins : List (Addr × Obj)} {σ : St} {H : Hp} {s : Shared} {d a : Addr} {kvs : List NE} {k : NestedKey} {v : V} {r : Value} {A : Around} {E : Value → Shared → Prop}
theorem nd_room {A : Around} (hu : A.units + 20 < cLine) : (nestedKind X.prog X.w).room A.in1 := nk_room hu
theorem nd_setd {Q : Value → Shared → Prop} (hu : A.units + 20 < cLine) (I : Inv X pins σ H s) (n : NDict X.prog X.w H d kvs) (hk : NKey H k (.ref a)) (h8 : k.depth ≤ 8) (rv : RelV v r) (hl : kvs.length < sizeLine)
    (h1 : ∀ x, valN kvs k = some x → ∀ (w' : Value) (s' : Shared), Inv X pins σ H s' → RelV x w' → Q w' s')
    (h2 : valN kvs k = none → ∀ (w' : Value) (s' : Shared), Inv X pins σ (upd H d (NDo X.prog X.w d (kvs ++ [(k, a, v)]))) s' → NDict X.prog X.w (upd H d (NDo X.prog X.w d (kvs ++ [(k, a, v)]))) d (kvs ++ [(k, a, v)]) → RelV v w' → Q w' s') :
    wpAny (model X.prog X.w) A (call (.builtin "dict.setdefault") [.ref d, .ref a, r]) Q E s := by
  obtain ⟨xs, rel, dd, hz⟩ := nd_of I n
  have q := npr_val k rel
  refine call_setdefault_heap (nk_room hu) ⟨nk_is I.hok _ _ _ hk rfl, h8⟩ n.sys dd (fun p hp => ?_) (fun hn h' dd' hs => ?_) hz
  · rw [hp] at q
    cases q0 : valN kvs k with
    | none =>
      rw [q0] at q
      exact (show False from q).elim
    | some v0 =>
      rw [q0] at q
      exact h1 v0 q0 _ _ (I.tok _) q
  · rw [hn] at q
    cases q0 : valN kvs k with
    | some v0 =>
      rw [q0] at q
      exact (show False from q).elim
    | none =>
      obtain ⟨J, n'⟩ := nd_put (tk := s.toks + (nestedKind X.prog X.w).draws k) I n hk h8 q0 hl rv rel dd' hs
      exact h2 q0 _ _ J n' rv
end
section
variable {X : Cx} {o e f : Expr} {td ty tx : TE} {apos cpos pos : Pos}
/-- {} for keys that are nested tuples -/
theorem pe_nempty : PE X (.Dict [] [] pos) (fun _ H Q => ∀ p, H p = none → (NDict X.prog X.w (upd H p (NDo X.prog X.w p [])) p [] → Q (.ref p) (upd H p (NDo X.prog X.w p [])))) := ⟨fun pins s σ H Q I h =>
  wpAny_Dict_empty ⟨.ref s.heap.objs.size, _, I.laid (a := s.heap.objs.size) (o := NDo X.prog X.w s.heap.objs.size []) (t' := s.toks) (fun _ _ q => Heap.get?_push_of_some _ q) (Nat.le_refl _) (nd_empty s.heap), rfl, h _ (I.hok.fresh (Nat.le_refl _)) (NDict.empty upd_same (beq_eq_false_iff_ne.mpr (Nat.ne_of_gt I.big)))⟩⟩
/-- d.setdefault(y, z), the key a nested tuple -/
def tNSetd (P : Program) (w : World) (td ty tx : TE) : TE := fun σ H Q => td σ H fun x H1 => ∃ d, x = .ref d ∧ (∃ kvs, NDict P w H1 d kvs) ∧ ty σ H1 fun y H2 => tx σ H2 fun z H3 => ∃ (a : Addr) (kvs : List NE) (k : NestedKey), y = .ref a ∧ NDict P w H3 d kvs ∧ NKey H3 k (.ref a) ∧ k.depth ≤ 8 ∧ kvs.length < sizeLine ∧
  (∀ v, valN kvs k = some v → Q v H3) ∧ (valN kvs k = none → NDict P w (upd H3 d (NDo P w d (kvs ++ [(k, a, z)]))) d (kvs ++ [(k, a, z)]) → Q z (upd H3 d (NDo P w d (kvs ++ [(k, a, z)]))))
theorem nd_at {pins : List (Addr × Obj)} {σ : St} {H : Hp} {s : Shared} {a : Addr} {kvs : List NE} (I : Inv X pins σ H s) (d : NDict X.prog X.w H a kvs) :
    s.TypeIs (.ref a) "dict" ∧ (∀ b, Value.ref a = .ref b → ∃ ob, s.heap.get? b = some ob ∧ ob.dict = none) := by
  obtain ⟨xs, rel, dd, _⟩ := nd_of I d
  obtain ⟨o, es, ep, h1, h2, h3, _⟩ := id dd
  exact ⟨dd.typeIs, fun b e => by cases e; exact ⟨o, h1, h2.2.1⟩⟩
theorem pe_nsetd (hu : X.A.units + 20 < cLine) (ho : PE X o td) (he : PE X e ty) (hf : PE X f tx) (m : M2 X o "setdefault" apos e f cpos) : PE X (.Call (.Attribute o "setdefault" apos) [e, f] [] cpos) (tNSetd X.prog X.w td ty tx) := by
  refine ⟨fun pins s σ H Q I h => ?_⟩
  refine wpAny_Call_method m.base m.few m.line PySem.F.plainAttrs_dict PySem.F.slot_dict_setdefault PySem.F.type_dict_setdefault (thn (ho.run pins s σ H _ I h) fun u s1 ⟨x, H1, I1, rx, a, ex, ⟨kvs0, d⟩, q1⟩ => ?_)
  subst ex
  obtain rfl : u = Value.ref a := rx
  obtain ⟨t1, t2⟩ := nd_at I1 d
  refine ⟨t1, t2, ?_⟩
  rw [m.trees]
  refine Calls.callWith_builtin rfl (Calls.evalArgs_plain (Calls.spliced_cons (thn (he.run pins s1 σ H1 _ I1 q1) fun iv s2 ⟨y, H2, I2, ry, q2⟩ =>
    Calls.spliced_cons (thn (hf.run pins s2 σ H2 _ I2 q2) fun fv s3 ⟨z, H3, I3, rz, b, kvs, k, ey, n, hk, h8, hl, q3, q4⟩ => Calls.spliced_nil ?_))))
  subst ey
  obtain rfl : iv = Value.ref b := ry
  exact nd_setd hu I3 n hk h8 rz hl (fun v hv w' s4 I4 rw' => ⟨v, _, I4, rw', q3 v hv⟩) fun hn w' s4 I4 n' rw' => ⟨z, _, I4, rw', q4 hn n'⟩
/-- len(d) -/
def rLenN (P : Program) (w : World) : List V → Hp → VK → Prop := fun xs H Q => ∃ (p : Addr) (kvs : List NE), xs = [.ref p] ∧ NDict P w H p kvs ∧ Q (.int ((kvs.length : Nat) : Int)) H
theorem call_lenN : CallR X (.builtin "len") (rLenN X.prog X.w) := by
  intro pins s σ H xs us Q I r h
  obtain ⟨p, kvs, rfl, hp, q⟩ := h
  obtain ⟨u, rfl, rx⟩ := vals1 r
  obtain rfl : u = .ref p := rx
  obtain ⟨ys, rel, dd, hz⟩ := nd_of I hp
  have hl : kvs.length = ys.length := Paired.length rel
  refine call_len_dictH hp.sys dd (by rw [sizeLine_eq] at hz; omega) ?_
  exact ⟨.int _, H, I.tok _, by rw [hl]; exact ⟨_, rfl⟩, q⟩
end
end L2
end
section
set_option maxRecDepth 100000
/-! a op b op c op d as a test -/
namespace L2
open PySem PySem.Spec PyProof.Rows PySem.W
def tChain3 (r r' r'' : R2) (ta tb tc td : TE) : TT := fun σ H Q => ta σ H fun x H1 => tb σ H1 fun y H2 => r x y H2 fun z H3 => ∃ k, z = .bl k ∧
  (if k = true then tc σ H3 fun u H4 => r' y u H4 fun z' H5 => ∃ k', z' = .bl k' ∧ (if k' = true then td σ H5 fun v H6 => r'' u v H6 fun z'' H7 => ∃ k'', z'' = .bl k'' ∧ Q k'' H7 else Q false H5) else Q false H3)
section
variable {X : Cx} {a b c d : Expr} {ta tb tc td : TE} {pos : Pos}
theorem pt_chain3 {op op' op'' : CmpOp} {r r' r'' : R2} (ho : OpR X (compareOp op) r) (ho' : OpR X (compareOp op') r') (ho'' : OpR X (compareOp op'') r'') (ha : PE X a ta) (hb : PE X b tb) (hc : PE X c tc) (hd : PE X d td)
    (hm : lastMarks [op, op', op''] [b, c, d] = false := by with_unfolding_all rfl) : PT X (.Compare a [op, op', op''] [b, c, d] pos) (tChain3 r r' r'' ta tb tc td) := by
  refine ⟨fun pins s σ H Q I h => ?_⟩
  refine isTrue_chain (thn (ha.run pins s σ H _ I h) fun v s1 ⟨x, H1, I1, r1, q1⟩ => test_link (thn (hb.run pins s1 σ H1 _ I1 q1) fun u s2 ⟨y, H2, I2, r2, q2⟩ =>
    thn (ho pins s2 σ H2 x y v u _ I2 r1 r2 q2) fun e s3 ⟨z, H3, I3, r3, k, e, q3⟩ => ?_)) hm
  subst e
  cases r3
  refine wpAny_truthy_bool ?_
  cases k with
  | false => exact ite_ff ⟨H3, I3, q3⟩
  | true =>
    refine ite_tt (test_link (thn (hc.run pins s3 σ H3 _ I3 q3) fun w' s4 ⟨z', H4, I4, r4, q4⟩ => thn (ho' pins s4 σ H4 y z' u w' _ I4 r2 r4 q4) fun d' s5 ⟨z2, H5, I5, r5, k2, e2, q5⟩ => ?_))
    subst e2
    cases r5
    refine wpAny_truthy_bool ?_
    cases k2 with
    | false => exact ite_ff ⟨H5, I5, q5⟩
    | true =>
      refine ite_tt (test_last (thn (hd.run pins s5 σ H5 _ I5 q5) fun w2 s6 ⟨z3, H6, I6, r6, q6⟩ => thn (ho'' pins s6 σ H6 z' z3 w' w2 _ I6 r4 r6 q6) fun d2 s7 ⟨z4, H7, I7, r7, k3, e3, q7⟩ => ?_))
      subst e3
      cases r7
      exact wpAny_truthy_bool ⟨H7, I7, q7⟩
end
end L2
end
section
set_option maxRecDepth 100000
/-! a op b op c op d op e as a test -/
namespace L2
open PySem PySem.Spec PyProof.Rows PySem.W
def tChain4 (r1 r2 r3 r4 : R2) (ta tb tc td te : TE) : TT := fun σ H Q => ta σ H fun x H1 => tb σ H1 fun y H2 => r1 x y H2 fun z H3 => ∃ k, z = .bl k ∧
  (if k = true then tc σ H3 fun u H4 => r2 y u H4 fun z' H5 => ∃ k', z' = .bl k' ∧ (if k' = true then td σ H5 fun v H6 => r3 u v H6 fun z'' H7 => ∃ k'', z'' = .bl k'' ∧
    (if k'' = true then te σ H7 fun p H8 => r4 v p H8 fun z3 H9 => ∃ k3, z3 = .bl k3 ∧ Q k3 H9 else Q false H7) else Q false H5) else Q false H3)
section
variable {X : Cx} {a b c d e : Expr} {ta tb tc td te : TE} {pos : Pos}
theorem pt_chain4 {o1 o2 o3 o4 : CmpOp} {r1 r2 r3 r4 : R2} (ho1 : OpR X (compareOp o1) r1) (ho2 : OpR X (compareOp o2) r2) (ho3 : OpR X (compareOp o3) r3) (ho4 : OpR X (compareOp o4) r4) (ha : PE X a ta) (hb : PE X b tb) (hc : PE X c tc) (hd : PE X d td) (he : PE X e te)
    (hm : lastMarks [o1, o2, o3, o4] [b, c, d, e] = false := by with_unfolding_all rfl) : PT X (.Compare a [o1, o2, o3, o4] [b, c, d, e] pos) (tChain4 r1 r2 r3 r4 ta tb tc td te) := by
  refine ⟨fun pins s σ H Q I h => ?_⟩
  refine isTrue_chain (thn (ha.run pins s σ H _ I h) fun v s1 ⟨x, H1, I1, q1, w1⟩ => test_link (thn (hb.run pins s1 σ H1 _ I1 w1) fun u s2 ⟨y, H2, I2, q2, w2⟩ =>
    thn (ho1 pins s2 σ H2 x y v u _ I2 q1 q2 w2) fun f s3 ⟨z, H3, I3, q3, k, e1, w3⟩ => ?_)) hm
  subst e1
  cases q3
  refine wpAny_truthy_bool ?_
  cases k with
  | false => exact ite_ff ⟨H3, I3, w3⟩
  | true =>
    refine ite_tt (test_link (thn (hc.run pins s3 σ H3 _ I3 w3) fun w' s4 ⟨z', H4, I4, q4, w4⟩ => thn (ho2 pins s4 σ H4 y z' u w' _ I4 q2 q4 w4) fun d' s5 ⟨z2, H5, I5, q5, k2, e2, w5⟩ => ?_))
    subst e2
    cases q5
    refine wpAny_truthy_bool ?_
    cases k2 with
    | false => exact ite_ff ⟨H5, I5, w5⟩
    | true =>
      refine ite_tt (test_link (thn (hd.run pins s5 σ H5 _ I5 w5) fun w2' s6 ⟨z3, H6, I6, q6, w6⟩ => thn (ho3 pins s6 σ H6 z' z3 w' w2' _ I6 q4 q6 w6) fun d3 s7 ⟨z4, H7, I7, q7, k3, e3, w7⟩ => ?_))
      subst e3
      cases q7
      refine wpAny_truthy_bool ?_
      cases k3 with
      | false => exact ite_ff ⟨H7, I7, w7⟩
      | true =>
        refine ite_tt (test_last (thn (he.run pins s7 σ H7 _ I7 w7) fun w4' s8 ⟨z5, H8, I8, q8, w8⟩ => thn (ho4 pins s8 σ H8 z3 z5 w2' w4' _ I8 q6 q8 w8) fun d4 s9 ⟨z6, H9, I9, q9, k4, e4, w9⟩ => ?_))
        subst e4
        cases q9
        exact wpAny_truthy_bool ⟨H9, I9, w9⟩
end
end L2
end
section
set_option maxRecDepth 100000
/-! d.setdefault(k, v) of a dict whose keys are tuples -/
namespace L2
open PySem PySem.Spec PyProof.Rows PySem.W PyProof
section
variable {X : Cx} {pins : List (Addr × Obj)} {σ : St} {H : Hp} {s : Shared} {a b : Addr} {u r : Value} {d : V} {A : Around} {E : Value → Shared → Prop}
theorem d_setdT {kvs : List (List Key × V)} {k : List Key} {Q : Value → Shared → Prop} (hu : A.units + 1 < cLine) (I : Inv X pins σ H s) (e : H a = some (.dT kvs)) (eb : H b = some (.tup (k.map kV))) (rd : RelV d r) (hl : kvs.length < sizeLine)
    (h1 : ∀ v, valV kvs k = some v → ∀ (w' : Value) (s' : Shared), Inv X pins σ H s' → RelV v w' → Q w' s') (h2 : valV kvs k = none → ∀ (w' : Value) (s' : Shared), Inv X pins σ (upd H a (.dT (putK kvs k d))) s' → RelV d w' → Q w' s') :
    wpAny (model X.prog X.w) A (call (.builtin "dict.setdefault") [.ref a, .ref b, r]) Q E s := by
  obtain ⟨z, hd, xs, rel, dd⟩ := dt_of I.hok e
  have hz : xs.length ≤ sizeLine := by rw [← Paired.length rel]; exact z
  refine call_setdefault_heap (tupleKind_room_in1 hu) (key_of I.hok eb) hd dd (fun p hp => ?_) (fun hn h' dd' hs => ?_) hz
  · have q := rel.val k
    rw [hp] at q
    cases q0 : valV kvs k with
    | none =>
      rw [q0] at q
      exact (show False from q).elim
    | some v0 =>
      rw [q0] at q
      exact h1 v0 q0 _ _ (I.tok _) q
  · have q := rel.val k
    rw [hn] at q
    cases q0 : valV kvs k with
    | some v0 =>
      rw [q0] at q
      exact (show False from q).elim
    | none =>
      have hl2 : (putK kvs k d).length ≤ sizeLine := by
        have := length_putK kvs k d
        omega
      refine h2 q0 _ _ ?_ rd
      obtain ⟨q, es, ep, hq, g2, g3, g4, _, g5⟩ := dd'
      refine d_write I (by rw [e]; exact True.intro) hs ⟨q, hq⟩ ⟨hl2, hd, _, (rel.put k eb rd).keeps fun c ys ec => ?_, q, es, ep, hq, g2, g3, g4, g5⟩
      rw [upd_ne (ne_of ec e (fun z => nomatch z))]
      exact ec
end
/-- d.setdefault(y, z), the key a tuple -/
def tDSetdT (td ty tx : TE) : TE := fun σ H Q => td σ H fun x H1 => ∃ a, x = .ref a ∧ IsD H1 a ∧ ty σ H1 fun y H2 => tx σ H2 fun z H3 => ∃ (kvs : List (List Key × V)) (k : List Key) (b : Addr), H3 a = some (.dT kvs) ∧ y = .ref b ∧ H3 b = some (.tup (k.map kV)) ∧ kvs.length < sizeLine ∧
  (∀ v, valV kvs k = some v → Q v H3) ∧ (valV kvs k = none → Q z (upd H3 a (.dT (putK kvs k z))))
section
variable {X : Cx} {o e f : Expr} {td ty tx : TE} {apos cpos : Pos}
theorem pe_dsetdT (hu : X.A.units + 1 < cLine) (ho : PE X o td) (he : PE X e ty) (hf : PE X f tx) (m : M2 X o "setdefault" apos e f cpos) : PE X (.Call (.Attribute o "setdefault" apos) [e, f] [] cpos) (tDSetdT td ty tx) := by
  refine ⟨fun pins s σ H Q I h => ?_⟩
  refine wpAny_Call_method m.base m.few m.line PySem.F.plainAttrs_dict PySem.F.slot_dict_setdefault PySem.F.type_dict_setdefault (thn (ho.run pins s σ H _ I h) fun u s1 ⟨x, H1, I1, rx, a, ex, d, q1⟩ => ?_)
  subst ex
  obtain rfl : u = Value.ref a := rx
  obtain ⟨t1, t2, _⟩ := isD_at I1 d
  refine ⟨t1, t2, ?_⟩
  rw [m.trees]
  refine Calls.callWith_builtin rfl (Calls.evalArgs_plain (Calls.spliced_cons (thn (he.run pins s1 σ H1 _ I1 q1) fun iv s2 ⟨y, H2, I2, ry, q2⟩ =>
    Calls.spliced_cons (thn (hf.run pins s2 σ H2 _ I2 q2) fun fv s3 ⟨z, H3, I3, rz, kvs, k, b, ea, ey, eb, hl, q3, q4⟩ => Calls.spliced_nil ?_))))
  subst ey
  obtain rfl : iv = Value.ref b := ry
  exact d_setdT hu I3 ea eb rz hl (fun v hv w' s4 I4 rw' => ⟨v, _, I4, rw', q3 v hv⟩) fun hn w' s4 I4 rw' => ⟨z, _, I4, rw', q4 hn⟩
end
end L2
end
section
set_option maxRecDepth 100000
/-! dict(xs) of a list of pairs whose keys are tuples -/
namespace L2
open PySem PySem.Spec PyProof.Rows
def mergeT (kvs more : List (List Key × V)) : List (List Key × V) := more.foldl (fun acc kv => putK acc kv.1 kv.2) kvs
theorem KT.merge {H : Hp} : ∀ {more : List (List Key × V)} {rs : List (List Key × Addr × Value)} {kvs : List (List Key × V)} {vs : List (List Key × Addr × Value)}, KT H more rs → KT H kvs vs → KT H (mergeT kvs more) (storedAllH vs rs) := by
  intro more rs kvs vs r
  unfold KT at r
  induction r generalizing kvs vs with
  | nil => intro q; exact q
  | @cons p q ps qs h t ih =>
    intro r0
    have e : KT H (putK kvs p.1 p.2) (storedH vs q.1 q.2.1 q.2.2) := by
      have := r0.put p.1 h.2.1 h.2.2
      rw [← h.1]; exact this
    exact ih e
theorem length_mergeT : ∀ (more kvs : List (List Key × V)), (mergeT kvs more).length ≤ kvs.length + more.length
  | [], kvs => by show kvs.length ≤ kvs.length + 0; omega
  | p :: r, kvs => by
    have h1 := length_mergeT r (putK kvs p.1 p.2)
    have h2 := length_putK kvs p.1 p.2
    show (mergeT (putK kvs p.1 p.2) r).length ≤ _
    rw [List.length_cons]; omega
abbrev PT4 : Type := Addr × Addr × List Key × V
section
variable {X : Cx}
theorem pairs_ofT {pins : List (Addr × Obj)} {σ : St} {H : Hp} {s : Shared} (I : Inv X pins σ H s) : ∀ {L : List PT4}, (∀ q ∈ L, H q.1 = some (.tup [.ref q.2.1, q.2.2.2]) ∧ H q.2.1 = some (.tup (q.2.2.1.map kV))) →
    ∃ prs : List (List Key × Addr × Value), KT H (L.map fun q => (q.2.2.1, q.2.2.2)) prs ∧ prs.length = L.length ∧ ∀ (j : Nat) (q : List Key × Addr × Value), prs[j]? = some q → ∃ l : PT4, L[j]? = some l ∧ IsTup s.heap l.1 #[.ref q.2.1, q.2.2]
  | [], _ => ⟨[], .nil, rfl, fun j q e => by simp at e⟩
  | l :: t, h => by
    obtain ⟨prs, r, hl, hp⟩ := pairs_ofT I (L := t) fun q hq => h q (List.mem_cons_of_mem _ hq)
    obtain ⟨h1, h2⟩ := h l List.mem_cons_self
    obtain ⟨its, rv, ht, _⟩ := I.tuple (SqT.of h1)
    obtain ⟨u, y, ei, ru, ry⟩ := vals2 rv
    subst ei
    obtain rfl : u = Value.ref l.2.1 := ru
    refine ⟨(l.2.2.1, l.2.1, y) :: prs, .cons ⟨rfl, h2, ry⟩ r, by rw [List.length_cons, List.length_cons, hl], fun j q e => ?_⟩
    cases j with
    | zero =>
      have e' : (l.2.2.1, l.2.1, y) = q := Option.some.inj e
      subst e'
      exact ⟨l, rfl, ht⟩
    | succ j =>
      obtain ⟨l', e1, e2⟩ := hp j q (by simpa using e)
      exact ⟨l', by simpa using e1, e2⟩
theorem kt_mem {H : Hp} : ∀ {l : List (List Key × V)} {m : List (List Key × Addr × Value)}, KT H l m → ∀ x ∈ m, H x.2.1 = some (.tup (x.1.map kV)) := by
  intro l m q
  induction q with
  | nil => intro x hx; exact nomatch hx
  | @cons p q ps qs hq t ih =>
    intro x hx
    rcases List.mem_cons.mp hx with e | hx
    · subst e
      rw [← hq.1]
      exact hq.2.1
    · exact ih x hx
/-- dict(xs), keys tuples: later pairs win, the place is the first one's -/
theorem call_dictPT (hcalm : X.calm = true) (hu : X.A.units + 3 < cLine) : CallR X (.type "dict") (fun xs H Q => ∃ (a : Addr) (L : List PT4), xs = [.ref a] ∧ SqL X.K H a (L.map fun q => V.ref q.1) ∧ (∀ q ∈ L, H q.1 = some (.tup [.ref q.2.1, q.2.2.2]) ∧ H q.2.1 = some (.tup (q.2.2.1.map kV))) ∧
    ∀ p, H p = none → Q (.ref p) (upd H p (.dT (mergeT [] (L.map fun q => (q.2.2.1, q.2.2.2)))))) := by
  intro pins s σ H xs us Q I r q
  obtain ⟨a, L, ex, hq, hp, q⟩ := q
  subst ex
  obtain ⟨u, eu, rx⟩ := vals1 r
  subst eu
  cases rx
  obtain ⟨its, rv, pl, hz⟩ := I.list hq
  have ei : its = (L.map (·.1)).map Value.ref := refs_at (by rw [List.map_map]; exact rv)
  subst ei
  rw [List.length_map] at hz
  obtain ⟨o, n, ho, hc, hd, hdat⟩ := pl
  obtain ⟨prs, rel, hl, hpr⟩ := pairs_ofT I hp
  let ps : List (Value × Value) := prs.map fun q => (Value.ref q.2.1, q.2.2)
  have hps : ps.length = L.length := by rw [List.length_map, hl]
  let Ts : Nat → Addr := fun j => (L[j]?.map (·.1)).getD 0
  have get : ∀ i k v, ps[i]? = some ((k : Value), (v : Value)) → ∃ q : List Key × Addr × Value, prs[i]? = some q ∧ k = Value.ref q.2.1 ∧ v = q.2.2 := fun i k v e => by
    rw [List.getElem?_map, Option.map_eq_some_iff] at e
    obtain ⟨q, e1, e2⟩ := e
    cases e2
    exact ⟨q, e1, rfl, rfl⟩
  have PI : PairItems s.heap ((L.map (·.1)).map Value.ref).toArray Ts ps := by
    refine ⟨by simp [hps], fun j k v e => ?_⟩
    obtain ⟨q, e1, rfl, rfl⟩ := get j k v e
    obtain ⟨l, e2, ht⟩ := hpr j q e1
    have eT : Ts j = l.1 := by show (L[j]?.map (·.1)).getD 0 = _; rw [e2]; rfl
    rw [eT]
    refine ⟨by simp [e2], .inl ?_⟩
    exact ht
  refine call_dict_pairsH (knd := tupleKind (mixKind X.prog X.w)) (ps := prs) (PairArg.list a ((L.map (·.1)).map Value.ref).toArray Ts ps) (I.ok.hd hcalm) ?_ ⟨⟨o, n, ho, hc, hd, hdat⟩, PI⟩ ⟨by rw [hl, hps], fun i key v e => ?_⟩ ?_ (by rw [hps]; exact hz) fun h' tk hd' k => ?_
  · exact tupleKind_room_in1 (A := X.A.in1) (by show X.A.units + 1 + 1 < cLine; omega)
  · obtain ⟨q, e1, e2, e3⟩ := get i key v e
    subst e2 e3
    exact ⟨q.1, q.2.1, e1, rfl⟩
  · intro h' hk x hx
    exact key_of (I.hok.kept fun b o e => hk b o (Nat.ne_of_lt (Heap.lt_size e)) (fun z => nomatch z) e) (kt_mem rel x hx)
  · have hm : (s.heap.objs.size == sysModules) = false := beq_eq_false_iff_ne.mpr (Nat.ne_of_gt I.big)
    have hlen : (mergeT [] (L.map fun q => (q.2.2.1, q.2.2.2))).length ≤ sizeLine := by
      refine Nat.le_trans (length_mergeT _ []) ?_
      rw [List.length_nil, Nat.zero_add, List.length_map]
      exact hz
    obtain ⟨o2, es, ep, g1, g2, g3, g4, _, g5⟩ := hd'
    refine ⟨.ref s.heap.objs.size, upd H s.heap.objs.size (.dT (mergeT [] (L.map fun q => (q.2.2.1, q.2.2.2)))), I.laid (t' := tk) (fun b o e => k b o (fun z => nomatch z) e) (Nat.le_refl _) (show ObjOk X.prog X.w _ _ _ (.dT (mergeT [] (L.map fun q => (q.2.2.1, q.2.2.2)))) from ⟨hlen, hm, storedAllH [] prs, (KT.merge rel .nil).keeps fun b ys e => ?_, o2, es, ep, g1, g2, g3, g4, g5⟩), rfl, q _ (I.hok.fresh (Nat.le_refl _))⟩
    rw [upd_ne (fun z => by rw [z, I.hok.fresh (Nat.le_refl _)] at e; cases e)]
    exact e
end
end L2
end
section
set_option maxRecDepth 100000
/-! dict comprehensions whose keys are tuples; list(d) of such a dict -/
namespace L2
open PySem PySem.Spec PyProof.Rows
/-- d[k] = v by a comprehension, k a tuple -/
theorem d_dictSetT {X : Cx} {pins : List (Addr × Obj)} {σ : St} {H : Hp} {s : Shared} {E : Value → Shared → Prop} {D b : Addr} {kvs : List (List Key × V)} {k : List Key} {v : V} {u r : Value} {Q : Unit → Shared → Prop} (hu : X.A.units + 1 < cLine) (I : Inv X pins σ H s) (hD : H D = some (.dT kvs)) (hb : H b = some (.tup (k.map kV))) (hz : kvs.length < sizeLine)
    (ry : RelV (V.ref b) u) (rv : RelV v r) (h : ∀ s', Inv X pins σ (upd H D (.dT (putK kvs k v))) s' → Q () s') : wpAny (model X.prog X.w) X.A (dictSet D u r) Q E s := by
  cases (show u = Value.ref b from ry)
  obtain ⟨z, hd, xs, rel, dd⟩ := dt_of I.hok hD
  have hzx : xs.length ≤ sizeLine := by rw [← Paired.length rel]; exact z
  have hl : (putK kvs k v).length ≤ sizeLine := by have := length_putK kvs k v; omega
  refine wpAny_dictSet_heap (hsz := hzx) (show (tupleKind (mixKind X.prog X.w)).room X.A from Nat.lt_of_succ_lt hu) (key_of I.hok hb) dd fun h' dd' hs => h _ ?_
  obtain ⟨q, es, ep, hq, h2, h3, h4, _, h5⟩ := dd'
  refine d_write I (by rw [hD]; exact True.intro) hs ⟨q, hq⟩ ⟨hl, hd, _, (rel.put k hb rv).keeps fun c ys ec => ?_, q, es, ep, hq, h2, h3, h4, h5⟩
  rw [upd_ne (ne_of ec hD (fun z => nomatch z))]
  exact ec
section
variable {X : Cx}
/-- {k: v for target in iter if ..}, keys tuples: D the new dict -/
def tDcT (wi : TI) (g : TG) (tt : TT) (tk tv : TE) (vs : List Nat) : TE := fun σ H Q => wi σ H fun J H1 => ∀ D, H1 D = none → ∃ W : Nat → Nat → Hp → Prop, (∃ m, W 0 m (upd H1 D (.dT []))) ∧ ∀ i m H, W i m H →
  (J.stop i H ∧ Q (.ref D) H) ∨ (J.go i H ∧ ∃ Nx : Hp → Prop, (∀ H', Nx H' → ∃ m', m' < m ∧ W (i + 1) m' H') ∧ ∀ x H', J.yld i H x H' → g x (wipe σ vs) H' fun σ2 H2 => wipe σ2 vs = wipe σ vs ∧ tt σ2 H2 fun b H3 =>
    if b = true then tk σ2 H3 fun y H4 => tv σ2 H4 fun z H5 => ∃ kvs k b, y = .ref b ∧ H5 b = some (.tup (k.map kV)) ∧ H5 D = some (.dT kvs) ∧ kvs.length < sizeLine ∧ Nx (upd H5 D (.dT (putK kvs k z))) else Nx H3)
theorem dc_coreT {pins : List (Addr × Obj)} {s : Shared} {σ : St} {H : Hp} {Q : VK} {kx vx tg iter : Expr} {ifs : List Expr} {scope : Scope} {own : List (Str × Nat)} {pos pos' : Pos} {wi : TI} {g : TG} {tt : TT} {tk tv : TE} {use : Option (Value → Sem Unit)} {Qf : Value → Shared → Prop}
    (hu : X.A.units + 1 < cLine) (hc : X.calm = true) (hN : X.N.Nodup) (I : Inv X pins σ H s) (hi : PI X tg iter wi) (ok : BlkOk X.N X.env.scope scope own)
    (hg : ∀ (s : Shared) (H : Hp) (C : Addr) (cl : List (Str × Addr)) (fp : List Addr), PG (X.blk s H scope (compEnvC scope cl C X.env) fp) tg g) (ht : ∀ (s : Shared) (H : Hp) (C : Addr) (cl : List (Str × Addr)) (fp : List Addr), PTs (X.blk s H scope (compEnvC scope cl C X.env) fp) ifs tt)
    (hk : ∀ (s : Shared) (H : Hp) (C : Addr) (cl : List (Str × Addr)) (fp : List Addr), PE (X.blk s H scope (compEnvC scope cl C X.env) fp) kx tk)
    (he : ∀ (s : Shared) (H : Hp) (C : Addr) (cl : List (Str × Addr)) (fp : List Addr), PE (X.blk s H scope (compEnvC scope cl C X.env) fp) vx tv) (hs : ∀ x, foldedSetIterable iter X.env x = pure x)
    (h : tDcT wi g tt tk tv (own.map (·.2)) σ H Q)
    (hRR : ∀ D C s' m H', Inv X pins σ H' s' → Q (.ref D) H' → s'.heap.Ns C m → FpOk X pins H' C → compPost (model X.prog X.w) X.A X.xe use Qf (.ref D) C (.ok .next) s') :
    wpAny (model X.prog X.w) X.A (comprehension (.DictComp kx vx [⟨tg, iter, ifs, 0⟩] scope pos) scope X.env pos' newDict false (eval iter X.env) use) Qf X.xe s := by
  have hfree : ∀ y ∈ scope.names, y.2 = .free → ∃ c, X.env.cells.lookup y.1 = some c := fun y hy e => by
    rcases ok.free y hy e with k | k
    · exact I.ok.has _ (.inl k)
    · exact I.ok.has _ (.inr k)
  refine wpAny_comprehension_free (use := use) rfl hs (closure_ok hfree) ok.kind (fun y hy e => by rw [ok.uniq y hy, e])
    (thn (hi.run pins s σ H _ I h) fun xv s1 hx => thn hx fun itv s2 h2 => ?_)
  obtain ⟨it, fp, tn, J, H2, e, I2, T, st2, f2, q⟩ := h2
  subst e
  refine wpAny_newObj_type (newEnv_comp ?_)
  generalize hD : s2.heap.objs.size = D
  have hDn : H2 D = none := I2.hok.fresh (Nat.le_of_eq hD)
  obtain ⟨W, ⟨m0, w0⟩, turn⟩ := q D hDn
  -- the new list
  generalize hs3 : ({ s2 with heap := s2.heap.push { cls := .type "dict", data := .dict #[] } } : Shared) = s3
  have I3 : Inv X pins σ (upd H2 D (.dT [])) s3 := by
    rw [← hs3]
    refine I2.laid (t' := s2.toks) (fun b o e => Heap.get?_push_of_some _ e) (Nat.le_of_eq hD) ?_
    rw [← hD]
    exact dt_empty s2.heap I2.big
  have h3 : s3.heap = s2.heap.push { cls := .type "dict", data := .dict #[] } := by rw [← hs3]
  have sz : ∀ b ∈ fp, b < s2.heap.objs.size := fun b hb => by
    obtain ⟨o, e, _⟩ := T.obj _ _ st2 b hb
    exact Heap.lt_size e
  have f3 : ∀ b ∈ fp, FpOk X pins (upd H2 D (.dT [])) b ∧ b < s3.heap.objs.size := fun b hb => by
    have hlt := sz b hb
    refine ⟨⟨?_, (f2 b hb).2⟩, by rw [h3, Heap.size_push]; exact Nat.lt_succ_of_lt hlt⟩
    rw [upd_ne (by rw [← hD]; exact Nat.ne_of_lt hlt)]
    exact (f2 b hb).1
  have st3 : tn 0 s3.heap := T.keep _ _ _ st2 fun b _ o e => by rw [h3]; exact Heap.get?_push_of_some _ e
  have I4 := block_start I3 ok hN f3
  have pg := hg s3 (upd H2 D (.dT [])) s3.heap.objs.size (cellsFrom (s3.heap.objs.size + 1) scope.names (cloFrom X.env.cells scope.names [])) fp
  have pt := ht s3 (upd H2 D (.dT [])) s3.heap.objs.size (cellsFrom (s3.heap.objs.size + 1) scope.names (cloFrom X.env.cells scope.names [])) fp
  have pk := hk s3 (upd H2 D (.dT [])) s3.heap.objs.size (cellsFrom (s3.heap.objs.size + 1) scope.names (cloFrom X.env.cells scope.names [])) fp
  have pe := he s3 (upd H2 D (.dT [])) s3.heap.objs.size (cellsFrom (s3.heap.objs.size + 1) scope.names (cloFrom X.env.cells scope.names [])) fp
  show codeAny _ _ (.compStart (.DictComp kx vx [⟨tg, iter, ifs, 0⟩] scope pos) 0 (.ref it) (.ref D) (compEnvC scope (cellsFrom (s3.heap.objs.size + 1) scope.names (cloFrom X.env.cells scope.names [])) s3.heap.objs.size X.env)) (compPost (model X.prog X.w) X.A X.xe use Qf (.ref D) s3.heap.objs.size) { s3 with heap := pushCells (s3.heap.push { cls := .type "dict", data := .dict #[] }) scope.names }
  have nfp : ∀ b ∈ fp, (upd H2 D (.dT [])) b = none := fun b hb => (f3 b hb).1.1
  generalize hce : compEnvC scope (cellsFrom (s3.heap.objs.size + 1) scope.names (cloFrom X.env.cells scope.names [])) s3.heap.objs.size X.env = ce at I4 pg pt pk pe ⊢
  have cL : ce.locals = s3.heap.objs.size := by subst hce; rfl
  generalize hH3 : upd H2 D (.dT []) = H3 at I3 I4 pg pt pk pe w0 nfp f3
  generalize hs4 : ({ s3 with heap := pushCells (s3.heap.push { cls := .type "dict", data := .dict #[] }) scope.names } : Shared) = s4 at I4 ⊢
  have st4 : tn 0 s4.heap := T.keep _ _ _ st3 fun b _ o e => by rw [← hs4]; exact pushCells_keeps _ _ _ _ (Heap.get?_push_of_some _ e)
  have stat : ∀ {σ' : St} {H' : Hp} {s' : Shared}, Inv (X.blk s3 H3 scope ce fp) [] σ' H' s' → (∀ b ∈ fp, H' b = none) → ∀ b ∈ fp, FpOk (X.blk s3 H3 scope ce fp) [] H' b := fun {σ' H' s'} I' hn b hb =>
    ⟨hn b hb, (I'.ok.exf b hb).1, I'.ok.exfs b hb, .inl hb, fun x c e => (I'.ok.exf b hb).2 x c e, fun p hp => absurd (show p ∈ ([] : List (Addr × Obj)) ++ [] from hp) (by simp)⟩
  have loop : codeAny (model X.prog X.w) X.A (.compLoop (.DictComp kx vx [⟨tg, iter, ifs, 0⟩] scope pos) 0 (.ref it) (.ref D) ce) (compPost (model X.prog X.w) X.A X.xe use Qf (.ref D) s3.heap.objs.size) s4 := by
    refine compLoop_anyD (fun n s' => ∃ i H', Inv (X.blk s3 H3 scope ce fp) [] (wipe σ (own.map (·.2))) H' s' ∧ tn i s'.heap ∧ (∀ b ∈ fp, H' b = none) ∧ W i n H') ?_ m0 ⟨0, H3, I4, st4, nfp, w0⟩
    rintro n s5 ⟨i, H5, I5, st5, n5, w5⟩
    rcases turn i n H5 w5 with ⟨stop, qq⟩ | ⟨go, Nx, hNx, step⟩
    · have td := T.done (X.blk s3 H3 scope ce fp) rfl rfl rfl hc i [] s5 _ H5 (fun _ _ => False) I5 (stat I5 n5) st5 stop
      refine thnF td fun r s6 ⟨hr, I6⟩ => ?_
      subst hr
      -- back in the def's context
      have I7 : Inv X pins σ H5 s6 := I3.call' (ch := fp) I6.os I6.base I6.hok I6.bare fun b hb => ⟨(f3 b hb).1.2.2.2.1, (f3 b hb).1.2.1, (f3 b hb).1.2.2.2.2.1, (f3 b hb).1.2.2.2.2.2⟩
      have nC : H5 s3.heap.objs.size = none := by
        have z : H5 ce.locals = none := I6.free
        rw [cL] at z
        exact z
      obtain ⟨m, hn, _⟩ := I6.loc
      have hn : s6.heap.Ns ce.locals m := hn
      rw [cL] at hn
      exact hRR D s3.heap.objs.size s6 m H5 I7 qq hn (I3.fpOk (Nat.le_refl _) nC)
    · have ti := T.item (X.blk s3 H3 scope ce fp) rfl rfl rfl hc i [] s5 _ H5 (fun _ _ => False) I5 (stat I5 n5) st5 go
      refine thnF ti fun r s6 ⟨u, hr, h6⟩ => ?_
      subst hr
      refine thnF h6 fun _ s7 ⟨x, H7, I7, r7, y7, st7, n7⟩ => ?_
      have I7' := I7.pinned (stat I7 n7) (T.obj _ _ st7)
      refine thnF (pg.run _ s7 _ H7 x u _ I7' r7 (step x H7 y7)) fun _ s8 ⟨σ8, H8, I8, hw8, q8⟩ => ?_
      refine thnF (pt.run _ s8 σ8 H8 _ I8 q8) fun b s9 ⟨H9, I9, q9⟩ => ?_
      -- the turn's end
      have fin : ∀ {s' : Shared} {H' : Hp}, Inv (X.blk s3 H3 scope ce fp) ([] ++ pinsAt fp s7.heap) σ8 H' s' → Nx H' → ∃ m, m < n ∧ ∃ i H', Inv (X.blk s3 H3 scope ce fp) [] (wipe σ (own.map (·.2))) H' s' ∧ tn i s'.heap ∧ (∀ b ∈ fp, H' b = none) ∧ W i m H' := fun {s' H'} I' nx => by
        obtain ⟨m', hm, w'⟩ := hNx H' nx
        have pin' : ∀ b ∈ fp, ∀ o, s7.heap.get? b = some o → s'.heap.get? b = some o ∧ H' b = none := fun b hb o e =>
          let z := I'.pin (b, o) (List.mem_append_right _ (List.mem_append_right _ (mem_pinsAt hb e)))
          ⟨z.1, z.2.1⟩
        have hl : (wipe σ (own.map (·.2))).length = σ8.length := by rw [← hw8, wipe_length]
        refine ⟨m', hm, i + 1, H', (I'.unpinned (pins := [])).weak hl (fun j v e => ?_), T.keep _ _ _ st7 fun b hb o e => (pin' b hb o e).1, fun b hb => ?_, w'⟩
        · rw [← hw8] at e
          exact (wipe_some e).1
        · obtain ⟨o, e, _⟩ := T.obj _ _ st7 b hb
          exact (pin' b hb o e).2
      cases b with
      | false =>
        simp only [Bool.false_eq_true, if_false] at q9 ⊢
        exact fin I9 q9
      | true =>
        simp only [if_true] at q9 ⊢
        refine thnF (pk.run _ s9 σ8 H9 _ I9 q9) fun z s10 ⟨yk, H10, I10, r10, q10⟩ => ?_
        refine thnF (pe.run _ s10 σ8 H10 _ I10 q10) fun z2 s11 ⟨yv, H11, I11, r11, kvs, k, kb, ek, hb11, hD11, hz11, nx⟩ => ?_
        subst ek
        exact d_dictSetT (X := X.blk s3 H3 scope ce fp) hu I11 hD11 hb11 hz11 r10 r11 fun s12 I12 => fin I12 nx
  exact codeAny_compStart_dict loop (T.self X.A 0 _ _ _ st4 loop)
/-- as a value -/
theorem pe_dcT {kx vx tg iter : Expr} {ifs : List Expr} {scope : Scope} {own : List (Str × Nat)} {pos : Pos} {wi : TI} {g : TG} {tt : TT} {tk tv : TE} (hu : X.A.units + 1 < cLine) (hc : X.calm = true) (hN : X.N.Nodup) (hi : PI X tg iter wi) (ok : BlkOk X.N X.env.scope scope own)
    (hg : ∀ (s : Shared) (H : Hp) (C : Addr) (cl : List (Str × Addr)) (fp : List Addr), PG (X.blk s H scope (compEnvC scope cl C X.env) fp) tg g) (ht : ∀ (s : Shared) (H : Hp) (C : Addr) (cl : List (Str × Addr)) (fp : List Addr), PTs (X.blk s H scope (compEnvC scope cl C X.env) fp) ifs tt)
    (hk : ∀ (s : Shared) (H : Hp) (C : Addr) (cl : List (Str × Addr)) (fp : List Addr), PE (X.blk s H scope (compEnvC scope cl C X.env) fp) kx tk)
    (he : ∀ (s : Shared) (H : Hp) (C : Addr) (cl : List (Str × Addr)) (fp : List Addr), PE (X.blk s H scope (compEnvC scope cl C X.env) fp) vx tv) (hs : ∀ x, foldedSetIterable iter X.env x = pure x := by intro _; rfl) :
    PE X (.DictComp kx vx [⟨tg, iter, ifs, 0⟩] scope pos) (tDcT wi g tt tk tv (own.map (·.2))) := by
  refine ⟨fun pins s σ H Q I h => ?_⟩
  rw [arm_eval_DictComp]
  refine dc_coreT hu hc hN I hi ok hg ht hk he hs h fun D C s' m H' I' q hn f => ⟨m, hn, fun h'' sb => ?_⟩
  obtain ⟨f0, f1, f2, f3, f4, f5⟩ := f
  exact ⟨.ref D, H', I'.turned (t' := s'.toks) (fun b o hb e => (sb.2 b hb).trans e) f0 f1 f3 f4 f5, rfl, q⟩
/-- over a list that stays -/
theorem dc_listT {K : PySem.W.Frag} {a : Addr} {xs : List V} {g : TG} {tt : TT} {tk tv : TE} {vs : List Nat} {σ : St} {H1 : Hp} {D : Addr} {Qd : Hp → Prop} (Pv : Nat → Hp → Prop) (h0 : Pv 0 (upd H1 D (.dT []))) (hl : ∀ i H, i ≤ xs.length → Pv i H → SqL K H a xs)
    (hs : ∀ i x H, xs[i]? = some x → Pv i H → g x (wipe σ vs) H fun σ2 H2 => wipe σ2 vs = wipe σ vs ∧ tt σ2 H2 fun b H3 =>
      if b = true then tk σ2 H3 fun y H4 => tv σ2 H4 fun z H5 => ∃ kvs k b, y = .ref b ∧ H5 b = some (.tup (k.map kV)) ∧ H5 D = some (.dT kvs) ∧ kvs.length < sizeLine ∧ Pv (i + 1) (upd H5 D (.dT (putK kvs k z))) else Pv (i + 1) H3) (hd : ∀ H, Pv xs.length H → Qd H) :
    ∃ W : Nat → Nat → Hp → Prop, (∃ m, W 0 m (upd H1 D (.dT []))) ∧ ∀ i m H, W i m H →
      ((Itl K a).stop i H ∧ Qd H) ∨ ((Itl K a).go i H ∧ ∃ Nx : Hp → Prop, (∀ H', Nx H' → ∃ m', m' < m ∧ W (i + 1) m' H') ∧ ∀ x H', (Itl K a).yld i H x H' → g x (wipe σ vs) H' fun σ2 H2 => wipe σ2 vs = wipe σ vs ∧ tt σ2 H2 fun b H3 =>
        if b = true then tk σ2 H3 fun y H4 => tv σ2 H4 fun z H5 => ∃ kvs k b, y = .ref b ∧ H5 b = some (.tup (k.map kV)) ∧ H5 D = some (.dT kvs) ∧ kvs.length < sizeLine ∧ Nx (upd H5 D (.dT (putK kvs k z))) else Nx H3) := by
  refine ⟨fun i m H => m = xs.length - i ∧ i ≤ xs.length ∧ Pv i H, ⟨xs.length, by simp, Nat.zero_le _, h0⟩, ?_⟩
  rintro i m H ⟨rfl, hi, p⟩
  have q := hl i H hi p
  by_cases hlt : i < xs.length
  · refine .inr ⟨⟨xs, xs[i], q, by simp [hlt]⟩, Pv (i + 1), fun H' p' => ⟨xs.length - (i + 1), by omega, rfl, hlt, p'⟩, fun x H' y => ?_⟩
    obtain ⟨e, y⟩ := y
    subst e
    exact hs i x _ (y xs q) p
  · have e : i = xs.length := by omega
    subst e
    exact .inl ⟨⟨xs, q, Nat.le_refl _⟩, hd H p⟩
theorem vals_of_refsD {β : Type} : ∀ (ks : List (Addr × β)), Vals (ks.map fun p => V.ref p.1) (ks.map fun p => Value.ref p.1)
  | [] => .nil
  | p :: ks => .cons rfl (vals_of_refsD ks)
theorem kt_keys {H : Hp} : ∀ {kvs : List (List Key × V)} {xs : List (List Key × Addr × Value)}, Paired (fun (p : List Key × V) (q : List Key × Addr × Value) => p.1 = q.1 ∧ H q.2.1 = some (.tup (p.1.map kV)) ∧ RelV p.2 q.2.2) kvs xs →
    (xs.map fun q => (q.2.1, q.1)).map (·.2) = kvs.map (·.1) ∧ ∀ p ∈ xs.map (fun q => (q.2.1, q.1)), H p.1 = some (.tup (p.2.map kV)) := by
  intro kvs xs r
  induction r with
  | nil => exact ⟨rfl, fun p hp => nomatch hp⟩
  | @cons p q ps qs hq t ih =>
    obtain ⟨e, ht⟩ := ih
    refine ⟨?_, fun z hz => ?_⟩
    · rw [List.map_cons, List.map_cons, List.map_cons, e, hq.1]
    · rw [List.map_cons] at hz
      rcases List.mem_cons.mp hz with rfl | hz
      · show H q.2.1 = some (.tup (q.1.map kV))
        rw [← hq.1]
        exact hq.2.1
      · exact ht z hz
/-- list(d): the keys, tuples -/
theorem call_listDT (hcalm : X.calm = true) : CallR X (.type "list") (fun xs H Q => ∃ (a : Addr) (kvs : List (List Key × V)), xs = [.ref a] ∧ H a = some (.dT kvs) ∧ ∀ (L : List (Addr × List Key)) (p : Addr), L.map (·.2) = kvs.map (·.1) → (∀ q ∈ L, H q.1 = some (.tup (q.2.map kV))) → H p = none → Q (.ref p) (upd H p (.lst (L.map fun q => V.ref q.1)))) := by
  intro pins s σ H xs us Q I r q
  obtain ⟨a, kvs, ex, hd, q⟩ := q
  subst ex
  obtain ⟨u, eu, rx⟩ := vals1 r
  subst eu
  cases rx
  obtain ⟨z, lo, xs, rel, dd⟩ := dt_of I.hok hd
  obtain ⟨o, es, ep, ho, hc, hdd, he, _, _⟩ := dd
  obtain ⟨k1, k2⟩ := kt_keys rel
  have hlx : xs.length = kvs.length := (Paired.length rel).symm
  have hes : es.size = xs.length := by rw [← Array.length_toList, he, List.length_map]
  refine PySem.W.kdl_call (PySem.KdlSrc.rawDict (es := es) (ep := ep) lo) (I.ok.hd hcalm) ⟨o, ho, hc, hdd⟩ (by rw [hes, hlx]; exact z) fun h' tk acc c' hk hD hacc => ?_
  have eacc : acc.toList = (xs.map fun q => (q.2.1, q.1)).map fun q => Value.ref q.1 := by
    refine List.ext_getElem? fun i => ?_
    by_cases hi : i < xs.length
    · have hia : i < acc.size := by rw [hacc.1, hes]; exact hi
      obtain ⟨hi2, hv⟩ := hacc.2 i acc[i] (Array.getElem?_eq_getElem hia)
      have e1 : es[i]? = (xs.map (entryOfKey (tupleKind (mixKind X.prog X.w))))[i]? := by rw [← he, Array.getElem?_toList]
      rw [Array.getElem?_eq_getElem hi2, List.getElem?_map, List.getElem?_eq_getElem hi] at e1
      have e2 : es[i] = entryOfKey (tupleKind (mixKind X.prog X.w)) xs[i] := Option.some.inj e1
      rw [Array.getElem?_toList, Array.getElem?_eq_getElem hia, hv, e2, List.getElem?_map, List.getElem?_map, List.getElem?_eq_getElem hi]
      rfl
    · rw [List.getElem?_eq_none (by rw [Array.length_toList, hacc.1, hes]; omega), List.getElem?_eq_none (by rw [List.length_map, List.length_map]; omega)]
  have hv : Vals ((xs.map fun q => (q.2.1, q.1)).map fun q => V.ref q.1) acc.toList := by
    rw [eacc]
    exact vals_of_refsD _
  refine ⟨.ref s.heap.objs.size, upd H s.heap.objs.size (.lst ((xs.map fun q => (q.2.1, q.1)).map fun q => V.ref q.1)), I.laid (t' := tk) hk (Nat.le_refl _)
    (show ObjOk X.prog X.w _ _ _ (.lst ((xs.map fun q => (q.2.1, q.1)).map fun q => V.ref q.1)) from ⟨by rw [List.length_map, List.length_map, hlx]; exact z, acc.toList, c', hv, by rw [Array.toArray_toList]; exact hD⟩), rfl, q _ _ k1 k2 (I.hok.fresh (Nat.le_refl _))⟩
end
end L2
end
section
set_option maxRecDepth 100000
/-! name = {k: v for ..} on one line, keys tuples -/
namespace L2
open PySem PySem.Spec PyProof.Rows
section
variable {X : Cx}
theorem ps_setDcT {i : Nat} {y : Str} {py : Pos} {kx vx tg iter : Expr} {ifs : List Expr} {scope : Scope} {own : List (Str × Nat)} {pos spos : Pos} {wi : TI} {g : TG} {tt : TT} {tk tv : TE} (hu : X.A.units + 1 < cLine) (hc : X.calm = true) (hN : X.N.Nodup) (hy : X.N[i]? = some y) (hyl : X.env.scope.names.lookup y = some .local)
    (hsw : swapsWith (.DictComp kx vx [⟨tg, iter, ifs, 0⟩] scope pos) (some (.Name y py)) spos.line X.env = pure true) (hi : PI X tg iter wi) (ok : BlkOk X.N X.env.scope scope own)
    (hg : ∀ (s : Shared) (H : Hp) (C : Addr) (cl : List (Str × Addr)) (fp : List Addr), PG (X.blk s H scope (compEnvC scope cl C X.env) fp) tg g) (ht : ∀ (s : Shared) (H : Hp) (C : Addr) (cl : List (Str × Addr)) (fp : List Addr), PTs (X.blk s H scope (compEnvC scope cl C X.env) fp) ifs tt)
    (hk : ∀ (s : Shared) (H : Hp) (C : Addr) (cl : List (Str × Addr)) (fp : List Addr), PE (X.blk s H scope (compEnvC scope cl C X.env) fp) kx tk)
    (he : ∀ (s : Shared) (H : Hp) (C : Addr) (cl : List (Str × Addr)) (fp : List Addr), PE (X.blk s H scope (compEnvC scope cl C X.env) fp) vx tv) (hs : ∀ x, foldedSetIterable iter X.env x = pure x := by intro _; rfl) :
    PS X (.Assign [.Name y py] (.DictComp kx vx [⟨tg, iter, ifs, 0⟩] scope pos) spos) (tAsg (tDcT wi g tt tk tv (own.map (·.2))) (gName i)) := by
  refine ⟨fun pins s σ H D I h => ?_⟩
  rw [exec_Assign_Name_used _ _ _ _ hsw]
  refine wpAny_bind (wpAny_standAt (wpAny_bind ?_))
  show wpAny _ X.A (do let _ ← comprehension (.DictComp kx vx [⟨tg, iter, ifs, 0⟩] scope pos) scope X.env (firstIterPos [⟨tg, iter, ifs, 0⟩] pos) newDict false (eval iter X.env) (some (assign (.Name y py) X.env))) _ _ s
  have h : tDcT wi g tt tk tv (own.map (·.2)) σ H (fun x H1 => gName i x σ H1 D.nx) := h
  refine wpAny_bind (thn (dc_coreT (Qf := fun _ s' => SP X pins D .next s') hu hc hN I hi ok hg ht hk he hs h fun L C s' m H' I' q hn f => ?_) fun _ s' hq => wpAny_pure (wpAny_pure hq))
  show wpAny _ _ (assign (.Name y py) X.env (.ref L)) _ _ _
  refine wpAny_assign_Name (store_ok2 (v := V.ref L) I' hN hy (.inl hyl) rfl (fun s2 I2 ⟨a, sb, ha⟩ => ?_) (.inr hyl))
  obtain ⟨f0, f1, f2, f3, f4, f5⟩ := f
  have haC : C ≠ a := by
    rcases ha with z | z
    · rw [z]; exact f1
    · exact fun e => f4 y a z e.symm
  refine ⟨m, hn.sameBut sb haC, fun h3 sb3 => ?_⟩
  exact ⟨_, H', I2.turned (t' := s2.toks) (fun b o hb e => (sb3.2 b hb).trans e) f0 f1 f3 f4 f5, q⟩
theorem sw_trueD {kx vx : Expr} {gs : List Comprehension} {scope : Scope} {pos py : Pos} {y : Str} {l : Nat} {env : Env} (hk : env.scope.kind = .function) (hy : env.scope.names.lookup y = some .local) (hl : (py.line == pos.line) = true)
    (ha : (scope.names.any fun (n, k) => n == y && (k == .local || k == .cell)) = false) : swapsWith (.DictComp kx vx gs scope pos) (some (.Name y py)) l env = pure true := by
  have ky : env.kindOf y = some .local := hy
  have hb : env.blockKind = .function := by unfold Env.blockKind; rw [hk]; rfl
  unfold swapsWith
  simp only [hb, ky, ha, Expr.pos, hl]
  rfl
end
end L2
end
section
set_option maxRecDepth 100000
/-! dict comprehensions (keys ints or texts) over any walk -/
namespace L2
open PySem PySem.Spec PyProof.Rows
theorem dc_it {J : It} {n : Nat} {G : Hp → Prop} {Y : Nat → Hp → V → Hp → Prop} (w : Walk J n G Y) {g : TG} {tt : TT} {tk tv : TE} {vs : List Nat} {σ : St} {H1 : Hp} {D : Addr} {Qd : Hp → Prop} (Pv : Nat → Hp → Prop) (h0 : Pv 0 (upd H1 D (.dK []))) (hG : ∀ i H, i ≤ n → Pv i H → G H)
    (hs : ∀ i x H H', i < n → Pv i H → Y i H x H' → g x (wipe σ vs) H' fun σ2 H2 => wipe σ2 vs = wipe σ vs ∧ tt σ2 H2 fun b H3 =>
      if b = true then tk σ2 H3 fun y H4 => tv σ2 H4 fun z H5 => ∃ kvs k, y = kV k ∧ H5 D = some (.dK kvs) ∧ kvs.length < sizeLine ∧ Pv (i + 1) (upd H5 D (.dK (putK kvs k z))) else Pv (i + 1) H3) (hd : ∀ H, Pv n H → Qd H) :
    ∃ W : Nat → Nat → Hp → Prop, (∃ m, W 0 m (upd H1 D (.dK []))) ∧ ∀ i m H, W i m H →
      (J.stop i H ∧ Qd H) ∨ (J.go i H ∧ ∃ Nx : Hp → Prop, (∀ H', Nx H' → ∃ m', m' < m ∧ W (i + 1) m' H') ∧ ∀ x H', J.yld i H x H' → g x (wipe σ vs) H' fun σ2 H2 => wipe σ2 vs = wipe σ vs ∧ tt σ2 H2 fun b H3 =>
        if b = true then tk σ2 H3 fun y H4 => tv σ2 H4 fun z H5 => ∃ kvs k, y = kV k ∧ H5 D = some (.dK kvs) ∧ kvs.length < sizeLine ∧ Nx (upd H5 D (.dK (putK kvs k z))) else Nx H3) := by
  refine ⟨fun i m H => m = n - i ∧ i ≤ n ∧ Pv i H, ⟨n, by simp, Nat.zero_le _, h0⟩, ?_⟩
  rintro i m H ⟨rfl, hi, p⟩
  have q := hG i H hi p
  by_cases hlt : i < n
  · exact .inr ⟨w.goes i H hlt q, Pv (i + 1), fun H' p' => ⟨n - (i + 1), by omega, rfl, hlt, p'⟩, fun x H' y => hs i x H H' hlt p (w.yields i H x H' hlt q y)⟩
  · have e : i = n := by omega
    subst e
    exact .inl ⟨w.stops H q, hd H p⟩
end L2
end
section
set_option maxRecDepth 100000
set_option maxHeartbeats 4000000
/-! xs == [] for a list of anything -/
namespace XQs
open PySem PySem.Spec PyProof.Rows L2
def rEqE (K : PySem.W.Frag) : R2 := fun x y H Q => ∃ a b xs, x = .ref a ∧ y = .ref b ∧ SqL K H a xs ∧ SqL K H b [] ∧ Q (.bl xs.isEmpty) H
section
variable {X : Cx}
theorem op_eqE (hu : X.A.units < cLine) : OpR X (compareOp .Eq) (rEqE X.K) := by
  intro pins s σ H x y v u Q I rx ry h
  obtain ⟨a, b, xs, rfl, rfl, ha, hb, q⟩ := h
  obtain rfl : v = Value.ref a := rx
  obtain rfl : u = Value.ref b := ry
  obtain ⟨its, r, pl, hz⟩ := I.list ha
  obtain ⟨its2, r2, pl2, hz2⟩ := I.list hb
  have l1 := r.length
  cases r2
  cases xs with
  | nil =>
    cases r
    have := PySem.SeqAt.RcAt.lists (A := X.A) (s := s) pl.isList pl2.isList rfl hu (e := fun _ => true) (fun j j1 j2 => by simp at j1)
    exact this X.prog X.w _ _ ⟨.bl true, H, I, rfl, q⟩
  | cons x xs =>
    refine PySem.SeqAt.RcAt.lists_lengths (A := X.A) (s := s) pl.isList pl2.isList ?_ hu X.prog X.w _ _ ⟨.bl false, H, I, rfl, q⟩
    cases its with
    | nil => cases r
    | cons y ys => simp
end
end XQs
end
section
set_option maxRecDepth 100000
/-! min(x, y) of two data that can be compared, nested ones too: the first, if the second isn't less -/
namespace L2
open PySem PySem.Spec PyProof.Rows PySem.W PySem.SeqAt
theorem min_two_held {P0 : Program} {w0 : World} {A0 : Around} {E0' : Value → Shared → Prop} {s0 : Shared} {a b : Value} {Q : Value → Shared → Prop}
    (h : wpAny (model P0 w0) A0.in1 (pyIter (.ref s0.heap.objs.size)) (fun it s2 => ∃ J fp wr G n P St H bt, it = .ref J ∧ WalksS P0 w0 A0.in1 J fp wr G n P St ∧ St 0 s2 ∧ (∀ b ∈ fp, b < s2.heap.objs.size) ∧ 0 < n ∧
      (∀ b o, H.get? b = some o → b ∉ wr) ∧ (∀ b o, H.get? b = some o → s2.heap.get? b = some o) ∧ CmpIn P0 w0 A0.in1 .Lt H P bt ∧ ∀ v s', P (argBest bt (n - 1)) v → Moved wr G s2 s' → Q v s') E0' { s0 with heap := s0.heap.push { cls := .type "tuple", data := .seq #[a, b] } }) :
    wpAny (model P0 w0) A0 (call (.builtin "min") [a, b]) Q E0' s0 := by
  have hnm : (toString "min" ++ toString ".loop" : String) = "min.loop" := by decide
  apply call_function_tree F.kind_min F.plain_min F.entry_min (F.args_min2 a b)
  show wpAny (model P0 w0) A0.in1 (Builtin.Builtins.bindParams "min" ["key", "default"] 0 ⟨[], []⟩ >>= _) _ _ s0
  apply wpAny_bind (wpAny_of_eq (show Builtin.Builtins.bindParams "min" ["key", "default"] 0 ⟨[], []⟩ = pure [none, none] from rfl) _)
  show wpAny (model P0 w0) A0.in1 (newTuple [a, b] >>= _) _ _ s0
  refine wpAny_bind (wpAny_newObj_type (wpAny_bind (wpAny_mono h (fun it s2 h2 => ?_) fun _ _ e => e)))
  obtain ⟨J, fp, wr, G, n, P, St, H, bt, rfl, W, hst, hfp, hn, hw, hkeep, hcmp, hQ⟩ := h2
  refine wpAny_bind (wpAny_newObj_type (hd := by size_fits) ?_)
  have hS : s2.heap.objs.size ∉ fp := fun hm => Nat.lt_irrefl _ (hfp _ hm)
  rw [hnm]
  exact wpAny_pure ⟨plainId_quiet F.plain_min_loop _, codeAny_min_loop_firstH W H hw bt hcmp s2.heap.objs.size hS (fresh_in hkeep) _ hn (fun b o e => Heap.get?_push_of_some _ (hkeep b o e))
    (W.frame 0 s2 _ s2.toks hst (Nat.le_refl _) fun b _ o e => Heap.get?_push_of_some _ e) (Heap.get?_push_size _ rfl) fun v s' hP hm => hQ v s' hP (Moved.drop_new (tk := s2.toks) hm (Nat.le_refl _))⟩
def rMin2D (K : PySem.W.Frag) : List V → Hp → VK → Prop := fun vs H Q => ∃ (x y : V) (d e : PyData), vs = [x, y] ∧ Dp K H x d ∧ Dp K H y e ∧ AlikeAll [d, e] ∧ PyData.depthAll [d, e] ≤ 60 ∧ Q (if dataLt e d = true then y else x) H
theorem cr_min2D {X : Cx} (hc : X.calm = true) (hu : X.A.units + 66 < cLine) : CallR X (.builtin "min") (rMin2D X.K) := by
  intro pins s σ H xs us Q I r h
  obtain ⟨x, y, d, e, rfl, hd, he, ha, hdp, q⟩ := h
  obtain ⟨u, w', rfl, r1, r2⟩ := vals2 r
  obtain ⟨as, q1⟩ := Dp.reads I d x u hd r1
  obtain ⟨bs, q2⟩ := Dp.reads I e y w' he r2
  have hr : ReadsAll s.heap (#[u, w'] : Array Value).toList [d, e] _ := .cons q1 (.cons q2 .nil)
  have hT : (s.heap.push { cls := .type "tuple", data := .seq #[u, w'] }).IsTuple s.heap.objs.size #[u, w'] := ⟨_, Heap.get?_push_size _ rfl, rfl, 0, rfl⟩
  refine min_two_held (iter_tupleW (A := X.A.in1) (I.ok.hd hc) hT fun s₂ e₂ W st hfp hw hk => ?_)
  refine ⟨_, _, _, _, _, _, _, s.heap, _, rfl, W, st, hfp, Nat.zero_lt_succ _, fun b o eb => hw b o (Heap.get?_push_of_some _ eb), fun b o eb => hk b o (Heap.get?_push_of_some _ eb), cmpIn_lt (A := X.A.in1) (s := s) hr ha (by show X.A.units + 1 + _ < _; omega), fun v s' hP m => ?_⟩
  obtain ⟨h', tk, rfl, hk'⟩ := moved_old e₂ rfl m
  have hv : (if dataLt e d = true then w' else u) = v := by
    have hP : (#[u, w'] : Array Value)[if dataLt e d = true then 1 else 0]? = some v := hP
    cases hb : dataLt e d with
    | true => rw [hb] at hP; exact Option.some.inj hP
    | false => rw [hb] at hP; exact Option.some.inj hP
  refine ⟨_, H, I.kept fun b o eb => hk' b o (Heap.get?_push_of_some _ eb), ?_, q⟩
  rw [← hv]
  cases dataLt e d with
  | true => exact r2
  | false => exact r1
end L2
end
section
set_option maxRecDepth 100000
set_option maxHeartbeats 4000000
namespace MS
open PySem L2
/-! ### the watches of a paper, what each tells of a work, and the points by them (pure) -/
structure Wt where
  nm : Str
  w : Str
  c : Bool
  g : Option Nat
def waysIn : Sch → Bool → Bool
  | .carry _, _ => true
  | _, c => c
def gateIn : Sch → Option Nat → Nat → Option Nat
  | .behind _ _, _, n => some n
  | _, g, _ => g
def ownT : Sch → Bool → Option Nat → List Wt
  | .step x _, c, g => [⟨"step", x, c, g⟩]
  | .seen x _, c, g => [⟨"seen", x, c, g⟩]
  | .behind x _, c, g => [⟨"behind", x, c, g⟩]
  | .fin x _ _, c, g => [⟨"end", x, c, g⟩]
  | _, _, _ => []
def wtAll (f : Sch → Nat → List Wt) : List Sch → Nat → List Wt
  | [], _ => []
  | s :: r, n => f s n ++ wtAll f r (n + (f s n).length)
def wt (ps : List Sch) : Nat → Sch → Bool → Option Nat → Nat → List Wt
  | 0, _, _, _, _ => []
  | k + 1, s, c, g, n => ownT s c g ++ wtAll (fun s' n' => wt ps k s' (waysIn s c) (gateIn s g n) n') (partsOf ps s) (n + (ownT s c g).length)
def hit (ws : List StepT) (c : Bool) (x : Str) : Option Nat → Bool
  | none => false
  | some a => (hits ws c x a).head?.isSome
def finB (ws : List StepT) (c : Bool) (x : Str) : Option Nat → Bool
  | none => false
  | some a => lastOk ws c x a
def ownB (ws : List StepT) : Sch → Option Nat → Bool → List Bool
  | .step x _, st, c => [hit ws c x st]
  | .seen x _, _, _ => [ws.any fun p => p.1 == x]
  | .behind x _, st, c => [hit ws c x st]
  | .fin x _ _, st, c => [finB ws c x st]
  | _, _, _ => []
def stIn (ws : List StepT) : Sch → Option Nat → Bool → Option Nat
  | .behind x _, st, c => st.bind fun a => (hits ws c x a).head?.map (· + 1)
  | _, st, _ => st
def bt (ps : List Sch) (ws : List StepT) : Nat → Sch → Option Nat → Bool → List Bool
  | 0, _, _, _ => []
  | k + 1, s, st, c => ownB ws s st c ++ (partsOf ps s).flatMap fun s' => bt ps ws k s' (stIn ws s st c) (waysIn s c)
/-- how many watches -/
def ownN : Sch → Nat
  | .step _ _ => 1
  | .seen _ _ => 1
  | .behind _ _ => 1
  | .fin _ _ _ => 1
  | _ => 0
def cn (ps : List Sch) : Nat → Sch → Nat
  | 0, _ => 0
  | k + 1, s => ownN s + ((partsOf ps s).map (cn ps k)).sum
theorem ownT_len (s : Sch) (c : Bool) (g : Option Nat) : (ownT s c g).length = ownN s := by
  cases s <;> rfl
theorem ownB_len (ws : List StepT) (s : Sch) (st : Option Nat) (c : Bool) : (ownB ws s st c).length = ownN s := by
  cases s <;> rfl
theorem wtAll_len {f : Sch → Nat → List Wt} {m : Sch → Nat} : ∀ (ks : List Sch) (n : Nat), (∀ s ∈ ks, ∀ n, (f s n).length = m s) → (wtAll f ks n).length = (ks.map m).sum
  | [], _, _ => rfl
  | s :: r, n, h => by
    show (f s n ++ wtAll f r (n + (f s n).length)).length = _
    rw [List.length_append, h s List.mem_cons_self, wtAll_len r _ fun s hs => h s (List.mem_cons_of_mem _ hs), List.map_cons, List.sum_cons]
theorem wt_len {ps : List Sch} : ∀ (k : Nat) (s : Sch) (c : Bool) (g : Option Nat) (n : Nat), (wt ps k s c g n).length = cn ps k s
  | 0, _, _, _, _ => rfl
  | k + 1, s, c, g, n => by
    show (ownT s c g ++ _).length = ownN s + _
    rw [List.length_append, ownT_len, wtAll_len (m := cn ps k) _ _ fun s' _ n' => wt_len k s' _ _ n']
theorem bt_len {ps : List Sch} {ws : List StepT} : ∀ (k : Nat) (s : Sch) (st : Option Nat) (c : Bool), (bt ps ws k s st c).length = cn ps k s
  | 0, _, _, _ => rfl
  | k + 1, s, st, c => by
    show (ownB ws s st c ++ _).length = ownN s + _
    rw [List.length_append, ownB_len, List.length_flatMap]
    congr 2
    exact List.map_congr_left fun s' _ => bt_len k s' _ _
/-! the points by the bits -/
def pvAll (f : Sch → List Bool → Nat) (m : Sch → Nat) : List Sch → List Bool → Nat
  | [], _ => 0
  | s :: r, b => f s b + pvAll f m r (b.drop (m s))
def pvBest (f : Sch → List Bool → Nat) (m : Sch → Nat) : List Sch → List Bool → Nat → Nat
  | [], _, acc => acc
  | s :: r, b, acc => pvBest f m r (b.drop (m s)) (max acc (f s b))
def pvB (ps : List Sch) : Nat → Sch → List Bool → Nat
  | 0, _, _ => 0
  | k + 1, .step _ p, b => if b.headD false = true then p.toNat else 0
  | k + 1, .behind _ s, b => if b.headD false = true then pvB ps k s b.tail else 0
  | k + 1, .seen _ s, b => if b.headD false = true then pvB ps k s b.tail else 0
  | k + 1, .fin _ p s, b => if b.headD false = true then p.toNat else pvB ps k s b.tail
  | k + 1, .all ks, b => pvAll (pvB ps k) (cn ps k) ks b
  | k + 1, .best ks, b => pvBest (pvB ps k) (cn ps k) ks b 0
  | k + 1, .most n s, b => min n.toNat (pvB ps k s b)
  | k + 1, .half s, b => pvB ps k s b / 2
  | k + 1, .carry s, b => pvB ps k s b
  | k + 1, .use n, b => match ps[n]? with
    | none => 0
    | some s => pvB ps k s b
theorem pts_app (as bs : List Row) : pts (as ++ bs) = pts as + pts bs := by
  unfold pts
  rw [List.map_append, List.sum_append]
theorem pts_first (rs : List Row) (n : Nat) : pts (firstP rs n) = min n (pts rs) := by
  rw [← expand_len, expand_first, List.length_take, expand_len]
theorem pts_allU {f : Sch → Nat → List Row} {g : Sch → List Bool → Nat} {m : Sch → Nat} {B : Sch → List Bool} : ∀ (ks : List Sch) (j : Nat) (rest : List Bool), (∀ s ∈ ks, ∀ j rest, pts (f s j) = g s (B s ++ rest)) → (∀ s ∈ ks, (B s).length = m s) → pts (allU f ks j) = pvAll g m ks (ks.flatMap B ++ rest)
  | [], _, _, _, _ => rfl
  | s :: r, j, rest, h, hm => by
    show pts (f s j ++ allU f r (j + 1)) = g s _ + pvAll g m r _
    rw [pts_app, List.flatMap_cons, List.append_assoc, h s List.mem_cons_self j (r.flatMap B ++ rest), pts_allU r (j + 1) rest (fun s hs => h s (List.mem_cons_of_mem _ hs)) fun s hs => hm s (List.mem_cons_of_mem _ hs)]
    congr 2
    rw [← hm s List.mem_cons_self, List.drop_left]
theorem pts_bestR {f : Sch → Nat → List Row} {g : Sch → List Bool → Nat} {m : Sch → Nat} {B : Sch → List Bool} : ∀ (ks : List Sch) (j : Nat) (acc : List Row) (rest : List Bool), (∀ s ∈ ks, ∀ j rest, pts (f s j) = g s (B s ++ rest)) → (∀ s ∈ ks, (B s).length = m s) → pts (bestR f ks j acc) = pvBest g m ks (ks.flatMap B ++ rest) (pts acc)
  | [], _, _, _, _, _ => rfl
  | s :: r, j, acc, rest, h, hm => by
    show pts (bestR f r (j + 1) (if pts acc < pts (f s j) then f s j else acc)) = pvBest g m r _ _
    rw [pts_bestR r (j + 1) _ rest (fun s hs => h s (List.mem_cons_of_mem _ hs)) fun s hs => hm s (List.mem_cons_of_mem _ hs), List.flatMap_cons, List.append_assoc, ← h s List.mem_cons_self j (r.flatMap B ++ rest), ← hm s List.mem_cons_self, List.drop_left]
    congr 1
    split
    · omega
    · omega
theorem pts_pv {ps : List Sch} {ws : List StepT} : ∀ (k : Nat) (s : Sch) (st : Nat) (c : Bool) (wh : List Nat) (rest : List Bool), pts (rP ps ws k s st c wh) = pvB ps k s (bt ps ws k s (some st) c ++ rest)
  | 0, _, _, _, _, _ => rfl
  | k + 1, .step x p, st, c, wh, rest => by
    show pts (match hits ws c x st with
      | [] => []
      | i :: _ => [(i, p.toNat, wh)]) = if (hits ws c x st).head?.isSome = true then p.toNat else 0
    cases hits ws c x st with
    | nil => rfl
    | cons i r => show (p.toNat + 0 : Nat) = _; rw [if_pos (show (i :: r).head?.isSome = true from rfl), Nat.add_zero]
  | k + 1, .behind x s, st, c, wh, rest => by
    show pts (match hits ws c x st with
      | [] => []
      | i :: _ => rP ps ws k s (i + 1) c (wh ++ [0])) = if (hits ws c x st).head?.isSome = true then pvB ps k s (([s].flatMap fun s' => bt ps ws k s' ((hits ws c x st).head?.map (· + 1)) c) ++ rest) else 0
    cases hits ws c x st with
    | nil => rfl
    | cons i r =>
      rw [if_pos (show (i :: r).head?.isSome = true from rfl), List.flatMap_singleton]
      exact pts_pv k s (i + 1) c _ rest
  | k + 1, .seen x s, st, c, wh, rest => by
    show pts (if (ws.any fun p => p.1 == x) = true then rP ps ws k s st c (wh ++ [0]) else []) = if (ws.any fun p => p.1 == x) = true then pvB ps k s (([s].flatMap fun s' => bt ps ws k s' (some st) c) ++ rest) else 0
    rw [List.flatMap_singleton]
    split
    · exact pts_pv k s st c _ rest
    · rfl
  | k + 1, .fin x p s, st, c, wh, rest => by
    show pts (if lastOk ws c x st = true then [(ws.length - 1, p.toNat, wh)] else rP ps ws k s st c (wh ++ [0])) = if lastOk ws c x st = true then p.toNat else pvB ps k s (([s].flatMap fun s' => bt ps ws k s' (some st) c) ++ rest)
    rw [List.flatMap_singleton]
    split
    · show (p.toNat + 0 : Nat) = _
      rw [Nat.add_zero]
    · exact pts_pv k s st c _ rest
  | k + 1, .all ks, st, c, wh, rest => pts_allU ks 0 rest (fun s _ j rest => pts_pv k s st c _ rest) fun s _ => bt_len k s _ _
  | k + 1, .best ks, st, c, wh, rest => pts_bestR ks 0 [] rest (fun s _ j rest => pts_pv k s st c _ rest) fun s _ => bt_len k s _ _
  | k + 1, .most n s, st, c, wh, rest => by
    show pts (firstP _ _) = min n.toNat (pvB ps k s (([s].flatMap fun s' => bt ps ws k s' (some st) c) ++ rest))
    rw [List.flatMap_singleton, pts_first, pts_pv k s st c _ rest]
  | k + 1, .half s, st, c, wh, rest => by
    show pts (firstP _ _) = pvB ps k s (([s].flatMap fun s' => bt ps ws k s' (some st) c) ++ rest) / 2
    rw [List.flatMap_singleton, pts_first, pts_pv k s st c _ rest]
    omega
  | k + 1, .carry s, st, c, wh, rest => by
    show pts (rP ps ws k s st true (wh ++ [0])) = pvB ps k s (([s].flatMap fun s' => bt ps ws k s' (some st) true) ++ rest)
    rw [List.flatMap_singleton]
    exact pts_pv k s st true _ rest
  | k + 1, .use n, st, c, wh, rest => by
    show pts (match ps[n]? with
      | none => []
      | some s => rP ps ws k s st c (wh ++ [0])) = match ps[n]? with
      | none => 0
      | some s => pvB ps k s (((ps[n]?).toList.flatMap fun s' => bt ps ws k s' (some st) c) ++ rest)
    cases ps[n]? with
    | none => rfl
    | some s =>
      show _ = pvB ps k s (([s].flatMap fun s' => bt ps ws k s' (some st) c) ++ rest)
      rw [List.flatMap_singleton]
      exact pts_pv k s st c _ rest
/-! the bits behind one more step -/
def isOn (w : Wt) (was looks : Bool) (p : StepT) : Bool := if w.nm = "seen" then was || p.1 == w.w else if w.nm = "end" then looks && okAt w.c w.w p else was || (looks && okAt w.c w.w p)
def looksB (on : List Bool) : Option Nat → Bool
  | none => true
  | some j => on.getD j false
def stepF (on : List Bool) (p : StepT) (w : Wt) (b : Bool) : Bool := isOn w b (looksB on w.g) p
theorem hits_app {ws : List StepT} {p : StepT} {c : Bool} {x : Str} {a : Nat} (h : a ≤ ws.length) : hits (ws ++ [p]) c x a = hits ws c x a ++ if okAt c x p = true then [ws.length] else [] := by
  unfold hits
  rw [List.length_append, List.length_singleton, show ws.length + 1 - a = (ws.length - a) + 1 by omega, List.range'_concat, List.filter_append]
  congr 1
  · refine List.filter_congr fun i hi => ?_
    have := List.mem_range'_1.mp hi
    rw [List.getElem?_append_left (by omega)]
  · rw [show a + 1 * (ws.length - a) = ws.length by omega]
    show List.filter _ [ws.length] = _
    rw [List.filter_cons, List.filter_nil, List.getElem?_append_right (Nat.le_refl _), Nat.sub_self]
    rfl
theorem hits_past {ws : List StepT} {c : Bool} {x : Str} {a : Nat} (h : ws.length ≤ a) : hits ws c x a = [] := by
  unfold hits
  rw [show ws.length - a = 0 by omega]
  rfl
/-- where a watch looks from: before, and with one step more -/
def St2 (n : Nat) : Option Nat → Option Nat → Prop
  | some a, b => a ≤ n ∧ b = some a
  | none, b => b = none ∨ b = some (n + 1)
theorem hit_step {ws : List StepT} {p : StepT} {c : Bool} {x : Str} : ∀ {st st' : Option Nat}, St2 ws.length st st' → hit (ws ++ [p]) c x st' = (hit ws c x st || (st.isSome && okAt c x p))
  | some a, _, ⟨h, e⟩ => by
    subst e
    show (hits (ws ++ [p]) c x a).head?.isSome = ((hits ws c x a).head?.isSome || (true && okAt c x p))
    rw [hits_app h]
    cases hits ws c x a with
    | cons i r => rfl
    | nil => cases okAt c x p <;> rfl
  | none, _, h => by
    rcases h with e | e <;> subst e
    · rfl
    · show (hits (ws ++ [p]) c x (ws.length + 1)).head?.isSome = _
      rw [hits_past (by rw [List.length_append]; exact Nat.le_refl _)]
      rfl
theorem fin_step {ws : List StepT} {p : StepT} {c : Bool} {x : Str} : ∀ {st st' : Option Nat}, St2 ws.length st st' → finB (ws ++ [p]) c x st' = (st.isSome && okAt c x p)
  | some a, _, ⟨h, e⟩ => by
    subst e
    show (decide (a < (ws ++ [p]).length) && _) = (true && okAt c x p)
    rw [List.getLast?_append, List.length_append, List.length_singleton, decide_eq_true (show a < ws.length + 1 by omega)]
    rfl
  | none, _, h => by
    rcases h with e | e <;> subst e
    · rfl
    · show (decide (ws.length + 1 < (ws ++ [p]).length) && _) = _
      rw [List.length_append, List.length_singleton, decide_eq_false (by omega)]
      rfl
theorem St2.behind {ws : List StepT} {p : StepT} {c : Bool} {x : Str} {st st' : Option Nat} (h : St2 ws.length st st') : St2 ws.length (st.bind fun a => (hits ws c x a).head?.map (· + 1)) (st'.bind fun a => (hits (ws ++ [p]) c x a).head?.map (· + 1)) := by
  cases st with
  | some a =>
    obtain ⟨h1, e⟩ := h
    subst e
    show St2 _ ((hits ws c x a).head?.map (· + 1)) ((hits (ws ++ [p]) c x a).head?.map (· + 1))
    rw [hits_app h1]
    cases e : hits ws c x a with
    | cons i r =>
      refine ⟨?_, rfl⟩
      have hm : i ∈ hits ws c x a := by rw [e]; exact List.mem_cons_self
      unfold hits at hm
      have := List.mem_range'_1.mp (List.mem_filter.mp hm).1
      show i + 1 ≤ ws.length
      omega
    | nil =>
      cases okAt c x p with
      | true => exact .inr rfl
      | false => exact .inl rfl
  | none =>
    rcases h with e | e <;> subst e
    · exact .inl rfl
    · show St2 _ none ((hits (ws ++ [p]) c x (ws.length + 1)).head?.map (· + 1))
      rw [hits_past (by rw [List.length_append]; exact Nat.le_refl _)]
      exact .inl rfl
theorem St2.inn {ws : List StepT} {p : StepT} {c : Bool} {s : Sch} {st st' : Option Nat} (h : St2 ws.length st st') : St2 ws.length (stIn ws s st c) (stIn (ws ++ [p]) s st' c) := by
  cases s <;> first | exact h | exact h.behind
theorem hit_isSome {ws : List StepT} {c : Bool} {x : Str} : ∀ st : Option Nat, (st.bind fun a => (hits ws c x a).head?.map (· + 1)).isSome = hit ws c x st
  | none => rfl
  | some a => by
    show ((hits ws c x a).head?.map (· + 1)).isSome = (hits ws c x a).head?.isSome
    rw [Option.isSome_map]
theorem zw_app {α β γ : Type} (f : α → β → γ) : ∀ (a a' : List α) (b b' : List β), a.length = b.length → List.zipWith f (a ++ a') (b ++ b') = List.zipWith f a b ++ List.zipWith f a' b'
  | [], _, [], _, _ => rfl
  | [], _, _ :: _, _, h => nomatch h
  | _ :: _, _, [], _, h => nomatch h
  | x :: a, a', y :: b, b', h => by
    show f x y :: List.zipWith f (a ++ a') (b ++ b') = f x y :: (List.zipWith f a b ++ List.zipWith f a' b')
    rw [zw_app f a a' b b' (Nat.succ.inj h)]
theorem wtAll_step {on : List Bool} {p : StepT} {f : Sch → Nat → List Wt} {B B' : Sch → List Bool} : ∀ (ks : List Sch) (n : Nat) (rest : List Bool), on.drop n = ks.flatMap B ++ rest → (∀ s ∈ ks, ∀ n, (f s n).length = (B s).length) → (∀ s ∈ ks, ∀ n rest, on.drop n = B s ++ rest → List.zipWith (stepF on p) (f s n) (B s) = B' s) → List.zipWith (stepF on p) (wtAll f ks n) (ks.flatMap B) = ks.flatMap B'
  | [], _, _, _, _, _ => rfl
  | s :: r, n, rest, hd, hl, h => by
    rw [List.flatMap_cons, List.flatMap_cons] at *
    show List.zipWith _ (f s n ++ wtAll f r _) _ = _
    rw [List.append_assoc] at hd
    have l1 := hl s List.mem_cons_self n
    rw [zw_app _ _ _ _ _ l1, h s List.mem_cons_self n _ hd, wtAll_step r _ rest (by
      rw [← List.drop_drop, hd, l1, List.drop_left]) (fun s hs => hl s (List.mem_cons_of_mem _ hs)) fun s hs => h s (List.mem_cons_of_mem _ hs)]
theorem bt_step {ps : List Sch} {ws : List StepT} {p : StepT} {on : List Bool} : ∀ (k : Nat) (s : Sch) (st st' : Option Nat) (c : Bool) (g : Option Nat) (n : Nat) (rest : List Bool), looksB on g = st.isSome → St2 ws.length st st' → on.drop n = bt ps ws k s st c ++ rest → List.zipWith (stepF on p) (wt ps k s c g n) (bt ps ws k s st c) = bt ps (ws ++ [p]) k s st' c
  | 0, _, _, _, _, _, _, _, _, _, _ => rfl
  | k + 1, s, st, st', c, g, n, rest, hg, h2, hd => by
    have hd : on.drop n = (ownB ws s st c ++ (partsOf ps s).flatMap fun s' => bt ps ws k s' (stIn ws s st c) (waysIn s c)) ++ rest := hd
    rw [List.append_assoc] at hd
    show List.zipWith (stepF on p) (ownT s c g ++ _) (ownB ws s st c ++ _) = ownB (ws ++ [p]) s st' c ++ _
    rw [zw_app _ _ _ _ _ (by rw [ownT_len, ownB_len])]
    have hgi : looksB on (gateIn s g n) = (stIn ws s st c).isSome := by
      cases s with
      | behind x s' =>
        show on.getD n false = (st.bind fun a => (hits ws c x a).head?.map (· + 1)).isSome
        rw [hit_isSome]
        have hd : on.drop n = hit ws c x st :: _ := hd
        rw [List.getD_eq_getElem?_getD, show on[n]? = (on.drop n)[0]? by rw [List.getElem?_drop, Nat.add_zero], hd]
        rfl
      | _ => exact hg
    congr 1
    · cases s with
      | step x q =>
        show [isOn _ (hit ws c x st) (looksB on g) p] = [hit (ws ++ [p]) c x st']
        rw [hit_step h2, hg]
        rfl
      | behind x q =>
        show [isOn _ (hit ws c x st) (looksB on g) p] = [hit (ws ++ [p]) c x st']
        rw [hit_step h2, hg]
        rfl
      | seen x q =>
        show [isOn _ (ws.any fun p => p.1 == x) (looksB on g) p] = [(ws ++ [p]).any fun p => p.1 == x]
        rw [List.any_append, List.any_cons, List.any_nil, Bool.or_false]
        rfl
      | fin x q s =>
        show [isOn _ (finB ws c x st) (looksB on g) p] = [finB (ws ++ [p]) c x st']
        rw [fin_step h2, hg]
        rfl
      | _ => rfl
    · refine wtAll_step _ _ rest (by rw [← List.drop_drop, hd, ownT_len, ← ownB_len ws s st c, List.drop_left]) (fun s' _ n' => by rw [wt_len, bt_len]) fun s' _ n' rest' hd' => ?_
      exact bt_step k s' _ _ _ _ n' rest' hgi h2.inn hd'
/-! states -/
abbrev StT : Type := Bool × List Bool
def stB (W : List Wt) (s : StT) (p : StepT) : StT := (s.1 || p.2 == "w", List.zipWith (stepF s.2 p) W s.2)
def st0 (W : List Wt) : StT := (false, List.replicate W.length false)
def runS (W : List Wt) (ws : List StepT) : StT := ws.foldl (stB W) (st0 W)
def watchP (ps : List Sch) : List Wt := match ps with
  | [] => []
  | s :: _ => wt ps 30 s false none 0
theorem ownB_nil (s : Sch) (st : Option Nat) (c : Bool) : ownB [] s st c = List.replicate (ownN s) false := by
  have h0 : ∀ (x : Str) (st : Option Nat), hit [] c x st = false := fun x st => by
    cases st with
    | none => rfl
    | some a => show (hits [] c x a).head?.isSome = false; rw [hits_past (Nat.zero_le _)]; rfl
  cases s with
  | step x q => show [hit [] c x st] = _; rw [h0]; rfl
  | behind x q => show [hit [] c x st] = _; rw [h0]; rfl
  | fin x q s =>
    show [finB [] c x st] = _
    cases st <;> rfl
  | _ => rfl
theorem flat_repB {m : Sch → Nat} : ∀ ks : List Sch, (ks.flatMap fun s => List.replicate (m s) false) = List.replicate (ks.map m).sum false
  | [] => rfl
  | s :: r => by rw [List.flatMap_cons, flat_repB r, List.map_cons, List.sum_cons, ← List.replicate_append_replicate]
theorem bt_nil {ps : List Sch} : ∀ (k : Nat) (s : Sch) (st : Option Nat) (c : Bool), bt ps [] k s st c = List.replicate (cn ps k s) false
  | 0, _, _, _ => rfl
  | k + 1, s, st, c => by
    show ownB [] s st c ++ ((partsOf ps s).flatMap fun s' => bt ps [] k s' _ _) = List.replicate (ownN s + _) false
    rw [ownB_nil, ← List.replicate_append_replicate, ← flat_repB]
    congr 2
    funext s'
    exact bt_nil k s' _ _
theorem runS_snoc (W : List Wt) (ws : List StepT) (p : StepT) : runS W (ws ++ [p]) = stB W (runS W ws) p := by
  unfold runS
  rw [List.foldl_append]
  rfl
theorem run_bits {ps : List Sch} {s : Sch} {r : List Sch} (e : ps = s :: r) : ∀ (n : Nat) (ws : List StepT), ws.length = n → runS (watchP ps) ws = (ws.any (·.2 == "w"), bt ps ws 30 s (some 0) false)
  | 0, ws, h => by
    have : ws = [] := List.length_eq_zero_iff.mp h
    subst this
    show (false, List.replicate (watchP ps).length false) = (false, _)
    rw [bt_nil]
    subst e
    show (false, List.replicate (wt _ 30 s false none 0).length false) = _
    rw [wt_len]
  | n + 1, ws, h => by
    have hne : ws ≠ [] := fun z => by rw [z] at h; cases h
    have e1 := List.dropLast_concat_getLast hne
    have hl : ws.dropLast.length = n := by rw [List.length_dropLast, h]; rfl
    generalize ws.getLast hne = p at e1
    rw [← e1, runS_snoc, run_bits e n ws.dropLast hl]
    show (_, _) = (_, _)
    rw [List.any_append, List.any_cons, List.any_nil, Bool.or_false]
    congr 1
    rw [show watchP ps = wt ps 30 s false none 0 by subst e; rfl]
    exact bt_step 30 s (some 0) (some 0) false none 0 [] rfl ⟨Nat.zero_le _, rfl⟩ (by rw [List.append_nil]; rfl)
/-- works of one state earn the same -/
theorem pts_run {ps : List Sch} {ws ws' : List StepT} (h : runS (watchP ps) ws = runS (watchP ps) ws') : pts (rAll ps ws) = pts (rAll ps ws') := by
  cases e : ps with
  | nil => rfl
  | cons s r =>
    rw [run_bits e _ ws rfl, run_bits e _ ws' rfl] at h
    have h2 := (Prod.mk.inj h).2
    rw [← e]
    have a := pts_pv (ps := ps) (ws := ws) 30 s 0 false [] []
    have b := pts_pv (ps := ps) (ws := ws') 30 s 0 false [] []
    rw [h2, ← b] at a
    subst e
    exact a
theorem run_wrong {ps : List Sch} (hp : 0 < ps.length) (ws : List StepT) : (runS (watchP ps) ws).1 = ws.any (·.2 == "w") := by
  cases e : ps with
  | nil => rw [e] at hp; cases hp
  | cons s r => rw [← e, run_bits e _ ws rfl]
theorem stB_len {W : List Wt} {s : StT} {p : StepT} (h : s.2.length = W.length) : (stB W s p).2.length = W.length := by
  show (List.zipWith _ W s.2).length = _
  rw [List.length_zipWith, h, Nat.min_self]
theorem runS_len {W : List Wt} (ws : List StepT) : (runS W ws).2.length = W.length := by
  unfold runS
  have : ∀ (ws : List StepT) (s : StT), s.2.length = W.length → (ws.foldl (stB W) s).2.length = W.length := by
    intro ws
    induction ws with
    | nil => exact fun s h => h
    | cons p r ih => exact fun s h => ih _ (stB_len h)
  exact this ws _ List.length_replicate
end MS
end
section
set_option maxRecDepth 100000
set_option maxHeartbeats 4000000
namespace MS
open PySem L2
/-! ### every state that can be come to, with the first work that leads there (pure) -/
def lexL {α : Type} (lt : α → α → Prop) : List α → List α → Prop
  | [], [] => False
  | _ :: _, [] => False
  | [], _ :: _ => True
  | a :: x, b :: y => lt a b ∨ (a = b ∧ lexL lt x y)
/-- shorter, or as long and before in turn -/
def slt {α : Type} (lt : α → α → Prop) (x y : List α) : Prop := x.length < y.length ∨ (x.length = y.length ∧ lexL lt x y)
def sle {α : Type} (lt : α → α → Prop) (x y : List α) : Prop := x = y ∨ slt lt x y
section
variable {α β : Type} {lt : α → α → Prop}
theorem lexL_nil : ∀ x : List α, ¬ lexL lt x []
  | [], h => h
  | _ :: _, h => h
theorem lexL_app : ∀ (x y : List α) (p q : α), x.length = y.length → lexL lt x y → lexL lt (x ++ [p]) (y ++ [q])
  | _, [], _, _, _, h => (lexL_nil _ h).elim
  | [], _ :: _, _, _, e, _ => nomatch e
  | a :: x, b :: y, p, q, e, h => by
    rcases h with h | ⟨h1, h2⟩
    · exact .inl h
    · exact .inr ⟨h1, lexL_app x y p q (Nat.succ.inj e) h2⟩
theorem lexL_last : ∀ (x : List α) (p q : α), lt p q → lexL lt (x ++ [p]) (x ++ [q])
  | [], p, q, h => .inl h
  | a :: x, p, q, h => .inr ⟨rfl, lexL_last x p q h⟩
theorem lexL_trans (tr : ∀ a b c, lt a b → lt b c → lt a c) : ∀ x y z : List α, lexL lt x y → lexL lt y z → lexL lt x z
  | _, _, [], _, h => (lexL_nil _ h).elim
  | _, [], _ :: _, h, _ => (lexL_nil _ h).elim
  | [], _ :: _, _ :: _, _, _ => True.intro
  | a :: x, b :: y, c :: z, h, k => by
    rcases h with h | ⟨h1, h2⟩
    · rcases k with k | ⟨k1, k2⟩
      · exact .inl (tr _ _ _ h k)
      · exact .inl (k1 ▸ h)
    · rcases k with k | ⟨k1, k2⟩
      · exact .inl (h1 ▸ k)
      · exact .inr ⟨h1.trans k1, lexL_trans tr x y z h2 k2⟩
theorem lexL_irr (ir : ∀ a, ¬ lt a a) : ∀ x : List α, ¬ lexL lt x x
  | [], h => h
  | a :: x, h => by
    rcases h with h | ⟨_, h⟩
    · exact ir a h
    · exact lexL_irr ir x h
theorem slt_app {x y : List α} {p q : α} (h : slt lt x y) : slt lt (x ++ [p]) (y ++ [q]) := by
  unfold slt
  rw [List.length_append, List.length_append]
  rcases h with h | ⟨h1, h2⟩
  · exact .inl (by show x.length + 1 < y.length + 1; omega)
  · exact .inr ⟨by rw [h1]; rfl, lexL_app _ _ _ _ h1 h2⟩
theorem slt_last {x : List α} {p q : α} (h : lt p q) : slt lt (x ++ [p]) (x ++ [q]) := .inr ⟨by rw [List.length_append, List.length_append]; rfl, lexL_last x p q h⟩
theorem slt_trans (tr : ∀ a b c, lt a b → lt b c → lt a c) {x y z : List α} (h : slt lt x y) (k : slt lt y z) : slt lt x z := by
  rcases h with h | ⟨h1, h2⟩
  · rcases k with k | ⟨k1, _⟩
    · exact .inl (by omega)
    · exact .inl (by omega)
  · rcases k with k | ⟨k1, k2⟩
    · exact .inl (by omega)
    · exact .inr ⟨h1.trans k1, lexL_trans tr _ _ _ h2 k2⟩
theorem slt_irr (ir : ∀ a, ¬ lt a a) {x : List α} (h : slt lt x x) : False := by
  rcases h with h | ⟨_, h⟩
  · exact Nat.lt_irrefl _ h
  · exact lexL_irr ir x h
theorem sle_app {x y : List α} {p : α} (h : sle lt x y) : sle lt (x ++ [p]) (y ++ [p]) := by
  rcases h with h | h
  · exact .inl (by rw [h])
  · exact .inr (slt_app h)
theorem sle_trans (tr : ∀ a b c, lt a b → lt b c → lt a c) {x y z : List α} (h : sle lt x y) (k : sle lt y z) : sle lt x z := by
  rcases h with h | h
  · rw [h]; exact k
  · rcases k with k | k
    · rw [← k]; exact .inr h
    · exact .inr (slt_trans tr h k)
theorem slt_sle (tr : ∀ a b c, lt a b → lt b c → lt a c) {x y z : List α} (h : slt lt x y) (k : sle lt y z) : slt lt x z := by
  rcases k with k | k
  · rw [← k]; exact h
  · exact slt_trans tr h k
/-- no work but the empty one stands before one of one step -/
theorem slt_nil {x : List α} {p : α} : slt lt [] (x ++ [p]) := .inl (by rw [List.length_append]; show 0 < x.length + 1; omega)
end
section
variable {α β : Type} (f : β → α → β) (may : β → α → Bool) (sl : List α)
/-- steps that may come one after another -/
def Goes : β → List α → Prop
  | _, [] => True
  | s, p :: r => (p ∈ sl ∧ may s p = true) ∧ Goes (f s p) r
theorem goes_app : ∀ (w : List α) (s : β) (p : α), Goes f may sl s (w ++ [p]) ↔ Goes f may sl s w ∧ p ∈ sl ∧ may (w.foldl f s) p = true
  | [], s, p => by
    show (_ ∧ True) ↔ True ∧ _
    exact ⟨fun h => ⟨True.intro, h.1⟩, fun h => ⟨h.2, True.intro⟩⟩
  | q :: r, s, p => by
    show (_ ∧ Goes f may sl (f s q) (r ++ [p])) ↔ (_ ∧ Goes f may sl (f s q) r) ∧ _
    rw [goes_app r (f s q) p]
    exact ⟨fun h => ⟨⟨h.1, h.2.1⟩, h.2.2⟩, fun h => ⟨h.1.1, h.1.2, h.2⟩⟩
variable (lt : α → α → Prop) (s0 : β)
/-- the first m states are done, of the next one the steps before D's end -/
structure Bf (S : List β) (L : List (List α)) (m : Nat) (D : List α) : Prop where
  len : L.length = S.length
  nodup : S.Nodup
  first : S[0]? = some s0 ∧ L[0]? = some []
  run : ∀ (i : Nat) (s : β) (l : List α), S[i]? = some s → L[i]? = some l → Goes f may sl s0 l ∧ l.foldl f s0 = s
  rise : ∀ (i j : Nat) (l l' : List α), L[i]? = some l → L[j]? = some l' → i < j → slt lt l l'
  short : ∀ (i : Nat) (l : List α), L[i]? = some l → l.length ≤ i
  from_ : ∀ l ∈ L, l = [] ∨ (∃ (i : Nat) (li : List α) (q : α), i < m ∧ L[i]? = some li ∧ l = li ++ [q]) ∨ ∃ (lm : List α) (q : α), L[m]? = some lm ∧ q ∈ D ∧ l = lm ++ [q]
  closed : ∀ (i : Nat) (s : β) (l : List α), i < m → S[i]? = some s → L[i]? = some l → ∀ p ∈ sl, may s p = true → ∃ (j : Nat) (l' : List α), S[j]? = some (f s p) ∧ L[j]? = some l' ∧ sle lt l' (l ++ [p])
  doing : ∀ (s : β) (l : List α), S[m]? = some s → L[m]? = some l → ∀ p ∈ D, may s p = true → ∃ (j : Nat) (l' : List α), S[j]? = some (f s p) ∧ L[j]? = some l' ∧ sle lt l' (l ++ [p])
variable {f may sl lt s0} {S : List β} {L : List (List α)} {m : Nat} {D : List α}
theorem bf_begin : Bf f may sl lt s0 [s0] [[]] 0 [] where
  len := rfl
  nodup := by simp
  first := ⟨rfl, rfl⟩
  run := fun i s l h1 h2 => by
    cases i with
    | zero => cases h1; cases h2; exact ⟨True.intro, rfl⟩
    | succ i => cases h1
  rise := fun i j l l' h1 h2 hl => by
    cases j with
    | zero => omega
    | succ j => cases h2
  short := fun i l h => by
    cases i with
    | zero => cases h; exact Nat.le_refl _
    | succ i => cases h
  from_ := fun l h => .inl (List.mem_singleton.mp h)
  closed := fun i s l h => absurd h (Nat.not_lt_zero _)
  doing := fun s l _ _ p hp => nomatch hp
/-- all that stands stands before the next -/
theorem Bf.before (b : Bf f may sl lt s0 S L m D) {lm : List α} {p : α} (hm : L[m]? = some lm) (hD : ∀ q ∈ D, lt q p) : ∀ l ∈ L, slt lt l (lm ++ [p]) := fun l hl => by
  rcases b.from_ l hl with e | ⟨i, li, q, hi, h1, e⟩ | ⟨lm', q, h1, hq, e⟩
  · rw [e]; exact slt_nil
  · rw [e]; exact slt_app (b.rise i m li lm h1 hm hi)
  · rw [hm] at h1
    cases h1
    rw [e]; exact slt_last (hD q hq)
/-- a step that may not come -/
theorem Bf.skip (b : Bf f may sl lt s0 S L m D) {s : β} {p : α} (hs : S[m]? = some s) (hp : may s p = false) : Bf f may sl lt s0 S L m (D ++ [p]) :=
  { b with
    from_ := fun l hl => by
      rcases b.from_ l hl with e | h | ⟨lm, q, h1, hq, e⟩
      · exact .inl e
      · exact .inr (.inl h)
      · exact .inr (.inr ⟨lm, q, h1, List.mem_append_left _ hq, e⟩)
    doing := fun s' l h1 h2 q hq hy => by
      rcases List.mem_append.mp hq with hq | hq
      · exact b.doing s' l h1 h2 q hq hy
      · rw [List.mem_singleton.mp hq, Option.some.inj (h1.symm.trans hs), hp] at hy
        cases hy }
/-- a step to a state that is known -/
theorem Bf.known (b : Bf f may sl lt s0 S L m D) {s : β} {p : α} {j : Nat} (hs : S[m]? = some s) (hD : ∀ q ∈ D, lt q p) (hj : S[j]? = some (f s p)) : Bf f may sl lt s0 S L m (D ++ [p]) :=
  { b with
    from_ := fun l hl => by
      rcases b.from_ l hl with e | h | ⟨lm, q, h1, hq, e⟩
      · exact .inl e
      · exact .inr (.inl h)
      · exact .inr (.inr ⟨lm, q, h1, List.mem_append_left _ hq, e⟩)
    doing := fun s' l h1 h2 q hq hy => by
      rcases List.mem_append.mp hq with hq | hq
      · exact b.doing s' l h1 h2 q hq hy
      · cases List.mem_singleton.mp hq
        cases Option.some.inj (h1.symm.trans hs)
        have hjl : j < L.length := by
          rw [b.len]
          exact (List.getElem?_eq_some_iff.mp hj).1
        exact ⟨j, _, hj, List.getElem?_eq_getElem hjl, .inr (b.before h2 hD _ (List.getElem_mem hjl))⟩ }
/-- a step to a new state -/
theorem Bf.new (b : Bf f may sl lt s0 S L m D) {s : β} {l : List α} {p : α} (hs : S[m]? = some s) (hl : L[m]? = some l) (hD : ∀ q ∈ D, lt q p) (hp : p ∈ sl) (hy : may s p = true) (hn : f s p ∉ S) : Bf f may sl lt s0 (S ++ [f s p]) (L ++ [l ++ [p]]) m (D ++ [p]) where
  len := by rw [List.length_append, List.length_append, b.len]; rfl
  nodup := by
    rw [List.nodup_append]
    refine ⟨b.nodup, by simp, fun a ha c hc e => ?_⟩
    rw [List.mem_singleton.mp hc] at e
    exact hn (e ▸ ha)
  first := ⟨by rw [List.getElem?_append_left (List.getElem?_eq_some_iff.mp b.first.1).1]; exact b.first.1, by rw [List.getElem?_append_left (List.getElem?_eq_some_iff.mp b.first.2).1]; exact b.first.2⟩
  run := fun i s' l' h1 h2 => by
    by_cases hi : i < S.length
    · rw [List.getElem?_append_left hi] at h1
      rw [List.getElem?_append_left (by rw [b.len]; exact hi)] at h2
      exact b.run i s' l' h1 h2
    · have hi' : i = S.length := by
        have := (List.getElem?_eq_some_iff.mp h1).1
        rw [List.length_append, List.length_singleton] at this
        omega
      subst hi'
      rw [List.getElem?_append_right (Nat.le_refl _), Nat.sub_self] at h1
      rw [← b.len, List.getElem?_append_right (Nat.le_refl _), Nat.sub_self] at h2
      cases h1
      cases h2
      obtain ⟨g, e⟩ := b.run m s l hs hl
      refine ⟨(goes_app f may sl l s0 p).mpr ⟨g, hp, by rw [e]; exact hy⟩, ?_⟩
      rw [List.foldl_append, e]
      rfl
  rise := fun i j x y h1 h2 hij => by
    by_cases hj : j < L.length
    · rw [List.getElem?_append_left hj] at h2
      rw [List.getElem?_append_left (by omega)] at h1
      exact b.rise i j x y h1 h2 hij
    · have hj' : j = L.length := by
        have := (List.getElem?_eq_some_iff.mp h2).1
        rw [List.length_append, List.length_singleton] at this
        omega
      subst hj'
      rw [List.getElem?_append_right (Nat.le_refl _), Nat.sub_self] at h2
      rw [List.getElem?_append_left hij] at h1
      cases h2
      obtain ⟨hx, e⟩ := List.getElem?_eq_some_iff.mp h1
      exact b.before hl hD x (e ▸ List.getElem_mem hx)
  short := fun i x h => by
    by_cases hi : i < L.length
    · rw [List.getElem?_append_left hi] at h
      exact b.short i x h
    · have hi' : i = L.length := by
        have := (List.getElem?_eq_some_iff.mp h).1
        rw [List.length_append, List.length_singleton] at this
        omega
      subst hi'
      rw [List.getElem?_append_right (Nat.le_refl _), Nat.sub_self] at h
      cases h
      have := b.short m l hl
      have := (List.getElem?_eq_some_iff.mp hl).1
      rw [List.length_append, List.length_singleton]
      omega
  from_ := fun x hx => by
    rcases List.mem_append.mp hx with hx | hx
    · rcases b.from_ x hx with e | ⟨i, li, q, hi, h1, e⟩ | ⟨lm, q, h1, hq, e⟩
      · exact .inl e
      · exact .inr (.inl ⟨i, li, q, hi, by rw [List.getElem?_append_left (List.getElem?_eq_some_iff.mp h1).1]; exact h1, e⟩)
      · exact .inr (.inr ⟨lm, q, by rw [List.getElem?_append_left (List.getElem?_eq_some_iff.mp h1).1]; exact h1, List.mem_append_left _ hq, e⟩)
    · exact .inr (.inr ⟨l, p, by rw [List.getElem?_append_left (List.getElem?_eq_some_iff.mp hl).1]; exact hl, List.mem_append_right _ List.mem_cons_self, List.mem_singleton.mp hx⟩)
  closed := fun i s' l' hi h1 h2 q hq hy' => by
    have hm := (List.getElem?_eq_some_iff.mp hs).1
    have hm' := (List.getElem?_eq_some_iff.mp hl).1
    rw [List.getElem?_append_left (by omega)] at h1 h2
    obtain ⟨j, x, z1, z2, z3⟩ := b.closed i s' l' hi h1 h2 q hq hy'
    exact ⟨j, x, by rw [List.getElem?_append_left (List.getElem?_eq_some_iff.mp z1).1]; exact z1, by rw [List.getElem?_append_left (List.getElem?_eq_some_iff.mp z2).1]; exact z2, z3⟩
  doing := fun s' l' h1 h2 q hq hy' => by
    have hm := (List.getElem?_eq_some_iff.mp hs).1
    have hm' := (List.getElem?_eq_some_iff.mp hl).1
    rw [List.getElem?_append_left (by omega)] at h1 h2
    cases Option.some.inj (h1.symm.trans hs)
    cases Option.some.inj (h2.symm.trans hl)
    rcases List.mem_append.mp hq with hq | hq
    · obtain ⟨j, x, z1, z2, z3⟩ := b.doing s l h1 h2 q hq hy'
      exact ⟨j, x, by rw [List.getElem?_append_left (List.getElem?_eq_some_iff.mp z1).1]; exact z1, by rw [List.getElem?_append_left (List.getElem?_eq_some_iff.mp z2).1]; exact z2, z3⟩
    · cases List.mem_singleton.mp hq
      refine ⟨S.length, l ++ [p], ?_, ?_, .inl rfl⟩
      · rw [List.getElem?_append_right (Nat.le_refl _), Nat.sub_self]
        rfl
      · rw [← b.len, List.getElem?_append_right (Nat.le_refl _), Nat.sub_self]
        rfl
/-- a state is done -/
theorem Bf.done (b : Bf f may sl lt s0 S L m sl) : Bf f may sl lt s0 S L (m + 1) [] :=
  { b with
    from_ := fun l hl => by
      rcases b.from_ l hl with e | ⟨i, li, q, hi, h1, e⟩ | ⟨lm, q, h1, _, e⟩
      · exact .inl e
      · exact .inr (.inl ⟨i, li, q, Nat.lt_succ_of_lt hi, h1, e⟩)
      · exact .inr (.inl ⟨m, lm, q, Nat.lt_succ_self _, h1, e⟩)
    closed := fun i s l hi h1 h2 p hp hy => by
      by_cases e : i = m
      · subst e
        exact b.doing s l h1 h2 p hp hy
      · exact b.closed i s l (by omega) h1 h2 p hp hy
    doing := fun s l _ _ p hp => nomatch hp }
/-- all are done: whatever may come leads to a state that stands there, with no later work -/
theorem Bf.all (b : Bf f may sl lt s0 S L m D) (hm : S.length ≤ m) (tr : ∀ a b c, lt a b → lt b c → lt a c) : ∀ (n : Nat) (w : List α), w.length = n → Goes f may sl s0 w → ∃ (j : Nat) (l : List α), S[j]? = some (w.foldl f s0) ∧ L[j]? = some l ∧ sle lt l w
  | 0, w, hw, _ => by
    have : w = [] := List.length_eq_zero_iff.mp hw
    subst this
    exact ⟨0, [], b.first.1, b.first.2, .inl rfl⟩
  | n + 1, w, hw, g => by
    have hne : w ≠ [] := fun z => by rw [z] at hw; cases hw
    have e1 := List.dropLast_concat_getLast hne
    have hl : w.dropLast.length = n := by rw [List.length_dropLast, hw]; rfl
    generalize w.getLast hne = p at e1
    rw [← e1] at g ⊢
    obtain ⟨g1, g2, g3⟩ := (goes_app f may sl _ _ _).mp g
    obtain ⟨j, l, h1, h2, h3⟩ := Bf.all b hm tr n _ hl g1
    obtain ⟨i, l', z1, z2, z3⟩ := b.closed j _ l (Nat.lt_of_lt_of_le (List.getElem?_eq_some_iff.mp h1).1 hm) h1 h2 p g2 g3
    refine ⟨i, l', ?_, z2, sle_trans tr z3 (sle_app h3)⟩
    rw [List.foldl_append]
    exact z1
end
/-- no list without repeats is longer than one that holds it -/
theorem len_sub {α : Type} [DecidableEq α] : ∀ (l A : List α), l.Nodup → (∀ x ∈ l, x ∈ A) → l.length ≤ A.length
  | [], _, _, _ => Nat.zero_le _
  | x :: r, A, n, h => by
    obtain ⟨n1, n2⟩ := List.nodup_cons.mp n
    have hx := h x List.mem_cons_self
    have := len_sub r (A.erase x) n2 fun y hy => (List.mem_erase_of_ne fun e => n1 (by rw [← e]; exact hy)).mpr (h y (List.mem_cons_of_mem _ hy))
    rw [List.length_erase_of_mem hx] at this
    have : 0 < A.length := List.length_pos_of_mem hx
    show r.length + 1 ≤ _
    omega
def allB : Nat → List (List Bool)
  | 0 => [[]]
  | n + 1 => (allB n).map (false :: ·) ++ (allB n).map (true :: ·)
theorem allB_len : ∀ n, (allB n).length = 2 ^ n
  | 0 => rfl
  | n + 1 => by
    show ((allB n).map _ ++ (allB n).map _).length = _
    rw [List.length_append, List.length_map, List.length_map, allB_len n, Nat.pow_succ]
    omega
theorem allB_mem : ∀ (n : Nat) (b : List Bool), b.length = n → b ∈ allB n
  | 0, [], _ => List.mem_cons_self
  | 0, _ :: _, h => nomatch h
  | n + 1, [], h => nomatch h
  | n + 1, false :: b, h => List.mem_append_left _ (List.mem_map.mpr ⟨b, allB_mem n b (Nat.succ.inj h), rfl⟩)
  | n + 1, true :: b, h => List.mem_append_right _ (List.mem_map.mpr ⟨b, allB_mem n b (Nat.succ.inj h), rfl⟩)
theorem states_len {n : Nat} {S : List StT} (nd : S.Nodup) (h : ∀ s ∈ S, s.2.length = n) : S.length ≤ 2 ^ (n + 1) := by
  have := len_sub S ((allB n).map (Prod.mk false) ++ (allB n).map (Prod.mk true)) nd fun s hs => by
    obtain ⟨b, l⟩ := s
    have := allB_mem n l (h _ hs)
    cases b
    · exact List.mem_append_left _ (List.mem_map.mpr ⟨l, this, rfl⟩)
    · exact List.mem_append_right _ (List.mem_map.mpr ⟨l, this, rfl⟩)
  rw [List.length_append, List.length_map, List.length_map, allB_len] at this
  rw [Nat.pow_succ]
  omega
end MS
end
section
set_option maxRecDepth 100000
set_option maxHeartbeats 4000000
namespace MS
open PySem L2
/-! ### the class Watch, and the watches of a paper -/
abbrev s_Watch_init : Stmt := inClass (topS 46) 0
abbrev psWI : List Str := ["self", "name", "word", "ways", "gate"]
theorem sc_Watch_init : FnScope psWI psWI (defScope s_Watch_init) := ⟨rfl, rfl, rfl, by decide +kernel, rfl, by decide +kernel, by decide +kernel⟩
abbrev s_Watch_is_on : Stmt := inClass (topS 46) 1
abbrev psWO : List Str := ["self", "was_on", "looks", "step"]
abbrev nmWO : List Str := ["self", "was_on", "looks", "step", "counts"]
theorem sc_Watch_is_on : FnScope nmWO psWO (defScope s_Watch_is_on) := ⟨rfl, rfl, rfl, by decide +kernel, rfl, by decide +kernel, by decide +kernel⟩
theorem n_wk1 : ¬ (("name" : Str) = "word") := by decide +kernel
theorem n_wk2 : ¬ (("name" : Str) = "ways") := by decide +kernel
theorem n_wk3 : ¬ (("name" : Str) = "gate") := by decide +kernel
theorem n_wk4 : ¬ (("word" : Str) = "ways") := by decide +kernel
theorem n_wk5 : ¬ (("word" : Str) = "gate") := by decide +kernel
theorem n_wk6 : ¬ (("ways" : Str) = "gate") := by decide +kernel
/-- the fields of a watch -/
def tf (nm wd wp g : V) : List (Str × V) := putF "gate" g (putF "ways" wp (putF "word" wd (putF "name" nm [])))
theorem tf_name (nm wd wp g : V) : (tf nm wd wp g).lookup ("name" : Str) = some nm := by
  unfold tf
  rw [lookup_putF, if_neg n_wk3, lookup_putF, if_neg n_wk2, lookup_putF, if_neg n_wk1, lookup_putF, if_pos rfl]
theorem tf_word (nm wd wp g : V) : (tf nm wd wp g).lookup ("word" : Str) = some wd := by
  unfold tf
  rw [lookup_putF, if_neg n_wk5, lookup_putF, if_neg n_wk4, lookup_putF, if_pos rfl]
theorem tf_ways (nm wd wp g : V) : (tf nm wd wp g).lookup ("ways" : Str) = some wp := by
  unfold tf
  rw [lookup_putF, if_neg n_wk6, lookup_putF, if_pos rfl]
theorem tf_gate (nm wd wp g : V) : (tf nm wd wp g).lookup ("gate" : Str) = some g := by
  unfold tf
  rw [lookup_putF, if_pos rfl]
theorem tf_no (nm wd wp g : V) {m : Str} (h1 : ¬ m = "gate") (h2 : ¬ m = "ways") (h3 : ¬ m = "word") (h4 : ¬ m = "name") : (tf nm wd wp g).lookup m = none := by
  unfold tf
  rw [lookup_putF, if_neg h1, lookup_putF, if_neg h2, lookup_putF, if_neg h3, lookup_putF, if_neg h4]
  all_goals rfl
theorem tf_is_on (nm wd wp g : V) : (tf nm wd wp g).lookup ("is_on" : Str) = none := tf_no _ _ _ _ (by decide +kernel) (by decide +kernel) (by decide +kernel) (by decide +kernel)
def gateV : Option Nat → V
  | none => .non
  | some j => .int ((j : Nat) : Int)
/-- a watch stands in the heap -/
def WatchAt (C : Addr) (H : Hp) (w : Wt) (v : V) : Prop := ∃ a dx wp, v = .ref a ∧ H a = some (.ins C dx (tf (.str w.nm) (.str w.w) (.ref wp) (gateV w.g))) ∧ H wp = some (.tup (waysV w.c))
theorem WatchAt.keep {C : Addr} {H H' : Hp} {w : Wt} {v : V} (h : WatchAt C H w v) (k : ∀ b o, H b = some o → (∀ xs, o ≠ .lst xs) → H' b = some o) : WatchAt C H' w v := by
  obtain ⟨a, dx, wp, e, h1, h2⟩ := h
  exact ⟨a, dx, wp, e, k _ _ h1 (fun _ z => nomatch z), k _ _ h2 (fun _ z => nomatch z)⟩
theorem WatchAt.same {C : Addr} {H H' : Hp} {w : Wt} {v : V} (h : WatchAt C H w v) (s : Same H H') : WatchAt C H' w v := h.keep fun _ _ e _ => s _ _ e
/-- what the text says of the class -/
structure TCls (K : PySem.W.Frag) (mg : Str → Option Value) (C : Addr) where
  cl : Cls K C
  nName : NoAttr K C "name"
  nWord : NoAttr K C "word"
  nWays : NoAttr K C "ways"
  nGate : NoAttr K C "gate"
  mgC : mg "Watch" = some (.ref C)
  makes : PySem.W.makesIn K C = true
  kp : PySem.W.keepIn K (.ref C) = true
  DI : DefM K C "__init__" "Watch.__init__" s_Watch_init psWI
  DO : DefM K C "is_on" "Watch.is_on" s_Watch_is_on psWO
theorem TCls.mk' {K : PySem.W.Frag} {mg : Str → Option Value} {C : Addr} (V : TCls K mg C) : Mk K C V.DI.f := ⟨V.makes, V.DI.me.at_, V.DI.me.fn, V.kp⟩
def spTInit (C : Addr) : Sp := fun vs H Q _ => ∃ (p dx wp : Addr) (w : Wt), vs = [.ref p, .str w.nm, .str w.w, .ref wp, gateV w.g] ∧ H p = some (.ins C dx []) ∧ ∀ H' : Hp, H' p = some (.ins C dx (tf (.str w.nm) (.str w.w) (.ref wp) (gateV w.g))) → (∀ b, b ≠ p → H' b = H b) → Q .non H'
def spIsOn (C : Addr) : Sp := fun vs H Q _ => ∃ (v : V) (w : Wt) (was looks : Bool) (p : StepT), vs = [v, .bl was, .bl looks, .str (stepS p)] ∧ WatchAt C H w v ∧ IsStep p ∧ Q (.bl (isOn w was looks p)) H
theorem and0 {ta tb : TE} {σ : St} {H : Hp} {b c : Bool} (h1 : ∀ Q : VK, Q (.bl b) H → ta σ H Q) (h2 : b = true → ∀ Q : VK, Q (.bl c) H → tb σ H Q) : ∀ Q : VK, Q (.bl (b && c)) H → tAndV ta tb σ H Q := fun Q q => h1 _ ⟨b, rfl, by
  cases b with
  | false => exact iteF q
  | true => exact iteT (h2 rfl _ q)⟩
theorem or0 {ta tb : TE} {σ : St} {H : Hp} {b c : Bool} (h1 : ∀ Q : VK, Q (.bl b) H → ta σ H Q) (h2 : b = false → ∀ Q : VK, Q (.bl c) H → tb σ H Q) : ∀ Q : VK, Q (.bl (b || c)) H → tOrV ta tb σ H Q := fun Q q => h1 _ ⟨b, rfl, by
  cases b with
  | true => exact iteT q
  | false => exact iteF (h2 rfl _ q)⟩
theorem set0 {te : TE} {i : Nat} {r : TS} {D : Ends} {σ : St} {H : Hp} {v : V} (h : ∀ Q : VK, Q v H → te σ H Q) (k : r D (σ.set i (some v)) H) : tSeq (tAsg te (gName i)) r D σ H := h _ k
theorem with_rest {t r : TS} {D : Ends} {σ : St} {H : Hp} (W : St → Hp → Prop) (h2 : ∀ σ' H', W σ' H' → r D σ' H') (h1 : (∀ σ' H', W σ' H' → r D σ' H') → t { D with nx := r D } σ H) : tSeq t r D σ H := h1 h2
theorem seq_ifs {tc : TT} {t e r : TS} {D : Ends} {σ : St} {H : Hp} {b : Bool} (RR : St → Hp → Prop) (h : ∀ Q : Bool → Hp → Prop, Q b H → tc σ H Q) (rest : ∀ σ' H', RR σ' H' → r D σ' H') (k1 : b = true → ∀ D' : Ends, (∀ σ' H', RR σ' H' → D'.nx σ' H') → t D' σ H) (k2 : b = false → ∀ D' : Ends, (∀ σ' H', RR σ' H' → D'.nx σ' H') → e D' σ H) :
    tSeq (tIfS tc t e) r D σ H := h _ (by
  cases b with
  | true => exact iteT (k1 rfl _ rest)
  | false => exact iteF (k2 rfl _ rest))
theorem one_ifs {tc : TT} {t e : TS} {D : Ends} {σ : St} {H : Hp} {b : Bool} (h : ∀ Q : Bool → Hp → Prop, Q b H → tc σ H Q) (k1 : b = true → t D σ H) (k2 : b = false → e D σ H) : tIfS tc t e D σ H := h _ (by
  cases b with
  | true => exact iteT (k1 rfl)
  | false => exact iteF (k2 rfl))
section
variable {P : Program} {w : World} {K : PySem.W.Frag} {mg : Str → Option Value} {base : Heap} {C : Addr}
theorem ok_tinit (Y : TCls K mg C) : FnOk P w K mg base CX0 1 Y.DI.f Y.DI.fd psWI (spTInit C) := by
  refine Y.DI.ok sc_Watch_init (fun vs H Q E h => ?_) (fun cdv A outer s H vs Q E hr h => ?_)
  · obtain ⟨p, dx, wp, w, rfl, _⟩ := h
    rfl
  obtain ⟨p, dx, wp, w, rfl, hp, q⟩ := h
  refine ⟨_, pss_cons (ps_fld (pv 0) (pv 1) rfl) (pss_cons (ps_fld (pv 0) (pv 2) rfl) (pss_cons (ps_fld (pv 0) (pv 3) rfl) (pss_one (ps_fld (pv 0) (pv 4) rfl)))), ?_⟩
  refine ⟨_, rfl, _, rfl, p, C, dx, _, rfl, hp, Y.cl, Y.nName, (by show 0 < 1000; decide), ?_⟩
  refine ⟨_, rfl, _, rfl, p, C, dx, _, rfl, upd_same, Y.cl, Y.nWord, (by show 1 < 1000; decide), ?_⟩
  refine ⟨_, rfl, _, rfl, p, C, dx, _, rfl, upd_same, Y.cl, Y.nWays, Nat.lt_of_le_of_lt (length_putF _ _ _) (by show 1 + 1 < 1000; decide), ?_⟩
  refine ⟨_, rfl, _, rfl, p, C, dx, _, rfl, upd_same, Y.cl, Y.nGate, Nat.lt_of_le_of_lt (length_putF _ _ _) (Nat.lt_of_le_of_lt (Nat.succ_le_succ (length_putF _ _ _)) (by show 1 + 1 + 1 < 1000; decide)), ?_⟩
  exact q _ upd_same fun b hb => by rw [upd_ne hb, upd_ne hb, upd_ne hb, upd_ne hb]
theorem ok_is_on (Y : TCls K mg C) : FnOk P w K mg base CX0 1 Y.DO.f Y.DO.fd psWO (spIsOn C) := by
  have nd := sc_Watch_is_on.nd
  refine Y.DO.ok sc_Watch_is_on (fun vs H Q E h => ?_) (fun cdv A outer s H vs Q E hr h => ?_)
  · obtain ⟨v, w, was, looks, p, rfl, _⟩ := h
    rfl
  obtain ⟨v, w, was, looks, p, rfl, ⟨a, dx, wp, rfl, h1, h2⟩, hp, q⟩ := h
  refine ⟨_, pss_cons (ps_if (pt_cmpR op_eq (pe_fld (pv 0) rfl) pe_str (nomark _)) (pss_one (ps_ret (pe_or (pv 1) (pe_one (pe_cmpR op_eq (pe_ix ix_str (pv 3) pe_int (fun _ _ => rfl)) (pe_fld (pv 0) rfl) (nomark _)))))) pss_nil)
    (pss_cons (ps_set (i := 4) nd rfl (Or.inl rfl) (pe_and (pv 2) (pe_and (pe_cmpR op_eq (pe_ix ix_str (pv 3) pe_int (fun _ _ => rfl)) (pe_fld (pv 0) rfl) (nomark _)) (pe_one (pe_cmpR op_in_seq (pe_ix ix_str (pv 3) pe_int (fun _ _ => rfl)) (pe_fld (pv 0) rfl) (by rfl))))))
    (pss_one (ps_ret (pe_ifExp (pt_cmpR op_eq (pe_fld (pv 0) rfl) pe_str (nomark _)) (pv 4) (pe_or (pv 1) (pe_one (pv 4))))))), ?_⟩
  obtain ⟨c0, e0, x0⟩ := hp.at0
  obtain ⟨c1, e1, x1⟩ := hp.at1
  refine ⟨_, rfl, a, C, dx, _, _, rfl, h1, Y.cl, Y.nName, tf_name _ _ _ _, rfl, ?_⟩
  rw [dec_str]
  by_cases hs : w.nm = "seen"
  · rw [show (w.nm == ("seen" : Str)) = true from beq_iff_eq.mpr hs]
    unfold isOn at q
    rw [if_pos hs] at q
    refine ⟨_, rfl, iteT (or0 (b := was) (c := p.1 == w.w) (fun Q q => ⟨_, rfl, q⟩) (fun _ Q q => ?_) _ q)⟩
    refine ⟨_, rfl, _, 0, c0, rfl, rfl, str_len2 hp.len, e0, ?_⟩
    rw [x0]
    refine ⟨_, rfl, a, C, dx, _, _, rfl, h1, Y.cl, Y.nWord, tf_word _ _ _ _, rfl, ?_⟩
    rw [dec_str]
    exact q
  rw [show (w.nm == ("seen" : Str)) = false from beq_eq_false_iff_ne.mpr hs]
  refine ⟨_, rfl, iteF ?_⟩
  unfold isOn at q
  rw [if_neg hs] at q
  dsimp only [tNext]
  refine set0 (v := .bl (looks && okAt w.c w.w p)) (and0 (fun Q q => ⟨_, rfl, q⟩) fun _ => and0 (b := p.1 == w.w) (c := p.2 == "r" || (w.c && p.2 == "c")) (fun Q q => ?_) fun _ Q q => ?_) ?_
  · refine ⟨_, rfl, _, 0, c0, rfl, rfl, str_len2 hp.len, e0, ?_⟩
    rw [x0]
    refine ⟨_, rfl, a, C, dx, _, _, rfl, h1, Y.cl, Y.nWord, tf_word _ _ _ _, rfl, ?_⟩
    rw [dec_str]
    exact q
  · refine ⟨_, rfl, _, 1, c1, rfl, rfl, str_len2 hp.len, e1, ?_⟩
    rw [x1]
    refine ⟨_, rfl, a, C, dx, _, _, rfl, h1, Y.cl, Y.nWays, tf_ways _ _ _ _, wp, _, rfl, .inr (SqT.of h2), rfl, ways_flat w.c, ?_⟩
    show Q (.bl (inV (.str p.2) (waysV w.c))) H
    rw [ways_in hp.2]
    exact q
  refine ⟨_, rfl, a, C, dx, _, _, rfl, h1, Y.cl, Y.nName, tf_name _ _ _ _, rfl, ?_⟩
  rw [dec_str]
  by_cases he : w.nm = "end"
  · rw [show (w.nm == ("end" : Str)) = true from beq_iff_eq.mpr he]
    rw [if_pos he] at q
    exact ⟨_, rfl, iteT ⟨_, rfl, q⟩⟩
  · rw [show (w.nm == ("end" : Str)) = false from beq_eq_false_iff_ne.mpr he]
    rw [if_neg he] at q
    exact ⟨_, rfl, iteF (or0 (b := was) (fun Q q => ⟨_, rfl, q⟩) (fun _ Q q => ⟨_, rfl, q⟩) _ q)⟩
end
end MS
end
section
set_option maxRecDepth 100000
set_option maxHeartbeats 4000000
namespace MS
open PySem L2
/-! ### add_watches, watches_of -/
abbrev s_add_watches : Stmt := topS 47
abbrev psAW : List Str := ["watches", "paper", "scheme", "ways", "gate"]
abbrev nmAW : List Str := ["watches", "paper", "scheme", "ways", "gate", "inner_gate", "inner_ways", "inner"]
theorem sc_add_watches : FnScope nmAW psAW (defScope s_add_watches) := ⟨rfl, rfl, rfl, by decide +kernel, rfl, by decide +kernel, by decide +kernel⟩
abbrev s_watches_of : Stmt := topS 48
theorem sc_watches_of : FnScope ["paper", "watches"] ["paper"] (defScope s_watches_of) := ⟨rfl, rfl, rfl, by decide +kernel, rfl, by decide +kernel, by decide +kernel⟩
/-- the head of a scheme tells its watch, its gate, its ways -/
theorem SAt.head {H : Hp} {d i M : Nat} : ∀ {sc : Sch} {v : V}, SAt H (d + 1) sc v → OkS i M (d + 1) sc → ∃ a nm rest, v = .ref a ∧ H a = some (.tup (.str nm :: rest)) ∧ (∀ c g, ownT sc c g = if (wordOf sc).length ≠ 0 then [⟨nm, wordOf sc, c, g⟩] else []) ∧
    (∀ g n, gateIn sc g n = if (nm == "behind") = true then some n else g) ∧ (∀ c, waysIn sc c = if (nm == "carry") = true then true else c) ∧ ((nm == "behind") = true → ownN sc = 1)
  | .step w p, v, ⟨a, e, h⟩, o => ⟨a, _, _, e, h, fun c g => by rw [if_pos (show (wordOf (.step w p)).length ≠ 0 from word_ne o.1)]; rfl, fun g n => by rw [if_neg (by decide +kernel)]; rfl, fun c => by rw [if_neg (by decide +kernel)]; rfl, fun z => absurd z (by decide +kernel)⟩
  | .all k, v, ⟨a, b, vs, e, h, _⟩, o => ⟨a, _, _, e, h, fun c g => rfl, fun g n => by rw [if_neg (by decide +kernel)]; rfl, fun c => by rw [if_neg (by decide +kernel)]; rfl, fun z => absurd z (by decide +kernel)⟩
  | .best k, v, ⟨a, b, vs, e, h, _⟩, o => ⟨a, _, _, e, h, fun c g => rfl, fun g n => by rw [if_neg (by decide +kernel)]; rfl, fun c => by rw [if_neg (by decide +kernel)]; rfl, fun z => absurd z (by decide +kernel)⟩
  | .most n s, v, ⟨a, u, e, h, _⟩, o => ⟨a, _, _, e, h, fun c g => rfl, fun g n => by rw [if_neg (by decide +kernel)]; rfl, fun c => by rw [if_neg (by decide +kernel)]; rfl, fun z => absurd z (by decide +kernel)⟩
  | .half s, v, ⟨a, u, e, h, _⟩, o => ⟨a, _, _, e, h, fun c g => rfl, fun g n => by rw [if_neg (by decide +kernel)]; rfl, fun c => by rw [if_neg (by decide +kernel)]; rfl, fun z => absurd z (by decide +kernel)⟩
  | .seen w s, v, ⟨a, u, e, h, _⟩, o => ⟨a, _, _, e, h, fun c g => by rw [if_pos (show (wordOf (.seen w s)).length ≠ 0 from word_ne o.1)]; rfl, fun g n => by rw [if_neg (by decide +kernel)]; rfl, fun c => by rw [if_neg (by decide +kernel)]; rfl, fun z => absurd z (by decide +kernel)⟩
  | .behind w s, v, ⟨a, u, e, h, _⟩, o => ⟨a, _, _, e, h, fun c g => by rw [if_pos (show (wordOf (.behind w s)).length ≠ 0 from word_ne o.1)]; rfl, fun g n => by rw [if_pos (by decide +kernel)]; rfl, fun c => by rw [if_neg (by decide +kernel)]; rfl, fun _ => rfl⟩
  | .carry s, v, ⟨a, u, e, h, _⟩, o => ⟨a, _, _, e, h, fun c g => rfl, fun g n => by rw [if_neg (by decide +kernel)]; rfl, fun c => by rw [if_pos (by decide +kernel)]; rfl, fun z => absurd z (by decide +kernel)⟩
  | .fin w p s, v, ⟨a, u, e, h, _⟩, o => ⟨a, _, _, e, h, fun c g => by rw [if_pos (show (wordOf (.fin w p s)).length ≠ 0 from word_ne o.1.1)]; rfl, fun g n => by rw [if_neg (by decide +kernel)]; rfl, fun c => by rw [if_neg (by decide +kernel)]; rfl, fun z => absurd z (by decide +kernel)⟩
  | .use n, v, ⟨a, e, h⟩, o => ⟨a, _, _, e, h, fun c g => rfl, fun g n => by rw [if_neg (by decide +kernel)]; rfl, fun c => by rw [if_neg (by decide +kernel)]; rfl, fun z => absurd z (by decide +kernel)⟩
/-- the list l changes, nothing else -/
def spAddW (C : Addr) (ps : List Sch) (M k : Nat) : Sp := fun vs H Q _ => ∃ (l pa : Addr) (v : V) (wp : Addr) (s : Sch) (i d : Nat) (c : Bool) (g : Option Nat) (W : List Wt) (xs : List V), vs = [.ref l, .ref pa, v, .ref wp, gateV g] ∧ (∃ pv, H pa = some (.tup pv) ∧ Paired (SAt H 5) ps pv) ∧ SAt H d s v ∧ OkS i M d s ∧ (M - i) * 5 + d ≤ k ∧
  H wp = some (.tup (waysV c)) ∧ H l = some (.lst xs) ∧ Paired (WatchAt C H) W xs ∧ W.length + cn ps k s ≤ 100 ∧ ∀ (H' : Hp) (ys : List V), Keep [l] H H' → H' l = some (.lst ys) → Paired (WatchAt C H') (W ++ wt ps k s c g W.length) ys → Q .non H'
theorem keep_tup {l : Addr} {H H' : Hp} {xs : List V} (k : Keep [l] H H') (hl : H l = some (.lst xs)) : TupK H H' := k.tup fun a ha => ⟨xs, by rw [List.mem_singleton.mp ha]; exact hl⟩
theorem watches_keep {C l : Addr} {H H' : Hp} {xs : List V} {W : List Wt} {zs : List V} (h : Paired (WatchAt C H) W zs) (k : Keep [l] H H') (hl : H l = some (.lst xs)) : Paired (WatchAt C H') W zs := paired_imp h fun _ _ z => z.keep fun b o e n => k b o e fun hm => by
  rw [List.mem_singleton.mp hm, hl] at e
  exact n xs (Option.some.inj e).symm
theorem wtAll_app (f : Sch → Nat → List Wt) : ∀ (a b : List Sch) (n : Nat), wtAll f (a ++ b) n = wtAll f a n ++ wtAll f b (n + (wtAll f a n).length)
  | [], b, n => by
    show wtAll f b n = [] ++ wtAll f b (n + 0)
    rfl
  | s :: a, b, n => by
    show f s n ++ wtAll f (a ++ b) _ = (f s n ++ wtAll f a _) ++ wtAll f b (n + (f s n ++ wtAll f a _).length)
    rw [wtAll_app f a b, List.append_assoc, List.length_append, Nat.add_assoc]
theorem sum_take_le (m : Sch → Nat) : ∀ (ks : List Sch) (j : Nat) (s : Sch), ks[j]? = some s → ((ks.take j).map m).sum + m s ≤ (ks.map m).sum
  | [], j, s, h => by cases h
  | a :: r, 0, s, h => by
    cases h
    show 0 + m a ≤ m a + _
    omega
  | a :: r, j + 1, s, h => by
    have := sum_take_le m r j s h
    show m a + ((r.take j).map m).sum + m s ≤ m a + (r.map m).sum
    omega
theorem setR {te : TE} {i : Nat} {r : TS} {D : Ends} {σ : St} {H : Hp} (R : V → Hp → Prop) (h : ∀ Q : VK, (∀ v H', R v H' → Q v H') → te σ H Q) (k : ∀ v H', R v H' → r D (σ.set i (some v)) H') : tSeq (tAsg te (gName i)) r D σ H := h _ k
section
variable {P : Program} {w : World} {K : PySem.W.Frag} {mg : Str → Option Value} {base : Heap} {C : Addr}
/-- a watch that has been made -/
theorem watch_made {wp x dx : Addr} {H H1 : Hp} {w : Wt} {Q : VK} (ewp : H wp = some (.tup (waysV w.c))) (hx : H x = none) (hdx : H dx = none) (ne : dx ≠ x) (e1 : H1 = upd (upd H dx (.own x)) x (.ins C dx []))
    (q : ∀ (u : Addr) (H' : Hp), Same H H' → WatchAt C H' w (.ref u) → Q (.ref u) H') : spTInit C [.ref x, .str w.nm, .str w.w, .ref wp, gateV w.g] H1 (fun v H2 => v = .non ∧ Q (.ref x) H2) E0 := by
  subst e1
  refine ⟨x, dx, wp, w, rfl, upd_same, fun H' h1 h2 => ⟨rfl, ?_⟩⟩
  have sm : Same H H' := fun b o e => by
    have nb : b ≠ x := ne_of_none e hx
    have nd : b ≠ dx := ne_of_none e hdx
    rw [h2 b nb, upd_ne nb, upd_ne nd]
    exact e
  exact q x H' sm ⟨x, dx, wp, rfl, h1, sm _ _ ewp⟩
structure DAW (K : PySem.W.Frag) (mg : Str → Option Value) where
  D : Def K mg "add_watches" s_add_watches psAW
  DW : Def K mg "word_in" s_word_in ["scheme"]
  DI : Def K mg "within" s_within ["scheme"]
  DP : Def K mg "parts_of" s_parts_of ["paper", "scheme"]
theorem add_turn {ps : List Sch} {M k : Nat} (hM : ps.length = M) (hp : ∀ (j : Nat) (s : Sch), ps[j]? = some s → OkS j M 5 s) (T : PTx w K mg) (Y : TCls K mg C) (D : DAW K mg)
    (G : FnOk P w K mg base CX0 (k + 3) D.D.f D.D.fd psAW (spAddW C ps M k)) : FnOk P w K mg base CX0 (k + 4) D.D.f D.D.fd psAW (spAddW C ps M (k + 1)) := by
  have GW : FnOk P w K mg base CX0 1 D.DW.f D.DW.fd ["scheme"] spWordIn := ok_word_in T D.DW
  have GP : FnOk P w K mg base CX0 2 D.DP.f D.DP.fd ["paper", "scheme"] (spParts ps M k) := ok_parts_of hM hp T D.DP D.DI
  have GI : FnOk P w K mg base CX0 1 Y.DI.f Y.DI.fd psWI (spTInit C) := ok_tinit Y
  have ml : mg "len" = none := T.free "len" (by decide +kernel)
  obtain ⟨tr, gr⟩ := T.right
  obtain ⟨tc, gc⟩ := T.carried
  have nd := sc_add_watches.nd
  refine D.D.ok sc_add_watches (fun vs H Q E h => ?_) (fun cdv A outer s H vs Q E hr h => ?_)
  · obtain ⟨l, pa, v, wp, s, i, d, c, g, W, xs, rfl, _⟩ := h
    rfl
  obtain ⟨l, pa, v, wp, sc, i, d, c, g, W, xs, rfl, ⟨pv0, epv, pp⟩, hs, ho, hk, ewp, el, pw, hn, q⟩ := h
  have hr1 : Room 1 _ := hr.mono (by omega)
  have hr2 : Room 2 _ := hr.mono (by omega)
  have hr3 : Room (1 + 1) _ := hr.mono (by omega)
  refine ⟨_, pss_cons (ps_if (pt_truth (pcall D.DW GW hr1 (pa_cons (pv 2) pa_nil)) (by intro _; rfl))
      (pss_one (ps_expr (pe_bm PySem.F.plainAttrs_list PySem.F.slot_list_append PySem.F.type_list_append mt_append (pv 0) (pa_cons (pe_make Y.mk' GI hr3 rfl Y.mgC Y.DI.b .nil pass0 (pa_cons (pe_ix ix_tup (pv 2) pe_int (fun _ _ => rfl)) (pa_cons (pcall D.DW GW hr1 (pa_cons (pv 2) pa_nil)) (pa_cons (pv 3) (pa_cons (pv 4) pa_nil))))) pa_nil)))) pss_nil)
    (pss_cons (ps_set (i := 5) nd rfl (Or.inl rfl) (pe_ifExp (pt_cmpR op_eq (pe_ix ix_tup (pv 2) pe_int (fun _ _ => rfl)) pe_str (nomark _)) (pe_op op_sub (pe_callB call_len_seq rfl ml PySem.boot_len (pa_cons (pv 0) pa_nil)) pe_int) (pv 4)))
    (pss_cons (ps_set (i := 6) nd rfl (Or.inl rfl) (pe_ifExp (pt_cmpR op_eq (pe_ix ix_tup (pv 2) pe_int (fun _ _ => rfl)) pe_str (nomark _)) (pe_tup (pa_cons (pe_glob rfl gr (v := .str "r") ⟨_, rfl⟩) (pa_cons (pe_glob rfl gc (v := .str "c") ⟨_, rfl⟩) pa_nil))) (pv 3)))
    (pss_one (ps_for PassesOwn.never rfl (pi_list (pcall D.DP GP hr2 (pa_cons (pv 1) (pa_cons (pv 2) pa_nil)))) (pg_name (i := 7) nd rfl (Or.inl rfl))
      (pss_one (ps_expr (pcall D.D G hr (pa_cons (pv 0) (pa_cons (pv 1) (pa_cons (pv 7) (pa_cons (pv 6) (pa_cons (pv 5) pa_nil)))))))))))), ?_⟩
  cases d with
  | zero => cases hs
  | succ d =>
  obtain ⟨a, nm, rest, rfl, ea, eW, eG, eY, eB⟩ := hs.head ho
  have wl := wordOf_len ho
  have hlW := Paired.length pw
  have hcn : cn ps (k + 1) sc = ownN sc + ((partsOf ps sc).map (cn ps k)).sum := rfl
  refine seq_ifs (b := ((wordOf sc).length : Int) != 0) (fun σ H1 => σ = [some (.ref l), some (.ref pa), some (.ref a), some (.ref wp), some (gateV g), none, none, none] ∧ ∃ xs1, Keep [l] H H1 ∧ H1 l = some (.lst xs1) ∧ Paired (WatchAt C H1) (W ++ ownT sc c g) xs1) (fun Q q => ?_) ?_ (fun hb D' h => ?_) (fun hb D' h => ?_)
  · exact ⟨_, rfl, _, sc, i, M, d, rfl, hs, ho, (((wordOf sc).length : Int) != 0), ⟨szN (by omega), rfl⟩, q⟩
  · rintro σ1 H1 ⟨rfl, xs1, k1, el1, pw1⟩
    have t1 := keep_tup k1 el
    have hl1 := Paired.length pw1
    rw [List.length_append] at hl1
    have hoN : (ownT sc c g).length = ownN sc := ownT_len sc c g
    refine set0 (v := gateV (gateIn sc g W.length)) (fun Q q => ?_) ?_
    · refine ⟨_, rfl, a, _, 0, .str nm, rfl, rfl, SqT.of (t1 _ _ ea), at0, rfl, _, rfl, ?_⟩
      rw [dec_str]
      rw [eG] at q
      cases e : (nm == ("behind" : Str)) with
      | true =>
        rw [if_pos e] at q
        have := eB e
        refine iteT ⟨_, rfl, l, xs1, rfl, .inl (SqL.of el1), _, _, rfl, rfl, ?_⟩
        show Q (.int (((xs1.length : Nat) : Int) - 1)) H1
        rw [show ((xs1.length : Nat) : Int) - 1 = ((W.length : Nat) : Int) by omega]
        exact q
      | false =>
        rw [if_neg (by rw [e]; decide)] at q
        exact iteF ⟨_, rfl, q⟩
    refine setR (fun v H2 => ∃ wp2, v = .ref wp2 ∧ Same H1 H2 ∧ H2 wp2 = some (.tup (waysV (waysIn sc c)))) (fun Q q => ?_) ?_
    · refine ⟨_, rfl, a, _, 0, .str nm, rfl, rfl, SqT.of (t1 _ _ ea), at0, rfl, _, rfl, ?_⟩
      rw [dec_str]
      rw [eY] at q
      cases e : (nm == ("carry" : Str)) with
      | true =>
        rw [if_pos e] at q
        exact iteT ⟨sz2, fun t ht => q _ _ ⟨t, rfl, Same.new ht, upd_same⟩⟩
      | false =>
        rw [if_neg (by rw [e]; decide)] at q
        exact iteF ⟨_, rfl, q _ _ ⟨wp, rfl, Same.refl _, t1 _ _ ewp⟩⟩
    rintro v6 H2 ⟨wp2, rfl, s2, ewp2⟩
    have t2 := t1.trans (Same.tupK s2)
    dsimp only [gName]
    refine ⟨_, rfl, _, rfl, pa, _, sc, i, d, rfl, ⟨pv0, t2 _ _ epv, paired_imp pp fun _ _ => SAt.keep t2 _ _ _⟩, SAt.keep t2 _ _ _ hs, ho, hk, fun fl kv hfl at_ few => ?_⟩
    have s3 : Same H2 (upd H2 fl (.lst kv)) := Same.new hfl
    have t3 := t2.trans (Same.tupK s3)
    have el3 := s3 _ _ (s2 _ _ el1)
    have efl : upd H2 fl (.lst kv) fl = some (.lst kv) := upd_same
    have nfl : fl ≠ l := fun z => by rw [z, s2 _ _ el1] at hfl; cases hfl
    have k3 : Keep [l] H (upd H2 fl (.lst kv)) := k1.trans (Same.keep (s2.trans s3))
    have pw3 := paired_imp pw1 fun _ _ z => z.same (s2.trans s3)
    have ewp3 := s3 _ _ ewp2
    have hkv := Paired.length at_
    generalize upd H2 fl (.lst kv) = H3 at *
    refine ⟨fl, rfl, ⟨_, SqL.of efl⟩, for_list (K := K) (a := fl) (xs := kv) (fun j σ H' => ∃ (v7 : Option V) (ys : List V), σ = [some (.ref l), some (.ref pa), some (.ref a), some (.ref wp), some (gateV g), some (gateV (gateIn sc g W.length)), some (.ref wp2), v7] ∧ Keep [l] H3 H' ∧ H' l = some (.lst ys) ∧
        Paired (WatchAt C H') ((W ++ ownT sc c g) ++ wtAll (fun s' n' => wt ps k s' (waysIn sc c) (gateIn sc g W.length) n') ((partsOf ps sc).take j) (W.length + (ownT sc c g).length)) ys)
      ⟨none, xs1, rfl, Keep.refl _ _, el3, by rw [List.take_zero]; show Paired _ (_ ++ []) _; rw [List.append_nil]; exact pw3⟩ (fun j σ H' _ ⟨_, _, _, k', _⟩ => SqL.of (k' _ _ efl (by simpa using nfl))) ?_ ?_⟩
    · rintro j x σ H' hj ⟨v7, ys, rfl, k5, el5, pw5⟩
      obtain ⟨s', es', hs'⟩ := paired_get' at_ hj
      have t5 := keep_tup k5 el3
      obtain ⟨i', d', hs5, ho5, hk5⟩ := hs'.keep (H' := H') ((Same.tupK s3).trans t5)
      have lt : (wtAll (fun s' n' => wt ps k s' (waysIn sc c) (gateIn sc g W.length) n') ((partsOf ps sc).take j) (W.length + (ownT sc c g).length)).length = (((partsOf ps sc).take j).map (cn ps k)).sum := wtAll_len _ _ fun s' _ n' => wt_len k s' _ _ n'
      have := sum_take_le (cn ps k) (partsOf ps sc) j s' es'
      dsimp only [gName]
      refine ⟨_, rfl, _, rfl, _, rfl, _, rfl, _, rfl, l, pa, x, wp2, s', i', d', waysIn sc c, gateIn sc g W.length, _, ys, rfl, ⟨pv0, (t3.trans t5) _ _ epv, paired_imp pp fun _ _ => SAt.keep (t3.trans t5) _ _ _⟩, hs5, ho5, hk5, t5 _ _ ewp3, el5, pw5, ?_, fun H6 zs k6 el6 pw6 => ?_⟩
      · rw [List.length_append, List.length_append, lt, hoN]
        omega
      · refine ⟨_, zs, rfl, k5.trans k6, el6, ?_⟩
        have tk : (partsOf ps sc).take (j + 1) = (partsOf ps sc).take j ++ [s'] := by
          rw [List.take_succ, es']
          rfl
        rw [tk, wtAll_app, ← List.append_assoc]
        rw [List.length_append, List.length_append] at pw6
        show Paired _ (_ ++ (wt ps k s' _ _ _ ++ [])) zs
        rw [List.append_nil]
        exact pw6
    · rintro σ H' ⟨v7, ys, rfl, k5, el5, pw5⟩
      rw [← hkv, List.take_length] at pw5
      refine q H' ys (k3.trans k5) el5 ?_
      show Paired _ (W ++ (ownT sc c g ++ wtAll _ _ _)) ys
      rw [← List.append_assoc]
      exact pw5
  · refine ⟨_, rfl, .inl ⟨rfl, _, SqL.of el⟩, _, rfl, a, _, 0, .str nm, rfl, rfl, SqT.of ea, at0, _, rfl, _, sc, i, M, d, rfl, hs, ho, _, rfl, _, rfl, fun x dx hx hdx ne => ?_⟩
    refine watch_made (C := C) (w := ⟨nm, wordOf sc, c, g⟩) (Q := fun v H2 => rAppend (.ref l) [v] H2 fun _ H1 => D'.nx (L2.start nmAW [.ref l, .ref pa, .ref a, .ref wp, gateV g]) H1) ewp hx hdx ne rfl fun u H2 sm hu => ?_
    have nl : ∀ b o, H b = some o → b ∉ [l] → b ≠ l := fun b o _ hm e => hm (by rw [e]; exact List.mem_cons_self)
    refine ⟨l, _, _, rfl, rfl, sm _ _ el, szN (by omega), h _ _ ⟨rfl, xs ++ [.ref u], fun b o e hm => by rw [upd_ne (nl b o e hm)]; exact sm _ _ e, upd_same, ?_⟩⟩
    have e1 : ownT sc c g = [⟨nm, wordOf sc, c, g⟩] := by
      rw [eW, if_pos]
      intro z
      rw [z] at hb
      cases hb
    rw [e1]
    have kk : Keep [l] H2 (upd H2 l (.lst (xs ++ [.ref u]))) := fun b o e hm => by rw [upd_ne fun e => hm (by rw [e]; exact List.mem_cons_self)]; exact e
    exact paired_snoc (watches_keep (paired_imp pw fun _ _ z => z.same sm) kk (sm _ _ el)) (by
      obtain ⟨a', dx', wp', e, h1, h2⟩ := hu
      exact (show WatchAt C H2 _ (.ref u) from ⟨a', dx', wp', e, h1, h2⟩).keep fun b o e n => kk b o e fun hm => by
        rw [List.mem_singleton.mp hm, sm _ _ el] at e
        exact n xs (Option.some.inj e).symm)
  · refine h _ _ ⟨rfl, xs, Keep.refl _ _, el, ?_⟩
    have e1 : ownT sc c g = [] := by
      rw [eW, if_neg]
      intro z
      have z2 : (((wordOf sc).length : Int) != 0) = true := by simpa using z
      rw [hb] at z2
      cases z2
    rw [e1, List.append_nil]
    exact pw
end
end MS
end
section
set_option maxRecDepth 100000
set_option maxHeartbeats 4000000
namespace MS
open PySem L2
/-! ### how many watches; watches_of -/
theorem wr_pos {i M : Nat} {c : Nat → Int} (h : ∀ j, i < j → j < M → 0 ≤ c j) : ∀ (d : Nat) (s : Sch), OkS i M d s → 0 ≤ wr c d s
  | 0, _, o => by cases o
  | _ + 1, .step _ _, _ => by show (0 : Int) ≤ 0; decide
  | d + 1, .all k, o => by
    show 0 ≤ (k.map (wr c d)).sum
    have : ∀ s ∈ k, 0 ≤ wr c d s := fun s hs => wr_pos h d s (o.2.2 s hs)
    clear o
    induction k with
    | nil => exact Int.le_refl _
    | cons a r ih =>
      rw [List.map_cons, List.sum_cons]
      have := ih fun s hs => this s (List.mem_cons_of_mem _ hs)
      have := ‹∀ s ∈ a :: r, 0 ≤ wr c d s› a List.mem_cons_self
      omega
  | d + 1, .best k, o => by
    show 0 ≤ (k.map (wr c d)).sum
    have : ∀ s ∈ k, 0 ≤ wr c d s := fun s hs => wr_pos h d s (o.2.2 s hs)
    clear o
    induction k with
    | nil => exact Int.le_refl _
    | cons a r ih =>
      rw [List.map_cons, List.sum_cons]
      have := ih fun s hs => this s (List.mem_cons_of_mem _ hs)
      have := ‹∀ s ∈ a :: r, 0 ≤ wr c d s› a List.mem_cons_self
      omega
  | d + 1, .most _ s, o => wr_pos h d s o.2
  | d + 1, .half s, o => wr_pos h d s o
  | d + 1, .seen _ s, o => by
    have := wr_pos h d s o.2
    show 0 ≤ 1 + wr c d s
    omega
  | d + 1, .behind _ s, o => by
    have := wr_pos h d s o.2
    show 0 ≤ 1 + wr c d s
    omega
  | d + 1, .carry s, o => wr_pos h d s o
  | d + 1, .fin _ _ s, o => wr_pos h d s o.2
  | _ + 1, .use n, o => h n o.1 o.2
theorem sum_cn {m : Sch → Nat} {f g : Sch → Int} : ∀ ks : List Sch, (∀ s ∈ ks, ((m s : Nat) : Int) ≤ f s + g s) → (((ks.map m).sum : Nat) : Int) ≤ (ks.map f).sum + (ks.map g).sum
  | [], _ => by show (0 : Int) ≤ 0 + 0; decide
  | s :: r, h => by
    have h1 := sum_cn r fun s hs => h s (List.mem_cons_of_mem _ hs)
    have h2 := h s List.mem_cons_self
    rw [List.map_cons, List.map_cons, List.map_cons, List.sum_cons, List.sum_cons, List.sum_cons]
    omega
theorem cn_le {ps : List Sch} {ce cw : Nat → Int} {M : Nat} (hp : ∀ (j : Nat) (s : Sch), ps[j]? = some s → OkS j M 5 s ∧ ce j = er ce 5 s ∧ cw j = wr cw 5 s) (h0 : ∀ j, j < M → 0 ≤ ce j) (h1 : ∀ j, j < M → 0 ≤ cw j) :
    ∀ (k i d : Nat) (s : Sch), OkS i M d s → ((cn ps k s : Nat) : Int) ≤ er ce d s + wr cw d s
  | 0, i, d, s, o => by
    have := er_nonneg (c := ce) (fun j _ hj => h0 j hj) d s o
    have := wr_pos (c := cw) (fun j _ hj => h1 j hj) d s o
    show (0 : Int) ≤ _
    omega
  | k + 1, i, 0, s, o => by cases o
  | k + 1, i, d + 1, .step x p, o => by show ((1 + 0 : Nat) : Int) ≤ 1 + 0; decide
  | k + 1, i, d + 1, .all ks, o => by
    have := sum_cn (m := cn ps k) (f := er ce d) (g := wr cw d) ks fun s hs => cn_le hp h0 h1 k i d s (o.2.2 s hs)
    show ((0 + (ks.map (cn ps k)).sum : Nat) : Int) ≤ (ks.map (er ce d)).sum + (ks.map (wr cw d)).sum
    omega
  | k + 1, i, d + 1, .best ks, o => by
    have := sum_cn (m := cn ps k) (f := er ce d) (g := wr cw d) ks fun s hs => cn_le hp h0 h1 k i d s (o.2.2 s hs)
    show ((0 + (ks.map (cn ps k)).sum : Nat) : Int) ≤ (ks.map (er ce d)).sum + (ks.map (wr cw d)).sum
    omega
  | k + 1, i, d + 1, .most n s, o => by
    have := cn_le hp h0 h1 k i d s o.2
    show ((0 + (cn ps k s + 0) : Nat) : Int) ≤ er ce d s + wr cw d s
    omega
  | k + 1, i, d + 1, .half s, o => by
    have := cn_le hp h0 h1 k i d s o
    show ((0 + (cn ps k s + 0) : Nat) : Int) ≤ er ce d s + wr cw d s
    omega
  | k + 1, i, d + 1, .carry s, o => by
    have := cn_le hp h0 h1 k i d s o
    show ((0 + (cn ps k s + 0) : Nat) : Int) ≤ er ce d s + wr cw d s
    omega
  | k + 1, i, d + 1, .seen x s, o => by
    have := cn_le hp h0 h1 k i d s o.2
    show ((1 + (cn ps k s + 0) : Nat) : Int) ≤ er ce d s + (1 + wr cw d s)
    omega
  | k + 1, i, d + 1, .behind x s, o => by
    have := cn_le hp h0 h1 k i d s o.2
    show ((1 + (cn ps k s + 0) : Nat) : Int) ≤ er ce d s + (1 + wr cw d s)
    omega
  | k + 1, i, d + 1, .fin x p s, o => by
    have := cn_le hp h0 h1 k i d s o.2
    show ((1 + (cn ps k s + 0) : Nat) : Int) ≤ (1 + er ce d s) + wr cw d s
    omega
  | k + 1, i, d + 1, .use n, o => by
    have a0 := h0 n o.2
    have a1 := h1 n o.2
    show ((0 + (((ps[n]?).toList).map (cn ps k)).sum : Nat) : Int) ≤ ce n + cw n
    cases e : ps[n]? with
    | none =>
      show ((0 + 0 : Nat) : Int) ≤ _
      omega
    | some s =>
      obtain ⟨o', e1, e2⟩ := hp n s e
      have := cn_le hp h0 h1 k n 5 s o'
      show ((0 + (cn ps k s + 0) : Nat) : Int) ≤ _
      omega
theorem watch_few {ps : List Sch} (h : PaperOk ps) : (watchP ps).length ≤ 10 := by
  obtain ⟨hl, _, ce, cw, t⟩ := id h
  have hp : ∀ (j : Nat) (s : Sch), ps[j]? = some s → OkS j ps.length 5 s ∧ ce j = er ce 5 s ∧ cw j = wr cw 5 s := fun j s e => by
    obtain ⟨q1, q2, q3, _⟩ := t j s e
    rw [Nat.zero_add] at q1 q2 q3
    exact ⟨q1, q2, q3⟩
  have h0 : ∀ n j, ps.length - j ≤ n → j < ps.length → 0 ≤ ce j ∧ 0 ≤ cw j := by
    intro n
    induction n with
    | zero => intro j a b; omega
    | succ n ih =>
      intro j a b
      obtain ⟨o, e, e'⟩ := hp j _ (List.getElem?_eq_getElem b)
      rw [e, e']
      exact ⟨er_nonneg (fun j' h1 h2 => (ih j' (by omega) h2).1) 5 _ o, wr_pos (fun j' h1 h2 => (ih j' (by omega) h2).2) 5 _ o⟩
  cases e : ps with
  | nil => rw [e] at hl; cases hl
  | cons s r =>
    rw [← e]
    have e0 : ps[0]? = some s := by rw [e]; rfl
    obtain ⟨q1, _, _, _, q5, q6⟩ := t 0 s e0
    have := cn_le (fun j s e => hp j s e) (fun j hj => (h0 _ j (Nat.le_refl _) hj).1) (fun j hj => (h0 _ j (Nat.le_refl _) hj).2) 30 _ 5 s (hp 0 s e0).1
    rw [show watchP ps = wt ps 30 s false none 0 by rw [e]; rfl, wt_len]
    omega
def spWatches1 (C : Addr) (ps : List Sch) : Sp := fun vs H Q _ => ∃ (pa : Addr) (pv : List V), vs = [.ref pa] ∧ H pa = some (.tup pv) ∧ Paired (SAt H 5) ps pv ∧ PaperOk ps ∧ ∀ (f : Addr) (H' : Hp) (ys : List V), Same H H' → H f = none → H' f = some (.lst ys) → Paired (WatchAt C H') (watchP ps) ys → Q (.ref f) H'
section
variable {P : Program} {w : World} {K : PySem.W.Frag} {mg : Str → Option Value} {base : Heap} {C : Addr}
theorem ok_add_watches {ps : List Sch} (hp : ∀ (j : Nat) (s : Sch), ps[j]? = some s → OkS j ps.length 5 s) (T : PTx w K mg) (Y : TCls K mg C) (D : DAW K mg) : ∀ k : Nat, FnOk P w K mg base CX0 (k + 3) D.D.f D.D.fd psAW (spAddW C ps ps.length k)
  | 0 => by
    have e : spAddW C ps ps.length 0 = fun _ _ _ _ => False := by
      funext vs H Q E
      refine propext ⟨fun h => ?_, fun h => h.elim⟩
      obtain ⟨l, pa, v, wp, s, i, d, c, g, W, xs, _, _, _, ho, hk, _⟩ := h
      have : d = 0 := by omega
      subst this
      cases ho
    rw [e]
    exact no_sp
  | k + 1 => add_turn rfl hp T Y D (ok_add_watches hp T Y D k)
theorem ok_watches_of (ps : List Sch) (T : PTx w K mg) (Y : TCls K mg C) (D : DAW K mg) (DO : Def K mg "watches_of" s_watches_of ["paper"]) : FnOk P w K mg base CX0 34 DO.f DO.fd ["paper"] (spWatches1 C ps) := by
  have nd := sc_watches_of.nd
  obtain ⟨tr, gr⟩ := T.right
  refine DO.ok sc_watches_of (fun vs H Q E h => ?_) (fun cdv A outer s H vs Q E hr h => ?_)
  · obtain ⟨pa, pv, rfl, _⟩ := h
    rfl
  obtain ⟨pa, pv0, rfl, epv, pp, hP, q⟩ := h
  obtain ⟨ce, hp, _⟩ := hP.facts
  have hp : ∀ (j : Nat) (s : Sch), ps[j]? = some s → OkS j ps.length 5 s := fun j s e => (hp j s e).1
  have G : FnOk P w K mg base CX0 33 D.D.f D.D.fd psAW (spAddW C ps ps.length 30) := ok_add_watches hp T Y D 30
  refine ⟨_, pss_cons (ps_set (i := 1) nd rfl (Or.inl rfl) (pe_lst pa_nil))
    (pss_cons (ps_expr (pcall D.D G hr (pa_cons (pv 1) (pa_cons (pv 0) (pa_cons (pe_ix ix_tup (pv 0) pe_int (fun _ _ => rfl)) (pa_cons (pe_tup (pa_cons (pe_glob rfl gr (v := .str "r") ⟨_, rfl⟩) pa_nil)) (pa_cons pe_non pa_nil)))))))
    (pss_one (ps_ret (pv 1)))), ?_⟩
  have hPl := hP.1
  have hP5 := hP.2.1
  cases e : ps with
  | nil => rw [e] at hPl; cases hPl
  | cons s0 r =>
  have e0 : ps[0]? = some s0 := by rw [e]; rfl
  rw [← e]
  obtain ⟨v0, ev0, hs0⟩ := paired_get2 pp e0
  refine ⟨Nat.zero_le _, fun f hf => ?_⟩
  have s1 : Same H (upd H f (.lst [])) := Same.new hf
  dsimp only [gName]
  refine ⟨_, rfl, _, rfl, _, rfl, pa, pv0, 0, v0, rfl, rfl, SqT.of (s1 _ _ epv), atI_nat (j := 0) ev0, (by show 1 ≤ sizeLine; decide), fun t ht => ?_⟩
  have s2 := s1.trans (Same.new (o := .tup [.str "r"]) ht)
  have ef2 : upd (upd H f (.lst [])) t (.tup [.str "r"]) f = some (.lst []) := Same.new ht _ _ upd_same
  have hc : (watchP ps).length ≤ 10 := watch_few hP
  rw [show watchP ps = wt ps 30 s0 false none 0 by rw [e]; rfl, wt_len] at hc
  refine ⟨f, pa, v0, t, s0, 0, 5, false, none, [], [], rfl, ⟨pv0, s2 _ _ epv, paired_imp pp fun _ _ => SAt.keep (Same.tupK s2) _ _ _⟩, SAt.keep (Same.tupK s2) _ _ _ hs0, hp 0 s0 e0, by omega, upd_same, ef2, .nil, by show 0 + _ ≤ _; omega, fun H' ys k el pw => ?_⟩
  refine ⟨_, rfl, q f H' ys (fun b o eb => k _ _ (s2 _ _ eb) fun hm => ?_) hf el ?_⟩
  · rw [List.mem_singleton.mp hm, hf] at eb
    cases eb
  · rw [show watchP ps = wt ps 30 s0 false none 0 by rw [e]; rfl]
    exact pw
end
end MS
end
section
set_option maxRecDepth 100000
set_option maxHeartbeats 4000000
namespace MS
open PySem L2
/-! ### state_behind, state_of -/
abbrev s_state_behind : Stmt := topS 49
abbrev psSB : List Str := ["watches", "state", "step"]
abbrev nmSB : List Str := ["watches", "state", "step", "went_wrong", "on", "now", "watch", "was_on", "looks"]
theorem sc_state_behind : FnScope nmSB psSB (defScope s_state_behind) := ⟨rfl, rfl, rfl, by decide +kernel, rfl, by decide +kernel, by decide +kernel⟩
abbrev s_state_of : Stmt := topS 50
abbrev nmSO : List Str := ["watches", "work", "state", "step"]
theorem sc_state_of : FnScope nmSO ["watches", "work"] (defScope s_state_of) := ⟨rfl, rfl, rfl, by decide +kernel, rfl, by decide +kernel, by decide +kernel⟩
/-- a state stands in the heap -/
def StAt (H : Hp) (s : StT) (v : V) : Prop := ∃ a b, v = .ref a ∧ H a = some (.tup [.bl s.1, .ref b]) ∧ H b = some (.tup (s.2.map V.bl))
theorem StAt.keep {H H' : Hp} {s : StT} {v : V} (h : StAt H s v) (k : TupK H H') : StAt H' s v := by
  obtain ⟨a, b, e, h1, h2⟩ := h
  exact ⟨a, b, e, k _ _ h1, k _ _ h2⟩
/-- every gate is one of the watches -/
def GatesOk (W : List Wt) : Prop := ∀ w ∈ W, ∀ j, w.g = some j → j < W.length
def spBehindS (C : Addr) : Sp := fun vs H Q _ => ∃ (l : Addr) (v : V) (W : List Wt) (xs : List V) (st : StT) (p : StepT), vs = [.ref l, v, .str (stepS p)] ∧ H l = some (.lst xs) ∧ Paired (WatchAt C H) W xs ∧ GatesOk W ∧ W.length ≤ 100 ∧ StAt H st v ∧ st.2.length = W.length ∧ IsStep p ∧
  ∀ (H' : Hp) (v' : V), Same H H' → StAt H' (stB W st p) v' → (∀ a, v' = .ref a → H a = none) → Q v' H'
section
variable {P : Program} {w : World} {K : PySem.W.Frag} {mg : Str → Option Value} {base : Heap} {C : Addr}
theorem ok_state_behind (T : PTx w K mg) (Y : TCls K mg C) (D : Def K mg "state_behind" s_state_behind psSB) : FnOk P w K mg base CX0 2 D.f D.fd psSB (spBehindS C) := by
  have GO : FnOk P w K mg base CX0 1 Y.DO.f Y.DO.fd psWO (spIsOn C) := ok_is_on Y
  have mt : mg "tuple" = none := T.free "tuple" (by decide +kernel)
  have mz : mg "zip" = none := T.free "zip" (by decide +kernel)
  obtain ⟨tw, gw⟩ := T.wrong
  have nd := sc_state_behind.nd
  refine D.ok sc_state_behind (fun vs H Q E h => ?_) (fun cdv A outer s H vs Q E hr h => ?_)
  · obtain ⟨l, v, W, xs, st, p, rfl, _⟩ := h
    rfl
  obtain ⟨l, v, W, xs, st, p, rfl, el, pw, hg, h100, ⟨a, b, rfl, ea, eb⟩, hlen, hp, q⟩ := h
  refine ⟨_, pss_cons (ps_asg (pv 1) (pg_tup (by rfl) (pgs_cons (pg_name (i := 3) nd rfl (Or.inl rfl)) (pgs_cons (pg_name (i := 4) nd rfl (Or.inl rfl)) pgs_nil))))
    (pss_cons (ps_set (i := 5) nd rfl (Or.inl rfl) (pe_lst pa_nil))
    (pss_cons (ps_for PassesOwn.never rfl (pi_zipM rfl mz (pa_cons (pv 0) (pa_cons (pv 4) pa_nil))) (pg_tup (by rfl) (pgs_cons (pg_name (i := 6) nd rfl (Or.inl rfl)) (pgs_cons (pg_name (i := 7) nd rfl (Or.inl rfl)) pgs_nil)))
      (pss_cons (ps_set (i := 8) nd rfl (Or.inl rfl) (pe_or (pe_cmpR op_isN (pe_fld (pv 6) rfl) pe_non (nomark _)) (pe_one (pe_ix ix_tup (pv 4) (pe_fld (pv 6) rfl) (fun _ _ => rfl)))))
      (pss_one (ps_expr (pe_bm PySem.F.plainAttrs_list PySem.F.slot_list_append PySem.F.type_list_append mt_append (pv 5) (pa_cons (pe_meth (pv 6) Y.cl Y.DO.me GO hr Y.DO.b .nil pass0 (pa_cons (pv 7) (pa_cons (pv 8) (pa_cons (pv 2) pa_nil)))) pa_nil))))))
    (pss_one (ps_ret (pe_tup (pa_cons (pe_or (pv 3) (pe_one (pe_cmpR op_eq (pe_ix ix_str (pv 2) pe_int (fun _ _ => rfl)) (pe_glob rfl gw (v := .str "w") ⟨_, rfl⟩) (nomark _)))) (pa_cons (pe_callTy call_tuple_of rfl mt (by decide +kernel) (pa_cons (pv 5) pa_nil)) pa_nil))))))), ?_⟩
  have hlW := Paired.length pw
  refine ⟨_, rfl, a, _, rfl, SqT.of ea, rfl, _, _, rfl, _, _, rfl, rfl, Nat.zero_le _, fun f hf => ?_⟩
  have s1 : Same H (upd H f (.lst [])) := Same.new hf
  have hz : (List.zipWith (stepF st.2 p) W st.2).length = W.length := by rw [List.length_zipWith, hlen, Nat.min_self]
  dsimp only [gName]
  refine ⟨_, rfl, _, rfl, l, b, xs, _, rfl, SqL.of (s1 _ _ el), SqT.of (s1 _ _ eb), for_it (walk_zipM (K := K) (a := l) (b := b) (xs := xs) (ys := st.2.map V.bl) (n := W.length) (by rw [List.length_map]; omega)) (fun i σ H' => ∃ v6 v7 v8 : Option V, σ = [some (.ref l), some (.ref a), some (.str (stepS p)), some (.bl st.1), some (.ref b), some (.ref f), v6, v7, v8] ∧ H' f = some (.lst (((List.zipWith (stepF st.2 p) W st.2).take i).map V.bl)) ∧ Same H H')
    ⟨none, none, none, rfl, upd_same, s1⟩ (fun i σ H' _ ⟨_, _, _, _, _, s⟩ => ⟨SqL.of (s _ _ el), SqT.of (s _ _ eb)⟩) ?_ ?_⟩
  · rintro i x σ H1 H2 hi ⟨v6, v7, v8, rfl, ef, s2⟩ ⟨T1, x1, x2, rfl, hT1, rfl, ex1, ex2⟩
    have ex1 : xs[i]? = some x1 := ex1
    have ex2 : (st.2.map V.bl)[i]? = some x2 := ex2
    obtain ⟨w', ew, hw⟩ := paired_get' pw ex1
    rw [List.getElem?_map] at ex2
    obtain ⟨bb, eb', rfl⟩ := Option.map_eq_some_iff.mp ex2
    have s3 := s2.trans (Same.new (o := .tup [x1, .bl bb]) hT1)
    have ef3 : upd H1 T1 (.tup [x1, .bl bb]) f = some (.lst (((List.zipWith (stepF st.2 p) W st.2).take i).map V.bl)) := Same.new hT1 _ _ ef
    obtain ⟨aw, dx, wp, rfl, hw1, hw2⟩ := hw.same s3
    refine ⟨T1, _, rfl, SqT.of upd_same, rfl, _, _, rfl, _, _, rfl, rfl, ?_⟩
    generalize upd H1 T1 (.tup [.ref aw, .bl bb]) = H3 at *
    dsimp only [gName]
    refine set0 (v := .bl (looksB st.2 w'.g)) (fun Q q => ?_) ?_
    · refine or0 (b := w'.g.isNone) (c := looksB st.2 w'.g) (fun Q q => ?_) (fun hb Q q => ?_) Q ?_
      · refine ⟨_, rfl, aw, C, dx, _, _, rfl, hw1, Y.cl, Y.nGate, tf_gate _ _ _ _, rfl, ?_⟩
        cases eg : w'.g with
        | none => rw [eg] at q; rw [decide_eq_true (show gateV none = V.non from rfl)]; exact q
        | some j => rw [eg] at q; rw [decide_eq_false (show ¬ gateV (some j) = V.non from fun z => nomatch z)]; exact q
      · cases eg : w'.g with
        | none => rw [eg] at hb; cases hb
        | some j =>
          rw [eg] at q hw1
          have hj := hg w' (List.mem_of_getElem? ew) j eg
          have ej : st.2[j]? = some (st.2[j]'(by omega)) := List.getElem?_eq_getElem (by omega)
          refine ⟨_, rfl, _, rfl, aw, C, dx, _, _, rfl, hw1, Y.cl, Y.nGate, tf_gate _ _ _ _, b, _, _, _, rfl, rfl, SqT.of (s3 _ _ eb), atI_nat (by rw [List.getElem?_map, ej]; rfl), ?_⟩
          have : looksB st.2 (some j) = st.2[j]'(by omega) := by
            show st.2.getD j false = _
            rw [List.getD_eq_getElem?_getD, ej]
            rfl
          rw [this] at q
          exact q
      · cases eg : w'.g with
        | none => rw [eg] at q; exact q
        | some j => rw [eg] at q; exact q
    · refine ⟨_, rfl, .inl ⟨rfl, _, SqL.of ef3⟩, _, rfl, aw, dx, _, rfl, hw1, tf_is_on _ _ _ _, _, rfl, _, rfl, _, rfl, .ref aw, w', bb, looksB st.2 w'.g, p, rfl, ⟨aw, dx, wp, rfl, hw1, hw2⟩, hp, ?_⟩
      refine ⟨f, _, _, rfl, rfl, ef3, szN (by rw [List.length_map, List.length_take]; omega), ?_⟩
      refine ⟨_, _, _, rfl, ?_, Same.newer s3 hf⟩
      have et : (List.zipWith (stepF st.2 p) W st.2).take (i + 1) = (List.zipWith (stepF st.2 p) W st.2).take i ++ [stepF st.2 p w' bb] := by
        rw [List.take_succ, List.getElem?_zipWith, ew, eb']
        rfl
      rw [upd_same, et, List.map_append]
      rfl
  · rintro σ H1 ⟨v6, v7, v8, rfl, ef, s2⟩
    rw [← hz, List.take_length] at ef
    obtain ⟨c1, e1, x1⟩ := hp.at1
    dsimp only [tRet, tTup, tCons]
    refine or0 (b := st.1) (c := p.2 == "w") (fun Q q => ⟨_, rfl, q⟩) (fun _ Q q => ?_) _ ?_
    · refine ⟨_, rfl, _, 1, c1, rfl, rfl, str_len2 hp.len, e1, ?_⟩
      rw [x1]
      refine ⟨rfl, ?_⟩
      rw [dec_str]
      exact q
    · refine ⟨_, rfl, f, _, rfl, .inl ⟨SqL.of ef, fun t ht => ⟨sz2, fun u hu => ?_⟩⟩⟩
      have s4 := s2.trans (Same.new (o := .tup ((List.zipWith (stepF st.2 p) W st.2).map V.bl)) ht)
      have s5 := s4.trans (Same.new (o := .tup [.bl (st.1 || p.2 == "w"), .ref t]) hu)
      exact q _ _ s5 ⟨u, t, rfl, upd_same, Same.new hu _ _ upd_same⟩ fun a' e => by cases e; exact s4.free hu
end
theorem cn_pos {ps : List Sch} {M : Nat} (hM : ps.length = M) (hp : ∀ (j : Nat) (s : Sch), ps[j]? = some s → OkS j M 5 s) : ∀ (k i d : Nat) (s : Sch), OkS i M d s → (M - i) * 5 + d ≤ k → 1 ≤ cn ps k s
  | k, i, 0, s, o, h => by cases o
  | 0, i, d + 1, s, o, h => by omega
  | k + 1, i, d + 1, .step x p, o, h => by show 1 ≤ 1 + 0; decide
  | k + 1, i, d + 1, .all ks, o, h => by
    cases e : ks with
    | nil => rw [e] at o; exact absurd o.1 (by decide)
    | cons s r =>
      rw [e] at o
      have := cn_pos hM hp k i d s (o.2.2 s List.mem_cons_self) (by omega)
      show 1 ≤ 0 + (cn ps k s + (r.map (cn ps k)).sum)
      omega
  | k + 1, i, d + 1, .best ks, o, h => by
    cases e : ks with
    | nil => rw [e] at o; exact absurd o.1 (by decide)
    | cons s r =>
      rw [e] at o
      have := cn_pos hM hp k i d s (o.2.2 s List.mem_cons_self) (by omega)
      show 1 ≤ 0 + (cn ps k s + (r.map (cn ps k)).sum)
      omega
  | k + 1, i, d + 1, .most n s, o, h => by
    have := cn_pos hM hp k i d s o.2 (by omega)
    show 1 ≤ 0 + (cn ps k s + 0)
    omega
  | k + 1, i, d + 1, .half s, o, h => by
    have := cn_pos hM hp k i d s o (by omega)
    show 1 ≤ 0 + (cn ps k s + 0)
    omega
  | k + 1, i, d + 1, .carry s, o, h => by
    have := cn_pos hM hp k i d s o (by omega)
    show 1 ≤ 0 + (cn ps k s + 0)
    omega
  | k + 1, i, d + 1, .seen x s, o, h => by
    show 1 ≤ 1 + _
    omega
  | k + 1, i, d + 1, .behind x s, o, h => by
    show 1 ≤ 1 + _
    omega
  | k + 1, i, d + 1, .fin x p s, o, h => by
    show 1 ≤ 1 + _
    omega
  | k + 1, i, d + 1, .use n, o, h => by
    have o : i < n ∧ n < M := o
    have en : ps[n]? = some (ps[n]'(by omega)) := List.getElem?_eq_getElem (by omega)
    have := cn_pos hM hp k n 5 _ (hp n _ en) (by omega)
    show 1 ≤ 0 + (((ps[n]?).toList).map (cn ps k)).sum
    rw [en]
    show 1 ≤ 0 + (cn ps k _ + 0)
    omega
theorem watch_some {ps : List Sch} (h : PaperOk ps) : 1 ≤ (watchP ps).length := by
  obtain ⟨ce, hp, _⟩ := h.facts
  have hl := h.1
  have h5 := h.2.1
  cases e : ps with
  | nil => rw [e] at hl; cases hl
  | cons s r =>
    rw [← e]
    have e0 : ps[0]? = some s := by rw [e]; rfl
    rw [show watchP ps = wt ps 30 s false none 0 by rw [e]; rfl, wt_len]
    exact cn_pos rfl (fun j s e => (hp j s e).1) 30 0 5 s (hp 0 s e0).1 (by omega)
/-- gates stand ahead -/
theorem wtAll_gates {f : Sch → Nat → List Wt} {m : Sch → Nat} {T : Nat} : ∀ (ks : List Sch) (n : Nat), (∀ s ∈ ks, ∀ n, (f s n).length = m s) → n + (ks.map m).sum ≤ T → (∀ s ∈ ks, ∀ n', n ≤ n' → n' + m s ≤ T → ∀ w ∈ f s n', ∀ j, w.g = some j → j < T) → ∀ w ∈ wtAll f ks n, ∀ j, w.g = some j → j < T
  | [], _, _, _, _, w, hw, _, _ => nomatch hw
  | s :: r, n, hl, ht, h, w, hw, j, e => by
    have ht : n + (m s + (r.map m).sum) ≤ T := ht
    rcases List.mem_append.mp hw with hw | hw
    · exact h s List.mem_cons_self n (Nat.le_refl _) (by omega) w hw j e
    · refine wtAll_gates r _ (fun s hs => hl s (List.mem_cons_of_mem _ hs)) (by rw [hl s List.mem_cons_self]; omega) (fun s hs n' h1 h2 => h s (List.mem_cons_of_mem _ hs) n' (by omega) h2) w hw j e
theorem wt_gates {ps : List Sch} {T : Nat} : ∀ (k : Nat) (s : Sch) (c : Bool) (g : Option Nat) (n : Nat), (∀ j, g = some j → j < T) → n + cn ps k s ≤ T → ∀ w ∈ wt ps k s c g n, ∀ j, w.g = some j → j < T
  | 0, _, _, _, _, _, _, w, hw, _, _ => nomatch hw
  | k + 1, s, c, g, n, hg, ht, w, hw, j, e => by
    have ht : n + (ownN s + ((partsOf ps s).map (cn ps k)).sum) ≤ T := ht
    have hi : ∀ j, gateIn s g n = some j → j < T := fun j e => by
      cases s with
      | behind x s' =>
        cases e
        have : ownN (.behind x s') = 1 := rfl
        omega
      | _ => exact hg j e
    rcases List.mem_append.mp hw with hw | hw
    · have : w.g = g := by
        cases s with
        | step x q => rw [List.mem_singleton.mp hw]
        | seen x q => rw [List.mem_singleton.mp hw]
        | behind x q => rw [List.mem_singleton.mp hw]
        | fin x q s => rw [List.mem_singleton.mp hw]
        | _ => exact nomatch hw
      exact hg j (this ▸ e)
    · exact wtAll_gates (m := cn ps k) _ _ (fun s' _ n' => wt_len k s' _ _ n') (by rw [ownT_len]; omega) (fun s' _ n' _ h2 => wt_gates k s' _ _ n' hi h2) w hw j e
theorem watch_gates (ps : List Sch) : GatesOk (watchP ps) := fun w hw j e => by
  cases eps : ps with
  | nil => rw [eps] at hw; cases hw
  | cons s r =>
    rw [← eps]
    rw [show watchP ps = wt ps 30 s false none 0 by rw [eps]; rfl] at hw ⊢
    exact wt_gates 30 s false none 0 (fun j h => nomatch h) (by rw [wt_len]; omega) w hw j e
/-- the watches of a paper stand in a list -/
def WsAt (C : Addr) (H : Hp) (ps : List Sch) (l : Addr) : Prop := ∃ xs, H l = some (.lst xs) ∧ Paired (WatchAt C H) (watchP ps) xs
theorem WsAt.same {C l : Addr} {H H' : Hp} {ps : List Sch} (h : WsAt C H ps l) (s : Same H H') : WsAt C H' ps l := by
  obtain ⟨xs, h1, h2⟩ := h
  exact ⟨xs, s _ _ h1, paired_imp h2 fun _ _ z => z.same s⟩
theorem flat_ones {α : Type} (x : α) : ∀ n : Nat, (List.replicate n [x]).flatten = List.replicate n x
  | 0 => rfl
  | n + 1 => by
    rw [List.replicate_succ, List.replicate_succ, List.flatten_cons, flat_ones x n]
    rfl
def spStateOf (C : Addr) (ps : List Sch) (ws : List StepT) : Sp := fun vs H Q _ => ∃ (l wa : Addr), vs = [.ref l, .ref wa] ∧ WsAt C H ps l ∧ PaperOk ps ∧ H wa = some (.lst (stepsV ws)) ∧ (∀ p ∈ ws, IsStep p) ∧
  ∀ (H' : Hp) (v' : V), Same H H' → StAt H' (runS (watchP ps) ws) v' → (∀ a, v' = .ref a → H a = none) → Q v' H'
section
variable {P : Program} {w : World} {K : PySem.W.Frag} {mg : Str → Option Value} {base : Heap} {C : Addr}
theorem ok_state_of (ps : List Sch) (ws : List StepT) (T : PTx w K mg) (Y : TCls K mg C) (D : Def K mg "state_of" s_state_of ["watches", "work"]) (DB : Def K mg "state_behind" s_state_behind psSB) : FnOk P w K mg base CX0 3 D.f D.fd ["watches", "work"] (spStateOf C ps ws) := by
  have GB : FnOk P w K mg base CX0 2 DB.f DB.fd psSB (spBehindS C) := ok_state_behind T Y DB
  have ml : mg "len" = none := T.free "len" (by decide +kernel)
  have nd := sc_state_of.nd
  refine D.ok sc_state_of (fun vs H Q E h => ?_) (fun cdv A outer s H vs Q E hr h => ?_)
  · obtain ⟨l, wa, rfl, _⟩ := h
    rfl
  obtain ⟨l, wa, rfl, hws, hP, ewa, hst, q⟩ := h
  refine ⟨_, pss_cons (ps_set (i := 2) nd rfl (Or.inl rfl) (pe_tup (pa_cons pe_bl (pa_cons (pe_op op_repTA (pe_tup (pa_cons pe_bl pa_nil)) (pe_callB call_len_seq rfl ml PySem.boot_len (pa_cons (pv 0) pa_nil))) pa_nil))))
    (pss_cons (ps_for PassesOwn.never rfl (pi_list (pv 1)) (pg_name (i := 3) nd rfl (Or.inl rfl))
      (pss_one (ps_set (i := 2) nd rfl (Or.inl rfl) (pcall DB GB hr (pa_cons (pv 0) (pa_cons (pv 2) (pa_cons (pv 3) pa_nil)))))))
    (pss_one (ps_ret (pv 2)))), ?_⟩
  obtain ⟨xs, el, pw⟩ := id hws
  have hlW := Paired.length pw
  have h1 := watch_some hP
  have h10 := watch_few hP
  refine setR (fun v H' => Same H H' ∧ StAt H' (st0 (watchP ps)) v ∧ ∀ a, v = .ref a → H a = none) (fun Q q => ?_) ?_
  · refine ⟨(by show 1 ≤ sizeLine; decide), fun t1 ht1 => ⟨_, rfl, l, xs, rfl, .inl (SqL.of (Same.new ht1 _ _ el)), ?_⟩⟩
    have s1 : Same H (upd H t1 (.tup [.bl false])) := Same.new ht1
    by_cases e : (watchP ps).length = 1
    · refine .inl ⟨t1, _, rfl, by rw [← hlW, e]; rfl, SqT.of upd_same, sz2, fun t2 ht2 => ?_⟩
      exact q _ _ ⟨s1.trans (Same.new ht2), ⟨t2, t1, rfl, upd_same, by
        rw [Same.new ht2 _ _ upd_same]
        show some (HO.tup _) = some (HO.tup ((List.replicate (watchP ps).length false).map V.bl))
        rw [e]
        rfl⟩, fun a e => by cases e; exact s1.free ht2⟩
    · refine .inr ⟨t1, ((xs.length : Nat) : Int), _, rfl, rfl, SqT.of upd_same, by simp, by omega, by omega, by show 1 ≤ 1000; decide, fun t3 ht3 => ⟨sz2, fun t2 ht2 => ?_⟩⟩
      have s2 := s1.trans (Same.new (o := .tup (List.replicate ((xs.length : Nat) : Int).toNat [V.bl false]).flatten) ht3)
      refine q _ _ ⟨s2.trans (Same.new ht2), ⟨t2, t3, rfl, upd_same, ?_⟩, fun a e => by cases e; exact s2.free ht2⟩
      rw [Same.new ht2 _ _ upd_same]
      show some (HO.tup _) = some (HO.tup ((List.replicate (watchP ps).length false).map V.bl))
      rw [List.map_replicate, hlW, show ((xs.length : Nat) : Int).toNat = xs.length by omega]
      rw [flat_ones]
  rintro v1 H1 ⟨s1, hv1, hn1⟩
  dsimp only [gName]
  have hlw : (stepsV ws).length = ws.length := List.length_map _
  refine ⟨_, rfl, wa, rfl, ⟨_, SqL.of (s1 _ _ ewa)⟩, for_list (K := K) (a := wa) (xs := stepsV ws) (fun j σ H' => ∃ (v2 : V) (v3 : Option V), σ = [some (.ref l), some (.ref wa), some v2, v3] ∧ Same H H' ∧ StAt H' (runS (watchP ps) (ws.take j)) v2 ∧ ∀ a, v2 = .ref a → H a = none)
    ⟨v1, none, rfl, s1, hv1, hn1⟩ (fun j σ H' _ ⟨_, _, _, s, _⟩ => SqL.of (s _ _ ewa)) ?_ ?_⟩
  · rintro j x σ H' hj ⟨v2, v3, rfl, s2, hv2, hn2⟩
    have hjl : j < ws.length := by
      have z := (List.getElem?_eq_some_iff.mp hj).1
      rw [hlw] at z
      exact z
    have ex : x = V.str (stepS (ws[j]'hjl)) := by
      have z := get_map (fun p => V.str (stepS p)) ws hjl
      exact Option.some.inj (hj.symm.trans z)
    subst ex
    dsimp only [gName]
    refine ⟨_, rfl, _, rfl, _, rfl, l, v2, watchP ps, xs, _, ws[j]'hjl, rfl, s2 _ _ el, paired_imp pw fun _ _ z => z.same s2, watch_gates ps, by omega, hv2, runS_len _, hst _ (List.getElem_mem hjl), fun H3 v4 s3 hv4 hn4 => ?_⟩
    refine ⟨v4, _, rfl, s2.trans s3, ?_, fun a e => s2.free (hn4 a e)⟩
    rw [List.take_succ, List.getElem?_eq_getElem hjl]
    show StAt H3 (runS (watchP ps) (ws.take j ++ [ws[j]])) v4
    rw [runS_snoc]
    exact hv4
  · rintro σ H' ⟨v2, v3, rfl, s2, hv2, hn2⟩
    rw [hlw, List.take_length] at hv2
    exact ⟨_, rfl, q H' v2 s2 hv2 hn2⟩
end
end MS
end
section
set_option maxRecDepth 100000
set_option maxHeartbeats 4000000
namespace MS
open PySem L2
/-! ### steps_of, may_come -/
abbrev s_steps_of : Stmt := topS 51
theorem sc_steps_of : FnScope ["words", "word", "way"] ["words"] (defScope s_steps_of) := ⟨rfl, rfl, rfl, by decide +kernel, rfl, by decide +kernel, by decide +kernel⟩
abbrev s_may_come : Stmt := topS 52
theorem sc_may_come : FnScope ["state", "step"] ["state", "step"] (defScope s_may_come) := ⟨rfl, rfl, rfl, by decide +kernel, rfl, by decide +kernel, by decide +kernel⟩
def mayB (s : StT) (p : StepT) : Bool := s.1 || !(p.2 == "c")
def spMayCome : Sp := fun vs H Q _ => ∃ (v : V) (st : StT) (p : StepT), vs = [v, .str (stepS p)] ∧ StAt H st v ∧ IsStep p ∧ Q (.bl (mayB st p)) H
/-- the steps of words, in the order of their texts -/
def three (z : Str) : List StepT := [(z, "c"), (z, "r"), (z, "w")]
def stepsOf (F : List Str) : List StepT := F.flatMap three
abbrev ltT (p q : StepT) : Prop := Spec.ltCps (stepS p).cps.toList (stepS q).cps.toList = true
/-- every step there is, in turn -/
def allSteps : List StepT := stepsOf wordsL
theorem le_lt {a b : Str} : Spec.ltCps b.cps.toList a.cps.toList = false ↔ a.cps.toList ≤ b.cps.toList := by
  rw [PyProof.Rows.ltCps_eq, decide_eq_false_iff_not, List.not_lt]
theorem str_ext {a b : Str} (h : a.cps.toList = b.cps.toList) : a = b := by
  obtain ⟨x⟩ := a
  obtain ⟨y⟩ := b
  congr 1
  exact Array.toList_inj.mp h
theorem rising_all : ∀ (r : List Str) (p : Str), PyProof.Rows.risingS p r = true → (∀ y ∈ r, p.cps.toList ≤ y.cps.toList) ∧ r.Pairwise fun a b => a.cps.toList ≤ b.cps.toList
  | [], _, _ => ⟨(fun _ h => nomatch h), List.Pairwise.nil⟩
  | x :: r, p, h => by
    have h' : (!Spec.ltCps x.cps.toList p.cps.toList && PyProof.Rows.risingS x r) = true := h
    rw [Bool.and_eq_true, Bool.not_eq_true'] at h'
    have h0 := le_lt.mp h'.1
    obtain ⟨h1, h2⟩ := rising_all r x h'.2
    refine ⟨fun y hy => ?_, List.pairwise_cons.mpr ⟨h1, h2⟩⟩
    rcases List.mem_cons.mp hy with rfl | hy
    · exact h0
    · exact List.le_trans h0 (h1 y hy)
/-- texts in rising order are so in one way alone -/
theorem sorted_one {ys xs : List Str} (hs : PyProof.Rows.sortedS ys = true) (hx : PyProof.Rows.sortedS xs = true) (pm : ys.Perm xs) : ys = xs := by
  have all : ∀ zs : List Str, PyProof.Rows.sortedS zs = true → zs.Pairwise fun a b => a.cps.toList ≤ b.cps.toList := fun zs h => by
    cases zs with
    | nil => exact List.Pairwise.nil
    | cons x r =>
      obtain ⟨a, b⟩ := rising_all r x h
      exact List.pairwise_cons.mpr ⟨a, b⟩
  exact List.Perm.eq_of_pairwise (fun a b _ _ h1 h2 => str_ext (List.le_antisymm h1 h2)) (all ys hs) (all xs hx) pm
theorem steps_sorted : PyProof.Rows.sortedS (allSteps.map stepS) = true := by decide +kernel
def spStepsOf : Sp := fun vs H Q _ => ∃ (a : Addr), vs = [.ref a] ∧ (∃ K : PySem.W.Frag, ∀ H', SqT K H' a (wordsL.map V.str)) ∧
  ∀ (f : Addr) (H' : Hp), Same H H' → H f = none → H' f = some (.lst (allSteps.map fun p => V.str (stepS p))) → Q (.ref f) H'
theorem stepsOf_snoc (F : List Str) (x : Str) : stepsOf (F ++ [x]) = stepsOf F ++ three x := by
  unfold stepsOf
  rw [List.flatMap_append, List.flatMap_singleton]
theorem stepsOf_len : ∀ F : List Str, (stepsOf F).length = 3 * F.length
  | [] => rfl
  | x :: r => by
    have := stepsOf_len r
    show (stepsOf r).length + 1 + 1 + 1 = 3 * (r.length + 1)
    omega
section
variable {P : Program} {w : World} {K : PySem.W.Frag} {mg : Str → Option Value} {base : Heap} {C : Addr}
theorem ok_may_come (T : PTx w K mg) (D : Def K mg "may_come" s_may_come ["state", "step"]) : FnOk P w K mg base CX0 1 D.f D.fd ["state", "step"] spMayCome := by
  obtain ⟨tc, gc⟩ := T.carried
  have nd := sc_may_come.nd
  refine D.ok sc_may_come (fun vs H Q E h => ?_) (fun cdv A outer s H vs Q E hr h => ?_)
  · obtain ⟨v, st, p, rfl, _⟩ := h
    rfl
  obtain ⟨v, st, p, rfl, ⟨a, b, rfl, ea, eb⟩, hp, q⟩ := h
  refine ⟨_, pss_one (ps_ret (pe_or (pe_ix ix_tup (pv 0) pe_int (fun _ _ => rfl)) (pe_one (pe_cmpR op_ne (pe_ix ix_str (pv 1) pe_int (fun _ _ => rfl)) (pe_glob rfl gc (v := .str "c") ⟨_, rfl⟩) (nomark _))))), ?_⟩
  obtain ⟨c1, e1, x1⟩ := hp.at1
  refine or0 (b := st.1) (c := !(p.2 == "c")) (fun Q q => ⟨_, rfl, a, _, 0, .bl st.1, rfl, rfl, SqT.of ea, at0, q⟩) (fun _ Q q => ?_) _ q
  refine ⟨_, rfl, _, 1, c1, rfl, rfl, str_len2 hp.len, e1, ?_⟩
  rw [x1]
  refine ⟨rfl, ?_⟩
  rw [dec_str]
  exact q
theorem ok_steps_of (T : PTx w K mg) (D : Def K mg "steps_of" s_steps_of ["words"]) : FnOk P w K mg base CX0 1 D.f D.fd ["words"] (fun vs H Q _ => ∃ (a : Addr), vs = [.ref a] ∧ (∀ H', SqT K H' a (wordsL.map V.str)) ∧
    ∀ (f : Addr) (H' : Hp), Same H H' → H f = none → H' f = some (.lst (allSteps.map fun p => V.str (stepS p))) → Q (.ref f) H') := by
  have mso : mg "sorted" = none := T.free "sorted" (by decide +kernel)
  obtain ⟨tr, gr⟩ := T.right
  obtain ⟨tw, gw⟩ := T.wrong
  obtain ⟨tc, gc⟩ := T.carried
  have nd := sc_steps_of.nd
  refine D.ok sc_steps_of (fun vs H Q E h => ?_) (fun cdv A outer s H vs Q E hr h => ?_)
  · obtain ⟨a, rfl, _⟩ := h
    rfl
  obtain ⟨a, rfl, hw, q⟩ := h
  refine ⟨_, pss_one (ps_ret (pe_callB cr_sortedS rfl mso (by decide +kernel) (pa_cons
    (pe_lc2 (own := [("word", 1), ("way", 2)]) (vs1 := [2]) (g := gName 1) (wi1 := iTup K (tTup (tCons (tC (.str "c")) (tCons (tC (.str "r")) (tCons (tC (.str "w")) tNil))))) (g1 := gName 2) (tt := tYes) (tt1 := tYes) rfl nd (pi_tup (pv 0))
      (blkOk_by (N := ["words", "word", "way"]) (sc := defScope s_steps_of) (by decide +kernel)) (by intro i hi; rw [List.mem_singleton.mp hi]; decide)
      (fun _ _ _ _ _ => pg_name (i := 1) nd rfl (Or.inl rfl)) (fun _ _ _ _ _ => pts_nil)
      (fun _ _ _ _ _ => pi_tup (pe_tup (pa_cons (pe_glob rfl gc (v := .str "c") ⟨_, rfl⟩) (pa_cons (pe_glob rfl gr (v := .str "r") ⟨_, rfl⟩) (pa_cons (pe_glob rfl gw (v := .str "w") ⟨_, rfl⟩) pa_nil)))))
      (fun _ _ _ _ _ => pg_name (i := 2) nd rfl (Or.inl rfl)) (fun _ _ _ _ _ => pts_nil) (fun _ _ _ _ _ => pe_op op_add_str (pv 1) (pv 2))) pa_nil))), ?_⟩
  refine ⟨_, rfl, a, rfl, ⟨_, hw _⟩, fun D hD => ?_⟩
  have nD : ∀ b o, H b = some o → b ≠ D := fun b o e => ne_of_none e hD
  refine outer_it (walk_tup (K := K) (a := a) (xs := wordsL.map V.str)) (fun i H' => Same H H' ∧ H' D = some (.lst ((stepsOf (wordsL.take i)).map fun p => V.str (stepS p)))) ⟨Same.new hD, upd_same⟩ (fun i H' _ _ => hw H') ?_ ?_
  · rintro i x H1 H2 hi ⟨s1, eD⟩ ⟨rfl, ex⟩
    rw [List.length_map] at hi
    have ew : wordsL[i]? = some (wordsL[i]'hi) := List.getElem?_eq_getElem hi
    have ex' : x = V.str (wordsL[i]'hi) := by
      rw [List.getElem?_map, ew] at ex
      exact (Option.some.inj ex).symm
    subst ex'
    have tk : wordsL.take (i + 1) = wordsL.take i ++ [wordsL[i]'hi] := by
      rw [List.take_succ, ew]
      rfl
    have hl := stepsOf_len (wordsL.take i)
    rw [List.length_take] at hl
    have h8 : wordsL.length = 8 := rfl
    have hzw : IsW (wordsL[i]'hi) := List.getElem_mem hi
    generalize wordsL[i]'hi = z at *
    refine ⟨rfl, szN (by show 3 ≤ 6000; decide), fun t ht => ⟨t, rfl, ⟨_, SqT.of upd_same⟩, ?_⟩⟩
    have et : upd H2 t (.tup [.str "c", .str "r", .str "w"]) t = some (.tup [.str "c", .str "r", .str "w"]) := upd_same
    have eD3 : upd H2 t (.tup [.str "c", .str "r", .str "w"]) D = some (.lst ((stepsOf (wordsL.take i)).map fun p => V.str (stepS p))) := Same.new ht _ _ eD
    have s3 := s1.trans (Same.new (o := .tup [.str "c", .str "r", .str "w"]) ht)
    have ntD : t ≠ D := fun e => by rw [e, eD] at ht; cases ht
    refine inner_it (walk_tup (K := K) (a := t) (xs := [.str "c", .str "r", .str "w"])) (fun j H' => Same H H' ∧ H' t = some (.tup [.str "c", .str "r", .str "w"]) ∧ H' D = some (.lst ((stepsOf (wordsL.take i) ++ (three z).take j).map fun p => V.str (stepS p)))) ⟨s3, et, by rw [List.take_zero, List.append_nil]; exact eD3⟩ (fun j H' _ ⟨_, e, _⟩ => SqT.of e) ?_ ?_
    · rintro j y H4 H5 hj ⟨s4, et4, eD4⟩ ⟨rfl, ey⟩
      obtain ⟨m, em, rfl⟩ : ∃ m : Str, [("c" : Str), "r", "w"][j]? = some m ∧ y = V.str m := by
        have ey : [V.str "c", V.str "r", V.str "w"][j]? = some y := ey
        match j, ey with
        | 0, ey => exact ⟨_, rfl, (Option.some.inj ey).symm⟩
        | 1, ey => exact ⟨_, rfl, (Option.some.inj ey).symm⟩
        | 2, ey => exact ⟨_, rfl, (Option.some.inj ey).symm⟩
        | j + 3, ey => cases ey
      have em3 : (three z)[j]? = some (z, m) := by
        show (([("c" : Str), "r", "w"].map (Prod.mk z)))[j]? = _
        rw [List.getElem?_map, em]
        rfl
      have hz : IsW z := hzw
      have hm : m.length = 1 := by
        have : m ∈ [("c" : Str), "r", "w"] := List.mem_of_getElem? em
        rcases this with _ | ⟨_, _ | ⟨_, _ | ⟨_, h⟩⟩⟩
        · decide
        · decide
        · decide
        · cases h
      refine ⟨rfl, _, rfl, _, rfl, z, m, rfl, rfl, szN (by rw [hz.len, hm]; decide), _, eD4, szN (by
        rw [List.length_map, List.length_append, List.length_take, hl]
        show _ + min j 3 < _
        omega), Same.newer s4 hD, by rw [upd_ne ntD]; exact et4, ?_⟩
      rw [upd_same, List.take_succ, em3, ← List.append_assoc]
      simp only [List.map_append, Option.toList, List.map_cons, List.map_nil]
      rfl
    · rintro H4 ⟨s4, et4, eD4⟩
      refine ⟨s4, ?_⟩
      rw [tk, stepsOf_snoc]
      exact eD4
  · rintro H1 ⟨s1, eD⟩
    rw [List.length_map, List.take_length] at eD
    refine ⟨D, allSteps.map stepS, rfl, SqL.of (by rw [List.map_map]; exact eD), by decide +kernel, fun ys p pm srt hp => ?_⟩
    rw [sorted_one srt steps_sorted pm]
    refine q p _ (s1.trans (Same.new hp)) (s1.free hp) ?_
    rw [upd_same, List.map_map]
    rfl
end
end MS
end
section
set_option maxRecDepth 100000
set_option maxHeartbeats 4000000
namespace MS
open PySem L2
/-! ### states as keys, the dict of their numbers -/
def bNum (b : Bool) : Int := if b = true then 1 else 0
def nkS (s : StT) : NestedKey := .tup [.num (bNum s.1), .tup (s.2.map fun b => .num (bNum b))]
theorem bNum_inj {a b : Bool} (h : bNum a = bNum b) : a = b := by
  revert h
  cases a <;> cases b <;> decide
theorem nums_inj : ∀ x y : List Bool, (x.map fun b => NestedKey.num (bNum b)) = (y.map fun b => NestedKey.num (bNum b)) → x = y
  | [], [], _ => rfl
  | [], _ :: _, h => nomatch h
  | _ :: _, [], h => nomatch h
  | a :: x, b :: y, h => by
    rw [List.map_cons, List.map_cons] at h
    injection h with h1 h2
    injection h1 with h1
    rw [bNum_inj h1, nums_inj x y h2]
theorem nkS_inj {s t : StT} (h : nkS s = nkS t) : s = t := by
  obtain ⟨a, x⟩ := s
  obtain ⟨b, y⟩ := t
  unfold nkS at h
  injection h with h
  injection h with h1 h2
  injection h1 with h1
  injection h2 with h2
  injection h2 with h2
  exact Prod.ext (bNum_inj h1) (nums_inj x y h2)
theorem nk_bools {H : Hp} : ∀ x : List Bool, NKeys H (x.map fun b => NestedKey.num (bNum b)) (x.map V.bl)
  | [] => by
    unfold NKeys
    rfl
  | b :: x => by
    rw [List.map_cons, List.map_cons]
    unfold NKeys
    refine ⟨_, _, rfl, ?_, nk_bools x⟩
    unfold NKey
    exact .inr ⟨b, rfl, rfl⟩
theorem StAt.key {H : Hp} {s : StT} {v : V} (h : StAt H s v) : NKey H (nkS s) v := by
  obtain ⟨a, b, rfl, h1, h2⟩ := h
  unfold nkS NKey
  refine ⟨a, _, rfl, h1, ?_⟩
  unfold NKeys
  refine ⟨_, _, rfl, ?_, ?_⟩
  · unfold NKey
    exact .inr ⟨s.1, rfl, rfl⟩
  · unfold NKeys
    refine ⟨_, _, rfl, ?_, ?_⟩
    · unfold NKey
      exact ⟨b, _, rfl, h2, nk_bools s.2⟩
    · unfold NKeys
      rfl
theorem nk_flat : ∀ x : List Bool, NestedKey.depthAll (x.map fun b => NestedKey.num (bNum b)) ≤ 1
  | [] => by decide
  | b :: x => by
    have := nk_flat x
    rw [List.map_cons]
    simp only [NestedKey.depthAll, NestedKey.depth]
    omega
theorem nk_depth (s : StT) : (nkS s).depth ≤ 8 := by
  have := nk_flat s.2
  unfold nkS
  simp only [NestedKey.depthAll, NestedKey.depth]
  omega
/-- the pairs of the dict: a state and its number -/
def nums : List StT → List Addr → Nat → List NE
  | s :: S, a :: as, i => (nkS s, a, .int ((i : Nat) : Int)) :: nums S as (i + 1)
  | _, _, _ => []
theorem nums_len : ∀ (S : List StT) (as : List Addr) (i : Nat), S.length = as.length → (nums S as i).length = S.length
  | [], [], _, _ => rfl
  | [], _ :: _, _, h => nomatch h
  | _ :: _, [], _, h => nomatch h
  | s :: S, a :: as, i, h => by
    show (nums S as (i + 1)).length + 1 = S.length + 1
    rw [nums_len S as (i + 1) (Nat.succ.inj h)]
theorem nums_app (s : StT) (a : Addr) : ∀ (S : List StT) (as : List Addr) (i : Nat), S.length = as.length → nums (S ++ [s]) (as ++ [a]) i = nums S as i ++ [(nkS s, a, .int ((i + S.length : Nat) : Int))]
  | [], [], i, _ => rfl
  | [], _ :: _, _, h => nomatch h
  | _ :: _, [], _, h => nomatch h
  | t :: S, b :: as, i, h => by
    show _ :: nums (S ++ [s]) (as ++ [a]) (i + 1) = _ :: (nums S as (i + 1) ++ _)
    rw [nums_app s a S as (i + 1) (Nat.succ.inj h)]
    rw [show i + 1 + S.length = i + (t :: S).length by show _ = i + (S.length + 1); omega]
theorem nums_none (s : StT) : ∀ (S : List StT) (as : List Addr) (i : Nat), s ∉ S → valN (nums S as i) (nkS s) = none
  | [], _, _, _ => rfl
  | _ :: _, [], _, _ => rfl
  | t :: S, b :: as, i, h => by
    have ih := nums_none s S as (i + 1) fun hm => h (List.mem_cons_of_mem _ hm)
    unfold valN at ih ⊢
    show ((((nkS t, b, V.int ((i : Nat) : Int)) :: nums S as (i + 1)).find? _).map _) = none
    rw [List.find?_cons]
    have e : ¬ nkS t = nkS s := fun e => h (by rw [nkS_inj e]; exact List.mem_cons_self)
    simp only [e, decide_false]
    exact ih
theorem nums_get {s : StT} : ∀ (S : List StT) (as : List Addr) (i j : Nat), S.length = as.length → S.Nodup → S[j]? = some s → valN (nums S as i) (nkS s) = some (.int ((i + j : Nat) : Int))
  | [], _, _, _, _, _, h => nomatch h
  | _ :: _, [], _, _, h, _, _ => nomatch h
  | t :: S, b :: as, i, 0, _, _, h => by
    cases h
    unfold valN
    show ((((nkS s, b, V.int ((i : Nat) : Int)) :: nums S as (i + 1)).find? _).map _) = _
    rw [List.find?_cons]
    simp
  | t :: S, b :: as, i, j + 1, hl, nd, h => by
    obtain ⟨n1, n2⟩ := List.nodup_cons.mp nd
    have h : S[j]? = some s := h
    have ih := nums_get S as (i + 1) j (Nat.succ.inj hl) n2 h
    unfold valN at ih ⊢
    show ((((nkS t, b, V.int ((i : Nat) : Int)) :: nums S as (i + 1)).find? _).map _) = _
    rw [List.find?_cons]
    have e : ¬ nkS t = nkS s := fun e => n1 (by rw [nkS_inj e]; exact List.mem_of_getElem? h)
    simp only [e, decide_false]
    rw [ih, show i + 1 + j = i + (j + 1) by omega]
end MS
end
section
set_option maxRecDepth 100000
set_option maxHeartbeats 4000000
namespace MS
open PySem L2
/-! ### explored -/
abbrev s_explored : Stmt := topS 53
abbrev psEx : List Str := ["paper", "work", "steps"]
abbrev nmEx : List Str := ["paper", "work", "steps", "watches", "states", "numbers", "leads", "nexts", "number", "coming", "step", "state"]
theorem sc_explored : FnScope nmEx psEx (defScope s_explored) := ⟨rfl, rfl, rfl, by decide +kernel, rfl, by decide +kernel, by decide +kernel⟩
structure DEx (K : PySem.W.Frag) (mg : Str → Option Value) where
  W : DAW K mg
  DO : Def K mg "watches_of" s_watches_of ["paper"]
  DS : Def K mg "state_of" s_state_of ["watches", "work"]
  DB : Def K mg "state_behind" s_state_behind psSB
  DM : Def K mg "may_come" s_may_come ["state", "step"]
/-- what stands while the states are explored: H0 is the heap at the beginning, G the lists that grow -/
structure EAt (P : Program) (w : World) (C : Addr) (ps : List Sch) (H0 : Hp) (l sa d la na : Addr) (H : Hp) (kvs : List NE) (S : List StT) (as : List Addr) (L : List (List StepT)) (lv nv : List V) : Prop where
  same : Same H0 H
  ws : WsAt C H ps l
  ne : l ≠ sa ∧ l ≠ la ∧ l ≠ na ∧ sa ≠ la ∧ sa ≠ na ∧ la ≠ na
  new : H0 sa = none ∧ H0 la = none ∧ H0 na = none ∧ H0 d = none
  st : H sa = some (.lst (as.map V.ref))
  pst : Paired (fun s a => StAt H s (.ref a)) S as
  nm : NDict P w H d kvs
  ld : H la = some (.lst lv)
  pl : Paired (fun ls v => ∃ a, v = .ref a ∧ H a = some (.lst (stepsV ls)) ∧ a ≠ sa ∧ a ≠ la ∧ a ≠ na ∧ H0 a = none) L lv
  nx : H na = some (.lst nv)
section
variable {P : Program} {w : World} {C : Addr} {ps : List Sch} {H0 H H' : Hp} {l sa d la na : Addr} {kvs : List NE} {S : List StT} {as : List Addr} {L : List (List StepT)} {lv nv : List V}
theorem WsAt.other {x : Addr} (h : WsAt C H ps l) (k : ∀ b o, b ≠ x → H b = some o → H' b = some o) (hl : l ≠ x) (ht : ∀ b o, H b = some o → (∀ xs, o ≠ .lst xs) → (∀ kvs, o ≠ .dK kvs) → (∀ f, o ≠ .ext f) → b ≠ x) : WsAt C H' ps l := by
  obtain ⟨xs, h1, h2⟩ := h
  refine ⟨xs, k _ _ hl h1, paired_imp h2 fun wt v ⟨a, dx, wp, e, e1, e2⟩ => ⟨a, dx, wp, e, k _ _ (ht _ _ e1 (fun _ z => nomatch z) (fun _ z => nomatch z) (fun _ z => nomatch z)) e1, k _ _ (ht _ _ e2 (fun _ z => nomatch z) (fun _ z => nomatch z) (fun _ z => nomatch z)) e2⟩⟩
theorem StAt.other {x : Addr} {s : StT} {v : V} (h : StAt H s v) (k : ∀ b o, b ≠ x → H b = some o → H' b = some o) (ht : ∀ b xs, H b = some (.tup xs) → b ≠ x) : StAt H' s v := by
  obtain ⟨a, b, e, h1, h2⟩ := h
  exact ⟨a, b, e, k _ _ (ht _ _ h1) h1, k _ _ (ht _ _ h2) h2⟩
/-- x, which is no tuple and no object, has changed -/
def Plain (H : Hp) (x : Addr) : Prop := (∃ xs, H x = some (.lst xs)) ∨ (∃ kvs, H x = some (.dK kvs)) ∨ ∃ f, H x = some (.ext f)
theorem Plain.ne {x b : Addr} {o : HO} (h : Plain H x) (e : H b = some o) (h1 : ∀ xs, o ≠ .lst xs) (h2 : ∀ kvs, o ≠ .dK kvs) (h3 : ∀ f, o ≠ .ext f) : b ≠ x := fun z => by
  subst z
  rcases h with ⟨xs, h⟩ | ⟨xs, h⟩ | ⟨xs, h⟩ <;> rw [e] at h
  · exact h1 _ (Option.some.inj h)
  · exact h2 _ (Option.some.inj h)
  · exact h3 _ (Option.some.inj h)
theorem EAt.go (e : EAt P w C ps H0 l sa d la na H kvs S as L lv nv) (s : Same H H') : EAt P w C ps H0 l sa d la na H' kvs S as L lv nv where
  same := e.same.trans s
  ws := e.ws.same s
  ne := e.ne
  new := e.new
  st := s _ _ e.st
  pst := paired_imp e.pst fun _ _ z => z.keep (Same.tupK s)
  nm := e.nm.keep ((s _ _ e.nm.obj).trans e.nm.obj.symm) (Same.tupK s)
  ld := s _ _ e.ld
  pl := paired_imp e.pl fun _ _ ⟨a, h1, h2, h3⟩ => ⟨a, h1, s _ _ h2, h3⟩
  nx := s _ _ e.nx
/-- another dict has changed -/
theorem EAt.coming {c : Addr} {ks : List (Key × V)} {o : HO} (e : EAt P w C ps H0 l sa d la na H kvs S as L lv nv) (hc : H c = some (.dK ks)) (h0 : H0 c = none) : EAt P w C ps H0 l sa d la na (upd H c o) kvs S as L lv nv := by
  have pl : Plain H c := .inr (.inl ⟨_, hc⟩)
  have k : ∀ b o', b ≠ c → H b = some o' → upd H c o b = some o' := fun b o' n z => by rw [upd_ne n]; exact z
  have nl : ∀ b xs, H b = some (.lst xs) → b ≠ c := fun b xs z q => by rw [q, hc] at z; cases z
  have nt : ∀ b xs, H b = some (.tup xs) → b ≠ c := fun b xs z q => by rw [q, hc] at z; cases z
  have nd : d ≠ c := fun q => by have z := e.nm.obj; rw [q, hc] at z; cases z
  obtain ⟨xs, hl, _⟩ := id e.ws
  exact ⟨(fun b o' z => k _ _ (fun q => by rw [q, h0] at z; cases z) (e.same _ _ z)), (e.ws.other k (nl _ _ hl) (fun b o => pl.ne)), (e.ne), (e.new), (k _ _ (nl _ _ e.st) e.st), (paired_imp e.pst fun _ _ z => z.other k nt), (e.nm.keep (upd_ne nd) fun a xs z => k _ _ (nt _ _ z) z), (k _ _ (nl _ _ e.ld) e.ld), (paired_imp e.pl fun _ _ ⟨a, h1, h2, h3⟩ => ⟨a, h1, k _ _ (nl _ _ h2) h2, h3⟩), (k _ _ (nl _ _ e.nx) e.nx)⟩
/-- the dict of the numbers has grown -/
theorem EAt.putN {kvs' : List NE} {o : HO} (e : EAt P w C ps H0 l sa d la na H kvs S as L lv nv) (n : NDict P w (upd H d o) d kvs') : EAt P w C ps H0 l sa d la na (upd H d o) kvs' S as L lv nv := by
  have hd := e.nm.obj
  have pl : Plain H d := .inr (.inr ⟨_, hd⟩)
  have k : ∀ b o', b ≠ d → H b = some o' → upd H d o b = some o' := fun b o' n z => by rw [upd_ne n]; exact z
  have nl : ∀ b xs, H b = some (.lst xs) → b ≠ d := fun b xs z q => by rw [q, hd] at z; cases z
  have nt : ∀ b xs, H b = some (.tup xs) → b ≠ d := fun b xs z q => by rw [q, hd] at z; cases z
  obtain ⟨xs, hl, _⟩ := id e.ws
  exact ⟨(fun b o' z => k _ _ (fun q => by rw [q, e.new.2.2.2] at z; cases z) (e.same _ _ z)), (e.ws.other k (nl _ _ hl) (fun b o => pl.ne)), (e.ne), (e.new), (k _ _ (nl _ _ e.st) e.st), (paired_imp e.pst fun _ _ z => z.other k nt), (n), (k _ _ (nl _ _ e.ld) e.ld), (paired_imp e.pl fun _ _ ⟨a, h1, h2, h3⟩ => ⟨a, h1, k _ _ (nl _ _ h2) h2, h3⟩), (k _ _ (nl _ _ e.nx) e.nx)⟩
/-- the list of the states has grown -/
theorem EAt.putS {s : StT} {a : Addr} (e : EAt P w C ps H0 l sa d la na H kvs S as L lv nv) (h : StAt H s (.ref a)) : EAt P w C ps H0 l sa d la na (upd H sa (.lst (as.map V.ref ++ [.ref a]))) kvs (S ++ [s]) (as ++ [a]) L lv nv := by
  have hd := e.st
  have pl : Plain H sa := .inl ⟨_, hd⟩
  have k : ∀ b o', b ≠ sa → H b = some o' → upd H sa (.lst (as.map V.ref ++ [.ref a])) b = some o' := fun b o' n z => by rw [upd_ne n]; exact z
  have nt : ∀ b xs, H b = some (.tup xs) → b ≠ sa := fun b xs z q => by rw [q, hd] at z; cases z
  have nd : d ≠ sa := fun q => by have z := e.nm.obj; rw [q, hd] at z; cases z
  have hlv := e.pl
  exact ⟨(fun b o' z => k _ _ (fun q => by rw [q, e.new.1] at z; cases z) (e.same _ _ z)), (e.ws.other k e.ne.1 (fun b o => pl.ne)), (e.ne), (e.new), (by rw [upd_same, List.map_append]; rfl), (paired_snoc (paired_imp e.pst fun _ _ z => z.other k nt) (h.other k nt)), (e.nm.keep (upd_ne nd) fun a xs z => k _ _ (nt _ _ z) z), (k _ _ e.ne.2.2.2.1.symm e.ld), (paired_imp hlv fun _ _ ⟨a, h1, h2, h3⟩ => ⟨a, h1, k _ _ h3.1 h2, h3⟩), (k _ _ e.ne.2.2.2.2.1.symm e.nx)⟩
theorem EAt.putN2 {kvs' : List NE} {o : HO} {c : Addr} {ks : List (Key × V)} {t : StT} {v : V} (e : EAt P w C ps H0 l sa d la na H kvs S as L lv nv) (n : NDict P w (upd H d o) d kvs') (ec : H c = some (.dK ks)) (hv : StAt H t v) : EAt P w C ps H0 l sa d la na (upd H d o) kvs' S as L lv nv ∧ upd H d o c = some (.dK ks) ∧ StAt (upd H d o) t v := by
  have ed := e.nm.obj
  exact ⟨e.putN n, by rw [upd_ne (ne_of ec ed fun z => nomatch z)]; exact ec, hv.other (x := d) (fun b o n z => by rw [upd_ne n]; exact z) fun b xs z => ne_of z ed fun z => nomatch z⟩
theorem EAt.putS2 {c : Addr} {ks : List (Key × V)} {s : StT} {a : Addr} (e : EAt P w C ps H0 l sa d la na H kvs S as L lv nv) (h : StAt H s (.ref a)) (ec : H c = some (.dK ks)) : EAt P w C ps H0 l sa d la na (upd H sa (.lst (as.map V.ref ++ [.ref a]))) kvs (S ++ [s]) (as ++ [a]) L lv nv ∧ upd H sa (.lst (as.map V.ref ++ [.ref a])) c = some (.dK ks) ∧ StAt (upd H sa (.lst (as.map V.ref ++ [.ref a]))) s (.ref a) :=
  ⟨e.putS h, by rw [upd_ne (ne_of ec e.st fun z => nomatch z)]; exact ec, h.other (x := sa) (fun b o n z => by rw [upd_ne n]; exact z) fun b xs z => ne_of z e.st fun z => nomatch z⟩
/-- the list of the leads has grown -/
theorem EAt.putL {ls : List StepT} {a : Addr} (e : EAt P w C ps H0 l sa d la na H kvs S as L lv nv) (h : H a = some (.lst (stepsV ls))) (hn : a ≠ sa ∧ a ≠ la ∧ a ≠ na ∧ H0 a = none) : EAt P w C ps H0 l sa d la na (upd H la (.lst (lv ++ [.ref a]))) kvs S as (L ++ [ls]) (lv ++ [.ref a]) nv := by
  have hd := e.ld
  have pl : Plain H la := .inl ⟨_, hd⟩
  have k : ∀ b o', b ≠ la → H b = some o' → upd H la (.lst (lv ++ [.ref a])) b = some o' := fun b o' n z => by rw [upd_ne n]; exact z
  have nt : ∀ b xs, H b = some (.tup xs) → b ≠ la := fun b xs z q => by rw [q, hd] at z; cases z
  have nd : d ≠ la := fun q => by have z := e.nm.obj; rw [q, hd] at z; cases z
  exact ⟨(fun b o' z => k _ _ (fun q => by rw [q, e.new.2.1] at z; cases z) (e.same _ _ z)), (e.ws.other k e.ne.2.1 (fun b o => pl.ne)), (e.ne), (e.new), (k _ _ e.ne.2.2.2.1 e.st), (paired_imp e.pst fun _ _ z => z.other k nt), (e.nm.keep (upd_ne nd) fun a xs z => k _ _ (nt _ _ z) z), (upd_same), (paired_snoc (paired_imp e.pl fun _ _ ⟨a, h1, h2, h3⟩ => ⟨a, h1, k _ _ h3.2.1 h2, h3⟩) ⟨a, rfl, k _ _ hn.2.1 h, hn⟩), (k _ _ e.ne.2.2.2.2.2.symm e.nx)⟩
/-- the list of the nexts has grown -/
theorem EAt.putX {v : V} (e : EAt P w C ps H0 l sa d la na H kvs S as L lv nv) : EAt P w C ps H0 l sa d la na (upd H na (.lst (nv ++ [v]))) kvs S as L lv (nv ++ [v]) := by
  have hd := e.nx
  have pl : Plain H na := .inl ⟨_, hd⟩
  have k : ∀ b o', b ≠ na → H b = some o' → upd H na (.lst (nv ++ [v])) b = some o' := fun b o' n z => by rw [upd_ne n]; exact z
  have nt : ∀ b xs, H b = some (.tup xs) → b ≠ na := fun b xs z q => by rw [q, hd] at z; cases z
  have nd : d ≠ na := fun q => by have z := e.nm.obj; rw [q, hd] at z; cases z
  exact ⟨(fun b o' z => k _ _ (fun q => by rw [q, e.new.2.2.1] at z; cases z) (e.same _ _ z)), (e.ws.other k e.ne.2.2.1 (fun b o => pl.ne)), (e.ne), (e.new), (k _ _ e.ne.2.2.2.2.1 e.st), (paired_imp e.pst fun _ _ z => z.other k nt), (e.nm.keep (upd_ne nd) fun a xs z => k _ _ (nt _ _ z) z), (k _ _ e.ne.2.2.2.2.2 e.ld), (paired_imp e.pl fun _ _ ⟨a, h1, h2, h3⟩ => ⟨a, h1, k _ _ h3.2.2.1 h2, h3⟩), (upd_same)⟩
end
section
variable {P : Program} {w : World} {K : PySem.W.Frag} {mg : Str → Option Value} {base : Heap} {C : Addr}
def LeadR (H H' : Hp) (la : Addr) (ls : List StepT) (v : V) : Prop := ∃ a, v = .ref a ∧ H' a = some (.lst (stepsV ls)) ∧ a ≠ la ∧ H a = none
abbrev BfP (ps : List Sch) (ws sl : List StepT) := Bf (stB (watchP ps)) mayB sl ltT (runS (watchP ps) ws)
/-- what a dict of the next states holds: the steps that may come, of each the number of the state behind -/
def CoR (W : List Wt) (s : StT) (S : List StT) (T : List StepT) (ks : List (Key × V)) : Prop := Paired (fun p (kv : Key × V) => kv.1 = .inr (stepS p) ∧ ∃ i : Nat, kv.2 = .int ((i : Nat) : Int) ∧ S[i]? = some (stB W s p)) T ks
theorem CoR.more {W : List Wt} {s : StT} {S S' : List StT} {T : List StepT} {ks : List (Key × V)} (h : CoR W s S T ks) (hs : ∃ U, S' = S ++ U) : CoR W s S' T ks := by
  obtain ⟨U, rfl⟩ := hs
  exact paired_imp h fun p kv ⟨e, i, e2, h⟩ => ⟨e, i, e2, by rw [List.getElem?_append_left (List.getElem?_eq_some_iff.mp h).1]; exact h⟩
def NxL (ps : List Sch) (sl : List StepT) (H : Hp) (S : List StT) (nv : List V) : Prop := ∀ (k : Nat) (v : V), nv[k]? = some v → ∃ (s : StT) (c : Addr) (ks : List (Key × V)), v = .ref c ∧ S[k]? = some s ∧ H c = some (.dK ks) ∧ CoR (watchP ps) s S (sl.filter (mayB s)) ks
/-- dicts stay -/
def KD (H H' : Hp) : Prop := ∀ (c : Addr) (ks : List (Key × V)), H c = some (.dK ks) → H' c = some (.dK ks)
theorem KD.same {H H1 H' : Hp} (k : KD H H1) (s : Same H1 H') : KD H H' := fun c ks e => s _ _ (k c ks e)
theorem KD.put {H H1 : Hp} {x : Addr} {o o' : HO} (k : KD H H1) (ex : H1 x = some o) (hx : ∀ ks, o ≠ .dK ks) : KD H (upd H1 x o') := fun c ks e => by
  have e1 := k c ks e
  rw [upd_ne (fun z => by rw [z, ex] at e1; exact hx _ (Option.some.inj e1))]
  exact e1
theorem KD.putN {P : Program} {w : World} {H H1 : Hp} {x : Addr} {o o' : HO} {kvs : List NE} (k : KD H H1) (ex : H1 x = some o) (hx : ∀ ks, o ≠ .dK ks) (_ : NDict P w (upd H1 x o') x kvs) : KD H (upd H1 x o') := k.put ex hx
theorem KD.putE {P : Program} {w : World} {C : Addr} {ps : List Sch} {l sa d la na : Addr} {kvs : List NE} {S : List StT} {as : List Addr} {L : List (List StepT)} {lv nv : List V} {H0 H H1 : Hp} {x : Addr} {o o' : HO} (k : KD H H1) (ex : H1 x = some o) (hx : ∀ ks, o ≠ .dK ks) (_ : EAt P w C ps H0 l sa d la na (upd H1 x o') kvs S as L lv nv) : KD H (upd H1 x o') := k.put ex hx
theorem KD.newer {H H1 : Hp} {x : Addr} {o' : HO} (k : KD H H1) (hx : H x = none) : KD H (upd H1 x o') := fun c ks e => by
  rw [upd_ne (fun z => by rw [z, hx] at e; cases e)]
  exact k c ks e
theorem NxL.keep {ps : List Sch} {sl : List StepT} {H H' : Hp} {S S' : List StT} {nv : List V} (h : NxL ps sl H S nv) (k : KD H H') (hs : ∃ U, S' = S ++ U) : NxL ps sl H' S' nv := fun i v e => by
  obtain ⟨s, c, ks, h1, h2, h3, h4⟩ := h i v e
  refine ⟨s, c, ks, h1, ?_, k _ _ h3, h4.more hs⟩
  obtain ⟨U, rfl⟩ := hs
  rw [List.getElem?_append_left (List.getElem?_eq_some_iff.mp h2).1]
  exact h2
theorem stepT_ne {p q : StepT} (h : ltT p q) : stepS p ≠ stepS q := fun e => by
  have h : Spec.ltCps (stepS p).cps.toList (stepS q).cps.toList = true := h
  rw [e, PyProof.Rows.ltCps_eq, decide_eq_true_eq] at h
  exact List.lt_irrefl _ h
theorem cor_put {W : List Wt} {s : StT} {S : List StT} {T : List StepT} {ks : List (Key × V)} {p : StepT} {i : Nat} (h : CoR W s S T ks) (hT : ∀ q ∈ T, ltT q p) (hi : S[i]? = some (stB W s p)) : CoR W s S (T ++ [p]) (putK ks (.inr (stepS p)) (.int ((i : Nat) : Int))) := by
  have hn : (ks.any fun kv => decide (kv.1 = (.inr (stepS p) : Key))) = false := by
    rw [List.any_eq_false]
    intro kv hkv
    obtain ⟨j, hj, e⟩ := List.mem_iff_getElem.mp hkv
    obtain ⟨q, eq, h1, _⟩ := paired_get' h (k := j) (y := kv) (by rw [List.getElem?_eq_getElem hj, e])
    rw [h1]
    intro z
    have z := of_decide_eq_true z
    exact stepT_ne (hT q (List.mem_of_getElem? eq)) (Sum.inr.inj z)
  unfold putK
  rw [if_neg (by rw [hn]; decide)]
  exact paired_snoc h ⟨rfl, i, rfl, hi⟩
def spExplored (C : Addr) (ps : List Sch) (ws : List StepT) (sl : List StepT) : Sp := fun vs H Q _ => ∃ (pa wa ta : Addr) (pv : List V), vs = [.ref pa, .ref wa, .ref ta] ∧ H pa = some (.tup pv) ∧ Paired (SAt H 5) ps pv ∧ PaperOk ps ∧ H wa = some (.lst (stepsV ws)) ∧ (∀ p ∈ ws, IsStep p) ∧
  H ta = some (.lst (stepsV sl)) ∧ (∀ p ∈ sl, IsStep p) ∧ sl.Pairwise ltT ∧ sl.length ≤ 24 ∧ ∀ (t la na : Addr) (H' : Hp) (S : List StT) (L : List (List StepT)) (lv nv : List V), Same H H' → H t = none → H la = none → H' t = some (.tup [.ref la, .ref na]) → H' la = some (.lst lv) → H' na = some (.lst nv) →
    Paired (LeadR H H' la) L lv → BfP ps ws sl S L S.length [] → S.length ≤ 2048 → nv.length = S.length → NxL ps sl H' S nv → Q (.ref t) H'
theorem bf_wide {ps : List Sch} {ws sl : List StepT} {S : List StT} {L : List (List StepT)} {m : Nat} {D : List StepT} (b : BfP ps ws sl S L m D) {i : Nat} {s : StT} (h : S[i]? = some s) : s.2.length = (watchP ps).length := by
  have wid : ∀ (l : List StepT) (s : StT), s.2.length = (watchP ps).length → (l.foldl (stB (watchP ps)) s).2.length = (watchP ps).length := by
    intro l
    induction l with
    | nil => exact fun s h => h
    | cons p r ih => exact fun s h => ih _ (stB_len h)
  obtain ⟨hi, _⟩ := List.getElem?_eq_some_iff.mp h
  obtain ⟨_, e2⟩ := b.run i s _ h (List.getElem?_eq_getElem (by rw [b.len]; exact hi))
  rw [← e2]
  exact wid _ _ (runS_len _)
theorem putK_len (kvs : List (Key × V)) (k : Key) (v : V) : (putK kvs k v).length ≤ kvs.length + 1 := by
  unfold putK
  split
  · rw [List.length_map]
    omega
  · rw [List.length_append]
    exact Nat.le_refl _
theorem nd_heap {P : Program} {w : World} {H : Hp} {d : Addr} {o1 o2 : HO} {kvs : List NE} (hd : H d = none) (n : NDict P w (upd (upd H d o1) d o2) d kvs) : Same H (upd (upd H d o1) d o2) ∧ NDict P w (upd (upd H d o1) d o2) d kvs := ⟨fun b o e => by rw [upd_ne (ne_of_none e hd), upd_ne (ne_of_none e hd)]; exact e, n⟩
theorem bf_small {ps : List Sch} {ws sl : List StepT} {S : List StT} {L : List (List StepT)} {m : Nat} {D : List StepT} (b : BfP ps ws sl S L m D) (h : (watchP ps).length ≤ 10) : S.length ≤ 2048 := by
  have wid : ∀ (l : List StepT) (s : StT), s.2.length = (watchP ps).length → (l.foldl (stB (watchP ps)) s).2.length = (watchP ps).length := by
    intro l
    induction l with
    | nil => exact fun s h => h
    | cons p r ih => exact fun s h => ih _ (stB_len h)
  have := states_len (n := (watchP ps).length) b.nodup fun s hs => by
    obtain ⟨i, hi, e⟩ := List.mem_iff_getElem.mp hs
    have h1 : S[i]? = some s := by rw [List.getElem?_eq_getElem hi, e]
    obtain ⟨_, e2⟩ := b.run i s _ h1 (List.getElem?_eq_getElem (by rw [b.len]; exact hi))
    rw [← e2]
    exact wid _ _ (runS_len _)
  exact Nat.le_trans this (Nat.pow_le_pow_right (by decide) (show (watchP ps).length + 1 ≤ 11 by omega))
theorem ok_explored (ps : List Sch) (ws sl : List StepT) (T : PTx w K mg) (Y : TCls K mg C) (D : Def K mg "explored" s_explored psEx) (Z : DEx K mg) : FnOk P w K mg base CX0 35 D.f D.fd psEx (spExplored C ps ws sl) := by
  have GW : FnOk P w K mg base CX0 34 Z.DO.f Z.DO.fd ["paper"] (spWatches1 C ps) := ok_watches_of ps T Y Z.W Z.DO
  have GS : FnOk P w K mg base CX0 3 Z.DS.f Z.DS.fd ["watches", "work"] (spStateOf C ps ws) := ok_state_of ps ws T Y Z.DS Z.DB
  have GB : FnOk P w K mg base CX0 2 Z.DB.f Z.DB.fd psSB (spBehindS C) := ok_state_behind T Y Z.DB
  have GM : FnOk P w K mg base CX0 1 Z.DM.f Z.DM.fd ["state", "step"] spMayCome := ok_may_come T Z.DM
  have ml : mg "len" = none := T.free "len" (by decide +kernel)
  have nd := sc_explored.nd
  refine D.ok sc_explored (fun vs H Q E h => ?_) (fun cdv A outer s H vs Q E hr h => ?_)
  · obtain ⟨pa, wa, ta, pv, rfl, _⟩ := h
    rfl
  obtain ⟨pa, wa, ta, pv0, rfl, epv, pp, hP, ewa, hst, eta, hsl, pwl, h24, q⟩ := h
  have hr3 : Room 3 _ := hr.mono (by decide)
  have hr2 : Room 2 _ := hr.mono (by decide)
  have hr1 : Room 1 _ := hr.mono (by decide)
  have hu := hr.units
  have h20 := Nat.lt_of_le_of_lt (Nat.add_le_add_left (show 20 ≤ 64 by decide) _) hu
  have h01 := Nat.lt_of_le_of_lt (Nat.add_le_add_left (show 1 ≤ 64 by decide) _) hu
  refine ⟨_, pss_cons (ps_set (i := 3) nd rfl (Or.inl rfl) (pcall Z.DO GW hr (pa_cons (pv 0) pa_nil)))
    (pss_cons (ps_set (i := 4) nd rfl (Or.inl rfl) (pe_lst (pa_cons (pcall Z.DS GS hr3 (pa_cons (pv 3) (pa_cons (pv 1) pa_nil))) pa_nil)))
    (pss_cons (ps_set (i := 5) nd rfl (Or.inl rfl) (pe_ndisp1 h20 (pe_ix ix_list (pv 4) pe_int (fun _ _ => rfl)) pe_int))
    (pss_cons (ps_set (i := 6) nd rfl (Or.inl rfl) (pe_lst (pa_cons (pe_lst pa_nil) pa_nil)))
    (pss_cons (ps_set (i := 7) nd rfl (Or.inl rfl) (pe_lst pa_nil))
    (pss_cons (ps_while PassesOwn.never (pt_cmpR op_lt (pe_callB call_len_seq rfl ml PySem.boot_len (pa_cons (pv 7) pa_nil)) (pe_callB call_len_seq rfl ml PySem.boot_len (pa_cons (pv 4) pa_nil)) (nomark _))
      (pss_cons (ps_set (i := 8) nd rfl (Or.inl rfl) (pe_callB call_len_seq rfl ml PySem.boot_len (pa_cons (pv 7) pa_nil)))
      (pss_cons (ps_set (i := 9) nd rfl (Or.inl rfl) pe_dnewK)
      (pss_cons (ps_for PassesOwn.never rfl (pi_list (pv 2)) (pg_name (i := 10) nd rfl (Or.inl rfl))
        (pss_one (ps_if (pt_val (pcall Z.DM GM hr1 (pa_cons (pe_ix ix_list (pv 4) (pv 8) (fun _ _ => rfl)) (pa_cons (pv 10) pa_nil))))
          (pss_cons (ps_set (i := 11) nd rfl (Or.inl rfl) (pcall Z.DB GB hr2 (pa_cons (pv 3) (pa_cons (pe_ix ix_list (pv 4) (pv 8) (fun _ _ => rfl)) (pa_cons (pv 10) pa_nil)))))
          (pss_cons (ps_if (pt_cmp (pc_nnotin h20 (pv 11) (pv 5)))
            (pss_cons (ps_nput h20 (pv 5) (pv 11) (pe_callB call_len_seq rfl ml PySem.boot_len (pa_cons (pv 4) pa_nil)) rfl)
            (pss_cons (ps_expr (pe_bm PySem.F.plainAttrs_list PySem.F.slot_list_append PySem.F.type_list_append mt_append (pv 4) (pa_cons (pv 11) pa_nil)))
            (pss_one (ps_expr (pe_bm PySem.F.plainAttrs_list PySem.F.slot_list_append PySem.F.type_list_append mt_append (pv 6) (pa_cons (pe_op op_cat (pe_ix ix_list (pv 6) (pv 8) (fun _ _ => rfl)) (pe_lst (pa_cons (pv 10) pa_nil))) pa_nil)))))) pss_nil)
          (pss_one (ps_dput h01 (pv 9) (pv 10) (pe_nget h20 (pv 5) (pv 11) (fun _ _ => rfl)) rfl)))) pss_nil)))
      (pss_one (ps_expr (pe_bm PySem.F.plainAttrs_list PySem.F.slot_list_append PySem.F.type_list_append mt_append (pv 7) (pa_cons (pv 9) pa_nil))))))))
    (pss_one (ps_ret (pe_tup (pa_cons (pv 6) (pa_cons (pv 7) pa_nil)))))))))), ?_⟩
  have h10 := watch_few hP
  refine ⟨_, rfl, pa, pv0, rfl, epv, pp, hP, fun l H1 ys s1 hl el pw => ?_⟩
  dsimp only [gName]
  refine ⟨_, rfl, _, rfl, l, wa, rfl, ⟨ys, el, pw⟩, hP, s1 _ _ ewa, hst, fun H2 v2 s2 hv2 hn2 => ⟨(by show 1 ≤ sizeLine; decide), fun sa hsa => ?_⟩⟩
  obtain ⟨a0, b0, rfl, ea0, eb0⟩ := id hv2
  have s3 : Same H2 (upd H2 sa (.lst [.ref a0])) := Same.new hsa
  have esa : upd H2 sa (.lst [.ref a0]) sa = some (.lst [.ref a0]) := upd_same
  dsimp only [gName]
  generalize upd H2 sa (.lst [.ref a0]) = H3 at *
  intro d hd
  have s4 : Same H3 (upd H3 d (NDo P w d [])) := Same.new hd
  refine ⟨_, rfl, sa, _, 0, .ref a0, rfl, rfl, SqL.of (s4 _ _ esa), at0, upd_same, a0, nkS (runS (watchP ps) ws), rfl, StAt.key (((hv2.keep (Same.tupK s3)).keep (Same.tupK s4))), nk_depth _, fun nd0 => ?_⟩
  clear s4
  obtain ⟨s5, nd0⟩ := nd_heap hd nd0
  dsimp only [gName]
  generalize upd (upd H3 d _) d _ = H5 at *
  have nd1 : NDict P w H5 d (nums [runS (watchP ps) ws] [a0] 0) := nd0
  have edn := nd1.obj
  refine ⟨Nat.zero_le _, fun f hf => ⟨(by show 1 ≤ sizeLine; decide), fun la hla => ?_⟩⟩
  have s6 : Same H5 (upd H5 f (.lst [])) := Same.new hf
  have ef : upd H5 f (.lst []) f = some (.lst []) := upd_same
  generalize upd H5 f (.lst []) = H6 at *
  have s7 : Same H6 (upd H6 la (.lst [.ref f])) := Same.new hla
  have ela : upd H6 la (.lst [.ref f]) la = some (.lst [.ref f]) := upd_same
  dsimp only [gName]
  generalize upd H6 la (.lst [.ref f]) = H7 at *
  refine ⟨Nat.zero_le _, fun na hna => ?_⟩
  have s8 : Same H7 (upd H7 na (.lst [])) := Same.new hna
  have ena : upd H7 na (.lst []) na = some (.lst []) := upd_same
  dsimp only [gName]
  generalize upd H7 na (.lst []) = H8 at *
  have s08 : Same H H8 := ((((s1.trans s2).trans s3).trans s5).trans s6).trans (s7.trans s8)
  have el2 := s2 _ _ el
  have e0 : EAt P w C ps H l sa d la na H8 (nums [runS (watchP ps) ws] [a0] 0) [runS (watchP ps) ws] [a0] [[]] [.ref f] [] := by
    have s38 := (s5.trans s6).trans (s7.trans s8)
    have s58 := s6.trans (s7.trans s8)
    have h5sa := s5 _ _ esa
    refine ⟨s08, ⟨ys, (s3.trans s38) _ _ el2, paired_imp pw fun _ _ z => z.same (s2.trans (s3.trans s38))⟩, ⟨ne_of_none el2 hsa, ne_of_none ((s3.trans (s5.trans s6)) _ _ el2) hla, ne_of_none ((s3.trans ((s5.trans s6).trans s7)) _ _ el2) hna, ne_of_none (s6 _ _ h5sa) hla, ne_of_none ((s6.trans s7) _ _ h5sa) hna, ne_of_none ela hna⟩,
      ⟨(s1.trans s2).free hsa, (((s1.trans s2).trans s3).trans (s5.trans s6)).free hla, ((((s1.trans s2).trans s3).trans (s5.trans s6)).trans s7).free hna, ((s1.trans s2).trans s3).free hd⟩, s38 _ _ esa, .cons (hv2.keep (Same.tupK (s3.trans s38))) .nil, nd1.keep ((s58 _ _ edn).trans edn.symm) (Same.tupK s58), s8 _ _ ela,
      .cons ⟨f, rfl, (s7.trans s8) _ _ ef, fun z => ?_, ne_of_none ef hla, ne_of_none (s7 _ _ ef) hna, (((s1.trans s2).trans s3).trans s5).free hf⟩ .nil, ena⟩
    rw [z, h5sa] at hf
    cases hf
  have b0 : BfP ps ws sl [runS (watchP ps) ws] [[]] 0 [] := bf_begin
  let Iv : Nat → St → Hp → Prop := fun k σ H' => ∃ (S : List StT) (as : List Addr) (L : List (List StepT)) (lv nv : List V) (v8 v9 v10 v11 : Option V), nv.length = k ∧ k ≤ S.length ∧ σ = [some (.ref pa), some (.ref wa), some (.ref ta), some (.ref l), some (.ref sa), some (.ref d), some (.ref la), some (.ref na), v8, v9, v10, v11] ∧
    EAt P w C ps H l sa d la na H' (nums S as 0) S as L lv nv ∧ BfP ps ws sl S L k [] ∧ NxL ps sl H' S nv
  refine ⟨fun m σ H' => ∃ k, m = 2048 - k ∧ Iv k σ H', ⟨2048, 0, rfl, _, _, _, _, _, none, none, none, none, rfl, Nat.zero_le _, rfl, e0, b0, (fun _ _ h => nomatch h)⟩, ?_⟩
  rintro m σ H1 ⟨k, rfl, S, as, L, lv, nv, v8, v9, v10, v11, hk, hle, rfl, e, b, nx0⟩
  have hS := bf_small b h10
  have hlS := Paired.length e.pst
  refine ⟨_, rfl, na, nv, rfl, .inl (SqL.of e.nx), _, rfl, sa, _, rfl, .inl (SqL.of e.st), _, _, rfl, rfl, _, rfl, ?_⟩
  rw [List.length_map, ← hlS, hk]
  by_cases hlt : k < S.length
  · rw [decide_eq_true (show ((k : Nat) : Int) < ((S.length : Nat) : Int) by omega)]
    refine iteT ⟨Iv (k + 1), fun σ' H' h => ⟨2048 - (k + 1), by omega, k + 1, rfl, h⟩, ?_⟩
    refine ⟨_, rfl, na, nv, rfl, .inl (SqL.of e.nx), ?_⟩
    dsimp only [gName]
    rw [hk]
    intro c hc
    have hcH1 := hc
    have e1 := e.go (Same.new (o := .dK []) hc)
    have hc0 := e.same.free hc
    have kd1 : KD H1 (upd H1 c (.dK [])) := fun c' ks' e' => Same.new hc _ _ e'
    obtain ⟨S0, eS0⟩ : ∃ S0, S0 = S := ⟨_, rfl⟩
    have esk0 : S0[k]? = some (S[k]'hlt) := by rw [eS0]; exact List.getElem?_eq_getElem hlt
    obtain ⟨sk0, esk⟩ : ∃ sk0, sk0 = S[k]'hlt := ⟨_, rfl⟩
    rw [← esk] at esk0
    have ec : upd H1 c (.dK []) c = some (.dK []) := upd_same
    generalize upd H1 c (.dK []) = H2 at *
    dsimp only [gName]
    have hls : (stepsV sl).length = sl.length := List.length_map _
    refine ⟨_, rfl, ta, rfl, ⟨_, SqL.of (e1.same _ _ eta)⟩, for_list (K := K) (a := ta) (xs := stepsV sl) (fun j σ H' => ∃ (S : List StT) (as : List Addr) (L : List (List StepT)) (lv : List V) (ks : List (Key × V)) (v10 v11 : Option V), σ = [some (.ref pa), some (.ref wa), some (.ref ta), some (.ref l), some (.ref sa), some (.ref d), some (.ref la), some (.ref na), some (.int ((k : Nat) : Int)), some (.ref c), v10, v11] ∧
        EAt P w C ps H l sa d la na H' (nums S as 0) S as L lv nv ∧ BfP ps ws sl S L k (sl.take j) ∧ k < S.length ∧ H' c = some (.dK ks) ∧ ks.length ≤ j ∧ (∃ U, S = S0 ++ U) ∧ KD H1 H' ∧ CoR (watchP ps) sk0 S ((sl.take j).filter (mayB sk0)) ks)
      ⟨S, as, L, lv, [], v10, v11, rfl, e1, by rw [List.take_zero]; exact b, hlt, ec, Nat.le_refl _, ⟨[], by rw [List.append_nil, eS0]⟩, kd1, .nil⟩ (fun j σ H' _ ⟨_, _, _, _, _, _, _, _, e', _⟩ => SqL.of (e'.same _ _ eta)) ?_ ?_⟩
    · rintro j x σ H3 hj ⟨S3, as3, L3, lv3, ks, v10', v11', rfl, e3, b3, hlt3, ec3, hks, hU3, kd3, co3⟩
      have hjl : j < sl.length := by
        have z := (List.getElem?_eq_some_iff.mp hj).1
        rw [hls] at z
        exact z
      have ex : x = V.str (stepS (sl[j]'hjl)) := by
        have z := get_map (fun p => V.str (stepS p)) sl hjl
        exact Option.some.inj (hj.symm.trans z)
      subst ex
      have hpm : sl[j]'hjl ∈ sl := List.getElem_mem hjl
      have hp := hsl _ hpm
      have tk : sl.take (j + 1) = sl.take j ++ [sl[j]'hjl] := by
        rw [List.take_succ, List.getElem?_eq_getElem hjl]
        rfl
      have hD : ∀ q ∈ sl.take j, ltT q (sl[j]'hjl) := fun q hq => by
        obtain ⟨i, hi, e⟩ := List.mem_iff_getElem.mp hq
        rw [List.getElem_take] at e
        rw [← e]
        rw [List.length_take] at hi
        exact List.pairwise_iff_getElem.mp pwl i j _ hjl (by omega)
      generalize sl[j]'hjl = p at *
      have eSk : S3[k]? = some (S3[k]'hlt3) := List.getElem?_eq_getElem hlt3
      have esk3 : S3[k]'hlt3 = sk0 := by
        obtain ⟨U, eU⟩ := hU3
        have z : S3[k]? = some sk0 := by rw [eU, List.getElem?_append_left (List.getElem?_eq_some_iff.mp esk0).1]; exact esk0
        rw [eSk] at z
        exact Option.some.inj z
      rw [esk3] at eSk
      clear esk3
      have eLk : L3[k]? = some (L3[k]'(by rw [b3.len]; exact hlt3)) := List.getElem?_eq_getElem _
      generalize L3[k]'_ = lk at *
      obtain ⟨ak, eak, hsk⟩ := paired_get2 e3.pst eSk
      have eak' : (as3.map V.ref)[k]? = some (V.ref ak) := by rw [List.getElem?_map, eak]; rfl
      dsimp only [gName]
      refine one_ifs (b := mayB sk0 p) (fun Q q => ?_) (fun hy => ?_) (fun hn => ?_)
      · exact ⟨_, rfl, _, rfl, sa, _, k, .ref ak, rfl, rfl, SqL.of e3.st, atI_nat eak', _, rfl, .ref ak, sk0, p, rfl, hsk, hp, _, rfl, q⟩
      · obtain ⟨xs, el3, pw3⟩ := id e3.ws
        have wid := bf_wide b3 eSk
        refine ⟨_, rfl, _, rfl, _, rfl, sa, _, k, .ref ak, rfl, rfl, SqL.of e3.st, atI_nat eak', _, rfl, l, .ref ak, watchP ps, xs, sk0, p, rfl, el3, pw3, watch_gates ps, by omega, hsk, wid, hp, fun H4 v4 s4 hv4 hn4 => ?_⟩
        obtain ⟨a4, b4, rfl, _, _⟩ := id hv4
        have e4 := e3.go s4
        have ec4 := s4 _ _ ec3
        dsimp only [gName]
        refine seq_ifs (b := !(valN (nums S3 as3 0) (nkS (stB (watchP ps) sk0 p))).isSome) (fun σ' H' => ∃ (S5 : List StT) (as5 : List Addr) (L5 : List (List StepT)) (lv5 : List V), σ' = [some (.ref pa), some (.ref wa), some (.ref ta), some (.ref l), some (.ref sa), some (.ref d), some (.ref la), some (.ref na), some (.int ((k : Nat) : Int)), some (.ref c), some (.str (stepS p)), some (.ref a4)] ∧
          EAt P w C ps H l sa d la na H' (nums S5 as5 0) S5 as5 L5 lv5 nv ∧ BfP ps ws sl S5 L5 k (sl.take (j + 1)) ∧ k < S5.length ∧ H' c = some (.dK ks) ∧ StAt H' (stB (watchP ps) sk0 p) (.ref a4) ∧ (∃ U, S5 = S0 ++ U) ∧ KD H1 H' ∧ CoR (watchP ps) sk0 S5 ((sl.take j).filter (mayB sk0)) ks ∧ ∃ i : Nat, S5[i]? = some (stB (watchP ps) sk0 p)) (fun Q q => ?_) ?_ (fun hb D' h => ?_) (fun hb D' h => ?_)
        · exact ⟨_, rfl, _, rfl, d, a4, _, _, rfl, rfl, e4.nm, hv4.key, nk_depth _, _, rfl, q⟩
        · rintro σ' H5 ⟨S5, as5, L5, lv5, rfl, e5, b5, hlt5, ec5, hv5, hU5, kd5, co5, i, ei⟩
          refine ⟨_, rfl, _, rfl, d, a4, _, _, rfl, rfl, e5.nm, hv5.key, nk_depth _, _, nums_get S5 as5 0 i (Paired.length e5.pst) b5.nodup ei, _, rfl, _, rfl, c, _, rfl, DPut.k (k := .inr (stepS p)) ec5 (szN (by omega)), ?_⟩
          exact ⟨S5, as5, L5, lv5, _, _, _, rfl, e5.coming ec5 hc0, b5, hlt5, upd_same, Nat.le_trans (putK_len _ _ _) (by omega), hU5, kd5.newer hcH1, by
            rw [tk, List.filter_append, List.filter_cons_of_pos hy, List.filter_nil]
            exact cor_put co5 (fun q hq => hD q (List.mem_filter.mp hq).1) (by rw [Nat.zero_add]; exact ei)⟩
        · have hno : valN (nums S3 as3 0) (nkS (stB (watchP ps) sk0 p)) = none := by
            cases e : valN (nums S3 as3 0) (nkS (stB (watchP ps) sk0 p)) with
            | none => rfl
            | some v => rw [e] at hb; cases hb
          have hl3 := Paired.length e3.pst
          have hnew : stB (watchP ps) sk0 p ∉ S3 := fun hm => by
            obtain ⟨i, hi, e⟩ := List.mem_iff_getElem.mp hm
            rw [nums_get S3 as3 0 i hl3 b3.nodup (by rw [List.getElem?_eq_getElem hi, e])] at hno
            cases hno
          have hS3 := bf_small b3 h10
          have bn := b3.new eSk eLk hD hpm hy hnew
          refine ⟨_, rfl, sa, _, rfl, .inl (SqL.of e4.st), _, rfl, _, rfl, d, a4, _, _, rfl, rfl, e4.nm, hv4.key, nk_depth _, hno, szN (by rw [nums_len _ _ _ hl3]; omega), fun nd5 => ?_⟩
          have ek : nums S3 as3 0 ++ [(nkS (stB (watchP ps) sk0 p), a4, V.int (((as3.map V.ref).length : Nat) : Int))] = nums (S3 ++ [stB (watchP ps) sk0 p]) (as3 ++ [a4]) 0 := by
            rw [nums_app _ _ _ _ _ hl3, Nat.zero_add, List.length_map, hl3]
          obtain ⟨e5, ec5, hv5⟩ := e4.putN2 nd5 ec4 hv4
          have kd5 := (kd3.same s4).putN e4.nm.obj (fun _ z => nomatch z) nd5
          generalize upd H4 d _ = H5' at *
          refine ⟨_, rfl, .inl ⟨rfl, _, SqL.of e5.st⟩, _, rfl, sa, _, _, rfl, rfl, e5.st, szN (by rw [List.length_map]; omega), ?_⟩
          obtain ⟨e6, ec6, hv6⟩ := e5.putS2 hv5 ec5
          have kd6 := kd5.putE e5.st (fun _ z => nomatch z) e6
          generalize upd H5' sa _ = H6' at *
          obtain ⟨vk, evk, alk, rfl, halk, hne⟩ := paired_get2 e6.pl eLk
          have hshort := b3.short k lk eLk
          have hlL := b3.len
          have hllv := Paired.length e6.pl
          have hlk : (stepsV lk).length = lk.length := List.length_map _
          refine ⟨_, rfl, .inl ⟨rfl, _, SqL.of e6.ld⟩, _, rfl, _, rfl, la, _, k, .ref alk, rfl, rfl, SqL.of e6.ld, atI_nat evk, _, rfl, (by show 1 ≤ sizeLine; decide), fun f1 hf1 => ⟨alk, f1, _, _, rfl, rfl, Same.new hf1 _ _ halk, upd_same, szN (by rw [hlk]; show lk.length + 1 ≤ 6000; omega), fun f2 hf2 => ?_⟩⟩
          have s7 : Same H6' (upd H6' f1 (.lst [.str (stepS p)])) := Same.new hf1
          have e7 := e6.go s7
          have s8 : Same (upd H6' f1 (.lst [.str (stepS p)])) (upd (upd H6' f1 (.lst [.str (stepS p)])) f2 (.lst (stepsV lk ++ [.str (stepS p)]))) := Same.new hf2
          have e8 := e7.go s8
          have ef2 : upd (upd H6' f1 (.lst [.str (stepS p)])) f2 (.lst (stepsV lk ++ [.str (stepS p)])) f2 = some (.lst (stepsV (lk ++ [p]))) := by
            rw [upd_same]
            unfold stepsV
            rw [List.map_append]
            rfl
          have e9 := e8.putL ef2 ⟨(ne_of_none e7.st hf2).symm, (ne_of_none e7.ld hf2).symm, (ne_of_none e7.nx hf2).symm, e7.same.free hf2⟩
          refine ⟨la, _, _, rfl, rfl, e8.ld, szN (by omega), h _ _ ⟨S3 ++ [stB (watchP ps) sk0 p], as3 ++ [a4], L3 ++ [lk ++ [p]], lv3 ++ [.ref f2], rfl, by rw [← ek]; exact e9, by rw [tk]; exact bn, by rw [List.length_append]; exact Nat.lt_add_right _ hlt3, ?_, ?_, (by obtain ⟨U, eU⟩ := hU3; exact ⟨U ++ [stB (watchP ps) sk0 p], by rw [eU, List.append_assoc]⟩), (kd6.same (s7.trans s8)).put e8.ld (fun _ z => nomatch z), co3.more ⟨_, rfl⟩, S3.length, ?_⟩⟩
          · rw [upd_ne (ne_of (s8 _ _ (s7 _ _ ec6)) e8.ld fun z => nomatch z)]
            exact s8 _ _ (s7 _ _ ec6)
          · exact (hv6.keep (Same.tupK (s7.trans s8))).keep (TupK.put e8.ld)
          · rw [List.getElem?_append_right (Nat.le_refl _), Nat.sub_self]
            rfl
        · have hi : ∃ i : Nat, S3[i]? = some (stB (watchP ps) sk0 p) := by
            by_cases hm : stB (watchP ps) sk0 p ∈ S3
            · obtain ⟨i, hi, e⟩ := List.mem_iff_getElem.mp hm
              exact ⟨i, by rw [List.getElem?_eq_getElem hi, e]⟩
            · rw [nums_none _ S3 as3 0 hm] at hb
              cases hb
          obtain ⟨i, ei⟩ := hi
          exact h _ _ ⟨S3, as3, L3, lv3, rfl, e4, by rw [tk]; exact b3.known eSk hD ei, hlt3, ec4, hv4, hU3, kd3.same s4, co3, i, ei⟩
      · exact ⟨S3, as3, L3, lv3, ks, _, v11', rfl, e3, by rw [tk]; exact b3.skip eSk hn, hlt3, ec3, by omega, hU3, kd3, by rw [tk, List.filter_append, List.filter_cons_of_neg (by rw [hn]; decide), List.filter_nil, List.append_nil]; exact co3⟩
    · rintro σ H3 ⟨S3, as3, L3, lv3, ks, v10', v11', rfl, e3, b3, hlt3, ec3, hks, hU3, kd3, co3⟩
      rw [hls, List.take_length] at b3 co3
      have hS3 := bf_small b3 h10
      refine ⟨_, rfl, .inl ⟨rfl, _, SqL.of e3.nx⟩, _, rfl, na, _, _, rfl, rfl, e3.nx, szN (by omega), ?_⟩
      refine ⟨S3, as3, L3, lv3, nv ++ [.ref c], _, _, _, _, by rw [List.length_append, hk]; rfl, hlt3, rfl, e3.putX, b3.done, fun i v ei => ?_⟩
      rcases Nat.lt_or_ge i nv.length with hi | hi
      · rw [List.getElem?_append_left hi] at ei
        exact (nx0.keep (S' := S3) ((kd3.put e3.nx (fun _ z => nomatch z)) : KD H1 (upd H3 na (.lst (nv ++ [.ref c])))) (by rw [eS0] at hU3; exact hU3)) i v ei
      · rw [List.getElem?_append_right hi] at ei
        have ei2 : i - nv.length = 0 := by
          have := (List.getElem?_eq_some_iff.mp ei).1
          rw [List.length_singleton] at this
          omega
        rw [ei2] at ei
        cases ei
        refine ⟨sk0, c, ks, rfl, ?_, by rw [upd_ne (ne_of ec3 e3.nx fun z => nomatch z)]; exact ec3, co3⟩
        rw [show i = k by omega]
        obtain ⟨U, eU⟩ := hU3
        rw [eU, List.getElem?_append_left (List.getElem?_eq_some_iff.mp esk0).1]
        exact esk0
  · rw [decide_eq_false (show ¬ ((k : Nat) : Int) < ((S.length : Nat) : Int) by omega)]
    have hkS : k = S.length := by omega
    refine iteF ⟨_, rfl, _, rfl, sz2, fun t ht => ?_⟩
    have e' := e.go (Same.new (o := .tup [.ref la, .ref na]) ht)
    exact q t la na _ S L lv nv e'.same (e.same.free ht) e.new.2.1 upd_same e'.ld e'.nx (paired_imp e'.pl fun _ _ ⟨a, h1, h2, h3⟩ => ⟨a, h1, h2, h3.2.1, h3.2.2.2⟩) (hkS ▸ b) hS (hk.trans hkS) (nx0.keep (fun c ks e' => Same.new (o := .tup [.ref la, .ref na]) ht _ _ e') ⟨[], by rw [List.append_nil]⟩)
end
end MS
end
section
set_option maxRecDepth 100000
set_option maxHeartbeats 4000000
namespace MS
open PySem L2
/-! ### numbering keys in turn of the first of each (pure) -/
section
variable {α β : Type} [DecidableEq α] [DecidableEq β]
def ixOf (k : α) (seen : List α) : Nat := seen.idxOf k
def numF : List α → List α → List Nat
  | [], _ => []
  | k :: r, seen => if k ∈ seen then seen.idxOf k :: numF r seen else seen.length :: numF r (seen ++ [k])
def seenF : List α → List α → List α
  | [], seen => seen
  | k :: r, seen => if k ∈ seen then seenF r seen else seenF r (seen ++ [k])
def numP (ks : List α) : List Nat := numF ks []
theorem numF_len : ∀ (ks seen : List α), (numF ks seen).length = ks.length
  | [], _ => rfl
  | k :: r, seen => by
    unfold numF
    split
    · rw [List.length_cons, List.length_cons, numF_len r]
    · rw [List.length_cons, List.length_cons, numF_len r]
theorem numP_len (ks : List α) : (numP ks).length = ks.length := numF_len ks []
theorem numF_in {k : α} {r seen : List α} (h : k ∈ seen) : numF (k :: r) seen = seen.idxOf k :: numF r seen := if_pos h
theorem numF_out {k : α} {r seen : List α} (h : k ∉ seen) : numF (k :: r) seen = seen.length :: numF r (seen ++ [k]) := if_neg h
theorem seenF_in {k : α} {r seen : List α} (h : k ∈ seen) : seenF (k :: r) seen = seenF r seen := if_pos h
theorem seenF_out {k : α} {r seen : List α} (h : k ∉ seen) : seenF (k :: r) seen = seenF r (seen ++ [k]) := if_neg h
theorem numF_app : ∀ (ks ks' seen : List α), numF (ks ++ ks') seen = numF ks seen ++ numF ks' (seenF ks seen)
  | [], _, _ => rfl
  | k :: r, ks', seen => by
    rw [List.cons_append]
    by_cases h : k ∈ seen
    · rw [numF_in h, numF_in h, seenF_in h, numF_app r ks' seen]
      rfl
    · rw [numF_out h, numF_out h, seenF_out h, numF_app r ks' _]
      rfl
theorem seenF_app : ∀ (ks ks' seen : List α), seenF (ks ++ ks') seen = seenF ks' (seenF ks seen)
  | [], _, _ => rfl
  | k :: r, ks', seen => by
    rw [List.cons_append]
    by_cases h : k ∈ seen
    · rw [seenF_in h, seenF_in h, seenF_app r ks' seen]
    · rw [seenF_out h, seenF_out h, seenF_app r ks' _]
theorem seenF_nodup : ∀ (ks seen : List α), seen.Nodup → (seenF ks seen).Nodup
  | [], _, h => h
  | k :: r, seen, h => by
    unfold seenF
    split
    · exact seenF_nodup r seen h
    · rename_i hn
      refine seenF_nodup r _ ?_
      rw [List.nodup_append]
      exact ⟨h, List.nodup_cons.mpr ⟨List.not_mem_nil, List.nodup_nil⟩, fun a ha b hb e => hn (by rw [List.mem_singleton.mp hb] at e; rw [← e]; exact ha)⟩
theorem seenF_len : ∀ (ks seen : List α), (seenF ks seen).length ≤ seen.length + ks.length
  | [], _ => Nat.le_refl _
  | k :: r, seen => by
    unfold seenF
    split
    · have := seenF_len r seen
      rw [List.length_cons]
      omega
    · have := seenF_len r (seen ++ [k])
      rw [List.length_append, List.length_singleton] at this
      rw [List.length_cons]
      omega
/-- two lists whose items are alike at the same places -/
def SameP (a : List α) (b : List β) : Prop := a.length = b.length ∧ ∀ (i j : Nat) (x x' : α) (y y' : β), a[i]? = some x → a[j]? = some x' → b[i]? = some y → b[j]? = some y' → (x = x' ↔ y = y')
/-- the seen ones are alike, too -/
theorem numF_congr : ∀ (a : List α) (b : List β) (sa : List α) (sb : List β), sa.length = sb.length → sa.Nodup → sb.Nodup → a.length = b.length →
    (∀ (i j : Nat) (x : α) (y : β) (x' : α) (y' : β), a[i]? = some x → b[i]? = some y → sa[j]? = some x' → sb[j]? = some y' → (x = x' ↔ y = y')) →
    (∀ (i j : Nat) (x x' : α) (y y' : β), a[i]? = some x → a[j]? = some x' → b[i]? = some y → b[j]? = some y' → (x = x' ↔ y = y')) → numF a sa = numF b sb
  | [], [], _, _, _, _, _, _, _, _ => rfl
  | [], _ :: _, _, _, _, _, _, h, _, _ => by cases h
  | _ :: _, [], _, _, _, _, _, h, _, _ => by cases h
  | x :: a, y :: b, sa, sb, hs, na, nb, hl, h1, h2 => by
    have hl' : a.length = b.length := Nat.succ.inj hl
    have h1' : ∀ (i j : Nat) (x : α) (y : β) (x' : α) (y' : β), a[i]? = some x → b[i]? = some y → sa[j]? = some x' → sb[j]? = some y' → (x = x' ↔ y = y') := fun i j u v u' v' e1 e2 e3 e4 => h1 (i + 1) j u v u' v' e1 e2 e3 e4
    have h2' : ∀ (i j : Nat) (x x' : α) (y y' : β), a[i]? = some x → a[j]? = some x' → b[i]? = some y → b[j]? = some y' → (x = x' ↔ y = y') := fun i j u u' v v' e1 e2 e3 e4 => h2 (i + 1) (j + 1) u u' v v' e1 e2 e3 e4
    have hm : x ∈ sa ↔ y ∈ sb := by
      constructor
      · intro h
        obtain ⟨j, hj, e⟩ := List.mem_iff_getElem.mp h
        have ej : sa[j]? = some x := by rw [List.getElem?_eq_getElem hj, e]
        have ej' : sb[j]? = some (sb[j]'(by omega)) := List.getElem?_eq_getElem (by omega)
        have := (h1 0 j x y x _ rfl rfl ej ej').mp rfl
        rw [this]
        exact List.getElem_mem _
      · intro h
        obtain ⟨j, hj, e⟩ := List.mem_iff_getElem.mp h
        have ej : sb[j]? = some y := by rw [List.getElem?_eq_getElem hj, e]
        have ej' : sa[j]? = some (sa[j]'(by omega)) := List.getElem?_eq_getElem (by omega)
        have := (h1 0 j x y _ y rfl rfl ej' ej).mpr rfl
        rw [this]
        exact List.getElem_mem _
    unfold numF
    by_cases hx : x ∈ sa
    · have hy := hm.mp hx
      rw [if_pos hx, if_pos hy]
      have ei : sa.idxOf x = sb.idxOf y := by
        have l1 := List.idxOf_lt_length_of_mem hx
        have e1 : sa[sa.idxOf x]? = some x := by rw [List.getElem?_eq_getElem l1, List.getElem_idxOf]
        have e2 : sb[sa.idxOf x]? = some (sb[sa.idxOf x]'(by omega)) := List.getElem?_eq_getElem (by omega)
        have e3 := (h1 0 _ x y x _ rfl rfl e1 e2).mp rfl
        have l2 := List.idxOf_lt_length_of_mem hy
        have e4 : sb[sb.idxOf y]'l2 = y := List.getElem_idxOf l2
        exact (List.getElem_inj (h₀ := (by omega : sa.idxOf x < sb.length)) (h₁ := l2) nb).mp (by rw [e4]; exact e3.symm)
      rw [ei, numF_congr a b sa sb hs na nb hl' h1' h2']
    · have hy : y ∉ sb := fun z => hx (hm.mpr z)
      rw [if_neg hx, if_neg hy, hs]
      congr 1
      have nd : ∀ {γ : Type} (s : List γ) (z : γ), s.Nodup → z ∉ s → (s ++ [z]).Nodup := fun s z h hz => by
        rw [List.nodup_append]
        exact ⟨h, List.nodup_cons.mpr ⟨List.not_mem_nil, List.nodup_nil⟩, fun a ha b hb e => hz (by rw [List.mem_singleton.mp hb] at e; rw [← e]; exact ha)⟩
      refine numF_congr a b _ _ (by rw [List.length_append, List.length_append, hs]; rfl) (nd _ _ na hx) (nd _ _ nb hy) hl' ?_ h2'
      intro i j u v u' v' e1 e2 e3 e4
      rcases Nat.lt_or_ge j sa.length with hj | hj
      · rw [List.getElem?_append_left hj] at e3
        rw [List.getElem?_append_left (by omega)] at e4
        exact h1' i j u v u' v' e1 e2 e3 e4
      · rw [List.getElem?_append_right hj] at e3
        rw [List.getElem?_append_right (by omega)] at e4
        have h0 : j - sa.length = 0 := by
          have := (List.getElem?_eq_some_iff.mp e3).1
          rw [List.length_singleton] at this
          omega
        rw [h0] at e3
        rw [← hs, h0] at e4
        cases e3
        cases e4
        exact h2 (i + 1) 0 u x v y e1 rfl e2 rfl
theorem numP_congr {a : List α} {b : List β} (h : SameP a b) : numP a = numP b :=
  numF_congr a b [] [] rfl List.nodup_nil List.nodup_nil h.1 (fun i j x y x' y' _ _ e _ => by cases e) h.2
/-- a key and its number -/
theorem numF_spec : ∀ (ks seen : List α), seen.Nodup → ∀ (i : Nat) (k : α), ks[i]? = some k → ∃ n, (numF ks seen)[i]? = some n ∧ (seenF ks seen)[n]? = some k
  | [], _, _, _, _, h => by cases h
  | k :: r, seen, nd, i, x, h => by
    have pre : ∀ (ks seen : List α) (n : Nat) (y : α), seen[n]? = some y → (seenF ks seen)[n]? = some y := by
      intro ks
      induction ks with
      | nil => exact fun seen n y e => e
      | cons k r ih =>
        intro seen n y e
        unfold seenF
        split
        · exact ih seen n y e
        · exact ih _ n y (by rw [List.getElem?_append_left (List.getElem?_eq_some_iff.mp e).1]; exact e)
    unfold numF seenF
    by_cases hk : k ∈ seen
    · rw [if_pos hk, if_pos hk]
      cases i with
      | zero =>
        cases h
        refine ⟨_, rfl, pre r seen _ _ ?_⟩
        rw [List.getElem?_eq_getElem (List.idxOf_lt_length_of_mem hk), List.getElem_idxOf]
      | succ i => exact numF_spec r seen nd i x h
    · rw [if_neg hk, if_neg hk]
      have nd2 : (seen ++ [k]).Nodup := by
        rw [List.nodup_append]
        exact ⟨nd, List.nodup_cons.mpr ⟨List.not_mem_nil, List.nodup_nil⟩, fun a ha b hb e => hk (by rw [List.mem_singleton.mp hb] at e; rw [← e]; exact ha)⟩
      cases i with
      | zero =>
        cases h
        refine ⟨_, rfl, pre r _ _ _ ?_⟩
        rw [List.getElem?_append_right (Nat.le_refl _), Nat.sub_self]
        rfl
      | succ i => exact numF_spec r _ nd2 i x h
theorem numP_eq {ks : List α} {i j : Nat} {x y : α} {n m : Nat} (hx : ks[i]? = some x) (hy : ks[j]? = some y) (hn : (numP ks)[i]? = some n) (hm : (numP ks)[j]? = some m) : n = m ↔ x = y := by
  obtain ⟨n', e1, e2⟩ := numF_spec ks [] List.nodup_nil i x hx
  obtain ⟨m', f1, f2⟩ := numF_spec ks [] List.nodup_nil j y hy
  have e1 : (numP ks)[i]? = some n' := e1
  have f1 : (numP ks)[j]? = some m' := f1
  rw [hn] at e1
  rw [hm] at f1
  cases e1
  cases f1
  constructor
  · intro e
    rw [e, f2] at e2
    exact (Option.some.inj e2).symm
  · intro e
    subst e
    have nd := seenF_nodup ks [] List.nodup_nil
    obtain ⟨l1, g1⟩ := List.getElem?_eq_some_iff.mp e2
    obtain ⟨l2, g2⟩ := List.getElem?_eq_some_iff.mp f2
    exact (List.getElem_inj (h₀ := l1) (h₁ := l2) nd).mp (by rw [g1, g2])
theorem numP_same (ks : List α) : SameP (numP ks) ks :=
  ⟨numP_len ks, fun i j n m x y hn hm hx hy => numP_eq hx hy hn hm⟩
theorem numP_idem (ks : List α) : numP (numP ks) = numP ks := numP_congr (numP_same ks)
/-- how many unlike ones -/
def cntP (ks : List α) : Nat := (seenF ks []).length
theorem cntP_le (ks : List α) : cntP ks ≤ ks.length := by
  have := seenF_len ks []
  unfold cntP
  simpa using this
theorem cnt_pairs : ∀ (zs : List (α × β)) (sa : List α) (sb : List β) (old : List (α × β)), (∀ a, a ∈ sa ↔ ∃ b, (a, b) ∈ old) → (∀ b, b ∈ sb ↔ ∃ a, (a, b) ∈ old) → (∀ p q, p ∈ old ++ zs → q ∈ old ++ zs → p.1 = q.1 → p.2 = q.2) →
    sb.length ≤ sa.length → (sb.length = sa.length → ∀ p q, p ∈ old → q ∈ old → p.2 = q.2 → p.1 = q.1) →
    (seenF (zs.map (·.2)) sb).length ≤ (seenF (zs.map (·.1)) sa).length ∧ ((seenF (zs.map (·.2)) sb).length = (seenF (zs.map (·.1)) sa).length → ∀ p q, p ∈ old ++ zs → q ∈ old ++ zs → p.2 = q.2 → p.1 = q.1)
  | [], sa, sb, old, _, _, _, h, h2 => ⟨h, fun e p q hp hq => h2 e p q (by simpa using hp) (by simpa using hq)⟩
  | (a, b) :: r, sa, sb, old, ha, hb, hf, h, h2 => by
    have eo : old ++ (a, b) :: r = (old ++ [(a, b)]) ++ r := by rw [List.append_assoc]; rfl
    rw [eo] at hf ⊢
    have mem : ∀ p : α × β, p ∈ old ++ [(a, b)] ↔ p ∈ old ∨ p = (a, b) := fun p => by rw [List.mem_append, List.mem_singleton]
    rw [List.map_cons, List.map_cons]
    unfold seenF
    by_cases hxa : a ∈ sa
    · have hxb : b ∈ sb := by
        obtain ⟨b', hb'⟩ := (ha a).mp hxa
        have := hf (a, b') (a, b) (by rw [List.mem_append, List.mem_append]; exact .inl (.inl hb')) (by rw [List.mem_append, mem]; exact .inl (.inr rfl)) rfl
        have this : b' = b := this
        rw [← this]
        exact (hb b').mpr ⟨a, hb'⟩
      rw [if_pos hxa, if_pos hxb]
      have ab : (a, b) ∈ old := by
        obtain ⟨b', hb'⟩ := (ha a).mp hxa
        have := hf (a, b') (a, b) (by rw [List.mem_append, List.mem_append]; exact .inl (.inl hb')) (by rw [List.mem_append, mem]; exact .inl (.inr rfl)) rfl
        have this : b' = b := this
        rw [← this]
        exact hb'
      refine cnt_pairs r sa sb (old ++ [(a, b)]) (fun x => ?_) (fun x => ?_) hf h (fun e p q hp hq => ?_)
      · rw [ha x]
        constructor
        · rintro ⟨y, hy⟩
          exact ⟨y, (mem _).mpr (.inl hy)⟩
        · rintro ⟨y, hy⟩
          rcases (mem _).mp hy with hy | hy
          · exact ⟨y, hy⟩
          · exact ⟨y, by rw [hy]; exact ab⟩
      · rw [hb x]
        constructor
        · rintro ⟨y, hy⟩
          exact ⟨y, (mem _).mpr (.inl hy)⟩
        · rintro ⟨y, hy⟩
          rcases (mem _).mp hy with hy | hy
          · exact ⟨y, hy⟩
          · exact ⟨y, by rw [hy]; exact ab⟩
      · have gp : p ∈ old := (by rcases (mem p).mp hp with z | z; exact z; rw [z]; exact ab)
        have gq : q ∈ old := (by rcases (mem q).mp hq with z | z; exact z; rw [z]; exact ab)
        exact h2 e p q gp gq
    · rw [if_neg hxa]
      have ha2 : ∀ x, x ∈ sa ++ [a] ↔ ∃ y, (x, y) ∈ old ++ [(a, b)] := fun x => by
        rw [List.mem_append, List.mem_singleton, ha x]
        constructor
        · rintro (⟨y, hy⟩ | rfl)
          · exact ⟨y, (mem _).mpr (.inl hy)⟩
          · exact ⟨b, (mem _).mpr (.inr rfl)⟩
        · rintro ⟨y, hy⟩
          rcases (mem _).mp hy with hy | hy
          · exact .inl ⟨y, hy⟩
          · exact .inr (Prod.mk.inj hy).1
      by_cases hxb : b ∈ sb
      · rw [if_pos hxb]
        refine cnt_pairs r (sa ++ [a]) sb (old ++ [(a, b)]) ha2 (fun x => ?_) hf (by rw [List.length_append]; exact Nat.le_trans h (Nat.le_add_right _ _)) (fun e => ?_)
        · rw [hb x]
          constructor
          · rintro ⟨y, hy⟩
            exact ⟨y, (mem _).mpr (.inl hy)⟩
          · rintro ⟨y, hy⟩
            rcases (mem _).mp hy with hy | hy
            · exact ⟨y, hy⟩
            · have : x = b := (Prod.mk.inj hy).2
              rw [this]
              exact (hb b).mp hxb
        · rw [List.length_append, List.length_singleton] at e
          omega
      · rw [if_neg hxb]
        refine cnt_pairs r (sa ++ [a]) (sb ++ [b]) (old ++ [(a, b)]) ha2 (fun x => ?_) hf (by rw [List.length_append, List.length_append]; exact Nat.add_le_add_right h _) (fun e p q hp hq epq => ?_)
        · rw [List.mem_append, List.mem_singleton, hb x]
          constructor
          · rintro (⟨y, hy⟩ | rfl)
            · exact ⟨y, (mem _).mpr (.inl hy)⟩
            · exact ⟨a, (mem _).mpr (.inr rfl)⟩
          · rintro ⟨y, hy⟩
            rcases (mem _).mp hy with hy | hy
            · exact .inl ⟨y, hy⟩
            · exact .inr (Prod.mk.inj hy).2
        · rw [List.length_append, List.length_append] at e
          have e : sb.length = sa.length := Nat.add_right_cancel e
          rcases (mem p).mp hp with zp | zp
          · rcases (mem q).mp hq with zq | zq
            · exact h2 e p q zp zq epq
            · rw [zq] at epq
              have epq : p.2 = b := epq
              exact absurd ((hb b).mpr ⟨p.1, by rw [← epq]; exact zp⟩) hxb
          · rcases (mem q).mp hq with zq | zq
            · rw [zp] at epq
              exact absurd ((hb b).mpr ⟨q.1, by rw [show b = q.2 from epq]; exact zq⟩) hxb
            · rw [zp, zq]
/-- finer ones are more, or the same -/
theorem cnt_finer {a : List α} {b : List β} (hl : a.length = b.length) (hf : ∀ (i j : Nat) (x : α) (y y' : β), a[i]? = some x → a[j]? = some x → b[i]? = some y → b[j]? = some y' → y = y') : cntP b ≤ cntP a ∧ (cntP b = cntP a → SameP a b) := by
  have hm1 : (a.zip b).map (·.1) = a := List.map_fst_zip (Nat.le_of_eq hl)
  have hm2 : (a.zip b).map (·.2) = b := List.map_snd_zip (Nat.le_of_eq hl.symm)
  have at_ : ∀ p ∈ a.zip b, ∃ i : Nat, a[i]? = some p.1 ∧ b[i]? = some p.2 := fun p hp => by
    obtain ⟨i, hi, e⟩ := List.mem_iff_getElem.mp hp
    have e2 : (a.zip b)[i]? = some p := by rw [List.getElem?_eq_getElem hi, e]
    exact ⟨i, List.getElem?_zip_eq_some.mp e2⟩
  have key := cnt_pairs (a.zip b) [] [] [] (fun x => ⟨(fun h => nomatch h), (fun ⟨_, h⟩ => nomatch h)⟩) (fun x => ⟨(fun h => nomatch h), (fun ⟨_, h⟩ => nomatch h)⟩) (fun p q hp hq e => by
    rw [List.nil_append] at hp hq
    obtain ⟨i, i1, i2⟩ := at_ p hp
    obtain ⟨j, j1, j2⟩ := at_ q hq
    rw [← e] at j1
    exact hf i j p.1 p.2 q.2 i1 j1 i2 j2) (Nat.le_refl _) (fun _ p q hp => nomatch hp)
  rw [hm1, hm2, List.nil_append] at key
  refine ⟨key.1, fun e => ⟨hl, fun i j x x' y y' h1 h2 h3 h4 => ⟨fun z => ?_, fun z => ?_⟩⟩⟩
  · subst z
    exact hf i j x y y' h1 h2 h3 h4
  · have m1 : (x, y) ∈ a.zip b := List.mem_of_getElem? (i := i) (List.getElem?_zip_eq_some.mpr ⟨h1, h3⟩)
    have m2 : (x', y') ∈ a.zip b := List.mem_of_getElem? (i := j) (List.getElem?_zip_eq_some.mpr ⟨h2, h4⟩)
    exact key.2 e (x, y) (x', y') m1 m2 z
end
end MS
end
section
set_option maxRecDepth 100000
set_option maxHeartbeats 4000000
namespace MS
open PySem L2
/-! ### numbered -/
abbrev s_numbered : Stmt := topS 55
abbrev nmNum : List Str := ["keys", "numbers", "told", "key"]
theorem sc_numbered : FnScope nmNum ["keys"] (defScope s_numbered) := ⟨rfl, rfl, rfl, by decide +kernel, rfl, by decide +kernel, by decide +kernel⟩
theorem u20 {k : Nat} {A : Around} (r : Room k A) : A.units + 20 < cLine := by have := r.un; omega
def natsV (l : List Nat) : List V := l.map fun n => V.int ((n : Nat) : Int)
theorem natsV_len (l : List Nat) : (natsV l).length = l.length := List.length_map _
theorem natsV_snoc (l : List Nat) (n : Nat) : natsV l ++ [V.int ((n : Nat) : Int)] = natsV (l ++ [n]) := by
  unfold natsV
  rw [List.map_append]
  rfl
/-- the pairs of a dict of numbers, keys ints -/
def numsI (seen : List Int) (n : Nat) : List (Key × V) := match seen with
  | [] => []
  | k :: r => (.inl k, .int ((n : Nat) : Int)) :: numsI r (n + 1)
theorem numsI_app (k : Int) : ∀ (seen : List Int) (n : Nat), numsI (seen ++ [k]) n = numsI seen n ++ [(.inl k, .int ((n + seen.length : Nat) : Int))]
  | [], n => rfl
  | x :: r, n => by
    show _ :: numsI (r ++ [k]) (n + 1) = _ :: (numsI r (n + 1) ++ _)
    rw [numsI_app k r (n + 1), show n + 1 + r.length = n + (x :: r).length by show _ = n + (r.length + 1); omega]
theorem numsI_len : ∀ (seen : List Int) (n : Nat), (numsI seen n).length = seen.length
  | [], _ => rfl
  | x :: r, n => by
    show (numsI r (n + 1)).length + 1 = r.length + 1
    rw [numsI_len r]
theorem numsI_none (k : Int) : ∀ (seen : List Int) (n : Nat), k ∉ seen → valV (numsI seen n) (.inl k : Key) = none
  | [], _, _ => rfl
  | x :: r, n, h => by
    have ih := numsI_none k r (n + 1) fun hm => h (List.mem_cons_of_mem _ hm)
    unfold valV at ih ⊢
    show (((((.inl x : Key), V.int ((n : Nat) : Int)) :: numsI r (n + 1)).find? _).map _) = none
    rw [List.find?_cons]
    have e : ¬ (.inl x : Key) = .inl k := fun e => h (by rw [Sum.inl.inj e]; exact List.mem_cons_self)
    simp only [e, decide_false]
    exact ih
theorem numsI_get {k : Int} : ∀ (seen : List Int) (n : Nat), k ∈ seen → valV (numsI seen n) (.inl k : Key) = some (.int ((n + seen.idxOf k : Nat) : Int))
  | [], _, h => nomatch h
  | x :: r, n, h => by
    unfold valV
    show (((((.inl x : Key), V.int ((n : Nat) : Int)) :: numsI r (n + 1)).find? _).map _) = _
    rw [List.find?_cons]
    by_cases e : x = k
    · subst e
      rw [List.idxOf_cons_self]
      simp
    · have e' : ¬ (.inl x : Key) = .inl k := fun z => e (Sum.inl.inj z)
      have hm : k ∈ r := (List.mem_cons.mp h).resolve_left fun z => e z.symm
      have ih := numsI_get r (n + 1) hm
      unfold valV at ih
      simp only [e', decide_false]
      have ei : (x :: r).idxOf k = r.idxOf k + 1 := by
        rw [List.idxOf_cons, show (x == k) = false from beq_eq_false_iff_ne.mpr e]
        rfl
      rw [ih, ei, show n + 1 + r.idxOf k = n + (r.idxOf k + 1) by omega]
theorem putK_new {kvs : List (Key × V)} {k : Key} {v : V} (h : valV kvs k = none) : putK kvs k v = kvs ++ [(k, v)] := by
  unfold putK
  rw [if_neg]
  rw [valV_any, h]
  decide
/-- the pairs of a dict of numbers, keys by nk -/
def numsG {κ : Type} (nk : κ → NestedKey) : List κ → List Addr → Nat → List NE
  | s :: S, a :: as, i => (nk s, a, .int ((i : Nat) : Int)) :: numsG nk S as (i + 1)
  | _, _, _ => []
section
variable {κ : Type} [DecidableEq κ] {nk : κ → NestedKey} (inj : ∀ a b, nk a = nk b → a = b)
theorem numsG_len : ∀ (S : List κ) (as : List Addr) (i : Nat), S.length = as.length → (numsG nk S as i).length = S.length
  | [], [], _, _ => rfl
  | [], _ :: _, _, h => nomatch h
  | _ :: _, [], _, h => nomatch h
  | s :: S, a :: as, i, h => by
    show (numsG nk S as (i + 1)).length + 1 = S.length + 1
    rw [numsG_len S as (i + 1) (Nat.succ.inj h)]
theorem numsG_app (s : κ) (a : Addr) : ∀ (S : List κ) (as : List Addr) (i : Nat), S.length = as.length → numsG nk (S ++ [s]) (as ++ [a]) i = numsG nk S as i ++ [(nk s, a, .int ((i + S.length : Nat) : Int))]
  | [], [], i, _ => rfl
  | [], _ :: _, _, h => nomatch h
  | _ :: _, [], _, h => nomatch h
  | t :: S, b :: as, i, h => by
    show _ :: numsG nk (S ++ [s]) (as ++ [a]) (i + 1) = _ :: (numsG nk S as (i + 1) ++ _)
    rw [numsG_app s a S as (i + 1) (Nat.succ.inj h)]
    rw [show i + 1 + S.length = i + (t :: S).length by show _ = i + (S.length + 1); omega]
include inj in
theorem numsG_none (s : κ) : ∀ (S : List κ) (as : List Addr) (i : Nat), s ∉ S → valN (numsG nk S as i) (nk s) = none
  | [], _, _, _ => rfl
  | _ :: _, [], _, _ => rfl
  | t :: S, b :: as, i, h => by
    have ih := numsG_none s S as (i + 1) fun hm => h (List.mem_cons_of_mem _ hm)
    unfold valN at ih ⊢
    show ((((nk t, b, V.int ((i : Nat) : Int)) :: numsG nk S as (i + 1)).find? _).map _) = none
    rw [List.find?_cons]
    have e : ¬ nk t = nk s := fun e => h (by rw [inj _ _ e]; exact List.mem_cons_self)
    simp only [e, decide_false]
    exact ih
include inj in
theorem numsG_get {s : κ} : ∀ (S : List κ) (as : List Addr) (i : Nat), S.length = as.length → s ∈ S → valN (numsG nk S as i) (nk s) = some (.int ((i + S.idxOf s : Nat) : Int))
  | [], _, _, _, h => nomatch h
  | _ :: _, [], _, h, _ => nomatch h
  | t :: S, b :: as, i, hl, h => by
    unfold valN
    show ((((nk t, b, V.int ((i : Nat) : Int)) :: numsG nk S as (i + 1)).find? _).map _) = _
    rw [List.find?_cons]
    by_cases e : t = s
    · subst e
      rw [List.idxOf_cons_self]
      simp
    · have e' : ¬ nk t = nk s := fun z => e (inj _ _ z)
      have hm : s ∈ S := (List.mem_cons.mp h).resolve_left fun z => e z.symm
      have ih := numsG_get S as (i + 1) (Nat.succ.inj hl) hm
      unfold valN at ih
      simp only [e', decide_false]
      have ei : (t :: S).idxOf s = S.idxOf s + 1 := by
        rw [List.idxOf_cons, show (t == s) = false from beq_eq_false_iff_ne.mpr e]
        rfl
      rw [ih, ei, show i + 1 + S.idxOf s = i + (S.idxOf s + 1) by omega]
end
/-- a class and the classes behind -/
abbrev KeyT : Type := Nat × List Nat
def nkK (k : KeyT) : NestedKey := .tup [.num ((k.1 : Nat) : Int), .tup (k.2.map fun n => .num ((n : Nat) : Int))]
theorem nums_inj2 : ∀ x y : List Nat, (x.map fun b => NestedKey.num ((b : Nat) : Int)) = (y.map fun b => NestedKey.num ((b : Nat) : Int)) → x = y
  | [], [], _ => rfl
  | [], _ :: _, h => nomatch h
  | _ :: _, [], h => nomatch h
  | a :: x, b :: y, h => by
    rw [List.map_cons, List.map_cons] at h
    injection h with h1 h2
    injection h1 with h1
    rw [Int.ofNat.inj h1, nums_inj2 x y h2]
theorem nkK_inj (s t : KeyT) (h : nkK s = nkK t) : s = t := by
  obtain ⟨a, x⟩ := s
  obtain ⟨b, y⟩ := t
  unfold nkK at h
  injection h with h
  injection h with h1 h2
  injection h1 with h1
  injection h2 with h2
  injection h2 with h2
  exact Prod.ext (Int.ofNat.inj h1) (nums_inj2 x y h2)
theorem nk_nats {H : Hp} : ∀ x : List Nat, NKeys H (x.map fun b => NestedKey.num ((b : Nat) : Int)) (natsV x)
  | [] => by
    unfold NKeys
    rfl
  | b :: x => by
    rw [List.map_cons]
    unfold NKeys
    refine ⟨_, _, rfl, ?_, nk_nats x⟩
    unfold NKey
    exact .inl rfl
/-- the key stands in the heap -/
def KyAt (H : Hp) (k : KeyT) (v : V) : Prop := ∃ a b, v = .ref a ∧ H a = some (.tup [.int ((k.1 : Nat) : Int), .ref b]) ∧ H b = some (.tup (natsV k.2))
theorem KyAt.keep {H H' : Hp} {k : KeyT} {v : V} (h : KyAt H k v) (t : TupK H H') : KyAt H' k v := by
  obtain ⟨a, b, e, h1, h2⟩ := h
  exact ⟨a, b, e, t _ _ h1, t _ _ h2⟩
theorem KyAt.key {H : Hp} {k : KeyT} {v : V} (h : KyAt H k v) : NKey H (nkK k) v := by
  obtain ⟨a, b, rfl, h1, h2⟩ := h
  unfold nkK NKey
  refine ⟨a, _, rfl, h1, ?_⟩
  unfold NKeys
  refine ⟨_, _, rfl, ?_, ?_⟩
  · unfold NKey
    exact .inl rfl
  · unfold NKeys
    refine ⟨_, _, rfl, ?_, ?_⟩
    · unfold NKey
      exact ⟨b, _, rfl, h2, nk_nats k.2⟩
    · unfold NKeys
      rfl
theorem nk_flat2 : ∀ x : List Nat, NestedKey.depthAll (x.map fun b => NestedKey.num ((b : Nat) : Int)) ≤ 1
  | [] => by decide
  | b :: x => by
    have := nk_flat2 x
    rw [List.map_cons]
    simp only [NestedKey.depthAll, NestedKey.depth]
    omega
theorem nkK_depth (s : KeyT) : (nkK s).depth ≤ 8 := by
  have := nk_flat2 s.2
  unfold nkK
  simp only [NestedKey.depthAll, NestedKey.depth]
  omega
theorem asg_of0 {te : TE} {i : Nat} {r : TS} {D : Ends} {σ : L2.St} {H : Hp} (h : te σ H fun v H1 => r D (σ.set i (some v)) H1) : tSeq (tAsg te (gName i)) r D σ H := h
theorem nd_got {P : Program} {w : World} {H : Hp} {d : Addr} {o : HO} {kvs : List NE} (n : NDict P w (upd H d o) d kvs) : ∃ H1, upd H d o = H1 ∧ (∀ b, b ≠ d → H1 b = H b) ∧ NDict P w H1 d kvs := ⟨_, rfl, fun b hb => upd_ne hb, n⟩
def spNumI : Sp := fun vs H Q _ => ∃ (ka : Addr) (ks : List Int), vs = [.ref ka] ∧ H ka = some (.lst (ks.map V.int)) ∧ ks.length ≤ 5000 ∧ ∀ (f : Addr) (H' : Hp), Same H H' → H f = none → H' f = some (.lst (natsV (numP ks))) → Q (.ref f) H'
def spNumN : Sp := fun vs H Q _ => ∃ (ka : Addr) (kv : List V) (ks : List KeyT), vs = [.ref ka] ∧ H ka = some (.lst kv) ∧ Paired (KyAt H) ks kv ∧ ks.length ≤ 5000 ∧ ∀ (f : Addr) (H' : Hp), Same H H' → H f = none → H' f = some (.lst (natsV (numP ks))) → Q (.ref f) H'
theorem num_step {α : Type} [DecidableEq α] {ks : List α} {i : Nat} {k : α} (h : ks[i]? = some k) : (k ∈ seenF (ks.take i) [] → numP (ks.take (i + 1)) = numP (ks.take i) ++ [(seenF (ks.take i) []).idxOf k] ∧ seenF (ks.take (i + 1)) [] = seenF (ks.take i) []) ∧
    (k ∉ seenF (ks.take i) [] → numP (ks.take (i + 1)) = numP (ks.take i) ++ [(seenF (ks.take i) []).length] ∧ seenF (ks.take (i + 1)) [] = seenF (ks.take i) [] ++ [k]) := by
  have tk : ks.take (i + 1) = ks.take i ++ [k] := by
    rw [List.take_succ, h]
    rfl
  unfold numP
  rw [tk, numF_app, seenF_app]
  exact ⟨fun hm => by rw [numF_in hm, seenF_in hm]; exact ⟨rfl, rfl⟩, fun hm => by rw [numF_out hm, seenF_out hm]; exact ⟨rfl, rfl⟩⟩
section
variable {P : Program} {w : World} {K : PySem.W.Frag} {mg : Str → Option Value} {base : Heap} {C : Addr}
theorem ok_numI (T : PTx w K mg) (D : Def K mg "numbered" s_numbered ["keys"]) : FnOk P w K mg base CX0 1 D.f D.fd ["keys"] spNumI := by
  have ml : mg "len" = none := T.free "len" (by decide +kernel)
  have nd := sc_numbered.nd
  refine D.ok sc_numbered (fun vs H Q E h => ?_) (fun cdv A outer s H vs Q E hr h => ?_)
  · obtain ⟨ka, ks, rfl, _⟩ := h
    rfl
  obtain ⟨ka, ks, rfl, eka, h5, q⟩ := h
  refine ⟨_, pss_cons (ps_set (i := 1) nd rfl (Or.inl rfl) pe_dnewK)
    (pss_cons (ps_set (i := 2) nd rfl (Or.inl rfl) (pe_lst pa_nil))
    (pss_cons (ps_for PassesOwn.never rfl (pi_list (pv 0)) (pg_name (i := 3) nd rfl (Or.inl rfl))
      (pss_one (ps_expr (pe_bm PySem.F.plainAttrs_list PySem.F.slot_list_append PySem.F.type_list_append mt_append (pv 2) (pa_cons (pe_dsetd (pv 1) (pv 3) (pe_callB call_lenD rfl ml PySem.boot_len (pa_cons (pv 1) pa_nil)) ⟨rfl, rfl, rfl, rfl⟩) pa_nil)))))
    (pss_one (ps_ret (pv 2))))), ?_⟩
  refine asg_of0 (te := tDNewK) (fun d hd => ?_)
  have s1 : Same H (upd H d (.dK [])) := Same.new hd
  have ed : upd H d (.dK []) d = some (.dK []) := upd_same
  have nk1 : ka ≠ d := ne_of_none eka hd
  generalize upd H d (.dK []) = H1 at *
  refine ⟨Nat.zero_le _, fun f hf => ?_⟩
  have s2 : Same H1 (upd H1 f (.lst [])) := Same.new hf
  have ef : upd H1 f (.lst []) f = some (.lst []) := upd_same
  have nfd : f ≠ d := (ne_of_none ed hf).symm
  have hf0 := s1.free hf
  have ed2 := s2 _ _ ed
  have eka2 := (s1.trans s2) _ _ eka
  have s02 := s1.trans s2
  generalize upd H1 f (.lst []) = H2 at *
  dsimp only [gName]
  have hkl : (ks.map V.int).length = ks.length := List.length_map _
  refine ⟨_, rfl, ka, rfl, ⟨_, SqL.of eka2⟩, for_list (K := K) (a := ka) (xs := ks.map V.int) (fun i σ H' => ∃ v3 : Option V, σ = [some (.ref ka), some (.ref d), some (.ref f), v3] ∧ Same H H' ∧ H' d = some (.dK (numsI (seenF (ks.take i) []) 0)) ∧ H' f = some (.lst (natsV (numP (ks.take i)))))
    ⟨none, rfl, s02, ed2, ef⟩ (fun i σ H' _ ⟨_, _, s, _⟩ => SqL.of (s _ _ eka)) ?_ ?_⟩
  · rintro i x σ H3 hi ⟨v3, rfl, s3, ed3, ef3⟩
    have hil : i < ks.length := by
      have z := (List.getElem?_eq_some_iff.mp hi).1
      rw [hkl] at z
      exact z
    have ek : ks[i]? = some (ks[i]'hil) := List.getElem?_eq_getElem hil
    have ex : x = V.int (ks[i]'hil) := Option.some.inj (hi.symm.trans (get_map V.int ks hil))
    subst ex
    obtain ⟨st1, st2⟩ := num_step ek
    generalize ks[i]'hil = k at *
    have sl : (seenF (ks.take i) []).length ≤ 5000 := by
      have := seenF_len (ks.take i) []
      rw [List.length_take] at this
      simp at this
      omega
    have nl : (numP (ks.take i)).length ≤ 5000 := by
      rw [numP_len, List.length_take]
      omega
    dsimp only [gName]
    refine ⟨_, rfl, .inl ⟨rfl, _, SqL.of ef3⟩, _, rfl, d, rfl, .inl ⟨_, .inl ed3⟩, _, rfl, _, rfl, d, _, rfl, ed3, _, .inl k, ed3, rfl, (by rw [numsI_len]; show _ < 2 ^ 24; omega), fun v hv => ?_, fun hn => ?_⟩
    · have hm : k ∈ seenF (ks.take i) [] := by
        by_cases hm : k ∈ seenF (ks.take i) []
        · exact hm
        · rw [numsI_none k _ 0 hm] at hv
          cases hv
      rw [numsI_get _ 0 hm, Nat.zero_add] at hv
      cases hv
      obtain ⟨e1, e2⟩ := st1 hm
      refine ⟨f, _, _, rfl, rfl, ef3, szN (by rw [natsV_len]; omega), ?_⟩
      refine ⟨_, rfl, Same.newer s3 hf0, by rw [upd_ne nfd.symm, e2]; exact ed3, by rw [upd_same, e1, ← natsV_snoc]⟩
    · have hm : k ∉ seenF (ks.take i) [] := fun hm => by
        rw [numsI_get _ 0 hm] at hn
        cases hn
      obtain ⟨e1, e2⟩ := st2 hm
      rw [putK_new hn, numsI_len]
      refine ⟨f, _, _, rfl, rfl, by rw [upd_ne nfd]; exact ef3, szN (by rw [natsV_len]; omega), ?_⟩
      refine ⟨_, rfl, Same.newer (Same.newer s3 hd) hf0, by rw [upd_ne nfd.symm, upd_same, e2, numsI_app, Nat.zero_add], by rw [upd_same, e1, ← natsV_snoc]⟩
  · rintro σ H3 ⟨v3, rfl, s3, ed3, ef3⟩
    rw [hkl, List.take_length] at ef3
    exact ⟨_, rfl, q f H3 s3 hf0 ef3⟩
theorem ok_numN (T : PTx w K mg) (D : Def K mg "numbered" s_numbered ["keys"]) : FnOk P w K mg base CX0 1 D.f D.fd ["keys"] spNumN := by
  have ml : mg "len" = none := T.free "len" (by decide +kernel)
  have nd := sc_numbered.nd
  refine D.ok sc_numbered (fun vs H Q E h => ?_) (fun cdv A outer s H vs Q E hr h => ?_)
  · obtain ⟨ka, kv, ks, rfl, _⟩ := h
    rfl
  obtain ⟨ka, kv, ks, rfl, eka, pk, h5, q⟩ := h
  refine ⟨_, pss_cons (ps_set (i := 1) nd rfl (Or.inl rfl) pe_nempty)
    (pss_cons (ps_set (i := 2) nd rfl (Or.inl rfl) (pe_lst pa_nil))
    (pss_cons (ps_for PassesOwn.never rfl (pi_list (pv 0)) (pg_name (i := 3) nd rfl (Or.inl rfl))
      (pss_one (ps_expr (pe_bm PySem.F.plainAttrs_list PySem.F.slot_list_append PySem.F.type_list_append mt_append (pv 2) (pa_cons (pe_nsetd (u20 hr) (pv 1) (pv 3) (pe_callB call_lenN rfl ml PySem.boot_len (pa_cons (pv 1) pa_nil)) ⟨rfl, rfl, rfl, rfl⟩) pa_nil)))))
    (pss_one (ps_ret (pv 2))))), ?_⟩
  refine asg_of0 (fun d hd n1 => ?_)
  obtain ⟨H1, e1, o1, n1⟩ := nd_got (P := P) (w := w) n1
  rw [e1]
  have s1 : Same H H1 := fun b o e => by rw [o1 b (ne_of_none e hd)]; exact e
  clear e1
  refine ⟨Nat.zero_le _, fun f hf => ?_⟩
  have s2 : Same H1 (upd H1 f (.lst [])) := Same.new hf
  have ef : upd H1 f (.lst []) f = some (.lst []) := upd_same
  have hf0 := s1.free hf
  have nfd : f ≠ d := (ne_of_none n1.obj hf).symm
  have n2 : NDict P w (upd H1 f (.lst [])) d [] := n1.keep (upd_ne nfd.symm) (Same.tupK s2)
  have s02 := s1.trans s2
  generalize upd H1 f (.lst []) = H2 at *
  dsimp only [gName]
  have hkv := Paired.length pk
  refine ⟨_, rfl, ka, rfl, ⟨_, SqL.of (s02 _ _ eka)⟩, for_list (K := K) (a := ka) (xs := kv) (fun i σ H' => ∃ (v3 : Option V) (as : List Addr), σ = [some (.ref ka), some (.ref d), some (.ref f), v3] ∧ Same H H' ∧ NDict P w H' d (numsG nkK (seenF (ks.take i) []) as 0) ∧ as.length = (seenF (ks.take i) []).length ∧ H' f = some (.lst (natsV (numP (ks.take i)))))
    ⟨none, [], rfl, s02, n2, rfl, ef⟩ (fun i σ H' _ ⟨_, _, _, s, _⟩ => SqL.of (s _ _ eka)) ?_ ?_⟩
  · rintro i x σ H3 hi ⟨v3, as, rfl, s3, n3, las, ef3⟩
    obtain ⟨k, ek, hk⟩ := paired_get' pk hi
    have hk3 := hk.keep (Same.tupK s3)
    obtain ⟨xa, _, rfl, _, _⟩ := id hk3
    obtain ⟨st1, st2⟩ := num_step ek
    have hil := (List.getElem?_eq_some_iff.mp ek).1
    have sl : (seenF (ks.take i) []).length ≤ 5000 := by
      have := seenF_len (ks.take i) []
      rw [List.length_take] at this
      simp at this
      omega
    have nl : (numP (ks.take i)).length ≤ 5000 := by
      rw [numP_len, List.length_take]
      omega
    have gl := numsG_len (nk := nkK) (seenF (ks.take i) []) as 0 las.symm
    dsimp only [gName]
    refine ⟨_, rfl, .inl ⟨rfl, _, SqL.of ef3⟩, _, rfl, d, rfl, ⟨_, n3⟩, _, rfl, _, rfl, d, _, rfl, n3, xa, _, nkK k, rfl, n3, hk3.key, nkK_depth k, (by rw [gl]; show _ < 2 ^ 24; omega), fun v hv => ?_, fun hn n4 => ?_⟩
    · have hm : k ∈ seenF (ks.take i) [] := by
        by_cases hm : k ∈ seenF (ks.take i) []
        · exact hm
        · rw [numsG_none nkK_inj k _ as 0 hm] at hv
          cases hv
      rw [numsG_get nkK_inj _ as 0 las.symm hm, Nat.zero_add] at hv
      cases hv
      obtain ⟨e1, e2⟩ := st1 hm
      refine ⟨f, _, _, rfl, rfl, ef3, szN (by rw [natsV_len]; omega), ?_⟩
      refine ⟨_, as, rfl, Same.newer s3 hf0, ?_, by rw [e2]; exact las, by rw [upd_same, e1, ← natsV_snoc]⟩
      rw [e2]
      exact n3.keep (upd_ne nfd.symm) (TupK.put ef3)
    · have hm : k ∉ seenF (ks.take i) [] := fun hm => by
        rw [numsG_get nkK_inj _ as 0 las.symm hm] at hn
        cases hn
      obtain ⟨e1, e2⟩ := st2 hm
      have ob3 := n3.obj
      obtain ⟨H4, eH4, o4, n4⟩ := nd_got (P := P) (w := w) n4
      rw [eH4]
      have t4 : TupK H3 H4 := fun b xs e => by rw [o4 b (ne_of e ob3 fun z => nomatch z)]; exact e
      have ef4 : H4 f = some (.lst (natsV (numP (ks.take i)))) := by rw [o4 f nfd]; exact ef3
      have s4 : Same H H4 := fun b o e => by rw [o4 b (ne_of_none e hd)]; exact s3 _ _ e
      clear eH4
      refine ⟨f, _, _, rfl, rfl, ef4, szN (by rw [natsV_len]; omega), ?_⟩
      refine ⟨_, as ++ [xa], rfl, Same.newer s4 hf0, ?_, by rw [e2, List.length_append, List.length_append, las]; rfl, by rw [upd_same, e1, ← natsV_snoc, gl]⟩
      rw [e2, numsG_app _ _ _ _ _ las.symm, Nat.zero_add]
      rw [gl] at n4
      exact n4.keep (upd_ne nfd.symm) (TupK.put ef4)
  · rintro σ H3 ⟨v3, as, rfl, s3, n3, las, ef3⟩
    rw [← hkv, List.take_length] at ef3
    exact ⟨_, rfl, q f H3 s3 hf0 ef3⟩
end
end MS
end
section
set_option maxRecDepth 100000
set_option maxHeartbeats 4000000
namespace MS
open PySem L2
/-! ### finer -/
abbrev s_finer : Stmt := topS 56
abbrev nmFi : List Str := ["classes", "nexts", "keys", "number", "coming", "later"]
theorem sc_finer : FnScope nmFi ["classes", "nexts"] (defScope s_finer) := ⟨rfl, rfl, rfl, by decide +kernel, rfl, by decide +kernel, by decide +kernel⟩
/-- the dicts of the next states: the numbers that they hold -/
def NxV (H : Hp) (nx : List (List Nat)) (nv : List V) : Prop := Paired (fun (l : List Nat) v => ∃ c ks, v = V.ref c ∧ H c = some (.dK ks) ∧ ks.map (·.2) = natsV l) nx nv
theorem NxV.keep {H H' : Hp} {nx : List (List Nat)} {nv : List V} (h : NxV H nx nv) (k : KD H H') : NxV H' nx nv := paired_imp h fun _ _ ⟨c, ks, e, h1, h2⟩ => ⟨c, ks, e, k _ _ h1, h2⟩
def keysOf (cls : List Nat) (nx : List (List Nat)) : List KeyT := (List.range nx.length).map fun i => (cls.getD i 0, (nx.getD i []).map fun l => cls.getD l 0)
theorem keysOf_len (cls : List Nat) (nx : List (List Nat)) : (keysOf cls nx).length = nx.length := by
  unfold keysOf
  rw [List.length_map, List.length_range]
theorem keysOf_at {cls : List Nat} {nx : List (List Nat)} {i : Nat} {l : List Nat} (h : nx[i]? = some l) : (keysOf cls nx)[i]? = some (cls.getD i 0, l.map fun l => cls.getD l 0) := by
  have hi := (List.getElem?_eq_some_iff.mp h).1
  unfold keysOf
  rw [List.getElem?_map, List.getElem?_range hi]
  have e : nx.getD i [] = l := by
    rw [List.getD_eq_getElem?_getD, h]
    rfl
  show some (cls.getD i 0, (nx.getD i []).map fun l => cls.getD l 0) = _
  rw [e]
def NxOk (n : Nat) (nx : List (List Nat)) : Prop := nx.length = n ∧ ∀ l ∈ nx, l.length ≤ 100 ∧ ∀ x ∈ l, x < n
def spFiner : Sp := fun vs H Q _ => ∃ (ca na : Addr) (cls : List Nat) (nv : List V) (nx : List (List Nat)), vs = [.ref ca, .ref na] ∧ H ca = some (.lst (natsV cls)) ∧ H na = some (.lst nv) ∧ NxV H nx nv ∧ NxOk cls.length nx ∧ cls.length ≤ 5000 ∧
  ∀ (f : Addr) (H' : Hp), Same H H' → H f = none → H' f = some (.lst (natsV (numP (keysOf cls nx)))) → Q (.ref f) H'
theorem natsV_at {cls : List Nat} {i : Nat} (h : i < cls.length) : (natsV cls)[i]? = some (V.int ((cls.getD i 0 : Nat) : Int)) := by
  unfold natsV
  rw [List.getElem?_map, List.getElem?_eq_getElem h, List.getD_eq_getElem?_getD, List.getElem?_eq_getElem h]
  rfl
section
variable {P : Program} {w : World} {K : PySem.W.Frag} {mg : Str → Option Value} {base : Heap} {C : Addr}
theorem ok_finer (T : PTx w K mg) (D : Def K mg "finer" s_finer ["classes", "nexts"]) (DN : Def K mg "numbered" s_numbered ["keys"]) : FnOk P w K mg base CX0 2 D.f D.fd ["classes", "nexts"] spFiner := by
  have GN : FnOk P w K mg base CX0 1 DN.f DN.fd ["keys"] spNumN := ok_numN T DN
  have mt : mg "tuple" = none := T.free "tuple" (by decide +kernel)
  have nd := sc_finer.nd
  refine D.ok sc_finer (fun vs H Q E h => ?_) (fun cdv A outer s H vs Q E hr h => ?_)
  · obtain ⟨ca, na, cls, nv, nx, rfl, _⟩ := h
    rfl
  obtain ⟨ca, na, cls, nv, nx, rfl, eca, ena, pn, hok, h5, q⟩ := h
  refine ⟨_, pss_cons (ps_set (i := 2) nd rfl (Or.inl rfl) (pe_lst pa_nil))
    (pss_cons (ps_for PassesOwn.never rfl (pi_enum rfl (T.free "enumerate" (by decide +kernel)) (pa_cons (pv 1) pa_nil)) (pg_tup rfl (pgs_cons (pg_name (i := 3) nd rfl (Or.inl rfl)) (pgs_cons (pg_name (i := 4) nd rfl (Or.inl rfl)) pgs_nil)))
      (pss_one (ps_expr (pe_bm PySem.F.plainAttrs_list PySem.F.slot_list_append PySem.F.type_list_append mt_append (pv 2) (pa_cons (pe_tup (pa_cons (pe_ix (r := rIxL K) ix_list (pv 0) (pv 3) (fun _ _ => rfl)) (pa_cons (pe_callTy call_tuple_of rfl mt (by decide +kernel) (pa_cons
        (pe_lock (pe_lc (own := [("later", 5)]) (g := gName 5) (tt := tYes) rfl nd (pi_values (pv 4)) (blkOk_by (N := nmFi) (sc := defScope s_finer) (by decide +kernel)) (fun _ _ _ _ _ => pg_name (i := 5) nd rfl (Or.inl rfl)) (fun _ _ _ _ _ => pts_nil) (fun _ _ _ _ _ => pe_ix (r := rIxL K) ix_list (pv 0) (pv 5) (fun _ _ => rfl)))) pa_nil)) pa_nil))) pa_nil)))))
    (pss_one (ps_ret (pcall DN GN hr (pa_cons (pv 2) pa_nil))))), ?_⟩
  obtain ⟨hnx, hin⟩ := hok
  refine ⟨Nat.zero_le _, fun f hf => ?_⟩
  have s1 : Same H (upd H f (.lst [])) := Same.new hf
  have ef : upd H f (.lst []) f = some (.lst []) := upd_same
  generalize upd H f (.lst []) = H1 at *
  dsimp only [gName]
  have hnv := Paired.length pn
  refine ⟨_, rfl, na, nv, rfl, SqL.of (s1 _ _ ena), for_it (walk_enum (K := K) (a := na) (xs := nv)) (fun i σ H' => ∃ (v3 v4 : Option V) (kv : List V), σ = [some (.ref ca), some (.ref na), some (.ref f), v3, v4, none] ∧ Same H H' ∧ H' f = some (.lst kv) ∧ Paired (KyAt H') ((keysOf cls nx).take i) kv)
    ⟨none, none, [], rfl, s1, ef, .nil⟩ (fun i σ H' _ ⟨_, _, _, _, s, _⟩ => SqL.of (s _ _ ena)) ?_ ?_⟩
  · rintro i x σ H2 H3 hi ⟨v3, v4, kv, rfl, s2, ef2, pk⟩ ⟨T1, x1, x2, rfl, hT1, rfl, ex1, ex2⟩
    obtain rfl : V.int ((i : Nat) : Int) = x1 := Option.some.inj ex1
    have ex2 : nv[i]? = some x2 := ex2
    obtain ⟨l, el, c, ks, rfl, ec, eks⟩ := paired_get' pn ex2
    have il := (List.getElem?_eq_some_iff.mp el).1
    obtain ⟨l100, lin⟩ := hin l (List.mem_of_getElem? el)
    have sT : Same H2 (upd H2 T1 (.tup [.int ((i : Nat) : Int), .ref c])) := Same.new hT1
    have eT : upd H2 T1 (.tup [.int ((i : Nat) : Int), .ref c]) T1 = some (.tup [.int ((i : Nat) : Int), .ref c]) := upd_same
    generalize upd H2 T1 (.tup [.int ((i : Nat) : Int), .ref c]) = H3 at *
    have s3 := s2.trans sT
    have ec3 := s3 _ _ ec
    have ef3 := sT _ _ ef2
    have nfc : f ≠ c := ne_of ef3 ec3 fun z => nomatch z
    refine ⟨T1, _, rfl, SqT.of eT, rfl, _, _, rfl, _, _, rfl, rfl, ?_⟩
    dsimp only [gName]
    refine ⟨_, rfl, .inl ⟨rfl, _, SqL.of ef3⟩, _, rfl, _, rfl, ca, _, _, _, rfl, rfl, SqL.of (s3 _ _ eca), atI_nat (natsV_at (by omega)), c, _, ec3, True.intro, fun od => ?_⟩
    have nd' : ∀ b o, b ≠ c → H3 b = some o → upd H3 c (.frz od (.dK ks)) b = some o := fun b o n e => by rw [upd_ne n]; exact e
    refine ⟨_, rfl, c, od, ks, rfl, upd_same, fun Dd hDd => ?_⟩
    have hDd3 : H3 Dd = none := by
      by_cases e : Dd = c
      · rw [e, upd_same] at hDd
        cases hDd
      · rw [upd_ne e] at hDd
        exact hDd
    have ncD : c ≠ Dd := ne_of_none ec3 hDd3
    have nca : ca ≠ c := ne_of (s3 _ _ eca) ec3 fun z => nomatch z
    have hkl : ks.length = l.length := by
      have := congrArg List.length eks
      rw [List.length_map, natsV_len] at this
      exact this
    refine lc_it (walk_values (d := c) (o := od) (kvs := ks)) (fun j H' => (∀ b o, b ≠ c → H3 b = some o → H' b = some o) ∧ H' c = some (.frz od (.dK ks)) ∧ H' Dd = some (.lst (natsV ((l.take j).map fun x => cls.getD x 0)))) ⟨fun b o n e => Same.new hDd _ _ (nd' b o n e), by rw [upd_ne ncD]; exact upd_same, upd_same⟩ (fun j H' _ ⟨_, e, _⟩ => e) ?_ ?_
    · rintro j y _ H4 hj ⟨k4, ec4, eD4⟩ ⟨rfl, kk, ekk⟩
      have ey : (natsV l)[j]? = some y := by
        rw [← eks, List.getElem?_map, ekk]
        rfl
      have jl : j < l.length := by omega
      have ey2 : y = V.int ((l[j]'jl : Nat) : Int) := by
        unfold natsV at ey
        rw [List.getElem?_map, List.getElem?_eq_getElem jl] at ey
        exact (Option.some.inj ey).symm
      subst ey2
      have tk : l.take (j + 1) = l.take j ++ [l[j]'jl] := List.take_succ_eq_append_getElem jl
      have lm := lin _ (List.getElem_mem jl)
      generalize l[j]'jl = m at *
      refine ⟨rfl, _, rfl, _, rfl, ca, _, _, _, rfl, rfl, SqL.of (k4 _ _ nca (s3 _ _ eca)), atI_nat (natsV_at lm), _, eD4, szN (by rw [natsV_len, List.length_map, List.length_take]; omega), fun b o n e => ?_, by rw [upd_ne ncD]; exact ec4, by rw [upd_same, tk, List.map_append, natsV_snoc]; rfl⟩
      rw [upd_ne (ne_of_none e hDd3)]
      exact k4 b o n e
    · rintro H4 ⟨k4, ec4, eD4⟩
      rw [hkl, List.take_length] at eD4
      refine ⟨ec4, ?_⟩
      have s5 : Same H3 (upd H4 c (.dK ks)) := fun b o e => by
        by_cases z : b = c
        · rw [z, upd_same]
          rw [z, ec3] at e
          exact e
        · rw [upd_ne z]
          exact k4 b o z e
      have eD5 : upd H4 c (.dK ks) Dd = some (.lst (natsV (l.map fun x => cls.getD x 0))) := by rw [upd_ne ncD.symm]; exact eD4
      generalize upd H4 c (.dK ks) = H5 at *
      refine ⟨Dd, _, rfl, .inl ⟨SqL.of eD5, fun t ht => ⟨sz2, fun u hu => ?_⟩⟩⟩
      have s6 : Same H5 (upd H5 t (.tup (natsV (l.map fun x => cls.getD x 0)))) := Same.new ht
      have et : upd H5 t (.tup (natsV (l.map fun x => cls.getD x 0))) t = some (.tup (natsV (l.map fun x => cls.getD x 0))) := upd_same
      generalize upd H5 t (.tup (natsV (l.map fun x => cls.getD x 0))) = H6 at *
      have s7 : Same H6 (upd H6 u (.tup [.int ((cls.getD i 0 : Nat) : Int), .ref t])) := Same.new hu
      have eu : upd H6 u (.tup [.int ((cls.getD i 0 : Nat) : Int), .ref t]) u = some (.tup [.int ((cls.getD i 0 : Nat) : Int), .ref t]) := upd_same
      generalize upd H6 u (.tup [.int ((cls.getD i 0 : Nat) : Int), .ref t]) = H7 at *
      have s37 := (s5.trans s6).trans s7
      have ef7 := s37 _ _ ef3
      have hkv := Paired.length pk
      rw [List.length_take, keysOf_len] at hkv
      have tP : TupK H7 (upd H7 f (.lst (kv ++ [.ref u]))) := TupK.put ef7
      refine ⟨f, _, _, rfl, rfl, ef7, szN (by omega), ?_⟩
      refine ⟨_, _, kv ++ [.ref u], rfl, Same.newer (s3.trans s37) hf, upd_same, ?_⟩
      rw [List.take_succ, keysOf_at el]
      exact paired_app (paired_imp pk fun _ _ z => (z.keep (Same.tupK (sT.trans s37))).keep tP) (.cons ⟨u, t, rfl, tP _ _ eu, tP _ _ (s7 _ _ et)⟩ .nil)
  · rintro σ H2 ⟨v3, v4, kv, rfl, s2, ef2, pk⟩
    have hkl : nv.length = (keysOf cls nx).length := by rw [keysOf_len]; exact hnv.symm
    rw [hkl, List.take_length] at pk
    refine ⟨_, rfl, f, kv, keysOf cls nx, rfl, ef2, pk, by rw [keysOf_len]; omega, fun g H3 s3 hg eg => ?_⟩
    exact q g H3 (s2.trans s3) (s2.free hg) eg
end
end MS
end
section
set_option maxRecDepth 100000
set_option maxHeartbeats 4000000
namespace MS
open PySem L2
/-! ### levels_of -/
abbrev s_levels_of : Stmt := topS 57
abbrev nmLe : List Str := ["points", "nexts", "levels", "classes"]
theorem sc_levels_of : FnScope nmLe ["points", "nexts"] (defScope s_levels_of) := ⟨rfl, rfl, rfl, by decide +kernel, rfl, by decide +kernel, by decide +kernel⟩
def lvN (pts : List Int) (nx : List (List Nat)) : Nat → List Nat
  | 0 => numP pts
  | t + 1 => numP (keysOf (lvN pts nx t) nx)
theorem lvN_len {pts : List Int} {nx : List (List Nat)} (h : nx.length = pts.length) : ∀ t, (lvN pts nx t).length = pts.length
  | 0 => numP_len pts
  | t + 1 => by
    show (numP _).length = _
    rw [numP_len, keysOf_len, h]
theorem lvN_idem (pts : List Int) (nx : List (List Nat)) : ∀ t, numP (lvN pts nx t) = lvN pts nx t
  | 0 => numP_idem pts
  | t + 1 => numP_idem _
theorem SameP.symm {α β : Type} [DecidableEq α] [DecidableEq β] {a : List α} {b : List β} (h : SameP a b) : SameP b a := ⟨h.1.symm, fun i j y y' x x' h1 h2 h3 h4 => (h.2 i j x x' y y' h3 h4 h1 h2).symm⟩
theorem cnt_same {α β : Type} [DecidableEq α] [DecidableEq β] {a : List α} {b : List β} (h : SameP a b) : cntP a = cntP b := by
  have h1 := (cnt_finer h.1 fun i j x y y' e1 e2 e3 e4 => (h.2 i j x x y y' e1 e2 e3 e4).mp rfl).1
  have h2 := (cnt_finer h.symm.1 fun i j x y y' e1 e2 e3 e4 => (h.symm.2 i j x x y y' e1 e2 e3 e4).mp rfl).1
  omega
theorem keys_fine {cls : List Nat} {nx : List (List Nat)} (h : nx.length = cls.length) : ∀ (i j : Nat) (x : KeyT) (y y' : Nat), (keysOf cls nx)[i]? = some x → (keysOf cls nx)[j]? = some x → cls[i]? = some y → cls[j]? = some y' → y = y' := by
  intro i j x y y' h1 h2 h3 h4
  have hi := (List.getElem?_eq_some_iff.mp h3).1
  have hj := (List.getElem?_eq_some_iff.mp h4).1
  rw [keysOf_at (List.getElem?_eq_getElem (by omega : i < nx.length))] at h1
  rw [keysOf_at (List.getElem?_eq_getElem (by omega : j < nx.length))] at h2
  have e := congrArg Prod.fst ((Option.some.inj h1).trans (Option.some.inj h2).symm)
  have e : cls.getD i 0 = cls.getD j 0 := e
  rw [List.getD_eq_getElem?_getD, List.getD_eq_getElem?_getD, h3, h4] at e
  exact e
theorem lvN_more {pts : List Int} {nx : List (List Nat)} (h : nx.length = pts.length) {t : Nat} (hn : lvN pts nx (t + 1) ≠ lvN pts nx t) : cntP (lvN pts nx t) < cntP (lvN pts nx (t + 1)) := by
  have hl : nx.length = (lvN pts nx t).length := by rw [lvN_len h, h]
  obtain ⟨c1, c2⟩ := cnt_finer (a := keysOf (lvN pts nx t) nx) (b := lvN pts nx t) (by rw [keysOf_len]; exact hl) (keys_fine hl)
  have c3 : cntP (lvN pts nx (t + 1)) = cntP (keysOf (lvN pts nx t) nx) := cnt_same (numP_same _)
  rcases Nat.lt_or_eq_of_le c1 with c | c
  · omega
  · refine absurd ?_ hn
    show numP (keysOf (lvN pts nx t) nx) = _
    rw [numP_congr (c2 c), lvN_idem]
theorem lvN_cnt {pts : List Int} {nx : List (List Nat)} (h : nx.length = pts.length) (h0 : 0 < pts.length) : ∀ t, (∀ s, s < t → lvN pts nx (s + 1) ≠ lvN pts nx s) → t + 1 ≤ cntP (lvN pts nx t)
  | 0, _ => by
    cases e : lvN pts nx 0 with
    | nil =>
      have := lvN_len h 0
      rw [e] at this
      rw [← this] at h0
      cases h0
    | cons a r =>
      unfold cntP
      rw [seenF_out List.not_mem_nil]
      have : ∀ (l s : List Nat), s.length ≤ (seenF l s).length := by
        intro l
        induction l with
        | nil => exact fun s => Nat.le_refl _
        | cons a r ih =>
          intro s
          by_cases hm : a ∈ s
          · rw [seenF_in hm]
            exact ih s
          · rw [seenF_out hm]
            have := ih (s ++ [a])
            rw [List.length_append] at this
            omega
      exact this r ([] ++ [a])
  | t + 1, hs => by
    have := lvN_cnt h h0 t fun s h => hs s (by omega)
    have := lvN_more h (hs t (by omega))
    omega
open PySem.W PyProof.Rows in
theorem eqv_nats : ∀ xs ys : List Nat, PyData.eqvAll (xs.map fun n => PyData.int ((n : Nat) : Int)) (ys.map fun n => PyData.int ((n : Nat) : Int)) = decide (xs = ys)
  | [], [] => by rfl
  | [], y :: ys => by rfl
  | x :: xs, [] => by rfl
  | x :: xs, y :: ys => by
    rw [List.map_cons, List.map_cons, eqv_all_cons, eqv_nats xs ys]
    by_cases e : x = y
    · subst e
      simp [PyData.eqv]
    · have : ((x : Nat) : Int) ≠ ((y : Nat) : Int) := fun z => e (Int.ofNat.inj z)
      simp [PyData.eqv, e]
      exact fun z => absurd z this
def natsD (l : List Nat) : PyData := .list (l.map fun n => PyData.int ((n : Nat) : Int))
theorem nats_dp {K : PySem.W.Frag} {H : Hp} {a : Addr} {l : List Nat} (e : H a = some (.lst (natsV l))) : Dp K H (.ref a) (natsD l) := by
  refine .lst (SqL.of e) ?_
  have : ∀ l : List Nat, DpAll K H (natsV l) (l.map fun n => PyData.int ((n : Nat) : Int)) := fun l => by
    induction l with
    | nil => exact .nil
    | cons n r ih => exact .cons (.int _) ih
  exact this l
theorem nats_sh (l : List Nat) : ShN 1 (natsD l) := ShN.lst (ShAll.of fun d hd => by
  obtain ⟨n, _, rfl⟩ := List.mem_map.mp hd
  exact .int _)
theorem eqv_natsD (a b : List Nat) : PyData.eqv (natsD a) (natsD b) = decide (a = b) := eqv_nats a b
theorem at_snoc (xs : List V) (x : V) : atI (xs ++ [x]) (-1) = some x := atI_last xs x
theorem paired_impM2 {α β : Type} {R R' : α → β → Prop} : ∀ {xs : List α} {ys : List β}, Paired R xs ys → (∀ x y, y ∈ ys → R x y → R' x y) → Paired R' xs ys
  | _, _, .nil, _ => .nil
  | _, _, .cons h t, k => .cons (k _ _ List.mem_cons_self h) (paired_impM2 t fun x y hy => k x y (List.mem_cons_of_mem _ hy))
def LvAt (H : Hp) (pts : List Int) (nx : List (List Nat)) (t : Nat) (v : V) : Prop := ∃ a, v = .ref a ∧ H a = some (.lst (natsV (lvN pts nx t)))
def spLevels : Sp := fun vs H Q _ => ∃ (pa na : Addr) (pts : List Int) (nv : List V) (nx : List (List Nat)), vs = [.ref pa, .ref na] ∧ H pa = some (.lst (pts.map V.int)) ∧ H na = some (.lst nv) ∧ NxV H nx nv ∧ NxOk pts.length nx ∧ pts.length ≤ 5000 ∧ 0 < pts.length ∧
  ∀ (f : Addr) (H' : Hp) (fv : List V) (t : Nat), Same H H' → H f = none → H' f = some (.lst fv) → Paired (LvAt H' pts nx) (List.range (t + 1)) fv → lvN pts nx (t + 1) = lvN pts nx t → (∀ s, s < t → lvN pts nx (s + 1) ≠ lvN pts nx s) → Q (.ref f) H'
section
variable {P : Program} {w : World} {K : PySem.W.Frag} {mg : Str → Option Value} {base : Heap} {C : Addr}
theorem ok_levels (T : PTx w K mg) (D : Def K mg "levels_of" s_levels_of ["points", "nexts"]) (DF : Def K mg "finer" s_finer ["classes", "nexts"]) (DN : Def K mg "numbered" s_numbered ["keys"]) : FnOk P w K mg base CX0 3 D.f D.fd ["points", "nexts"] spLevels := by
  have GN : FnOk P w K mg base CX0 1 DN.f DN.fd ["keys"] spNumI := ok_numI T DN
  have GF : FnOk P w K mg base CX0 2 DF.f DF.fd ["classes", "nexts"] spFiner := ok_finer T DF DN
  have nd := sc_levels_of.nd
  refine D.ok sc_levels_of (fun vs H Q E h => ?_) (fun cdv A outer s H vs Q E hr h => ?_)
  · obtain ⟨pa, na, pts, nv, nx, rfl, _⟩ := h
    rfl
  obtain ⟨pa, na, pts, nv, nx, rfl, epa, ena, pn, hok, h5, h0, q⟩ := h
  have hr1 : Room 1 _ := hr.mono (by decide)
  refine ⟨_, pss_cons (ps_set (i := 2) nd rfl (Or.inl rfl) (pe_lst pa_nil))
    (pss_cons (ps_set (i := 3) nd rfl (Or.inl rfl) (pcall DN GN hr1 (pa_cons (pv 0) pa_nil)))
    (pss_cons (ps_while PassesOwn.never (PW.pt (pw_or (pt_not (pt_truth (pv 2) (by intro _; rfl))) (pw_or1 (pt_cmpR (op_neD hr.units) (pv 3) (pe_ix (r := rIxL K) ix_list (pv 2) (pe_un un_neg pe_int) (fun _ _ => rfl)) (nomark _)))))
      (pss_cons (ps_expr (pe_bm PySem.F.plainAttrs_list PySem.F.slot_list_append PySem.F.type_list_append mt_append (pv 2) (pa_cons (pv 3) pa_nil)))
      (pss_one (ps_set (i := 3) nd rfl (Or.inl rfl) (pcall DF GF hr (pa_cons (pv 3) (pa_cons (pv 1) pa_nil)))))))
    (pss_one (ps_ret (pv 2))))), ?_⟩
  have hnl := hok.1
  have hlv := lvN_len hnl
  refine ⟨Nat.zero_le _, fun f hf => ?_⟩
  have s1 : Same H (upd H f (.lst [])) := Same.new hf
  have ef : upd H f (.lst []) f = some (.lst []) := upd_same
  generalize upd H f (.lst []) = H1 at *
  dsimp only [gName]
  refine ⟨_, rfl, pa, pts, rfl, s1 _ _ epa, h5, fun c H2 s2 hc ec => ?_⟩
  have s02 := s1.trans s2
  dsimp only [gName]
  let Iv : Nat → L2.St → Hp → Prop := fun t σ H' => ∃ (c : Addr) (fv : List V), σ = [some (.ref pa), some (.ref na), some (.ref f), some (.ref c)] ∧ Same H H' ∧ H' f = some (.lst fv) ∧ H' c = some (.lst (natsV (lvN pts nx t))) ∧ Paired (LvAt H' pts nx) (List.range t) fv ∧ c ≠ f ∧ (∀ a ∈ fv, a ≠ V.ref f) ∧ ∀ s, s + 1 < t → lvN pts nx (s + 1) ≠ lvN pts nx s
  refine ⟨fun m σ H' => ∃ t, m = pts.length + 2 - t ∧ Iv t σ H', ⟨_, 0, rfl, c, [], rfl, s02, s2 _ _ ef, ec, .nil, (ne_of_none ef hc).symm, (fun _ h => nomatch h), fun s h => by omega⟩, ?_⟩
  rintro m σ H3 ⟨t, rfl, c, fv, rfl, s3, ef3, ec3, pf, ncf, nfv, hne⟩
  have hfv := Paired.length pf
  rw [List.length_range] at hfv
  -- one turn more
  have go : (∀ s, s < t → lvN pts nx (s + 1) ≠ lvN pts nx s) → ∀ (D0 : Ends), (∀ σ' H', Iv (t + 1) σ' H' → D0.nx σ' H') → (tSeq (tDrop (tBM K "list" rAppend (tVar 2) (tCons (tVar 3) tNil))) (tAsg (tCall spFiner [] E0 (tCons (tVar 3) (tCons (tVar 1) tNil))) (gName 3))) D0 [some (.ref pa), some (.ref na), some (.ref f), some (.ref c)] H3 := by
    intro hs D0 hN
    refine ⟨_, rfl, .inl ⟨rfl, _, SqL.of ef3⟩, _, rfl, f, _, _, rfl, rfl, ef3, ?_, ?_⟩
    · have := lvN_cnt hnl h0 t hs
      have h2 := cntP_le (lvN pts nx t)
      rw [hlv t] at h2
      exact szN (by omega)
    have k4 : ∀ b o, H3 b = some o → b ≠ f → upd H3 f (.lst (fv ++ [.ref c])) b = some o := fun b o e n => by rw [upd_ne n]; exact e
    have s4 : Same H (upd H3 f (.lst (fv ++ [.ref c]))) := Same.newer s3 hf
    have ef4 : upd H3 f (.lst (fv ++ [.ref c])) f = some (.lst (fv ++ [.ref c])) := upd_same
    have ec4 := k4 _ _ ec3 ncf
    have kd4 : KD H (upd H3 f (.lst (fv ++ [.ref c]))) := fun c' ks e => s4 _ _ e
    generalize upd H3 f (.lst (fv ++ [.ref c])) = H4 at *
    refine ⟨_, rfl, _, rfl, c, na, lvN pts nx t, nv, nx, rfl, ec4, s4 _ _ ena, pn.keep kd4, by rw [hlv]; exact hok, by rw [hlv]; exact h5, fun g H5 s5 hg eg => ?_⟩
    refine hN _ _ ⟨g, fv ++ [.ref c], rfl, s4.trans s5, s5 _ _ ef4, eg, ?_, (ne_of_none ef4 hg).symm, fun a ha => ?_, fun s hs' => hs s (by omega)⟩
    · rw [List.range_succ]
      refine paired_app ?_ (.cons ⟨c, rfl, s5 _ _ ec4⟩ .nil)
      refine paired_impM2 pf fun t' v hv ⟨a, e, h⟩ => ⟨a, e, s5 _ _ (k4 _ _ h fun z => nfv v hv (by rw [e, z]))⟩
    · rcases List.mem_append.mp ha with ha | ha
      · exact nfv a ha
      · rw [List.mem_singleton.mp ha]
        exact fun z => ncf (V.ref.inj z)
  refine ⟨_, rfl, !fv.isEmpty, .inl ⟨fv, SqL.of ef3, rfl⟩, ?_⟩
  cases t with
  | zero =>
    have : fv = [] := List.length_eq_zero_iff.mp hfv.symm
    subst this
    refine iteT (iteT ⟨fun σ' H' => Iv 1 σ' H', fun σ' H' h => ⟨pts.length + 2 - 1, by omega, 1, rfl, h⟩, ?_⟩)
    exact go (fun s h => by omega) _ fun _ _ h => h
  | succ t =>
    rw [List.range_succ] at pf
    obtain ⟨fv', v, rfl, pf', a, rfl, ea⟩ := paired_snoc_inv pf
    rw [show (!!(fv' ++ [V.ref a]).isEmpty) = false by simp]
    refine iteF ⟨_, rfl, _, rfl, 1, rfl, f, _, -1, .ref a, rfl, rfl, SqL.of ef3, atI_last fv' (V.ref a), natsD (lvN pts nx (t + 1)), natsD (lvN pts nx t), nats_dp ec3, nats_dp ea, (nats_sh _).ok (by decide), (nats_sh _).ok (by decide), _, rfl, ?_⟩
    rw [eqv_natsD]
    by_cases e : lvN pts nx (t + 1) = lvN pts nx t
    · rw [decide_eq_true e]
      refine iteF ⟨_, rfl, ?_⟩
      refine q f H3 (fv' ++ [.ref a]) t s3 hf ef3 (by rw [List.range_succ]; exact pf) e fun s hs => hne s (by omega)
    · rw [decide_eq_false e]
      have hs : ∀ s, s < t + 1 → lvN pts nx (s + 1) ≠ lvN pts nx s := fun s hs' => by
        by_cases z : s = t
        · rw [z]
          exact e
        · exact hne s (by omega)
      have := lvN_cnt hnl h0 (t + 1) hs
      have h2 := cntP_le (lvN pts nx (t + 1))
      rw [hlv (t + 1)] at h2
      refine iteT ⟨fun σ' H' => Iv (t + 1 + 1) σ' H', fun σ' H' h => ⟨pts.length + 2 - (t + 1 + 1), by omega, t + 1 + 1, rfl, h⟩, ?_⟩
      exact go hs _ fun _ _ h => h
end
end MS
end
section
set_option maxRecDepth 100000
set_option maxHeartbeats 4000000
namespace MS
open PySem L2
/-! ### points_by, span -/
theorem FnOk.ex {P : Program} {w : World} {K : PySem.W.Frag} {mg : Str → Option Value} {base : Heap} {CX : CXT} {k : Nat} {f : Addr} {fd : FuncData} {ps : List Str} {α : Type} {sp : α → Sp} (F : ∀ x, FnOk P w K mg base CX k f fd ps (sp x)) : FnOk P w K mg base CX k f fd ps (fun vs H Q E => ∃ x, sp x vs H Q E) :=
  ⟨fun vs H Q E ⟨x, q⟩ => (F x).len vs H Q E q, fun A outer s H args us vs Q E hr he hb hv ⟨x, hs⟩ => (F x).run A outer s H args us vs Q E hr he hb hv hs⟩
abbrev s_points_by : Stmt := topS 54
abbrev psPB : List Str := ["paper", "work", "leads"]
abbrev nmPB : List Str := ["paper", "work", "leads", "lead"]
theorem sc_points_by : FnScope nmPB psPB (defScope s_points_by) := ⟨rfl, rfl, rfl, by decide +kernel, rfl, by decide +kernel, by decide +kernel⟩
def ptsOf (ps : List Sch) (ws l : List StepT) : Int := ((pts (rAll ps (ws ++ l)) : Nat) : Int)
def spPointsBy (ps : List Sch) (ws : List StepT) : Sp := fun vs H Q _ => ∃ (pa wa la : Addr) (pv lv : List V) (L : List (List StepT)), vs = [.ref pa, .ref wa, .ref la] ∧ H pa = some (.tup pv) ∧ Paired (SAt H 5) ps pv ∧ PaperOk ps ∧ H wa = some (.lst (stepsV ws)) ∧ H la = some (.lst lv) ∧ L.length ≤ 2048 ∧
  Paired (fun ls v => ∃ a, v = .ref a ∧ H a = some (.lst (stepsV ls)) ∧ StepsOk (ws ++ ls)) L lv ∧ ∀ (f : Addr) (H' : Hp), Same H H' → H f = none → H' f = some (.lst ((L.map (ptsOf ps ws)).map V.int)) → Q (.ref f) H'
section
variable {P : Program} {w : World} {K : PySem.W.Frag} {mg : Str → Option Value} {base : Heap} {C : Addr}
theorem ok_points_by (ps : List Sch) (ws : List StepT) (T : PTx w K mg) (Y : VCls K mg C) (D : Def K mg "points_by" s_points_by psPB) (DR : DRows K mg) (DP : Def K mg "points_of" s_points_of ["rows"]) : FnOk P w K mg base CX0 95 D.f D.fd psPB (spPointsBy ps ws) := by
  have GR : FnOk P w K mg base CX0 94 DR.DB.f DR.DB.fd ["paper", "work"] (fun vs H Q E => ∃ x, spRowsBy1 x vs H Q E) := FnOk.ex fun x => ok_rows_by x T Y DR
  have GP : FnOk P w K mg base CX0 1 DP.f DP.fd ["rows"] spPoints := ok_points_of T DP
  have nd := sc_points_by.nd
  refine D.ok sc_points_by (fun vs H Q E h => ?_) (fun cdv A outer s H vs Q E hr h => ?_)
  · obtain ⟨pa, wa, la, pv, lv, L, rfl, _⟩ := h
    rfl
  obtain ⟨pa, wa, la, pv0, lv, L, rfl, epv, pp, hP, ewa, ela, hL, pl, q⟩ := h
  have hr1 : Room 1 _ := hr.mono (by decide)
  refine ⟨_, pss_one (ps_ret (pe_lc (own := [("lead", 3)]) (g := gName 3) (tt := tYes) rfl nd (pi_list (pv 2)) (blkOk_by (N := nmPB) (sc := defScope s_points_by) (by decide +kernel)) (fun _ _ _ _ _ => pg_name (i := 3) nd rfl (Or.inl rfl)) (fun _ _ _ _ _ => pts_nil)
    (fun _ _ _ _ _ => pcall DP GP hr1 (pa_cons (pcall DR.DB GR hr (pa_cons (pv 0) (pa_cons (pe_op op_cat (pv 1) (pv 3)) pa_nil))) pa_nil)))), ?_⟩
  have hlv := Paired.length pl
  refine ⟨_, rfl, la, rfl, ⟨_, SqL.of ela⟩, fun D hD => ?_⟩
  refine lc_list (K := K) (a := la) (xs := lv) (fun j H' => Same H H' ∧ H' D = some (.lst (((L.take j).map (ptsOf ps ws)).map V.int))) ⟨Same.new hD, upd_same⟩ (fun j H' _ ⟨s, _⟩ => SqL.of (s _ _ ela)) ?_ ?_
  · rintro j y H1 hj ⟨s1, eD⟩
    obtain ⟨ls, els, a, rfl, ea, hok⟩ := paired_get' pl hj
    have hwl : (stepsV ws).length + (stepsV ls).length = (ws ++ ls).length := by
      unfold stepsV
      rw [List.length_map, List.length_map, List.length_append]
    have h4 := hok.2
    refine ⟨rfl, _, rfl, _, rfl, _, rfl, wa, a, _, _, rfl, rfl, s1 _ _ ewa, s1 _ _ ea, szN (by rw [hwl]; omega), fun f1 hf1 => ?_⟩
    have s2 := s1.trans (Same.new (o := .lst (stepsV ws ++ stepsV ls)) hf1)
    have e12 : stepsV ws ++ stepsV ls = stepsV (ws ++ ls) := by
      unfold stepsV
      rw [List.map_append]
    refine ⟨⟨(ps, ws ++ ls), hP, hok⟩, pa, f1, rfl, ⟨⟨pv0, s2 _ _ epv, paired_imp pp fun _ _ => SAt.keep (Same.tupK s2) _ _ _⟩, by rw [upd_same, e12]⟩, fun f2 rv H6 s6 hf2 ef2 pr => ?_⟩
    have s36 := s2.trans s6
    have eD6 := s6 _ _ (Same.new (o := .lst (stepsV ws ++ stepsV ls)) hf1 _ _ eD)
    refine ⟨f2, _, rv, rfl, ef2, pr, Nat.le_trans (rAll_len ⟨(ps, ws ++ ls), hP, hok⟩) (by decide), fun H7 s7 => ?_⟩
    have hjl := (List.getElem?_eq_some_iff.mp els).1
    refine ⟨_, s7 _ _ eD6, szN (by rw [List.length_map, List.length_map, List.length_take]; omega), Same.newer (s36.trans s7) hD, ?_⟩
    rw [upd_same, List.take_succ, els]
    simp only [List.map_append, Option.toList, List.map_cons, List.map_nil]
    rfl
  · rintro H1 ⟨s1, eD⟩
    rw [← hlv, List.take_length] at eD
    exact q D H1 s1 hD eD
end

end MS
end
section
set_option maxRecDepth 100000
set_option maxHeartbeats 4000000
namespace MS
open PySem L2
/-! ### span -/
theorem allS_mem : ∀ p ∈ allSteps, p.1 ∈ wordsL ∧ p.2 ∈ marksL := by decide +kernel
theorem allS_ok : ∀ p ∈ allSteps, IsStep p := fun p hp => ⟨(allS_mem p hp).1, (allS_mem p hp).2⟩
theorem steps_pw : allSteps.Pairwise ltT := by decide +kernel
theorem WorkFrom.all2 {w : Bool} {ws : List StepT} (h : WorkFrom w ws) : ∀ p ∈ ws, IsStep p := h.all
theorem goes_mem {α β : Type} {f : β → α → β} {may : β → α → Bool} {sl : List α} : ∀ {s : β} {l : List α}, Goes f may sl s l → ∀ p ∈ l, p ∈ sl
  | _, [], _, p, h => nomatch h
  | s, a :: r, ⟨h1, h2⟩, p, h => by
    rcases List.mem_cons.mp h with h | h
    · rw [h]; exact h1.1
    · exact goes_mem h2 p h

end MS
end
section
set_option maxRecDepth 100000
set_option maxHeartbeats 4000000
namespace MS
open PySem L2
/-! ### what span tells, of every work that may come (pure) -/
theorem allSteps_mem {p : StepT} (h : IsStep p) : p ∈ allSteps := by
  obtain ⟨x, m⟩ := p
  have key : ∀ x ∈ wordsL, ∀ m ∈ marksL, ((x, m) : StepT) ∈ allSteps := by decide +kernel
  exact key x h.1 m h.2
theorem goes_of {W : List Wt} : ∀ (m : List StepT) (s : StT) (w : Bool), s.1 = w → WorkFrom w m → Goes (stB W) mayB allSteps s m
  | [], _, _, _, _ => True.intro
  | p :: r, s, w, e, h => by
    obtain ⟨h1, h2, h3⟩ := h
    refine ⟨⟨allSteps_mem h1, ?_⟩, goes_of r _ _ ?_ h3⟩
    · show (s.1 || !(p.2 == "c")) = true
      cases hc : p.2 == ("c" : Str) with
      | false => rw [Bool.not_false, Bool.or_true]
      | true => rw [e, h2 (beq_iff_eq.mp hc), Bool.true_or]
    · show (s.1 || p.2 == "w") = _
      rw [e]
theorem run_app (W : List Wt) (ws l : List StepT) : runS W (ws ++ l) = l.foldl (stB W) (runS W ws) := by
  unfold runS
  rw [List.foldl_append]
theorem lt_tr : ∀ a b c : StepT, ltT a b → ltT b c → ltT a c := fun a b c h k => by
  show Spec.ltCps _ _ = true
  have h : Spec.ltCps (stepS a).cps.toList (stepS b).cps.toList = true := h
  have k : Spec.ltCps (stepS b).cps.toList (stepS c).cps.toList = true := k
  rw [PyProof.Rows.ltCps_eq, decide_eq_true_eq] at *
  exact List.lt_trans h k
theorem lt_ir : ∀ a : StepT, ¬ ltT a a := fun a h => by
  have h : Spec.ltCps (stepS a).cps.toList (stepS a).cps.toList = true := h
  rw [PyProof.Rows.ltCps_eq, decide_eq_true_eq] at h
  exact List.lt_irrefl _ h
section
variable {ps : List Sch} {ws : List StepT} {S : List StT} {L : List (List StepT)} {lo hi : Int} {i j : Nat} {x y : List StepT}
end
/-! the law's compare -/
theorem stepS_inj {p q : StepT} (hp : IsStep p) (hq : IsStep q) (h : stepS p = stepS q) : p = q := by
  have key : ∀ p ∈ allSteps, ∀ q ∈ allSteps, stepS p = stepS q → p = q := by decide +kernel
  exact key p (allSteps_mem hp) q (allSteps_mem hq) h
end MS
end
section
set_option maxRecDepth 100000
set_option maxHeartbeats 4000000
namespace MS
open PySem L2
/-! ### draws: a step, a work (the letters a text) -/
abbrev lettersT : Str := "abcdefgh"
theorem letter_at {r : Int} (h0 : 0 ≤ r) (h1 : r < 8) : ∃ c, atI lettersT.cps.toList r = some c ∧ IsW (⟨#[c]⟩ : Str) := by
  have e : r = 0 ∨ r = 1 ∨ r = 2 ∨ r = 3 ∨ r = 4 ∨ r = 5 ∨ r = 6 ∨ r = 7 := by omega
  rcases e with rfl | rfl | rfl | rfl | rfl | rfl | rfl | rfl
  · exact ⟨97, by decide +kernel, by unfold IsW; decide +kernel⟩
  · exact ⟨98, by decide +kernel, by unfold IsW; decide +kernel⟩
  · exact ⟨99, by decide +kernel, by unfold IsW; decide +kernel⟩
  · exact ⟨100, by decide +kernel, by unfold IsW; decide +kernel⟩
  · exact ⟨101, by decide +kernel, by unfold IsW; decide +kernel⟩
  · exact ⟨102, by decide +kernel, by unfold IsW; decide +kernel⟩
  · exact ⟨103, by decide +kernel, by unfold IsW; decide +kernel⟩
  · exact ⟨104, by decide +kernel, by unfold IsW; decide +kernel⟩
def spStepT : Sp := fun vs H Q _ => ∃ (b l : Addr) (c : Bool), vs = [.ref b, .str lettersT, .bl c] ∧ Box H b l ∧
  ∀ (p : StepT) (H' : Hp), IsStep p → (p.2 = "c" → c = true) → Box H' b l → Keep [b, l] H H' → Q (.str (stepS p)) H'
abbrev psStep : List Str := ["_law_box", "_law_letters_here", "_law_was_wrong"]
abbrev psWork : List Str := ["_law_box", "_law_letters_here", "_law_most"]
section
variable {P : Program} {w : World} {K : PySem.W.Frag} {mg : Str → Option Value} {base : Heap}
theorem ok_stepT (D : Def K mg "_law_step" s_L_step psStep) (DT : Def K mg "_law_take" s_L_take ["_law_box", "_law_many"]) (ml : mg "len" = none) : FnOk P w K mg base CX0 2 D.f D.fd psStep spStepT := by
  have GT : FnOk P w K mg base CX0 1 DT.f DT.fd ["_law_box", "_law_many"] spTake := ok_take DT
  refine D.ok sc_L_step (fun vs H Q E h => ?_) (fun cdv A outer s H vs Q E hr h => ?_)
  · obtain ⟨b, l, c, rfl, _⟩ := h
    rfl
  obtain ⟨b, l, c, rfl, B, q⟩ := h
  refine ⟨_, pss_cons (ps_set (i := 3) sc_L_step.nd rfl (Or.inl rfl) (pe_ix ix_list (pe_lst (pa_cons pe_str (pa_cons pe_str (pa_cons pe_str (pa_cons pe_str pa_nil))))) (pcall DT GT hr (pa_cons (pv 0) (pa_cons pe_int pa_nil))) (fun _ _ => rfl)))
    (pss_one (ps_ret (pe_op op_add_str (pe_ix ix_str (pv 1) (pcall DT GT hr (pa_cons (pv 0) (pa_cons (pe_callB call_len_str rfl ml PySem.boot_len (pa_cons (pv 1) pa_nil)) pa_nil))) (fun _ _ => rfl))
      (pe_ifExp (PW.pt (pw_or (pt_cmpR op_ne (pv 3) pe_str (nomark _)) (pw_or1 (pt_val (pv 2))))) (pv 3) pe_str)))), ?_⟩
  refine ⟨(by show 4 ≤ sizeLine; decide), fun T hT => ?_⟩
  refine ⟨_, rfl, b, l, 4, rfl, by decide, by decide, B.new hT, fun r H1 a0 a1 B1 k1 => ?_⟩
  have k2 : Keep [b, l] H H1 := (Keep.new hT).trans k1
  have eT := k1 T _ upd_same (B.nin hT)
  obtain ⟨m, em, hm⟩ := pick_mark a0 a1
  refine ⟨T, _, r, .str m, rfl, rfl, SqL.of eT, em, ?_⟩
  refine ⟨_, rfl, _, rfl, _, rfl, lettersT, rfl, (by decide +kernel), b, l, _, rfl, (by decide +kernel), (by decide +kernel), B1, fun r2 H2 b0 b1 B2 k3 => ?_⟩
  have b1 : r2 < 8 := by
    have e : ((lettersT.length : Nat) : Int) = 8 := by decide +kernel
    rw [e] at b1
    exact b1
  obtain ⟨x, ex, hx⟩ := letter_at b0 b1
  refine ⟨lettersT, r2, x, rfl, rfl, (by decide +kernel), ex, ?_⟩
  have fin : ∀ m' : Str, IsM m' → (m' = "c" → c = true) → (⟨#[x]⟩ : Str).length + m'.length ≤ sizeLine ∧ Q (.str ((⟨#[x]⟩ : Str) ++ m')) H2 := fun m' h1 h2 =>
    ⟨by rw [hx.len, h1.len]; decide, q (⟨#[x]⟩, m') H2 ⟨hx, h1⟩ h2 B2 (k2.trans k3)⟩
  refine ⟨_, rfl, rfl, _, rfl, ?_⟩
  refine ite2 (fun c1 => ?_) (fun c1 => ?_)
  · refine iteT ⟨_, rfl, _, m, rfl, rfl, fin m hm fun e => ?_⟩
    subst e
    exact absurd c1 (by decide +kernel)
  · have e : m = "c" := by
      by_cases z : m = "c"
      · exact z
      · refine absurd ?_ c1
        rw [decide_eq_false (fun y => z (V.str.inj y))]
        rfl
    subst e
    refine ⟨_, rfl, c, rfl, ?_⟩
    cases c with
    | true => exact iteT ⟨_, rfl, _, "c", rfl, rfl, fin "c" hm fun _ => rfl⟩
    | false => exact iteF ⟨_, "w", rfl, rfl, fin "w" (by unfold IsM; decide +kernel) fun e => absurd e (by decide +kernel)⟩
def spWorkT : Sp := fun vs H Q _ => ∃ (b l : Addr), vs = [.ref b, .str lettersT, .int 12] ∧ Box H b l ∧
  ∀ (p : Addr) (ws : List StepT) (H' : Hp), H p = none → H' p = some (.lst (stepsV ws)) → WorkOk ws → Box H' b l → Keep [b, l] H H' → Q (.ref p) H'
theorem ok_workT (D : Def K mg "_law_work" s_L_work psWork) (DT : Def K mg "_law_take" s_L_take ["_law_box", "_law_many"]) (DS : Def K mg "_law_step" s_L_step psStep) (ml : mg "len" = none) (mr : mg "range" = none) (ma : mg "any" = none) :
    FnOk P w K mg base CX0 3 D.f D.fd psWork spWorkT := by
  have GT : FnOk P w K mg base CX0 1 DT.f DT.fd ["_law_box", "_law_many"] spTake := ok_take DT
  have GS : FnOk P w K mg base CX0 2 DS.f DS.fd psStep spStepT := ok_stepT DS DT ml
  refine D.ok sc_L_work (fun vs H Q E h => ?_) (fun cdv A outer s H vs Q E hr h => ?_)
  · obtain ⟨b, l, rfl, _⟩ := h
    rfl
  obtain ⟨b, l, rfl, B, q⟩ := h
  have hr1 : Room 1 _ := hr.mono (by decide)
  have nd := sc_L_work.nd
  refine ⟨_, pss_cons (ps_set (i := 3) nd rfl (Or.inl rfl) (pe_lst pa_nil))
    (pss_cons (ps_for PassesOwn.never rfl (pi_range1 rfl mr (pa_cons (pcall DT GT hr1 (pa_cons (pv 0) (pa_cons (pe_op op_add (pv 2) pe_int) pa_nil))) pa_nil)) (pg_name (i := 4) nd rfl (Or.inl rfl))
      (pss_one (ps_expr (pe_bm PySem.F.plainAttrs_list PySem.F.slot_list_append PySem.F.type_list_append mt_append (pv 3)
        (pa_cons (pcall DS GS hr (pa_cons (pv 0) (pa_cons (pv 1) (pa_cons (pe_callB (cr_any rfl) rfl ma (by decide +kernel) (pa_cons
          (pe_lc (own := [("_law_step_here", 5)]) (g := gName 5) (tt := tYes) rfl nd (pi_list (pv 3)) (blkOk_by (N := ["_law_box", "_law_letters_here", "_law_most", "_law_found", "_law_turn", "_law_step_here"]) (sc := defScope s_L_work) (by decide +kernel)) (fun _ _ _ _ _ => pg_name (i := 5) nd rfl (Or.inl rfl)) (fun _ _ _ _ _ => pts_nil)
            (fun _ _ _ _ _ => pe_cmpR op_eq (pe_ix ix_str (pv 5) pe_int (fun _ _ => rfl)) pe_str (nomark _))) pa_nil)) pa_nil)))) pa_nil)))))
    (pss_one (ps_ret (pv 3)))), ?_⟩
  refine ⟨Nat.zero_le _, fun f hf => ?_⟩
  have nfb := B.ne_new hf
  refine ⟨_, rfl, _, rfl, _, _, rfl, rfl, b, l, _, rfl, by decide, by decide, B.new hf, fun r H1 a0 a1 B1 k1 => ?_⟩
  have a1' : r < 13 := a1
  have nin : ∀ {x : Addr}, x ≠ b ∧ x ≠ l → x ∉ [b, l] := fun {x} h => by simp [h.1, h.2]
  refine ⟨_, rfl, by omega, by omega, ?_⟩
  refine for_range (lo := 0) (n := r.toNat) (fun i σ H' => ∃ (ws : List StepT) (v : Option V), σ = [some (.ref b), some (.str lettersT), some (.int 12), some (.ref f), v, none] ∧ H' f = some (.lst (stepsV ws)) ∧ ws.length = i ∧ WorkFrom false ws ∧ Box H' b l ∧ Keep [b, l] H H')
    ⟨[], none, rfl, k1 _ _ upd_same (nin nfb), rfl, trivial, B1, (Keep.new hf).trans k1⟩ ?_ ?_
  · rintro i σ H' hi ⟨ws, v, rfl, ef, hl, hw, B', k'⟩
    have lws : (stepsV ws).length = ws.length := List.length_map _
    have all := hw.all
    refine ⟨_, rfl, .inl ⟨rfl, _, SqL.of ef⟩, _, rfl, _, rfl, _, rfl, f, rfl, ⟨_, SqL.of ef⟩, fun D hD => ?_⟩
    have nfD : f ≠ D := ne_of_none ef hD
    refine lc_list (K := K) (a := f) (xs := stepsV ws) (fun j H'' => H'' = upd H' D (.lst ((ws.take j).map fun p : StepT => V.bl (p.2 == ("w" : Str))))) rfl (fun j H'' _ e => by rw [e]; exact SqL.of (by rw [upd_ne nfD]; exact ef)) ?_ ?_
    · rintro j x H'' hj rfl
      have hjl : j < ws.length := by
        have z := (List.getElem?_eq_some_iff.mp hj).1
        rw [lws] at z
        exact z
      have ex : x = V.str (stepS (ws[j]'hjl)) := by
        have z := get_map (fun p => V.str (stepS p)) ws hjl
        exact Option.some.inj (hj.symm.trans z)
      subst ex
      have hs := all _ (List.getElem_mem hjl)
      obtain ⟨c, ec, em⟩ := hs.at1
      refine ⟨rfl, _, rfl, _, 1, c, rfl, rfl, by rw [hs.len]; decide, ec, rfl, _, upd_same, ?_, ?_⟩
      · rw [List.length_map, List.length_take]
        exact small1000 (by omega)
      · rw [upd_upd, em, List.take_succ_eq_append_getElem hjl, List.map_append, dec_str]
        rfl
    · rintro H'' rfl
      rw [lws, List.take_length]
      refine ⟨D, ws.map fun p : StepT => p.2 == ("w" : Str), rfl, SqL.of (by rw [upd_same, List.map_map]; rfl), ?_⟩
      have kD : Keep [b, l] H' (upd H' D (.lst (ws.map fun p : StepT => V.bl (p.2 == ("w" : Str))))) := Keep.new hD
      refine ⟨b, l, _, rfl, B'.new hD, fun p H2 hp hc B2 k2 => ?_⟩
      have ef2 := (kD.trans k2) f _ ef (nin nfb)
      refine ⟨f, _, _, rfl, rfl, ef2, by rw [lws]; exact small1000 (by omega), ?_⟩
      refine ⟨ws ++ [p], _, rfl, ?_, ?_, hw.snoc hp fun e => ?_, B2.put nfb.1 nfb.2, ((k'.trans (kD.trans k2)).newer hf)⟩
      · rw [upd_same]
        unfold stepsV
        rw [List.map_append]
        rfl
      · rw [List.length_append, hl]
        rfl
      · have z := hc e
        rw [Bool.false_or]
        unfold anyWrong
        rw [← z]
        simp [List.any_map]
  · rintro σ H' ⟨ws, v, rfl, ef, hl, hw, B', k'⟩
    exact ⟨_, rfl, q f ws H' hf ef ⟨hw, by omega⟩ B' k'⟩
end
/-! ### what span tells is one (pure) -/
theorem FnOk.or {P : Program} {w : World} {K : PySem.W.Frag} {mg : Str → Option Value} {base : Heap} {CX : CXT} {k : Nat} {f : Addr} {fd : FuncData} {ps : List Str} {sp sp' : Sp} (F : FnOk P w K mg base CX k f fd ps sp) (G : FnOk P w K mg base CX k f fd ps sp') : FnOk P w K mg base CX k f fd ps (fun vs H Q E => sp vs H Q E ∨ sp' vs H Q E) :=
  ⟨fun vs H Q E h => h.elim (F.len vs H Q E) (G.len vs H Q E), fun A outer s H args us vs Q E hr he hb hv h => h.elim (F.run A outer s H args us vs Q E hr he hb hv) (G.run A outer s H args us vs Q E hr he hb hv)⟩
theorem step_tri {p q : StepT} (hp : IsStep p) (hq : IsStep q) : ltT p q ∨ p = q ∨ ltT q p := by
  have key : ∀ p ∈ allSteps, ∀ q ∈ allSteps, ltT p q ∨ p = q ∨ ltT q p := by decide +kernel
  exact key p (allSteps_mem hp) q (allSteps_mem hq)
theorem lex_tri : ∀ xs ys : List StepT, (∀ p ∈ xs, IsStep p) → (∀ p ∈ ys, IsStep p) → xs.length = ys.length → lexL ltT xs ys ∨ xs = ys ∨ lexL ltT ys xs
  | [], [], _, _, _ => .inr (.inl rfl)
  | [], _ :: _, _, _, h => by cases h
  | _ :: _, [], _, _, h => by cases h
  | p :: xs, q :: ys, hx, hy, h => by
    rcases step_tri (hx p List.mem_cons_self) (hy q List.mem_cons_self) with z | z | z
    · exact .inl (.inl z)
    · subst z
      rcases lex_tri xs ys (fun p hp => hx p (List.mem_cons_of_mem _ hp)) (fun p hp => hy p (List.mem_cons_of_mem _ hp)) (Nat.succ.inj h) with z | z | z
      · exact .inl (.inr ⟨rfl, z⟩)
      · exact .inr (.inl (by rw [z]))
      · exact .inr (.inr (.inr ⟨rfl, z⟩))
    · exact .inr (.inr (.inl z))
theorem slt_tri {xs ys : List StepT} (hx : ∀ p ∈ xs, IsStep p) (hy : ∀ p ∈ ys, IsStep p) (h1 : ¬ slt ltT xs ys) (h2 : ¬ slt ltT ys xs) : xs = ys := by
  have e : xs.length = ys.length := by
    have a : ¬ xs.length < ys.length := fun z => h1 (.inl z)
    have b : ¬ ys.length < xs.length := fun z => h2 (.inl z)
    omega
  rcases lex_tri xs ys hx hy e with z | z | z
  · exact absurd (.inr ⟨e, z⟩) h1
  · exact z
  · exact absurd (.inr ⟨e.symm, z⟩) h2
end MS
end
section
set_option maxRecDepth 100000
set_option maxHeartbeats 4000000
namespace MS
open PySem L2
/-! ### states that steps tell apart (pure) -/
abbrev mayW (w : Bool) (p : StepT) : Bool := w || !(p.2 == "c")
/-- numbered states with their next ones -/
structure Sys (sl : List StepT) (n : Nat) (wr : Nat → Bool) (nx : List (List Nat)) : Prop where
  len : nx.length = n
  at_ : ∀ i, i < n → ∃ l, nx[i]? = some l ∧ l.length = (sl.filter (mayW (wr i))).length ∧ ∀ (j : Nat) (p : StepT) (k : Nat), (sl.filter (mayW (wr i)))[j]? = some p → l[j]? = some k → k < n ∧ wr k = (wr i || p.2 == "w")
/-- where steps lead -/
def Go (sl : List StepT) (wr : Nat → Bool) (nx : List (List Nat)) : Nat → List StepT → Nat → Prop
  | i, [], k => i = k
  | i, p :: m, k => ∃ (j i' : Nat) (l : List Nat), nx[i]? = some l ∧ (sl.filter (mayW (wr i)))[j]? = some p ∧ l[j]? = some i' ∧ Go sl wr nx i' m k
abbrev clN (pts : List Int) (nx : List (List Nat)) (t i : Nat) : Nat := (lvN pts nx t).getD i 0
section
variable {sl : List StepT} {n : Nat} {wr : Nat → Bool} {nx : List (List Nat)} {pts : List Int}
theorem cl_at {pts : List Int} {nx : List (List Nat)} (h : nx.length = pts.length) {t i : Nat} (hi : i < pts.length) : (lvN pts nx t)[i]? = some (clN pts nx t i) := by
  unfold clN
  rw [List.getD_eq_getElem?_getD, List.getElem?_eq_getElem (by rw [lvN_len h]; exact hi)]
  rfl
theorem cl_zero (h : nx.length = pts.length) {i j : Nat} (hi : i < pts.length) (hj : j < pts.length) : clN pts nx 0 i = clN pts nx 0 j ↔ pts.getD i 0 = pts.getD j 0 := by
  have e := numP_eq (ks := pts) (List.getElem?_eq_getElem hi) (List.getElem?_eq_getElem hj) (cl_at (t := 0) h hi) (cl_at (t := 0) h hj)
  rw [List.getD_eq_getElem?_getD, List.getD_eq_getElem?_getD, List.getElem?_eq_getElem hi, List.getElem?_eq_getElem hj]
  exact e
theorem cl_succ (h : nx.length = pts.length) {t i j : Nat} {l l' : List Nat} (hi : nx[i]? = some l) (hj : nx[j]? = some l') : clN pts nx (t + 1) i = clN pts nx (t + 1) j ↔ clN pts nx t i = clN pts nx t j ∧ l.map (clN pts nx t) = l'.map (clN pts nx t) := by
  have hi' := (List.getElem?_eq_some_iff.mp hi).1
  have hj' := (List.getElem?_eq_some_iff.mp hj).1
  have e := numP_eq (keysOf_at (cls := lvN pts nx t) hi) (keysOf_at (cls := lvN pts nx t) hj) (cl_at (t := t + 1) h (by omega)) (cl_at (t := t + 1) h (by omega))
  refine e.trans ⟨fun z => ⟨congrArg Prod.fst z, congrArg Prod.snd z⟩, fun ⟨z1, z2⟩ => ?_⟩
  exact Prod.ext z1 z2
/-- states of one class at a level: works up to so many steps lead to the same points -/
theorem cl_go (S : Sys sl n wr nx) (hn : pts.length = n) (hs : sl.Nodup) : ∀ (t i j : Nat), i < n → j < n → wr i = wr j → clN pts nx t i = clN pts nx t j → ∀ (m : List StepT) (k k' : Nat), m.length ≤ t → Go sl wr nx i m k → Go sl wr nx j m k' → pts.getD k 0 = pts.getD k' 0
  | 0, i, j, hi, hj, _, e, m, k, k', hm, h1, h2 => by
    cases m with
    | nil =>
      cases h1
      cases h2
      exact (cl_zero (by rw [S.len, hn]) (by omega) (by omega)).mp e
    | cons p m => exact absurd hm (by simp)
  | t + 1, i, j, hi, hj, hw, e, m, k, k', hm, h1, h2 => by
    obtain ⟨l, g1, g2, g3⟩ := S.at_ i hi
    obtain ⟨l', f1, f2, f3⟩ := S.at_ j hj
    have hl : nx.length = pts.length := by rw [S.len, hn]
    obtain ⟨e1, e2⟩ := (cl_succ hl g1 f1).mp e
    cases m with
    | nil => exact cl_go S hn hs t i j hi hj hw e1 [] k k' (Nat.zero_le _) h1 h2
    | cons p m =>
      obtain ⟨a, i', l1, a1, a2, a3, a4⟩ := h1
      obtain ⟨b, j', l2, b1, b2, b3, b4⟩ := h2
      rw [g1] at a1
      cases a1
      rw [f1] at b1
      cases b1
      rw [← hw] at b2 f2 f3
      have hab : a = b := by
        obtain ⟨q1, q2⟩ := List.getElem?_eq_some_iff.mp a2
        obtain ⟨r1, r2⟩ := List.getElem?_eq_some_iff.mp b2
        exact (List.getElem_inj (hs.sublist List.filter_sublist)).mp (q2.trans r2.symm)
      subst hab
      obtain ⟨c1, c2⟩ := g3 a p i' a2 a3
      obtain ⟨d1, d2⟩ := f3 a p j' b2 b3
      have ec : clN pts nx t i' = clN pts nx t j' := by
        have := congrArg (fun l => l[a]?) e2
        rw [List.getElem?_map, List.getElem?_map, a3, b3] at this
        exact Option.some.inj this
      exact cl_go S hn hs t i' j' c1 d1 (by rw [c2, d2]) ec m k k' (by simpa using hm) a4 b4
/-- the steps that tell two states apart, the first at each turn -/
inductive PL (sl : List StepT) (wr : Nat → Bool) (nx : List (List Nat)) (pts : List Int) : Nat → Nat → Nat → List StepT → Prop
  | nil (i j : Nat) : PL sl wr nx pts 0 i j []
  | cons {c i j x a b : Nat} {p : StepT} {l l' : List Nat} {r : List StepT} : nx[i]? = some l → nx[j]? = some l' → (sl.filter (mayW (wr i)))[x]? = some p → l[x]? = some a → l'[x]? = some b → clN pts nx c a ≠ clN pts nx c b →
      (∀ y a' b', y < x → l[y]? = some a' → l'[y]? = some b' → clN pts nx c a' = clN pts nx c b') → PL sl wr nx pts c a b r → PL sl wr nx pts (c + 1) i j (p :: r)
/-- what such steps are: they lead to other points, and none ahead of them do -/
theorem pl_least (S : Sys sl n wr nx) (hn : pts.length = n) (hs : sl.Pairwise ltT) : ∀ (d i j : Nat) (l : List StepT), i < n → j < n → wr i = wr j → PL sl wr nx pts d i j l → clN pts nx d i ≠ clN pts nx d j → (∀ c, c + 1 = d → clN pts nx c i = clN pts nx c j) →
    l.length = d ∧ (∃ k k', Go sl wr nx i l k ∧ Go sl wr nx j l k' ∧ pts.getD k 0 ≠ pts.getD k' 0) ∧ ∀ (m : List StepT) (k k' : Nat), Go sl wr nx i m k → Go sl wr nx j m k' → pts.getD k 0 ≠ pts.getD k' 0 → m.length = d → ¬ lexL ltT m l := by
  have nd : sl.Nodup := List.Pairwise.imp (R := ltT) (S := fun a b => a ≠ b) (fun {a b} z (e : a = b) => lt_ir a (by rw [← e] at z; exact z)) hs
  have hl : nx.length = pts.length := by rw [S.len, hn]
  intro d
  induction d with
  | zero =>
    intro i j l hi hj hw h hd _
    cases h
    refine ⟨rfl, ⟨i, j, rfl, rfl, fun e => hd ((cl_zero hl (by omega) (by omega)).mpr e)⟩, fun m k k' _ _ _ _ => lexL_nil m⟩
  | succ d ih =>
    intro i j l hi hj hw h hd hc
    cases h with
    | @cons _ _ _ x a b p li lj r h1 h2 h3 h4 h5 h6 h7 h8 =>
      obtain ⟨l1, g1, g2, g3⟩ := S.at_ i hi
      obtain ⟨l2, f1, f2, f3⟩ := S.at_ j hj
      rw [h1] at g1
      cases g1
      rw [h2] at f1
      cases f1
      rw [← hw] at f2 f3
      obtain ⟨a1, a2⟩ := g3 x p a h3 h4
      obtain ⟨b1, b2⟩ := f3 x p b h3 h5
      have hcd := hc d rfl
      have hsub : ∀ c, c + 1 = d → ∀ (y a' b' : Nat), li[y]? = some a' → lj[y]? = some b' → clN pts nx c a' = clN pts nx c b' := by
        intro c e y a' b' ea eb
        subst e
        have e2 := ((cl_succ hl h1 h2).mp hcd).2
        have := congrArg (fun l => l[y]?) e2
        rw [List.getElem?_map, List.getElem?_map, ea, eb] at this
        exact Option.some.inj this
      obtain ⟨i1, ⟨k, k', i2, i3, i4⟩, i5⟩ := ih a b r a1 b1 (by rw [a2, b2]) h8 h6 fun c e => hsub c e x a b h4 h5
      refine ⟨by rw [List.length_cons, i1], ⟨k, k', ⟨x, a, li, h1, h3, h4, i2⟩, ⟨x, b, lj, h2, by rw [← hw]; exact h3, h5, i3⟩, i4⟩, fun m q q' m1 m2 m3 m4 => ?_⟩
      cases m with
      | nil => exact absurd m4 (by simp)
      | cons p' m =>
        obtain ⟨y, ia, l3, e1, e2, e3, e4⟩ := m1
        obtain ⟨z, jb, l4, d1, d2, d3, d4⟩ := m2
        rw [h1] at e1
        cases e1
        rw [h2] at d1
        cases d1
        rw [← hw] at d2
        have hyz : y = z := by
          obtain ⟨q1, q2⟩ := List.getElem?_eq_some_iff.mp e2
          obtain ⟨r1, r2⟩ := List.getElem?_eq_some_iff.mp d2
          exact (List.getElem_inj (nd.sublist List.filter_sublist)).mp (q2.trans r2.symm)
        subst hyz
        obtain ⟨c1, c2⟩ := g3 y p' ia e2 e3
        obtain ⟨c3, c4⟩ := f3 y p' jb d2 d3
        have hm : m.length = d := by simpa using m4
        have hne : clN pts nx d ia ≠ clN pts nx d jb := fun e => m3 (cl_go S hn nd d ia jb c1 c3 (by rw [c2, c4]) e m q q' (by omega) e4 d4)
        have hxy : x ≤ y := Nat.le_of_not_lt fun hlt => hne (h7 y ia jb hlt e3 d3)
        rintro (hlt | ⟨he, hlx⟩)
        · -- p' before p: its place is no earlier
          have pw : (sl.filter (mayW (wr i))).Pairwise ltT := hs.sublist List.filter_sublist
          obtain ⟨q1, q2⟩ := List.getElem?_eq_some_iff.mp h3
          obtain ⟨r1, r2⟩ := List.getElem?_eq_some_iff.mp e2
          rcases Nat.lt_or_eq_of_le hxy with hx | hx
          · have := List.pairwise_iff_getElem.mp pw x y q1 r1 hx
            rw [q2, r2] at this
            exact lt_ir _ (lt_tr _ _ _ hlt this)
          · subst hx
            rw [h3] at e2
            cases e2
            exact lt_ir _ hlt
        · subst he
          have hx : x = y := by
            obtain ⟨q1, q2⟩ := List.getElem?_eq_some_iff.mp h3
            obtain ⟨r1, r2⟩ := List.getElem?_eq_some_iff.mp e2
            exact (List.getElem_inj (nd.sublist List.filter_sublist)).mp (q2.trans r2.symm)
          subst hx
          rw [h4] at e3
          cases e3
          rw [h5] at d3
          cases d3
          exact i5 m q q' e4 d4 m3 hm hlx
/-- none tells them apart where the last level doesn't -/
theorem lv_fix {t : Nat} (h : lvN pts nx (t + 1) = lvN pts nx t) : ∀ s, t ≤ s → lvN pts nx s = lvN pts nx t := by
  intro s hs
  induction s with
  | zero => rw [show t = 0 by omega]
  | succ s ih =>
    by_cases e : t ≤ s
    · have := ih e
      show numP (keysOf (lvN pts nx s) nx) = _
      rw [this]
      exact h
    · rw [show t = s + 1 by omega]
theorem none_apart (S : Sys sl n wr nx) (hn : pts.length = n) (hs : sl.Nodup) {t i j : Nat} (hi : i < n) (hj : j < n) (hw : wr i = wr j) (fix : lvN pts nx (t + 1) = lvN pts nx t) (e : clN pts nx t i = clN pts nx t j) {m : List StepT} {k k' : Nat} (h1 : Go sl wr nx i m k) (h2 : Go sl wr nx j m k') : pts.getD k 0 = pts.getD k' 0 := by
  have hf := lv_fix fix (t + m.length) (by omega)
  refine cl_go S hn hs (t + m.length) i j hi hj hw ?_ m k k' (by omega) h1 h2
  unfold clN at e ⊢
  rw [hf]
  exact e
end
end MS
end
section
set_option maxRecDepth 100000
set_option maxHeartbeats 4000000
namespace MS
open PySem L2
/-! ### what the dicts of the next states hold, by numbers (pure) -/
def zipK (ps : List StepT) (is : List Nat) : List (Key × V) := List.zipWith (fun p i => ((.inr (stepS p) : Key), V.int ((i : Nat) : Int))) ps is
theorem cor_zip {W : List Wt} {s : StT} {S : List StT} : ∀ {T : List StepT} {ks : List (Key × V)}, CoR W s S T ks → ∃ l : List Nat, ks = zipK T l ∧ l.length = T.length ∧ ∀ (j : Nat) (p : StepT) (i : Nat), T[j]? = some p → l[j]? = some i → S[i]? = some (stB W s p)
  | [], [], _ => ⟨[], rfl, rfl, fun j p i h _ => by cases h⟩
  | p :: T, (k, v) :: ks, .cons ⟨e, i, e2, h⟩ t => by
    obtain ⟨l, h1, h2, h3⟩ := cor_zip t
    have e : k = .inr (stepS p) := e
    have e2 : v = V.int ((i : Nat) : Int) := e2
    subst e e2
    refine ⟨i :: l, by rw [h1]; rfl, by rw [List.length_cons, List.length_cons, h2], fun j q m hq hm => ?_⟩
    cases j with
    | zero =>
      cases hq
      cases hm
      exact h
    | succ j => exact h3 j q m hq hm
/-- the numbers of the next states, in turn of the steps that may come -/
structure NxR (ps : List Sch) (sl : List StepT) (S : List StT) (nx : List (List Nat)) : Prop where
  len : nx.length = S.length
  at_ : ∀ (k : Nat) (s : StT), S[k]? = some s → ∃ l, nx[k]? = some l ∧ l.length = (sl.filter (mayB s)).length ∧ ∀ (j : Nat) (p : StepT) (i : Nat), (sl.filter (mayB s))[j]? = some p → l[j]? = some i → S[i]? = some (stB (watchP ps) s p)
theorem nx_ex {ps : List Sch} {sl : List StepT} {H : Hp} {S : List StT} {nv : List V} (h : NxL ps sl H S nv) (hl : nv.length = S.length) : ∃ nx, NxR ps sl S nx ∧ ∀ (k : Nat) (v : V), nv[k]? = some v → ∃ s c l, v = .ref c ∧ S[k]? = some s ∧ nx[k]? = some l ∧ H c = some (.dK (zipK (sl.filter (mayB s)) l)) := by
  have key : ∀ n, n ≤ nv.length → ∃ nx : List (List Nat), nx.length = n ∧ ∀ (k : Nat) (v : V), k < n → nv[k]? = some v → ∃ s c l, v = .ref c ∧ S[k]? = some s ∧ nx[k]? = some l ∧ H c = some (.dK (zipK (sl.filter (mayB s)) l)) ∧ l.length = (sl.filter (mayB s)).length ∧ ∀ (j : Nat) (p : StepT) (i : Nat), (sl.filter (mayB s))[j]? = some p → l[j]? = some i → S[i]? = some (stB (watchP ps) s p) := by
    intro n
    induction n with
    | zero => exact fun _ => ⟨[], rfl, fun k v h => absurd h (Nat.not_lt_zero _)⟩
    | succ n ih =>
      intro hn
      obtain ⟨nx, h1, h2⟩ := ih (by omega)
      have ev : nv[n]? = some (nv[n]'(by omega)) := List.getElem?_eq_getElem (by omega)
      obtain ⟨s, c, ks, e1, e2, e3, e4⟩ := h n _ ev
      obtain ⟨l, g1, g2, g3⟩ := cor_zip e4
      refine ⟨nx ++ [l], by rw [List.length_append, h1]; rfl, fun k v hk hv => ?_⟩
      by_cases z : k = n
      · subst z
        rw [ev] at hv
        cases hv
        refine ⟨s, c, l, e1, e2, ?_, by rw [← g1]; exact e3, g2, g3⟩
        rw [List.getElem?_append_right (by omega), h1, Nat.sub_self]
        rfl
      · obtain ⟨s', c', l', f1, f2, f3, f4, f5⟩ := h2 k v (by omega) hv
        exact ⟨s', c', l', f1, f2, by rw [List.getElem?_append_left (by omega)]; exact f3, f4, f5⟩
  obtain ⟨nx, h1, h2⟩ := key nv.length (Nat.le_refl _)
  refine ⟨nx, ⟨by omega, fun k s hs => ?_⟩, fun k v hv => ?_⟩
  · have hk := (List.getElem?_eq_some_iff.mp hs).1
    have ev : nv[k]? = some (nv[k]'(by omega)) := List.getElem?_eq_getElem (by omega)
    obtain ⟨s', c, l, f1, f2, f3, f4, f5, f6⟩ := h2 k _ (by omega) ev
    rw [hs] at f2
    cases f2
    exact ⟨l, f3, f5, f6⟩
  · obtain ⟨s, c, l, f1, f2, f3, f4, f5, f6⟩ := h2 k v (List.getElem?_eq_some_iff.mp hv).1 hv
    exact ⟨s, c, l, f1, f2, f3, f4⟩
theorem zipK_vals {ps : List StepT} {is : List Nat} (h : is.length = ps.length) : (zipK ps is).map (·.2) = natsV is := by
  induction is generalizing ps with
  | nil =>
    cases ps with
    | nil => rfl
    | cons p r => cases h
  | cons i is ih =>
    cases ps with
    | nil => cases h
    | cons p r =>
      show V.int ((i : Nat) : Int) :: (zipK r is).map (·.2) = V.int ((i : Nat) : Int) :: natsV is
      rw [ih (Nat.succ.inj h)]
/-! ### made's machine (pure) -/
end MS
end
section
set_option maxRecDepth 100000
set_option maxHeartbeats 4000000
namespace MS
open PySem L2
/-! ### moved, parting_steps -/
abbrev s_moved : Stmt := topS 59
abbrev nmMv : List Str := ["nexts", "many", "coming", "step", "later"]
theorem sc_moved : FnScope nmMv ["nexts", "many"] (defScope s_moved) := ⟨rfl, rfl, rfl, by decide +kernel, rfl, by decide +kernel, by decide +kernel⟩
/-- next dicts: the steps that may come, of each a number -/
def NdAt (H : Hp) (ps : List StepT) (l : List Nat) (v : V) : Prop := ∃ c, v = V.ref c ∧ H c = some (.dK (zipK ps l))
theorem zip_at {ps : List StepT} {l : List Nat} {j m : Nat} {p : StepT} (h1 : ps[j]? = some p) (h2 : l[j]? = some m) : (zipK ps l)[j]? = some (((.inr (stepS p)) : Key), V.int ((m : Nat) : Int)) := by
  unfold zipK
  rw [List.getElem?_zipWith, h1, h2]
theorem zip_none {ps : List StepT} {l : List Nat} {j : Nat} {p : StepT} (hp : ps.Pairwise ltT) (h : ps[j]? = some p) : valV ((zipK ps l).take j) (.inr (stepS p) : Key) = none := by
  have key : ((zipK ps l).take j).any (fun kv => decide (kv.1 = (.inr (stepS p) : Key))) = false := by
    rw [List.any_eq_false]
    intro kv hkv
    obtain ⟨y, hy, e⟩ := List.mem_iff_getElem.mp hkv
    have ey := List.getElem?_eq_getElem hy
    rw [e] at ey
    rw [List.length_take] at hy
    rw [List.getElem?_take_of_lt (by omega)] at ey
    unfold zipK at ey
    rw [List.getElem?_zipWith] at ey
    obtain ⟨hj, ej⟩ := List.getElem?_eq_some_iff.mp h
    have hyj : y < j := by omega
    have e1 : ps[y]? = some (ps[y]'(by omega)) := List.getElem?_eq_getElem _
    rw [e1] at ey
    cases e2 : l[y]? with
    | none => rw [e2] at ey; cases ey
    | some m =>
      rw [e2] at ey
      have ey := Option.some.inj ey
      have hlt := List.pairwise_iff_getElem.mp hp y j (by omega) hj hyj
      rw [ej] at hlt
      rw [← ey]
      intro z
      have z := of_decide_eq_true z
      have z : stepS (ps[y]'(by omega)) = stepS p := Sum.inr.inj z
      have hlt : Spec.ltCps (stepS (ps[y]'(by omega))).cps.toList (stepS p).cps.toList = true := hlt
      rw [z] at hlt
      exact lt_ir p hlt
  have := valV_any (.inr (stepS p) : Key) ((zipK ps l).take j)
  rw [key] at this
  cases e : valV ((zipK ps l).take j) (.inr (stepS p) : Key) with
  | none => rfl
  | some v => rw [e] at this; cases this
def spMoved : Sp := fun vs H Q _ => ∃ (na : Addr) (many : Nat) (nv : List V) (tl : List (List StepT × List Nat)), vs = [.ref na, .int ((many : Nat) : Int)] ∧ H na = some (.lst nv) ∧ Paired (fun t v => NdAt H t.1 t.2 v) tl nv ∧ (∀ t ∈ tl, t.1.length = t.2.length ∧ t.1.Pairwise ltT ∧ (∀ p ∈ t.1, IsStep p) ∧ t.1.length ≤ 24) ∧ nv.length ≤ 5000 ∧
  ∀ (f : Addr) (H' : Hp) (fv : List V), Same H H' → H f = none → H' f = some (.lst fv) → Paired (fun t v => NdAt H' t.1 (t.2.map (· + many)) v) tl fv → Q (.ref f) H'
section
variable {P : Program} {w : World} {K : PySem.W.Frag} {mg : Str → Option Value} {base : Heap}
theorem ok_moved (T : PTx w K mg) (D : Def K mg "moved" s_moved ["nexts", "many"]) : FnOk P w K mg base CX0 1 D.f D.fd ["nexts", "many"] spMoved := by
  have nd := sc_moved.nd
  refine D.ok sc_moved (fun vs H Q E h => ?_) (fun cdv A outer s H vs Q E hr h => ?_)
  · obtain ⟨na, many, nv, tl, rfl, _⟩ := h
    rfl
  obtain ⟨na, many, nv, tl, rfl, ena, pn, hok, h5, q⟩ := h
  refine ⟨_, pss_one (ps_ret (pe_lc (own := [("coming", 2)]) (g := gName 2) (tt := tYes) rfl nd (pi_list (pv 0)) (blkOk_by (N := nmMv) (sc := defScope s_moved) (by decide +kernel)) (fun _ _ _ _ _ => pg_name (i := 2) nd rfl (Or.inl rfl)) (fun _ _ _ _ _ => pts_nil)
    (fun _ _ _ _ _ => pe_lock (pe_dc (own := [("step", 3), ("later", 4)]) (g := gTup K 2 (gCons (gName 3) (gCons (gName 4) gNil))) (tt := tYes) rfl nd (pi_items (pv 2)) (blkOk_by (N := nmMv) (sc := { kind := .function, names := [(".0", .local), ("coming", .local), ("many", .cell)], isGenerator := false, isCoroutine := false }) (by decide +kernel))
      (fun _ _ _ _ _ => pg_tup rfl (pgs_cons (pg_name (i := 3) nd rfl (Or.inl rfl)) (pgs_cons (pg_name (i := 4) nd rfl (Or.inl rfl)) pgs_nil))) (fun _ _ _ _ _ => pts_nil) (fun _ _ _ _ _ => pv 3) (fun _ _ _ _ _ => pe_op op_add (pv 4) (pv 1)))))), ?_⟩
  refine ⟨_, rfl, na, rfl, ⟨_, SqL.of ena⟩, fun D hD => ?_⟩
  have hlt := Paired.length pn
  refine lc_list (K := K) (a := na) (xs := nv) (fun i H' => Same H H' ∧ ∃ fv, H' D = some (.lst fv) ∧ Paired (fun t v => NdAt H' t.1 (t.2.map (· + many)) v) (tl.take i) fv) ⟨Same.new hD, [], upd_same, .nil⟩ (fun i H' _ ⟨sm, _⟩ => SqL.of (sm _ _ ena)) ?_ ?_
  · rintro i x H1 hi ⟨s1, fv, eD, pf⟩
    obtain ⟨⟨fs, l⟩, et, ⟨c, rfl, ec⟩⟩ := paired_get' pn hi
    obtain ⟨k1, k2, k3, k4⟩ := hok _ (List.mem_of_getElem? et)
    have k1 : fs.length = l.length := k1
    have ec1 := s1 _ _ ec
    have hlf := Paired.length pf
    rw [List.length_take] at hlf
    refine ⟨rfl, c, _, ec1, True.intro, fun od => ?_⟩
    have nd' : ∀ b o, b ≠ c → H1 b = some o → upd H1 c (.frz od (.dK (zipK fs l))) b = some o := fun b o n e => by rw [upd_ne n]; exact e
    refine ⟨_, rfl, c, od, zipK fs l, rfl, upd_same, fun D2 hD2 => ?_⟩
    have hD21 : H1 D2 = none := by
      by_cases e : D2 = c
      · rw [e, upd_same] at hD2
        cases hD2
      · rw [upd_ne e] at hD2
        exact hD2
    have ncD : c ≠ D2 := ne_of_none ec1 hD21
    have lz : (zipK fs l).length = l.length := by
      unfold zipK
      rw [List.length_zipWith, k1, Nat.min_self]
    refine dc_it (walk_items (d := c) (o := od) (kvs := zipK fs l)) (fun j H' => (∀ b o, b ≠ c → H1 b = some o → H' b = some o) ∧ H' c = some (.frz od (.dK (zipK fs l))) ∧ H' D2 = some (.dK ((zipK fs (l.map (· + many))).take j))) ⟨fun b o n e => Same.new hD2 _ _ (nd' b o n e), by rw [upd_ne ncD]; exact upd_same, upd_same⟩ (fun j H' _ ⟨_, e, _⟩ => e) ?_ ?_
    · rintro j y H2 H3 hj ⟨q4, ec2, eD2⟩ ⟨T2, y1, y2, rfl, hT2, rfl, ey1, ey2⟩
      have jl : j < l.length := by omega
      have ef1 : fs[j]? = some (fs[j]'(by omega)) := List.getElem?_eq_getElem (by omega)
      have el1 : l[j]? = some (l[j]'jl) := List.getElem?_eq_getElem jl
      generalize fs[j]'(by omega) = p at *
      generalize l[j]'jl = m at *
      dsimp only at ey1 ey2
      rw [zip_at ef1 el1] at ey1 ey2
      obtain rfl : V.str (stepS p) = y1 := Option.some.inj ey1
      obtain rfl : V.int ((m : Nat) : Int) = y2 := Option.some.inj ey2
      have sT : Same H2 (upd H2 T2 (.tup [.str (stepS p), .int ((m : Nat) : Int)])) := Same.new hT2
      have eT : upd H2 T2 (.tup [.str (stepS p), .int ((m : Nat) : Int)]) T2 = some (.tup [.str (stepS p), .int ((m : Nat) : Int)]) := upd_same
      generalize upd H2 T2 (.tup [.str (stepS p), .int ((m : Nat) : Int)]) = H3 at *
      have lz2 : ((zipK fs (l.map (· + many))).take j).length ≤ j := List.length_take_le _ _
      have k4 : fs.length ≤ 24 := k4
      refine ⟨T2, _, rfl, SqT.of eT, rfl, _, _, rfl, _, _, rfl, rfl, rfl, _, rfl, _, rfl, _, rfl, _, _, rfl, rfl, (zipK fs (l.map (· + many))).take j, .inr (stepS p), rfl, sT _ _ eD2, szN (by omega), fun b o n e => ?_, by rw [upd_ne ncD]; exact sT _ _ ec2, ?_⟩
      · rw [upd_ne (ne_of_none e hD21)]
        exact sT _ _ (q4 b o n e)
      · rw [upd_same, putK_new (zip_none k2 ef1), List.take_succ, zip_at (l := l.map (· + many)) ef1 (by rw [List.getElem?_map, el1]; rfl)]
        rfl
    · rintro H2 ⟨q4, ec2, eD2⟩
      rw [lz, List.take_of_length_le (by unfold zipK; rw [List.length_zipWith, List.length_map]; omega)] at eD2
      refine ⟨ec2, ?_⟩
      have s3 : Same H1 (upd H2 c (.dK (zipK fs l))) := fun b o e => by
        by_cases z : b = c
        · rw [z, upd_same]
          rw [z, ec1] at e
          exact e
        · rw [upd_ne z]
          exact q4 b o z e
      have eD3 : upd H2 c (.dK (zipK fs l)) D2 = some (.dK (zipK fs (l.map (· + many)))) := by rw [upd_ne ncD.symm]; exact eD2
      generalize upd H2 c (.dK (zipK fs l)) = H3 at *
      have eDL := s3 _ _ eD
      have nD : ∀ b kvs, H3 b = some (.dK kvs) → b ≠ D := fun b kvs e => ne_of e eDL fun z => nomatch z
      refine ⟨fv, eDL, szN (by omega), Same.newer (s1.trans s3) hD, fv ++ [.ref D2], upd_same, ?_⟩
      rw [List.take_succ, et]
      refine paired_app (paired_imp pf fun t v ⟨c', e1, e2⟩ => ⟨c', e1, ?_⟩) (.cons ⟨D2, rfl, ?_⟩ .nil)
      · have := s3 _ _ e2
        rw [upd_ne (nD _ _ this)]
        exact this
      · rw [upd_ne (nD _ _ eD3)]
        exact eD3
  · rintro H1 ⟨s1, fv, eD, pf⟩
    rw [← hlt, List.take_length] at pf
    exact q D H1 fv s1 hD eD pf
end
end MS
end
section
set_option maxRecDepth 100000
set_option maxHeartbeats 4000000
namespace MS
open PySem L2
/-! ### parting_steps -/
abbrev s_parting : Stmt := topS 60
abbrev psPt : List Str := ["levels", "nexts", "one", "other"]
abbrev nmPt : List Str := ["levels", "nexts", "one", "other", "apart", "steps", "classes", "ways", "step"]
theorem sc_parting : FnScope nmPt psPt (defScope s_parting) := ⟨rfl, rfl, rfl, by decide +kernel, rfl, by decide +kernel, by decide +kernel⟩
/-- levels and next dicts, as they stand -/
structure PtW (H : Hp) (sl : List StepT) (n : Nat) (wr : Nat → Bool) (nx : List (List Nat)) (pts : List Int) (T : Nat) (la na : Addr) (lv nv : List V) : Prop where
  el : H la = some (.lst lv)
  lv : Paired (fun t v => LvAt H pts nx t v) (List.range (T + 1)) lv
  en : H na = some (.lst nv)
  nd : ∀ k, k < n → ∃ l c, nx[k]? = some l ∧ nv[k]? = some (.ref c) ∧ H c = some (.dK (zipK (sl.filter (mayW (wr k))) l))
  sys : Sys sl n wr nx
  pl : pts.length = n
  hs : sl.Pairwise ltT
  sok : ∀ p ∈ sl, IsStep p
  s24 : sl.length ≤ 24
  n5 : n ≤ 5000
theorem PtW.keep {H H' : Hp} {sl : List StepT} {n : Nat} {wr : Nat → Bool} {nx : List (List Nat)} {pts : List Int} {T : Nat} {la na : Addr} {lv nv : List V} (h : PtW H sl n wr nx pts T la na lv nv) (s : Same H H') : PtW H' sl n wr nx pts T la na lv nv where
  el := s _ _ h.el
  lv := paired_imp h.lv fun _ _ ⟨a, e, h⟩ => ⟨a, e, s _ _ h⟩
  en := s _ _ h.en
  nd := fun k hk => by
    obtain ⟨l, c, h1, h2, h3⟩ := h.nd k hk
    exact ⟨l, c, h1, h2, s _ _ h3⟩
  sys := h.sys
  pl := h.pl
  hs := h.hs
  sok := h.sok
  s24 := h.s24
  n5 := h.n5
def spParting : Sp := fun vs H Q _ => ∃ (la na : Addr) (lv nv : List V) (sl : List StepT) (n : Nat) (wr : Nat → Bool) (nx : List (List Nat)) (pts : List Int) (T i j : Nat), vs = [.ref la, .ref na, .int ((i : Nat) : Int), .int ((j : Nat) : Int)] ∧ PtW H sl n wr nx pts T la na lv nv ∧ T ≤ 5000 ∧ i < n ∧ j < n ∧ wr i = wr j ∧
  (∀ H', Same H H' → (∀ t, t ≤ T → clN pts nx t i = clN pts nx t j) → Q .non H') ∧
  ∀ (f : Addr) (d : Nat) (l : List StepT) (H' : Hp), Same H H' → H f = none → H' f = some (.lst (stepsV l)) → d ≤ T → PL sl wr nx pts d i j l → clN pts nx d i ≠ clN pts nx d j → (∀ c, c + 1 = d → clN pts nx c i = clN pts nx c j) → Q (.ref f) H'
theorem in_bools : ∀ bs : List Bool, inV (.bl true) (bs.map V.bl) = bs.any id
  | [] => rfl
  | b :: r => by
    show (eqV (V.bl b) (V.bl true) || inV (.bl true) (r.map V.bl)) = (id b || r.any id)
    rw [in_bools r]
    cases b <;> rfl
theorem first_true : ∀ bs : List Bool, bs.any id = true → ∃ d : Nat, bs[d]? = some true ∧ ∀ (m : Nat) (b : Bool), m < d → bs[m]? = some b → b = false
  | [], h => nomatch h
  | true :: r, _ => ⟨0, rfl, fun m b h => absurd h (Nat.not_lt_zero _)⟩
  | false :: r, h => by
    obtain ⟨d, h1, h2⟩ := first_true r h
    refine ⟨d + 1, h1, fun m b hm e => ?_⟩
    cases m with
    | zero => exact (Option.some.inj e).symm
    | succ m => exact h2 m b (by omega) e
theorem dec_ints (a b : Nat) : decide (V.int ((a : Nat) : Int) = V.int ((b : Nat) : Int)) = decide (a = b) := by
  by_cases e : a = b
  · subst e
    rw [decide_eq_true rfl, decide_eq_true rfl]
  · rw [decide_eq_false e]
    exact decide_eq_false fun z => e (by have z := V.int.inj z; omega)
theorem zip_get {ps : List StepT} {l : List Nat} {j m : Nat} {p : StepT} (hp : ps.Pairwise ltT) (hl : ps.length = l.length) (h1 : ps[j]? = some p) (h2 : l[j]? = some m) : valV (zipK ps l) (.inr (stepS p) : Key) = some (V.int ((m : Nat) : Int)) := by
  have hz : ((zipK ps l).map (·.1)).Nodup := by
    have e : (zipK ps l).map (·.1) = ps.map fun p => (.inr (stepS p) : Key) := by
      clear h1 h2 hp
      induction ps generalizing l with
      | nil => rfl
      | cons p r ih =>
        cases l with
        | nil => cases hl
        | cons a l =>
          show (.inr (stepS p) : Key) :: (zipK r l).map (·.1) = _
          rw [ih (Nat.succ.inj hl)]
          rfl
    rw [e]
    refine List.pairwise_map.mpr (List.Pairwise.imp (R := ltT) (fun {a b} z e => ?_) hp)
    have e := Sum.inr.inj e
    have z : Spec.ltCps (stepS a).cps.toList (stepS b).cps.toList = true := z
    rw [e] at z
    exact lt_ir b z
  have hm := List.mem_of_getElem? (zip_at h1 h2)
  exact val_nodup hz _ hm
theorem first_filter {α : Type} {t : α → Bool} : ∀ zs : List α, (∃ z ∈ zs, t z = true) → ∃ (x : Nat) (z : α) (r : List α), zs[x]? = some z ∧ t z = true ∧ (∀ (y : Nat) (z' : α), y < x → zs[y]? = some z' → t z' = false) ∧ zs.filter t = z :: r
  | [], ⟨_, h, _⟩ => nomatch h
  | z :: zs, h => by
    by_cases e : t z = true
    · exact ⟨0, z, zs.filter t, rfl, e, fun y z' h => absurd h (Nat.not_lt_zero _), by rw [List.filter_cons_of_pos e]⟩
    · obtain ⟨w, hw, ew⟩ := h
      have hw : w ∈ zs := by
        rcases List.mem_cons.mp hw with rfl | hw
        · exact absurd ew e
        · exact hw
      obtain ⟨x, z', r, h1, h2, h3, h4⟩ := first_filter zs ⟨w, hw, ew⟩
      refine ⟨x + 1, z', r, h1, h2, fun y v hy ev => ?_, by rw [List.filter_cons_of_neg e]; exact h4⟩
      cases y with
      | zero =>
        cases ev
        simpa using e
      | succ y => exact h3 y v (by omega) ev
abbrev zs3 (fs : List StepT) (li lj : List Nat) : List (StepT × Nat × Nat) := fs.zip (li.zip lj)
abbrev tst (pts : List Int) (nx : List (List Nat)) (c : Nat) (z : StepT × Nat × Nat) : Bool := !decide (clN pts nx c z.2.1 = clN pts nx c z.2.2)
theorem zs3_at {fs : List StepT} {li lj : List Nat} {x a b : Nat} {p : StepT} (h1 : fs[x]? = some p) (h2 : li[x]? = some a) (h3 : lj[x]? = some b) : (zs3 fs li lj)[x]? = some (p, a, b) := by
  unfold zs3
  exact List.getElem?_zip_eq_some.mpr (show fs[x]? = some ((p, (a, b)) : StepT × Nat × Nat).1 ∧ (li.zip lj)[x]? = some ((p, (a, b)) : StepT × Nat × Nat).2 from ⟨h1, List.getElem?_zip_eq_some.mpr (show li[x]? = some ((a, b) : Nat × Nat).1 ∧ lj[x]? = some ((a, b) : Nat × Nat).2 from ⟨h2, h3⟩)⟩)
theorem zs3_of {fs : List StepT} {li lj : List Nat} {x a b : Nat} {p : StepT} (h : (zs3 fs li lj)[x]? = some (p, a, b)) : fs[x]? = some p ∧ li[x]? = some a ∧ lj[x]? = some b := by
  obtain ⟨h1, h2⟩ := List.getElem?_zip_eq_some.mp h
  obtain ⟨h3, h4⟩ := List.getElem?_zip_eq_some.mp h2
  exact ⟨h1, h3, h4⟩
theorem apart_at {pts : List Int} {nx : List (List Nat)} {fs : List StepT} {c : Nat} {li lj : List Nat} (h1 : li.length = fs.length) (h2 : lj.length = fs.length) (h : li.map (clN pts nx c) ≠ lj.map (clN pts nx c)) : ∃ z ∈ zs3 fs li lj, tst pts nx c z = true := by
  apply Classical.byContradiction
  intro hn
  refine h (List.ext_getElem? fun x => ?_)
  rw [List.getElem?_map, List.getElem?_map]
  by_cases hx : x < fs.length
  · have e1 : fs[x]? = some (fs[x]'hx) := List.getElem?_eq_getElem hx
    have e2 : li[x]? = some (li[x]'(by omega)) := List.getElem?_eq_getElem _
    have e3 : lj[x]? = some (lj[x]'(by omega)) := List.getElem?_eq_getElem _
    rw [e2, e3]
    by_cases e : clN pts nx c (li[x]'(by omega)) = clN pts nx c (lj[x]'(by omega))
    · show some (clN pts nx c _) = some (clN pts nx c _)
      rw [e]
    · exact absurd ⟨_, List.mem_of_getElem? (zs3_at e1 e2 e3), by show (!decide _) = true; rw [decide_eq_false e]; rfl⟩ hn
  · rw [List.getElem?_eq_none (by omega), List.getElem?_eq_none (by omega)]
section
variable {P : Program} {w : World} {K : PySem.W.Frag} {mg : Str → Option Value} {base : Heap}
theorem ok_parting (T : PTx w K mg) (D : Def K mg "parting_steps" s_parting psPt) : FnOk P w K mg base CX0 1 D.f D.fd psPt spParting := by
  have mrv : mg "reversed" = none := T.free "reversed" (by decide +kernel)
  have nd := sc_parting.nd
  refine D.ok sc_parting (fun vs H Q E h => ?_) (fun cdv A outer s H vs Q E hr h => ?_)
  · obtain ⟨la, na, lv, nv, sl, n, wr, nx, pts, T', i, j, rfl, _⟩ := h
    rfl
  obtain ⟨la, na, lv, nv, sl, n, wr, nx, pts, T', i, j, rfl, W, hT, hi, hj, hw, q1, q2⟩ := h
  have hu := Nat.lt_of_le_of_lt (Nat.add_le_add_left (show 1 ≤ 64 by decide) _) hr.units
  refine ⟨_, pss_cons (ps_setLc (i := 4) (own := [("classes", 6)]) (g := gName 6) (tt := tYes) rfl nd rfl rfl (sw_true rfl rfl rfl (by decide +kernel)) (pi_list (pv 0)) (blkOk_by (N := nmPt) (sc := defScope s_parting) (by decide +kernel)) (fun _ _ _ _ _ => pg_name (i := 6) nd rfl (Or.inl rfl)) (fun _ _ _ _ _ => pts_nil)
      (fun _ _ _ _ _ => pe_cmpR op_ne (pe_ix (r := rIxL K) ix_list (pv 6) (pv 2) (fun _ _ => rfl)) (pe_ix (r := rIxL K) ix_list (pv 6) (pv 3) (fun _ _ => rfl)) (nomark _)))
    (pss_cons (ps_if (pt_cmpR (r := rIn K true) op_notIn_seq pe_bl (pv 4) (by rfl)) (pss_one (ps_ret pe_non)) pss_nil)
    (pss_cons (ps_set (i := 5) nd rfl (Or.inl rfl) (pe_lst pa_nil))
    (pss_cons (ps_for PassesOwn.never rfl (pi_reversed rfl mrv (pa_cons (pe_slice sl_list (pv 0) po_none (po_some (pe_bm PySem.F.plainAttrs_list PySem.F.slot_list_index PySem.F.type_list_index mt_index (pv 4) (pa_cons pe_bl pa_nil)))) pa_nil)) (pg_name (i := 6) nd rfl (Or.inr rfl))
      (pss_cons (ps_lock (ps_setLc (i := 7) (own := [("step", 8)]) (g := gName 8) rfl nd rfl rfl (sw_true rfl rfl rfl (by decide +kernel)) (pi_keys (pe_ix (r := rIxL K) ix_list (pv 1) (pv 2) (fun _ _ => rfl))) (blkOk_by (N := nmPt) (sc := defScope s_parting) (by decide +kernel)) (fun _ _ _ _ _ => pg_name (i := 8) nd rfl (Or.inl rfl))
        (fun _ _ _ _ _ => pts_one (pt_cmpR op_ne (pe_ix (r := rIxL K) ix_list (pv 6) (pe_dget hu (pe_ix (r := rIxL K) ix_list (pv 1) (pv 2) (fun _ _ => rfl)) (pv 8) (fun _ _ => rfl)) (fun _ _ => rfl)) (pe_ix (r := rIxL K) ix_list (pv 6) (pe_dget hu (pe_ix (r := rIxL K) ix_list (pv 1) (pv 3) (fun _ _ => rfl)) (pv 8) (fun _ _ => rfl)) (fun _ _ => rfl)) (nomark _))) (fun _ _ _ _ _ => pv 8)))
      (pss_cons (ps_expr (pe_bm PySem.F.plainAttrs_list PySem.F.slot_list_append PySem.F.type_list_append mt_append (pv 5) (pa_cons (pe_ix (r := rIxL K) ix_list (pv 7) pe_int (fun _ _ => rfl)) pa_nil)))
      (pss_one (ps_asg (pe_tup (pa_cons (pe_dget hu (pe_ix (r := rIxL K) ix_list (pv 1) (pv 2) (fun _ _ => rfl)) (pe_ix (r := rIxL K) ix_list (pv 7) pe_int (fun _ _ => rfl)) (fun _ _ => rfl)) (pa_cons (pe_dget hu (pe_ix (r := rIxL K) ix_list (pv 1) (pv 3) (fun _ _ => rfl)) (pe_ix (r := rIxL K) ix_list (pv 7) pe_int (fun _ _ => rfl)) (fun _ _ => rfl)) pa_nil))) (pg_tup (by rfl) (pgs_cons (pg_name (i := 2) nd rfl (Or.inr rfl)) (pgs_cons (pg_name (i := 3) nd rfl (Or.inr rfl)) pgs_nil))))))))
    (pss_one (ps_ret (pv 5)))))), ?_⟩
  refine ⟨_, rfl, la, rfl, ⟨_, SqL.of W.el⟩, fun D hD => ?_⟩
  have hl : nx.length = pts.length := by rw [W.sys.len, W.pl]
  have lvl := Paired.length W.lv
  rw [List.length_range] at lvl
  have hat : ∀ (k : Nat) (x : V), lv[k]? = some x → k < T' + 1 ∧ ∃ a, x = .ref a ∧ H a = some (.lst (natsV (lvN pts nx k))) := fun k x hk => by
    obtain ⟨t, et, h⟩ := paired_get' W.lv hk
    have hk' := (List.getElem?_eq_some_iff.mp hk).1
    rw [List.getElem?_range (by omega)] at et
    cases et
    exact ⟨by omega, h⟩
  have clat : ∀ (t k : Nat), k < n → (natsV (lvN pts nx t))[k]? = some (V.int ((clN pts nx t k : Nat) : Int)) := fun t k hk => natsV_at (by rw [lvN_len hl, W.pl]; exact hk)
  refine lc_list (K := K) (a := la) (xs := lv) (fun k H' => Same H H' ∧ H' D = some (.lst ((((List.range (T' + 1)).take k).map fun t => !decide (clN pts nx t i = clN pts nx t j)).map V.bl))) ⟨Same.new hD, upd_same⟩ (fun k H' _ ⟨sm, _⟩ => SqL.of (sm _ _ W.el)) ?_ ?_
  · rintro k x H1 hk ⟨s1, eD⟩
    obtain ⟨hkT, a, rfl, ea⟩ := hat k x hk
    refine ⟨rfl, _, rfl, _, rfl, a, _, _, _, rfl, rfl, SqL.of (s1 _ _ ea), atI_nat (clat k i hi), _, rfl, _, rfl, a, _, _, _, rfl, rfl, SqL.of (s1 _ _ ea), atI_nat (clat k j hj), rfl, _, eD, szN (by rw [List.length_map, List.length_map, List.length_take]; omega), Same.newer s1 hD, ?_⟩
    rw [upd_same, dec_ints, List.take_succ, List.getElem?_range hkT, List.map_append, List.map_append]
    rfl
  rintro H1 ⟨s1, eD⟩
  rw [← lvl, List.take_of_length_le (by rw [List.length_range]; omega)] at eD
  obtain ⟨bs, ebs⟩ : ∃ bs, bs = (List.range (T' + 1)).map fun t => !decide (clN pts nx t i = clN pts nx t j) := ⟨_, rfl⟩
  have bat : ∀ t, t ≤ T' → bs[t]? = some (!decide (clN pts nx t i = clN pts nx t j)) := fun t ht => by
    rw [ebs, List.getElem?_map, List.getElem?_range (by omega)]
    rfl
  rw [← ebs] at eD
  have fl : (bs.map V.bl).all flatV = true := by
    rw [List.all_eq_true]
    intro v hv
    obtain ⟨b, _, rfl⟩ := List.mem_map.mp hv
    rfl
  dsimp only [gName]
  refine seq_new (b := !(bs.any id)) (fun Q q => ?_) (fun hb H2 s2 => ?_) (fun hb H2 s2 => ?_)
  · refine ⟨_, rfl, D, _, rfl, .inl (SqL.of eD), rfl, fl, _, rfl, ?_⟩
    show Q (!inV (.bl true) (bs.map V.bl)) H1
    rw [in_bools]
    exact q H1 (Same.refl _)
  · refine q1 H2 (s1.trans s2) fun t ht => ?_
    have h0 : bs.any id = false := by simpa using hb
    have h1 := List.any_eq_false.mp h0 _ (List.mem_of_getElem? (bat t ht))
    simpa using h1
  have h1 : bs.any id = true := by simpa using hb
  obtain ⟨d, hd1, hd2⟩ := first_true bs h1
  have hdT : d ≤ T' := by
    have := (List.getElem?_eq_some_iff.mp hd1).1
    rw [ebs, List.length_map, List.length_range] at this
    omega
  have hne : clN pts nx d i ≠ clN pts nx d j := by
    rw [bat d hdT] at hd1
    simpa using Option.some.inj hd1
  have heq : ∀ c, c < d → clN pts nx c i = clN pts nx c j := fun c hc => by
    have := hd2 c _ hc (bat c (by omega))
    simpa using this
  have s02 := s1.trans s2
  refine ⟨Nat.zero_le _, fun f hf => ?_⟩
  have s3 : Same H2 (upd H2 f (.lst [])) := Same.new hf
  have ef : upd H2 f (.lst []) f = some (.lst (stepsV [])) := upd_same
  have hf0 := s02.free hf
  generalize upd H2 f (.lst []) = H3 at *
  have s03 := s02.trans s3
  dsimp only [gName]
  have elv3 := s03 _ _ W.el
  refine ⟨_, rfl, _, rfl, .inl ⟨rfl, _, SqL.of ((s2.trans s3) _ _ eD)⟩, D, _, _, d, .bl true, rfl, rfl, SqL.of ((s2.trans s3) _ _ eD), rfl, fl, by rw [List.getElem?_map, hd1]; rfl, rfl, fun m z hm hz => ?_, _, rfl, la, _, rfl, SqL.of elv3, fun L2 hL2 => ?_⟩
  · rw [List.getElem?_map] at hz
    cases e : bs[m]? with
    | none => rw [e] at hz; cases hz
    | some b =>
      rw [e] at hz
      have := hd2 m b hm e
      subst this
      cases hz
      rfl
  rw [cut_to]
  have s4 : Same H3 (upd H3 L2 (.lst (lv.take d))) := Same.new hL2
  have eL2 : upd H3 L2 (.lst (lv.take d)) L2 = some (.lst (lv.take d)) := upd_same
  have ef4 := s4 _ _ ef
  generalize upd H3 L2 (.lst (lv.take d)) = H4 at *
  have s04 := s03.trans s4
  have lvd : (lv.take d).length = d := by rw [List.length_take]; omega
  have nfL : f ≠ L2 := ne_of_none ef hL2
  have kkS : ∀ {H' : Hp}, (∀ b o, H4 b = some o → b ≠ f → H' b = some o) → Same H H' := fun {H'} k b o e => k b o (s04 _ _ e) (ne_of_none e hf0)
  refine ⟨L2, _, rfl, SqL.of eL2, for_it (walk_rev (K := K) (a := L2) (xs := lv.take d)) (fun k σ H' => ∃ (v6 v7 : Option V) (ii jj : Nat) (steps : List StepT), σ = [some (.ref la), some (.ref na), some (.int ((ii : Nat) : Int)), some (.int ((jj : Nat) : Int)), some (.ref D), some (.ref f), v6, v7, none] ∧
      (∀ b o, H4 b = some o → b ≠ f → H' b = some o) ∧ H' f = some (.lst (stepsV steps)) ∧ ii < n ∧ jj < n ∧ wr ii = wr jj ∧ clN pts nx (d - k) ii ≠ clN pts nx (d - k) jj ∧ (∀ c, c + 1 = d - k → clN pts nx c ii = clN pts nx c jj) ∧ steps.length = k ∧ ∀ r, PL sl wr nx pts (d - k) ii jj r → PL sl wr nx pts d i j (steps ++ r))
    ⟨none, none, i, j, [], rfl, fun b o e _ => e, ef4, hi, hj, hw, hne, fun c hc => heq c (by omega), rfl, fun r h => h⟩ (fun k σ H' _ ⟨_, _, _, _, _, _, kk, _⟩ => SqL.of (kk _ _ eL2 nfL.symm)) ?_ ?_⟩
  · rintro k x σ H5' H5 hk ⟨v6, v7, ii, jj, steps, rfl, kk, ef5, hii, hjj, hwi, hn1, hn2, hst, hpl⟩ ⟨rfl, ex⟩
    rw [lvd] at hk ex
    obtain ⟨c, hc⟩ : ∃ c, d - k = c + 1 := ⟨d - k - 1, by omega⟩
    rw [hc] at hn1 hn2 hpl
    have hn2 := hn2 c rfl
    have s05 := kkS kk
    have W5 := W.keep s05
    rw [List.getElem?_take_of_lt (by omega), show d - 1 - k = c by omega] at ex
    obtain ⟨hcT, ca, rfl, eca⟩ := hat c x ex
    have eca5 := s05 _ _ eca
    obtain ⟨li, ci, n1, n2, n3⟩ := W5.nd ii hii
    obtain ⟨lj, cj, m1, m2, m3⟩ := W5.nd jj hjj
    obtain ⟨li', g1, g2, g3⟩ := W.sys.at_ ii hii
    obtain ⟨lj', f1, f2, f3⟩ := W.sys.at_ jj hjj
    rw [n1] at g1
    cases g1
    rw [m1] at f1
    cases f1
    rw [← hwi] at m3 f2 f3
    have hfl := List.length_filter_le (mayW (wr ii)) sl
    have h24 := W.s24
    have hfp : (sl.filter (mayW (wr ii))).Pairwise ltT := W.hs.sublist List.filter_sublist
    obtain ⟨fs, efs⟩ : ∃ fs, fs = sl.filter (mayW (wr ii)) := ⟨_, rfl⟩
    rw [← efs] at n3 m3 g2 g3 f2 f3 hfl hfp
    have hun : li.map (clN pts nx c) ≠ lj.map (clN pts nx c) := fun e => hn1 ((cl_succ hl n1 m1).mpr ⟨hn2, e⟩)
    obtain ⟨x0, ⟨p, a, b⟩, r0, z1, z2, z3, z4⟩ := first_filter (t := tst pts nx c) (zs3 fs li lj) (apart_at g2 f2 hun)
    obtain ⟨zp, za, zb⟩ := zs3_of z1
    obtain ⟨ga1, ga2⟩ := g3 x0 p a zp za
    obtain ⟨gb1, gb2⟩ := f3 x0 p b zp zb
    dsimp only [gName]
    refine ⟨ci, _, n3, True.intro, fun od => ?_⟩
    have nd' : ∀ b o, b ≠ ci → H5 b = some o → upd H5 ci (.frz od (.dK (zipK fs li))) b = some o := fun b o n e => by rw [upd_ne n]; exact e
    have nci : ∀ b xs, H5 b = some (.lst xs) → b ≠ ci := fun b xs e => ne_of e n3 fun z => nomatch z
    refine ⟨_, rfl, _, rfl, na, _, _, _, rfl, rfl, SqL.of (nd' _ _ (nci _ _ W5.en) W5.en), atI_nat n2, ci, od, rfl, .inl ⟨_, upd_same, fun D2 hD2 => ?_⟩⟩
    have hD25 : H5 D2 = none := by
      by_cases e : D2 = ci
      · rw [e, upd_same] at hD2
        cases hD2
      · rw [upd_ne e] at hD2
        exact hD2
    have ncD : ci ≠ D2 := ne_of_none n3 hD25
    have lz : (zipK fs li).length = fs.length := by
      unfold zipK
      rw [List.length_zipWith, g2, Nat.min_self]
    refine lc_it (walk_keys (d := ci) (o := od) (kvs := zipK fs li)) (fun y H' => (∀ b o, b ≠ ci → H5 b = some o → H' b = some o) ∧ H' ci = some (.frz od (.dK (zipK fs li))) ∧ H' D2 = some (.lst (stepsV ((((zs3 fs li lj).take y).filter (tst pts nx c)).map (·.1))))) ⟨fun b o n e => Same.new hD2 _ _ (nd' b o n e), by rw [upd_ne ncD]; exact upd_same, upd_same⟩ (fun y H' _ ⟨_, e, _⟩ => e) ?_ ?_
    · rintro y xk H6' H6 hy ⟨k6, ec6, eD6⟩ ⟨rfl, kk6, vv6, ekk, rfl⟩
      rw [lz] at hy
      have y1 : fs[y]? = some (fs[y]'hy) := List.getElem?_eq_getElem hy
      have y2 : li[y]? = some (li[y]'(by omega)) := List.getElem?_eq_getElem _
      have y3 : lj[y]? = some (lj[y]'(by omega)) := List.getElem?_eq_getElem _
      generalize fs[y]'hy = py at *
      generalize li[y]'(by omega) = ay at *
      generalize lj[y]'(by omega) = b_y at *
      rw [zip_at y1 y2] at ekk
      cases ekk
      obtain ⟨ha1, _⟩ := g3 y py ay y1 y2
      obtain ⟨hb1, _⟩ := f3 y py b_y y1 y3
      have rdI : DGet H6 ci (.str (stepS py)) (some (V.int ((ay : Nat) : Int))) := .inl ⟨_, .inr (stepS py), .inr ⟨od, ec6⟩, rfl, (zip_get hfp g2.symm y1 y2).symm⟩
      have rdJ : DGet H6 cj (.str (stepS py)) (some (V.int ((b_y : Nat) : Int))) := by
        by_cases e : cj = ci
        · have e5 := m3
          rw [e, n3] at e5
          have e5 : zipK fs li = zipK fs lj := HO.dK.inj (Option.some.inj e5)
          exact .inl ⟨_, .inr (stepS py), .inr ⟨od, by rw [e]; exact ec6⟩, rfl, by rw [e5]; exact (zip_get hfp f2.symm y1 y3).symm⟩
        · exact .inl ⟨_, .inr (stepS py), .inl (k6 _ _ e m3), rfl, (zip_get hfp f2.symm y1 y3).symm⟩
      have en6 := k6 _ _ (nci _ _ W5.en) W5.en
      have eca6 := k6 _ _ (nci _ _ eca5) eca5
      have tk : (zs3 fs li lj).take (y + 1) = (zs3 fs li lj).take y ++ [(py, ay, b_y)] := by
        rw [List.take_succ, zs3_at y1 y2 y3]
        rfl
      refine ⟨rfl, _, rfl, _, rfl, _, rfl, na, _, _, _, rfl, rfl, SqL.of en6, atI_nat n2, _, rfl, ci, _, rfl, rdI, ca, _, _, _, rfl, rfl, SqL.of eca6, atI_nat (clat c ay ha1), _, rfl, _, rfl, _, rfl, na, _, _, _, rfl, rfl, SqL.of en6, atI_nat m2, _, rfl, cj, _, rfl, rdJ, ca, _, _, _, rfl, rfl, SqL.of eca6, atI_nat (clat c b_y hb1), rfl, _, rfl, ?_⟩
      rw [dec_ints, tk, List.filter_append]
      by_cases e : clN pts nx c ay = clN pts nx c b_y
      · rw [decide_eq_true e]
        refine iteF ⟨k6, ec6, ?_⟩
        rw [List.filter_cons_of_neg (by show ¬ (!decide _) = true; rw [decide_eq_true e]; decide), List.filter_nil, List.append_nil]
        exact eD6
      · rw [decide_eq_false e]
        have hlen : ((((zs3 fs li lj).take y).filter (tst pts nx c)).map (·.1)).length ≤ y := by
          rw [List.length_map]
          exact Nat.le_trans (List.length_filter_le _ _) (List.length_take_le _ _)
        refine iteT ⟨_, rfl, _, eD6, szN (by rw [show ∀ w : List StepT, (stepsV w).length = w.length from fun w => List.length_map _]; omega), fun b o n e => ?_, by rw [upd_ne ncD]; exact ec6, ?_⟩
        · rw [upd_ne (ne_of_none e hD25)]
          exact k6 b o n e
        · rw [upd_same, List.filter_cons_of_pos (by show (!decide _) = true; rw [decide_eq_false e]; rfl), List.filter_nil, List.map_append]
          unfold stepsV
          rw [List.map_append]
          rfl
    rintro H6 ⟨k6, ec6, eD6⟩
    have lz3 : (zs3 fs li lj).length ≤ fs.length := by
      unfold zs3
      rw [List.length_zip]
      exact Nat.min_le_left _ _
    rw [lz, List.take_of_length_le lz3, z4] at eD6
    dsimp only [gName]
    refine ⟨ec6, ?_⟩
    have s67 : Same H5 (upd H6 ci (.dK (zipK fs li))) := fun b o e => by
      by_cases z : b = ci
      · rw [z, upd_same]
        rw [z, n3] at e
        exact e
      · rw [upd_ne z]
        exact k6 b o z e
    have eD7 : upd H6 ci (.dK (zipK fs li)) D2 = some (.lst (stepsV (p :: r0.map (·.1)))) := by rw [upd_ne ncD.symm]; exact eD6
    generalize upd H6 ci (.dK (zipK fs li)) = H7 at *
    have ef7 := s67 _ _ ef5
    have nDf : D2 ≠ f := fun e => by rw [e, ef5] at hD25; cases hD25
    have hf4 : ∀ b o, H4 b = some o → b ≠ f → H7 b = some o := fun b o e n => s67 _ _ (kk b o e n)
    refine ⟨_, rfl, .inl ⟨rfl, _, SqL.of ef7⟩, _, rfl, D2, _, 0, _, rfl, rfl, SqL.of eD7, atI_nat (j := 0) rfl, f, _, _, rfl, rfl, ef7, szN (by rw [show ∀ w : List StepT, (stepsV w).length = w.length from fun w => List.length_map _, hst]; omega), ?_⟩
    have s8 : ∀ b o, H7 b = some o → b ≠ f → upd H7 f (.lst (stepsV steps ++ [.str (stepS p)])) b = some o := fun b o e n => by rw [upd_ne n]; exact e
    have ef8 : upd H7 f (.lst (stepsV steps ++ [.str (stepS p)])) f = some (.lst (stepsV (steps ++ [p]))) := by
      rw [upd_same]
      unfold stepsV
      rw [List.map_append]
      rfl
    generalize upd H7 f (.lst (stepsV steps ++ [.str (stepS p)])) = H8 at *
    have ndf : ∀ b xs, H7 b = some (.dK xs) → b ≠ f := fun b xs e => ne_of e ef7 fun z => nomatch z
    have nnf : na ≠ f := ne_of_none W.en hf0
    have en8 := s8 _ _ (s67 _ _ W5.en) nnf
    have eD8 := s8 _ _ eD7 nDf
    have rI : DGet H8 ci (.str (stepS p)) (some (V.int ((a : Nat) : Int))) := by
      have e := s67 _ _ n3
      exact .inl ⟨_, .inr (stepS p), .inl (s8 _ _ e (ndf _ _ e)), rfl, (zip_get hfp g2.symm zp za).symm⟩
    have rJ : DGet H8 cj (.str (stepS p)) (some (V.int ((b : Nat) : Int))) := by
      have e := s67 _ _ m3
      exact .inl ⟨_, .inr (stepS p), .inl (s8 _ _ e (ndf _ _ e)), rfl, (zip_get hfp f2.symm zp zb).symm⟩
    refine ⟨_, rfl, _, rfl, na, _, _, _, rfl, rfl, SqL.of en8, atI_nat n2, _, rfl, D2, _, 0, _, rfl, rfl, SqL.of eD8, atI_nat (j := 0) rfl, ci, _, rfl, rI, _, rfl, _, rfl, na, _, _, _, rfl, rfl, SqL.of en8, atI_nat m2, _, rfl, D2, _, 0, _, rfl, rfl, SqL.of eD8, atI_nat (j := 0) rfl, cj, _, rfl, rJ, sz2, fun tt htt => ⟨tt, _, rfl, SqT.of upd_same, rfl, _, _, rfl, _, _, rfl, rfl, ?_⟩⟩
    have s9 : Same H8 (upd H8 tt (.tup [.int ((a : Nat) : Int), .int ((b : Nat) : Int)])) := Same.new htt
    have ek : d - (k + 1) = c := by omega
    refine ⟨_, _, a, b, steps ++ [p], rfl, fun b' o e n => s9 _ _ (s8 _ _ (hf4 b' o e n) n), s9 _ _ ef8, ga1, gb1, by rw [ga2, gb2, hwi], ?_, ?_, by rw [List.length_append, hst]; rfl, ?_⟩
    · rw [ek]
      exact of_decide_eq_false (by have := z2; simpa using this)
    · intro c' hc'
      rw [ek] at hc'
      subst hc'
      have e2 := ((cl_succ hl n1 m1).mp hn2).2
      have := congrArg (fun l => l[x0]?) e2
      rw [List.getElem?_map, List.getElem?_map, za, zb] at this
      exact Option.some.inj this
    · intro r hr
      rw [ek] at hr
      rw [List.append_assoc]
      refine hpl (p :: r) (.cons n1 m1 (by rw [← efs]; exact zp) za zb (by have := z2; simpa using this) (fun y a' b' hy ea eb => ?_) hr)
      have hyf : y < fs.length := by
        have := (List.getElem?_eq_some_iff.mp ea).1
        omega
      have := z3 y _ hy (zs3_at (List.getElem?_eq_getElem hyf) ea eb)
      simpa using this
  · rintro σ H5 ⟨v6, v7, ii, jj, steps, rfl, kk, ef5, hii, hjj, hwi, hn1, hn2, hst, hpl⟩
    rw [lvd, Nat.sub_self] at hpl
    have h := hpl [] (.nil ii jj)
    rw [List.append_nil] at h
    exact ⟨_, rfl, q2 f d steps H5 (kkS kk) hf0 ef5 hdT h hne fun c hc => heq c (by omega)⟩
end
end MS
end
section
set_option maxRecDepth 100000
set_option maxHeartbeats 4000000
namespace MS
open PySem L2
/-! ### two papers' states in one row (pure) -/
abbrev wrU (S1 S2 : List StT) (k : Nat) : Bool := if k < S1.length then (S1.getD k (false, [])).1 else (S2.getD (k - S1.length) (false, [])).1
abbrev nxU (nx1 nx2 : List (List Nat)) (n1 : Nat) : List (List Nat) := nx1 ++ nx2.map fun l => l.map (· + n1)
theorem getD_st {S : List StT} {k : Nat} {s : StT} (h : S[k]? = some s) : S.getD k (false, []) = s := by
  rw [List.getD_eq_getElem?_getD, h]
  rfl
section
variable {ps qs : List Sch} {S1 S2 : List StT} {nx1 nx2 : List (List Nat)}
theorem wr_one {k : Nat} {s : StT} (h : S1[k]? = some s) : wrU S1 S2 k = s.1 := by
  unfold wrU
  rw [if_pos (List.getElem?_eq_some_iff.mp h).1, getD_st h]
theorem wr_two {k : Nat} {s : StT} (h : S2[k]? = some s) : wrU S1 S2 (k + S1.length) = s.1 := by
  unfold wrU
  rw [if_neg (by omega), Nat.add_sub_cancel, getD_st h]
theorem union_one (h1 : NxR ps allSteps S1 nx1) {k : Nat} {s : StT} (hs : S1[k]? = some s) : ∃ l, (nxU nx1 nx2 S1.length)[k]? = some l ∧ l.length = (allSteps.filter (mayB s)).length ∧ ∀ (j : Nat) (p : StepT) (i : Nat), (allSteps.filter (mayB s))[j]? = some p → l[j]? = some i → S1[i]? = some (stB (watchP ps) s p) := by
  obtain ⟨l, g1, g2, g3⟩ := h1.at_ k s hs
  have hk := (List.getElem?_eq_some_iff.mp g1).1
  exact ⟨l, by unfold nxU; rw [List.getElem?_append_left hk]; exact g1, g2, g3⟩
theorem union_two (h1 : NxR ps allSteps S1 nx1) (h2 : NxR qs allSteps S2 nx2) {k : Nat} {s : StT} (hs : S2[k]? = some s) : ∃ l, (nxU nx1 nx2 S1.length)[k + S1.length]? = some l ∧ l.length = (allSteps.filter (mayB s)).length ∧ ∀ (j : Nat) (p : StepT) (i : Nat), (allSteps.filter (mayB s))[j]? = some p → l[j]? = some i → ∃ i', i = i' + S1.length ∧ S2[i']? = some (stB (watchP qs) s p) := by
  obtain ⟨l, g1, g2, g3⟩ := h2.at_ k s hs
  refine ⟨l.map (· + S1.length), ?_, by rw [List.length_map]; exact g2, fun j p i hp hi => ?_⟩
  · unfold nxU
    rw [List.getElem?_append_right (by rw [h1.len]; omega), h1.len, Nat.add_sub_cancel, List.getElem?_map, g1]
    rfl
  · rw [List.getElem?_map] at hi
    cases e : l[j]? with
    | none => rw [e] at hi; cases hi
    | some i' =>
      rw [e] at hi
      exact ⟨i', (Option.some.inj hi).symm, g3 j p i' hp e⟩
theorem union_sys (h1 : NxR ps allSteps S1 nx1) (h2 : NxR qs allSteps S2 nx2) : Sys allSteps (S1.length + S2.length) (wrU S1 S2) (nxU nx1 nx2 S1.length) where
  len := by unfold nxU; rw [List.length_append, List.length_map, h1.len, h2.len]
  at_ := fun k hk => by
    by_cases e : k < S1.length
    · have hs : S1[k]? = some (S1[k]'e) := List.getElem?_eq_getElem e
      obtain ⟨l, g1, g2, g3⟩ := union_one (nx2 := nx2) h1 hs
      have hw : wrU S1 S2 k = (S1[k]'e).1 := wr_one hs
      rw [hw]
      refine ⟨l, g1, g2, fun j p i hp hi => ?_⟩
      have := g3 j p i hp hi
      have hi' := (List.getElem?_eq_some_iff.mp this).1
      exact ⟨by omega, by rw [wr_one this]; rfl⟩
    · obtain ⟨k', rfl⟩ : ∃ k', k = k' + S1.length := ⟨k - S1.length, by omega⟩
      have hk' : k' < S2.length := by omega
      have hs : S2[k']? = some (S2[k']'hk') := List.getElem?_eq_getElem hk'
      obtain ⟨l, g1, g2, g3⟩ := union_two h1 h2 hs
      have hw : wrU S1 S2 (k' + S1.length) = (S2[k']'hk').1 := wr_two hs
      rw [hw]
      refine ⟨l, g1, g2, fun j p i hp hi => ?_⟩
      obtain ⟨i', rfl, this⟩ := g3 j p i hp hi
      have hi' := (List.getElem?_eq_some_iff.mp this).1
      exact ⟨by omega, by rw [wr_two this]; rfl⟩
theorem may_at {s : StT} {p : StepT} (h : IsStep p) (hm : mayB s p = true) : ∃ j : Nat, (allSteps.filter (mayB s))[j]? = some p := by
  obtain ⟨j, hj, e⟩ := List.mem_iff_getElem.mp (List.mem_filter.mpr ⟨allSteps_mem h, hm⟩)
  exact ⟨j, by rw [List.getElem?_eq_getElem hj, e]⟩
theorem go_one (h1 : NxR ps allSteps S1 nx1) : ∀ (m : List StepT) (k : Nat) (s : StT), S1[k]? = some s → WorkFrom s.1 m → ∃ k', Go allSteps (wrU S1 S2) (nxU nx1 nx2 S1.length) k m k' ∧ S1[k']? = some (m.foldl (stB (watchP ps)) s)
  | [], k, s, hs, _ => ⟨k, rfl, hs⟩
  | p :: m, k, s, hs, ⟨a1, a2, a3⟩ => by
    obtain ⟨l, g1, g2, g3⟩ := union_one (nx2 := nx2) h1 hs
    have hm : mayB s p = true := by
      show (s.1 || !(p.2 == "c")) = true
      cases hc : p.2 == ("c" : Str) with
      | false => rw [Bool.not_false, Bool.or_true]
      | true => rw [a2 (beq_iff_eq.mp hc), Bool.true_or]
    obtain ⟨j, hj⟩ := may_at a1 hm
    have hjl : j < l.length := by
      have := (List.getElem?_eq_some_iff.mp hj).1
      omega
    have el : l[j]? = some (l[j]'hjl) := List.getElem?_eq_getElem hjl
    have hs' := g3 j p _ hj el
    obtain ⟨k', b1, b2⟩ := go_one h1 m _ _ hs' a3
    exact ⟨k', ⟨j, _, l, g1, by rw [wr_one hs]; exact hj, el, b1⟩, b2⟩
theorem go_two (h1 : NxR ps allSteps S1 nx1) (h2 : NxR qs allSteps S2 nx2) : ∀ (m : List StepT) (k : Nat) (s : StT), S2[k]? = some s → WorkFrom s.1 m → ∃ k', Go allSteps (wrU S1 S2) (nxU nx1 nx2 S1.length) (k + S1.length) m (k' + S1.length) ∧ S2[k']? = some (m.foldl (stB (watchP qs)) s)
  | [], k, s, hs, _ => ⟨k, rfl, hs⟩
  | p :: m, k, s, hs, ⟨a1, a2, a3⟩ => by
    obtain ⟨l, g1, g2, g3⟩ := union_two h1 h2 hs
    have hm : mayB s p = true := by
      show (s.1 || !(p.2 == "c")) = true
      cases hc : p.2 == ("c" : Str) with
      | false => rw [Bool.not_false, Bool.or_true]
      | true => rw [a2 (beq_iff_eq.mp hc), Bool.true_or]
    obtain ⟨j, hj⟩ := may_at a1 hm
    have hjl : j < l.length := by
      have := (List.getElem?_eq_some_iff.mp hj).1
      omega
    have el : l[j]? = some (l[j]'hjl) := List.getElem?_eq_getElem hjl
    obtain ⟨i', ei, hs'⟩ := g3 j p _ hj el
    obtain ⟨k', b1, b2⟩ := go_two h1 h2 m _ _ hs' a3
    exact ⟨k', ⟨j, _, l, g1, by rw [wr_two hs]; exact hj, el, by rw [ei]; exact b1⟩, b2⟩
theorem go_work (h1 : NxR ps allSteps S1 nx1) : ∀ (m : List StepT) (k k' : Nat) (s : StT), S1[k]? = some s → Go allSteps (wrU S1 S2) (nxU nx1 nx2 S1.length) k m k' → WorkFrom s.1 m
  | [], _, _, _, _, _ => True.intro
  | p :: m, k, k', s, hs, ⟨j, i', l, a1, a2, a3, a4⟩ => by
    obtain ⟨l', g1, g2, g3⟩ := union_one (nx2 := nx2) h1 hs
    rw [a1] at g1
    cases g1
    rw [wr_one hs] at a2
    have hs' := g3 j p i' a2 a3
    have hm := List.mem_filter.mp (List.mem_of_getElem? a2)
    refine ⟨?_, fun hc => ?_, go_work h1 m i' k' _ hs' a4⟩
    · have key : ∀ p ∈ allSteps, p.1 ∈ wordsL ∧ p.2 ∈ marksL := by decide +kernel
      exact key p hm.1
    · have h2 : (s.1 || !(p.2 == "c")) = true := hm.2
      rw [hc] at h2
      simpa using h2
end
end MS
end
section
set_option maxRecDepth 100000
set_option maxHeartbeats 4000000
namespace MS
open PySem L2
/-! ### what parted tells (pure) -/
def PrtR (ps qs : List Sch) : Option (List StepT) → Prop
  | none => ∀ m, WorkFrom false m → pts (rAll ps m) = pts (rAll qs m)
  | some l => WorkFrom false l ∧ l.length ≤ 5000 ∧ pts (rAll ps l) ≠ pts (rAll qs l) ∧ ∀ m, WorkFrom false m → pts (rAll ps m) ≠ pts (rAll qs m) → ¬ slt ltT m l
theorem go_det {sl : List StepT} {n : Nat} {wr : Nat → Bool} {nx : List (List Nat)} (hs : sl.Nodup) : ∀ (m : List StepT) (i k k' : Nat), Go sl wr nx i m k → Go sl wr nx i m k' → k = k'
  | [], _, _, _, h1, h2 => h1.symm.trans h2
  | p :: m, i, k, k', ⟨a, i1, l1, a1, a2, a3, a4⟩, ⟨b, i2, l2, b1, b2, b3, b4⟩ => by
    rw [a1] at b1
    cases b1
    have hab : a = b := by
      obtain ⟨q1, q2⟩ := List.getElem?_eq_some_iff.mp a2
      obtain ⟨r1, r2⟩ := List.getElem?_eq_some_iff.mp b2
      exact (List.getElem_inj (hs.sublist List.filter_sublist)).mp (q2.trans r2.symm)
    subst hab
    rw [a3] at b3
    cases b3
    exact go_det (n := n) hs m i1 k k' a4 b4
theorem steps_pw' : allSteps.Pairwise ltT := by decide +kernel
theorem steps_nd : allSteps.Nodup := by decide +kernel
/-- the points of a state -/
theorem state_pts {ps : List Sch} {S : List StT} {L : List (List StepT)} (b : BfP ps [] allSteps S L S.length []) {k : Nat} {m : List StepT} (h : S[k]? = some (runS (watchP ps) m)) : (L.map (ptsOf ps []))[k]? = some ((pts (rAll ps m) : Nat) : Int) := by
  have hk := (List.getElem?_eq_some_iff.mp h).1
  have hl : L[k]? = some (L[k]'(by rw [b.len]; exact hk)) := List.getElem?_eq_getElem _
  rw [List.getElem?_map, hl]
  generalize L[k]'(by rw [b.len]; exact hk) = l at *
  obtain ⟨_, e⟩ := b.run k _ l h hl
  show some ((pts (rAll ps ([] ++ l)) : Nat) : Int) = _
  rw [List.nil_append, pts_run (ps := ps) (ws := l) (ws' := m) e]
section
variable {ps qs : List Sch} {S1 S2 : List StT} {L1 L2 : List (List StepT)} {nx1 nx2 : List (List Nat)}
abbrev ptU (ps qs : List Sch) (L1 L2 : List (List StepT)) : List Int := L1.map (ptsOf ps []) ++ L2.map (ptsOf qs [])
theorem go_both (b1 : BfP ps [] allSteps S1 L1 S1.length []) (b2 : BfP qs [] allSteps S2 L2 S2.length []) (h1 : NxR ps allSteps S1 nx1) (h2 : NxR qs allSteps S2 nx2) {m : List StepT} (hm : WorkFrom false m) :
    ∃ k k', Go allSteps (wrU S1 S2) (nxU nx1 nx2 S1.length) 0 m k ∧ Go allSteps (wrU S1 S2) (nxU nx1 nx2 S1.length) S1.length m k' ∧ (ptU ps qs L1 L2).getD k 0 = ((pts (rAll ps m) : Nat) : Int) ∧ (ptU ps qs L1 L2).getD k' 0 = ((pts (rAll qs m) : Nat) : Int) := by
  obtain ⟨k, a1, a2⟩ := go_one (S2 := S2) (nx2 := nx2) h1 m 0 _ b1.first.1 hm
  obtain ⟨k', c1, c2⟩ := go_two h1 h2 m 0 _ b2.first.1 hm
  rw [Nat.zero_add] at c1
  have e1 := state_pts b1 (m := m) a2
  have e2 := state_pts b2 (m := m) c2
  refine ⟨k, k' + S1.length, a1, c1, ?_, ?_⟩
  · rw [List.getD_eq_getElem?_getD, List.getElem?_append_left (List.getElem?_eq_some_iff.mp e1).1, e1]
    rfl
  · have hl : (L1.map (ptsOf ps [])).length = S1.length := by rw [List.length_map, b1.len]
    rw [List.getD_eq_getElem?_getD, List.getElem?_append_right (by omega), hl, Nat.add_sub_cancel, e2]
    rfl
theorem run_w0 (W : List Wt) : (runS W []).1 = false := rfl
theorem wr_start (b1 : BfP ps [] allSteps S1 L1 S1.length []) (b2 : BfP qs [] allSteps S2 L2 S2.length []) : wrU S1 S2 0 = wrU S1 S2 S1.length := by
  have e1 := wr_one (S2 := S2) b1.first.1
  have e2 := wr_two (S1 := S1) b2.first.1
  rw [Nat.zero_add] at e2
  rw [e1, e2]
  exact (run_w0 _).trans (run_w0 _).symm
theorem ptU_len (b1 : BfP ps [] allSteps S1 L1 S1.length []) (b2 : BfP qs [] allSteps S2 L2 S2.length []) : (ptU ps qs L1 L2).length = S1.length + S2.length := by
  unfold ptU
  rw [List.length_append, List.length_map, List.length_map, b1.len, b2.len]
theorem part_none (b1 : BfP ps [] allSteps S1 L1 S1.length []) (b2 : BfP qs [] allSteps S2 L2 S2.length []) (h1 : NxR ps allSteps S1 nx1) (h2 : NxR qs allSteps S2 nx2) {t : Nat} (fix : lvN (ptU ps qs L1 L2) (nxU nx1 nx2 S1.length) (t + 1) = lvN (ptU ps qs L1 L2) (nxU nx1 nx2 S1.length) t) (e : clN (ptU ps qs L1 L2) (nxU nx1 nx2 S1.length) t 0 = clN (ptU ps qs L1 L2) (nxU nx1 nx2 S1.length) t S1.length) : PrtR ps qs none := fun m hm => by
  have z1 := (List.getElem?_eq_some_iff.mp b1.first.1).1
  have z2 := (List.getElem?_eq_some_iff.mp b2.first.1).1
  obtain ⟨k, k', g1, g2, e1, e2⟩ := go_both b1 b2 h1 h2 hm
  have := none_apart (union_sys h1 h2) (ptU_len b1 b2) steps_nd (by omega) (by omega) (wr_start b1 b2) fix e g1 g2
  rw [e1, e2] at this
  omega
theorem part_some (b1 : BfP ps [] allSteps S1 L1 S1.length []) (b2 : BfP qs [] allSteps S2 L2 S2.length []) (h1 : NxR ps allSteps S1 nx1) (h2 : NxR qs allSteps S2 nx2) {d : Nat} {l : List StepT} (hd5 : d ≤ 5000) (hp : PL allSteps (wrU S1 S2) (nxU nx1 nx2 S1.length) (ptU ps qs L1 L2) d 0 S1.length l)
    (hd : clN (ptU ps qs L1 L2) (nxU nx1 nx2 S1.length) d 0 ≠ clN (ptU ps qs L1 L2) (nxU nx1 nx2 S1.length) d S1.length) (hc : ∀ c, c + 1 = d → clN (ptU ps qs L1 L2) (nxU nx1 nx2 S1.length) c 0 = clN (ptU ps qs L1 L2) (nxU nx1 nx2 S1.length) c S1.length) : PrtR ps qs (some l) := by
  have z1 := (List.getElem?_eq_some_iff.mp b1.first.1).1
  have z2 := (List.getElem?_eq_some_iff.mp b2.first.1).1
  obtain ⟨p1, ⟨k, k', p2, p3, p4⟩, p5⟩ := pl_least (union_sys h1 h2) (ptU_len b1 b2) steps_pw' d 0 S1.length l (by omega) (by omega) (wr_start b1 b2) hp hd hc
  have hl : WorkFrom false l := go_work (S2 := S2) (nx2 := nx2) h1 l 0 k _ b1.first.1 p2
  obtain ⟨q, q', g1, g2, e1, e2⟩ := go_both b1 b2 h1 h2 hl
  rw [go_det (n := 0) steps_nd l 0 k q p2 g1, go_det (n := 0) steps_nd l S1.length k' q' p3 g2, e1, e2] at p4
  refine ⟨hl, by omega, fun e => p4 (by rw [e]), fun m hm hne hlt => ?_⟩
  obtain ⟨r, r', f1, f2, u1, u2⟩ := go_both b1 b2 h1 h2 hm
  have hpt : (ptU ps qs L1 L2).getD r 0 ≠ (ptU ps qs L1 L2).getD r' 0 := fun e => hne (by rw [u1, u2] at e; omega)
  rcases hlt with hlt | ⟨he, hlx⟩
  · have hd0 : 0 < d := by omega
    exact hpt (cl_go (union_sys h1 h2) (ptU_len b1 b2) steps_nd (d - 1) 0 S1.length (by omega) (by omega) (wr_start b1 b2) (hc (d - 1) (by omega)) m r r' (by omega) f1 f2)
  · exact p5 m r r' f1 f2 hpt (by omega) hlx
/-- it tells but one -/
theorem PrtR.uniq : ∀ {a b : Option (List StepT)}, PrtR ps qs a → PrtR ps qs b → a = b
  | none, none, _, _ => rfl
  | none, some l, h, g => absurd (h l g.1) g.2.2.1
  | some l, none, h, g => absurd (g l h.1) h.2.2.1
  | some l, some l', h, g => by
    have tri : ∀ xs ys : List StepT, (∀ p ∈ xs, IsStep p) → (∀ p ∈ ys, IsStep p) → ¬ slt ltT xs ys → ¬ slt ltT ys xs → xs = ys := fun xs ys h1 h2 h3 h4 => slt_tri h1 h2 h3 h4
    rw [tri l l' h.1.all g.1.all (g.2.2.2 l h.1 h.2.2.1) (h.2.2.2 l' g.1 g.2.2.1)]
end
end MS
end
section
set_option maxRecDepth 100000
set_option maxHeartbeats 4000000
namespace MS
open PySem L2
/-! ### parted -/
abbrev s_parted : Stmt := topS 61
abbrev nmPa : List Str := ["one", "other", "leads", "nexts", "other_leads", "other_nexts", "both", "points"]
theorem sc_parted : FnScope nmPa ["one", "other"] (defScope s_parted) := ⟨rfl, rfl, rfl, by decide +kernel, rfl, by decide +kernel, by decide +kernel⟩
structure DPt (K : PySem.W.Frag) (mg : Str → Option Value) where
  E : DEx K mg
  DE : Def K mg "explored" s_explored psEx
  DS : Def K mg "steps_of" s_steps_of ["words"]
  DB : Def K mg "points_by" s_points_by psPB
  DP : Def K mg "points_of" s_points_of ["rows"]
  DN : Def K mg "numbered" s_numbered ["keys"]
  DF : Def K mg "finer" s_finer ["classes", "nexts"]
  DL : Def K mg "levels_of" s_levels_of ["points", "nexts"]
  DM : Def K mg "moved" s_moved ["nexts", "many"]
  DT : Def K mg "parting_steps" s_parting psPt
  D : Def K mg "parted" s_parted ["one", "other"]
def spParted (ps qs : List Sch) : Sp := fun vs H Q _ => ∃ (pa qa : Addr) (pv qv : List V), vs = [.ref pa, .ref qa] ∧ H pa = some (.tup pv) ∧ Paired (SAt H 5) ps pv ∧ PaperOk ps ∧ H qa = some (.tup qv) ∧ Paired (SAt H 5) qs qv ∧ PaperOk qs ∧
  (∀ H', Same H H' → PrtR ps qs none → Q .non H') ∧
  ∀ (f : Addr) (l : List StepT) (H' : Hp), Same H H' → H f = none → H' f = some (.lst (stepsV l)) → PrtR ps qs (some l) → Q (.ref f) H'
theorem bf_steps {ps : List Sch} {S : List StT} {L : List (List StepT)} (b : BfP ps [] allSteps S L S.length []) (hS : S.length ≤ 2048) : ∀ l ∈ L, StepsOk ([] ++ l) := fun l hl => by
  have hLS := b.len
  obtain ⟨i, hi, e⟩ := List.mem_iff_getElem.mp hl
  have h1 : L[i]? = some l := by rw [List.getElem?_eq_getElem hi, e]
  have h2 := b.short i l h1
  obtain ⟨g, _⟩ := b.run i _ l (List.getElem?_eq_getElem (by rw [← hLS]; exact hi)) h1
  exact ⟨fun p hp => allS_ok p (goes_mem g p hp), by rw [List.nil_append]; omega⟩
theorem paired_of_get {α β : Type} {R : α → β → Prop} : ∀ {xs : List α} {ys : List β}, xs.length = ys.length → (∀ (k : Nat) (x : α) (y : β), xs[k]? = some x → ys[k]? = some y → R x y) → Paired R xs ys
  | [], [], _, _ => .nil
  | [], _ :: _, h, _ => by cases h
  | _ :: _, [], h, _ => by cases h
  | x :: xs, y :: ys, h, k => .cons (k 0 x y rfl rfl) (paired_of_get (Nat.succ.inj h) fun j a b ha hb => k (j + 1) a b ha hb)
/-- next dicts in turn, as moved takes them -/
def tlOf (S : List StT) (nx : List (List Nat)) : List (List StepT × List Nat) := List.zipWith (fun s l => (allSteps.filter (mayB s), l)) S nx
theorem tl_at {S : List StT} {nx : List (List Nat)} {k : Nat} {s : StT} {l : List Nat} (h1 : S[k]? = some s) (h2 : nx[k]? = some l) : (tlOf S nx)[k]? = some (allSteps.filter (mayB s), l) := by
  unfold tlOf
  rw [List.getElem?_zipWith, h1, h2]
theorem tl_len {ps : List Sch} {S : List StT} {nx : List (List Nat)} (h : NxR ps allSteps S nx) : (tlOf S nx).length = S.length := by
  unfold tlOf
  rw [List.length_zipWith, h.len, Nat.min_self]
theorem tl_of {ps : List Sch} {S : List StT} {nx : List (List Nat)} (h : NxR ps allSteps S nx) {k : Nat} {t : List StepT × List Nat} (e : (tlOf S nx)[k]? = some t) : ∃ s l, S[k]? = some s ∧ nx[k]? = some l ∧ t = (allSteps.filter (mayB s), l) ∧ l.length = (allSteps.filter (mayB s)).length := by
  have hk := (List.getElem?_eq_some_iff.mp e).1
  rw [tl_len h] at hk
  have es : S[k]? = some (S[k]'hk) := List.getElem?_eq_getElem hk
  obtain ⟨l, g1, g2, _⟩ := h.at_ k _ es
  rw [tl_at es g1] at e
  exact ⟨_, l, es, g1, (Option.some.inj e).symm, g2⟩
/-- what levels_of asks of next dicts -/
theorem nd_nv {H : Hp} {sl : List StepT} {n : Nat} {wr : Nat → Bool} {nx : List (List Nat)} {nv : List V} (sys : Sys sl n wr nx) (h24 : sl.length ≤ 24) (hl : nv.length = n) (nd : ∀ k, k < n → ∃ l c, nx[k]? = some l ∧ nv[k]? = some (.ref c) ∧ H c = some (.dK (zipK (sl.filter (mayW (wr k))) l))) : NxV H nx nv ∧ NxOk n nx := by
  refine ⟨paired_of_get (by rw [sys.len, hl]) fun k l v e1 e2 => ?_, sys.len, fun l hl' => ?_⟩
  · have hk := (List.getElem?_eq_some_iff.mp e2).1
    obtain ⟨l', c, f1, f2, f3⟩ := nd k (by omega)
    rw [e1] at f1
    cases f1
    rw [e2] at f2
    cases f2
    obtain ⟨l2, g1, g2, _⟩ := sys.at_ k (by omega)
    rw [e1] at g1
    cases g1
    exact ⟨c, _, rfl, f3, zipK_vals g2⟩
  · obtain ⟨k, hk, e⟩ := List.mem_iff_getElem.mp hl'
    have ek : nx[k]? = some l := by rw [List.getElem?_eq_getElem hk, e]
    have hkn : k < n := by rw [← sys.len]; exact hk
    obtain ⟨l2, g1, g2, g3⟩ := sys.at_ k hkn
    rw [ek] at g1
    cases g1
    have hfl := List.length_filter_le (mayW (wr k)) sl
    refine ⟨by omega, fun x hx => ?_⟩
    obtain ⟨j, hj, ej⟩ := List.mem_iff_getElem.mp hx
    have ep := List.getElem?_eq_getElem (l := sl.filter (mayW (wr k))) (i := j) (by omega)
    exact (g3 j _ x ep (by rw [List.getElem?_eq_getElem hj, ej])).1
section
variable {P : Program} {w : World} {K : PySem.W.Frag} {mg : Str → Option Value} {base : Heap} {C C2 : Addr}
theorem ok_parted (ps qs : List Sch) (T : PTx w K mg) (Y : VCls K mg C) (Y2 : TCls K mg C2) (Z : DPt K mg) (DR : DRows K mg) (DC : DPaper K mg) : FnOk P w K mg base CX0 96 Z.D.f Z.D.fd ["one", "other"] (spParted ps qs) := by
  have GC1 : FnOk P w K mg base CX0 5 DC.DC.f DC.DC.fd ["paper"] (spCheckPaper1 ps) := ok_check_paper1 T DC
  have GC2 : FnOk P w K mg base CX0 5 DC.DC.f DC.DC.fd ["paper"] (spCheckPaper1 qs) := ok_check_paper1 T DC
  have GB1 : FnOk P w K mg base CX0 95 Z.DB.f Z.DB.fd psPB (spPointsBy ps []) := ok_points_by ps [] T Y Z.DB DR Z.DP
  have GB2 : FnOk P w K mg base CX0 95 Z.DB.f Z.DB.fd psPB (spPointsBy qs []) := ok_points_by qs [] T Y Z.DB DR Z.DP
  have GE1 : FnOk P w K mg base CX0 35 Z.DE.f Z.DE.fd psEx (spExplored C2 ps [] allSteps) := ok_explored ps [] allSteps T Y2 Z.DE Z.E
  have GE2 : FnOk P w K mg base CX0 35 Z.DE.f Z.DE.fd psEx (spExplored C2 qs [] allSteps) := ok_explored qs [] allSteps T Y2 Z.DE Z.E
  have GS := ok_steps_of (P := P) (w := w) (K := K) (mg := mg) (base := base) T Z.DS
  have GL : FnOk P w K mg base CX0 3 Z.DL.f Z.DL.fd ["points", "nexts"] spLevels := ok_levels T Z.DL Z.DF Z.DN
  have GM : FnOk P w K mg base CX0 1 Z.DM.f Z.DM.fd ["nexts", "many"] spMoved := ok_moved T Z.DM
  have GT : FnOk P w K mg base CX0 1 Z.DT.f Z.DT.fd psPt spParting := ok_parting T Z.DT
  have ml : mg "len" = none := T.free "len" (by decide +kernel)
  obtain ⟨aW, gW, qW⟩ := T.words
  have nd := sc_parted.nd
  refine Z.D.ok sc_parted (fun vs H Q E h => ?_) (fun cdv A outer s H vs Q E hr h => ?_)
  · obtain ⟨pa, qa, pv, qv, rfl, _⟩ := h
    rfl
  obtain ⟨pa, qa, pv0, qv0, rfl, epv, pp, hP, eqv, qq, hQ, k1, k2⟩ := h
  have hr35 : Room 35 _ := hr.mono (by decide)
  have hr5 : Room 5 _ := hr.mono (by decide)
  have hr3 : Room 3 _ := hr.mono (by decide)
  have hr1 : Room 1 _ := hr.mono (by decide)
  refine ⟨_, pss_cons (ps_expr (pcall DC.DC GC1 hr5 (pa_cons (pv 0) pa_nil)))
    (pss_cons (ps_expr (pcall DC.DC GC2 hr5 (pa_cons (pv 1) pa_nil)))
    (pss_cons (ps_asg (pcall Z.DE GE1 hr35 (pa_cons (pv 0) (pa_cons (pe_lst pa_nil) (pa_cons (pcall Z.DS GS hr1 (pa_cons (pe_glob rfl gW (v := .ref aW) rfl) pa_nil)) pa_nil)))) (pg_tup (by rfl) (pgs_cons (pg_name (i := 2) nd rfl (Or.inl rfl)) (pgs_cons (pg_name (i := 3) nd rfl (Or.inl rfl)) pgs_nil))))
    (pss_cons (ps_asg (pcall Z.DE GE2 hr35 (pa_cons (pv 1) (pa_cons (pe_lst pa_nil) (pa_cons (pcall Z.DS GS hr1 (pa_cons (pe_glob rfl gW (v := .ref aW) rfl) pa_nil)) pa_nil)))) (pg_tup (by rfl) (pgs_cons (pg_name (i := 4) nd rfl (Or.inl rfl)) (pgs_cons (pg_name (i := 5) nd rfl (Or.inl rfl)) pgs_nil))))
    (pss_cons (ps_set (i := 6) nd rfl (Or.inl rfl) (pe_op op_cat (pv 3) (pcall Z.DM GM hr1 (pa_cons (pv 5) (pa_cons (pe_callB call_len_seq rfl ml PySem.boot_len (pa_cons (pv 3) pa_nil)) pa_nil)))))
    (pss_cons (ps_set (i := 7) nd rfl (Or.inl rfl) (pe_op op_cat (pcall Z.DB GB1 hr (pa_cons (pv 0) (pa_cons (pe_lst pa_nil) (pa_cons (pv 2) pa_nil)))) (pcall Z.DB GB2 hr (pa_cons (pv 1) (pa_cons (pe_lst pa_nil) (pa_cons (pv 4) pa_nil))))))
    (pss_one (ps_ret (pcall Z.DT GT hr1 (pa_cons (pcall Z.DL GL hr3 (pa_cons (pv 7) (pa_cons (pv 6) pa_nil))) (pa_cons (pv 6) (pa_cons pe_int (pa_cons (pe_callB call_len_seq rfl ml PySem.boot_len (pa_cons (pv 3) pa_nil)) pa_nil)))))))))))), ?_⟩
  refine ⟨_, rfl, pa, pv0, rfl, epv, pp, hP, fun H1 s1 => ?_⟩
  refine ⟨_, rfl, qa, qv0, rfl, s1 _ _ eqv, paired_imp qq fun _ _ => SAt.keep (Same.tupK s1) _ _ _, hQ, fun H2 s2 => ?_⟩
  have s02 := s1.trans s2
  -- the first one's states
  refine ⟨_, rfl, Nat.zero_le _, fun w0 hw0 => ?_⟩
  have s3 : Same H2 (upd H2 w0 (.lst [])) := Same.new hw0
  have ew0 : upd H2 w0 (.lst []) w0 = some (.lst (stepsV [])) := upd_same
  have s03 := s02.trans s3
  generalize upd H2 w0 (.lst []) = H3 at *
  refine ⟨aW, rfl, qW, fun ta H4 s4 hta eta => ?_⟩
  have s04 := s03.trans s4
  refine ⟨pa, w0, ta, pv0, rfl, s04 _ _ epv, paired_imp pp fun _ _ => SAt.keep (Same.tupK s04) _ _ _, hP, s4 _ _ ew0, (fun _ h => nomatch h), eta, allS_ok, steps_pw, by decide +kernel, fun t1 la na H5 S1 L1 lv nv s5 ht1 hla et1 ela ena pl b1 hS1 hnv hnx => ?_⟩
  have s05 := s04.trans s5
  refine ⟨t1, _, rfl, SqT.of et1, rfl, _, _, rfl, _, _, rfl, rfl, ?_⟩
  dsimp only [gName]
  -- the second one's
  refine ⟨_, rfl, Nat.zero_le _, fun w2 hw2 => ?_⟩
  have s6 : Same H5 (upd H5 w2 (.lst [])) := Same.new hw2
  have ew2 : upd H5 w2 (.lst []) w2 = some (.lst (stepsV [])) := upd_same
  have s06 := s05.trans s6
  generalize upd H5 w2 (.lst []) = H6 at *
  refine ⟨aW, rfl, qW, fun tb H7 s7 htb etb => ?_⟩
  have s07 := s06.trans s7
  refine ⟨qa, w2, tb, qv0, rfl, s07 _ _ eqv, paired_imp qq fun _ _ => SAt.keep (Same.tupK s07) _ _ _, hQ, s7 _ _ ew2, (fun _ h => nomatch h), etb, allS_ok, steps_pw, by decide +kernel, fun t2 la2 na2 H8 S2 L2 lv2 nv2 s8 ht2 hla2 et2 ela2 ena2 pl2 b2 hS2 hnv2 hnx2 => ?_⟩
  have s08 := s07.trans s8
  have s58 := (s6.trans s7).trans s8
  refine ⟨t2, _, rfl, SqT.of et2, rfl, _, _, rfl, _, _, rfl, rfl, ?_⟩
  dsimp only [gName]
  obtain ⟨nx1, nxr1, nxd1⟩ := nx_ex hnx hnv
  obtain ⟨nx2, nxr2, nxd2⟩ := nx_ex hnx2 hnv2
  have h0S1 : 0 < S1.length := (List.getElem?_eq_some_iff.mp b1.first.1).1
  have h0S2 : 0 < S2.length := (List.getElem?_eq_some_iff.mp b2.first.1).1
  have pn2 : Paired (fun t v => NdAt H8 t.1 t.2 v) (tlOf S2 nx2) nv2 := paired_of_get (by rw [tl_len nxr2, hnv2]) fun k t v e1 e2 => by
    obtain ⟨s', l', g1, g2, rfl, g4⟩ := tl_of nxr2 e1
    obtain ⟨s2', c, l2, f1, f2, f3, f4⟩ := nxd2 k v e2
    rw [g1] at f2
    cases f2
    rw [g2] at f3
    cases f3
    exact ⟨c, f1, f4⟩
  -- both
  refine ⟨_, rfl, _, rfl, _, rfl, na, _, rfl, .inl (SqL.of (s58 _ _ ena)), na2, nv.length, nv2, tlOf S2 nx2, rfl, ena2, pn2, fun t ht => ?_, by omega, fun f H9 fv s9 hf ef pf => ?_⟩
  · obtain ⟨k, hk, e⟩ := List.mem_iff_getElem.mp ht
    obtain ⟨s', l', g1, g2, rfl, g4⟩ := tl_of nxr2 (k := k) (by rw [List.getElem?_eq_getElem hk, e])
    refine ⟨g4.symm, steps_pw.sublist List.filter_sublist, fun p hp => allS_ok p (List.mem_filter.mp hp).1, ?_⟩
    have := List.length_filter_le (mayB s') allSteps
    have h24 : allSteps.length = 24 := by decide +kernel
    show (allSteps.filter (mayB s')).length ≤ 24
    omega
  have s09 := s08.trans s9
  have s59 := s58.trans s9
  have hfv := Paired.length pf
  rw [tl_len nxr2] at hfv
  refine ⟨na, f, nv, fv, rfl, rfl, s59 _ _ ena, ef, szN (by omega), fun g hg => ?_⟩
  have s10 : Same H9 (upd H9 g (.lst (nv ++ fv))) := Same.new hg
  have eg : upd H9 g (.lst (nv ++ fv)) g = some (.lst (nv ++ fv)) := upd_same
  generalize upd H9 g (.lst (nv ++ fv)) = H10 at *
  have s510 := s59.trans s10
  have s010 := s09.trans s10
  dsimp only [gName]
  have sys := union_sys nxr1 nxr2
  have ndd : ∀ k, k < S1.length + S2.length → ∃ l c, (nxU nx1 nx2 S1.length)[k]? = some l ∧ (nv ++ fv)[k]? = some (.ref c) ∧ H10 c = some (.dK (zipK (allSteps.filter (mayW (wrU S1 S2 k))) l)) := fun k hk => by
    by_cases e : k < S1.length
    · have es : S1[k]? = some (S1[k]'e) := List.getElem?_eq_getElem e
      obtain ⟨l, g1, g2, g3⟩ := union_one (nx2 := nx2) nxr1 es
      have ev : nv[k]? = some (nv[k]'(by omega)) := List.getElem?_eq_getElem (by omega)
      obtain ⟨s', c, l', f1, f2, f3, f4⟩ := nxd1 k _ ev
      rw [es] at f2
      cases f2
      have el : l' = l := by
        have z : (nxU nx1 nx2 S1.length)[k]? = some l' := by
          unfold nxU
          rw [List.getElem?_append_left (List.getElem?_eq_some_iff.mp f3).1]
          exact f3
        rw [g1] at z
        exact (Option.some.inj z).symm
      subst el
      refine ⟨l', c, g1, by rw [List.getElem?_append_left (by omega), ev, f1], ?_⟩
      rw [wr_one es]
      exact s510 _ _ f4
    · obtain ⟨k', rfl⟩ : ∃ k', k = k' + S1.length := ⟨k - S1.length, by omega⟩
      have es : S2[k']? = some (S2[k']'(by omega)) := List.getElem?_eq_getElem (by omega)
      obtain ⟨l, g1, g2, _⟩ := nxr2.at_ k' _ es
      have ev : fv[k']? = some (fv[k']'(by omega)) := List.getElem?_eq_getElem (by omega)
      obtain ⟨t, et, c, ec1, ec2⟩ := paired_get' pf ev
      rw [tl_at es g1] at et
      cases et
      refine ⟨l.map (· + S1.length), c, ?_, ?_, ?_⟩
      · unfold nxU
        rw [List.getElem?_append_right (by rw [nxr1.len]; omega), nxr1.len, Nat.add_sub_cancel, List.getElem?_map, g1]
        rfl
      · rw [List.getElem?_append_right (by omega), hnv, Nat.add_sub_cancel, ev, ec1]
      · rw [wr_two es, ← hnv]
        exact s10 _ _ ec2
  -- the points
  refine ⟨_, rfl, Nat.zero_le _, fun w4 hw4 => ?_⟩
  have s11 : Same H10 (upd H10 w4 (.lst [])) := Same.new hw4
  have ew4 : upd H10 w4 (.lst []) w4 = some (.lst (stepsV [])) := upd_same
  generalize upd H10 w4 (.lst []) = H11 at *
  have s011 := s010.trans s11
  have s511 := s510.trans s11
  have s811 := (s9.trans s10).trans s11
  refine ⟨_, rfl, pa, w4, la, pv0, lv, L1, rfl, s011 _ _ epv, paired_imp pp fun _ _ => SAt.keep (Same.tupK s011) _ _ _, hP, ew4, s511 _ _ ela, by rw [b1.len]; exact hS1, paired_impM pl fun ls hls v ⟨a, h1, h2, h3, h4⟩ => ⟨a, h1, s511 _ _ h2, bf_steps b1 hS1 ls hls⟩, fun p1 H12 s12 hp1 ep1 => ?_⟩
  have s012 := s011.trans s12
  refine ⟨_, rfl, Nat.zero_le _, fun w5 hw5 => ?_⟩
  have s13 : Same H12 (upd H12 w5 (.lst [])) := Same.new hw5
  have ew5 : upd H12 w5 (.lst []) w5 = some (.lst (stepsV [])) := upd_same
  generalize upd H12 w5 (.lst []) = H13 at *
  have s013 := s012.trans s13
  have s813 := (s811.trans s12).trans s13
  refine ⟨_, rfl, qa, w5, la2, qv0, lv2, L2, rfl, s013 _ _ eqv, paired_imp qq fun _ _ => SAt.keep (Same.tupK s013) _ _ _, hQ, ew5, s813 _ _ ela2, by rw [b2.len]; exact hS2, paired_impM pl2 fun ls hls v ⟨a, h1, h2, h3, h4⟩ => ⟨a, h1, s813 _ _ h2, bf_steps b2 hS2 ls hls⟩, fun p2 H14 s14 hp2 ep2 => ?_⟩
  have s1214 := s13.trans s14
  have s1114 := s12.trans s1214
  have s1014 := s11.trans s1114
  have s014 := s013.trans s14
  have l1 := b1.len
  have l2 := b2.len
  refine ⟨p1, p2, _, _, rfl, rfl, s1214 _ _ ep1, ep2, szN (by rw [List.length_map, List.length_map, List.length_map, List.length_map]; omega), fun pt hpt => ?_⟩
  rw [← List.map_append]
  have s15 : Same H14 (upd H14 pt (.lst ((ptU ps qs L1 L2).map V.int))) := Same.new hpt
  have ept : upd H14 pt (.lst ((ptU ps qs L1 L2).map V.int)) pt = some (.lst ((ptU ps qs L1 L2).map V.int)) := upd_same
  generalize upd H14 pt (.lst ((ptU ps qs L1 L2).map V.int)) = H15 at *
  dsimp only [gName]
  have s1015 := s1014.trans s15
  have s015 := s014.trans s15
  have eg15 := s1015 _ _ eg
  have ndd15 : ∀ k, k < S1.length + S2.length → ∃ l c, (nxU nx1 nx2 S1.length)[k]? = some l ∧ (nv ++ fv)[k]? = some (.ref c) ∧ H15 c = some (.dK (zipK (allSteps.filter (mayW (wrU S1 S2 k))) l)) := fun k hk => by
    obtain ⟨l, c, h1, h2, h3⟩ := ndd k hk
    exact ⟨l, c, h1, h2, s1015 _ _ h3⟩
  have hlen := ptU_len b1 b2
  obtain ⟨nxv, nxo⟩ := nd_nv sys (by decide +kernel) (by rw [List.length_append]; omega) ndd15
  refine ⟨_, rfl, _, rfl, pt, g, ptU ps qs L1 L2, nv ++ fv, nxU nx1 nx2 S1.length, rfl, ept, eg15, nxv, by rw [hlen]; exact nxo, by omega, by omega, fun lf H16 flv tt s16 hlf elf plf fix mono => ?_⟩
  have s1016 := s1015.trans s16
  have s016 := s015.trans s16
  have htt : tt + 1 ≤ 5000 := by
    have h1 := lvN_cnt (by rw [sys.len, hlen]) (by omega) tt mono
    have h2 := cntP_le (lvN (ptU ps qs L1 L2) (nxU nx1 nx2 S1.length) tt)
    rw [lvN_len (by rw [sys.len, hlen])] at h2
    omega
  have e0 := wr_start b1 b2
  refine ⟨_, rfl, _, rfl, na, _, rfl, .inl (SqL.of ((s510.trans s1016) _ _ ena)), lf, g, flv, nv ++ fv, allSteps, S1.length + S2.length, wrU S1 S2, nxU nx1 nx2 S1.length, ptU ps qs L1 L2, tt, 0, nv.length, rfl, ⟨elf, plf, s1016 _ _ eg, fun k hk => ?_, sys, hlen, steps_pw, allS_ok, by decide +kernel, by omega⟩, by omega, by omega, by omega, by rw [hnv]; exact e0, fun H17 s17 hsame => ?_, fun rf d l H17 s17 hrf erf hd hPL hne heq => ?_⟩
  · obtain ⟨l, c, h1, h2, h3⟩ := ndd k hk
    exact ⟨l, c, h1, h2, s1016 _ _ h3⟩
  · refine k1 H17 (s016.trans s17) (part_none b1 b2 nxr1 nxr2 fix ?_)
    have := hsame tt (Nat.le_refl _)
    rw [hnv] at this
    exact this
  · rw [hnv] at hPL hne heq
    exact k2 rf l H17 (s016.trans s17) (s016.free hrf) erf (part_some b1 b2 nxr1 nxr2 (by omega) hPL hne heq)
end
end MS
end
section
set_option maxRecDepth 100000
set_option maxHeartbeats 4000000
namespace MS
open PySem L2
/-! ### _law_work of up to so many steps -/
def spWorkM : Sp := fun vs H Q _ => ∃ (m : Nat) (b l L : Addr) (F : List Str), vs = [.ref b, .ref L, .int ((m : Nat) : Int)] ∧ m ≤ 12 ∧ Box H b l ∧ L ≠ b ∧ L ≠ l ∧ H L = some (.lst (F.map V.str)) ∧ (∀ x ∈ F, IsW x) ∧ 0 < F.length ∧ F.length ≤ 8 ∧
  ∀ (p : Addr) (ws : List StepT) (H' : Hp), H p = none → H' p = some (.lst (stepsV ws)) → WorkOk ws → ws.length ≤ m → Box H' b l → Keep [b, l] H H' → Q (.ref p) H'
section
variable {P : Program} {w : World} {K : PySem.W.Frag} {mg : Str → Option Value} {base : Heap}
theorem ok_workM (D : Def K mg "_law_work" s_L_work ["_law_box", "_law_letters_here", "_law_most"]) (DT : Def K mg "_law_take" s_L_take ["_law_box", "_law_many"]) (DS : Def K mg "_law_step" s_L_step ["_law_box", "_law_letters_here", "_law_was_wrong"]) (ml : mg "len" = none) (mr : mg "range" = none) (ma : mg "any" = none) :
    FnOk P w K mg base CX0 3 D.f D.fd ["_law_box", "_law_letters_here", "_law_most"] spWorkM := by
  have GT : FnOk P w K mg base CX0 1 DT.f DT.fd ["_law_box", "_law_many"] spTake := ok_take DT
  have GS : FnOk P w K mg base CX0 2 DS.f DS.fd ["_law_box", "_law_letters_here", "_law_was_wrong"] spStep := ok_step DS DT ml
  refine D.ok sc_L_work (fun vs H Q E h => ?_) (fun cdv A outer s H vs Q E hr h => ?_)
  · obtain ⟨m, b, l, L, F, rfl, _⟩ := h
    rfl
  obtain ⟨m, b, l, L, F, rfl, hm, B, nb, nl, eL, w1, l0, l1, q⟩ := h
  have hr1 : Room 1 _ := hr.mono (by decide)
  have nd := sc_L_work.nd
  refine ⟨_, pss_cons (ps_set (i := 3) nd rfl (Or.inl rfl) (pe_lst pa_nil))
    (pss_cons (ps_for PassesOwn.never rfl (pi_range1 rfl mr (pa_cons (pcall DT GT hr1 (pa_cons (pv 0) (pa_cons (pe_op op_add (pv 2) pe_int) pa_nil))) pa_nil)) (pg_name (i := 4) nd rfl (Or.inl rfl))
      (pss_one (ps_expr (pe_bm PySem.F.plainAttrs_list PySem.F.slot_list_append PySem.F.type_list_append mt_append (pv 3)
        (pa_cons (pcall DS GS hr (pa_cons (pv 0) (pa_cons (pv 1) (pa_cons (pe_callB (cr_any rfl) rfl ma (by decide +kernel) (pa_cons
          (pe_lc (own := [("_law_step_here", 5)]) (g := gName 5) (tt := tYes) rfl nd (pi_list (pv 3)) (blkOk_by (N := ["_law_box", "_law_letters_here", "_law_most", "_law_found", "_law_turn", "_law_step_here"]) (sc := defScope s_L_work) (by decide +kernel)) (fun _ _ _ _ _ => pg_name (i := 5) nd rfl (Or.inl rfl)) (fun _ _ _ _ _ => pts_nil)
            (fun _ _ _ _ _ => pe_cmpR op_eq (pe_ix ix_str (pv 5) pe_int (fun _ _ => rfl)) pe_str (nomark _))) pa_nil)) pa_nil)))) pa_nil)))))
    (pss_one (ps_ret (pv 3)))), ?_⟩
  refine ⟨Nat.zero_le _, fun f hf => ?_⟩
  have nfb := B.ne_new hf
  refine ⟨_, rfl, _, rfl, _, _, rfl, rfl, b, l, _, rfl, by omega, by omega, B.new hf, fun r H1 a0 a1 B1 k1 => ?_⟩
  have a1' : r < 13 := by have a1 : r < ((m : Nat) : Int) + 1 := a1; omega
  have nin : ∀ {x : Addr}, x ≠ b ∧ x ≠ l → x ∉ [b, l] := fun {x} h => by simp [h.1, h.2]
  refine ⟨_, rfl, by omega, by omega, ?_⟩
  refine for_range (lo := 0) (n := r.toNat) (fun i σ H' => ∃ (ws : List StepT) (v : Option V), σ = [some (.ref b), some (.ref L), some (.int ((m : Nat) : Int)), some (.ref f), v, none] ∧ H' f = some (.lst (stepsV ws)) ∧ ws.length = i ∧ WorkFrom false ws ∧ Box H' b l ∧ Keep [b, l] H H')
    ⟨[], none, rfl, k1 _ _ upd_same (nin nfb), rfl, trivial, B1, (Keep.new hf).trans k1⟩ ?_ ?_
  · rintro i σ H' hi ⟨ws, v, rfl, ef, hl, hw, B', k'⟩
    have lws : (stepsV ws).length = ws.length := List.length_map _
    have all := hw.all
    refine ⟨_, rfl, .inl ⟨rfl, _, SqL.of ef⟩, _, rfl, _, rfl, _, rfl, f, rfl, ⟨_, SqL.of ef⟩, fun D hD => ?_⟩
    have nfD : f ≠ D := ne_of_none ef hD
    refine lc_list (K := K) (a := f) (xs := stepsV ws) (fun j H'' => H'' = upd H' D (.lst ((ws.take j).map fun p : StepT => V.bl (p.2 == ("w" : Str))))) rfl (fun j H'' _ e => by rw [e]; exact SqL.of (by rw [upd_ne nfD]; exact ef)) ?_ ?_
    · rintro j x H'' hj rfl
      have hjl : j < ws.length := by
        have z := (List.getElem?_eq_some_iff.mp hj).1
        rw [lws] at z
        exact z
      have ex : x = V.str (stepS (ws[j]'hjl)) := by
        have z := get_map (fun p => V.str (stepS p)) ws hjl
        exact Option.some.inj (hj.symm.trans z)
      subst ex
      have hs := all _ (List.getElem_mem hjl)
      obtain ⟨c, ec, em⟩ := hs.at1
      refine ⟨rfl, _, rfl, _, 1, c, rfl, rfl, by rw [hs.len]; decide, ec, rfl, _, upd_same, ?_, ?_⟩
      · rw [List.length_map, List.length_take]
        exact small1000 (by omega)
      · rw [upd_upd, em, List.take_succ_eq_append_getElem hjl, List.map_append, dec_str]
        rfl
    · rintro H'' rfl
      rw [lws, List.take_length]
      refine ⟨D, ws.map fun p : StepT => p.2 == ("w" : Str), rfl, SqL.of (by rw [upd_same, List.map_map]; rfl), ?_⟩
      have kD : Keep [b, l] H' (upd H' D (.lst (ws.map fun p : StepT => V.bl (p.2 == ("w" : Str))))) := Keep.new hD
      refine ⟨b, l, L, F, _, rfl, B'.new hD, nb, nl, (k'.trans kD) L _ eL (by simp [nb, nl]), w1, l0, l1, fun p H2 hp hc B2 k2 => ?_⟩
      have ef2 := (kD.trans k2) f _ ef (nin nfb)
      refine ⟨f, _, _, rfl, rfl, ef2, by rw [lws]; exact small1000 (by omega), ?_⟩
      refine ⟨ws ++ [p], _, rfl, ?_, ?_, hw.snoc hp fun e => ?_, B2.put nfb.1 nfb.2, ((k'.trans (kD.trans k2)).newer hf)⟩
      · rw [upd_same]
        unfold stepsV
        rw [List.map_append]
        rfl
      · rw [List.length_append, hl]
        rfl
      · have z := hc e
        rw [Bool.false_or]
        unfold anyWrong
        rw [List.any_map] at z
        exact z
  · rintro σ H' ⟨ws, v, rfl, ef, hl, hw, B', k'⟩
    exact ⟨_, rfl, q f ws H' hf ef ⟨hw, by omega⟩ (by omega) B' k'⟩
end
end MS
end
section
set_option maxRecDepth 100000
set_option maxHeartbeats 4000000
namespace MS
open PySem L2
/-- draws: the box goes on, all else stays -/
def BK (b l : Addr) (H H' : Hp) : Prop := Box H' b l ∧ Keep [b, l] H H'
theorem BK.refl {b l : Addr} {H : Hp} (B : Box H b l) : BK b l H H := ⟨B, Keep.refl _ _⟩
theorem Box.same {H H' : Hp} {b l : Addr} (B : Box H b l) (s : Same H H') : Box H' b l := by
  obtain ⟨ne, ⟨n, e1⟩, ns, e2⟩ := B
  exact ⟨ne, ⟨n, s _ _ e1⟩, ns, s _ _ e2⟩
theorem BK.same {b l : Addr} {H H1 H2 : Hp} (k : BK b l H H1) (s : Same H1 H2) : BK b l H H2 := ⟨k.1.same s, k.2.trans (Same.keep s)⟩
theorem BK.trans {b l : Addr} {H H1 H2 : Hp} (k : BK b l H H1) (k2 : BK b l H1 H2) : BK b l H H2 := ⟨k2.1, k.2.trans k2.2⟩
theorem BK.tup {b l : Addr} {H H' : Hp} (B : Box H b l) (k : BK b l H H') : TupK H H' := k.2.tup fun a ha => by
  obtain ⟨ne, ⟨n, e1⟩, ns, e2⟩ := B
  rcases List.mem_cons.mp ha with rfl | ha
  · exact ⟨_, e1⟩
  · rw [List.mem_singleton.mp ha]
    exact ⟨_, e2⟩

end MS
end
section
set_option maxRecDepth 100000
set_option maxHeartbeats 4000000
namespace MS
open PySem L2
/-! ### points by words alone (pure) -/
def ptA (f : Sch → Nat) : List Sch → Nat
  | [] => 0
  | s :: r => f s + ptA f r
def ptB (f : Sch → Nat) : List Sch → Nat → Nat
  | [], acc => acc
  | s :: r, acc => ptB f r (max acc (f s))
def ptk (ps : List Sch) (ws : List StepT) : Nat → Sch → Nat → Bool → Nat
  | 0, _, _, _ => 0
  | k + 1, .step x p, st, c => match hits ws c x st with
    | [] => 0
    | _ :: _ => p.toNat
  | k + 1, .behind x s, st, c => match hits ws c x st with
    | [] => 0
    | i :: _ => ptk ps ws k s (i + 1) c
  | k + 1, .use n, st, c => match ps[n]? with
    | none => 0
    | some s => ptk ps ws k s st c
  | k + 1, .all ks, st, c => ptA (fun s => ptk ps ws k s st c) ks
  | k + 1, .best ks, st, c => ptB (fun s => ptk ps ws k s st c) ks 0
  | k + 1, .fin x p s, st, c => if lastOk ws c x st = true then p.toNat else ptk ps ws k s st c
  | k + 1, .seen x s, st, c => if (ws.any fun p => p.1 == x) = true then ptk ps ws k s st c else 0
  | k + 1, .most n s, st, c => min n.toNat (ptk ps ws k s st c)
  | k + 1, .half s, st, c => ptk ps ws k s st c / 2
  | k + 1, .carry s, st, _ => ptk ps ws k s st true
theorem pts_allA {f : Sch → Nat → List Row} {g : Sch → Nat} : ∀ (ks : List Sch) (j : Nat), (∀ s ∈ ks, ∀ j, pts (f s j) = g s) → pts (allU f ks j) = ptA g ks
  | [], _, _ => rfl
  | s :: r, j, h => by
    show pts (f s j ++ allU f r (j + 1)) = g s + ptA g r
    rw [pts_app, h s List.mem_cons_self, pts_allA r (j + 1) fun s hs => h s (List.mem_cons_of_mem _ hs)]
theorem pts_bestA {f : Sch → Nat → List Row} {g : Sch → Nat} : ∀ (ks : List Sch) (j : Nat) (acc : List Row), (∀ s ∈ ks, ∀ j, pts (f s j) = g s) → pts (bestR f ks j acc) = ptB g ks (pts acc)
  | [], _, _, _ => rfl
  | s :: r, j, acc, h => by
    show pts (bestR f r (j + 1) (if pts acc < pts (f s j) then f s j else acc)) = ptB g r (max (pts acc) (g s))
    rw [pts_bestA r (j + 1) _ fun s hs => h s (List.mem_cons_of_mem _ hs), ← h s List.mem_cons_self j]
    congr 1
    split
    · omega
    · omega
theorem pts_ptk {ps : List Sch} {ws : List StepT} : ∀ (k : Nat) (s : Sch) (st : Nat) (c : Bool) (wh : List Nat), pts (rP ps ws k s st c wh) = ptk ps ws k s st c
  | 0, _, _, _, _ => rfl
  | k + 1, .step x p, st, c, wh => by
    unfold rP ptk
    cases hits ws c x st with
    | nil => rfl
    | cons i r => show (p.toNat + 0 : Nat) = _; rw [Nat.add_zero]
  | k + 1, .behind x s, st, c, wh => by
    unfold rP ptk
    cases hits ws c x st with
    | nil => rfl
    | cons i r => exact pts_ptk k s (i + 1) c _
  | k + 1, .use n, st, c, wh => by
    unfold rP ptk
    cases ps[n]? with
    | none => rfl
    | some s => exact pts_ptk k s st c _
  | k + 1, .all ks, st, c, wh => pts_allA ks 0 fun s _ j => pts_ptk k s st c _
  | k + 1, .best ks, st, c, wh => pts_bestA ks 0 [] fun s _ j => pts_ptk k s st c _
  | k + 1, .fin x p s, st, c, wh => by
    unfold rP ptk
    split
    · show (p.toNat + 0 : Nat) = _; rw [Nat.add_zero]
    · exact pts_ptk k s st c _
  | k + 1, .seen x s, st, c, wh => by
    unfold rP ptk
    split
    · exact pts_ptk k s st c _
    · rfl
  | k + 1, .most n s, st, c, wh => by
    unfold rP ptk
    rw [pts_first, pts_ptk k s st c]
  | k + 1, .half s, st, c, wh => by
    unfold rP ptk
    rw [pts_first, pts_ptk k s st c]
    omega
  | k + 1, .carry s, st, c, wh => pts_ptk k s st true _
theorem ptA_congr {f g : Sch → Nat} : ∀ ks : List Sch, (∀ s ∈ ks, f s = g s) → ptA f ks = ptA g ks
  | [], _ => rfl
  | s :: r, h => by
    show f s + _ = g s + _
    rw [h s List.mem_cons_self, ptA_congr r fun s hs => h s (List.mem_cons_of_mem _ hs)]
theorem ptB_congr {f g : Sch → Nat} : ∀ (ks : List Sch) (a : Nat), (∀ s ∈ ks, f s = g s) → ptB f ks a = ptB g ks a
  | [], _, _ => rfl
  | s :: r, a, h => by
    show ptB f r (max a (f s)) = ptB g r (max a (g s))
    rw [h s List.mem_cons_self, ptB_congr r _ fun s hs => h s (List.mem_cons_of_mem _ hs)]
/-- without uses: neither the paper nor what is left matters -/
theorem ptk_free {ps ps' : List Sch} {ws : List StepT} : ∀ (n k k' : Nat) (s : Sch) (st : Nat) (c : Bool), OkS 0 1 n s → n ≤ k → n ≤ k' → ptk ps ws k s st c = ptk ps' ws k' s st c
  | n + 1, k + 1, k' + 1, .step x p, st, c, _, _, _ => rfl
  | n + 1, k + 1, k' + 1, .behind x s, st, c, o, h1, h2 => by
    unfold ptk
    cases hits ws c x st with
    | nil => rfl
    | cons i r => exact ptk_free n k k' s (i + 1) c o.2 (by omega) (by omega)
  | n + 1, k + 1, k' + 1, .use m, st, c, o, _, _ => by
    have o : 0 < m ∧ m < 1 := o
    omega
  | n + 1, k + 1, k' + 1, .all ks, st, c, o, h1, h2 => ptA_congr ks fun s hs => ptk_free n k k' s st c (o.2.2 s hs) (by omega) (by omega)
  | n + 1, k + 1, k' + 1, .best ks, st, c, o, h1, h2 => ptB_congr ks 0 fun s hs => ptk_free n k k' s st c (o.2.2 s hs) (by omega) (by omega)
  | n + 1, k + 1, k' + 1, .fin x p s, st, c, o, h1, h2 => by
    unfold ptk
    rw [ptk_free n k k' s st c o.2 (by omega) (by omega)]
  | n + 1, k + 1, k' + 1, .seen x s, st, c, o, h1, h2 => by
    unfold ptk
    rw [ptk_free n k k' s st c o.2 (by omega) (by omega)]
  | n + 1, k + 1, k' + 1, .most m s, st, c, o, h1, h2 => by
    unfold ptk
    rw [ptk_free n k k' s st c o.2 (by omega) (by omega)]
  | n + 1, k + 1, k' + 1, .half s, st, c, o, h1, h2 => by
    unfold ptk
    rw [ptk_free n k k' s st c o (by omega) (by omega)]
  | n + 1, k + 1, k' + 1, .carry s, st, c, o, h1, h2 => ptk_free n k k' s st true o (by omega) (by omega)
  | 0, _, _, _, _, _, o, _, _ => o.elim
  | _ + 1, 0, _, _, _, _, _, h, _ => absurd h (by omega)
  | _ + 1, _ + 1, 0, _, _, _, _, _, h => absurd h (by omega)
theorem oks_up {i M : Nat} : ∀ (n m : Nat) (s : Sch), OkS i M n s → n ≤ m → OkS i M m s
  | 0, _, _, o, _ => o.elim
  | n + 1, 0, _, _, h => absurd h (by omega)
  | n + 1, m + 1, .step x p, o, _ => o
  | n + 1, m + 1, .all ks, o, h => ⟨o.1, o.2.1, fun s hs => oks_up n m s (o.2.2 s hs) (by omega)⟩
  | n + 1, m + 1, .best ks, o, h => ⟨o.1, o.2.1, fun s hs => oks_up n m s (o.2.2 s hs) (by omega)⟩
  | n + 1, m + 1, .most _ s, o, h => ⟨o.1, oks_up n m s o.2 (by omega)⟩
  | n + 1, m + 1, .half s, o, h => oks_up n m s o (by omega)
  | n + 1, m + 1, .seen _ s, o, h => ⟨o.1, oks_up n m s o.2 (by omega)⟩
  | n + 1, m + 1, .behind _ s, o, h => ⟨o.1, oks_up n m s o.2 (by omega)⟩
  | n + 1, m + 1, .carry s, o, h => oks_up n m s o (by omega)
  | n + 1, m + 1, .fin _ _ s, o, h => ⟨o.1, oks_up n m s o.2 (by omega)⟩
  | n + 1, m + 1, .use _, o, _ => o
theorem sat_up {H : Hp} : ∀ (n m : Nat) (s : Sch) (v : V), SAt H n s v → n ≤ m → SAt H m s v
  | 0, _, _, _, o, _ => o.elim
  | n + 1, 0, _, _, _, h => absurd h (by omega)
  | n + 1, m + 1, .step x p, _, o, _ => o
  | n + 1, m + 1, .all ks, _, ⟨a, b, vs, e, h1, h2, h3⟩, h => ⟨a, b, vs, e, h1, h2, paired_imp h3 fun s v z => sat_up n m s v z (by omega)⟩
  | n + 1, m + 1, .best ks, _, ⟨a, b, vs, e, h1, h2, h3⟩, h => ⟨a, b, vs, e, h1, h2, paired_imp h3 fun s v z => sat_up n m s v z (by omega)⟩
  | n + 1, m + 1, .most _ s, _, ⟨a, u, e, h1, h2⟩, h => ⟨a, u, e, h1, sat_up n m s u h2 (by omega)⟩
  | n + 1, m + 1, .half s, _, ⟨a, u, e, h1, h2⟩, h => ⟨a, u, e, h1, sat_up n m s u h2 (by omega)⟩
  | n + 1, m + 1, .seen _ s, _, ⟨a, u, e, h1, h2⟩, h => ⟨a, u, e, h1, sat_up n m s u h2 (by omega)⟩
  | n + 1, m + 1, .behind _ s, _, ⟨a, u, e, h1, h2⟩, h => ⟨a, u, e, h1, sat_up n m s u h2 (by omega)⟩
  | n + 1, m + 1, .carry s, _, ⟨a, u, e, h1, h2⟩, h => ⟨a, u, e, h1, sat_up n m s u h2 (by omega)⟩
  | n + 1, m + 1, .fin _ _ s, _, ⟨a, u, e, h1, h2⟩, h => ⟨a, u, e, h1, sat_up n m s u h2 (by omega)⟩
  | n + 1, m + 1, .use _, _, o, _ => o
/-- counts: what is left doesn't matter -/
theorem er_free {c c' : Nat → Int} : ∀ (n k k' : Nat) (s : Sch), OkS 0 1 n s → n ≤ k → n ≤ k' → er c k s = er c' k' s
  | n + 1, k + 1, k' + 1, .step x p, _, _, _ => rfl
  | n + 1, k + 1, k' + 1, .use m, o, _, _ => by
    have o : 0 < m ∧ m < 1 := o
    omega
  | n + 1, k + 1, k' + 1, .all ks, o, h1, h2 => by
    show (ks.map _).sum = (ks.map _).sum
    rw [List.map_congr_left fun s hs => er_free n k k' s (o.2.2 s hs) (by omega) (by omega)]
  | n + 1, k + 1, k' + 1, .best ks, o, h1, h2 => by
    show (ks.map _).sum = (ks.map _).sum
    rw [List.map_congr_left fun s hs => er_free n k k' s (o.2.2 s hs) (by omega) (by omega)]
  | n + 1, k + 1, k' + 1, .most m s, o, h1, h2 => er_free n k k' s o.2 (by omega) (by omega)
  | n + 1, k + 1, k' + 1, .half s, o, h1, h2 => er_free n k k' s o (by omega) (by omega)
  | n + 1, k + 1, k' + 1, .seen x s, o, h1, h2 => er_free n k k' s o.2 (by omega) (by omega)
  | n + 1, k + 1, k' + 1, .behind x s, o, h1, h2 => er_free n k k' s o.2 (by omega) (by omega)
  | n + 1, k + 1, k' + 1, .carry s, o, h1, h2 => er_free n k k' s o (by omega) (by omega)
  | n + 1, k + 1, k' + 1, .fin x p s, o, h1, h2 => congrArg (1 + ·) (er_free n k k' s o.2 (by omega) (by omega))
  | 0, _, _, _, o, _, _ => o.elim
  | _ + 1, 0, _, _, _, h, _ => absurd h (by omega)
  | _ + 1, _ + 1, 0, _, _, _, h => absurd h (by omega)
theorem wr_free {c c' : Nat → Int} : ∀ (n k k' : Nat) (s : Sch), OkS 0 1 n s → n ≤ k → n ≤ k' → wr c k s = wr c' k' s
  | n + 1, k + 1, k' + 1, .step x p, _, _, _ => rfl
  | n + 1, k + 1, k' + 1, .use m, o, _, _ => by
    have o : 0 < m ∧ m < 1 := o
    omega
  | n + 1, k + 1, k' + 1, .all ks, o, h1, h2 => by
    show (ks.map _).sum = (ks.map _).sum
    rw [List.map_congr_left fun s hs => wr_free n k k' s (o.2.2 s hs) (by omega) (by omega)]
  | n + 1, k + 1, k' + 1, .best ks, o, h1, h2 => by
    show (ks.map _).sum = (ks.map _).sum
    rw [List.map_congr_left fun s hs => wr_free n k k' s (o.2.2 s hs) (by omega) (by omega)]
  | n + 1, k + 1, k' + 1, .most m s, o, h1, h2 => wr_free n k k' s o.2 (by omega) (by omega)
  | n + 1, k + 1, k' + 1, .half s, o, h1, h2 => wr_free n k k' s o (by omega) (by omega)
  | n + 1, k + 1, k' + 1, .seen x s, o, h1, h2 => congrArg (1 + ·) (wr_free n k k' s o.2 (by omega) (by omega))
  | n + 1, k + 1, k' + 1, .behind x s, o, h1, h2 => congrArg (1 + ·) (wr_free n k k' s o.2 (by omega) (by omega))
  | n + 1, k + 1, k' + 1, .carry s, o, h1, h2 => wr_free n k k' s o (by omega) (by omega)
  | n + 1, k + 1, k' + 1, .fin x p s, o, h1, h2 => wr_free n k k' s o.2 (by omega) (by omega)
  | 0, _, _, _, o, _, _ => o.elim
  | _ + 1, 0, _, _, _, h, _ => absurd h (by omega)
  | _ + 1, _ + 1, 0, _, _, _, h => absurd h (by omega)
theorem sz_free : ∀ (n k k' : Nat) (s : Sch), OkS 0 1 n s → n ≤ k → n ≤ k' → sz k s = sz k' s
  | n + 1, k + 1, k' + 1, .step x p, _, _, _ => rfl
  | n + 1, k + 1, k' + 1, .use m, o, _, _ => rfl
  | n + 1, k + 1, k' + 1, .all ks, o, h1, h2 => by
    show 1 + (ks.map _).sum = 1 + (ks.map _).sum
    rw [List.map_congr_left fun s hs => sz_free n k k' s (o.2.2 s hs) (by omega) (by omega)]
  | n + 1, k + 1, k' + 1, .best ks, o, h1, h2 => by
    show 1 + (ks.map _).sum = 1 + (ks.map _).sum
    rw [List.map_congr_left fun s hs => sz_free n k k' s (o.2.2 s hs) (by omega) (by omega)]
  | n + 1, k + 1, k' + 1, .most m s, o, h1, h2 => congrArg (1 + ·) (sz_free n k k' s o.2 (by omega) (by omega))
  | n + 1, k + 1, k' + 1, .half s, o, h1, h2 => congrArg (1 + ·) (sz_free n k k' s o (by omega) (by omega))
  | n + 1, k + 1, k' + 1, .seen x s, o, h1, h2 => congrArg (1 + ·) (sz_free n k k' s o.2 (by omega) (by omega))
  | n + 1, k + 1, k' + 1, .behind x s, o, h1, h2 => congrArg (1 + ·) (sz_free n k k' s o.2 (by omega) (by omega))
  | n + 1, k + 1, k' + 1, .carry s, o, h1, h2 => congrArg (1 + ·) (sz_free n k k' s o (by omega) (by omega))
  | n + 1, k + 1, k' + 1, .fin x p s, o, h1, h2 => congrArg (1 + ·) (sz_free n k k' s o.2 (by omega) (by omega))
  | 0, _, _, _, o, _, _ => o.elim
  | _ + 1, 0, _, _, _, h, _ => absurd h (by omega)
  | _ + 1, _ + 1, 0, _, _, _, h => absurd h (by omega)
/-- a paper of one scheme -/
theorem one_paper {s : Sch} (o : OkS 0 1 5 s) (h1 : sz 5 s ≤ 12) (h2 : er (fun _ => 0) 5 s ≤ 7) (h3 : wr (fun _ => 0) 5 s ≤ 3) : PaperOk [s] := by
  refine ⟨Nat.zero_lt_succ _, Nat.succ_le_succ (Nat.zero_le _), fun _ => er (fun _ => 0) 5 s, fun _ => wr (fun _ => 0) 5 s, fun k t e => ?_⟩
  cases k with
  | zero =>
    cases e
    refine ⟨o, er_free 5 5 5 s o (Nat.le_refl _) (Nat.le_refl _), wr_free 5 5 5 s o (Nat.le_refl _) (Nat.le_refl _), h1, ?_, ?_⟩
    · rw [er_free (c' := fun _ => 0) 5 5 5 s o (Nat.le_refl _) (Nat.le_refl _)]
      exact h2
    · rw [wr_free (c' := fun _ => 0) 5 5 5 s o (Nat.le_refl _) (Nat.le_refl _)]
      exact h3
  | succ k => cases e
theorem pts_single {s : Sch} {n : Nat} (ws : List StepT) (o : OkS 0 1 n s) (hn : n ≤ 30) : pts (rAll [s] ws) = ptk [] ws n s 0 false := by
  show pts (rP [s] ws 30 s 0 false []) = _
  rw [pts_ptk]
  exact ptk_free n 30 n s 0 false o hn (Nat.le_refl _)
end MS
end
section
set_option maxRecDepth 100000
set_option maxHeartbeats 4000000
namespace MS
open PySem L2
/-! ### schemes that mark alike by what their names tell (pure) -/
theorem hits_any {ws : List StepT} {c : Bool} {x : Str} {st i : Nat} {r : List Nat} (h : hits ws c x st = i :: r) : (ws.any fun p => p.1 == x) = true := by
  have m : i ∈ hits ws c x st := by rw [h]; exact List.mem_cons_self
  obtain ⟨_, m2⟩ := List.mem_filter.mp m
  revert m2
  cases e : ws[i]? with
  | none => intro z; cases z
  | some q =>
    intro z
    have z : okAt c x q = true := z
    unfold okAt at z
    rw [Bool.and_eq_true] at z
    exact List.any_eq_true.mpr ⟨q, List.mem_of_getElem? e, z.1⟩
/-- two papers of one scheme, marking alike -/
structure Twin (a b : Sch) : Prop where
  oa : OkS 0 1 5 a
  ob : OkS 0 1 5 b
  pa : PaperOk [a]
  pb : PaperOk [b]
  eq : ∀ ws, ptk [] ws 5 a 0 false = ptk [] ws 5 b 0 false
theorem Twin.pts {a b : Sch} (t : Twin a b) (ws : List StepT) : pts (rAll [a] ws) = pts (rAll [b] ws) := by
  rw [pts_single ws t.oa (by decide), pts_single ws t.ob (by decide), t.eq]
section
variable {s : Sch}
structure Small (s : Sch) : Prop where
  o : OkS 0 1 3 s
  z : sz 3 s ≤ 3
  e : er (fun _ => 0) 3 s ≤ 2
  w : wr (fun _ => 0) 3 s ≤ 1
theorem Small.ok (h : Small s) {k : Nat} (hk : 3 ≤ k) : OkS 0 1 k s := oks_up 3 k s h.o hk
theorem Small.zk (h : Small s) {k : Nat} (hk : 3 ≤ k) : sz k s ≤ 3 := by
  rw [sz_free 3 k 3 s h.o hk (Nat.le_refl _)]
  exact h.z
theorem Small.ek (h : Small s) {k : Nat} (hk : 3 ≤ k) : er (fun _ => 0) k s ≤ 2 := by
  rw [er_free (c' := fun _ => 0) 3 k 3 s h.o hk (Nat.le_refl _)]
  exact h.e
theorem Small.wk (h : Small s) {k : Nat} (hk : 3 ≤ k) : wr (fun _ => 0) k s ≤ 1 := by
  rw [wr_free (c' := fun _ => 0) 3 k 3 s h.o hk (Nat.le_refl _)]
  exact h.w
theorem Small.pk (h : Small s) {k : Nat} (hk : 3 ≤ k) (ws : List StepT) (st : Nat) (c : Bool) : ptk [] ws k s st c = ptk [] ws 3 s st c := ptk_free 3 k 3 s st c h.o hk (Nat.le_refl _)
theorem step_ok {w : Str} {p : Int} (hw : IsW w) (h1 : 1 ≤ p) (h9 : p ≤ 9) (k : Nat) : OkS 0 1 (k + 1) (.step w p) := ⟨hw, h1, h9⟩
theorem list1 {q : Sch → Prop} {a : Sch} (h : q a) : ∀ x ∈ [a], q x := fun x hx => by rw [List.mem_singleton.mp hx]; exact h
theorem list2 {q : Sch → Prop} {a b : Sch} (h : q a) (g : q b) : ∀ x ∈ [a, b], q x := fun x hx => by
  rcases List.mem_cons.mp hx with rfl | hx
  · exact h
  · rw [List.mem_singleton.mp hx]; exact g
theorem twin1 (h : Small s) : Twin s (.all [s]) := by
  have e5 := h.ek (k := 5) (by decide)
  have e4 := h.ek (k := 4) (by decide)
  have w5 := h.wk (k := 5) (by decide)
  have w4 := h.wk (k := 4) (by decide)
  have z5 := h.zk (k := 5) (by decide)
  have z4 := h.zk (k := 4) (by decide)
  have ob : OkS 0 1 5 (.all [s]) := ⟨Nat.zero_lt_succ _, Nat.le_of_ble_eq_true rfl, list1 (h.ok (by decide))⟩
  refine ⟨h.ok (by decide), ob, one_paper (h.ok (by decide)) (by omega) (by omega) (by omega), one_paper ob ?_ ?_ ?_, fun ws => ?_⟩
  · show 1 + (sz 4 s + 0) ≤ 12; omega
  · show er _ 4 s + 0 ≤ 7; omega
  · show wr _ 4 s + 0 ≤ 3; omega
  · show _ = ptk [] ws 4 s 0 false + 0
    rw [h.pk (by decide), h.pk (k := 4) (by decide)]
    rfl
theorem twin2 (h : Small s) : Twin s (.best [s]) := by
  have e5 := h.ek (k := 5) (by decide)
  have e4 := h.ek (k := 4) (by decide)
  have w5 := h.wk (k := 5) (by decide)
  have w4 := h.wk (k := 4) (by decide)
  have z5 := h.zk (k := 5) (by decide)
  have z4 := h.zk (k := 4) (by decide)
  have ob : OkS 0 1 5 (.best [s]) := ⟨Nat.zero_lt_succ _, Nat.le_of_ble_eq_true rfl, list1 (h.ok (by decide))⟩
  refine ⟨h.ok (by decide), ob, one_paper (h.ok (by decide)) (by omega) (by omega) (by omega), one_paper ob ?_ ?_ ?_, fun ws => ?_⟩
  · show 1 + (sz 4 s + 0) ≤ 12; omega
  · show er _ 4 s + 0 ≤ 7; omega
  · show wr _ 4 s + 0 ≤ 3; omega
  · show _ = max 0 (ptk [] ws 4 s 0 false)
    rw [h.pk (by decide), h.pk (k := 4) (by decide)]
    omega
theorem twin3 (h : Small s) : Twin (.carry s) (.carry (.carry s)) := by
  have e4 := h.ek (k := 4) (by decide)
  have e3 := h.ek (k := 3) (by decide)
  have w4 := h.wk (k := 4) (by decide)
  have w3 := h.wk (k := 3) (by decide)
  have z4 := h.zk (k := 4) (by decide)
  have z3 := h.zk (k := 3) (by decide)
  have oa : OkS 0 1 5 (.carry s) := h.ok (k := 4) (by decide)
  have ob : OkS 0 1 5 (.carry (.carry s)) := h.ok (k := 3) (by decide)
  refine ⟨oa, ob, one_paper oa ?_ ?_ ?_, one_paper ob ?_ ?_ ?_, fun ws => ?_⟩
  · show 1 + sz 4 s ≤ 12; omega
  · show er _ 4 s ≤ 7; omega
  · show wr _ 4 s ≤ 3; omega
  · show 1 + (1 + sz 3 s) ≤ 12; omega
  · show er _ 3 s ≤ 7; omega
  · show wr _ 3 s ≤ 3; omega
  · show ptk [] ws 4 s 0 true = ptk [] ws 3 s 0 true
    exact h.pk (by decide) _ _ _
theorem isW_a : IsW "a" := by unfold IsW; decide +kernel
theorem twin4 {w : Str} {p : Int} (hw : IsW w) (h1 : 1 ≤ p) (h9 : p ≤ 9) : Twin (.most 0 (.step w p)) (.half (.step "a" 1)) := by
  have oa : OkS 0 1 5 (.most 0 (.step w p)) := ⟨by decide, step_ok hw h1 h9 3⟩
  have ob : OkS 0 1 5 (.half (.step "a" 1)) := step_ok isW_a (by decide) (by decide) 3
  refine ⟨oa, ob, one_paper oa (show (1 + 1 : Int) ≤ 12 by decide) (show (1 : Int) ≤ 7 by decide) (show (0 : Int) ≤ 3 by decide), one_paper ob (show (1 + 1 : Int) ≤ 12 by decide) (show (1 : Int) ≤ 7 by decide) (show (0 : Int) ≤ 3 by decide), fun ws => ?_⟩
  show min (0 : Int).toNat _ = (match hits ws false "a" 0 with
    | [] => 0
    | _ :: _ => (1 : Int).toNat) / 2
  rw [show (0 : Int).toNat = 0 from rfl, Nat.zero_min]
  cases hits ws false "a" 0 with
  | nil => rfl
  | cons i r => show 0 = (1 : Int).toNat / 2; decide
theorem twin5 (h : Small s) {n m : Int} (n0 : 0 ≤ n) (n1 : n ≤ 30) (m0 : 0 ≤ m) (m1 : m ≤ 30) : Twin (.most (if m < n then m else n) s) (.most n (.most m s)) := by
  have e4 := h.ek (k := 4) (by decide)
  have e3 := h.ek (k := 3) (by decide)
  have w4 := h.wk (k := 4) (by decide)
  have w3 := h.wk (k := 3) (by decide)
  have z4 := h.zk (k := 4) (by decide)
  have z3 := h.zk (k := 3) (by decide)
  have oa : OkS 0 1 5 (.most (if m < n then m else n) s) := ⟨by split <;> omega, h.ok (k := 4) (by decide)⟩
  have ob : OkS 0 1 5 (.most n (.most m s)) := ⟨⟨n0, n1⟩, ⟨m0, m1⟩, h.ok (k := 3) (by decide)⟩
  refine ⟨oa, ob, one_paper oa ?_ ?_ ?_, one_paper ob ?_ ?_ ?_, fun ws => ?_⟩
  · show 1 + sz 4 s ≤ 12; omega
  · show er _ 4 s ≤ 7; omega
  · show wr _ 4 s ≤ 3; omega
  · show 1 + (1 + sz 3 s) ≤ 12; omega
  · show er _ 3 s ≤ 7; omega
  · show wr _ 3 s ≤ 3; omega
  · show min (if m < n then m else n).toNat (ptk [] ws 4 s 0 false) = min n.toNat (min m.toNat (ptk [] ws 3 s 0 false))
    rw [h.pk (k := 4) (by decide)]
    generalize ptk [] ws 3 s 0 false = x
    split <;> omega
theorem twin6 (h : Small s) {w : Str} {p : Int} (hw : IsW w) (h1 : 1 ≤ p) (h9 : p ≤ 9) : Twin (.all [s, .step w p]) (.all [.step w p, s]) := by
  have e4 := h.ek (k := 4) (by decide)
  have w4 := h.wk (k := 4) (by decide)
  have z4 := h.zk (k := 4) (by decide)
  have oa : OkS 0 1 5 (.all [s, .step w p]) := ⟨Nat.zero_lt_succ _, Nat.le_of_ble_eq_true rfl, list2 (h.ok (by decide)) (step_ok hw h1 h9 3)⟩
  have ob : OkS 0 1 5 (.all [.step w p, s]) := ⟨Nat.zero_lt_succ _, Nat.le_of_ble_eq_true rfl, list2 (step_ok hw h1 h9 3) (h.ok (by decide))⟩
  refine ⟨oa, ob, one_paper oa ?_ ?_ ?_, one_paper ob ?_ ?_ ?_, fun ws => ?_⟩
  · show 1 + (sz 4 s + (1 + 0)) ≤ 12; omega
  · show er _ 4 s + (1 + 0) ≤ 7; omega
  · show wr _ 4 s + (0 + 0) ≤ 3; omega
  · show 1 + (1 + (sz 4 s + 0)) ≤ 12; omega
  · show 1 + (er _ 4 s + 0) ≤ 7; omega
  · show 0 + (wr _ 4 s + 0) ≤ 3; omega
  · show ptk [] ws 4 s 0 false + (ptk [] ws 4 (.step w p) 0 false + 0) = ptk [] ws 4 (.step w p) 0 false + (ptk [] ws 4 s 0 false + 0)
    omega
theorem twin7 (h : Small s) {w : Str} {p : Int} (hw : IsW w) (h1 : 1 ≤ p) (h9 : p ≤ 9) : Twin (.best [s, .step w p]) (.best [.step w p, s]) := by
  have e4 := h.ek (k := 4) (by decide)
  have w4 := h.wk (k := 4) (by decide)
  have z4 := h.zk (k := 4) (by decide)
  have oa : OkS 0 1 5 (.best [s, .step w p]) := ⟨Nat.zero_lt_succ _, Nat.le_of_ble_eq_true rfl, list2 (h.ok (by decide)) (step_ok hw h1 h9 3)⟩
  have ob : OkS 0 1 5 (.best [.step w p, s]) := ⟨Nat.zero_lt_succ _, Nat.le_of_ble_eq_true rfl, list2 (step_ok hw h1 h9 3) (h.ok (by decide))⟩
  refine ⟨oa, ob, one_paper oa ?_ ?_ ?_, one_paper ob ?_ ?_ ?_, fun ws => ?_⟩
  · show 1 + (sz 4 s + (1 + 0)) ≤ 12; omega
  · show er _ 4 s + (1 + 0) ≤ 7; omega
  · show wr _ 4 s + (0 + 0) ≤ 3; omega
  · show 1 + (1 + (sz 4 s + 0)) ≤ 12; omega
  · show 1 + (er _ 4 s + 0) ≤ 7; omega
  · show 0 + (wr _ 4 s + 0) ≤ 3; omega
  · show max (max 0 (ptk [] ws 4 s 0 false)) (ptk [] ws 4 (.step w p) 0 false) = max (max 0 (ptk [] ws 4 (.step w p) 0 false)) (ptk [] ws 4 s 0 false)
    omega
theorem twin8 (h : Small s) : Twin s (.best [s, .half s]) := by
  have e5 := h.ek (k := 5) (by decide)
  have e4 := h.ek (k := 4) (by decide)
  have e3 := h.ek (k := 3) (by decide)
  have w5 := h.wk (k := 5) (by decide)
  have w4 := h.wk (k := 4) (by decide)
  have w3 := h.wk (k := 3) (by decide)
  have z5 := h.zk (k := 5) (by decide)
  have z4 := h.zk (k := 4) (by decide)
  have z3 := h.zk (k := 3) (by decide)
  have oh : OkS 0 1 4 (.half s) := h.ok (k := 3) (by decide)
  have ob : OkS 0 1 5 (.best [s, .half s]) := ⟨Nat.zero_lt_succ _, Nat.le_of_ble_eq_true rfl, list2 (h.ok (by decide)) oh⟩
  refine ⟨h.ok (by decide), ob, one_paper (h.ok (by decide)) (by omega) (by omega) (by omega), one_paper ob ?_ ?_ ?_, fun ws => ?_⟩
  · show 1 + (sz 4 s + ((1 + sz 3 s) + 0)) ≤ 12; omega
  · show er _ 4 s + (er _ 3 s + 0) ≤ 7; omega
  · show wr _ 4 s + (wr _ 3 s + 0) ≤ 3; omega
  · show _ = max (max 0 (ptk [] ws 4 s 0 false)) (ptk [] ws 3 s 0 false / 2)
    rw [h.pk (by decide), h.pk (k := 4) (by decide)]
    omega
theorem twin9 (h : Small s) : Twin (.half (.most 1 s)) (.most 0 s) := by
  have e4 := h.ek (k := 4) (by decide)
  have e3 := h.ek (k := 3) (by decide)
  have w4 := h.wk (k := 4) (by decide)
  have w3 := h.wk (k := 3) (by decide)
  have z4 := h.zk (k := 4) (by decide)
  have z3 := h.zk (k := 3) (by decide)
  have oa : OkS 0 1 5 (.half (.most 1 s)) := (⟨by decide, h.ok (k := 3) (by decide)⟩ : OkS 0 1 4 (.most 1 s))
  have ob : OkS 0 1 5 (.most 0 s) := ⟨by decide, h.ok (k := 4) (by decide)⟩
  refine ⟨oa, ob, one_paper oa ?_ ?_ ?_, one_paper ob ?_ ?_ ?_, fun ws => ?_⟩
  · show 1 + (1 + sz 3 s) ≤ 12; omega
  · show er _ 3 s ≤ 7; omega
  · show wr _ 3 s ≤ 3; omega
  · show 1 + sz 4 s ≤ 12; omega
  · show er _ 4 s ≤ 7; omega
  · show wr _ 4 s ≤ 3; omega
  · show min (1 : Int).toNat (ptk [] ws 3 s 0 false) / 2 = min (0 : Int).toNat (ptk [] ws 4 s 0 false)
    rw [show (0 : Int).toNat = 0 from rfl, show (1 : Int).toNat = 1 from rfl]
    omega
theorem twin10 {w : Str} {p : Int} (hw : IsW w) (h1 : 1 ≤ p) (h9 : p ≤ 9) : Twin (.seen w (.all [.step w p])) (.step w p) := by
  have oi : OkS 0 1 4 (.all [.step w p]) := ⟨Nat.zero_lt_succ _, Nat.le_of_ble_eq_true rfl, list1 (step_ok hw h1 h9 2)⟩
  have oa : OkS 0 1 5 (.seen w (.all [.step w p])) := ⟨hw, oi⟩
  refine ⟨oa, step_ok hw h1 h9 4, one_paper oa (show (1 + (1 + (1 + 0)) : Int) ≤ 12 by decide) (show (1 + 0 : Int) ≤ 7 by decide) (show (1 + (0 + 0) : Int) ≤ 3 by decide), one_paper (step_ok hw h1 h9 4) (show (1 : Int) ≤ 12 by decide) (show (1 : Int) ≤ 7 by decide) (show (0 : Int) ≤ 3 by decide), fun ws => ?_⟩
  show (if (ws.any fun q => q.1 == w) = true then (match hits ws false w 0 with
    | [] => 0
    | _ :: _ => p.toNat) + 0 else 0) = match hits ws false w 0 with
    | [] => 0
    | _ :: _ => p.toNat
  cases e : hits ws false w 0 with
  | nil => split <;> rfl
  | cons i r => rw [if_pos (hits_any e)]; rfl
theorem twin11 (h : Small s) {w : Str} (hw : IsW w) : Twin (.behind w (.seen w s)) (.behind w s) := by
  have e4 := h.ek (k := 4) (by decide)
  have e3 := h.ek (k := 3) (by decide)
  have w4 := h.wk (k := 4) (by decide)
  have w3 := h.wk (k := 3) (by decide)
  have z4 := h.zk (k := 4) (by decide)
  have z3 := h.zk (k := 3) (by decide)
  have oa : OkS 0 1 5 (.behind w (.seen w s)) := ⟨hw, (⟨hw, h.ok (k := 3) (by decide)⟩ : OkS 0 1 4 (.seen w s))⟩
  have ob : OkS 0 1 5 (.behind w s) := ⟨hw, h.ok (k := 4) (by decide)⟩
  refine ⟨oa, ob, one_paper oa ?_ ?_ ?_, one_paper ob ?_ ?_ ?_, fun ws => ?_⟩
  · show 1 + (1 + sz 3 s) ≤ 12; omega
  · show er _ 3 s ≤ 7; omega
  · show 1 + (1 + wr _ 3 s) ≤ 3; omega
  · show 1 + sz 4 s ≤ 12; omega
  · show er _ 4 s ≤ 7; omega
  · show 1 + wr _ 4 s ≤ 3; omega
  · show (match hits ws false w 0 with
      | [] => 0
      | i :: _ => if (ws.any fun q => q.1 == w) = true then ptk [] ws 3 s (i + 1) false else 0) = match hits ws false w 0 with
      | [] => 0
      | i :: _ => ptk [] ws 4 s (i + 1) false
    cases e : hits ws false w 0 with
    | nil => rfl
    | cons i r =>
      show (if _ then _ else _) = _
      rw [if_pos (hits_any e)]
      exact (h.pk (by decide) _ _ _).symm
theorem twin12 (h : Small s) {w : Str} {p : Int} (hw : IsW w) (h1 : 1 ≤ p) (h9 : p ≤ 9) : Twin (.all [s, .most 0 (.step w p)]) s := by
  have e5 := h.ek (k := 5) (by decide)
  have e4 := h.ek (k := 4) (by decide)
  have w5 := h.wk (k := 5) (by decide)
  have w4 := h.wk (k := 4) (by decide)
  have z5 := h.zk (k := 5) (by decide)
  have z4 := h.zk (k := 4) (by decide)
  have om : OkS 0 1 4 (.most 0 (.step w p)) := ⟨by decide, step_ok hw h1 h9 2⟩
  have oa : OkS 0 1 5 (.all [s, .most 0 (.step w p)]) := ⟨Nat.zero_lt_succ _, Nat.le_of_ble_eq_true rfl, list2 (h.ok (by decide)) om⟩
  refine ⟨oa, h.ok (by decide), one_paper oa ?_ ?_ ?_, one_paper (h.ok (by decide)) (by omega) (by omega) (by omega), fun ws => ?_⟩
  · show 1 + (sz 4 s + ((1 + 1) + 0)) ≤ 12; omega
  · show er _ 4 s + (1 + 0) ≤ 7; omega
  · show wr _ 4 s + (0 + 0) ≤ 3; omega
  · show ptk [] ws 4 s 0 false + (min (0 : Int).toNat _ + 0) = _
    rw [show (0 : Int).toNat = 0 from rfl, Nat.zero_min, h.pk (k := 4) (by decide), h.pk (k := 5) (by decide)]
    rfl
end
end MS
end
section
set_option maxRecDepth 100000
set_option maxHeartbeats 4000000
namespace MS
open PySem L2
/-! ### _law_wrapped -/
abbrev s_L_wrapped : Stmt := topS 72
abbrev nmWr : List Str := ["_law_box", "_law_scheme_here", "_law_more", "_law_n", "_law_m", "_law_some"]
abbrev psWr : List Str := ["_law_box", "_law_scheme_here"]
theorem sc_L_wrapped : FnScope nmWr psWr (defScope s_L_wrapped) := ⟨rfl, rfl, rfl, by decide +kernel, rfl, by decide +kernel, by decide +kernel⟩
/-- a term that makes a scheme -/
def EvS (te : TE) (σ : L2.St) (d : Nat) (s : Sch) (H : Hp) : Prop := ∀ (H1 : Hp), Same H H1 → ∀ Q : VK, (∀ (v : V) (H2 : Hp), Same H1 H2 → SAt H2 d s v → Q v H2) → te σ H1 Q
def EvW (te : TE) (σ : L2.St) (x : Str) (H : Hp) : Prop := ∀ (H1 : Hp), Same H H1 → ∀ Q : VK, Q (.str x) H1 → te σ H1 Q
def EvN (te : TE) (σ : L2.St) (n : Int) (H : Hp) : Prop := ∀ (H1 : Hp), Same H H1 → ∀ Q : VK, Q (.int n) H1 → te σ H1 Q
section
variable {te tb tn tw : TE} {σ : L2.St} {d : Nat} {s s' : Sch} {H : Hp} {n : Int} {x : Str}
theorem ev_var {i : Nat} {v : V} {n : Nat} (hi : σ[i]? = some (some v)) (h : SAt H n s v) (hn : n ≤ d) : EvS (tVar i) σ d s H := fun H1 s1 Q q => ⟨_, hi, q v H1 (Same.refl _) (sat_up n d s v (SAt.keep (Same.tupK s1) _ _ _ h) hn)⟩
theorem SAt.new {H : Hp} {d : Nat} {s : Sch} {v : V} {p : Addr} {o : HO} (h : SAt H d s v) (hp : H p = none) : SAt (upd H p o) d s v := SAt.keep (Same.tupK (Same.new hp)) _ _ _ h
theorem evn_c : EvN (tC (.int n)) σ n H := fun H1 s1 Q q => q
theorem evn_var {i : Nat} (hi : σ[i]? = some (some (.int n))) : EvN (tVar i) σ n H := fun H1 s1 Q q => ⟨_, hi, q⟩
theorem evn_min {i j : Nat} {n m : Int} (hi : σ[i]? = some (some (.int n))) (hj : σ[j]? = some (some (.int m))) : EvN (tCB (fun xs H Q => ∃ i j, xs = [.int i, .int j] ∧ Q (.int (if j < i then j else i)) H) (tCons (tVar i) (tCons (tVar j) tNil))) σ (if m < n then m else n) H := fun H1 s1 Q q => ⟨_, hi, _, hj, n, m, rfl, q⟩
theorem evw_ix {K : PySem.W.Frag} {i : Nat} {a : Addr} {p : Int} (hi : σ[i]? = some (some (.ref a))) (h : H a = some (.tup [.str "step", .str x, .int p])) : EvW (tOp (rIxT K) (tVar i) (tC (.int 1))) σ x H := fun H1 s1 Q q => ⟨_, hi, a, _, 1, .str x, rfl, rfl, SqT.of (s1 _ _ h), at1, q⟩
theorem ev_half (h : EvS te σ d s H) : EvS (tTup (tCons (tC (.str "half")) (tCons te tNil))) σ (d + 1) (.half s) H := fun H1 s1 Q q => h H1 s1 _ fun v H2 s2 hv => ⟨sz2, fun t ht => q (.ref t) _ (s2.trans (Same.new ht)) ⟨t, v, rfl, upd_same, hv.new ht⟩⟩
theorem ev_carry (h : EvS te σ d s H) : EvS (tTup (tCons (tC (.str "carry")) (tCons te tNil))) σ (d + 1) (.carry s) H := fun H1 s1 Q q => h H1 s1 _ fun v H2 s2 hv => ⟨sz2, fun t ht => q (.ref t) _ (s2.trans (Same.new ht)) ⟨t, v, rfl, upd_same, hv.new ht⟩⟩
theorem ev_most (hn : EvN tn σ n H) (h : EvS te σ d s H) : EvS (tTup (tCons (tC (.str "most")) (tCons tn (tCons te tNil)))) σ (d + 1) (.most n s) H := fun H1 s1 Q q => hn H1 s1 _ (h H1 s1 _ fun v H2 s2 hv => ⟨(by show 3 ≤ sizeLine; decide), fun t ht => q (.ref t) _ (s2.trans (Same.new ht)) ⟨t, v, rfl, upd_same, hv.new ht⟩⟩)
theorem ev_seen (hw : EvW tw σ x H) (h : EvS te σ d s H) : EvS (tTup (tCons (tC (.str "seen")) (tCons tw (tCons te tNil)))) σ (d + 1) (.seen x s) H := fun H1 s1 Q q => hw H1 s1 _ (h H1 s1 _ fun v H2 s2 hv => ⟨(by show 3 ≤ sizeLine; decide), fun t ht => q (.ref t) _ (s2.trans (Same.new ht)) ⟨t, v, rfl, upd_same, hv.new ht⟩⟩)
theorem ev_behind (hw : EvW tw σ x H) (h : EvS te σ d s H) : EvS (tTup (tCons (tC (.str "behind")) (tCons tw (tCons te tNil)))) σ (d + 1) (.behind x s) H := fun H1 s1 Q q => hw H1 s1 _ (h H1 s1 _ fun v H2 s2 hv => ⟨(by show 3 ≤ sizeLine; decide), fun t ht => q (.ref t) _ (s2.trans (Same.new ht)) ⟨t, v, rfl, upd_same, hv.new ht⟩⟩)
theorem ev_stepc {x : Str} {p : Int} : EvS (tTup (tCons (tC (.str "step")) (tCons (tC (.str x)) (tCons (tC (.int p)) tNil)))) σ (d + 1) (.step x p) H := fun H1 s1 Q q => ⟨(by show 3 ≤ sizeLine; decide), fun t ht => q (.ref t) _ (Same.new ht) ⟨t, rfl, upd_same⟩⟩
theorem ev_list1 (h : EvS te σ d s H) : ∀ (H1 : Hp), Same H H1 → ∀ Q : VK, (∀ (b : Addr) (vs : List V) (H2 : Hp), Same H1 H2 → H2 b = some (.tup vs) → Paired (SAt H2 d) [s] vs → Q (.ref b) H2) → tTup (tCons te tNil) σ H1 Q := fun H1 s1 Q q => h H1 s1 _ fun v H2 s2 hv => ⟨(by show 1 ≤ sizeLine; decide), fun t ht => q t _ _ (s2.trans (Same.new ht)) upd_same (.cons (hv.new ht) .nil)⟩
theorem ev_list2 (h : EvS te σ d s H) (g : EvS tb σ d s' H) : ∀ (H1 : Hp), Same H H1 → ∀ Q : VK, (∀ (b : Addr) (vs : List V) (H2 : Hp), Same H1 H2 → H2 b = some (.tup vs) → Paired (SAt H2 d) [s, s'] vs → Q (.ref b) H2) → tTup (tCons te (tCons tb tNil)) σ H1 Q := fun H1 s1 Q q => h H1 s1 _ fun v H2 s2 hv => g H2 (s1.trans s2) _ fun u H3 s3 hu => ⟨sz2, fun t ht => q t _ _ ((s2.trans s3).trans (Same.new ht)) upd_same (.cons (SAt.new (SAt.keep (Same.tupK s3) _ _ _ hv) ht) (.cons (hu.new ht) .nil))⟩
theorem ev_all {ks : List Sch} (h : ∀ (H1 : Hp), Same H H1 → ∀ Q : VK, (∀ (b : Addr) (vs : List V) (H2 : Hp), Same H1 H2 → H2 b = some (.tup vs) → Paired (SAt H2 d) ks vs → Q (.ref b) H2) → te σ H1 Q) : EvS (tTup (tCons (tC (.str "all")) (tCons te tNil))) σ (d + 1) (.all ks) H := fun H1 s1 Q q => h H1 s1 _ fun b vs H2 s2 eb pv => ⟨sz2, fun t ht => q (.ref t) _ (s2.trans (Same.new ht)) ⟨t, b, vs, rfl, upd_same, Same.new ht _ _ eb, paired_imp pv fun _ _ z => z.new ht⟩⟩
theorem ev_best {ks : List Sch} (h : ∀ (H1 : Hp), Same H H1 → ∀ Q : VK, (∀ (b : Addr) (vs : List V) (H2 : Hp), Same H1 H2 → H2 b = some (.tup vs) → Paired (SAt H2 d) ks vs → Q (.ref b) H2) → te σ H1 Q) : EvS (tTup (tCons (tC (.str "best")) (tCons te tNil))) σ (d + 1) (.best ks) H := fun H1 s1 Q q => h H1 s1 _ fun b vs H2 s2 eb pv => ⟨sz2, fun t ht => q (.ref t) _ (s2.trans (Same.new ht)) ⟨t, b, vs, rfl, upd_same, Same.new ht _ _ eb, paired_imp pv fun _ _ z => z.new ht⟩⟩
end
/-- a pair that marks alike, as it stands -/
def Tw (H : Hp) (v : V) : Prop := ∃ (t : Addr) (va vb : V) (a b : Sch), v = V.ref t ∧ H t = some (.tup [va, vb]) ∧ SAt H 5 a va ∧ SAt H 5 b vb ∧ Twin a b
theorem Tw.keep {H H' : Hp} {v : V} (h : Tw H v) (k : TupK H H') : Tw H' v := by
  obtain ⟨t, va, vb, a, b, e, h1, h2, h3, h4⟩ := h
  exact ⟨t, va, vb, a, b, e, k _ _ h1, SAt.keep k _ _ _ h2, SAt.keep k _ _ _ h3, h4⟩
def EvP (te : TE) (σ : L2.St) (H : Hp) : Prop := ∀ (H1 : Hp), Same H H1 → ∀ Q : VK, (∀ (v : V) (H2 : Hp), Same H1 H2 → Tw H2 v → Q v H2) → te σ H1 Q
theorem ev_pair {ta tb : TE} {σ : L2.St} {H : Hp} {a b : Sch} (t : Twin a b) (h1 : EvS ta σ 5 a H) (h2 : EvS tb σ 5 b H) : EvP (tTup (tCons ta (tCons tb tNil))) σ H := fun H1 s1 Q q => h1 H1 s1 _ fun v H2 s2 hv => h2 H2 (s1.trans s2) _ fun u H3 s3 hu => ⟨sz2, fun p hp => q (.ref p) _ ((s2.trans s3).trans (Same.new hp)) ⟨p, v, u, a, b, rfl, upd_same, (SAt.keep (Same.tupK s3) _ _ _ hv).new hp, hu.new hp, t⟩⟩
theorem ev_two {t1 t2 : TE} {σ : L2.St} {H : Hp} (h1 : EvP t1 σ H) (h2 : EvP t2 σ H) : ∀ (H1 : Hp), Same H H1 → ∀ Q : VK, (∀ (l : Addr) (xs : List V) (H2 : Hp), Same H1 H2 → H1 l = none → H2 l = some (.lst xs) → xs.length = 2 → (∀ x ∈ xs, Tw H2 x) → Q (.ref l) H2) → tLst (tCons t1 (tCons t2 tNil)) σ H1 Q := fun H1 s1 Q q => h1 H1 s1 _ fun v H2 s2 hv => h2 H2 (s1.trans s2) _ fun u H3 s3 hu => ⟨sz2, fun l hl => q l [v, u] _ ((s2.trans s3).trans (Same.new hl)) ((s2.trans s3).free hl) upd_same rfl fun x hx => by
  have k : TupK H3 (upd H3 l (.lst [v, u])) := Same.tupK (Same.new hl)
  rcases List.mem_cons.mp hx with rfl | hx
  · exact (hv.keep (Same.tupK s3)).keep k
  · rw [List.mem_singleton.mp hx]; exact hu.keep k⟩
theorem ev_one {t1 : TE} {σ : L2.St} {H : Hp} (h1 : EvP t1 σ H) : ∀ (H1 : Hp), Same H H1 → ∀ Q : VK, (∀ (l : Addr) (xs : List V) (H2 : Hp), Same H1 H2 → H1 l = none → H2 l = some (.lst xs) → xs.length = 1 → (∀ x ∈ xs, Tw H2 x) → Q (.ref l) H2) → tLst (tCons t1 tNil) σ H1 Q := fun H1 s1 Q q => h1 H1 s1 _ fun v H2 s2 hv => ⟨(by show 1 ≤ sizeLine; decide), fun l hl => q l [v] _ (s2.trans (Same.new hl)) (s2.free hl) upd_same rfl fun x hx => by
  rw [List.mem_singleton.mp hx]; exact hv.keep (Same.tupK (Same.new hl))⟩
theorem ev_three {t1 t2 t3 : TE} {σ : L2.St} {H : Hp} (h1 : EvP t1 σ H) (h2 : EvP t2 σ H) (h3 : EvP t3 σ H) : ∀ (H1 : Hp), Same H H1 → ∀ Q : VK, (∀ (l : Addr) (xs : List V) (H2 : Hp), Same H1 H2 → H1 l = none → H2 l = some (.lst xs) → xs.length = 3 → (∀ x ∈ xs, Tw H2 x) → Q (.ref l) H2) → tLst (tCons t1 (tCons t2 (tCons t3 tNil))) σ H1 Q := fun H1 s1 Q q => h1 H1 s1 _ fun v H2 s2 hv => h2 H2 (s1.trans s2) _ fun u H3 s3 hu => h3 H3 ((s1.trans s2).trans s3) _ fun z H4 s4 hz => ⟨(by show 3 ≤ sizeLine; decide), fun l hl => q l [v, u, z] _ (((s2.trans s3).trans s4).trans (Same.new hl)) (((s2.trans s3).trans s4).free hl) upd_same rfl fun x hx => by
  have k : TupK H4 (upd H4 l (.lst [v, u, z])) := Same.tupK (Same.new hl)
  rcases List.mem_cons.mp hx with rfl | hx
  · exact (hv.keep (Same.tupK (s3.trans s4))).keep k
  · rcases List.mem_cons.mp hx with rfl | hx
    · exact (hu.keep (Same.tupK s4)).keep k
    · rw [List.mem_singleton.mp hx]; exact hz.keep k⟩
theorem asgO {te : TE} {i : Nat} {r : TS} {D : Ends} {σ : L2.St} {H : Hp} (h : te σ H fun v H1 => r D (σ.set i (some v)) H1) : tSeq (tAsg te (gName i)) r D σ H := h
def spWrapped : Sp := fun vs H Q _ => ∃ (b l : Addr) (v : V) (s : Sch), vs = [.ref b, v] ∧ Box H b l ∧ SAt H 3 s v ∧ Small s ∧ ∀ (t : V) (H' : Hp), Tw H' t → Box H' b l → Keep [b, l] H H' → Q t H'
section
variable {P : Program} {w : World} {K : PySem.W.Frag} {mg : Str → Option Value} {base : Heap}
theorem ok_wrapped (T : PTx w K mg) (D : Def K mg "_law_wrapped" s_L_wrapped psWr) (DT : Def K mg "_law_take" s_L_take ["_law_box", "_law_many"]) : FnOk P w K mg base CX0 2 D.f D.fd psWr spWrapped := by
  have mmi : mg "min" = none := T.free "min" (by decide +kernel)
  have GT : FnOk P w K mg base CX0 1 DT.f DT.fd ["_law_box", "_law_many"] spTake := ok_take DT
  have nd := sc_L_wrapped.nd
  refine D.ok sc_L_wrapped (fun vs H Q E h => ?_) (fun cdv A outer s H vs Q E hr h => ?_)
  · obtain ⟨b, l, v, s, rfl, _⟩ := h
    rfl
  obtain ⟨b, l, v, s0, rfl, B, hv, sm, q⟩ := h
  refine ⟨_, pss_cons (ps_set (i := 2) nd rfl (Or.inl rfl) (pe_tup (pa_cons pe_str (pa_cons (pe_ix ix_str pe_str (pcall DT GT hr (pa_cons (pv 0) (pa_cons pe_int pa_nil))) (fun _ _ => rfl)) (pa_cons (pe_op op_add pe_int (pcall DT GT hr (pa_cons (pv 0) (pa_cons pe_int pa_nil)))) pa_nil)))))
    (pss_cons (ps_par (i := 3) (j := 4) (by rfl) nd rfl rfl (by decide) rfl rfl (pa_cons (pcall DT GT hr (pa_cons (pv 0) (pa_cons pe_int pa_nil))) (pa_cons (pcall DT GT hr (pa_cons (pv 0) (pa_cons pe_int pa_nil))) pa_nil)) (by rfl))
    (pss_cons (ps_set (i := 5) nd rfl (Or.inl rfl) (pe_lst (pa_cons (pe_tup (pa_cons (pv 1) (pa_cons (pe_tup (pa_cons pe_str (pa_cons (pe_tup (pa_cons (pv 1) pa_nil)) pa_nil))) pa_nil))) (pa_cons (pe_tup (pa_cons (pv 1) (pa_cons (pe_tup (pa_cons pe_str (pa_cons (pe_tup (pa_cons (pv 1) pa_nil)) pa_nil))) pa_nil))) pa_nil))))
    (pss_cons (ps_set (i := 5) nd rfl (Or.inl rfl) (pe_op op_cat (pv 5) (pe_lst (pa_cons (pe_tup (pa_cons (pe_tup (pa_cons pe_str (pa_cons (pv 1) pa_nil))) (pa_cons (pe_tup (pa_cons pe_str (pa_cons (pe_tup (pa_cons pe_str (pa_cons (pv 1) pa_nil))) pa_nil))) pa_nil))) (pa_cons (pe_tup (pa_cons (pe_tup (pa_cons pe_str (pa_cons pe_int (pa_cons (pv 2) pa_nil)))) (pa_cons (pe_tup (pa_cons pe_str (pa_cons (pe_tup (pa_cons pe_str (pa_cons pe_str (pa_cons pe_int pa_nil)))) pa_nil))) pa_nil))) pa_nil)))))
    (pss_cons (ps_set (i := 5) nd rfl (Or.inl rfl) (pe_op op_cat (pv 5) (pe_lst (pa_cons (pe_tup (pa_cons (pe_tup (pa_cons pe_str (pa_cons (pe_callB (call_min2 rfl) rfl mmi (by decide +kernel) (pa_cons (pv 3) (pa_cons (pv 4) pa_nil))) (pa_cons (pv 1) pa_nil)))) (pa_cons (pe_tup (pa_cons pe_str (pa_cons (pv 3) (pa_cons (pe_tup (pa_cons pe_str (pa_cons (pv 4) (pa_cons (pv 1) pa_nil)))) pa_nil)))) pa_nil))) pa_nil))))
    (pss_cons (ps_expr (pe_bm PySem.F.plainAttrs_list PySem.F.slot_list_append PySem.F.type_list_append mt_append (pv 5) (pa_cons (pe_tup (pa_cons (pe_tup (pa_cons pe_str (pa_cons (pe_tup (pa_cons (pv 1) (pa_cons (pv 2) pa_nil))) pa_nil))) (pa_cons (pe_tup (pa_cons pe_str (pa_cons (pe_tup (pa_cons (pv 2) (pa_cons (pv 1) pa_nil))) pa_nil))) pa_nil))) pa_nil)))
    (pss_cons (ps_expr (pe_bm PySem.F.plainAttrs_list PySem.F.slot_list_append PySem.F.type_list_append mt_append (pv 5) (pa_cons (pe_tup (pa_cons (pe_tup (pa_cons pe_str (pa_cons (pe_tup (pa_cons (pv 1) (pa_cons (pv 2) pa_nil))) pa_nil))) (pa_cons (pe_tup (pa_cons pe_str (pa_cons (pe_tup (pa_cons (pv 2) (pa_cons (pv 1) pa_nil))) pa_nil))) pa_nil))) pa_nil)))
    (pss_cons (ps_set (i := 5) nd rfl (Or.inl rfl) (pe_op op_cat (pv 5) (pe_lst (pa_cons (pe_tup (pa_cons (pv 1) (pa_cons (pe_tup (pa_cons pe_str (pa_cons (pe_tup (pa_cons (pv 1) (pa_cons (pe_tup (pa_cons pe_str (pa_cons (pv 1) pa_nil))) pa_nil))) pa_nil))) pa_nil))) (pa_cons (pe_tup (pa_cons (pe_tup (pa_cons pe_str (pa_cons (pe_tup (pa_cons pe_str (pa_cons pe_int (pa_cons (pv 1) pa_nil)))) pa_nil))) (pa_cons (pe_tup (pa_cons pe_str (pa_cons pe_int (pa_cons (pv 1) pa_nil)))) pa_nil))) pa_nil)))))
    (pss_cons (ps_set (i := 5) nd rfl (Or.inl rfl) (pe_op op_cat (pv 5) (pe_lst (pa_cons (pe_tup (pa_cons (pe_tup (pa_cons pe_str (pa_cons (pe_ix (r := rIxT K) ix_tup (pv 2) pe_int (fun _ _ => rfl)) (pa_cons (pe_tup (pa_cons pe_str (pa_cons (pe_tup (pa_cons (pv 2) pa_nil)) pa_nil))) pa_nil)))) (pa_cons (pv 2) pa_nil))) (pa_cons (pe_tup (pa_cons (pe_tup (pa_cons pe_str (pa_cons (pe_ix (r := rIxT K) ix_tup (pv 2) pe_int (fun _ _ => rfl)) (pa_cons (pe_tup (pa_cons pe_str (pa_cons (pe_ix (r := rIxT K) ix_tup (pv 2) pe_int (fun _ _ => rfl)) (pa_cons (pv 1) pa_nil)))) pa_nil)))) (pa_cons (pe_tup (pa_cons pe_str (pa_cons (pe_ix (r := rIxT K) ix_tup (pv 2) pe_int (fun _ _ => rfl)) (pa_cons (pv 1) pa_nil)))) pa_nil))) (pa_cons (pe_tup (pa_cons (pe_tup (pa_cons pe_str (pa_cons (pe_tup (pa_cons (pv 1) (pa_cons (pe_tup (pa_cons pe_str (pa_cons pe_int (pa_cons (pv 2) pa_nil)))) pa_nil))) pa_nil))) (pa_cons (pv 1) pa_nil))) pa_nil))))))
    (pss_one (ps_ret (pe_ix (r := rIxL K) ix_list (pv 5) (pcall DT GT hr (pa_cons (pv 0) (pa_cons pe_int pa_nil))) (fun _ _ => rfl)))))))))))), ?_⟩
  refine ⟨_, rfl, b, l, 8, rfl, by decide, by decide, B, fun r H1 a0 a1 B1 k1 => ?_⟩
  obtain ⟨x, ex, hx⟩ := letter_at a0 a1
  refine ⟨lettersT, r, x, rfl, rfl, (by decide +kernel), ex, ?_⟩
  refine ⟨_, rfl, b, l, 9, rfl, by decide, by decide, B1, fun p H2 p0 p1 B2 k2 => ⟨_, _, rfl, rfl, (by show 3 ≤ sizeLine; decide), fun mo hmo => ?_⟩⟩
  have K2 : BK b l H H2 := ⟨B2, k1.trans k2⟩
  have s3 : Same H2 (upd H2 mo (.tup [.str "step", .str ⟨#[x]⟩, .int (1 + p)])) := Same.new hmo
  have emo : upd H2 mo (.tup [.str "step", .str ⟨#[x]⟩, .int (1 + p)]) mo = some (.tup [.str "step", .str ⟨#[x]⟩, .int (1 + p)]) := upd_same
  generalize upd H2 mo (.tup [.str "step", .str ⟨#[x]⟩, .int (1 + p)]) = H3 at *
  have K3 := K2.same s3
  try dsimp only [gName]
  refine ⟨_, rfl, b, l, 31, rfl, by decide, by decide, K3.1, fun n H4 n0 n1 B4 k4 => ⟨_, rfl, b, l, 31, rfl, by decide, by decide, B4, fun m H5 m0 m1 B5 k5 => ⟨_, _, rfl, ?_⟩⟩⟩
  have K5 : BK b l H H5 := (K3.trans ⟨B4, k4⟩).trans ⟨B5, k5⟩
  have K35 : BK b l H3 H5 := BK.trans ⟨B4, k4⟩ ⟨B5, k5⟩
  have emo5 := K35.tup K3.1 _ _ emo
  have hv5 := SAt.keep (K5.tup B) _ _ _ hv
  have hm5 : SAt H5 1 (.step ⟨#[x]⟩ (1 + p)) (.ref mo) := ⟨mo, rfl, emo5⟩
  have h1p : 1 ≤ 1 + p := by omega
  have h9p : 1 + p ≤ 9 := by omega
  generalize (⟨#[x]⟩ : Str) = wd at *
  generalize 1 + p = pt at *
  try dsimp only [gName]
  refine asgO ?_
  refine ev_two (H := H5) (ev_pair (twin1 sm) (ev_var (by rfl) hv5 (by decide)) (ev_all (ev_list1 (ev_var (by rfl) hv5 (by decide))))) (ev_pair (twin2 sm) (ev_var (by rfl) hv5 (by decide)) (ev_best (ev_list1 (ev_var (by rfl) hv5 (by decide))))) H5 (Same.refl _) _ fun l1 xs1 H6 s6 hl1 el1 n1' t1 => ?_
  try dsimp only [gName]
  have hv6 := SAt.keep (Same.tupK s6) _ _ _ hv5
  have hm6 : SAt H6 1 (.step wd pt) (.ref mo) := SAt.keep (Same.tupK s6) _ _ _ hm5
  refine asgO ?_
  refine ⟨_, rfl, ?_⟩
  refine ev_two (H := H6) (ev_pair (twin3 sm) (ev_carry (ev_var (by rfl) hv6 (by decide))) (ev_carry (ev_carry (ev_var (by rfl) hv6 (by decide))))) (ev_pair (twin4 hx h1p h9p) (ev_most evn_c (ev_var (by rfl) hm6 (by decide))) (ev_half ev_stepc)) H6 (Same.refl _) _ fun l2 xs2 H7 s7 hl2 el2 n2' t2 => ⟨l1, l2, xs1, xs2, rfl, rfl, s7 _ _ el1, el2, szN (by omega), fun l3 hl3 => ?_⟩
  have s8 : Same H7 (upd H7 l3 (.lst (xs1 ++ xs2))) := Same.new hl3
  have el3 : upd H7 l3 (.lst (xs1 ++ xs2)) l3 = some (.lst (xs1 ++ xs2)) := upd_same
  generalize upd H7 l3 (.lst (xs1 ++ xs2)) = H8 at *
  have t3 : ∀ y ∈ xs1 ++ xs2, Tw H8 y := fun y hy => by
    rcases List.mem_append.mp hy with hy | hy
    · exact (t1 y hy).keep (Same.tupK (s7.trans s8))
    · exact (t2 y hy).keep (Same.tupK s8)
  have s58 := (s6.trans s7).trans s8
  have hv8 := SAt.keep (Same.tupK s58) _ _ _ hv5
  have hm8 : SAt H8 1 (.step wd pt) (.ref mo) := SAt.keep (Same.tupK s58) _ _ _ hm5
  have n3' : (xs1 ++ xs2).length = 4 := by rw [List.length_append, n1', n2']
  generalize xs1 ++ xs2 = xs3 at *
  try dsimp only [gName]
  refine asgO ?_
  refine ⟨_, rfl, ?_⟩
  refine ev_one (H := H8) (ev_pair (twin5 sm n0 (by omega) m0 (by omega)) (ev_most (evn_min (by rfl) (by rfl)) (ev_var (by rfl) hv8 (by decide))) (ev_most (evn_var (by rfl)) (ev_most (evn_var (by rfl)) (ev_var (by rfl) hv8 (by decide))))) H8 (Same.refl _) _ fun l4 xs4 H9 s9 hl4 el4 n4' t4 => ⟨l3, l4, xs3, xs4, rfl, rfl, s9 _ _ el3, el4, szN (by omega), fun l5 hl5 => ?_⟩
  have sA : Same H9 (upd H9 l5 (.lst (xs3 ++ xs4))) := Same.new hl5
  have el5 : upd H9 l5 (.lst (xs3 ++ xs4)) l5 = some (.lst (xs3 ++ xs4)) := upd_same
  have hl50 : H5 l5 = none := (s58.trans s9).free hl5
  generalize upd H9 l5 (.lst (xs3 ++ xs4)) = HA at *
  have t5 : ∀ y ∈ xs3 ++ xs4, Tw HA y := fun y hy => by
    rcases List.mem_append.mp hy with hy | hy
    · exact (t3 y hy).keep (Same.tupK (s9.trans sA))
    · exact (t4 y hy).keep (Same.tupK sA)
  have s5A := (s58.trans s9).trans sA
  have n5' : (xs3 ++ xs4).length = 5 := by rw [List.length_append, n3', n4']
  generalize xs3 ++ xs4 = xs5 at *
  try dsimp only [gName]
  have hvA := SAt.keep (Same.tupK s5A) _ _ _ hv5
  have hmA : SAt HA 1 (.step wd pt) (.ref mo) := SAt.keep (Same.tupK s5A) _ _ _ hm5
  refine ⟨_, rfl, .inl ⟨rfl, _, SqL.of el5⟩, ev_pair (H := HA) (twin6 sm hx h1p h9p) (ev_all (ev_list2 (ev_var (by rfl) hvA (by decide)) (ev_var (by rfl) hmA (by decide)))) (ev_all (ev_list2 (ev_var (by rfl) hmA (by decide)) (ev_var (by rfl) hvA (by decide)))) HA (Same.refl _) _ fun y1 HB sB ty1 => ⟨l5, _, _, rfl, rfl, sB _ _ el5, szN (by omega), ?_⟩⟩
  have kC : TupK HB (upd HB l5 (.lst (xs5 ++ [y1]))) := TupK.put (sB _ _ el5)
  have sC : Same H5 (upd HB l5 (.lst (xs5 ++ [y1]))) := Same.newer (s5A.trans sB) hl50
  have elC : upd HB l5 (.lst (xs5 ++ [y1])) l5 = some (.lst (xs5 ++ [y1])) := upd_same
  generalize upd HB l5 (.lst (xs5 ++ [y1])) = HC at *
  have tC : ∀ y ∈ xs5 ++ [y1], Tw HC y := fun y hy => by
    rcases List.mem_append.mp hy with hy | hy
    · exact ((t5 y hy).keep (Same.tupK sB)).keep kC
    · rw [List.mem_singleton.mp hy]; exact ty1.keep kC
  have nC : (xs5 ++ [y1]).length = 6 := by rw [List.length_append, n5']; rfl
  generalize xs5 ++ [y1] = xs6 at *
  have hvC := SAt.keep (Same.tupK sC) _ _ _ hv5
  have hmC : SAt HC 1 (.step wd pt) (.ref mo) := SAt.keep (Same.tupK sC) _ _ _ hm5
  refine ⟨_, rfl, .inl ⟨rfl, _, SqL.of elC⟩, ev_pair (H := HC) (twin7 sm hx h1p h9p) (ev_best (ev_list2 (ev_var (by rfl) hvC (by decide)) (ev_var (by rfl) hmC (by decide)))) (ev_best (ev_list2 (ev_var (by rfl) hmC (by decide)) (ev_var (by rfl) hvC (by decide)))) HC (Same.refl _) _ fun y2 HD sD ty2 => ⟨l5, _, _, rfl, rfl, sD _ _ elC, szN (by omega), ?_⟩⟩
  have kE : TupK HD (upd HD l5 (.lst (xs6 ++ [y2]))) := TupK.put (sD _ _ elC)
  have sE : Same H5 (upd HD l5 (.lst (xs6 ++ [y2]))) := Same.newer (sC.trans sD) hl50
  have elE : upd HD l5 (.lst (xs6 ++ [y2])) l5 = some (.lst (xs6 ++ [y2])) := upd_same
  generalize upd HD l5 (.lst (xs6 ++ [y2])) = HE at *
  have tE : ∀ y ∈ xs6 ++ [y2], Tw HE y := fun y hy => by
    rcases List.mem_append.mp hy with hy | hy
    · exact ((tC y hy).keep (Same.tupK sD)).keep kE
    · rw [List.mem_singleton.mp hy]; exact ty2.keep kE
  have nE : (xs6 ++ [y2]).length = 7 := by rw [List.length_append, nC]; rfl
  generalize xs6 ++ [y2] = xs7 at *
  have hvE := SAt.keep (Same.tupK sE) _ _ _ hv5
  dsimp only
  refine asgO ?_
  refine ⟨_, rfl, ?_⟩
  refine ev_two (H := HE) (ev_pair (twin8 sm) (ev_var (by rfl) hvE (by decide)) (ev_best (ev_list2 (ev_var (by rfl) hvE (by decide)) (ev_half (ev_var (by rfl) hvE (by decide)))))) (ev_pair (twin9 sm) (ev_half (ev_most evn_c (ev_var (by rfl) hvE (by decide)))) (ev_most evn_c (ev_var (by rfl) hvE (by decide)))) HE (Same.refl _) _ fun l6 xs8 HF sF hl6 el6 n8' t8 => ⟨l5, l6, xs7, xs8, rfl, rfl, sF _ _ elE, el6, szN (by omega), fun l7 hl7 => ?_⟩
  have sG : Same HF (upd HF l7 (.lst (xs7 ++ xs8))) := Same.new hl7
  have el7 : upd HF l7 (.lst (xs7 ++ xs8)) l7 = some (.lst (xs7 ++ xs8)) := upd_same
  generalize upd HF l7 (.lst (xs7 ++ xs8)) = HG at *
  have tG : ∀ y ∈ xs7 ++ xs8, Tw HG y := fun y hy => by
    rcases List.mem_append.mp hy with hy | hy
    · exact (tE y hy).keep (Same.tupK (sF.trans sG))
    · exact (t8 y hy).keep (Same.tupK sG)
  have s5G := (sE.trans sF).trans sG
  have nG : (xs7 ++ xs8).length = 9 := by rw [List.length_append, nE, n8']
  generalize xs7 ++ xs8 = xs9 at *
  have hvG := SAt.keep (Same.tupK s5G) _ _ _ hv5
  have hmG : SAt HG 1 (.step wd pt) (.ref mo) := SAt.keep (Same.tupK s5G) _ _ _ hm5
  have emoG := Same.tupK s5G _ _ emo5
  try dsimp only [gName]
  refine asgO ?_
  refine ⟨_, rfl, ?_⟩
  refine ev_three (H := HG) (ev_pair (twin10 hx h1p h9p) (ev_seen (evw_ix (by rfl) emoG) (ev_all (ev_list1 (ev_var (by rfl) hmG (by decide))))) (ev_var (by rfl) hmG (by decide))) (ev_pair (twin11 sm hx) (ev_behind (evw_ix (by rfl) emoG) (ev_seen (evw_ix (by rfl) emoG) (ev_var (by rfl) hvG (by decide)))) (ev_behind (evw_ix (by rfl) emoG) (ev_var (by rfl) hvG (by decide)))) (ev_pair (twin12 sm hx h1p h9p) (ev_all (ev_list2 (ev_var (by rfl) hvG (by decide)) (ev_most evn_c (ev_var (by rfl) hmG (by decide))))) (ev_var (by rfl) hvG (by decide))) HG (Same.refl _) _ fun l8 xsA HI sI hl8 el8 nA' tA => ⟨l7, l8, xs9, xsA, rfl, rfl, sI _ _ el7, el8, szN (by omega), fun l9 hl9 => ?_⟩
  have sJ : Same HI (upd HI l9 (.lst (xs9 ++ xsA))) := Same.new hl9
  have el9 : upd HI l9 (.lst (xs9 ++ xsA)) l9 = some (.lst (xs9 ++ xsA)) := upd_same
  have hl95 : H5 l9 = none := (s5G.trans sI).free hl9
  generalize upd HI l9 (.lst (xs9 ++ xsA)) = HJ at *
  have tJ : ∀ y ∈ xs9 ++ xsA, Tw HJ y := fun y hy => by
    rcases List.mem_append.mp hy with hy | hy
    · exact (tG y hy).keep (Same.tupK (sI.trans sJ))
    · exact (tA y hy).keep (Same.tupK sJ)
  have nJ : (xs9 ++ xsA).length = 12 := by rw [List.length_append, nG, nA']
  generalize xs9 ++ xsA = xsB at *
  have s5J := (s5G.trans sI).trans sJ
  have KJ : BK b l H HJ := K5.same s5J
  have nl9 : l9 ∉ [b, l] := K5.1.nin hl95
  try dsimp only [gName]
  refine ⟨_, rfl, _, rfl, b, l, 12, rfl, by decide, by decide, KJ.1, fun r2 HL c0 c1 BL kL => ?_⟩
  have KL : BK b l HJ HL := ⟨BL, kL⟩
  obtain ⟨j, rfl⟩ : ∃ j : Nat, r2 = (j : Int) := ⟨r2.toNat, by omega⟩
  have hj : j < xsB.length := by omega
  have ej : xsB[j]? = some (xsB[j]'hj) := List.getElem?_eq_getElem hj
  refine ⟨l9, _, _, _, rfl, rfl, SqL.of (kL _ _ el9 nl9), atI_nat ej, ?_⟩
  have KZ := KJ.trans KL
  exact q _ HL ((tJ _ (List.getElem_mem hj)).keep (KL.tup KJ.1)) KZ.1 KZ.2
end
end MS
end
section
set_option maxRecDepth 100000
set_option maxHeartbeats 4000000
namespace MS
open PySem L2
theorem cut_whole {xs : List V} {lo hi : Option Int} (h : HT.sIx xs.length 0 lo = 0 ∧ HT.sIx xs.length xs.length hi = xs.length) : cutV xs lo hi = xs := by
  unfold cutV
  rw [h.1, h.2]
  simp
theorem sl_any {K : PySem.W.Frag} {H : Hp} {a : Addr} {xs : List V} {lo hi : Option Int} {Q : VK} (ea : H a = some (.tup xs)) (q : ∀ (p : Addr) (H' : Hp), Same H H' → H' p = some (.tup (cutV xs lo hi)) → Q (.ref p) H') : rSlA K (.ref a) lo hi H Q :=
  ⟨a, xs, rfl, SqT.of ea, fun h => q a H (Same.refl _) (by rw [cut_whole h]; exact ea), fun _ p hp => q p _ (Same.new hp) upd_same⟩
theorem cat_any {K : PySem.W.Frag} {H : Hp} {a b : Addr} {xs ys : List V} {Q : VK} (ea : H a = some (.tup xs)) (eb : H b = some (.tup ys)) (hl : xs.length + ys.length ≤ 1000) (q : ∀ (p : Addr) (H' : Hp), Same H H' → H' p = some (.tup (xs ++ ys)) → Q (.ref p) H') : rCatA K (.ref a) (.ref b) H Q :=
  ⟨a, b, xs, ys, rfl, rfl, SqT.of ea, SqT.of eb, szN (Nat.le_trans hl (by decide)), fun h => q b H (Same.refl _) (by rw [h]; exact eb), fun _ h => q a H (Same.refl _) (by rw [h, List.append_nil]; exact ea), fun _ _ p hp => q p _ (Same.new hp) upd_same⟩

/-- told otherwise, but as many steps, ends, seens and behinds -/
def Alt (i M d : Nat) (s s' : Sch) : Prop := OkS i M d s' ∧ (∀ c, er c d s' = er c d s) ∧ (∀ c, wr c d s' = wr c d s) ∧ sz d s' = sz d s
theorem Alt.refl {i M d : Nat} {s : Sch} (o : OkS i M d s) : Alt i M d s s := ⟨o, fun _ => rfl, fun _ => rfl, rfl⟩
/-- a scheme with one scheme within, told as its last part -/
structure WrapAt (H : Hp) (i M d : Nat) (sc : Sch) (a : Addr) (nm : Str) (pre : List V) (u : V) (s1 : Sch) (mk : Sch → Sch) : Prop where
  at_ : H a = some (.tup (.str nm :: (pre ++ [u])))
  kid : SAt H d s1 u
  ok : OkS i M d s1
  ab : (nm == "all" || nm == "best") = false
  su : (nm == "step" || nm == "use") = false
  pl : pre.length ≤ 2
  alt : ∀ s', Alt i M d s1 s' → Alt i M (d + 1) sc (mk s')
  new : ∀ (H' : Hp) (a' : Addr) (u' : V) (s' : Sch), H' a' = some (.tup (.str nm :: (pre ++ [u']))) → SAt H' d s' u' → SAt H' (d + 1) (mk s') (.ref a')
theorem last_at {nm : Str} {u : V} : ∀ {pre : List V}, pre.length ≤ 2 → atI (V.str nm :: (pre ++ [u])) (-1) = some u
  | [], _ => rfl
  | [_], _ => rfl
  | [_, _], _ => rfl
  | _ :: _ :: _ :: _, h => absurd h (by simp)
theorem cut_last {nm : Str} {u : V} : ∀ {pre : List V}, pre.length ≤ 2 → cutV (V.str nm :: (pre ++ [u])) none (some (-1)) = V.str nm :: pre
  | [], _ => rfl
  | [_], _ => rfl
  | [_, _], _ => rfl
  | _ :: _ :: _ :: _, h => absurd h (by simp)
theorem turned_view {H : Hp} {i M d : Nat} {sc : Sch} {v : V} (hs : SAt H (d + 1) sc v) (ho : OkS i M (d + 1) sc) :
    (∃ x p, sc = .step x p) ∨ (∃ n, sc = .use n) ∨ (∃ ks, sc = .all ks ∨ sc = .best ks) ∨ ∃ a nm pre u s1 mk, v = .ref a ∧ WrapAt H i M d sc a nm pre u s1 mk ∧
      ((nm = "most" ∧ ∃ n, pre = [.int n] ∧ sc = .most n s1) ∨ (nm = "half" ∧ pre = [] ∧ sc = .half s1) ∨ (nm = "carry" ∧ pre = [] ∧ sc = .carry s1) ∨ (nm = "seen" ∧ ∃ x, pre = [.str x] ∧ sc = .seen x s1) ∨ (nm = "behind" ∧ ∃ x, pre = [.str x] ∧ sc = .behind x s1) ∨ (nm = "end" ∧ ∃ x p, pre = [.str x, .int p] ∧ sc = .fin x p s1)) := by
  cases sc with
  | step x p => exact .inl ⟨x, p, rfl⟩
  | use n => exact .inr (.inl ⟨n, rfl⟩)
  | all ks => exact .inr (.inr (.inl ⟨ks, .inl rfl⟩))
  | best ks => exact .inr (.inr (.inl ⟨ks, .inr rfl⟩))
  | most n s =>
    obtain ⟨a, u, rfl, ea, hk⟩ := hs
    exact .inr (.inr (.inr ⟨a, "most", [.int n], u, s, .most n, rfl, ⟨ea, hk, ho.2, by decide +kernel, by decide +kernel, Nat.le_of_ble_eq_true rfl, fun s' h => ⟨⟨ho.1, h.1⟩, h.2.1, h.2.2.1, by show 1 + sz d s' = 1 + sz d s; rw [h.2.2.2]⟩, fun H' a' u' s' e h => ⟨a', u', rfl, e, h⟩⟩, .inl ⟨rfl, n, rfl, rfl⟩⟩))
  | half s =>
    obtain ⟨a, u, rfl, ea, hk⟩ := hs
    exact .inr (.inr (.inr ⟨a, "half", [], u, s, .half, rfl, ⟨ea, hk, ho, by decide +kernel, by decide +kernel, Nat.le_of_ble_eq_true rfl, fun s' h => ⟨h.1, h.2.1, h.2.2.1, by show 1 + sz d s' = 1 + sz d s; rw [h.2.2.2]⟩, fun H' a' u' s' e h => ⟨a', u', rfl, e, h⟩⟩, .inr (.inl ⟨rfl, rfl, rfl⟩)⟩))
  | carry s =>
    obtain ⟨a, u, rfl, ea, hk⟩ := hs
    exact .inr (.inr (.inr ⟨a, "carry", [], u, s, .carry, rfl, ⟨ea, hk, ho, by decide +kernel, by decide +kernel, Nat.le_of_ble_eq_true rfl, fun s' h => ⟨h.1, h.2.1, h.2.2.1, by show 1 + sz d s' = 1 + sz d s; rw [h.2.2.2]⟩, fun H' a' u' s' e h => ⟨a', u', rfl, e, h⟩⟩, .inr (.inr (.inl ⟨rfl, rfl, rfl⟩))⟩))
  | seen x s =>
    obtain ⟨a, u, rfl, ea, hk⟩ := hs
    exact .inr (.inr (.inr ⟨a, "seen", [.str x], u, s, .seen x, rfl, ⟨ea, hk, ho.2, by decide +kernel, by decide +kernel, Nat.le_of_ble_eq_true rfl, fun s' h => ⟨⟨ho.1, h.1⟩, h.2.1, fun c => by show 1 + wr c d s' = 1 + wr c d s; rw [h.2.2.1], by show 1 + sz d s' = 1 + sz d s; rw [h.2.2.2]⟩, fun H' a' u' s' e h => ⟨a', u', rfl, e, h⟩⟩, .inr (.inr (.inr (.inl ⟨rfl, x, rfl, rfl⟩)))⟩))
  | behind x s =>
    obtain ⟨a, u, rfl, ea, hk⟩ := hs
    exact .inr (.inr (.inr ⟨a, "behind", [.str x], u, s, .behind x, rfl, ⟨ea, hk, ho.2, by decide +kernel, by decide +kernel, Nat.le_of_ble_eq_true rfl, fun s' h => ⟨⟨ho.1, h.1⟩, h.2.1, fun c => by show 1 + wr c d s' = 1 + wr c d s; rw [h.2.2.1], by show 1 + sz d s' = 1 + sz d s; rw [h.2.2.2]⟩, fun H' a' u' s' e h => ⟨a', u', rfl, e, h⟩⟩, .inr (.inr (.inr (.inr (.inl ⟨rfl, x, rfl, rfl⟩))))⟩))
  | fin x p s =>
    obtain ⟨a, u, rfl, ea, hk⟩ := hs
    exact .inr (.inr (.inr ⟨a, "end", [.str x, .int p], u, s, .fin x p, rfl, ⟨ea, hk, ho.2, by decide +kernel, by decide +kernel, Nat.le_of_ble_eq_true rfl, fun s' h => ⟨⟨ho.1, h.1⟩, fun c => by show 1 + er c d s' = 1 + er c d s; rw [h.2.1], h.2.2.1, by show 1 + sz d s' = 1 + sz d s; rw [h.2.2.2]⟩, fun H' a' u' s' e h => ⟨a', u', rfl, e, h⟩⟩, .inr (.inr (.inr (.inr (.inr ⟨rfl, x, p, rfl, rfl⟩))))⟩))
/-- a test of the first word -/
theorem in2_ev {K : PySem.W.Frag} {σ : St} {H : Hp} {a : Addr} {nm x y : Str} {rest : List V} (s1 : σ[1]? = some (some (.ref a))) (ea : H a = some (.tup (.str nm :: rest))) :
    ∀ Q : Bool → Hp → Prop, (∀ H', Same H H' → Q (nm == x || nm == y) H') → tTest (tOp (rIn K false) (tOp (rIxT K) (tVar 1) (tC (.int 0))) (tTup (tCons (tC (.str x)) (tCons (tC (.str y)) tNil)))) σ H Q := fun Q q => by
  refine ⟨_, s1, a, _, 0, .str nm, rfl, rfl, SqT.of ea, at0, sz2, fun t1 h1 => ⟨t1, _, rfl, .inr (SqT.of upd_same), rfl, rfl, _, rfl, ?_⟩⟩
  have e : inV (.str nm) [.str x, .str y] = (nm == x || nm == y) := by
    show (eqV (.str x) (.str nm) || (eqV (.str y) (.str nm) || false)) = _
    rw [Bool.or_false]
    have es : ∀ z : Str, eqV (.str z) (.str nm) = (z == nm) := fun z => rfl
    rw [es, es]
    have sw : ∀ z : Str, (z == nm) = (nm == z) := fun z => by
      by_cases h : z = nm
      · rw [h]
      · rw [beq_false_of_ne h, beq_false_of_ne (fun e => h e.symm)]
    rw [sw, sw]
  show Q (inV (.str nm) [.str x, .str y]) _
  rw [e]
  exact q _ (Same.new h1)
theorem in2 {K : PySem.W.Frag} {σ : St} {H : Hp} {a : Addr} {nm x y : Str} {rest : List V} {bb : Bool} (s1 : σ[1]? = some (some (.ref a))) (ea : H a = some (.tup (.str nm :: rest))) (e : (nm == x || nm == y) = bb) :
    ∀ Q : Bool → Hp → Prop, (∀ H', Same H H' → Q bb H') → tTest (tOp (rIn K false) (tOp (rIxT K) (tVar 1) (tC (.int 0))) (tTup (tCons (tC (.str x)) (tCons (tC (.str y)) tNil)))) σ H Q := by
  subst e
  exact in2_ev s1 ea

end MS
end
section
set_option maxRecDepth 100000
set_option maxHeartbeats 4000000
namespace MS
open PySem L2
/-! ### what uses stand for, told in their places -/
def plainP (ps : List Sch) : Nat → Sch → Sch
  | 0, s => s
  | _ + 1, .step x p => .step x p
  | k + 1, .use n => match ps[n]? with
    | none => .use n
    | some s => plainP ps k s
  | k + 1, .all ks => .all (ks.map (plainP ps k))
  | k + 1, .best ks => .best (ks.map (plainP ps k))
  | k + 1, .most n s => .most n (plainP ps k s)
  | k + 1, .half s => .half (plainP ps k s)
  | k + 1, .seen x s => .seen x (plainP ps k s)
  | k + 1, .behind x s => .behind x (plainP ps k s)
  | k + 1, .carry s => .carry (plainP ps k s)
  | k + 1, .fin x p s => .fin x p (plainP ps k s)
theorem ptA_map {f : Sch → Nat} {g : Sch → Sch} : ∀ ks : List Sch, ptA f (ks.map g) = ptA (fun s => f (g s)) ks
  | [] => rfl
  | s :: r => by
    show f (g s) + ptA f (r.map g) = _
    rw [ptA_map r]
    rfl
theorem ptB_map {f : Sch → Nat} {g : Sch → Sch} : ∀ (ks : List Sch) (a : Nat), ptB f (ks.map g) a = ptB (fun s => f (g s)) ks a
  | [], _ => rfl
  | s :: r, a => by
    show ptB f (r.map g) _ = ptB _ r _
    rw [ptB_map r]
section
variable {ps : List Sch} {M : Nat}
theorem plain_ok (hM : ps.length = M) (hp : ∀ (j : Nat) (s : Sch), ps[j]? = some s → OkS j M 5 s) : ∀ (k i d : Nat) (s : Sch), OkS i M d s → (M - i) * 5 + d ≤ k → OkS 0 1 k (plainP ps k s)
  | 0, i, 0, _, o, _ => o.elim
  | 0, i, d + 1, _, _, h => absurd h (by omega)
  | k + 1, i, 0, _, o, _ => o.elim
  | k + 1, i, d + 1, .step x p, o, _ => o
  | k + 1, i, d + 1, .use n, o, h => by
    have o : i < n ∧ n < M := o
    have en : ps[n]? = some (ps[n]'(by omega)) := List.getElem?_eq_getElem (by omega)
    unfold plainP
    rw [en]
    exact oks_up k (k + 1) _ (plain_ok hM hp k n 5 _ (hp n _ en) (by omega)) (by omega)
  | k + 1, i, d + 1, .all ks, o, h => ⟨by rw [List.length_map]; exact o.1, by rw [List.length_map]; exact o.2.1, fun t ht => by
      obtain ⟨s, hs, rfl⟩ := List.mem_map.mp ht
      exact plain_ok hM hp k i d s (o.2.2 s hs) (by omega)⟩
  | k + 1, i, d + 1, .best ks, o, h => ⟨by rw [List.length_map]; exact o.1, by rw [List.length_map]; exact o.2.1, fun t ht => by
      obtain ⟨s, hs, rfl⟩ := List.mem_map.mp ht
      exact plain_ok hM hp k i d s (o.2.2 s hs) (by omega)⟩
  | k + 1, i, d + 1, .most n s, o, h => ⟨o.1, plain_ok hM hp k i d s o.2 (by omega)⟩
  | k + 1, i, d + 1, .half s, o, h => plain_ok hM hp k i d s o (by omega)
  | k + 1, i, d + 1, .seen x s, o, h => ⟨o.1, plain_ok hM hp k i d s o.2 (by omega)⟩
  | k + 1, i, d + 1, .behind x s, o, h => ⟨o.1, plain_ok hM hp k i d s o.2 (by omega)⟩
  | k + 1, i, d + 1, .carry s, o, h => plain_ok hM hp k i d s o (by omega)
  | k + 1, i, d + 1, .fin x p s, o, h => ⟨o.1, plain_ok hM hp k i d s o.2 (by omega)⟩
theorem plain_pt (hM : ps.length = M) (hp : ∀ (j : Nat) (s : Sch), ps[j]? = some s → OkS j M 5 s) {ws : List StepT} : ∀ (k i d : Nat) (s : Sch) (st : Nat) (c : Bool), OkS i M d s → (M - i) * 5 + d ≤ k → ptk [] ws k (plainP ps k s) st c = ptk ps ws k s st c
  | 0, i, 0, _, _, _, o, _ => o.elim
  | 0, i, d + 1, _, _, _, _, h => absurd h (by omega)
  | k + 1, i, 0, _, _, _, o, _ => o.elim
  | k + 1, i, d + 1, .step x p, _, _, o, _ => rfl
  | k + 1, i, d + 1, .use n, st, c, o, h => by
    have o : i < n ∧ n < M := o
    have en : ps[n]? = some (ps[n]'(by omega)) := List.getElem?_eq_getElem (by omega)
    have ok := plain_ok hM hp k n 5 _ (hp n _ en) (by omega)
    have ih := plain_pt hM hp (ws := ws) k n 5 _ st c (hp n _ en) (by omega)
    have e1 : plainP ps (k + 1) (.use n) = plainP ps k (ps[n]'(by omega)) := by
      rw [plainP, en]
    have e2 : ptk ps ws (k + 1) (.use n) st c = ptk ps ws k (ps[n]'(by omega)) st c := by
      rw [ptk, en]
    rw [e1, e2, ← ih]
    exact ptk_free k (k + 1) k _ st c ok (by omega) (Nat.le_refl _)
  | k + 1, i, d + 1, .all ks, st, c, o, h => by
    show ptA (fun s => ptk [] ws k s st c) (ks.map (plainP ps k)) = _
    rw [ptA_map]
    exact ptA_congr ks fun s hs => plain_pt hM hp k i d s st c (o.2.2 s hs) (by omega)
  | k + 1, i, d + 1, .best ks, st, c, o, h => by
    show ptB (fun s => ptk [] ws k s st c) (ks.map (plainP ps k)) 0 = _
    rw [ptB_map]
    exact ptB_congr ks 0 fun s hs => plain_pt hM hp k i d s st c (o.2.2 s hs) (by omega)
  | k + 1, i, d + 1, .most n s, st, c, o, h => by
    show min n.toNat (ptk [] ws k (plainP ps k s) st c) = min n.toNat _
    rw [plain_pt hM hp k i d s st c o.2 (by omega)]
  | k + 1, i, d + 1, .half s, st, c, o, h => by
    show ptk [] ws k (plainP ps k s) st c / 2 = _ / 2
    rw [plain_pt hM hp k i d s st c o (by omega)]
  | k + 1, i, d + 1, .seen x s, st, c, o, h => by
    show (if _ then ptk [] ws k (plainP ps k s) st c else 0) = if _ then _ else 0
    rw [plain_pt hM hp k i d s st c o.2 (by omega)]
  | k + 1, i, d + 1, .behind x s, st, c, o, h => by
    show (match hits ws c x st with
      | [] => 0
      | i :: _ => ptk [] ws k (plainP ps k s) (i + 1) c) = match hits ws c x st with
      | [] => 0
      | i :: _ => ptk ps ws k s (i + 1) c
    cases hits ws c x st with
    | nil => rfl
    | cons i' r => exact plain_pt hM hp k i d s (i' + 1) c o.2 (by omega)
  | k + 1, i, d + 1, .carry s, st, c, o, h => plain_pt hM hp k i d s st true o (by omega)
  | k + 1, i, d + 1, .fin x p s, st, c, o, h => by
    show (if _ then _ else ptk [] ws k (plainP ps k s) st c) = if _ then _ else _
    rw [plain_pt hM hp k i d s st c o.2 (by omega)]
theorem plain_er {ce : Nat → Int} (hM : ps.length = M) (hp : ∀ (j : Nat) (s : Sch), ps[j]? = some s → OkS j M 5 s ∧ ce j = er ce 5 s) : ∀ (k i d : Nat) (s : Sch), OkS i M d s → (M - i) * 5 + d ≤ k → er (fun _ => 0) k (plainP ps k s) = er ce d s
  | 0, i, 0, _, o, _ => o.elim
  | 0, i, d + 1, _, _, h => absurd h (by omega)
  | k + 1, i, 0, _, o, _ => o.elim
  | k + 1, i, d + 1, .step x p, o, _ => rfl
  | k + 1, i, d + 1, .use n, o, h => by
    have o : i < n ∧ n < M := o
    have en : ps[n]? = some (ps[n]'(by omega)) := List.getElem?_eq_getElem (by omega)
    have ok := plain_ok hM (fun j s e => (hp j s e).1) k n 5 _ (hp n _ en).1 (by omega)
    have ih := plain_er hM hp k n 5 _ (hp n _ en).1 (by omega)
    have e1 : plainP ps (k + 1) (.use n) = plainP ps k (ps[n]'(by omega)) := by
      rw [plainP, en]
    show er _ (k + 1) (plainP ps (k + 1) (.use n)) = ce n
    rw [e1, (hp n _ en).2, ← ih]
    exact er_free k (k + 1) k _ ok (by omega) (Nat.le_refl _)
  | k + 1, i, d + 1, .all ks, o, h => by
    show ((ks.map (plainP ps k)).map _).sum = (ks.map _).sum
    rw [List.map_map]
    exact congrArg List.sum (List.map_congr_left fun s hs => plain_er hM hp k i d s (o.2.2 s hs) (by omega))
  | k + 1, i, d + 1, .best ks, o, h => by
    show ((ks.map (plainP ps k)).map _).sum = (ks.map _).sum
    rw [List.map_map]
    exact congrArg List.sum (List.map_congr_left fun s hs => plain_er hM hp k i d s (o.2.2 s hs) (by omega))
  | k + 1, i, d + 1, .most n s, o, h => plain_er hM hp k i d s o.2 (by omega)
  | k + 1, i, d + 1, .half s, o, h => plain_er hM hp k i d s o (by omega)
  | k + 1, i, d + 1, .seen x s, o, h => plain_er hM hp k i d s o.2 (by omega)
  | k + 1, i, d + 1, .behind x s, o, h => plain_er hM hp k i d s o.2 (by omega)
  | k + 1, i, d + 1, .carry s, o, h => plain_er hM hp k i d s o (by omega)
  | k + 1, i, d + 1, .fin x p s, o, h => congrArg (1 + ·) (plain_er hM hp k i d s o.2 (by omega))
theorem plain_wr {ce : Nat → Int} (hM : ps.length = M) (hp : ∀ (j : Nat) (s : Sch), ps[j]? = some s → OkS j M 5 s ∧ ce j = wr ce 5 s) : ∀ (k i d : Nat) (s : Sch), OkS i M d s → (M - i) * 5 + d ≤ k → wr (fun _ => 0) k (plainP ps k s) = wr ce d s
  | 0, i, 0, _, o, _ => o.elim
  | 0, i, d + 1, _, _, h => absurd h (by omega)
  | k + 1, i, 0, _, o, _ => o.elim
  | k + 1, i, d + 1, .step x p, o, _ => rfl
  | k + 1, i, d + 1, .use n, o, h => by
    have o : i < n ∧ n < M := o
    have en : ps[n]? = some (ps[n]'(by omega)) := List.getElem?_eq_getElem (by omega)
    have ok := plain_ok hM (fun j s e => (hp j s e).1) k n 5 _ (hp n _ en).1 (by omega)
    have ih := plain_wr hM hp k n 5 _ (hp n _ en).1 (by omega)
    have e1 : plainP ps (k + 1) (.use n) = plainP ps k (ps[n]'(by omega)) := by
      rw [plainP, en]
    show wr _ (k + 1) (plainP ps (k + 1) (.use n)) = ce n
    rw [e1, (hp n _ en).2, ← ih]
    exact wr_free k (k + 1) k _ ok (by omega) (Nat.le_refl _)
  | k + 1, i, d + 1, .all ks, o, h => by
    show ((ks.map (plainP ps k)).map _).sum = (ks.map _).sum
    rw [List.map_map]
    exact congrArg List.sum (List.map_congr_left fun s hs => plain_wr hM hp k i d s (o.2.2 s hs) (by omega))
  | k + 1, i, d + 1, .best ks, o, h => by
    show ((ks.map (plainP ps k)).map _).sum = (ks.map _).sum
    rw [List.map_map]
    exact congrArg List.sum (List.map_congr_left fun s hs => plain_wr hM hp k i d s (o.2.2 s hs) (by omega))
  | k + 1, i, d + 1, .most n s, o, h => plain_wr hM hp k i d s o.2 (by omega)
  | k + 1, i, d + 1, .half s, o, h => plain_wr hM hp k i d s o (by omega)
  | k + 1, i, d + 1, .seen x s, o, h => congrArg (1 + ·) (plain_wr hM hp k i d s o.2 (by omega))
  | k + 1, i, d + 1, .behind x s, o, h => congrArg (1 + ·) (plain_wr hM hp k i d s o.2 (by omega))
  | k + 1, i, d + 1, .carry s, o, h => plain_wr hM hp k i d s o (by omega)
  | k + 1, i, d + 1, .fin x p s, o, h => plain_wr hM hp k i d s o.2 (by omega)
end
/-! ### _law_plain -/
abbrev s_L_plain : Stmt := topS 73
abbrev psPl : List Str := ["_law_paper_here", "_law_scheme_here"]
abbrev nmPl : List Str := ["_law_paper_here", "_law_scheme_here", "_law_kid"]
theorem sc_L_plain : FnScope nmPl psPl (defScope s_L_plain) := ⟨rfl, rfl, rfl, by decide +kernel, rfl, by decide +kernel, by decide +kernel⟩
def spPlain (ps : List Sch) (M k : Nat) : Sp := fun vs H Q _ => ∃ (pa : Addr) (v : V) (s : Sch) (i d : Nat), vs = [.ref pa, v] ∧ (∃ pv, H pa = some (.tup pv) ∧ Paired (SAt H 5) ps pv) ∧ SAt H d s v ∧ OkS i M d s ∧ (M - i) * 5 + d ≤ k ∧
  ∀ (v' : V) (H' : Hp), Same H H' → SAt H' k (plainP ps k s) v' → Q v' H'
section
variable {P : Program} {w : World} {K : PySem.W.Frag} {mg : Str → Option Value} {base : Heap}
theorem plain_turn {ps : List Sch} {M k : Nat} (hM : ps.length = M) (hp : ∀ (j : Nat) (s : Sch), ps[j]? = some s → OkS j M 5 s)
    (D : Def K mg "_law_plain" s_L_plain psPl) (mt : mg "tuple" = none) (G : FnOk P w K mg base CX0 k D.f D.fd psPl (spPlain ps M k)) : FnOk P w K mg base CX0 (k + 1) D.f D.fd psPl (spPlain ps M (k + 1)) := by
  have nd := sc_L_plain.nd
  refine D.ok sc_L_plain (fun vs H Q E h => ?_) (fun cdv A outer s H vs Q E hr h => ?_)
  · obtain ⟨pa, v, s, i, d, rfl, _⟩ := h
    rfl
  obtain ⟨pa, v, sc, i, d, rfl, ⟨pv0, epv, pp⟩, hs, ho, hk, q⟩ := h
  refine ⟨_, pss_cons (ps_if (pt_cmpR op_eq (pe_ix (r := rIxT K) ix_tup (pv 1) pe_int (fun _ _ => rfl)) pe_str (nomark _))
      (pss_one (ps_ret (pcall D G hr (pa_cons (pv 0) (pa_cons (pe_ix (r := rIxT K) ix_tup (pv 0) (pe_ix (r := rIxT K) ix_tup (pv 1) pe_int (fun _ _ => rfl)) (fun _ _ => rfl)) pa_nil))))) pss_nil)
    (pss_cons (ps_if (pt_cmpR (r := rIn K false) op_in_seq (pe_ix (r := rIxT K) ix_tup (pv 1) pe_int (fun _ _ => rfl)) (pe_tup (pa_cons pe_str (pa_cons pe_str pa_nil))) (by rfl))
      (pss_one (ps_ret (pe_tup (pa_cons (pe_ix (r := rIxT K) ix_tup (pv 1) pe_int (fun _ _ => rfl)) (pa_cons (pe_callTy call_tuple_of rfl mt (by decide +kernel) (pa_cons (pe_lc (own := [("_law_kid", 2)]) (g := gName 2) (tt := tYes) rfl nd (pi_tup (pe_ix (r := rIxT K) ix_tup (pv 1) pe_int (fun _ _ => rfl))) (blkOk_by (N := nmPl) (sc := defScope s_L_plain) (by decide +kernel))
        (fun _ _ _ _ _ => pg_name (i := 2) nd rfl (Or.inl rfl)) (fun _ _ _ _ _ => pts_nil) (fun _ _ _ _ _ => pcall D G hr (pa_cons (pv 0) (pa_cons (pv 2) pa_nil)))) pa_nil)) pa_nil))))) pss_nil)
    (pss_one (ps_ret (pe_ifExp (pt_cmpR op_eq (pe_ix (r := rIxT K) ix_tup (pv 1) pe_int (fun _ _ => rfl)) pe_str (nomark _)) (pv 1) (pe_op op_catA (pe_slice sl_tupA (pv 1) po_none (po_some (pe_un un_neg pe_int))) (pe_tup (pa_cons (pcall D G hr (pa_cons (pv 0) (pa_cons (pe_ix (r := rIxT K) ix_tup (pv 1) (pe_un un_neg pe_int) (fun _ _ => rfl)) pa_nil))) pa_nil))))))), ?_⟩
  obtain ⟨a, nm, rest, rfl, ea⟩ := hs.tag
  cases d with
  | zero => cases hs
  | succ d =>
  rcases turned_view hs ho with ⟨x, p, rfl⟩ | ⟨n, rfl⟩ | ⟨ks, hks⟩ | ⟨a', nm', pre, u, s1, mk, ev, W, hkind⟩
  · -- a step
    have hs2 := hs
    obtain ⟨a2, e2, ea2⟩ := hs
    obtain rfl := V.ref.inj e2
    refine seq_if (b := false) (fun Q q => ⟨_, rfl, a, _, 0, .str "step", rfl, rfl, SqT.of ea2, at0, rfl, _, rfl, by rw [dec_str]; exact q⟩) (fun z => nomatch z) (fun _ => ?_)
    refine in2 (K := K) (bb := false) rfl ea2 (by decide +kernel) _ fun H1 s1 => iteF ?_
    refine ⟨_, rfl, a, _, 0, .str "step", rfl, rfl, SqT.of (s1 _ _ ea2), at0, rfl, _, rfl, ?_⟩
    rw [dec_str]
    exact iteT ⟨_, rfl, q (.ref a) H1 s1 ⟨a, rfl, s1 _ _ ea2⟩⟩
  · -- a use
    obtain ⟨a2, e2, ea2⟩ := hs
    obtain rfl := V.ref.inj e2
    have ho : i < n ∧ n < M := ho
    have nl : n < pv0.length := by rw [← Paired.length pp]; omega
    have epn : pv0[n]? = some (pv0[n]'nl) := List.getElem?_eq_getElem nl
    obtain ⟨s', es', hs'⟩ := paired_get' pp epn
    refine seq_if (b := true) (fun Q q => ⟨_, rfl, a, _, 0, .str "use", rfl, rfl, SqT.of ea2, at0, rfl, _, rfl, by rw [dec_str]; exact q⟩) (fun _ => ?_) (fun z => nomatch z)
    refine ⟨_, rfl, _, rfl, _, rfl, a, _, 1, .int ((n : Nat) : Int), rfl, rfl, SqT.of ea2, at1, pa, pv0, _, _, rfl, rfl, SqT.of epv, atI_nat epn, ?_⟩
    refine ⟨pa, _, s', n, 5, rfl, ⟨pv0, epv, pp⟩, hs', hp n s' es', by omega, fun v' H' s2 hv' => q v' H' s2 ?_⟩
    have e1 : plainP ps (k + 1) (.use n) = plainP ps k s' := by
      rw [plainP, es']
    rw [e1]
    exact sat_up k (k + 1) _ _ hv' (by omega)
  · -- all, best
    obtain ⟨nm', gb, gv, hab, ea2, egb, pg, hko, hnm⟩ : ∃ (nm' : Str) (gb : Addr) (gv : List V), (nm' == "all" || nm' == "best") = true ∧ H a = some (.tup [.str nm', .ref gb]) ∧ H gb = some (.tup gv) ∧ Paired (SAt H d) ks gv ∧ (∀ s ∈ ks, OkS i M d s) ∧ (nm' == "use") = false ∧ (ks.length ≤ 4) ∧
        ∀ (H' : Hp) (t g' : Addr) (gv' : List V), H' t = some (.tup [.str nm', .ref g']) → H' g' = some (.tup gv') → Paired (SAt H' k) (ks.map (plainP ps k)) gv' → SAt H' (k + 1) (plainP ps (k + 1) sc) (.ref t) := by
      rcases hks with rfl | rfl
      · obtain ⟨a2, gb, gv, e2, ea2, egb, pg⟩ := hs
        obtain rfl := V.ref.inj e2
        exact ⟨"all", gb, gv, by decide +kernel, ea2, egb, pg, ho.2.2, by decide +kernel, ho.2.1, fun H' t g' gv' h1 h2 h3 => ⟨t, g', gv', rfl, h1, h2, h3⟩⟩
      · obtain ⟨a2, gb, gv, e2, ea2, egb, pg⟩ := hs
        obtain rfl := V.ref.inj e2
        exact ⟨"best", gb, gv, by decide +kernel, ea2, egb, pg, ho.2.2, by decide +kernel, ho.2.1, fun H' t g' gv' h1 h2 h3 => ⟨t, g', gv', rfl, h1, h2, h3⟩⟩
    obtain ⟨nu, hl4, mk⟩ := hnm
    refine seq_if (b := false) (fun Q q => ⟨_, rfl, a, _, 0, .str nm', rfl, rfl, SqT.of ea2, at0, rfl, _, rfl, by rw [dec_str, nu]; exact q⟩) (fun z => nomatch z) (fun _ => ?_)
    refine in2 (K := K) (bb := true) rfl ea2 hab _ fun H1 s1 => iteT ?_
    have egb1 := s1 _ _ egb
    refine ⟨_, rfl, a, _, 0, .str nm', rfl, rfl, SqT.of (s1 _ _ ea2), at0, _, rfl, a, _, 1, .ref gb, rfl, rfl, SqT.of (s1 _ _ ea2), at1, gb, rfl, ⟨_, SqT.of egb1⟩, fun D' hD => ?_⟩
    refine lc_it (walk_tup (K := K) (a := gb) (xs := gv)) (fun j H' => Same H1 H' ∧ ∃ uv, H' D' = some (.lst uv) ∧ Paired (SAt H' k) ((ks.map (plainP ps k)).take j) uv) ⟨Same.new hD, [], upd_same, .nil⟩ (fun j H' _ ⟨s, _⟩ => SqT.of (s _ _ egb1)) ?_ ?_
    · rintro j y H2 H3 hj ⟨s2, uv, eD, pu⟩ ⟨rfl, ey⟩
      have ey : gv[j]? = some y := ey
      obtain ⟨sj, esj, hsj⟩ := paired_get' pg ey
      have luv := Paired.length pu
      rw [List.length_take, List.length_map] at luv
      have s12 := s1.trans s2
      have ej : (ks.map (plainP ps k))[j]? = some (plainP ps k sj) := by rw [List.getElem?_map, esj]; rfl
      refine ⟨rfl, _, rfl, _, rfl, pa, y, sj, i, d, rfl, ⟨pv0, s12 _ _ epv, paired_imp pp fun _ _ => SAt.keep (Same.tupK s12) _ _ _⟩, SAt.keep (Same.tupK s12) _ _ _ hsj, hko _ (List.mem_of_getElem? esj), by omega, fun v' H4 s4 hv' => ?_⟩
      have eD4 := s4 _ _ eD
      have tP : TupK H4 (upd H4 D' (.lst (uv ++ [v']))) := TupK.put eD4
      refine ⟨uv, eD4, szN (by omega), Same.newer (s2.trans s4) hD, uv ++ [v'], upd_same, ?_⟩
      rw [List.take_succ, ej]
      exact paired_app (paired_imp pu fun _ _ z => SAt.keep ((Same.tupK s4).trans tP) _ _ _ z) (.cons (SAt.keep tP _ _ _ hv') .nil)
    · rintro H2 ⟨s2, uv, eD, pu⟩
      have lgv := Paired.length pg
      rw [← lgv, ← List.length_map (plainP ps k), List.take_length] at pu
      refine ⟨D', _, rfl, .inl ⟨SqL.of eD, fun g hg => ⟨sz2, fun t ht => ?_⟩⟩⟩
      have s3 : Same H2 (upd H2 g (.tup uv)) := Same.new hg
      have eg : upd H2 g (.tup uv) g = some (.tup uv) := upd_same
      generalize upd H2 g (.tup uv) = H3 at *
      have s4 : Same H3 (upd H3 t (.tup [.str nm', .ref g])) := Same.new ht
      exact q (.ref t) _ (((s1.trans s2).trans s3).trans s4) (mk _ t g uv upd_same (s4 _ _ eg) (paired_imp pu fun _ _ z => SAt.keep (Same.tupK (s3.trans s4)) _ _ _ z))
  · -- one within
    obtain rfl := V.ref.inj ev
    have su : (nm' == "use") = false ∧ (nm' == "step") = false := by
      have z := W.su
      rw [Bool.or_eq_false_iff] at z
      exact ⟨z.2, z.1⟩
    refine seq_if (b := false) (fun Q q => ⟨_, rfl, a, _, 0, .str nm', rfl, rfl, SqT.of W.at_, at0, rfl, _, rfl, by rw [dec_str, su.1]; exact q⟩) (fun z => nomatch z) (fun _ => ?_)
    refine in2 (K := K) (bb := false) rfl W.at_ W.ab _ fun H1 s1 => iteF ?_
    refine ⟨_, rfl, a, _, 0, .str nm', rfl, rfl, SqT.of (s1 _ _ W.at_), at0, rfl, _, rfl, ?_⟩
    rw [dec_str, su.2]
    refine iteF ⟨_, rfl, 1, rfl, -1, rfl, sl_any (s1 _ _ W.at_) fun p1 H2 s2 e2 => ?_⟩
    rw [cut_last W.pl] at e2
    have s12 := s1.trans s2
    refine ⟨_, rfl, _, rfl, 1, rfl, a, _, -1, u, rfl, rfl, SqT.of (s12 _ _ W.at_), last_at W.pl, pa, u, _, i, d, rfl, ⟨pv0, s12 _ _ epv, paired_imp pp fun _ _ => SAt.keep (Same.tupK s12) _ _ _⟩, SAt.keep (Same.tupK s12) _ _ _ W.kid, W.ok, by omega, fun v' H3 s3 hv' => ⟨(by show 1 ≤ sizeLine; decide), fun t1 ht1 => cat_any (Same.new ht1 _ _ (s3 _ _ e2)) upd_same ?_ fun p2 H4 s4 e4 => ?_⟩⟩
    · have := W.pl
      show pre.length + 1 + 1 ≤ 1000
      omega
    have e4 : H4 p2 = some (.tup (.str nm' :: (pre ++ [v']))) := e4
    have s34 : Same H3 H4 := (Same.new (o := .tup [v']) ht1).trans s4
    have hv4 := SAt.keep (Same.tupK s34) _ _ _ hv'
    refine q (.ref p2) H4 ((s12.trans s3).trans s34) ?_
    rcases hkind with ⟨rfl, n, rfl, rfl⟩ | ⟨rfl, rfl, rfl⟩ | ⟨rfl, rfl, rfl⟩ | ⟨rfl, x, rfl, rfl⟩ | ⟨rfl, x, rfl, rfl⟩ | ⟨rfl, x, p, rfl, rfl⟩
    · exact ⟨p2, v', rfl, e4, hv4⟩
    · exact ⟨p2, v', rfl, e4, hv4⟩
    · exact ⟨p2, v', rfl, e4, hv4⟩
    · exact ⟨p2, v', rfl, e4, hv4⟩
    · exact ⟨p2, v', rfl, e4, hv4⟩
    · exact ⟨p2, v', rfl, e4, hv4⟩
theorem ok_plain {ps : List Sch} (hp : ∀ (j : Nat) (s : Sch), ps[j]? = some s → OkS j ps.length 5 s) (D : Def K mg "_law_plain" s_L_plain psPl) (mt : mg "tuple" = none) : ∀ k : Nat, FnOk P w K mg base CX0 k D.f D.fd psPl (spPlain ps ps.length k)
  | 0 => by
    have e : spPlain ps ps.length 0 = fun _ _ _ _ => False := by
      funext vs H Q E
      refine propext ⟨fun h => ?_, fun h => h.elim⟩
      obtain ⟨pa, v, s, i, d, _, _, _, ho, hk, _⟩ := h
      have : d = 0 := by omega
      subst this
      cases ho
    rw [e]
    exact no_sp
  | k + 1 => plain_turn rfl hp D mt (ok_plain hp D mt k)
end
end MS
end
section
set_option maxRecDepth 100000
set_option maxHeartbeats 4000000
namespace MS
open PySem L2
/-! ### _law_deep -/
def dpI : Nat → Sch → Int
  | 0, _ => 0
  | k + 1, s => 1 + ((kidsOf s).map (dpI k)).foldl max 0
theorem fold_max : ∀ (l : List Int) (a : Int), a ≤ l.foldl max a ∧ (∀ y ∈ l, y ≤ l.foldl max a) ∧ (l.foldl max a = a ∨ l.foldl max a ∈ l)
  | [], a => ⟨Int.le_refl _, (fun _ h => nomatch h), .inl rfl⟩
  | x :: r, a => by
    obtain ⟨h1, h2, h3⟩ := fold_max r (max a x)
    show a ≤ r.foldl max (max a x) ∧ (∀ y ∈ x :: r, y ≤ r.foldl max (max a x)) ∧ (r.foldl max (max a x) = a ∨ r.foldl max (max a x) ∈ x :: r)
    refine ⟨by omega, fun y hy => ?_, ?_⟩
    · rcases List.mem_cons.mp hy with rfl | hy
      · omega
      · exact h2 y hy
    · rcases h3 with h3 | h3
      · rw [h3]
        by_cases e : a ≤ x
        · exact .inr (by rw [show max a x = x by omega]; exact List.mem_cons_self)
        · exact .inl (by omega)
      · exact .inr (List.mem_cons_of_mem _ h3)
theorem max_is {l : List Int} {m : Int} (h1 : m ∈ 0 :: l) (h2 : ∀ y ∈ 0 :: l, y ≤ m) : m = l.foldl max 0 := by
  obtain ⟨f1, f2, f3⟩ := fold_max l 0
  have a : m ≤ l.foldl max 0 := by
    rcases List.mem_cons.mp h1 with rfl | h1
    · exact f1
    · exact f2 m h1
  have b : l.foldl max 0 ≤ m := by
    rcases f3 with f3 | f3
    · rw [f3]; exact h2 0 List.mem_cons_self
    · exact h2 _ (List.mem_cons_of_mem _ f3)
  omega
theorem dp_kid {k : Nat} {s t : Sch} {n : Int} (h : dpI (k + 1) s ≤ n) (ht : t ∈ kidsOf s) : dpI k t ≤ n - 1 := by
  have h : 1 + ((kidsOf s).map (dpI k)).foldl max 0 ≤ n := h
  have := (fold_max ((kidsOf s).map (dpI k)) 0).2.1 (dpI k t) (List.mem_map_of_mem ht)
  omega
theorem dp_one {k : Nat} {s : Sch} : 1 ≤ dpI (k + 1) s := by
  have := (fold_max ((kidsOf s).map (dpI k)) 0).1
  show 1 ≤ 1 + ((kidsOf s).map (dpI k)).foldl max 0
  omega
theorem dp_ok : ∀ (k n : Nat) (s : Sch), OkS 0 1 k s → dpI k s ≤ (n : Int) → OkS 0 1 n s
  | 0, _, _, o, _ => o.elim
  | k + 1, 0, s, _, h => absurd h (by have := dp_one (k := k) (s := s); omega)
  | k + 1, n + 1, .step x p, o, _ => o
  | k + 1, n + 1, .use m, o, _ => o
  | k + 1, n + 1, .all ks, o, h => ⟨o.1, o.2.1, fun s hs => dp_ok k n s (o.2.2 s hs) (by have := dp_kid h (t := s) hs; omega)⟩
  | k + 1, n + 1, .best ks, o, h => ⟨o.1, o.2.1, fun s hs => dp_ok k n s (o.2.2 s hs) (by have := dp_kid h (t := s) hs; omega)⟩
  | k + 1, n + 1, .most m s, o, h => ⟨o.1, dp_ok k n s o.2 (by have := dp_kid h (t := s) List.mem_cons_self; omega)⟩
  | k + 1, n + 1, .half s, o, h => dp_ok k n s o (by have := dp_kid h (t := s) List.mem_cons_self; omega)
  | k + 1, n + 1, .seen x s, o, h => ⟨o.1, dp_ok k n s o.2 (by have := dp_kid h (t := s) List.mem_cons_self; omega)⟩
  | k + 1, n + 1, .behind x s, o, h => ⟨o.1, dp_ok k n s o.2 (by have := dp_kid h (t := s) List.mem_cons_self; omega)⟩
  | k + 1, n + 1, .carry s, o, h => dp_ok k n s o (by have := dp_kid h (t := s) List.mem_cons_self; omega)
  | k + 1, n + 1, .fin x p s, o, h => ⟨o.1, dp_ok k n s o.2 (by have := dp_kid h (t := s) List.mem_cons_self; omega)⟩
theorem paired_impB {α β : Type} {R R' : α → β → Prop} : ∀ {xs : List α} {ys : List β}, Paired R xs ys → (∀ x ∈ xs, ∀ y, R x y → R' x y) → Paired R' xs ys
  | _, _, .nil, _ => .nil
  | _, _, .cons h t, k => .cons (k _ List.mem_cons_self _ h) (paired_impB t fun x hx => k x (List.mem_cons_of_mem _ hx))
theorem dp_sat {H : Hp} : ∀ (k n : Nat) (s : Sch) (v : V), SAt H k s v → dpI k s ≤ (n : Int) → SAt H n s v
  | 0, _, _, _, o, _ => o.elim
  | k + 1, 0, s, _, _, h => absurd h (by have := dp_one (k := k) (s := s); omega)
  | k + 1, n + 1, .step x p, _, o, _ => o
  | k + 1, n + 1, .use m, _, o, _ => o
  | k + 1, n + 1, .all ks, _, ⟨a, b, vs, e, h1, h2, h3⟩, h => ⟨a, b, vs, e, h1, h2, paired_impB h3 fun s hs v z => dp_sat k n s v z (by have := dp_kid h (t := s) hs; omega)⟩
  | k + 1, n + 1, .best ks, _, ⟨a, b, vs, e, h1, h2, h3⟩, h => ⟨a, b, vs, e, h1, h2, paired_impB h3 fun s hs v z => dp_sat k n s v z (by have := dp_kid h (t := s) hs; omega)⟩
  | k + 1, n + 1, .most m s, _, ⟨a, u, e, h1, h2⟩, h => ⟨a, u, e, h1, dp_sat k n s u h2 (by have := dp_kid h (t := s) List.mem_cons_self; omega)⟩
  | k + 1, n + 1, .half s, _, ⟨a, u, e, h1, h2⟩, h => ⟨a, u, e, h1, dp_sat k n s u h2 (by have := dp_kid h (t := s) List.mem_cons_self; omega)⟩
  | k + 1, n + 1, .seen x s, _, ⟨a, u, e, h1, h2⟩, h => ⟨a, u, e, h1, dp_sat k n s u h2 (by have := dp_kid h (t := s) List.mem_cons_self; omega)⟩
  | k + 1, n + 1, .behind x s, _, ⟨a, u, e, h1, h2⟩, h => ⟨a, u, e, h1, dp_sat k n s u h2 (by have := dp_kid h (t := s) List.mem_cons_self; omega)⟩
  | k + 1, n + 1, .carry s, _, ⟨a, u, e, h1, h2⟩, h => ⟨a, u, e, h1, dp_sat k n s u h2 (by have := dp_kid h (t := s) List.mem_cons_self; omega)⟩
  | k + 1, n + 1, .fin x p s, _, ⟨a, u, e, h1, h2⟩, h => ⟨a, u, e, h1, dp_sat k n s u h2 (by have := dp_kid h (t := s) List.mem_cons_self; omega)⟩
abbrev s_L_deep : Stmt := topS 74
abbrev nmDe : List Str := ["_law_scheme_here", "_law_kids", "_law_some", "_law_kid", "_law_one"]
theorem sc_L_deep : FnScope nmDe ["_law_scheme_here"] (defScope s_L_deep) := ⟨rfl, rfl, rfl, by decide +kernel, rfl, by decide +kernel, by decide +kernel⟩
def spDeep (k : Nat) : Sp := fun vs H Q _ => ∃ (v : V) (s : Sch), vs = [v] ∧ SAt H k s v ∧ OkS 0 1 k s ∧ ∀ (t : Addr) (H' : Hp), Same H H' → H' t = some (.tup [.int (dpI k s), .int (sz k s)]) → Q (.ref t) H'
theorem in2v {K : PySem.W.Frag} {σ : L2.St} {H : Hp} {i : Nat} {a : Addr} {nm x y : Str} {rest : List V} {bb : Bool} (s1 : σ[i]? = some (some (.ref a))) (ea : H a = some (.tup (.str nm :: rest))) (eb : (nm == x || nm == y) = bb) :
    ∀ Q : Bool → Hp → Prop, (∀ H', Same H H' → Q bb H') → tTest (tOp (rIn K false) (tOp (rIxT K) (tVar i) (tC (.int 0))) (tTup (tCons (tC (.str x)) (tCons (tC (.str y)) tNil)))) σ H Q := fun Q q => by
  refine ⟨_, s1, a, _, 0, .str nm, rfl, rfl, SqT.of ea, at0, sz2, fun t1 h1 => ⟨t1, _, rfl, .inr (SqT.of upd_same), rfl, rfl, _, rfl, ?_⟩⟩
  have e : inV (.str nm) [.str x, .str y] = (nm == x || nm == y) := by
    show (eqV (.str x) (.str nm) || (eqV (.str y) (.str nm) || false)) = _
    rw [Bool.or_false]
    have es : ∀ z : Str, eqV (.str z) (.str nm) = (z == nm) := fun z => rfl
    rw [es, es]
    have sw : ∀ z : Str, (z == nm) = (nm == z) := fun z => by
      by_cases h : z = nm
      · rw [h]
      · rw [beq_false_of_ne h, beq_false_of_ne (fun e => h e.symm)]
    rw [sw, sw]
  show Q (inV (.str nm) [.str x, .str y]) _
  rw [e, eb]
  exact q _ (Same.new h1)
/-- what deep tells, as it stands -/
def DeAt (H : Hp) (k : Nat) (s : Sch) (v : V) : Prop := ∃ t, v = V.ref t ∧ H t = some (.tup [.int (dpI k s), .int (sz k s)])
theorem ite_bool {b : Bool} {p q : Prop} (h : if b = true then p else q) : if b = true then p else q := h
section
variable {P : Program} {w : World} {K : PySem.W.Frag} {mg : Str → Option Value} {base : Heap}
theorem deep_turn {k : Nat} (T : PTx w K mg) (D : Def K mg "_law_deep" s_L_deep ["_law_scheme_here"]) (G : FnOk P w K mg base CX0 k D.f D.fd ["_law_scheme_here"] (spDeep k)) : FnOk P w K mg base CX0 (k + 1) D.f D.fd ["_law_scheme_here"] (spDeep (k + 1)) := by
  have mli : mg "list" = none := T.free "list" (by decide +kernel)
  have mma : mg "max" = none := T.free "max" (by decide +kernel)
  have msu : mg "sum" = none := T.free "sum" (by decide +kernel)
  have nd := sc_L_deep.nd
  refine D.ok sc_L_deep (fun vs H Q E h => ?_) (fun cdv A outer s H vs Q E hr h => ?_)
  · obtain ⟨v, s, rfl, _⟩ := h
    rfl
  obtain ⟨v, sc, rfl, hs, ho, q⟩ := h
  refine ⟨_, pss_cons (ps_set (i := 1) nd rfl (Or.inl rfl) (pe_ifExp (pt_cmpR (r := rIn K false) op_in_seq (pe_ix (r := rIxT K) ix_tup (pv 0) pe_int (fun _ _ => rfl)) (pe_tup (pa_cons pe_str (pa_cons pe_str pa_nil))) (by rfl)) (pe_callTy call_list_of rfl mli (by decide +kernel) (pa_cons (pe_ix (r := rIxT K) ix_tup (pv 0) pe_int (fun _ _ => rfl)) pa_nil))
        (pe_ifExp (pt_cmpR (r := rIn K false) op_in_seq (pe_ix (r := rIxT K) ix_tup (pv 0) pe_int (fun _ _ => rfl)) (pe_tup (pa_cons pe_str (pa_cons pe_str pa_nil))) (by rfl)) (pe_lst pa_nil) (pe_lst (pa_cons (pe_ix (r := rIxT K) ix_tup (pv 0) (pe_un un_neg pe_int) (fun _ _ => rfl)) pa_nil)))))
    (pss_cons (ps_setLc (i := 2) (own := [("_law_kid", 3)]) (g := gName 3) (tt := tYes) rfl nd rfl rfl (sw_true rfl rfl rfl (by decide +kernel)) (pi_list (pv 1)) (blkOk_by (N := nmDe) (sc := defScope s_L_deep) (by decide +kernel)) (fun _ _ _ _ _ => pg_name (i := 3) nd rfl (Or.inl rfl)) (fun _ _ _ _ _ => pts_nil)
        (fun _ _ _ _ _ => pcall D G hr (pa_cons (pv 3) pa_nil)))
    (pss_one (ps_ret (pe_tup (pa_cons (pe_op op_add pe_int (pe_callB (cr_max rfl) rfl mma (by decide +kernel) (pa_cons (pe_op op_cat (pe_lst (pa_cons pe_int pa_nil)) (pe_lc (own := [("_law_one", 4)]) (g := gName 4) (tt := tYes) rfl nd (pi_list (pv 2)) (blkOk_by (N := nmDe) (sc := defScope s_L_deep) (by decide +kernel)) (fun _ _ _ _ _ => pg_name (i := 4) nd rfl (Or.inl rfl)) (fun _ _ _ _ _ => pts_nil) (fun _ _ _ _ _ => pe_ix (r := rIxT K) ix_tup (pv 4) pe_int (fun _ _ => rfl)))) pa_nil)))
      (pa_cons (pe_op op_add pe_int (pe_callB (cr_sum rfl) rfl msu (by decide +kernel) (pa_cons (pe_lc (own := [("_law_one", 4)]) (g := gName 4) (tt := tYes) rfl nd (pi_list (pv 2)) (blkOk_by (N := nmDe) (sc := defScope s_L_deep) (by decide +kernel)) (fun _ _ _ _ _ => pg_name (i := 4) nd rfl (Or.inl rfl)) (fun _ _ _ _ _ => pts_nil) (fun _ _ _ _ _ => pe_ix (r := rIxT K) ix_tup (pv 4) pe_int (fun _ _ => rfl))) pa_nil))) pa_nil)))))), ?_⟩
  obtain ⟨a, nm, rest, rfl, ea⟩ := hs.tag
  have kok : ∀ t ∈ kidsOf sc, OkS 0 1 k t := fun t ht => by
    cases sc with
    | step x p => cases ht
    | use n => cases ht
    | all ks => exact ho.2.2 t ht
    | best ks => exact ho.2.2 t ht
    | most n s => rw [List.mem_singleton.mp ht]; exact ho.2
    | half s => rw [List.mem_singleton.mp ht]; exact ho
    | seen x s => rw [List.mem_singleton.mp ht]; exact ho.2
    | behind x s => rw [List.mem_singleton.mp ht]; exact ho.2
    | carry s => rw [List.mem_singleton.mp ht]; exact ho
    | fin x p s => rw [List.mem_singleton.mp ht]; exact ho.2
  have kl4 : (kidsOf sc).length ≤ 4 := by
    cases sc with
    | all ks => exact ho.2.1
    | best ks => exact ho.2.1
    | _ => first | exact Nat.zero_le _ | exact Nat.le_of_ble_eq_true rfl
  refine asgO ?_
  refine (show ∀ Q : VK, (∀ (kl : Addr) (kv : List V) (H1 : Hp), Same H H1 → H1 kl = some (.lst kv) → Paired (SAt H1 k) (kidsOf sc) kv → Q (.ref kl) H1) → _ from ?kids) _ (fun kl kv H1 s1 ekl pk => ?rest)
  case kids =>
    intro Q q
    rcases turned_view hs ho with ⟨x, p, rfl⟩ | ⟨n, rfl⟩ | ⟨ks, hks⟩ | ⟨a', nm', pre, u, s1, mk, ev, W, hkind⟩
    · obtain ⟨a2, e2, ea2⟩ := hs
      obtain rfl := V.ref.inj e2
      refine in2v (K := K) (bb := false) rfl ea2 (by decide +kernel) _ fun H1 s1 => iteF ?_
      refine in2v (K := K) (bb := true) rfl (s1 _ _ ea2) (by decide +kernel) _ fun H2 s2 => iteT ⟨Nat.zero_le _, fun l hl => q l [] _ ((s1.trans s2).trans (Same.new hl)) upd_same .nil⟩
    · have ho : 0 < n ∧ n < 1 := ho
      omega
    · obtain ⟨nm', gb, gv, hab, ea2, egb, pg⟩ : ∃ (nm' : Str) (gb : Addr) (gv : List V), (nm' == "all" || nm' == "best") = true ∧ H a = some (.tup [.str nm', .ref gb]) ∧ H gb = some (.tup gv) ∧ Paired (SAt H k) (kidsOf sc) gv := by
        rcases hks with rfl | rfl
        · obtain ⟨a2, gb, gv, e2, ea2, egb, pg⟩ := hs
          obtain rfl := V.ref.inj e2
          exact ⟨"all", gb, gv, by decide +kernel, ea2, egb, pg⟩
        · obtain ⟨a2, gb, gv, e2, ea2, egb, pg⟩ := hs
          obtain rfl := V.ref.inj e2
          exact ⟨"best", gb, gv, by decide +kernel, ea2, egb, pg⟩
      refine in2v (K := K) (bb := true) rfl ea2 hab _ fun H1 s1 => iteT ?_
      refine ⟨_, rfl, a, _, 1, .ref gb, rfl, rfl, SqT.of (s1 _ _ ea2), at1, gb, gv, rfl, .inr (SqT.of (s1 _ _ egb)), fun l hl => q l gv _ (s1.trans (Same.new hl)) upd_same (paired_imp pg fun _ _ => SAt.keep (Same.tupK (s1.trans (Same.new hl))) _ _ _)⟩
    · obtain rfl := V.ref.inj ev
      have ek : kidsOf sc = [s1] := by
        rcases hkind with ⟨_, n, _, rfl⟩ | ⟨_, _, rfl⟩ | ⟨_, _, rfl⟩ | ⟨_, x, _, rfl⟩ | ⟨_, x, _, rfl⟩ | ⟨_, x, p, _, rfl⟩ <;> rfl
      refine in2v (K := K) (bb := false) rfl W.at_ W.ab _ fun H1 s1' => iteF ?_
      refine in2v (K := K) (bb := false) rfl (s1' _ _ W.at_) W.su _ fun H2 s2 => iteF ?_
      have s12 := s1'.trans s2
      refine ⟨_, rfl, 1, rfl, a, _, -1, u, rfl, rfl, SqT.of (s12 _ _ W.at_), last_at W.pl, (by show 1 ≤ sizeLine; decide), fun l hl => q l [u] _ (s12.trans (Same.new hl)) upd_same ?_⟩
      rw [ek]
      exact .cons (SAt.keep (Same.tupK (s12.trans (Same.new hl))) _ _ _ W.kid) .nil
  case rest =>
    have lk := Paired.length pk
    try dsimp only [gName]
    refine ⟨_, rfl, kl, rfl, ⟨_, SqL.of ekl⟩, fun D1 hD1 => ?_⟩
    refine lc_list (K := K) (a := kl) (xs := kv) (fun j H' => Same H1 H' ∧ ∃ ys, H' D1 = some (.lst ys) ∧ Paired (DeAt H' k) ((kidsOf sc).take j) ys) ⟨Same.new hD1, [], upd_same, .nil⟩ (fun j H' _ ⟨s, _⟩ => SqL.of (s _ _ ekl)) ?_ ?_
    · rintro j x H2 hj ⟨s2, ys, eD, py⟩
      obtain ⟨t, et, hst⟩ := paired_get' pk hj
      have lys := Paired.length py
      rw [List.length_take] at lys
      refine ⟨rfl, _, rfl, x, t, rfl, SAt.keep (Same.tupK s2) _ _ _ hst, kok t (List.mem_of_getElem? et), fun p H3 s3 ep => ?_⟩
      have eD3 := s3 _ _ eD
      have tP : TupK H3 (upd H3 D1 (.lst (ys ++ [.ref p]))) := TupK.put eD3
      refine ⟨ys, eD3, szN (by omega), Same.newer (s2.trans s3) hD1, ys ++ [.ref p], upd_same, ?_⟩
      rw [List.take_succ, et]
      exact paired_app (paired_imp py fun _ _ ⟨t, e, h⟩ => ⟨t, e, tP _ _ (s3 _ _ h)⟩) (.cons ⟨p, rfl, tP _ _ ep⟩ .nil)
    rintro H2 ⟨s2, ys, eD, py⟩
    rw [← lk, List.take_length] at py
    have ly := Paired.length py
    dsimp only [gName]
    refine ⟨(by show 1 ≤ sizeLine; decide), fun z0 hz0 => ⟨_, rfl, D1, rfl, ⟨_, SqL.of (Same.new hz0 _ _ eD)⟩, fun D2 hD2 => ?_⟩⟩
    have s3 : Same H2 (upd H2 z0 (.lst [.int 0])) := Same.new hz0
    have ez0 : upd H2 z0 (.lst [.int 0]) z0 = some (.lst [.int 0]) := upd_same
    generalize upd H2 z0 (.lst [.int 0]) = H3 at *
    have eD3 := s3 _ _ eD
    refine lc_list (K := K) (a := D1) (xs := ys) (fun j H' => Same H3 H' ∧ H' D2 = some (.lst ((((kidsOf sc).take j).map (dpI k)).map V.int))) ⟨Same.new hD2, upd_same⟩ (fun j H' _ ⟨s, _⟩ => SqL.of (s _ _ eD3)) ?_ ?_
    · rintro j x H4 hj ⟨s4, eD4⟩
      obtain ⟨t, et, ⟨p, rfl, ep⟩⟩ := paired_get' py hj
      refine ⟨rfl, _, rfl, p, _, 0, .int (dpI k t), rfl, rfl, SqT.of ((s3.trans s4) _ _ ep), at0, _, eD4, szN (by rw [List.length_map, List.length_map, List.length_take]; omega), Same.newer s4 hD2, ?_⟩
      rw [upd_same, List.take_succ, et, List.map_append, List.map_append]
      rfl
    rintro H4 ⟨s4, eD4⟩
    rw [← ly, List.take_length] at eD4
    refine ⟨z0, D2, _, _, rfl, rfl, s4 _ _ ez0, eD4, szN (by rw [List.length_map, List.length_map]; show 1 + _ ≤ _; omega), fun z1 hz1 => ?_⟩
    have s5 : Same H4 (upd H4 z1 (.lst ([V.int 0] ++ ((kidsOf sc).map (dpI k)).map V.int))) := Same.new hz1
    have ez1 : upd H4 z1 (.lst ([V.int 0] ++ ((kidsOf sc).map (dpI k)).map V.int)) z1 = some (.lst ((0 :: (kidsOf sc).map (dpI k)).map V.int)) := upd_same
    generalize upd H4 z1 (.lst ([V.int 0] ++ ((kidsOf sc).map (dpI k)).map V.int)) = H5 at *
    refine ⟨z1, 0 :: (kidsOf sc).map (dpI k), rfl, SqL.of ez1, Nat.zero_lt_succ _, fun m hm1 hm2 => ⟨1, m, rfl, rfl, ?_⟩⟩
    have em := max_is hm1 hm2
    have s35 := (s3.trans s4).trans s5
    refine ⟨_, rfl, D1, rfl, ⟨_, SqL.of (s35 _ _ eD)⟩, fun D3 hD3 => ?_⟩
    refine lc_list (K := K) (a := D1) (xs := ys) (fun j H' => Same H5 H' ∧ H' D3 = some (.lst ((((kidsOf sc).take j).map (sz k)).map V.int))) ⟨Same.new hD3, upd_same⟩ (fun j H' _ ⟨s, _⟩ => SqL.of (s _ _ (s35 _ _ eD))) ?_ ?_
    · rintro j x H6 hj ⟨s6, eD6⟩
      obtain ⟨t, et, ⟨p, rfl, ep⟩⟩ := paired_get' py hj
      refine ⟨rfl, _, rfl, p, _, 1, .int (sz k t), rfl, rfl, SqT.of ((s35.trans s6) _ _ ep), at1, _, eD6, szN (by rw [List.length_map, List.length_map, List.length_take]; omega), Same.newer s6 hD3, ?_⟩
      rw [upd_same, List.take_succ, et, List.map_append, List.map_append]
      rfl
    rintro H6 ⟨s6, eD6⟩
    rw [← ly, List.take_length] at eD6
    refine ⟨D3, (kidsOf sc).map (sz k), rfl, SqL.of eD6, 1, _, rfl, rfl, sz2, fun t ht => ?_⟩
    refine q t _ ((((s1.trans s2).trans s35).trans s6).trans (Same.new ht)) ?_
    rw [upd_same, sz_kids, em]
    rfl
theorem ok_deep (T : PTx w K mg) (D : Def K mg "_law_deep" s_L_deep ["_law_scheme_here"]) : ∀ k : Nat, FnOk P w K mg base CX0 k D.f D.fd ["_law_scheme_here"] (spDeep k)
  | 0 => by
    have e : spDeep 0 = fun _ _ _ _ => False := by
      funext vs H Q E
      refine propext ⟨fun h => ?_, fun h => h.elim⟩
      obtain ⟨v, s, _, h, _⟩ := h
      exact h
    rw [e]
    exact no_sp
  | k + 1 => deep_turn T D (ok_deep T D k)
end
end MS
end
section
set_option maxRecDepth 100000
set_option maxHeartbeats 4000000
/-! xs != [] for a list of anything -/
namespace XLs
open PySem PySem.Spec PyProof.Rows L2
def rNeE (K : PySem.W.Frag) : R2 := fun x y H Q => ∃ a b xs, x = .ref a ∧ y = .ref b ∧ SqL K H a xs ∧ SqL K H b [] ∧ Q (.bl (!xs.isEmpty)) H
section
variable {X : Cx}
theorem op_neE (hu : X.A.units < cLine) : OpR X (compareOp .NotEq) (rNeE X.K) := by
  intro pins s σ H x y v u Q I rx ry h
  obtain ⟨a, b, xs, rfl, rfl, ha, hb, q⟩ := h
  obtain rfl : v = Value.ref a := rx
  obtain rfl : u = Value.ref b := ry
  obtain ⟨its, r, pl, hz⟩ := I.list ha
  obtain ⟨its2, r2, pl2, hz2⟩ := I.list hb
  have l1 := r.length
  cases r2
  cases xs with
  | nil =>
    cases r
    have := PySem.SeqAt.RcNeAt.lists (A := X.A) (s := s) pl.isList pl2.isList rfl hu (e := fun _ => true) (fun j j1 j2 => by simp at j1)
    exact this X.prog X.w _ _ ⟨.bl false, H, I, rfl, q⟩
  | cons x xs =>
    refine PySem.SeqAt.RcNeAt.lists_lengths (A := X.A) (s := s) pl.isList pl2.isList ?_ hu X.prog X.w _ _ ⟨.bl true, H, I, rfl, q⟩
    cases its with
    | nil => cases r
    | cons y ys => simp
end
end XLs
end
section
set_option maxRecDepth 100000
set_option maxHeartbeats 4000000
namespace MS
open PySem L2
/-! ### what rows hold (pure) -/
theorem mem_allW {α : Type} {f : Sch → Nat → List α} {r : α} : ∀ (ks : List Sch) (j : Nat), r ∈ allU f ks j → ∃ s ∈ ks, ∃ j', r ∈ f s j'
  | [], _, h => by cases h
  | s :: t, j, h => by
    have h : r ∈ f s j ++ allU f t (j + 1) := h
    rcases List.mem_append.mp h with h | h
    · exact ⟨s, List.mem_cons_self, j, h⟩
    · obtain ⟨s', h1, j', h2⟩ := mem_allW t (j + 1) h
      exact ⟨s', List.mem_cons_of_mem _ h1, j', h2⟩
theorem mem_bestW {f : Sch → Nat → List Row} {r : Row} : ∀ (ks : List Sch) (j : Nat) (acc : List Row), r ∈ bestR f ks j acc → r ∈ acc ∨ ∃ s ∈ ks, ∃ j', r ∈ f s j'
  | [], _, _, h => .inl h
  | s :: t, j, acc, h => by
    rcases mem_bestW t (j + 1) _ (show r ∈ bestR f t (j + 1) (if pts acc < pts (f s j) then f s j else acc) from h) with h | ⟨s', h1, j', h2⟩
    · split at h
      · exact .inr ⟨s, List.mem_cons_self, j, h⟩
      · exact .inl h
    · exact .inr ⟨s', List.mem_cons_of_mem _ h1, j', h2⟩
theorem first_nine : ∀ (rs : List Row) (n L : Nat), (∀ r ∈ rs, r.1 < L ∧ 1 ≤ r.2.1 ∧ r.2.1 ≤ 9) → ∀ r ∈ firstP rs n, r.1 < L ∧ 1 ≤ r.2.1 ∧ r.2.1 ≤ 9
  | [], _, _, _, _, h => by cases h
  | (i, m, w) :: t, n, L, hp, r, h => by
    unfold firstP at h
    by_cases hn : n = 0
    · rw [if_pos hn] at h
      cases h
    · rw [if_neg hn] at h
      have z := hp _ List.mem_cons_self
      rcases List.mem_cons.mp h with rfl | h
      · exact ⟨z.1, by have := z.2.1; show 1 ≤ min m n; have : 1 ≤ m := this; omega, by have := z.2.2; show min m n ≤ 9; have : m ≤ 9 := this; omega⟩
      · exact first_nine t _ L (fun r hr => hp r (List.mem_cons_of_mem _ hr)) r h
theorem rP_nine {ps : List Sch} {ws : List StepT} {M : Nat} (hp : ∀ (j : Nat) (s : Sch), ps[j]? = some s → OkS j M 5 s) : ∀ (k i d : Nat) (s : Sch) (st : Nat) (c : Bool) (wh : List Nat), OkS i M d s → ∀ r ∈ rP ps ws k s st c wh, r.1 < ws.length ∧ 1 ≤ r.2.1 ∧ r.2.1 ≤ 9
  | 0, _, _, _, _, _, _, _ => fun _ h => nomatch h
  | k + 1, i, 0, s, st, c, wh, o => o.elim
  | k + 1, i, d + 1, .step x p, st, c, wh, o => fun r h => by
    unfold rP at h
    have o : IsW x ∧ 1 ≤ p ∧ p ≤ 9 := o
    split at h
    · cases h
    · rename_i i' _ e
      rw [List.mem_singleton.mp h]
      exact ⟨(hits_in e).2, by show 1 ≤ p.toNat; omega, by show p.toNat ≤ 9; omega⟩
  | k + 1, i, d + 1, .behind x s, st, c, wh, o => fun r h => by
    unfold rP at h
    split at h
    · cases h
    · exact rP_nine hp k i d s _ c _ o.2 r h
  | k + 1, i, d + 1, .use n, st, c, wh, o => fun r h => by
    unfold rP at h
    split at h
    · cases h
    · rename_i s' e
      exact rP_nine hp k n 5 s' _ c _ (hp n s' e) r h
  | k + 1, i, d + 1, .all ks, st, c, wh, o => fun r h => by
    obtain ⟨s, hs, j, h⟩ := mem_allW (f := fun s j => rP ps ws k s st c (wh ++ [j])) ks 0 h
    exact rP_nine hp k i d s st c _ (o.2.2 s hs) r h
  | k + 1, i, d + 1, .best ks, st, c, wh, o => fun r h => by
    rcases mem_bestW (f := fun s j => rP ps ws k s st c (wh ++ [j])) ks 0 [] h with h | ⟨s, hs, j, h⟩
    · cases h
    · exact rP_nine hp k i d s st c _ (o.2.2 s hs) r h
  | k + 1, i, d + 1, .fin x p s, st, c, wh, o => fun r h => by
    unfold rP at h
    have o1 : IsW x ∧ 1 ≤ p ∧ p ≤ 9 := o.1
    split at h
    · rename_i e
      rw [List.mem_singleton.mp h]
      unfold lastOk at e
      rw [Bool.and_eq_true, decide_eq_true_eq] at e
      exact ⟨by show ws.length - 1 < ws.length; omega, by show 1 ≤ p.toNat; omega, by show p.toNat ≤ 9; omega⟩
    · exact rP_nine hp k i d s st c _ o.2 r h
  | k + 1, i, d + 1, .seen x s, st, c, wh, o => fun r h => by
    unfold rP at h
    split at h
    · exact rP_nine hp k i d s st c _ o.2 r h
    · cases h
  | k + 1, i, d + 1, .most n s, st, c, wh, o => fun r h => first_nine _ _ _ (rP_nine hp k i d s st c _ o.2) r h
  | k + 1, i, d + 1, .half s, st, c, wh, o => fun r h => first_nine _ _ _ (rP_nine hp k i d s st c _ o) r h
  | k + 1, i, d + 1, .carry s, st, c, wh, o => rP_nine hp k i d s st true _ o
theorem rAll_nine {ps : List Sch} (hP : PaperOk ps) (ws : List StepT) : ∀ r ∈ rAll ps ws, r.1 < ws.length ∧ 1 ≤ r.2.1 ∧ r.2.1 ≤ 9 := by
  obtain ⟨ce, hf, _, _⟩ := hP.facts
  have hp : ∀ (j : Nat) (s : Sch), ps[j]? = some s → OkS j ps.length 5 s := fun j s e => (hf j s e).1
  cases ps with
  | nil => exact fun _ h => nomatch h
  | cons s r => exact rP_nine hp 30 0 5 s 0 false [] (hp 0 s rfl)
/-! ### _law_is_alike -/
abbrev s_L_isalike : Stmt := topS 75
abbrev psIa : List Str := ["_law_box", "_law_one", "_law_other", "_law_letters_here"]
abbrev nmIa : List Str := ["_law_box", "_law_one", "_law_other", "_law_letters_here", "_law_turn", "_law_work_here", "_law_rows", "_law_row"]
theorem sc_L_isalike : FnScope nmIa psIa (defScope s_L_isalike) := ⟨rfl, rfl, rfl, by decide +kernel, rfl, by decide +kernel, by decide +kernel⟩
structure DIa (K : PySem.W.Frag) (mg : Str → Option Value) where
  DT : Def K mg "_law_take" s_L_take ["_law_box", "_law_many"]
  DSt : Def K mg "_law_step" s_L_step ["_law_box", "_law_letters_here", "_law_was_wrong"]
  DWk : Def K mg "_law_work" s_L_work ["_law_box", "_law_letters_here", "_law_most"]
  D : Def K mg "_law_is_alike" s_L_isalike psIa
abbrev PWW : Type := { x : PW // WorkOk x.1.2 }
def spMK : Sp := fun vs H Q E => ∃ x : PWW, spMarked1 x.1 vs H Q E
def spER : Sp := fun vs H Q E => ∃ x : PWW, spRowsBy1 x.1 vs H Q E
def spPA : Sp := fun vs H Q E => ∃ x : List Sch × List Sch, spParted x.1 x.2 vs H Q E
abbrev rLeI : R2 := rI0 fun i j => .bl (decide (i ≤ j))
abbrev rLtI : R2 := rI0 fun i j => .bl (decide (i < j))
abbrev rLenK (K : PySem.W.Frag) : List V → Hp → VK → Prop := fun xs H Q => ∃ p ys, xs = [V.ref p] ∧ (SqL K H p ys ∨ SqT K H p ys) ∧ Q (V.int ys.length) H
abbrev tNine (K : PySem.W.Frag) : TT := tOr (tNot (tTest (tChain rLeI rLeI (tC (.int 1)) (tOp (rIxT K) (tVar 7) (tC (.int 1))) (tC (.int 9))))) (tNot (tTest (tChain rLeI rLtI (tC (.int 0)) (tOp (rIxT K) (tVar 7) (tC (.int 0))) (tCB (rLenK K) (tCons (tVar 5) tNil)))))
def spIsAlike : Sp := fun vs H Q _ => ∃ (b l L : Addr) (F : List Str) (v u : V) (p q : List Sch), vs = [.ref b, v, u, .ref L] ∧ Box H b l ∧ L ≠ b ∧ L ≠ l ∧ H L = some (.lst (F.map V.str)) ∧ (∀ x ∈ F, IsW x) ∧ 0 < F.length ∧ F.length ≤ 8 ∧ PaperAt H p v ∧ PaperOk p ∧ PaperAt H q u ∧ PaperOk q ∧
  (∀ ws, pts (rAll p ws) = pts (rAll q ws)) ∧ ∀ H', Box H' b l → Keep [b, l] H H' → Q (.bl true) H'
section
variable {P : Program} {w : World} {K : PySem.W.Frag} {mg : Str → Option Value} {base : Heap} {C C2 : Addr}
theorem ok_isalike (T : PTx w K mg) (Y : VCls K mg C) (Y2 : TCls K mg C2) (ZP : DPt K mg) (DR : DRows K mg) (DC : DPaper K mg) (Z : DIa K mg) : FnOk P w K mg base CX0 97 Z.D.f Z.D.fd psIa spIsAlike := by
  have ml : mg "len" = none := T.free "len" (by decide +kernel)
  have mr : mg "range" = none := T.free "range" (by decide +kernel)
  have ma' : mg "any" = none := T.free "any" (by decide +kernel)
  have msu : mg "sum" = none := T.free "sum" (by decide +kernel)
  have GWk : FnOk P w K mg base CX0 3 Z.DWk.f Z.DWk.fd ["_law_box", "_law_letters_here", "_law_most"] spWorkM := ok_workM Z.DWk Z.DT Z.DSt ml mr ma'
  have GPt : FnOk P w K mg base CX0 96 ZP.D.f ZP.D.fd ["one", "other"] spPA := FnOk.ex fun x : List Sch × List Sch => ok_parted x.1 x.2 T Y Y2 ZP DR DC
  have GMk : FnOk P w K mg base CX0 96 DR.DM.f DR.DM.fd ["paper", "work"] spMK := FnOk.ex fun x : PWW => ok_marked_p x.1 x.2 T Y DR DC
  have GEr : FnOk P w K mg base CX0 95 DR.DN.f DR.DN.fd ["paper", "work"] spER := FnOk.ex fun x : PWW => ok_earned_p x.1 x.2 T Y DR DC
  have nd := sc_L_isalike.nd
  refine Z.D.ok sc_L_isalike (fun vs H Q E h => ?_) (fun cdv A outer s H vs Q E hr h => ?_)
  · obtain ⟨b, l, L, F, v, u, p, q, rfl, _⟩ := h
    rfl
  obtain ⟨b, l, L, F, v, u, p, qs, rfl, B, nb, nl, eL, w1, l0, l1, hp, hP, hq, hQ, heq, k⟩ := h
  have r3 : Room 3 _ := hr.mono (by decide)
  have r95 : Room 95 _ := hr.mono (by decide)
  refine ⟨_, pss_cons (ps_for PassesOwn.never rfl (pi_range1 rfl mr (pa_cons pe_int pa_nil)) (pg_name (i := 4) nd rfl (Or.inl rfl))
      (pss_cons (ps_set (i := 5) nd rfl (Or.inr rfl) (pcall Z.DWk GWk r3 (pa_cons (pv 0) (pa_cons (pv 3) (pa_cons pe_int pa_nil)))))
      (pss_cons (ps_set (i := 6) nd rfl (Or.inl rfl) (pcall DR.DN GEr r95 (pa_cons (pv 1) (pa_cons (pv 5) pa_nil))))
      (pss_cons (ps_if (PW.pt (pw_or (pt_cmpR op_ne (pcall DR.DM GMk hr (pa_cons (pv 1) (pa_cons (pv 5) pa_nil))) (pcall DR.DM GMk hr (pa_cons (pv 2) (pa_cons (pv 5) pa_nil))) (nomark _))
          (pw_or1 (pt_cmpR op_ne (pe_callB (cr_sum rfl) rfl msu (by decide +kernel) (pa_cons (pe_lc (own := [("_law_row", 7)]) (g := gName 7) (tt := tYes) rfl nd (pi_list (pv 6)) (blkOk_by (N := nmIa) (sc := defScope s_L_isalike) (by decide +kernel)) (fun _ _ _ _ _ => pg_name (i := 7) nd rfl (Or.inl rfl)) (fun _ _ _ _ _ => pts_nil) (fun _ _ _ _ _ => pe_ix (r := rIxT K) ix_tup (pv 7) pe_int (fun _ _ => rfl))) pa_nil)) (pcall DR.DM GMk hr (pa_cons (pv 1) (pa_cons (pv 5) pa_nil))) (nomark _))))) (pss_one (ps_ret pe_bl)) pss_nil)
      (pss_one (ps_if (pt_cmpR (XLs.op_neE hr.units0) (pe_lc (own := [("_law_row", 7)]) (g := gName 7) (tt := tNine K) (te := tVar 7) rfl nd (pi_list (pv 6)) (blkOk_by (N := nmIa) (sc := defScope s_L_isalike) (by decide +kernel)) (fun _ _ _ _ _ => pg_name (i := 7) nd rfl (Or.inl rfl))
          (fun _ _ _ _ _ => pts_one (PW.pt (pw_or (pt_not (pt_chain op_le op_le pe_int (pe_ix (r := rIxT K) ix_tup (pv 7) pe_int (fun _ _ => rfl)) pe_int)) (pw_or1 (pt_not (pt_chain op_le op_lt pe_int (pe_ix (r := rIxT K) ix_tup (pv 7) pe_int (fun _ _ => rfl)) (pe_callB call_len_seq rfl ml PySem.boot_len (pa_cons (pv 5) pa_nil)))))))) (fun _ _ _ _ _ => pv 7)) (pe_lst pa_nil) (nomark _)) (pss_one (ps_ret pe_bl)) pss_nil))))))
    (pss_one (ps_ret (pe_and (pe_cmpR op_isN (pcall ZP.D GPt hr (pa_cons (pv 1) (pa_cons (pv 2) pa_nil))) pe_non (nomark _)) (pe_one (pe_cmpR op_isN (pcall ZP.D GPt hr (pa_cons (pv 2) (pa_cons (pv 1) pa_nil))) pe_non (nomark _)))))), ?_⟩
  obtain ⟨pa, pv0, rfl, epv, pp⟩ := hp
  obtain ⟨qa, qv0, rfl, eqv, qq⟩ := hq
  have nL : L ∉ [b, l] := by simp [nb, nl]
  have pv_ : ∀ {H' : Hp}, BK b l H H' → H' pa = some (.tup pv0) ∧ Paired (SAt H' 5) p pv0 := fun k => ⟨k.tup B _ _ epv, paired_imp pp fun _ _ => SAt.keep (k.tup B) _ _ _⟩
  have qv_ : ∀ {H' : Hp}, BK b l H H' → H' qa = some (.tup qv0) ∧ Paired (SAt H' 5) qs qv0 := fun k => ⟨k.tup B _ _ eqv, paired_imp qq fun _ _ => SAt.keep (k.tup B) _ _ _⟩
  refine ⟨8, rfl, by decide, by decide, ?_⟩
  refine for_range (lo := 0) (n := 8) (fun i σ H' => ∃ w4 w5 w6 : Option V, σ = [some (.ref b), some (.ref pa), some (.ref qa), some (.ref L), w4, w5, w6, none] ∧ BK b l H H') ⟨none, none, none, rfl, BK.refl B⟩ ?_ ?_
  · rintro i σ H1 hi ⟨w4, w5, w6, rfl, K1⟩
    simp only [Int.zero_add]
    dsimp only [gName]
    refine ⟨_, rfl, _, rfl, 12, b, l, L, F, rfl, by decide, K1.1, nb, nl, K1.2 _ _ eL nL, w1, l0, l1, fun wa ws H2 hwa ewa hW h12 B2 k2 => ?_⟩
    have K2 := K1.trans ⟨B2, k2⟩
    dsimp only [gName]
    refine ⟨_, rfl, _, rfl, ⟨⟨(p, ws), hP, hW.steps⟩, hW⟩, pa, wa, rfl, ⟨⟨pv0, (pv_ K2).1, (pv_ K2).2⟩, ewa⟩, fun f rv H3 s3 hf ef pf => ?_⟩
    have pf : Paired (RowR H3) (rAll p ws) rv := pf
    have K3 := K2.same s3
    have ewa3 := s3 _ _ ewa
    have lrv := Paired.length pf
    have l63 : (rAll p ws).length ≤ 63 := rAll_len (⟨(p, ws), hP, hW.steps⟩ : PW)
    have h9 := rAll_nine hP ws
    dsimp only [gName]
    refine seq_new (b := false || false) (ev_or_new (b := false) (c := false) (fun Q q => ?_) (fun _ H4 s4 Q q => ?_)) (fun z => nomatch z) (fun _ H4 s4 => ?_)
    · refine ⟨_, rfl, _, rfl, ⟨⟨(p, ws), hP, hW.steps⟩, hW⟩, pa, wa, rfl, ⟨⟨pv0, (pv_ K3).1, (pv_ K3).2⟩, ewa3⟩, fun H4 s4 => ⟨_, rfl, _, rfl, ⟨⟨(qs, ws), hQ, hW.steps⟩, hW⟩, qa, wa, rfl, ⟨⟨qv0, (qv_ (K3.same s4)).1, (qv_ (K3.same s4)).2⟩, s4 _ _ ewa3⟩, fun H5 s5 => ⟨rfl, _, rfl, ?_⟩⟩⟩
      rw [show decide (V.int ((pts (rAll p ws) : Nat) : Int) = V.int ((pts (rAll qs ws) : Nat) : Int)) = true from decide_eq_true (by rw [heq ws])]
      exact q H5 (s4.trans s5)
    · have ef4 := s4 _ _ ef
      refine ⟨_, rfl, f, rfl, ⟨_, SqL.of ef4⟩, fun Dd hD => ?_⟩
      refine lc_list (K := K) (a := f) (xs := rv) (fun j H' => Same H4 H' ∧ H' Dd = some (.lst ((((rAll p ws).take j).map fun r : Row => ((r.2.1 : Nat) : Int)).map V.int))) ⟨Same.new hD, upd_same⟩ (fun j H' _ ⟨s, _⟩ => SqL.of (s _ _ ef4)) ?_ ?_
      · rintro j x H5 hj ⟨s5, eD⟩
        obtain ⟨r, er, ⟨ar, br, rfl, e1, e2⟩⟩ := paired_get' pf hj
        refine ⟨rfl, _, rfl, ar, _, 1, .int ((r.2.1 : Nat) : Int), rfl, rfl, SqT.of ((s4.trans s5) _ _ e1), at1, _, eD, szN (by rw [List.length_map, List.length_map, List.length_take]; omega), Same.newer s5 hD, ?_⟩
        rw [upd_same, List.take_succ, er, List.map_append, List.map_append]
        rfl
      rintro H5 ⟨s5, eD⟩
      rw [← lrv, List.take_length] at eD
      have K5 := (K3.same s4).same s5
      refine ⟨Dd, _, rfl, SqL.of eD, _, rfl, _, rfl, ⟨⟨(p, ws), hP, hW.steps⟩, hW⟩, pa, wa, rfl, ⟨⟨pv0, (pv_ K5).1, (pv_ K5).2⟩, (s4.trans s5) _ _ ewa3⟩, fun H6 s6 => ⟨rfl, _, rfl, ?_⟩⟩
      have es : ((rAll p ws).map fun r : Row => ((r.2.1 : Nat) : Int)).sum = ((pts (rAll p ws) : Nat) : Int) := by
        unfold pts
        generalize rAll p ws = rs
        induction rs with
        | nil => rfl
        | cons r t ih =>
          rw [List.map_cons, List.sum_cons, List.map_cons, List.sum_cons, ih]
          omega
      rw [es, decide_eq_true rfl]
      exact q H6 (s5.trans s6)
    have K4 := K3.same s4
    have ef4 := s4 _ _ ef
    have ewa4 := s4 _ _ ewa3
    refine one_new (u := tNext) (b := false) (fun Q q => ?_) (fun z => nomatch z) (fun _ H5 s5 => ⟨_, _, _, rfl, K4.same s5⟩)
    refine ⟨_, rfl, f, rfl, ⟨_, SqL.of ef4⟩, fun Dd hD => ?_⟩
    refine lc_list (K := K) (a := f) (xs := rv) (fun j H' => Same H4 H' ∧ H' Dd = some (.lst [])) ⟨Same.new hD, upd_same⟩ (fun j H' _ ⟨s, _⟩ => SqL.of (s _ _ ef4)) ?_ ?_
    · rintro j x H5 hj ⟨s5, eD⟩
      obtain ⟨r, er, ⟨ar, br, rfl, e1, e2⟩⟩ := paired_get' pf hj
      obtain ⟨g1, g2, g3⟩ := h9 r (List.mem_of_getElem? er)
      have e15 := (s4.trans s5) _ _ e1
      refine ⟨rfl, ?_⟩
      refine ev_or_new (b := false) (c := false) (fun Q q => ?_) (fun _ H6 s6 Q q => ?_) _ (fun H' s' => ?_)
      · refine ⟨_, rfl, ar, _, 1, .int ((r.2.1 : Nat) : Int), rfl, rfl, SqT.of e15, at1, _, _, rfl, rfl, _, rfl, ?_⟩
        rw [decide_eq_true (show (1 : Int) ≤ ((r.2.1 : Nat) : Int) by omega)]
        refine iteT ⟨_, _, rfl, rfl, _, rfl, ?_⟩
        rw [decide_eq_true (show ((r.2.1 : Nat) : Int) ≤ 9 by omega)]
        exact q H5 (Same.refl _)
      · refine ⟨_, rfl, ar, _, 0, .int ((r.1 : Nat) : Int), rfl, rfl, SqT.of (s6 _ _ e15), at0, _, _, rfl, rfl, _, rfl, ?_⟩
        rw [decide_eq_true (show (0 : Int) ≤ ((r.1 : Nat) : Int) by omega)]
        refine iteT ⟨_, rfl, wa, _, rfl, .inl (SqL.of ((s5.trans s6) _ _ ewa4)), _, _, rfl, rfl, _, rfl, ?_⟩
        rw [show (stepsV ws).length = ws.length from List.length_map _, decide_eq_true (show ((r.1 : Nat) : Int) < ((ws.length : Nat) : Int) by omega)]
        exact q H6 (Same.refl _)
      · exact iteF ⟨s5.trans s', s' _ _ eD⟩
    · rintro H5 ⟨s5, eD⟩
      refine ⟨Nat.zero_le _, fun e0 he0 => ⟨Dd, e0, [], rfl, rfl, SqL.of (Same.new he0 _ _ eD), SqL.of upd_same, _, rfl, q _ (s5.trans (Same.new he0))⟩⟩
  · rintro σ H1 ⟨w4, w5, w6, rfl, K1⟩
    have R1 : ∀ {o : Option (List StepT)}, PrtR p qs o → o = none := fun {o} r => by
      cases o with
      | none => rfl
      | some lw => exact absurd (heq lw) r.2.2.1
    have R2 : ∀ {o : Option (List StepT)}, PrtR qs p o → o = none := fun {o} r => by
      cases o with
      | none => rfl
      | some lw => exact absurd (heq lw).symm r.2.2.1
    refine ⟨_, rfl, _, rfl, (p, qs), pa, qa, pv0, qv0, rfl, (pv_ K1).1, (pv_ K1).2, hP, (qv_ K1).1, (qv_ K1).2, hQ, fun H2 s2 _ => ?_, fun f lw H2 s2 hf ef r => nomatch R1 r⟩
    have K2 := K1.same s2
    refine ⟨rfl, true, ?_, iteT ?_⟩
    · rw [decide_eq_true rfl]
    refine ⟨_, rfl, _, rfl, (qs, p), qa, pa, qv0, pv0, rfl, (qv_ K2).1, (qv_ K2).2, hQ, (pv_ K2).1, (pv_ K2).2, hP, fun H3 s3 _ => ?_, fun f lw H3 s3 hf ef r => nomatch R2 r⟩
    refine ⟨rfl, ?_⟩
    rw [decide_eq_true rfl]
    exact k H3 (K2.same s3).1 (K2.same s3).2
end
end MS
end
section
set_option maxRecDepth 100000
set_option maxHeartbeats 4000000
namespace MS
open PySem L2
/-! ### the law -/
abbrev s_law : Stmt := topS 76
abbrev nmLaw : List Str := ["_law_script", "_law_box", "_law_letters_here", "_law_turn", "_law_small", "_law_one", "_law_other", "_law_paper_here", "_law_whole", "_law_deep_here", "_law_many"]
theorem sc_law : FnScope nmLaw ["_law_script"] (defScope s_law) := ⟨rfl, rfl, rfl, by decide +kernel, rfl, by decide +kernel, by decide +kernel⟩
structure D4 (K : PySem.W.Frag) (mg : Str → Option Value) where
  DBg : Def K mg "_law_begun" s_L_begun ["_law_script"]
  DLe : Def K mg "_law_letters" s_L_letters ["_law_box"]
  DSc : Def K mg "_law_scheme" s_L_scheme psScheme
  DCo : Def K mg "_law_counted" s_L_counted psCounted
  DPa : Def K mg "_law_paper" s_L_paper ["_law_box", "_law_letters_here"]
  DWr : Def K mg "_law_wrapped" s_L_wrapped psWr
  DPl : Def K mg "_law_plain" s_L_plain psPl
  DDe : Def K mg "_law_deep" s_L_deep ["_law_scheme_here"]
  A : DIa K mg
def spLaw (K : PySem.W.Frag) : Sp := fun vs H Q _ => ∃ (a : Addr) (ns : List Int), vs = [.ref a] ∧ SqL K H a (ns.map V.int) ∧ ns.length ≤ 63 ∧ ∀ H', Q (.bl true) H'
abbrev POk : Type := { ps : List Sch // PaperOk ps }
def spPlA : Sp := fun vs H Q E => ∃ x : POk, spPlain x.1 x.1.length 30 vs H Q E
theorem seq_rel4 {R : Hp → Prop} {tc : TT} {t r : TS} {D : Ends} {σ : L2.St} {H : Hp} {b : Bool} (h : ∀ Q : Bool → Hp → Prop, (∀ H', R H' → Q b H') → tc σ H Q) (k1 : b = true → ∀ H', R H' → t { D with nx := r D } σ H') (k2 : b = false → ∀ H', R H' → r D σ H') : tSeq (tIfS tc t tNext) r D σ H := h _ fun H' s => by
  cases b with
  | true => exact iteT (k1 rfl H' s)
  | false => exact iteF (k2 rfl H' s)
theorem one_rel4 {R : Hp → Prop} {tc : TT} {t u : TS} {D : Ends} {σ : L2.St} {H : Hp} {b : Bool} (h : ∀ Q : Bool → Hp → Prop, (∀ H', R H' → Q b H') → tc σ H Q) (k1 : b = true → ∀ H', R H' → t D σ H') (k2 : b = false → ∀ H', R H' → u D σ H') : tIfS tc t u D σ H := h _ fun H' s => by
  cases b with
  | true => exact iteT (k1 rfl H' s)
  | false => exact iteF (k2 rfl H' s)
theorem ev_and_rel {R : Hp → Prop} {t u : TT} {σ : L2.St} {H : Hp} {b c : Bool} (h1 : ∀ Q : Bool → Hp → Prop, (∀ H', R H' → Q b H') → t σ H Q) (h2 : b = true → ∀ H', R H' → ∀ Q : Bool → Hp → Prop, (∀ H'', R H'' → Q c H'') → u σ H' Q) : ∀ Q : Bool → Hp → Prop, (∀ H', R H' → Q (b && c) H') → tAnd t u σ H Q := fun Q q => h1 _ fun H' s => by
  cases b with
  | true => exact iteT (h2 rfl H' s Q q)
  | false => exact iteF (q H' s)
section
variable {P : Program} {w : World} {K : PySem.W.Frag} {mg : Str → Option Value} {base : Heap} {C C2 : Addr}
theorem ok_law (T : PTx w K mg) (Y : VCls K mg C) (Y2 : TCls K mg C2) (ZP : DPt K mg) (DR : DRows K mg) (DC : DPaper K mg) (D : D4 K mg) (DW : Def K mg "law" s_law ["_law_script"]) : FnOk P w K mg base CX0 98 DW.f DW.fd ["_law_script"] (spLaw K) := by
  have ml : mg "len" = none := T.free "len" (by decide +kernel)
  have mli : mg "list" = none := T.free "list" (by decide +kernel)
  have mi : mg "int" = none := T.free "int" (by decide +kernel)
  have mr : mg "range" = none := T.free "range" (by decide +kernel)
  have mt : mg "tuple" = none := T.free "tuple" (by decide +kernel)
  have mis : mg "isinstance" = none := T.free "isinstance" (by decide +kernel)
  have GBg : FnOk P w K mg base CX0 1 D.DBg.f D.DBg.fd ["_law_script"] (spBegun K) := ok_begun D.DBg ml mli mi
  have GT : FnOk P w K mg base CX0 1 D.A.DT.f D.A.DT.fd ["_law_box", "_law_many"] spTake := ok_take D.A.DT
  have GLe : FnOk P w K mg base CX0 2 D.DLe.f D.DLe.fd ["_law_box"] spLetters := ok_letters D.DLe D.A.DT ml mli mr
  have GPa : FnOk P w K mg base CX0 7 D.DPa.f D.DPa.fd ["_law_box", "_law_letters_here"] spPaper := ok_paper D.DPa D.A.DT D.DSc D.DCo ml mr mt mi mis mli
  have GSc : FnOk P w K mg base CX0 4 D.DSc.f D.DSc.fd psScheme (spScheme 0 1 (fun _ => 0) (fun _ => 0) 2) := ok_scheme D.DSc D.A.DT ml mr mt 2
  have GWr : FnOk P w K mg base CX0 2 D.DWr.f D.DWr.fd psWr spWrapped := ok_wrapped T D.DWr D.A.DT
  have GPl : FnOk P w K mg base CX0 30 D.DPl.f D.DPl.fd psPl spPlA := fn_any fun x : POk => by
    obtain ⟨ce, hf, _, _⟩ := x.2.facts
    exact ok_plain (fun j s e => (hf j s e).1) D.DPl mt 30
  have GDe : FnOk P w K mg base CX0 30 D.DDe.f D.DDe.fd ["_law_scheme_here"] (spDeep 30) := ok_deep T D.DDe 30
  have GIa : FnOk P w K mg base CX0 97 D.A.D.f D.A.D.fd psIa spIsAlike := ok_isalike T Y Y2 ZP DR DC D.A
  have nd := sc_law.nd
  refine DW.ok sc_law (fun vs H Q E h => ?_) (fun cdv A outer s H vs Q E hr h => ?_)
  · obtain ⟨a, ns, rfl, _⟩ := h
    rfl
  obtain ⟨a, ns, rfl, hS, hlen, q⟩ := h
  have r1 : Room 1 _ := hr.mono (by decide)
  have r2 : Room 2 _ := hr.mono (by decide)
  have r4 : Room 4 _ := hr.mono (by decide)
  have r7 : Room 7 _ := hr.mono (by decide)
  have r30 : Room 30 _ := hr.mono (by decide)
  refine ⟨_, pss_cons (ps_set (i := 1) nd rfl (Or.inl rfl) (pcall D.DBg GBg r1 (pa_cons (pv 0) pa_nil)))
    (pss_cons (ps_set (i := 2) nd rfl (Or.inl rfl) (pcall D.DLe GLe r2 (pa_cons (pv 1) pa_nil)))
    (pss_cons (ps_for PassesOwn.never rfl (pi_range1 rfl mr (pa_cons pe_int pa_nil)) (pg_name (i := 3) nd rfl (Or.inl rfl))
      (pss_cons (ps_set (i := 4) nd rfl (Or.inl rfl) (pcall D.DSc GSc r4 (pa_cons (pv 1) (pa_cons (pv 2) (pa_cons (pe_lst (pa_cons (pe_ix (r := rIxL K) ix_list (pe_lst (pa_cons pe_int (pa_cons pe_int pa_nil))) (pcall D.A.DT GT r1 (pa_cons (pv 1) (pa_cons pe_int pa_nil))) (fun _ _ => rfl)) (pa_cons pe_int (pa_cons pe_int pa_nil)))) (pa_cons pe_int (pa_cons (pe_lst pa_nil) pa_nil)))))))
      (pss_cons (ps_asg (pcall D.DWr GWr r2 (pa_cons (pv 1) (pa_cons (pv 4) pa_nil))) (pg_tup (by rfl) (pgs_cons (pg_name (i := 5) nd rfl (Or.inl rfl)) (pgs_cons (pg_name (i := 6) nd rfl (Or.inl rfl)) pgs_nil))))
      (pss_cons (ps_if (pt_not (pt_val (pcall D.A.D GIa hr (pa_cons (pv 1) (pa_cons (pe_tup (pa_cons (pv 5) pa_nil)) (pa_cons (pe_tup (pa_cons (pv 6) pa_nil)) (pa_cons (pv 2) pa_nil))))))) (pss_one (ps_ret pe_bl)) pss_nil)
      (pss_cons (ps_set (i := 7) nd rfl (Or.inl rfl) (pcall D.DPa GPa r7 (pa_cons (pv 1) (pa_cons (pv 2) pa_nil))))
      (pss_cons (ps_set (i := 8) nd rfl (Or.inl rfl) (pcall D.DPl GPl r30 (pa_cons (pv 7) (pa_cons (pe_ix (r := rIxT K) ix_tup (pv 7) pe_int (fun _ _ => rfl)) pa_nil))))
      (pss_cons (ps_asg (pcall D.DDe GDe r30 (pa_cons (pv 8) pa_nil)) (pg_tup (by rfl) (pgs_cons (pg_name (i := 9) nd rfl (Or.inl rfl)) (pgs_cons (pg_name (i := 10) nd rfl (Or.inl rfl)) pgs_nil))))
      (pss_one (ps_if (PW.pt (pw_and (pt_cmpR op_lt (pv 9) pe_int (nomark _)) (pw_and (pt_cmpR op_lt (pv 10) pe_int (nomark _)) (pw_and1 (pt_not (pt_val (pcall D.A.D GIa hr (pa_cons (pv 1) (pa_cons (pv 7) (pa_cons (pe_tup (pa_cons (pv 8) pa_nil)) (pa_cons (pv 2) pa_nil))))))))))) (pss_one (ps_ret pe_bl)) pss_nil)))))))))
    (pss_one (ps_ret pe_bl)))), ?_⟩
  refine ⟨_, rfl, a, ns, rfl, hS, hlen, fun b l H1 hb hl B1 s1 => ?_⟩
  dsimp only [gName]
  refine ⟨_, rfl, b, l, rfl, B1, fun L F H2 hL eL w1 l0 l1 B2 k2 => ?_⟩
  have nL := B1.ne_new hL
  have nLi : L ∉ [b, l] := by simp [nL.1, nL.2]
  dsimp only [gName]
  refine ⟨3, rfl, by decide, by decide, ?_⟩
  refine for_range (lo := 0) (n := 3) (fun i σ H' => ∃ w3 w4 w5 w6 w7 w8 w9 w10 : Option V, σ = [some (.ref a), some (.ref b), some (.ref L), w3, w4, w5, w6, w7, w8, w9, w10] ∧ BK b l H2 H') ⟨none, none, none, none, none, none, none, none, rfl, BK.refl B2⟩ ?_ ?_
  · rintro i σ H3 hi ⟨w3, w4, w5, w6, w7, w8, w9, w10, rfl, K3⟩
    simp only [Int.zero_add]
    dsimp only [gName]
    -- a small scheme
    refine ⟨_, rfl, _, rfl, sz2, fun tq htq => ?_⟩
    have s4 : Same H3 (upd H3 tq (.lst [.int 1, .int 3])) := Same.new htq
    have etq : upd H3 tq (.lst [.int 1, .int 3]) tq = some (.lst [.int 1, .int 3]) := upd_same
    have ntq : tq ∉ [b, l] := K3.1.nin htq
    have K4 := K3.same s4
    generalize upd H3 tq (.lst [.int 1, .int 3]) = H4 at *
    refine ⟨_, rfl, b, l, 2, rfl, by decide, by decide, K4.1, fun r H5 r0' r1' B5 k5 => ?_⟩
    have K5 := K4.trans ⟨B5, k5⟩
    obtain ⟨x, ex, hx⟩ : ∃ x : Int, atI [V.int 1, V.int 3] r = some (.int x) ∧ (x = 1 ∨ x = 3) := by
      have : r = 0 ∨ r = 1 := by omega
      rcases this with rfl | rfl
      · exact ⟨1, rfl, .inl rfl⟩
      · exact ⟨3, rfl, .inr rfl⟩
    refine ⟨tq, _, r, .int x, rfl, rfl, SqL.of (k5 _ _ etq ntq), ex, (by show 3 ≤ sizeLine; decide), fun m hm => ⟨Nat.zero_le _, fun u hu => ?_⟩⟩
    have s6 : Same H5 (upd H5 m (.lst [.int x, .int 2, .int 1])) := Same.new hm
    have em : upd H5 m (.lst [.int x, .int 2, .int 1]) m = some (.lst [.int x, .int 2, .int 1]) := upd_same
    have nm := K5.1.ne_new hm
    generalize upd H5 m (.lst [.int x, .int 2, .int 1]) = H6 at *
    have s7 : Same H6 (upd H6 u (.lst [])) := Same.new hu
    have eu : upd H6 u (.lst []) u = some (.lst []) := upd_same
    have K6 := K5.same s6
    have nu := K6.1.ne_new hu
    have num : u ≠ m := fun z => by rw [z, em] at hu; cases hu
    have K7 := K6.same s7
    have em7 := s7 _ _ em
    have eL7 := K7.2 _ _ eL nLi
    have nLm : L ≠ m := fun z => by
      have e5 := K5.2 _ _ eL nLi
      rw [z, hm] at e5
      cases e5
    generalize upd H6 u (.lst []) = H7 at *
    refine ⟨b, l, L, m, u, F, x, 2, 1, rfl, ⟨K7.1, em7, eL7, w1, l0, l1, ⟨[], [], eu, by decide, (fun _ h => nomatch h), .nil⟩, ⟨nm.1, nm.2⟩, by simp [nL.1, nL.2, nLm], by simp [nu.1, nu.2, num]⟩, by omega, by decide, by decide, fun v s H8 x' y' z' hs ho hz he hw x0 y0 z0 em8 B8 k8 => ?_⟩
    have K8 : BK b l H2 H8 := K5.trans ⟨B8, Keep.drop (Same.keep (s6.trans s7)) k8 hm⟩
    have hz : sz 3 s = x - x' := hz
    have he : er (fun _ => 0) 3 s = 2 - y' := he
    have hw : wr (fun _ => 0) 3 s = 1 - z' := hw
    have sm : Small s := ⟨ho, by omega, by omega, by omega⟩
    dsimp only [gName]
    refine ⟨_, rfl, _, rfl, b, l, v, s, rfl, B8, hs, sm, fun t H9 tw B9 k9 => ?_⟩
    have K9 := K8.trans ⟨B9, k9⟩
    obtain ⟨tt, va, vb, sa, sb, rfl, ett, ha, hb', twn⟩ := tw
    refine ⟨tt, _, rfl, SqT.of ett, rfl, _, _, rfl, _, _, rfl, rfl, ?_⟩
    dsimp only [gName]
    refine seq_rel4 (R := fun H' => BK b l H9 H') (b := false) (fun Q q => ?_) (fun z => nomatch z) (fun _ HA KA => ?_)
    · refine ⟨_, rfl, _, rfl, (by show 1 ≤ sizeLine; decide), fun t1 ht1 => ⟨_, rfl, (by show 1 ≤ sizeLine; decide), fun t2 ht2 => ?_⟩⟩
      have sX : Same H9 (upd H9 t1 (.tup [va])) := Same.new ht1
      have et1 : upd H9 t1 (.tup [va]) t1 = some (.tup [va]) := upd_same
      generalize upd H9 t1 (.tup [va]) = HX at *
      have sY : Same HX (upd HX t2 (.tup [vb])) := Same.new ht2
      have et2 : upd HX t2 (.tup [vb]) t2 = some (.tup [vb]) := upd_same
      generalize upd HX t2 (.tup [vb]) = HY at *
      have s9Y := sX.trans sY
      exact ⟨_, rfl, b, l, L, F, .ref t1, .ref t2, [sa], [sb], rfl, B9.same s9Y, nL.1, nL.2, (K9.same s9Y).2 _ _ eL nLi, w1, l0, l1, ⟨t1, _, rfl, sY _ _ et1, .cons (SAt.keep (Same.tupK s9Y) _ _ _ ha) .nil⟩, twn.pa, ⟨t2, _, rfl, et2, .cons (SAt.keep (Same.tupK s9Y) _ _ _ hb') .nil⟩, twn.pb, twn.pts, fun HZ BZ kZ => ⟨_, rfl, q HZ (((BK.refl B9).same s9Y).trans ⟨BZ, kZ⟩)⟩⟩
    have K2A := K9.trans KA
    refine ⟨_, rfl, _, rfl, b, l, L, F, rfl, KA.1, nL.1, nL.2, K2A.2 _ _ eL nLi, w1, l0, l1, fun vp ps HB hp hP BB kB => ?_⟩
    have KB := K2A.trans ⟨BB, kB⟩
    obtain ⟨pa, pv0, rfl, epv, pp⟩ := id hp
    dsimp only [gName]
    obtain ⟨hP1, hP5, ce, cw, tl⟩ := id hP
    obtain ⟨s0, es0⟩ : ∃ s0, ps[0]? = some s0 := ⟨ps[0]'hP1, List.getElem?_eq_getElem hP1⟩
    obtain ⟨v0, ev0, hs0⟩ := paired_get2 pp es0
    have hpo : ∀ (j : Nat) (s : Sch), ps[j]? = some s → OkS j ps.length 5 s ∧ ce j = er ce 5 s := fun j s e => by
      obtain ⟨q1, q2, _⟩ := tl j s e
      rw [Nat.zero_add] at q1 q2
      exact ⟨q1, q2⟩
    have hpw : ∀ (j : Nat) (s : Sch), ps[j]? = some s → OkS j ps.length 5 s ∧ cw j = wr cw 5 s := fun j s e => by
      obtain ⟨q1, _, q3, _⟩ := tl j s e
      rw [Nat.zero_add] at q1 q3
      exact ⟨q1, q3⟩
    obtain ⟨t1, t2, t3, t4, t5, t6⟩ := tl 0 s0 es0
    have hfu : (ps.length - 0) * 5 + 5 ≤ 30 := by omega
    refine ⟨_, rfl, _, rfl, pa, pv0, 0, v0, rfl, rfl, SqT.of epv, atI_nat (j := 0) ev0, ⟨ps, hP⟩, pa, v0, s0, 0, 5, rfl, ⟨pv0, epv, pp⟩, hs0, (hpo 0 s0 es0).1, hfu, fun vw HC sC hvw => ?_⟩
    have ow := plain_ok rfl (fun j s e => (hpo j s e).1) 30 0 5 s0 (hpo 0 s0 es0).1 hfu
    have ew := plain_er rfl hpo 30 0 5 s0 (hpo 0 s0 es0).1 hfu
    have ww := plain_wr rfl hpw 30 0 5 s0 (hpo 0 s0 es0).1 hfu
    have pw : ∀ ws, ptk [] ws 30 (plainP ps 30 s0) 0 false = pts (rAll ps ws) := fun ws => by
      rw [plain_pt rfl (fun j s e => (hpo j s e).1) 30 0 5 s0 0 false (hpo 0 s0 es0).1 hfu]
      cases ps with
      | nil => cases es0
      | cons s' r =>
        cases es0
        exact (pts_ptk 30 _ 0 false []).symm
    generalize plainP ps 30 s0 = wh at *
    have KC := KB.same sC
    dsimp only [gName]
    refine ⟨_, rfl, vw, wh, rfl, hvw, ow, fun td HD sD etd => ?_⟩
    have KD := KC.same sD
    refine ⟨td, _, rfl, SqT.of etd, rfl, _, _, rfl, _, _, rfl, rfl, ?_⟩
    dsimp only [gName]
    refine one_rel4 (u := tNext) (R := fun H' => BK b l HD H') (b := decide (dpI 30 wh < 6) && (decide (sz 30 wh < 13) && false)) (ev_and_rel (fun Q q => ⟨_, rfl, _, _, rfl, rfl, _, rfl, q HD (BK.refl KD.1)⟩) (fun h6 HE KE => ev_and_rel (fun Q q => ⟨_, rfl, _, _, rfl, rfl, _, rfl, q HE KE⟩) (fun h13 HF KF Q q => ?_))) (fun z => by simp at z) (fun _ HE KE => ⟨_, _, _, _, _, _, _, _, rfl, KD.trans KE⟩)
    have h6 := of_decide_eq_true h6
    have h13 := of_decide_eq_true h13
    have o5 : OkS 0 1 5 wh := dp_ok 30 5 wh ow (by omega)
    have hv5 : SAt HC 5 wh vw := dp_sat 30 5 wh vw hvw (by show _ ≤ (5 : Int); omega)
    have hPw : PaperOk [wh] := one_paper o5 (by rw [sz_free 5 5 30 wh o5 (Nat.le_refl _) (by decide)]; omega) (by rw [er_free (c' := fun _ => 0) 5 5 30 wh o5 (Nat.le_refl _) (by decide), ew]; omega) (by rw [wr_free (c' := fun _ => 0) 5 5 30 wh o5 (Nat.le_refl _) (by decide), ww]; omega)
    have heq : ∀ ws, pts (rAll ps ws) = pts (rAll [wh] ws) := fun ws => by
      rw [← pw ws, pts_single ws o5 (by decide)]
      exact ptk_free 5 30 5 wh 0 false o5 (by decide) (Nat.le_refl _)
    refine ⟨_, rfl, _, rfl, _, rfl, (by show 1 ≤ sizeLine; decide), fun t1 ht1 => ?_⟩
    have KBF : BK b l HB HF := ((BK.refl BB).same (sC.trans sD)).trans KF
    have KCF : BK b l HC HF := ((BK.refl KC.1).same sD).trans KF
    have sX : Same HF (upd HF t1 (.tup [vw])) := Same.new ht1
    have et1 : upd HF t1 (.tup [vw]) t1 = some (.tup [vw]) := upd_same
    generalize upd HF t1 (.tup [vw]) = HX at *
    have KFX := KF.same sX
    refine ⟨_, rfl, b, l, L, F, .ref pa, .ref t1, ps, [wh], rfl, KFX.1, nL.1, nL.2, (KD.trans KFX).2 _ _ eL nLi, w1, l0, l1, hp.keep ((KBF.same sX).tup BB), hP, ⟨t1, _, rfl, et1, .cons (SAt.keep ((KCF.same sX).tup KC.1) _ _ _ hv5) .nil⟩, hPw, heq, fun HZ BZ kZ => ⟨_, rfl, q HZ (KFX.trans ⟨BZ, kZ⟩)⟩⟩
  · rintro σ H3 ⟨w3, w4, w5, w6, w7, w8, w9, w10, rfl, K3⟩
    exact q H3
end
end MS
end
section
set_option maxRecDepth 100000
set_option maxHeartbeats 4000000
namespace MS
open PySem L2
/-! ### the head: what the top has left -/
theorem tupAt_ok {K : PySem.W.Frag} {a : Addr} {vs : List V} (h : K3H.tupAt K a vs = true) (H : Hp) : SqT K H a vs := by
  unfold K3H.tupAt at h
  cases q : K.lookup a with
  | none =>
    rw [q] at h
    cases h
  | some o =>
    obtain ⟨oc, od, dt, osl⟩ := o
    rw [q] at h
    cases oc with
    | type c =>
      cases dt with
      | seq its n =>
        obtain ⟨g1, g2⟩ := He.ba (show (decide (c = "tuple") && (decide (its.size ≤ sizeLine) && He.relAll vs its.toList)) = true from h)
        obtain ⟨g3, g4⟩ := He.ba g2
        exact .inr ⟨_, its, n, q, congrArg Value.type (of_decide_eq_true g1), rfl, of_decide_eq_true g3, He.relAll_ok g4⟩
      | _ => cases h
    | _ => cases dt <;> cases h
theorem ent_ok {w : World} {K : PySem.W.Frag} {x k : Str} {vs : List V} (hd : ∃ es n, KDict K w (He.ga K x) es n) (h : K3H.entB x k vs K = true) : ∃ t, KDct K w (He.ga K x) k (.ref t) ∧ ∀ H, SqT K H t vs := by
  obtain ⟨h1, h2⟩ := He.ba h
  obtain ⟨es, n, l, kl, _⟩ := hd
  exact ⟨K3H.inD x k K, ⟨es, n, _, l, kl, He.eqO_ok h1, rfl⟩, fun H => tupAt_ok h2 H⟩
section
variable {w : World} {K : PySem.W.Frag} {h : Heap} {mg : Str → Option Value}
theorem fa_glo (c : He.SaysD K3H.fa K3H.fn K) {x : Str} (hx : x ∈ K3H.gloL) : (He.Fa.glo x).ok K = true := c.facts (List.mem_append_left _ (List.mem_map_of_mem hx))
theorem fa_free (c : He.SaysD K3H.fa K3H.fn K) {x : Str} (hx : x ∈ K3H.freeL) : (He.Fa.free x).ok K = true := c.facts (List.mem_append_right _ (List.mem_append_left _ (List.mem_map_of_mem hx)))
theorem fa_rest (c : He.SaysD K3H.fa K3H.fn K) (i : Nat) {f : He.Fa} (hi : K3H.restF[i]? = some f := by rfl) : f.ok K = true := c.facts (List.mem_append_right _ (List.mem_append_right _ (List.mem_append_left _ (List.mem_of_getElem? hi))))
theorem fa_meth (c : He.SaysD K3H.fa K3H.fn K) (i : Nat) {f : He.Fa} (hi : K3H.methF[i]? = some f := by rfl) : f.ok K = true := c.facts (List.mem_append_right _ (List.mem_append_right _ (List.mem_append_right _ (List.mem_of_getElem? hi))))
theorem fn_0 (c : He.SaysD K3H.fa K3H.fn K) (i : Nat) {d : He.DefD} (hi : K3H.fn0[i]? = some d := by rfl) : ∃ fd, FunD K d.name d.qual d.params d.body d.scope (d.dvs K) (d.kws K) (He.fAd K d.at_) fd := c.defs (List.mem_append_left _ (List.mem_of_getElem? hi))
theorem fn_1 (c : He.SaysD K3H.fa K3H.fn K) (i : Nat) {d : He.DefD} (hi : K3H.fn1[i]? = some d := by rfl) : ∃ fd, FunD K d.name d.qual d.params d.body d.scope (d.dvs K) (d.kws K) (He.fAd K d.at_) fd := c.defs (List.mem_append_right _ (List.mem_append_left _ (List.mem_of_getElem? hi)))
theorem fn_2 (c : He.SaysD K3H.fa K3H.fn K) (i : Nat) {d : He.DefD} (hi : K3H.fn2[i]? = some d := by rfl) : ∃ fd, FunD K d.name d.qual d.params d.body d.scope (d.dvs K) (d.kws K) (He.fAd K d.at_) fd := c.defs (List.mem_append_right _ (List.mem_append_right _ (List.mem_append_left _ (List.mem_of_getElem? hi))))
theorem fn_M (c : He.SaysD K3H.fa K3H.fn K) (i : Nat) {d : He.DefD} (hi : K3H.fnM[i]? = some d := by rfl) : ∃ fd, FunD K d.name d.qual d.params d.body d.scope (d.dvs K) (d.kws K) (He.fAd K d.at_) fd := c.defs (List.mem_append_right _ (List.mem_append_right _ (List.mem_append_right _ (List.mem_of_getElem? hi))))
noncomputable def mkDef (X : K.In h) (G : h.Ns mainGlobals mg) (x : Str) (st : Stmt) (ps : List Str) (hg : (He.Fa.glo x).ok K = true) (hd : ∃ fd, FnP K x st (He.ga K x) fd) (hb : ∀ fd, FnP K x st (He.ga K x) fd → Binds K fd ps []) : Def K mg x st ps :=
  ⟨He.ga K x, hd.choose, hd.choose_spec, He.glo_ok X G hg, hb _ hd.choose_spec⟩
noncomputable def mkDefM (C m q : Str) (st : Stmt) (ps : List Str) (hm : (He.Fa.meth C m).ok K = true) (hd : ∃ fd, FunD K m q (defArgs st) (defBody st) (defScope st) [] [] (He.ma K (He.ga K C) m) fd) (hb : ∀ fd, FunD K m q (defArgs st) (defBody st) (defScope st) [] [] (He.ma K (He.ga K C) m) fd → Binds K fd ps []) : DefM K (He.ga K C) m q st ps :=
  ⟨He.ma K (He.ga K C) m, hd.choose, hd.choose_spec, He.meth_ok hm, hb _ hd.choose_spec⟩
theorem ptx (X : K.In h) (G : h.Ns mainGlobals mg) (c : He.SaysT K3H.fa K3H.fn K3H.ts w K) (e : K3H.ex K = true) : PTx w K mg := by
  have d := c.d
  obtain ⟨e1, e⟩ := He.ba e
  obtain ⟨e2, e⟩ := He.ba e
  obtain ⟨e3, e⟩ := He.ba e
  obtain ⟨e4, e5⟩ := He.ba e
  have tS := c.tab 0 (t := (fun K => He.ga K "SHAPES", K3H.shapesV.map (·.1))) rfl
  have tB := c.tab 1 (t := (fun K => He.ga K "BOUNDS", K3H.boundsV.map (·.1))) rfl
  have bS : ∀ p ∈ K3H.boundsV, ∃ t, KDct K w (He.ga K "BOUNDS") p.1 (.ref t) ∧ ∀ H, SqT K H t p.2 := fun p hp => ent_ok tB (List.all_eq_true.mp e5 p hp)
  obtain ⟨t1, k1, q1⟩ := bS ("points", [.int 1, .int 9]) List.mem_cons_self
  obtain ⟨t2, k2, q2⟩ := bS ("limit", [.int 0, .int 30]) (List.mem_cons_of_mem _ List.mem_cons_self)
  have hSh : ∀ p ∈ shapesL, ∃ t, KDct K w (He.ga K "SHAPES") p.1 (.ref t) ∧ ∀ H, SqT K H t (p.2.map V.str) := fun p hp => by
    have hm : (p.1, p.2.map V.str) ∈ K3H.shapesV := by
      have hp' : (p.1, p.2.map V.str) ∈ shapesL.map fun p => (p.1, p.2.map V.str) := List.mem_map_of_mem (f := fun p : Str × List Str => (p.1, p.2.map V.str)) hp
      exact hp'
    exact ent_ok (x := "SHAPES") (k := p.1) (vs := p.2.map V.str) tS (List.all_eq_true.mp e4 _ hm)
  exact {
    words := ⟨_, He.glo_ok X G (fa_glo d (x := "WORDS") (by decide +kernel)), fun H => He.tupB_ok e1 H⟩
    right := He.str_ok X G (fa_rest d 0)
    wrong := He.str_ok X G (fa_rest d 1)
    carried := He.str_ok X G (fa_rest d 2)
    mostSteps := He.int_ok X G (fa_rest d 3)
    mostWithin := He.int_ok X G (fa_rest d 4)
    mostInPaper := He.int_ok X G (fa_rest d 5)
    mostInScheme := He.int_ok X G (fa_rest d 6)
    longest := He.int_ok X G (fa_rest d 7)
    mostE := He.int_ok X G (fa_rest d 8)
    mostW := He.int_ok X G (fa_rest d 9)
    earners := ⟨_, He.glo_ok X G (fa_glo d (x := "EARNERS") (by decide +kernel)), fun H => He.tupB_ok e2 H⟩
    watchers := ⟨_, He.glo_ok X G (fa_glo d (x := "WATCHERS") (by decide +kernel)), fun H => He.tupB_ok e3 H⟩
    shapes := ⟨_, He.glo_ok X G (fa_glo d (x := "SHAPES") (by decide +kernel)), by
      obtain ⟨_, _, _, _, z⟩ := tS
      exact z, hSh⟩
    bounds := ⟨_, He.glo_ok X G (fa_glo d (x := "BOUNDS") (by decide +kernel)), t1, t2, k1, q1, k2, q2⟩
    free := fun x hx => He.free_ok X G (fa_free d hx) }
end
end MS
end
section
set_option maxRecDepth 100000
set_option maxHeartbeats 4000000
namespace MS
open PySem L2
section
set_option maxHeartbeats 0
theorem facts {P : Program} {w : World} {K : PySem.W.Frag} {h : Heap} {mg : Str → Option Value} {f : Addr} (X : K.In h) (G : h.Ns mainGlobals mg) (hfa : mg ("law" : Str) = some (.ref f)) (c : He.SaysX K3H.fa K3H.fn K3H.ts [] K3H.ex w h K) :
    ∃ fd : FuncData, (∀ (s : Shared) (v : Value), BindsTo s fd ⟨[v], []⟩ [("_law_script", v)]) ∧ ∀ base : Heap, K.In base → base.Ns mainGlobals mg → FnOk P w K mg base CX0 98 f fd ["_law_script"] (spLaw K) := by
  have d := c.t.d
  have T := ptx X G c.t c.more
  let Y : VCls K mg (He.ga K "View") := {
    cl := He.cls_ok (fa_rest d 10)
    nSteps := He.noat_ok (fa_rest d 11)
    nStart := He.noat_ok (fa_rest d 12)
    nWays := He.noat_ok (fa_rest d 13)
    mgC := He.glo_ok X G (fa_glo d (x := "View") (by decide +kernel))
    makes := (He.mkr_ok (fa_rest d 14)).makes
    kp := (He.mkr_ok (fa_rest d 14)).kp
    DI := mkDefM "View" "__init__" "View.__init__" s_View_init ["self", "steps", "start", "ways"] (fa_meth d 0) (fn_M d 0 (d := K3H.dM "View" "__init__" "View.__init__" s_View_init)) fun fd F => F.bindsN fun _ _ _ _ _ _ us hl => match us, hl with | [_, _, _, _], _ => rfl
    DC := mkDefM "View" "counts" "View.counts" s_View_counts ["self", "place", "word"] (fa_meth d 1) (fn_M d 1 (d := K3H.dM "View" "counts" "View.counts" s_View_counts)) fun fd F => F.bindsN fun _ _ _ _ _ _ us hl => match us, hl with | [_, _, _], _ => rfl
    DF := mkDefM "View" "first" "View.first" s_View_first ["self", "word"] (fa_meth d 2) (fn_M d 2 (d := K3H.dM "View" "first" "View.first" s_View_first)) fun fd F => F.bindsN fun _ _ _ _ _ _ us hl => match us, hl with | [_, _], _ => rfl
    DL := mkDefM "View" "last" "View.last" s_View_last ["self", "word"] (fa_meth d 3) (fn_M d 3 (d := K3H.dM "View" "last" "View.last" s_View_last)) fun fd F => F.bindsN fun _ _ _ _ _ _ us hl => match us, hl with | [_, _], _ => rfl
    DS := mkDefM "View" "stands" "View.stands" s_View_stands ["self", "word"] (fa_meth d 4) (fn_M d 4 (d := K3H.dM "View" "stands" "View.stands" s_View_stands)) fun fd F => F.bindsN fun _ _ _ _ _ _ us hl => match us, hl with | [_, _], _ => rfl
    DB := mkDefM "View" "behind" "View.behind" s_View_behind ["self", "place"] (fa_meth d 5) (fn_M d 5 (d := K3H.dM "View" "behind" "View.behind" s_View_behind)) fun fd F => F.bindsN fun _ _ _ _ _ _ us hl => match us, hl with | [_, _], _ => rfl
    DY := mkDefM "View" "carrying" "View.carrying" s_View_carrying ["self"] (fa_meth d 6) (fn_M d 6 (d := K3H.dM "View" "carrying" "View.carrying" s_View_carrying)) fun fd F => F.bindsN fun _ _ _ _ _ _ us hl => match us, hl with | [_], _ => rfl }
  let Y2 : TCls K mg (He.ga K "Watch") := {
    cl := He.cls_ok (fa_rest d 15)
    nName := He.noat_ok (fa_rest d 16)
    nWord := He.noat_ok (fa_rest d 17)
    nWays := He.noat_ok (fa_rest d 18)
    nGate := He.noat_ok (fa_rest d 19)
    mgC := He.glo_ok X G (fa_glo d (x := "Watch") (by decide +kernel))
    makes := (He.mkr_ok (fa_rest d 20)).makes
    kp := (He.mkr_ok (fa_rest d 20)).kp
    DI := mkDefM "Watch" "__init__" "Watch.__init__" s_Watch_init ["self", "name", "word", "ways", "gate"] (fa_meth d 7) (fn_M d 7 (d := K3H.dM "Watch" "__init__" "Watch.__init__" s_Watch_init)) fun fd F => F.bindsN fun _ _ _ _ _ _ us hl => match us, hl with | [_, _, _, _, _], _ => rfl
    DO := mkDefM "Watch" "is_on" "Watch.is_on" s_Watch_is_on ["self", "was_on", "looks", "step"] (fa_meth d 8) (fn_M d 8 (d := K3H.dM "Watch" "is_on" "Watch.is_on" s_Watch_is_on)) fun fd F => F.bindsN fun _ _ _ _ _ _ us hl => match us, hl with | [_, _, _, _], _ => rfl }
  let ZP : DPt K mg := {
    E := {
      W := {
        D := (mkDef X G "add_watches" s_add_watches ["watches", "paper", "scheme", "ways", "gate"] (fa_glo d (by decide +kernel)) (fn_1 d 3 (d := K3H.dG "add_watches" s_add_watches)) fun fd F => F.bindsN fun _ _ _ _ _ _ us hl => match us, hl with | [_, _, _, _, _], _ => rfl)
        DW := (mkDef X G "word_in" s_word_in ["scheme"] (fa_glo d (by decide +kernel)) (fn_0 d 5 (d := K3H.dG "word_in" s_word_in)) fun fd F => F.bindsN fun _ _ _ _ _ _ us hl => match us, hl with | [_], _ => rfl)
        DI := (mkDef X G "within" s_within ["scheme"] (fa_glo d (by decide +kernel)) (fn_0 d 6 (d := K3H.dG "within" s_within)) fun fd F => F.bindsN fun _ _ _ _ _ _ us hl => match us, hl with | [_], _ => rfl)
        DP := (mkDef X G "parts_of" s_parts_of ["paper", "scheme"] (fa_glo d (by decide +kernel)) (fn_0 d 11 (d := K3H.dG "parts_of" s_parts_of)) fun fd F => F.bindsN fun _ _ _ _ _ _ us hl => match us, hl with | [_, _], _ => rfl) }
      DO := (mkDef X G "watches_of" s_watches_of ["paper"] (fa_glo d (by decide +kernel)) (fn_1 d 4 (d := K3H.dG "watches_of" s_watches_of)) fun fd F => F.bindsN fun _ _ _ _ _ _ us hl => match us, hl with | [_], _ => rfl)
      DS := (mkDef X G "state_of" s_state_of ["watches", "work"] (fa_glo d (by decide +kernel)) (fn_1 d 6 (d := K3H.dG "state_of" s_state_of)) fun fd F => F.bindsN fun _ _ _ _ _ _ us hl => match us, hl with | [_, _], _ => rfl)
      DB := (mkDef X G "state_behind" s_state_behind ["watches", "state", "step"] (fa_glo d (by decide +kernel)) (fn_1 d 5 (d := K3H.dG "state_behind" s_state_behind)) fun fd F => F.bindsN fun _ _ _ _ _ _ us hl => match us, hl with | [_, _, _], _ => rfl)
      DM := (mkDef X G "may_come" s_may_come ["state", "step"] (fa_glo d (by decide +kernel)) (fn_1 d 8 (d := K3H.dG "may_come" s_may_come)) fun fd F => F.bindsN fun _ _ _ _ _ _ us hl => match us, hl with | [_, _], _ => rfl) }
    DE := (mkDef X G "explored" s_explored ["paper", "work", "steps"] (fa_glo d (by decide +kernel)) (fn_1 d 9 (d := K3H.dG "explored" s_explored)) fun fd F => F.bindsN fun _ _ _ _ _ _ us hl => match us, hl with | [_, _, _], _ => rfl)
    DS := (mkDef X G "steps_of" s_steps_of ["words"] (fa_glo d (by decide +kernel)) (fn_1 d 7 (d := K3H.dG "steps_of" s_steps_of)) fun fd F => F.bindsN fun _ _ _ _ _ _ us hl => match us, hl with | [_], _ => rfl)
    DB := (mkDef X G "points_by" s_points_by ["paper", "work", "leads"] (fa_glo d (by decide +kernel)) (fn_1 d 10 (d := K3H.dG "points_by" s_points_by)) fun fd F => F.bindsN fun _ _ _ _ _ _ us hl => match us, hl with | [_, _, _], _ => rfl)
    DP := (mkDef X G "points_of" s_points_of ["rows"] (fa_glo d (by decide +kernel)) (fn_0 d 12 (d := K3H.dG "points_of" s_points_of)) fun fd F => F.bindsN fun _ _ _ _ _ _ us hl => match us, hl with | [_], _ => rfl)
    DN := (mkDef X G "numbered" s_numbered ["keys"] (fa_glo d (by decide +kernel)) (fn_1 d 11 (d := K3H.dG "numbered" s_numbered)) fun fd F => F.bindsN fun _ _ _ _ _ _ us hl => match us, hl with | [_], _ => rfl)
    DF := (mkDef X G "finer" s_finer ["classes", "nexts"] (fa_glo d (by decide +kernel)) (fn_1 d 12 (d := K3H.dG "finer" s_finer)) fun fd F => F.bindsN fun _ _ _ _ _ _ us hl => match us, hl with | [_, _], _ => rfl)
    DL := (mkDef X G "levels_of" s_levels_of ["points", "nexts"] (fa_glo d (by decide +kernel)) (fn_1 d 13 (d := K3H.dG "levels_of" s_levels_of)) fun fd F => F.bindsN fun _ _ _ _ _ _ us hl => match us, hl with | [_, _], _ => rfl)
    DM := (mkDef X G "moved" s_moved ["nexts", "many"] (fa_glo d (by decide +kernel)) (fn_1 d 14 (d := K3H.dG "moved" s_moved)) fun fd F => F.bindsN fun _ _ _ _ _ _ us hl => match us, hl with | [_, _], _ => rfl)
    DT := (mkDef X G "parting_steps" s_parting ["levels", "nexts", "one", "other"] (fa_glo d (by decide +kernel)) (fn_1 d 15 (d := K3H.dG "parting_steps" s_parting)) fun fd F => F.bindsN fun _ _ _ _ _ _ us hl => match us, hl with | [_, _, _, _], _ => rfl)
    D := (mkDef X G "parted" s_parted ["one", "other"] (fa_glo d (by decide +kernel)) (fn_1 d 16 (d := K3H.dG "parted" s_parted)) fun fd F => F.bindsN fun _ _ _ _ _ _ us hl => match us, hl with | [_, _], _ => rfl) }
  let DR : DRows K mg := {
    DPt := (mkDef X G "points_of" s_points_of ["rows"] (fa_glo d (by decide +kernel)) (fn_0 d 12 (d := K3H.dG "points_of" s_points_of)) fun fd F => F.bindsN fun _ _ _ _ _ _ us hl => match us, hl with | [_], _ => rfl)
    DFp := (mkDef X G "first_points" s_first_points ["rows", "limit"] (fa_glo d (by decide +kernel)) (fn_0 d 13 (d := K3H.dG "first_points" s_first_points)) fun fd F => F.bindsN fun _ _ _ _ _ _ us hl => match us, hl with | [_, _], _ => rfl)
    DRa := (mkDef X G "row_at" s_row_at ["place", "points", "where"] (fa_glo d (by decide +kernel)) (fn_0 d 14 (d := K3H.dG "row_at" s_row_at)) fun fd F => F.bindsN fun _ _ _ _ _ _ us hl => match us, hl with | [_, _, _], _ => rfl)
    DE := (mkDef X G "rows_of_each" s_rows_of_each ["paper", "schemes", "where", "view"] (fa_glo d (by decide +kernel)) (fn_0 d 15 (d := K3H.dG "rows_of_each" s_rows_of_each)) fun fd F => F.bindsN fun _ _ _ _ _ _ us hl => match us, hl with | [_, _, _, _], _ => rfl)
    DA := (mkDef X G "rows_of_all" s_rows_of_all ["paper", "schemes", "where", "view"] (fa_glo d (by decide +kernel)) (fn_0 d 16 (d := K3H.dG "rows_of_all" s_rows_of_all)) fun fd F => F.bindsN fun _ _ _ _ _ _ us hl => match us, hl with | [_, _, _, _], _ => rfl)
    DR := (mkDef X G "rows_of" s_rows_of ["paper", "scheme", "where", "view"] (fa_glo d (by decide +kernel)) (fn_0 d 17 (d := K3H.dG "rows_of" s_rows_of)) fun fd F => F.bindsN fun _ _ _ _ _ _ us hl => match us, hl with | [_, _, _, _], _ => rfl)
    DB := (mkDef X G "rows_by" s_rows_by ["paper", "work"] (fa_glo d (by decide +kernel)) (fn_1 d 0 (d := K3H.dG "rows_by" s_rows_by)) fun fd F => F.bindsN fun _ _ _ _ _ _ us hl => match us, hl with | [_, _], _ => rfl)
    DI := (mkDef X G "is_step" s_is_step ["thing"] (fa_glo d (by decide +kernel)) (fn_0 d 0 (d := K3H.dG "is_step" s_is_step)) fun fd F => F.bindsN fun _ _ _ _ _ _ us hl => match us, hl with | [_], _ => rfl)
    DC := (mkDef X G "check_work" s_check_work ["work"] (fa_glo d (by decide +kernel)) (fn_0 d 1 (d := K3H.dG "check_work" s_check_work)) fun fd F => F.bindsN fun _ _ _ _ _ _ us hl => match us, hl with | [_], _ => rfl)
    DN := (mkDef X G "earned" s_earned ["paper", "work"] (fa_glo d (by decide +kernel)) (fn_1 d 1 (d := K3H.dG "earned" s_earned)) fun fd F => F.bindsN fun _ _ _ _ _ _ us hl => match us, hl with | [_, _], _ => rfl)
    DM := (mkDef X G "marked" s_marked ["paper", "work"] (fa_glo d (by decide +kernel)) (fn_1 d 2 (d := K3H.dG "marked" s_marked)) fun fd F => F.bindsN fun _ _ _ _ _ _ us hl => match us, hl with | [_, _], _ => rfl) }
  let DC : DPaper K mg := {
    DN := (mkDef X G "is_number" s_is_number ["thing"] (fa_glo d (by decide +kernel)) (fn_0 d 2 (d := K3H.dG "is_number" s_is_number)) fun fd F => F.bindsN fun _ _ _ _ _ _ us hl => match us, hl with | [_], _ => rfl)
    DF := (mkDef X G "fits" s_fits ["part", "kind", "number", "many"] (fa_glo d (by decide +kernel)) (fn_0 d 3 (d := K3H.dG "fits" s_fits)) fun fd F => F.bindsN fun _ _ _ _ _ _ us hl => match us, hl with | [_, _, _, _], _ => rfl)
    DB := (mkDef X G "can_be" s_can_be ["thing", "number", "many"] (fa_glo d (by decide +kernel)) (fn_0 d 4 (d := K3H.dG "can_be" s_can_be)) fun fd F => F.bindsN fun _ _ _ _ _ _ us hl => match us, hl with | [_, _, _], _ => rfl)
    DW := (mkDef X G "word_in" s_word_in ["scheme"] (fa_glo d (by decide +kernel)) (fn_0 d 5 (d := K3H.dG "word_in" s_word_in)) fun fd F => F.bindsN fun _ _ _ _ _ _ us hl => match us, hl with | [_], _ => rfl)
    DI := (mkDef X G "within" s_within ["scheme"] (fa_glo d (by decide +kernel)) (fn_0 d 6 (d := K3H.dG "within" s_within)) fun fd F => F.bindsN fun _ _ _ _ _ _ us hl => match us, hl with | [_], _ => rfl)
    DP := (mkDef X G "placed" s_placed ["schemes", "place"] (fa_glo d (by decide +kernel)) (fn_0 d 7 (d := K3H.dG "placed" s_placed)) fun fd F => F.bindsN fun _ _ _ _ _ _ us hl => match us, hl with | [_, _], _ => rfl)
    DS := (mkDef X G "schemes_in" s_schemes_in ["paper", "number"] (fa_glo d (by decide +kernel)) (fn_0 d 8 (d := K3H.dG "schemes_in" s_schemes_in)) fun fd F => F.bindsN fun _ _ _ _ _ _ us hl => match us, hl with | [_, _], _ => rfl)
    DM := (mkDef X G "many_of" s_many_of ["names", "parts"] (fa_glo d (by decide +kernel)) (fn_0 d 9 (d := K3H.dG "many_of" s_many_of)) fun fd F => F.bindsN fun _ _ _ _ _ _ us hl => match us, hl with | [_, _], _ => rfl)
    DC := (mkDef X G "check_paper" s_check_paper ["paper"] (fa_glo d (by decide +kernel)) (fn_0 d 10 (d := K3H.dG "check_paper" s_check_paper)) fun fd F => F.bindsN fun _ _ _ _ _ _ us hl => match us, hl with | [_], _ => rfl)
    DO := (mkDef X G "parts_of" s_parts_of ["paper", "scheme"] (fa_glo d (by decide +kernel)) (fn_0 d 11 (d := K3H.dG "parts_of" s_parts_of)) fun fd F => F.bindsN fun _ _ _ _ _ _ us hl => match us, hl with | [_, _], _ => rfl) }
  let D : D4 K mg := {
    DBg := (mkDef X G "_law_begun" s_L_begun ["_law_script"] (fa_glo d (by decide +kernel)) (fn_1 d 17 (d := K3H.dG "_law_begun" s_L_begun)) fun fd F => F.bindsN fun _ _ _ _ _ _ us hl => match us, hl with | [_], _ => rfl)
    DLe := (mkDef X G "_law_letters" s_L_letters ["_law_box"] (fa_glo d (by decide +kernel)) (fn_2 d 2 (d := K3H.dG "_law_letters" s_L_letters)) fun fd F => F.bindsN fun _ _ _ _ _ _ us hl => match us, hl with | [_], _ => rfl)
    DSc := (mkDef X G "_law_scheme" s_L_scheme ["_law_box", "_law_letters_here", "_law_left", "_law_deep_here", "_law_uses"] (fa_glo d (by decide +kernel)) (fn_2 d 3 (d := K3H.dG "_law_scheme" s_L_scheme)) fun fd F => F.bindsN fun _ _ _ _ _ _ us hl => match us, hl with | [_, _, _, _, _], _ => rfl)
    DCo := (mkDef X G "_law_counted" s_L_counted ["_law_scheme_here", "_law_uses"] (fa_glo d (by decide +kernel)) (fn_2 d 4 (d := K3H.dG "_law_counted" s_L_counted)) fun fd F => F.bindsN fun _ _ _ _ _ _ us hl => match us, hl with | [_, _], _ => rfl)
    DPa := (mkDef X G "_law_paper" s_L_paper ["_law_box", "_law_letters_here"] (fa_glo d (by decide +kernel)) (fn_2 d 5 (d := K3H.dG "_law_paper" s_L_paper)) fun fd F => F.bindsN fun _ _ _ _ _ _ us hl => match us, hl with | [_, _], _ => rfl)
    DWr := (mkDef X G "_law_wrapped" s_L_wrapped ["_law_box", "_law_scheme_here"] (fa_glo d (by decide +kernel)) (fn_2 d 8 (d := K3H.dG "_law_wrapped" s_L_wrapped)) fun fd F => F.bindsN fun _ _ _ _ _ _ us hl => match us, hl with | [_, _], _ => rfl)
    DPl := (mkDef X G "_law_plain" s_L_plain ["_law_paper_here", "_law_scheme_here"] (fa_glo d (by decide +kernel)) (fn_2 d 9 (d := K3H.dG "_law_plain" s_L_plain)) fun fd F => F.bindsN fun _ _ _ _ _ _ us hl => match us, hl with | [_, _], _ => rfl)
    DDe := (mkDef X G "_law_deep" s_L_deep ["_law_scheme_here"] (fa_glo d (by decide +kernel)) (fn_2 d 10 (d := K3H.dG "_law_deep" s_L_deep)) fun fd F => F.bindsN fun _ _ _ _ _ _ us hl => match us, hl with | [_], _ => rfl)
    A := {
      DT := (mkDef X G "_law_take" s_L_take ["_law_box", "_law_many"] (fa_glo d (by decide +kernel)) (fn_2 d 0 (d := K3H.dG "_law_take" s_L_take)) fun fd F => F.bindsN fun _ _ _ _ _ _ us hl => match us, hl with | [_, _], _ => rfl)
      DSt := (mkDef X G "_law_step" s_L_step ["_law_box", "_law_letters_here", "_law_was_wrong"] (fa_glo d (by decide +kernel)) (fn_2 d 6 (d := K3H.dG "_law_step" s_L_step)) fun fd F => F.bindsN fun _ _ _ _ _ _ us hl => match us, hl with | [_, _, _], _ => rfl)
      DWk := (mkDef X G "_law_work" s_L_work ["_law_box", "_law_letters_here", "_law_most"] (fa_glo d (by decide +kernel)) (fn_2 d 7 (d := K3H.dG "_law_work" s_L_work)) fun fd F => F.bindsN fun _ _ _ _ _ _ us hl => match us, hl with | [_, _, _], _ => rfl)
      D := (mkDef X G "_law_is_alike" s_L_isalike ["_law_box", "_law_one", "_law_other", "_law_letters_here"] (fa_glo d (by decide +kernel)) (fn_2 d 11 (d := K3H.dG "_law_is_alike" s_L_isalike)) fun fd F => F.bindsN fun _ _ _ _ _ _ us hl => match us, hl with | [_, _, _, _], _ => rfl) } }
  let DW : Def K mg "law" s_law ["_law_script"] := (mkDef X G "law" s_law ["_law_script"] (fa_glo d (by decide +kernel)) (fn_2 d 12 (d := K3H.dG "law" s_law)) fun fd F => F.bindsN fun _ _ _ _ _ _ us hl => match us, hl with | [_], _ => rfl)
  have e : f = DW.f := by
    have e := hfa.symm.trans DW.g
    cases e
    rfl
  subst e
  exact ⟨DW.fd, fun s v => FunD.bindsA (ps := ["_law_script"]) DW.F (fun _ _ _ _ _ _ us hl => match us, hl with | [_], _ => rfl) s [v] rfl, fun base _ _ => ok_law T Y Y2 ZP DR DC D DW⟩
end
end MS
end
set_option Elab.async false
open PySem PySem.W PySem.Calls PyProof.Rows
set_option maxRecDepth 100000 in
set_option maxHeartbeats 0 in
theorem PySem.Challenge.cw_markscript_k04_whole_marks_by_the_words_holds : PySem.Challenge.rw_markscript_k04_whole_marks_by_the_words.Holds := by
  w_on; o_law
  refine HandSHeadRun.head_any (r := OpenLaw.row PySem.Challenge.rw_markscript_k04_whole_marks_by_the_words) (q := view (OpenLaw.row PySem.Challenge.rw_markscript_k04_whole_marks_by_the_words).prog [76]) (H := K3H.hk) (ob := K3H.ob) (M := 4000) (loose := K3H.names) (d := HandSHeadRun.topDef (OpenLaw.row PySem.Challenge.rw_markscript_k04_whole_marks_by_the_words).prog 76) (kwd := []) K3H.ob_eq
    (by kernel_rfl) (fun s => by kernel_rfl) K3H.run (by kernel_rfl) (by kernel_rfl) (by kernel_rfl) (by rfl) (by first | assumption | decide +kernel) (by decide +kernel) ⟨rfl, rfl, rfl, rfl, rfl, by decide +kernel⟩ ?hw ?hc
  case hw => w_witness2
  case hc =>
    refine L2.walk_ofE (l := PySem.Challenge.rw_markscript_k04_whole_marks_by_the_words) (n := 63) (k := 98) (x := "_law_script") (CX := L2.CX0) rfl (by decide) (by kernel_rfl) ⟨rfl, by decide, by decide⟩ ?F (fun _ _ _ _ z => z)
    intro w mg fa h Y G hmg0
    obtain ⟨K, KX, c⟩ := Y
    have hmg : mg ("law" : PySem.Str) = some (.ref fa) := by
      have e : (HandSHeadRun.topDef (OpenLaw.row PySem.Challenge.rw_markscript_k04_whole_marks_by_the_words).prog 76).name = ("law" : PySem.Str) := by kernel_rfl
      rw [← e]
      exact hmg0
    obtain ⟨fd, hb, hF⟩ := MS.facts (P := (PySem.Challenge.rw_markscript_k04_whole_marks_by_the_words).prog) (w := w) KX G hmg c
    exact ⟨K, fd, MS.spLaw K, KX, hb, fun H a ns hl _ hS => ⟨a, ns, rfl, hS, hl, fun _ => rfl⟩, hF⟩
