import PyProof.Rows.All
import Wide.All
import OpenK.AllK
import Wide.FinOn
import KE.KStateDown
import Lean
import HandS.Head0
import HandS.Head1
import HandS.Head2
import HandS.HeadEnd
import HandS.HeadHook1
import HandS.HeadHook2
import HandS.HeadHook3
import HandS.HeadHook4
import KE.DataMinKey
import HandS.ForMost
import HandS.Exc
import HandS.TryOnly
import HandS.ExcOwn
import HandS.WordsExc
import HandS.Defaults
import HandS.Flow
import HandS.Style
import HandS.TupAny
import HandS.Zip
import HandS.IsInst
import HandS.RevRange
import HandS.SetKeys
import HandS.WrittenGet
import HandS.Strs
import HandS.SortKw
import HandS.Walk
import HandS.Conv
import KE.KExcIs
import HandS.ExcInit
import HandS.ExcIs
import HandS.ExcField
import KE.KExcSuper
import HandS.ExcSuper
import HandS.Nested
import HandS.FStr
import HandS.NestedK
import HandS.EndTab
import HandS.HeadWalk
import KE.GoesEnum
import HandS.Set
import PyProof.Rows.SortStr
import PyProof.Rows.SortShellK
import PyProof.EqAt
import PyProof.EqKinds
import PyProof.TupleCall
import HandS.Base
import HandS.Call
import HandS.List
import HandS.FStrTup
import KE.KDictZip
import KE.KItemsList
import KE.KTurns
import HandS.Iter
import HandS.Dict
import HandS.ListItems
import KE.GoesEnumKw
import PyProof.NeKinds
import PyProof.StrOps2
import HandS.Text
import KE.SortData
import KE.LtSeq
import KE.LtData
import KE.KSortTup
import HandS.TupSets
import PyProof.DictCompW
import KE.KEqDict
import KE.KDictCopyH
import KE.KDictList
import HandS.Comp
import HandS.More
import HandS.DictComp
import HandS.ExcCtx
import HandS.Hot
import HandS.HotCalls
import HandS.SuiteRaise
import HandS.RaiseFrom
import HandS.ExcInitHot
import KE.KAssignIn
import PyProof.ListMulRoad
import PyProof.FactsAll.tuple_2
import HandS.TupMul
import HandS.Lambda
import HandS.RaiseMore
import HandS.StrMore
import HandS.TupLe
import HandS.Deep
import HandS.Wide
import PySem.Challenge.RW_markscript_k01_papers_refused
set_option Elab.async false
set_option linter.all false
set_option maxRecDepth 100000
section
set_option maxRecDepth 100000
set_option maxHeartbeats 4000000
/-! super().__init__(e) in an own exception's __init__, the class somewhere below ValueError -/
namespace XSU
open PySem PySem.Spec PyProof.Rows L2 NdefX
/-- what the written part says of such a class and of its __init__ -/
structure SupC (P : Program) (K : PySem.W.Frag) (C f cc cd : Addr) (name qual : Str) (params : Arguments) (body : List Stmt) (scope : Scope) : Prop where
  T : OexC K C
  along : ∃ nm q N bs bm sn sub ab col dd k0 k1 k2 k3 k5, K.lookup C = some (excClassObj nm q C N bs bm true sn sub ab col dd k0 k1 k2 k3 k5 "ValueError.__new__") ∧ PySem.HandSPX.refsVE bm = true ∧ PySem.W.alongIn K "__init__" bm = some (some (.builtin "ValueError.__init__"))
  self : PySem.W.mroIn K C (.ref C) = some true
  isVE : PySem.W.subIn K (.ref C) (.type "ValueError") = some true
  opq : PySem.W.nsIn K cStatics "thirdparty.any" = some none
  fn : ∃ oc od osl dV kV doc pm an ct, K.lookup f = some ⟨oc, od, .func (PySem.W.ksFn name qual params body scope dV kV doc pm an (.ref cd) ct cc), osl⟩
  code : PySem.W.codeIn K (.ref cd) qual = true
  file : ∃ e dd vs sl fl tf, K.lookup cd = some ⟨e, dd, .fields vs, sl⟩ ∧ vs[2]? = some (.str fl tf) ∧ ((P.main.file : Str) == fl) = true
  cell : ∃ e dd sl, K.lookup cc = some ⟨e, dd, .cell (some (.ref C)), sl⟩
section
variable {P : Program} {w : World} {K : PySem.W.Frag} {mg : Str → Option Value} {base : Heap} {N ps : List Str} {C f cc cd : Addr} {name qual : Str} {params : Arguments} {body : List Stmt} {scope : Scope}
abbrev nf (name qual : Str) (params : Arguments) (body : List Stmt) (scope : Scope) (cc cd : Addr) : NF := ⟨name, qual, params, body, scope, [("__class__", cc)], cd⟩
theorem call_mw {prog : Program} {w : World} {A : Around} {E : Value → Shared → Prop} {h : Heap} {g : Array GenState} {d : Drawn} {t : Nat} {os : OsState} {nm q : Str} {C N : Addr} {bs bm : List Value} {hdct : Bool} {sn : List Str} {sub : List Value} {ab : Bool} {col : Option Bool} {dd : Option Addr} {k0 k1 k2 k3 k5 : Option Value}
    {u e t0 : Addr} {rest : List Value} {Q : Value → Shared → Prop}
    (hC : h.get? C = some (excClassObj nm q C N bs bm hdct sn sub ab col dd k0 k1 k2 k3 k5 "ValueError.__new__")) (he : h.get? e = some (HandSPX.excO C t0)) (hu : h.get? u = some (PySem.W.kxs_mw "ValueError.__init__" e)) (hrest : rest.length ≤ sizeLine)
    (hq : ∀ h' t1, (∀ b o, b ≠ e → h.get? b = some o → h'.get? b = some o) → h'.get? e = some (HandSPX.excO C t1) → Q .none ⟨h', g, d, t, os⟩) :
    wpAny (model prog w) A (call (.ref u) rest) Q E ⟨h, g, d, t, os⟩ := by
  refine wpAny_call (codeAny_of_tree ?_)
  show wpAny _ A.in1 (callAny (.ref u) ⟨rest, []⟩) _ _ _
  simp only [callAny]
  refine wpAny_bind (wpAny_load hu ?_)
  simp only [PySem.W.kxs_mw, show (Value.type "method-wrapper" == Value.type "method" || Value.type "method-wrapper" == Value.type "builtin_function_or_method" || Value.type "method-wrapper" == Value.type "method-wrapper") = true by decide, if_true]
  refine W.KFB.if_so (by decide) ?_
  refine wpAny_bind (ESX.check_bound F.excBase_ValueError hC he rfl ?_)
  refine wpAny_bind (wpAny_pure (wpAny_pure ?_))
  refine ⟨Code.quiet_builtin _ (by decide +kernel), codeAny_builtin F.excBase_ValueError.initEntry ?_⟩
  rw [Around.under_plainId F.excBase_ValueError.init.plain _]
  wp_walk
  refine hq _ h.objs.size (fun b o hb ho => ?_) ?_
  · rw [Heap.get?_update_other _ _ (Ne.symm hb)]
    exact Heap.get?_push_of_some _ ho
  · rw [Heap.get?_update_self _ (Heap.get?_push_of_some _ he) rfl]
    rfl
/-- THE RULE -/
theorem fn_super {CX : CXT} {k : Nat} {fd : FuncData} {sp : Sp} {e : Expr} {rest : List Stmt} {p0 p1 p2 p3 p4 : Pos} {ar : Arg} {pl : Sem Bool} (Y : SupC P K C f cc cd name qual params body scope) (hbd : body = .Expr (.Call (.Attribute (.Call (.Name "super" p0) [] [] p1) "__init__" p2) [e] [] p3) p4 :: rest)
    (hfd : ∃ oc od osl, K.lookup f = some ⟨oc, od, .func fd, osl⟩) (S : NScope N ps ["__class__"] scope) (hp : (params.posonlyargs ++ params.args).head? = some ar) (hps : ps.head? = some ar.arg) (msu : mg "super" = none) (gsu : scope.names.lookup ("super" : Str) = some .globalImplicit)
    (htop : (P.main.scope.names.lookup ("super" : Str)).isSome = false) (len : ∀ vs H Q E, sp vs H Q E → vs.length = ps.length)
    (he : ∀ env, eval (.Call (.Attribute (.Call (.Name "super" p0) [] [] p1) "__init__" p2) [e] [] p3) env = (do
      let ov ← attributeBase (.Call (.Name "super" p0) [] [] p1) "__init__" env (eval (.Call (.Name "super" p0) [] [] p1) env)
      standAt p2.atName
      let (f, first) ← holding [ov] (getMethod ov "__init__" pl)
      callWith p3 f first (backTo p3 (starEach [e] env)) []))
    (hst : ∀ env, starEach [e] env = [(false, eval e env)])
    (hbody : ∀ (A : Around) (outer : List Env) (s : Shared) (H : Hp) (vs : List V) (Q : VK) (E : XK), Room k (A.deeper (envF (nf name qual params body scope cc cd) f s.heap.objs.size)) → sp vs H Q E →
      ∃ (a : Addr) (vr : List V) (te : TE) (t : TS), vs = .ref a :: vr ∧ PE (ncx CX P w K mg base N (nf name qual params body scope cc cd) f A outer s H E) e te ∧ PSs (ncx CX P w K mg base N (nf name qual params body scope cc cd) f A outer s H E) rest t ∧ H a = some (exo a C none) ∧
        te (startF N vs [some (.ref C)]) H fun _ H' => H' a = some (exo a C none) ∧ t { nx := fun _ H'' => Q .non H'', rt := Q } (startF N vs [some (.ref C)]) H') :
    FnOk P w K mg base CX (k + 1) f fd ps sp := by
  obtain ⟨oc, od, osl, dV, kV, doc, pm, an, ct, lk⟩ := Y.fn
  obtain ⟨oc2, od2, osl2, lk2⟩ := hfd
  rw [lk] at lk2
  cases lk2
  obtain ⟨nm, q, N', bs, bm, sn, sub, ab, col, dd, k0, k1, k2, k3, k5, hC, hbm, hal⟩ := Y.along
  have hcl : PySem.W.clsIn K C = some { name := nm, bases := bs, mro := .ref C :: bm, ns := N', qualname := q, hasDict := true, slotNames := sn, subclasses := sub, abstract := ab, collection := col, hasDel := false } := by unfold PySem.W.clsIn; rw [hC] <;> rfl
  obtain ⟨ec, ddc, vsc, slc, fl, tf, lcd, hv2, hfl⟩ := Y.file
  obtain ⟨ecc, ddcc, slcc, lcc⟩ := Y.cell
  refine ⟨len, fun A outer s H args us vs Q E hr e0 hb r hsp => ?_⟩
  have hl := len _ _ _ _ hsp
  have KX : K.In s.heap := e0.mod.kin.keeps fun b o e => (e0.bs b o e).1
  have lim : s.heap.NoLimit := e0.mod.nolimit.keeps fun b o e => (e0.bs b o e).1
  refine codeAny_call_function hr.depth (KX _ _ lk) rfl S.co S.gen rfl (PySem.W.codeRec_of KX Y.code) (hb _ _ _ _ ?_)
  refine wpAny_newFunctionEnv S.nocell (fun ⟨n, _⟩ hy => S.par n (List.of_mem_zip hy).1) (fun h₁ hns hsb => ⟨lim.fresh _ hsb, ?_⟩) S.kind
  show codeAny _ _ (.func body (envF (nf name qual params body scope cc cd) f s.heap.objs.size)) _ _
  refine ks_codeAny_funcAt ?_
  have kp : ∀ b o, s.heap.get? b = some o → h₁.get? b = some o := fun b o e => hsb.extBut b o (Nat.ne_of_lt (Heap.lt_size e)) (Heap.get?_push_of_some _ e)
  have CA : CellsAt [("__class__", cc)] ["__class__"] [some (.ref C)] s.heap H := by
    have isc : s.heap.IsCell cc (some (.ref C)) := ⟨_, KX _ _ lcc, rfl⟩
    have one : ∀ {y : Str} {c : Addr}, ([(("__class__" : Str), cc)] : List (Str × Addr)).lookup y = some c → y = "__class__" ∧ c = cc := fun {y c} h => by
      have h := PySem.mem_of_lookup h
      have h := List.mem_singleton.mp h
      cases h
      exact ⟨rfl, rfl⟩
    refine ⟨rfl, fun y c h => ?_, fun x y c h1 h2 => (one h1).1.trans (one h2).1.symm, fun i y h => ?_⟩
    · rw [(one h).2]
      exact ⟨(e0.bs _ _ (e0.mod.kin _ _ lcc)).2, _, isc⟩
    · have ey : y = "__class__" := List.mem_singleton.mp (List.mem_of_getElem? h)
      subst ey
      have hi : i = 0 := by
        have := (List.getElem?_eq_some_iff.mp h).1
        simp at this
        exact this
      subst hi
      exact ⟨cc, by simp [List.lookup], fun v hv => by
        cases hv
        exact ⟨_, rfl, isc⟩⟩
  obtain ⟨a, vr, te, t, hvs, pe, ps', ea, hq⟩ := hbody A outer s H vs Q E (hr.deeper _) hsp
  have I : Inv (ncx CX P w K mg base N (nf name qual params body scope cc cd) f A outer s H E) [] (startF N vs [some (.ref C)]) H { s with heap := h₁, toks := s.toks + (ps.zip us).length } := inv_startN S hr.hd e0 hl r CA hns kp
  obtain ⟨t0, hx⟩ := exo_at I.hok ea
  have hlt : (a : Nat) < h₁.objs.size := Heap.lt_size hx
  have hxC : a ≠ C := fun z => by
    rw [z] at hx
    have z1 := I.kIn _ _ hC
    rw [hx] at z1
    cases z1
  have hn1 : scope.names.lookup ("__class__" : Str) = some .free := S.frk _ (by simp)
  have hself : scope.names.lookup ar.arg = some .local := S.par _ (List.mem_of_mem_head? hps)
  have hp0 : ps[0]? = some ar.arg := by
    rw [← List.head?_eq_getElem?]
    exact hps
  have hu0 : us[0]? = some (.ref a) := by
    obtain ⟨u, e1, e2⟩ := r.get (i := 0) (x := .ref a) (by rw [hvs]; rfl)
    rw [e1, show u = Value.ref a from e2]
  have ndP : ps.Nodup := by
    have q := S.nd.sublist (List.take_sublist (ps.length + 1) N)
    rw [show ps.length + 1 = ps.length + [("__class__" : Str)].length from rfl, S.pre] at q
    exact (List.nodup_append.mp q).1
  have hlook : (ps.zip us).reverse.lookup ar.arg = some (.ref a) := zip_look ndP hp0 hu0
  rw [hbd]
  refine ks_wpAt_execs_cons (ks_wpAt_Expr_any (ks_wpAt_MethodCall (pl := pl) ?_ (he _)) (by unfold interactive; simp [S.kind]))
  have X1 := I.kIn
  obtain ⟨oD, hD1, hD2⟩ : ∃ oD, h₁.get? C = some oD ∧ oD.data = .cls { name := nm, bases := bs, mro := .ref C :: bm, ns := N', qualname := q, hasDict := true, slotNames := sn, subclasses := sub, abstract := ab, collection := col, hasDel := false } := ⟨_, X1 _ _ hC, rfl⟩
  obtain ⟨mb, hb1, hb2⟩ := I.mod.blt
  refine ks_wpAt_super_base (env := envF (nf name qual params body scope cc cd) f s.heap.objs.size) gsu hn1 (by decide) rfl (X1 _ _ lk) rfl hp rfl (X1 _ _ lcd) rfl hv2 hfl htop ?_
  refine PySem.W.ks_loadName_global S.kind gsu (Calls.loadGlobal_builtin (env := envF (nf name qual params body scope cc cd) f s.heap.objs.size) (I.mod.glob.keeps I.bk) msu (hb1.keeps I.bk) ((hb2 _ (by decide)).trans (by kernel_rfl)) ⟨rfl, ?_⟩)
  refine wpAny_loadName_free S.kind hn1 rfl ⟨_, X1 _ _ lcc, rfl⟩ ?_
  refine wpAny_loadName_local S.kind hself hns hlook ?_
  refine ks_wpAny_isType_cls hD1 hD2 ⟨rfl, ?_⟩
  refine ks_wpAny_call_super hD1 hD2 hx rfl (fun c z => by cases z) (PySem.W.looks_mroIn X1 Y.self) (fun h' hso k => ?_)
  have I2 : Inv (ncx CX P w K mg base N (nf name qual params body scope cc cd) f A outer s H E) [] (startF N vs [some (.ref C)]) H { s with heap := h', toks := s.toks + (ps.zip us).length } := I.kept (t' := s.toks + (ps.zip us).length) k
  have X2 := I2.kIn
  have IA : PySem.W.InstAt h' a { cls := .ref C, dict := none, data := .fields #[.ref t0, .none, .none, .none, .bool false, .none] } C none := ⟨k _ _ hx, rfl, rfl, trivial⟩
  refine PySem.W.kxs_getMethod PySem.W.kxs_ValueError hso (PySem.W.looks_opaque X2 Y.opq) (l₀ := .ref C :: bm) (l := bm) ?_ (ESX.drop_own C bm) X2 hal (IA.type.andThen (PySem.W.looks_subIn X2 Y.isVE)) hxC (by decide) ?_
  · exact fun A Q E s k q => wpAny_bind ((PySem.W.looks_clsIn X2 hcl) A _ E s k (wpAny_pure q))
  have k2 : ∀ b o, h'.get? b = some o → (h'.push (PySem.W.kxs_mw "ValueError.__init__" a)).get? b = some o := fun b o e => Heap.get?_push_of_some _ e
  have I3 : Inv (ncx CX P w K mg base N (nf name qual params body scope cc cd) f A outer s H E) [] (startF N vs [some (.ref C)]) H { s with heap := h'.push (PySem.W.kxs_mw "ValueError.__init__" a), toks := s.toks + (ps.zip us).length + 1 } := I2.kept (t' := s.toks + (ps.zip us).length + 1) k2
  have hmw : (h'.push (PySem.W.kxs_mw "ValueError.__init__" a)).get? h'.objs.size = some (PySem.W.kxs_mw "ValueError.__init__" a) := Heap.get?_push_size _ rfl
  have I4 : Inv (ncx CX P w K mg base N (nf name qual params body scope cc cd) f A outer s H E) [(h'.objs.size, PySem.W.kxs_mw "ValueError.__init__" a)] (startF N vs [some (.ref C)]) H { s with heap := h'.push (PySem.W.kxs_mw "ValueError.__init__" a), toks := s.toks + (ps.zip us).length + 1 } := I3.pins_of fun p hp => by
    rw [List.mem_singleton.mp hp]
    exact ⟨hmw, I2.hok.fresh (Nat.le_refl _), Nat.ne_of_gt I2.lt, I2.nofs (Nat.le_refl _), fun v z => by cases z⟩
  dsimp only
  rw [hst]
  refine PySem.W.kxs_callWith (i := "ValueError.__init__") (x := a) rfl (Calls.evalArgs_plain (Calls.spliced_cons (thn (pe.run _ _ _ _ _ I4 hq) fun u s1 ⟨v, H1, I5, r1, ea1, hq1⟩ => Calls.spliced_nil ?_)))
  have hpin := (I5.pin (h'.objs.size, PySem.W.kxs_mw "ValueError.__init__" a) (by simp)).1
  refine ⟨hpin, ?_⟩
  obtain ⟨t1, hx1⟩ := exo_at I5.hok ea1
  have hC5 := I5.kIn _ _ hC
  obtain ⟨hp1, g1, d1, tk1, os1⟩ := s1
  refine call_mw hC5 hx1 hpin (by show 1 ≤ sizeLine; decide) fun h2 t2 k5 hx2 => ?_
  have J := I5.write (t' := tk1) (x := a) (e := a) (o := exo a C none) (by rw [ea1]; exact True.intro) (.inl rfl) k5 ⟨_, hx2⟩ (exo_ok hx2)
  have eu : upd H1 a (exo a C none) = H1 := by
    funext b
    by_cases hb : b = a
    · rw [hb, upd_same, ea1]
    · rw [upd_ne hb]
  rw [eu] at J
  have J := J.pins_of (pins' := []) (fun p hp => nomatch hp)
  refine wpAt_of_wpAny ?_
  refine wpAny_mono (ps'.run [] _ (startF N vs [some (.ref C)]) H1 _ J hq1) (fun fl s' hs => ?_) fun e s' hs => hs
  have fin : ∀ {σ' : L2.St} {H' : Hp} {v : V} {u : Value}, Inv (ncx CX P w K mg base N (nf name qual params body scope cc cd) f A outer s H E) [] σ' H' s' → L2.RelV v u → Q v H' → CE outer P w H s Q u s' :=
    fun {σ' H' v u} J rv q => ⟨v, H', J.os, J.bare, J.base, J.hok, rv, q⟩
  cases fl with
  | ret u =>
    obtain ⟨v, σ', H', J, rv, q⟩ := hs
    exact fin J rv q
  | next =>
    obtain ⟨σ', H', J, q⟩ := hs
    exact fin (v := V.non) (u := Value.none) J rfl q
  | brk =>
    obtain ⟨_, _, _, q⟩ := hs
    exact False.elim q
  | cont =>
    obtain ⟨_, _, _, q⟩ := hs
    exact False.elim q
end
end XSU
end
section
set_option maxRecDepth 100000
set_option maxHeartbeats 4000000
/-! list.count of flat things; isinstance of a caught error, with or without a dict -/
namespace XEU
open PySem PySem.Spec PyProof.Rows L2
theorem count_eqU {x : V} : ∀ {xs : List V} {us : List Value}, Vals xs us → xs.all flatV = true → us.countP (eqU x) = xs.countP fun y => eqV y x
  | _, _, .nil, _ => rfl
  | _, _, .cons r t, f => by
    rw [List.all_cons, Bool.and_eq_true] at f
    rw [List.countP_cons, List.countP_cons, count_eqU t f.2, eqU_of r f.1]
section
variable {X : Cx}
def rCountF (K : PySem.W.Frag) : V → List V → Hp → VK → Prop := fun x xs H Q => ∃ (a : Addr) (ys : List V) (y : V), x = V.ref a ∧ xs = [y] ∧ SqL K H a ys ∧ flatV y = true ∧ ys.all flatV = true ∧ Q (.int ((ys.countP fun z => eqV z y : Nat) : Int)) H
theorem mt_countF : MtR X "list.count" (rCountF X.K) := by
  intro pins s σ H x xs v us Q I rx rxs h
  obtain ⟨a, ys, y, rfl, rfl, hs, fy, fys, q⟩ := h
  cases rx
  cases rxs with
  | cons ry rt =>
    rename_i uy ut
    cases rt
    obtain ⟨its, rv, ⟨⟨cls, dd, data, sl⟩, n, ho, hc, hdn, hd⟩, hlen⟩ := I.list hs
    simp only at hc hd
    subst hc hd
    refine call_meets PySem.F.slot_list_count ⟨_, ho, rfl⟩ PySem.F.entry_list_count (PySem.F.args_list_count_2 _ _)
      (SeqAt.list_countAt a its.toArray n dd sl uy (eqU y)) ⟨ho, fun u' hu' => mem_eqAt ry fy rv fys u' (by simpa using hu'), ?_⟩
    have ec : its.toArray.toList.countP (eqU y) = ys.countP fun z => eqV z y := count_eqU rv fys
    rw [ec]
    exact ⟨.int ((ys.countP fun z => eqV z y : Nat) : Int), H, I.tok _, ⟨_, rfl⟩, q⟩
end
/-- the dict of the caught error, if it has one, stands -/
def DictAt (d : Option Addr) (H : Hp) : Prop := d = none ∨ ∃ dd fs, d = some dd ∧ H dd = some (.xd fs)
def rIsE (K : PySem.W.Frag) (cls : Value) (d : Option Addr) (a : Addr) : List V → Hp → VK → Prop := fun xs H Q => ∃ (D : Addr) (c : V) (cv : Value) (b : Bool), cls = .ref D ∧ ExcC K D ∧ xs = [.ref a, c] ∧ (∀ u, RelV c u → u = cv) ∧ PySem.W.kitOne K (.ref D) cv = some b ∧ DictAt d H ∧ Q (.bl b) H
theorem call_isE {X : Cx} {a : Addr} {cls : Value} {d : Option Addr} {oe : Obj} {pn : List (Addr × Obj)} (hz : Zc cls d oe) (hf : ∃ vs, oe.data = .fields vs) : CallR (X.suite a ((a, oe) :: pn)) (.builtin "isinstance") (rIsE X.K cls d a) := by
  intro pins s σ H xs us Q I r h
  obtain ⟨D, c, cv, b, rfl, C, rfl, hcv, e, hd, q⟩ := h
  cases r with
  | cons rx rr =>
    cases rr with
    | cons rt rr =>
      cases rr
      cases rx
      have ec := hcv _ rt
      subst ec
      obtain ⟨hget, _⟩ := I.pin (a, oe) (List.mem_append.mpr (.inl List.mem_cons_self))
      obtain ⟨vs, hv⟩ := hf
      have hcl : (PySem.W.clsIn X.K D).isSome = true := by
        obtain ⟨cd, hc, _⟩ := PySem.W.any_some C.hd
        rw [hc]
        rfl
      have J : ∃ od, PySem.W.InstAt s.heap a oe D od := by
        obtain ⟨oc, od, oda, osl⟩ := oe
        obtain ⟨h1, h2⟩ := hz
        dsimp only at h1 h2 hv
        subst h1 h2 hv
        rcases hd with e1 | ⟨dd, fs, e1, e2⟩
        · subst e1
          exact ⟨none, hget, rfl, rfl, trivial⟩
        · subst e1
          have hx : ObjOk X.prog X.w H s.heap dd (.xd fs) := I.hok dd _ e2
          obtain ⟨mA, hns, hr⟩ := hx
          obtain ⟨od, ho, hl⟩ := lookIn_ns hns
          exact ⟨some od, hget, rfl, rfl, ho⟩
      obtain ⟨od, J⟩ := J
      exact PySem.W.kia_one (PySem.W.kitx_exc hcl C.hg C.hk C.hs C.ha C.hn C.ht C.hm) I.kIn J e (fun z => nomatch z) fun tk => ⟨.bl b, H, I.kept (t' := tk) fun _ _ z => z, rfl, q⟩
end XEU
end
section
set_option maxRecDepth 100000
set_option maxHeartbeats 4000000
/-! a head's facts of own error classes with an __init__ that says super() -/
namespace HeY
open PySem PySem.Spec PyProof.Rows L2 He
/-- the cells that functions among these have captured -/
def cellsOf (g : Addr → Option Obj) (l : List Addr) : List Addr := l.flatMap fun a => match g a with
  | some ⟨_, _, .func fd, _⟩ => fd.closure.map (·.2)
  | _ => []
def asE (g : Addr → Option Obj) (n : Nat) : List Addr := cStatics :: (asD g n ++ cellsOf g (asD g n))
abbrev FnY : Type := Option (Str × Str × Arguments × FuncBody × Scope)
def fnY (K : PySem.W.Frag) (x : Str) : FnY := match K.lookup (fAd K (x, some "__init__")) with
  | some ⟨_, _, .func fd, _⟩ => some (fd.name, fd.qualname, fd.params, fd.body, fd.scope)
  | _ => none
structure InD where
  cls : Str
  qual : Str
  params : Arguments
  body : List Stmt
  scope : Scope
def InD.val (d : InD) : FnY := some ("__init__", d.qual, d.params, .stmts d.body, d.scope)
abbrev AlY : Type := AlX × List FnY
def obsY (n : Nat) (fa : List Fa) (fn : List DefD) (ts : List Tab) (tf : List Defn) (xs : List InD) (ex : PySem.W.Frag → Bool) (g : Addr → Option Obj) : AlY :=
  ((obsT fa fn ts (frT g (asE g n)), ex (frT g (asE g n)) && tabsB g tf (frT g (asE g n))), xs.map fun d => fnY (frT g (asE g n)) d.cls)
def valY (fn : List DefD) (ts : List Tab) (xs : List InD) (w : World) : AlY := (valX fn ts w, xs.map InD.val)
structure SaysY (fa : List Fa) (fn : List DefD) (ts : List Tab) (tf : List Defn) (xs : List InD) (ex : PySem.W.Frag → Bool) (w : World) (h : Heap) (K : PySem.W.Frag) : Prop where
  x : SaysX fa fn ts tf ex w h K
  inits : xs.map (fun d => fnY K d.cls) = xs.map InD.val
theorem saysY_of {n : Nat} {fa : List Fa} {fn : List DefD} {ts : List Tab} {tf : List Defn} {xs : List InD} {ex : PySem.W.Frag → Bool} {w : World} {h : Heap} (e : obsY n fa fn ts tf xs ex h.get? = valY fn ts xs w) : SaysY fa fn ts tf xs ex w h (frT h.get? (asE h.get? n)) := by
  have e0 : (obsT fa fn ts (frT h.get? (asE h.get? n)), ex (frT h.get? (asE h.get? n)) && tabsB h.get? tf (frT h.get? (asE h.get? n))) = valX fn ts w := congrArg (fun z : AlY => z.1) e
  have e1 : obsT fa fn ts (frT h.get? (asE h.get? n)) = valT fn ts w := congrArg (fun z : AlX => z.1) e0
  have e2 : (ex (frT h.get? (asE h.get? n)) && tabsB h.get? tf (frT h.get? (asE h.get? n))) = true := congrArg (fun z : AlX => z.2) e0
  have e3 : xs.map (fun d => fnY (frT h.get? (asE h.get? n)) d.cls) = xs.map InD.val := congrArg (fun z : AlY => z.2) e
  obtain ⟨h1, h2⟩ := ba e2
  have key : ∀ p ∈ tf, PySem.W.codeHdIn (frT h.get? (asE h.get? n)) (cT (frT h.get? (asE h.get? n)) p).1 (cT (frT h.get? (asE h.get? n)) p).2 = true ∧ ∃ o, h.get? (cT (frT h.get? (asE h.get? n)) p).2 = some o ∧ emptyTab o = true := fun p hp => by
    obtain ⟨h3, h4⟩ := ba (List.all_eq_true.mp h2 p hp)
    refine ⟨h3, ?_⟩
    cases q : h.get? (cT (frT h.get? (asE h.get? n)) p).2 with
    | none =>
      rw [q] at h4
      cases h4
    | some o =>
      rw [q] at h4
      exact ⟨o, rfl, h4⟩
  exact ⟨⟨e1, h1, fun p hp => (key p hp).1, fun p hp => by
    obtain ⟨_, o, q, z⟩ := key p hp
    exact frT_none q z, fun p hp => by
    obtain ⟨_, o, q, z⟩ := key p hp
    rw [q, emptyTab_eq z]⟩, e3⟩
def hookY (n : Nat) (fa : List Fa) (fn : List DefD) (ts : List Tab) (tf : List Defn) (xs : List InD) (ex : PySem.W.Frag → Bool) : PySem.W.Hook where
  α := AlY
  obs := fun s => obsY n fa fn ts tf xs ex s.heap.get?
  val := fun w => valY fn ts xs w
  says := fun w h => ∃ K : PySem.W.Frag, K.In h ∧ SaysY fa fn ts tf xs ex w h K
  of := fun _ _ e => ⟨_, frT_in, saysY_of e⟩
  keeps := fun _ _ _ ⟨K, hK, c⟩ k => ⟨K, PySem.W.Frag.In.keeps hK k, ⟨⟨c.x.t, c.x.more, c.x.hd, c.x.out, fun p hp => k _ _ (c.x.empty p hp)⟩, c.inits⟩⟩
theorem obsY_eq {n : Nat} {fa : List Fa} {fn : List DefD} {ts : List Tab} {tf : List Defn} {xs : List InD} {ex : PySem.W.Frag → Bool} {g : Addr → Option Obj} {s : Shared} (h : ∀ a, g a = s.heap.get? a) : obsY n fa fn ts tf xs ex g = (hookY n fa fn ts tf xs ex).obs s := by
  have e : g = s.heap.get? := funext h
  rw [e] <;> rfl
/-! ### the classes -/
def oexB (K : PySem.W.Frag) (C : Addr) : Bool := match K.lookup C with
  | some ⟨.type "type", _, .cls cd, sl⟩ => (match cd.mro, sl.toList with
    | .ref C' :: bm, [_, _, _, _, some (.builtin n), _] => C' == C && n == "ValueError.__new__" && !cd.hasDel && cd.hasDict && PySem.HandSPX.refsVE bm && decide (PySem.W.alongIn K "__init__" bm = some (some (.builtin "ValueError.__init__")))
    | _, _ => false)
  | _ => false
theorem oexB_ok {K : PySem.W.Frag} {C : Addr} (q : oexB K C = true) : ∃ nm q N bs bm sn sub ab col dd k0 k1 k2 k3 k5, K.lookup C = some (excClassObj nm q C N bs bm true sn sub ab col dd k0 k1 k2 k3 k5 "ValueError.__new__") ∧ PySem.HandSPX.refsVE bm = true ∧ PySem.W.alongIn K "__init__" bm = some (some (.builtin "ValueError.__init__")) := by
  unfold oexB at q
  split at q
  · rename_i dd cd sl ho
    split at q
    · rename_i C' bm k0 k1 k2 k3 n k5 hm hs
      simp only [Bool.and_eq_true, beq_iff_eq, Bool.not_eq_true', decide_eq_true_eq] at q
      obtain ⟨⟨⟨⟨⟨rfl, rfl⟩, hdel⟩, hdc⟩, hr⟩, ha⟩ := q
      obtain ⟨nm, bs, mro, ns, qn, hd, sn, sub, ab, col, del⟩ := cd
      dsimp only at hm hdel hdc
      subst hm hdel hdc
      have hsl : sl = #[k0, k1, k2, k3, some (.builtin "ValueError.__new__"), k5] := by
        obtain ⟨l⟩ := sl
        simp only at hs
        rw [hs]
      subst hsl
      exact ⟨nm, qn, ns, bs, bm, sn, sub, ab, col, dd, k0, k1, k2, k3, k5, ho, hr, ha⟩
    · cases q
  · cases q
/-- the cell that such an __init__ has captured, its code object -/
def ccOf (K : PySem.W.Frag) (f : Addr) : Addr := match K.lookup f with
  | some ⟨_, _, .func fd, _⟩ => (match fd.closure with
    | [(_, c)] => c
    | _ => 0)
  | _ => 0
def cdOf (K : PySem.W.Frag) (f : Addr) : Addr := match K.lookup f with
  | some ⟨_, _, .func fd, _⟩ => (match fd.code with
    | .ref c => c
    | _ => 0)
  | _ => 0
def cloB (K : PySem.W.Frag) (f : Addr) : Bool := match K.lookup f with
  | some ⟨_, _, .func fd, _⟩ => (match fd.closure, fd.code with
    | [(n, _)], .ref _ => decide (n = "__class__") && (decide (fd.globals = mainGlobals) && decide (fd.builtins = builtinsNs))
    | _, _ => false)
  | _ => false
def fileB (K : PySem.W.Frag) (file : Str) (c : Addr) : Bool := match K.lookup c with
  | some ⟨_, _, .fields vs, _⟩ => (match (vs[2]? : Option Value) with
    | some (.str z _) => file == z
    | _ => false)
  | _ => false
def cellB (K : PySem.W.Frag) (c C : Addr) : Bool := match K.lookup c with
  | some ⟨_, _, .cell (some v), _⟩ => decide (v = .ref C)
  | _ => false
def clsB (K : PySem.W.Frag) (C : Addr) : Bool := oexB K C && (eqO (PySem.W.findIn K (.ref C) "__setattr__") (some (some (.builtin "object.__setattr__"))) && (decide (PySem.W.subIn K (.ref C) (.type "BaseException") = some true) && (decide (PySem.W.typeIn K (.ref C) = some (.type "type")) && PySem.W.keepIn K (.ref C))))
def supB (K : PySem.W.Frag) (file x qual : Str) : Bool :=
  clsB K (ga K x) && (decide (PySem.W.mroIn K (ga K x) (.ref (ga K x)) = some true) && (decide (PySem.W.subIn K (.ref (ga K x)) (.type "ValueError") = some true) && (eqO (PySem.W.nsIn K cStatics "thirdparty.any") (some none) &&
    (eqO (PySem.W.findIn K (.ref (ga K x)) "__init__") (some (some (.ref (ma K (ga K x) "__init__")))) && (decide (PySem.W.typeIn K (.ref (ma K (ga K x) "__init__")) = some (.type "function")) && (cloB K (ma K (ga K x) "__init__") &&
    (PySem.W.codeIn K (.ref (cdOf K (ma K (ga K x) "__init__"))) qual && (fileB K file (cdOf K (ma K (ga K x) "__init__")) && cellB K (ccOf K (ma K (ga K x) "__init__")) (ga K x)))))))))
theorem clsB_ok {K : PySem.W.Frag} {C : Addr} (h : clsB K C = true) : OexC K C := by
  obtain ⟨h1, h⟩ := ba h
  obtain ⟨h2, h⟩ := ba h
  obtain ⟨h3, h⟩ := ba h
  obtain ⟨h4, h5⟩ := ba h
  obtain ⟨nm, q, N, bs, bm, sn, sub, ab, col, dd, k0, k1, k2, k3, k5, e1, e2, _⟩ := oexB_ok h1
  exact ⟨⟨nm, q, N, bs, bm, sn, sub, ab, col, dd, k0, k1, k2, k3, k5, e1, e2⟩, eqO_ok h2, of_decide_eq_true h3, of_decide_eq_true h4, h5⟩
structure SupX (P : Program) (K : PySem.W.Frag) (d : InD) : Prop where
  c : XSU.SupC P K (ga K d.cls) (ma K (ga K d.cls) "__init__") (ccOf K (ma K (ga K d.cls) "__init__")) (cdOf K (ma K (ga K d.cls) "__init__")) "__init__" d.qual d.params d.body d.scope
  init : PySem.W.findIn K (.ref (ga K d.cls)) "__init__" = some (some (.ref (ma K (ga K d.cls) "__init__")))
  ty : PySem.W.typeIn K (.ref (ma K (ga K d.cls) "__init__")) = some (.type "function")
theorem supB_ok {P : Program} {K : PySem.W.Frag} {file : Str} {d : InD} (e : fnY K d.cls = d.val) (h : supB K file d.cls d.qual = true) (hf : P.main.file = file) : SupX P K d := by
  obtain ⟨h1, h⟩ := ba h
  obtain ⟨h2, h⟩ := ba h
  obtain ⟨h3, h⟩ := ba h
  obtain ⟨h4, h⟩ := ba h
  obtain ⟨h5, h⟩ := ba h
  obtain ⟨h6, h⟩ := ba h
  obtain ⟨h7, h⟩ := ba h
  obtain ⟨h8, h⟩ := ba h
  obtain ⟨h9, h10⟩ := ba h
  refine ⟨⟨clsB_ok h1, oexB_ok (ba h1).1, of_decide_eq_true h2, of_decide_eq_true h3, eqO_ok h4, ?_, h8, ?_, ?_⟩, eqO_ok h5, of_decide_eq_true h6⟩
  · unfold cloB at h7
    unfold fnY fAd at e
    unfold ccOf cdOf
    cases q : K.lookup (ma K (ga K d.cls) "__init__") with
    | none =>
      rw [q] at h7
      cases h7
    | some o =>
      obtain ⟨oc, od, dt, osl⟩ := o
      cases dt with
      | func fd =>
        rw [q] at h7
        dsimp only at e
        rw [q] at e
        obtain ⟨n1, n2, n3, n4, n5, n6, n7, n8, n9, n10, n11, n12, n13, n14, n15⟩ := fd
        have e2 : (some (n1, n2, n3, n4, n5) : FnY) = some (("__init__" : Str), d.qual, d.params, FuncBody.stmts d.body, d.scope) := e
        simp only [Option.some.injEq, Prod.mk.injEq] at e2
        obtain ⟨g1, g2, g3, g4, g5⟩ := e2
        subst g1 g2 g3 g4 g5
        dsimp only at h7 ⊢
        cases n7 with
        | nil => cases h7
        | cons p r =>
          cases r with
          | cons _ _ => cases n13 <;> cases h7
          | nil =>
            obtain ⟨n, c⟩ := p
            cases n13 with
            | ref cd =>
              obtain ⟨z1, z⟩ := ba h7
              obtain ⟨z2, z3⟩ := ba z
              obtain rfl : n = "__class__" := of_decide_eq_true z1
              obtain rfl : n6 = mainGlobals := of_decide_eq_true z2
              obtain rfl : n15 = builtinsNs := of_decide_eq_true z3
              exact ⟨oc, od, osl, _, _, _, _, _, _, rfl⟩
            | _ => cases h7
      | _ =>
        rw [q] at h7
        cases h7
  · unfold fileB at h9
    split at h9
    · rename_i e dd vs sl ho
      split at h9
      · rename_i z tf hz
        exact ⟨e, dd, vs, sl, z, tf, ho, hz, by rw [hf]; exact h9⟩
      · cases h9
    · cases h9
  · unfold cellB at h10
    split at h10
    · rename_i e dd v sl ho
      have := of_decide_eq_true h10
      subst this
      exact ⟨e, dd, sl, ho⟩
    · cases h10
end HeY
end
section
set_option maxRecDepth 100000
set_option maxHeartbeats 4000000
namespace MS
open PySem L2
def topS (i : Nat) : Stmt := PySem.Challenge.pw_markscript_k01_papers_refused.main.body.getD i (.Pass ⟨0, 0, 0, 0⟩)
abbrev s_is_step : Stmt := topS 15
/-- slots: 0 thing -/
theorem sc_is_step : FnScope ["thing"] ["thing"] (defScope s_is_step) := ⟨rfl, rfl, rfl, by decide +kernel, rfl, by decide +kernel, by decide +kernel⟩
abbrev s_check_work : Stmt := topS 16
/-- slots: 0 work, 1 went_wrong, 2 number, 3 step -/
theorem sc_check_work : FnScope ["work", "went_wrong", "number", "step"] ["work"] (defScope s_check_work) := ⟨rfl, rfl, rfl, by decide +kernel, rfl, by decide +kernel, by decide +kernel⟩
abbrev s_is_number : Stmt := topS 21
/-- slots: 0 thing -/
theorem sc_is_number : FnScope ["thing"] ["thing"] (defScope s_is_number) := ⟨rfl, rfl, rfl, by decide +kernel, rfl, by decide +kernel, by decide +kernel⟩
abbrev s_fits : Stmt := topS 22
/-- slots: 0 part, 1 kind, 2 number, 3 many, 4 least, 5 most -/
theorem sc_fits : FnScope ["part", "kind", "number", "many", "least", "most"] ["part", "kind", "number", "many"] (defScope s_fits) := ⟨rfl, rfl, rfl, by decide +kernel, rfl, by decide +kernel, by decide +kernel⟩
abbrev s_can_be : Stmt := topS 23
/-- slots: 0 thing, 1 number, 2 many, 3 shape, 4 part, 5 kind -/
theorem sc_can_be : FnScope ["thing", "number", "many", "shape", "part", "kind"] ["thing", "number", "many"] (defScope s_can_be) := ⟨rfl, rfl, rfl, by decide +kernel, rfl, by decide +kernel, by decide +kernel⟩
abbrev s_word_in : Stmt := topS 24
/-- slots: 0 scheme -/
theorem sc_word_in : FnScope ["scheme"] ["scheme"] (defScope s_word_in) := ⟨rfl, rfl, rfl, by decide +kernel, rfl, by decide +kernel, by decide +kernel⟩
abbrev s_within : Stmt := topS 25
/-- slots: 0 scheme, 1 last -/
theorem sc_within : FnScope ["scheme", "last"] ["scheme"] (defScope s_within) := ⟨rfl, rfl, rfl, by decide +kernel, rfl, by decide +kernel, by decide +kernel⟩
abbrev s_placed : Stmt := topS 34
/-- slots: 0 schemes, 1 place, 2 at, 3 scheme -/
theorem sc_placed : FnScope ["schemes", "place", "at", "scheme"] ["schemes", "place"] (defScope s_placed) := ⟨rfl, rfl, rfl, by decide +kernel, rfl, by decide +kernel, by decide +kernel⟩
abbrev s_schemes_in : Stmt := topS 35
/-- slots: 0 paper, 1 number, 2 found, 3 waiting, 4 place, 5 scheme -/
theorem sc_schemes_in : FnScope ["paper", "number", "found", "waiting", "place", "scheme"] ["paper", "number"] (defScope s_schemes_in) := ⟨rfl, rfl, rfl, by decide +kernel, rfl, by decide +kernel, by decide +kernel⟩
abbrev s_many_of : Stmt := topS 36
/-- slots: 0 names, 1 parts, 2 many, 3 number, 4 scheme -/
theorem sc_many_of : FnScope ["names", "parts", "many", "number", "scheme"] ["names", "parts"] (defScope s_many_of) := ⟨rfl, rfl, rfl, by decide +kernel, rfl, by decide +kernel, by decide +kernel⟩
abbrev s_check_paper : Stmt := topS 37
/-- slots: 0 paper, 1 parts, 2 number -/
theorem sc_check_paper : FnScope ["paper", "parts", "number"] ["paper"] (defScope s_check_paper) := ⟨rfl, rfl, rfl, by decide +kernel, rfl, by decide +kernel, by decide +kernel⟩
abbrev s_words_in : Stmt := topS 39
/-- slots: 0 paper, 1 scheme, 2 words, 3 inner -/
theorem sc_words_in : FnScope ["paper", "scheme", "words", "inner"] ["paper", "scheme"] (defScope s_words_in) := ⟨rfl, rfl, rfl, by decide +kernel, rfl, by decide +kernel, by decide +kernel⟩
abbrev s_words_of : Stmt := topS 40
/-- slots: 0 paper -/
theorem sc_words_of : FnScope ["paper"] ["paper"] (defScope s_words_of) := ⟨rfl, rfl, rfl, by decide +kernel, rfl, by decide +kernel, by decide +kernel⟩
abbrev s_View_init : Stmt := inClass (topS 42) 0
/-- slots: 0 self, 1 steps, 2 start, 3 ways -/
theorem sc_View_init : FnScope ["self", "steps", "start", "ways"] ["self", "steps", "start", "ways"] (defScope s_View_init) := ⟨rfl, rfl, rfl, by decide +kernel, rfl, by decide +kernel, by decide +kernel⟩
abbrev s_View_counts : Stmt := inClass (topS 42) 1
/-- slots: 0 self, 1 place, 2 word, 3 step -/
theorem sc_View_counts : FnScope ["self", "place", "word", "step"] ["self", "place", "word"] (defScope s_View_counts) := ⟨rfl, rfl, rfl, by decide +kernel, rfl, by decide +kernel, by decide +kernel⟩
abbrev s_View_first : Stmt := inClass (topS 42) 2
/-- slots: 0 self, 1 word, 2 place -/
theorem sc_View_first : FnScope ["self", "word", "place"] ["self", "word"] (defScope s_View_first) := ⟨rfl, rfl, rfl, by decide +kernel, rfl, by decide +kernel, by decide +kernel⟩
abbrev s_View_last : Stmt := inClass (topS 42) 3
/-- slots: 0 self, 1 word, 2 place -/
theorem sc_View_last : FnScope ["self", "word", "place"] ["self", "word"] (defScope s_View_last) := ⟨rfl, rfl, rfl, by decide +kernel, rfl, by decide +kernel, by decide +kernel⟩
abbrev s_View_stands : Stmt := inClass (topS 42) 4
/-- slots: 0 self, 1 word, 2 step -/
theorem sc_View_stands : FnScope ["self", "word", "step"] ["self", "word"] (defScope s_View_stands) := ⟨rfl, rfl, rfl, by decide +kernel, rfl, by decide +kernel, by decide +kernel⟩
abbrev s_View_behind : Stmt := inClass (topS 42) 5
/-- slots: 0 self, 1 place -/
theorem sc_View_behind : FnScope ["self", "place"] ["self", "place"] (defScope s_View_behind) := ⟨rfl, rfl, rfl, by decide +kernel, rfl, by decide +kernel, by decide +kernel⟩
abbrev s_View_carrying : Stmt := inClass (topS 42) 6
/-- slots: 0 self -/
theorem sc_View_carrying : FnScope ["self"] ["self"] (defScope s_View_carrying) := ⟨rfl, rfl, rfl, by decide +kernel, rfl, by decide +kernel, by decide +kernel⟩
abbrev s_points_of : Stmt := topS 43
/-- slots: 0 rows, 1 place, 2 points, 3 where -/
theorem sc_points_of : FnScope ["rows", "place", "points", "where"] ["rows"] (defScope s_points_of) := ⟨rfl, rfl, rfl, by decide +kernel, rfl, by decide +kernel, by decide +kernel⟩
abbrev s_first_points : Stmt := topS 44
/-- slots: 0 rows, 1 limit, 2 kept, 3 left, 4 place, 5 points, 6 where, 7 taken -/
theorem sc_first_points : FnScope ["rows", "limit", "kept", "left", "place", "points", "where", "taken"] ["rows", "limit"] (defScope s_first_points) := ⟨rfl, rfl, rfl, by decide +kernel, rfl, by decide +kernel, by decide +kernel⟩
abbrev s_row_at : Stmt := topS 45
/-- slots: 0 place, 1 points, 2 where -/
theorem sc_row_at : FnScope ["place", "points", "where"] ["place", "points", "where"] (defScope s_row_at) := ⟨rfl, rfl, rfl, by decide +kernel, rfl, by decide +kernel, by decide +kernel⟩
abbrev s_rows_of_each : Stmt := topS 46
/-- slots: 0 paper, 1 schemes, 2 where, 3 view, 4 at, 5 scheme -/
theorem sc_rows_of_each : FnScope ["paper", "schemes", "where", "view", "at", "scheme"] ["paper", "schemes", "where", "view"] (defScope s_rows_of_each) := ⟨rfl, rfl, rfl, by decide +kernel, rfl, by decide +kernel, by decide +kernel⟩
abbrev s_rows_of_all : Stmt := topS 47
/-- slots: 0 paper, 1 schemes, 2 where, 3 view, 4 rows, 5 row -/
theorem sc_rows_of_all : FnScope ["paper", "schemes", "where", "view", "rows", "row"] ["paper", "schemes", "where", "view"] (defScope s_rows_of_all) := ⟨rfl, rfl, rfl, by decide +kernel, rfl, by decide +kernel, by decide +kernel⟩
abbrev s_rows_of : Stmt := topS 48
/-- slots: 0 paper, 1 scheme, 2 where, 3 view, 4 word, 5 points, 6 schemes, 7 limit, 8 inner, 9 rows, 10 place, 11 number -/
theorem sc_rows_of : FnScope ["paper", "scheme", "where", "view", "word", "points", "schemes", "limit", "inner", "rows", "place", "number"] ["paper", "scheme", "where", "view"] (defScope s_rows_of) := ⟨rfl, rfl, rfl, by decide +kernel, rfl, by decide +kernel, by decide +kernel⟩
abbrev s_earned : Stmt := topS 50
/-- slots: 0 paper, 1 work -/
theorem sc_earned : FnScope ["paper", "work"] ["paper", "work"] (defScope s_earned) := ⟨rfl, rfl, rfl, by decide +kernel, rfl, by decide +kernel, by decide +kernel⟩
abbrev s_marked : Stmt := topS 51
/-- slots: 0 paper, 1 work -/
theorem sc_marked : FnScope ["paper", "work"] ["paper", "work"] (defScope s_marked) := ⟨rfl, rfl, rfl, by decide +kernel, rfl, by decide +kernel, by decide +kernel⟩
abbrev s_L_begun : Stmt := topS 82
/-- slots: 0 _law_script, 1 _law_stirred, 2 _law_cell -/
theorem sc_L_begun : FnScope ["_law_script", "_law_stirred", "_law_cell"] ["_law_script"] (defScope s_L_begun) := ⟨rfl, rfl, rfl, by decide +kernel, rfl, by decide +kernel, by decide +kernel⟩
abbrev s_L_take : Stmt := topS 83
/-- slots: 0 _law_box, 1 _law_many, 2 _law_number -/
theorem sc_L_take : FnScope ["_law_box", "_law_many", "_law_number"] ["_law_box", "_law_many"] (defScope s_L_take) := ⟨rfl, rfl, rfl, by decide +kernel, rfl, by decide +kernel, by decide +kernel⟩
abbrev s_L_alike : Stmt := topS 84
/-- slots: 0 _law_found, 1 _law_due, 2 _law_k -/
theorem sc_L_alike : FnScope ["_law_found", "_law_due", "_law_k"] ["_law_found", "_law_due"] (defScope s_L_alike) := ⟨rfl, rfl, rfl, by decide +kernel, rfl, by decide +kernel, by decide +kernel⟩
abbrev s_L_letters : Stmt := topS 87
/-- slots: 0 _law_box, 1 _law_left, 2 _law_found, 3 _law_turn -/
theorem sc_L_letters : FnScope ["_law_box", "_law_left", "_law_found", "_law_turn"] ["_law_box"] (defScope s_L_letters) := ⟨rfl, rfl, rfl, by decide +kernel, rfl, by decide +kernel, by decide +kernel⟩
abbrev s_L_scheme : Stmt := topS 88
/-- slots: 0 _law_box, 1 _law_letters_here, 2 _law_left, 3 _law_deep, 4 _law_uses, 5 _law_word, 6 _law_way, 7 _law_one, 8 _law_some, 9 _law_kids, 10 _law_turn -/
theorem sc_L_scheme : FnScope ["_law_box", "_law_letters_here", "_law_left", "_law_deep", "_law_uses", "_law_word", "_law_way", "_law_one", "_law_some", "_law_kids", "_law_turn"] ["_law_box", "_law_letters_here", "_law_left", "_law_deep", "_law_uses"] (defScope s_L_scheme) := ⟨rfl, rfl, rfl, by decide +kernel, rfl, by decide +kernel, by decide +kernel⟩
abbrev s_L_counted : Stmt := topS 89
/-- slots: 0 _law_scheme_here, 1 _law_uses, 2 _law_found, 3 _law_kid, 4 _law_more, 5 _law_one -/
theorem sc_L_counted : FnScope ["_law_scheme_here", "_law_uses", "_law_found", "_law_kid", "_law_more", "_law_one"] ["_law_scheme_here", "_law_uses"] (defScope s_L_counted) := ⟨rfl, rfl, rfl, by decide +kernel, rfl, by decide +kernel, by decide +kernel⟩
abbrev s_L_paper : Stmt := topS 90
/-- slots: 0 _law_box, 1 _law_letters_here, 2 _law_left, 3 _law_words, 4 _law_turn, 5 _law_steps, 6 _law_whole, 7 _law_many, 8 _law_found, 9 _law_uses, 10 _law_number, 11 _law_scheme_here, 12 _law_word -/
theorem sc_L_paper : FnScope ["_law_box", "_law_letters_here", "_law_left", "_law_words", "_law_turn", "_law_steps", "_law_whole", "_law_many", "_law_found", "_law_uses", "_law_number", "_law_scheme_here", "_law_word"] ["_law_box", "_law_letters_here"] (defScope s_L_paper) := ⟨rfl, rfl, rfl, by decide +kernel, rfl, by decide +kernel, by decide +kernel⟩
abbrev s_parts_of : Stmt := topS 38
/-- slots: 0 paper, 1 scheme -/
theorem sc_parts_of : FnScope ["paper", "scheme"] ["paper", "scheme"] (defScope s_parts_of) := ⟨rfl, rfl, rfl, by decide +kernel, rfl, by decide +kernel, by decide +kernel⟩
abbrev s_rows_by : Stmt := topS 49
/-- slots: 0 paper, 1 work -/
theorem sc_rows_by : FnScope ["paper", "work"] ["paper", "work"] (defScope s_rows_by) := ⟨rfl, rfl, rfl, by decide +kernel, rfl, by decide +kernel, by decide +kernel⟩
abbrev FnP (K : PySem.W.Frag) (x : Str) (st : Stmt) (f : Addr) (fd : FuncData) : Prop := FunD K x x (defArgs st) (defBody st) (defScope st) [] [] f fd
/-- a def of the text: where it stands, by which name it is called -/
structure Def (K : PySem.W.Frag) (mg : Str → Option Value) (x : Str) (st : Stmt) (ps : List Str) where
  f : Addr
  fd : FuncData
  F : FnP K x st f fd
  g : mg x = some (.ref f)
  b : Binds K fd ps []
theorem pcall {X : Cx} {x : Str} {st : Stmt} {ps : List Str} {k : Nat} {sp : Sp} {e : Expr} {es : List Expr} {t : TA} {p pos : Pos} (D : Def X.K X.mg x st ps) (G : FnOk X.prog X.w X.K X.mg X.base CX0 k D.f D.fd ps sp) (hr : Room k X.A)
    (ha : PA X (e :: es) t) (hg : Gl X x := by rfl) (hdb : (x == ("__debug__" : Str)) = false := by decide) (he : starEach (e :: es) X.env = (false, eval e X.env) :: starEach es X.env := by rfl) (hpl : (backTo pos (starEach es X.env)).any (·.1) = false := by rfl) : PE X (.Call (.Name x p) (e :: es) [] pos) (tCall sp [] E0 t) :=
  pe_call G hr hg D.g D.F.kp D.b .nil pass0 ha hdb he hpl

/-- THE RULE for a def that lets nothing out -/
theorem Def.ok {P : Program} {w : World} {K : PySem.W.Frag} {mg : Str → Option Value} {base : Heap} {x : Str} {st : Stmt} {ps N : List Str} {k : Nat} {sp : Sp} (D : Def K mg x st ps) (S : FnScope N ps (defScope st)) (len : ∀ vs H Q E, sp vs H Q E → vs.length = ps.length)
    (hbody : ∀ (cdv : Value) (A : Around) (outer : List Env) (s : Shared) (H : Hp) (vs : List V) (Q : VK) (E : XK), Room k (A.deeper (PyProof.Rows.envOfC x (defScope st) s.heap.objs.size D.f cdv)) → sp vs H Q E →
      ∃ t, PSs (cxOf CX0 P w K mg base N x (defScope st) D.f cdv A outer s H E).nox (defBody st) t ∧ t { nx := fun _ H' => Q .non H', rt := Q } (start N vs) H) : FnOk P w K mg base CX0 (k + 1) D.f D.fd ps sp :=
  D.F.ok S len fun cdv A outer s H vs Q E hr hsp => by
    obtain ⟨t, h, q⟩ := hbody cdv A outer s H vs Q E hr hsp
    exact ⟨t, h.nox, q⟩

/-! ### what stays -/
/-- all but what stands at these addresses is as it was -/
def Keep (S : List Addr) (H H' : Hp) : Prop := ∀ a o, H a = some o → a ∉ S → H' a = some o
theorem Keep.refl (S : List Addr) (H : Hp) : Keep S H H := fun _ _ h _ => h
theorem Keep.trans {S : List Addr} {H H1 H2 : Hp} (a : Keep S H H1) (b : Keep S H1 H2) : Keep S H H2 := fun c o h n => b c o (a c o h n) n
theorem Keep.mono {S T : List Addr} {H H' : Hp} (a : Keep S H H') (h : ∀ x ∈ S, x ∈ T) : Keep T H H' := fun c o e n => a c o e fun z => n (h c z)
theorem Keep.same {H H' : Hp} (a : Keep [] H H') : Same H H' := fun b o h => a b o h (by simp)
theorem Same.keep {S : List Addr} {H H' : Hp} (a : Same H H') : Keep S H H' := fun b o h _ => a b o h
theorem Keep.new {S : List Addr} {H : Hp} {p : Addr} {o : HO} (h : H p = none) : Keep S H (upd H p o) := fun b u q _ => by rw [upd_ne (ne_of_none q h)]; exact q
theorem Same.new {H : Hp} {p : Addr} {o : HO} (h : H p = none) : Same H (upd H p o) := fun b u q => by rw [upd_ne (ne_of_none q h)]; exact q
theorem Keep.put {S : List Addr} {H : Hp} {p : Addr} {o : HO} (h : p ∈ S) : Keep S H (upd H p o) := fun b u q n => by rw [upd_ne (fun z => n (by rw [z]; exact h))]; exact q
theorem Keep.free {S : List Addr} {H H' : Hp} (e : Keep S H H') {l : Addr} (h : H' l = none) (hS : ∀ x ∈ S, H x ≠ none → H' x ≠ none) : H l = none := by
  cases q : H l with
  | none => rfl
  | some o =>
    by_cases m : l ∈ S
    · exact absurd h (hS l m (by rw [q]; exact fun z => nomatch z))
    · rw [e l o q m] at h; cases h

/-! ### data that may be compared -/
def ShN (n : Nat) (d : PyData) : Prop := d.canLay0 = true ∧ d.depth ≤ n
def ShAll (n : Nat) (ds : List PyData) : Prop := PyData.canLayAll0 ds = true ∧ PyData.depthAll ds ≤ n
theorem ShAll.nil {n : Nat} : ShAll n [] := ⟨rfl, Nat.zero_le _⟩
theorem ShAll.cons {n : Nat} {d : PyData} {ds : List PyData} (h : ShN n d) (r : ShAll n ds) : ShAll n (d :: ds) :=
  ⟨by rw [PyData.canLayAll0, h.1, r.1]; rfl, by rw [PyData.depthAll]; exact Nat.max_le.mpr ⟨h.2, r.2⟩⟩
theorem ShN.int {n : Nat} (i : Int) : ShN n (.int i) := ⟨by rw [PyData.canLay0], by rw [PyData.depth]; exact Nat.zero_le _⟩
theorem ShN.str {n : Nat} {x : Str} (h : PyData.strOk x = true) : ShN n (.str x) := ⟨by rw [PyData.canLay0]; exact h, by rw [PyData.depth]; exact Nat.zero_le _⟩
theorem ShN.lst {n : Nat} {ds : List PyData} (h : ShAll n ds) : ShN (n + 1) (.list ds) := ⟨by rw [PyData.canLay0]; exact h.1, by rw [PyData.depth]; exact Nat.succ_le_succ h.2⟩
theorem ShN.tup {n : Nat} {ds : List PyData} (h : ShAll n ds) : ShN (n + 1) (.tuple ds) := ⟨by rw [PyData.canLay0]; exact h.1, by rw [PyData.depth]; exact Nat.succ_le_succ h.2⟩
theorem ShN.mono {n m : Nat} {d : PyData} (h : ShN n d) (hm : n ≤ m) : ShN m d := ⟨h.1, Nat.le_trans h.2 hm⟩
theorem ShN.ok {n : Nat} {d : PyData} (h : ShN n d) (hn : n ≤ 64) : SeqAt.shaped d = true := by
  unfold SeqAt.shaped
  rw [h.1, decide_eq_true (Nat.le_trans h.2 hn)]
  rfl
theorem ShAll.of {n : Nat} : ∀ {ds : List PyData}, (∀ d ∈ ds, ShN n d) → ShAll n ds
  | [], _ => .nil
  | d :: r, h => .cons (h d List.mem_cons_self) (ShAll.of fun e he => h e (List.mem_cons_of_mem _ he))
theorem sh_ints (n : Nat) (ns : List Int) : ShAll n (ns.map PyData.int) := ShAll.of fun d h => by
  obtain ⟨i, _, rfl⟩ := List.mem_map.mp h
  exact .int i
/-! ### the box of draws: the script's numbers left, and the number behind them -/
def Box (H : Hp) (b l : Addr) : Prop := b ≠ l ∧ (∃ n : Int, H b = some (.lst [.ref l, .int n])) ∧ ∃ ns : List Int, H l = some (.lst (ns.map V.int))
theorem Box.keep {S : List Addr} {H H' : Hp} {b l : Addr} (h : Box H b l) (k : Keep S H H') (hb : b ∉ S) (hl : l ∉ S) : Box H' b l := by
  obtain ⟨ne, ⟨n, e1⟩, ns, e2⟩ := h
  exact ⟨ne, ⟨n, k _ _ e1 hb⟩, ns, k _ _ e2 hl⟩
def spTake : Sp := fun vs H Q _ => ∃ (b l : Addr) (m : Int), vs = [.ref b, .int m] ∧ 0 < m ∧ m < 1073741824 ∧ Box H b l ∧
  ∀ (r : Int) (H' : Hp), 0 ≤ r → r < m → Box H' b l → Keep [b, l] H H' → Q (.int r) H'
section
variable {P : Program} {w : World} {K : PySem.W.Frag} {mg : Str → Option Value} {base : Heap}
theorem dp_ints {K : PySem.W.Frag} {H : Hp} : ∀ ns : List Int, DpAll K H (ns.map V.int) (ns.map PyData.int)
  | [] => .nil
  | n :: r => .cons (.int n) (dp_ints r)
theorem at0 {x : V} {xs : List V} : atI (x :: xs) 0 = some x := at_of rfl rfl
theorem at1 {x y : V} {xs : List V} : atI (x :: y :: xs) 1 = some y := at_of rfl rfl
theorem at2 {x y z : V} {xs : List V} : atI (x :: y :: z :: xs) 2 = some z := at_of rfl rfl
theorem ix0 {n : Nat} : ixN (n + 1) 0 = some 0 := by
  unfold ixN
  rw [if_pos (by omega), if_pos (by omega)]
  rfl
theorem seq0 {n : Nat} : seqIndex? 0 (n + 1) = some 0 := (ixN_seq ix0).1
theorem ok_take (D : Def K mg "_law_take" s_L_take ["_law_box", "_law_many"]) : FnOk P w K mg base CX0 1 D.f D.fd ["_law_box", "_law_many"] spTake := by
  refine D.ok sc_L_take (fun vs H Q E h => ?_) (fun cdv A outer s H vs Q E hr h => ?_)
  · obtain ⟨b, l, m, rfl, _⟩ := h
    rfl
  obtain ⟨b, l, m, rfl, m0, m1, ⟨nbl, ⟨n, eb⟩, ns, el⟩, q⟩ := h
  refine ⟨_, pss_cons (ps_if (pt_cmpR (op_eqD hr.units) (pe_ix ix_list (pv 0) pe_int (fun _ _ => rfl)) (pe_lst pa_nil) (nomark _))
      (pss_cons (ps_asg (pe_op op_mod (pe_op op_mul (pe_ix ix_list (pv 0) pe_int (fun _ _ => rfl)) pe_int) pe_int) (pg_sub (pv 0) pe_int set_list))
        (pss_one (ps_ret (pe_op op_mod (pe_op op_fdiv (pe_ix ix_list (pv 0) pe_int (fun _ _ => rfl)) pe_int) (pv 1))))) pss_nil)
    (pss_cons (ps_set (i := 2) sc_L_take.nd rfl (Or.inl rfl) (pe_ix ix_list (pe_ix ix_list (pv 0) pe_int (fun _ _ => rfl)) pe_int (fun _ _ => rfl)))
    (pss_cons (ps_asg (pe_op op_fdiv (pv 2) (pv 1)) (pg_sub (pe_ix ix_list (pv 0) pe_int (fun _ _ => rfl)) pe_int set_list))
    (pss_cons (ps_if (PW.pt (pw_or (pt_cmpR op_eq (pe_ix ix_list (pe_ix ix_list (pv 0) pe_int (fun _ _ => rfl)) pe_int (fun _ _ => rfl)) pe_int (nomark _))
        (pw_or1 (pt_cmpR op_eq (pe_ix ix_list (pe_ix ix_list (pv 0) pe_int (fun _ _ => rfl)) pe_int (fun _ _ => rfl)) (pe_un un_neg pe_int) (nomark _)))))
        (pss_one (ps_expr (pe_bm PySem.F.plainAttrs_list PySem.F.slot_list_pop PySem.F.type_list_pop mt_popAt (pe_ix ix_list (pv 0) pe_int (fun _ _ => rfl)) (pa_cons pe_int pa_nil)))) pss_nil)
    (pss_one (ps_ret (pe_op op_mod (pv 2) (pv 1))))))), ?_⟩
  refine ⟨_, rfl, b, _, 0, .ref l, rfl, rfl, SqL.of eb, rfl, ?_⟩
  refine ⟨Nat.zero_le _, fun p hp => ?_⟩
  have nlp : l ≠ p := ne_of_none el hp
  have nbp : b ≠ p := ne_of_none eb hp
  have eb1 : upd H p (.lst []) b = some (.lst [.ref l, .int n]) := by rw [upd_ne nbp]; exact eb
  have el1 : upd H p (.lst []) l = some (.lst (ns.map V.int)) := by rw [upd_ne nlp]; exact el
  have k1 : Keep [b, l] H (upd H p (.lst [])) := Keep.new hp
  refine ⟨.list (ns.map PyData.int), .list [], .lst (SqL.of el1) (dp_ints ns), .lst (SqL.of upd_same) .nil, ?_, rfl, ?_⟩
  · exact (ShN.lst (sh_ints 0 ns)).ok (by decide)
  refine ⟨_, rfl, ?_⟩
  refine ite2 (fun c => ?_) (fun c => ?_)
  · refine ⟨_, rfl, b, _, 1, .int n, rfl, rfl, SqL.of eb1, rfl, _, _, rfl, rfl, .inr ⟨by decide, by decide⟩, _, _, rfl, rfl, (by show (0 : Int) < 2147483647; decide), ?_⟩
    refine ⟨_, rfl, b, _, 1, 1, rfl, rfl, eb1, rfl, ?_⟩
    refine ⟨_, rfl, b, _, 1, _, rfl, rfl, SqL.of upd_same, rfl, _, _, rfl, rfl, ⟨by decide, by decide⟩, _, rfl, _, _, rfl, rfl, m0, ?_⟩
    refine q _ _ (Int.emod_nonneg _ (by omega)) (Int.emod_lt_of_pos _ m0) ⟨nbl, ⟨_, upd_same⟩, ns, ?_⟩ (k1.trans (Keep.put (by simp)))
    rw [upd_ne nbl.symm]
    exact el1
  · have hne : ns ≠ [] := fun z => c (by rw [z]; rfl)
    obtain ⟨z, r, rfl⟩ : ∃ z r, ns = z :: r := by
      cases ns with
      | nil => exact absurd rfl hne
      | cons z r => exact ⟨z, r, rfl⟩
    refine ⟨_, rfl, b, _, 0, .ref l, rfl, rfl, SqL.of eb1, rfl, l, _, 0, .int z, rfl, rfl, SqL.of el1, at0, ?_⟩
    refine ⟨_, rfl, _, rfl, _, _, rfl, rfl, ⟨m0, m1⟩, _, rfl, b, _, 0, .ref l, rfl, rfl, SqL.of eb1, rfl, l, _, 0, 0, rfl, rfl, el1, ix0, ?_⟩
    have eb2 : ∀ o, upd (upd H p (.lst [])) l o b = some (.lst [.ref l, .int n]) := fun o => by rw [upd_ne nbl]; exact eb1
    refine ⟨_, rfl, b, _, 0, .ref l, rfl, rfl, SqL.of (eb2 _), rfl, l, _, 0, .int (z / m), rfl, rfl, SqL.of upd_same, at0, rfl, _, rfl, ?_⟩
    have fin : ∀ (H' : Hp), Box H' b l → Keep [b, l] H H' → Q (.int (z % m)) H' := fun H' B k => q _ _ (Int.emod_nonneg _ (by omega)) (Int.emod_lt_of_pos _ m0) B k
    have k2 : ∀ o, Keep [b, l] H (upd (upd H p (.lst [])) l o) := fun o => k1.trans (Keep.put (by simp))
    refine ite2 (fun c2 => ?_) (fun c2 => ?_)
    · refine iteT ⟨_, rfl, b, _, 0, .ref l, rfl, rfl, SqL.of (eb2 _), rfl, .inl ⟨rfl, _, SqL.of upd_same⟩, l, _, 0, 0, _, rfl, rfl, upd_same, by decide, by decide, seq0, rfl, ?_⟩
      refine ⟨_, rfl, _, rfl, _, _, rfl, rfl, m0, fin _ ⟨nbl, ⟨n, by rw [upd_ne nbl]; exact eb2 _⟩, r, upd_same⟩ ((k2 _).trans (Keep.put (by simp)))⟩
    · refine ⟨_, rfl, b, _, 0, .ref l, rfl, rfl, SqL.of (eb2 _), rfl, l, _, 0, .int (z / m), rfl, rfl, SqL.of upd_same, at0, _, rfl, rfl, _, rfl, ?_⟩
      by_cases c3 : decide (V.int (z / m) = V.int (-1)) = true
      · show (if decide (V.int (z / m) = V.int (-1)) = true then _ else _)
        rw [if_pos c3]
        refine ⟨_, rfl, b, _, 0, .ref l, rfl, rfl, SqL.of (eb2 _), rfl, .inl ⟨rfl, _, SqL.of upd_same⟩, l, _, 0, 0, _, rfl, rfl, upd_same, by decide, by decide, seq0, rfl, ?_⟩
        refine ⟨_, rfl, _, rfl, _, _, rfl, rfl, m0, fin _ ⟨nbl, ⟨n, by rw [upd_ne nbl]; exact eb2 _⟩, r, upd_same⟩ ((k2 _).trans (Keep.put (by simp)))⟩
      · show (if decide (V.int (z / m) = V.int (-1)) = true then _ else _)
        rw [if_neg c3]
        refine ⟨_, rfl, _, rfl, _, _, rfl, rfl, m0, fin _ ⟨nbl, ⟨n, eb2 _⟩, (z / m) :: r, upd_same⟩ (k2 _)⟩
end
end MS
end
section
set_option maxRecDepth 100000
set_option maxHeartbeats 4000000
namespace HeY
open PySem PySem.Spec PyProof.Rows L2 He
/-! the same facts, looked up at addresses that are written down -/
def obsZ (as : List Addr) (fa : List Fa) (fn : List DefD) (ts : List Tab) (tf : List Defn) (xs : List InD) (ex : PySem.W.Frag → Bool) (g : Addr → Option Obj) : AlY :=
  ((obsT fa fn ts (frT g as), ex (frT g as) && tabsB g tf (frT g as)), xs.map fun d => fnY (frT g as) d.cls)
theorem saysZ_of {as : List Addr} {fa : List Fa} {fn : List DefD} {ts : List Tab} {tf : List Defn} {xs : List InD} {ex : PySem.W.Frag → Bool} {w : World} {h : Heap} (e : obsZ as fa fn ts tf xs ex h.get? = valY fn ts xs w) : SaysY fa fn ts tf xs ex w h (frT h.get? as) := by
  have e0 : (obsT fa fn ts (frT h.get? as), ex (frT h.get? as) && tabsB h.get? tf (frT h.get? as)) = valX fn ts w := congrArg (fun z : AlY => z.1) e
  have e3 : xs.map (fun d => fnY (frT h.get? as) d.cls) = xs.map InD.val := congrArg (fun z : AlY => z.2) e
  obtain ⟨m1, m2⟩ := ba (show (ex (frT h.get? as) && tabsB h.get? tf (frT h.get? as)) = true from congrArg (fun z : AlX => z.2) e0)
  have at_ : ∀ p ∈ tf, PySem.W.codeHdIn (frT h.get? as) (cT (frT h.get? as) p).1 (cT (frT h.get? as) p).2 = true ∧ ∃ o, h.get? (cT (frT h.get? as) p).2 = some o ∧ emptyTab o = true := fun p hp => by
    have b := ba (List.all_eq_true.mp m2 p hp)
    refine ⟨b.1, ?_⟩
    have b2 := b.2
    cases q : h.get? (cT (frT h.get? as) p).2 with
    | none => rw [q] at b2; cases b2
    | some o => rw [q] at b2; exact ⟨o, rfl, b2⟩
  refine ⟨⟨congrArg (fun z : AlX => z.1) e0, m1, fun p hp => (at_ p hp).1, fun p hp => ?_, fun p hp => ?_⟩, e3⟩
  · obtain ⟨o, q, z⟩ := (at_ p hp).2
    exact frT_none q z
  · obtain ⟨o, q, z⟩ := (at_ p hp).2
    rw [q, emptyTab_eq z]
abbrev hookZ (as : List Addr) (fa : List Fa) (fn : List DefD) (ts : List Tab) (tf : List Defn) (xs : List InD) (ex : PySem.W.Frag → Bool) : PySem.W.Hook := {
  α := AlY
  obs := fun s => obsZ as fa fn ts tf xs ex s.heap.get?
  val := fun w => valY fn ts xs w
  says := fun w h => ∃ K : PySem.W.Frag, K.In h ∧ SaysY fa fn ts tf xs ex w h K
  of := fun _ _ e => ⟨_, frT_in, saysZ_of e⟩
  keeps := fun _ _ _ ⟨K, hK, c⟩ k => ⟨K, PySem.W.Frag.In.keeps hK k, ⟨⟨c.x.t, c.x.more, c.x.hd, c.x.out, fun p hp => k _ _ (c.x.empty p hp)⟩, c.inits⟩⟩ }
theorem obsZ_eq {as : List Addr} {fa : List Fa} {fn : List DefD} {ts : List Tab} {tf : List Defn} {xs : List InD} {ex : PySem.W.Frag → Bool} {g : Addr → Option Obj} {s : Shared} (h : ∀ a, g a = s.heap.get? a) : obsZ as fa fn ts tf xs ex g = (hookZ as fa fn ts tf xs ex).obs s := by
  have e : g = s.heap.get? := funext h
  rw [e] <;> rfl
end HeY
end
section
set_option maxRecDepth 100000
set_option maxHeartbeats 0
namespace K3H
open PySem PySem.W PySem.Calls PyProof.Rows
abbrev R : OpenRow := OpenLaw.row PySem.Challenge.rw_markscript_k01_papers_refused
abbrev qv : Program := view R.prog [95]
def names0 : List PySem.Str := ["_wall", "MarkError", "BadPaper", "BadWork", "BadStep", "BadCount", "NoWork", "BadText", "WORDS", "RIGHT", "WRONG", "CARRIED", "MOST_STEPS", "is_step", "check_work", "SHAPES", "BOUNDS", "MOST_WITHIN", "is_number", "fits", "can_be", "word_in", "within", "MOST_IN_PAPER", "MOST_IN_SCHEME", "LONGEST_PLACE", "EARNERS"]
def names1 : List PySem.Str := ["MOST_EARNERS", "WATCHERS", "MOST_WATCHERS", "placed", "schemes_in", "many_of", "check_paper", "parts_of", "words_in", "words_of", "View", "points_of", "first_points", "row_at", "rows_of_each", "rows_of_all", "rows_of", "rows_by", "earned", "marked", "Watch", "add_watches", "watches_of", "state_behind", "state_of", "steps_of", "may_come"]
def names2 : List PySem.Str := ["explored", "points_by", "numbered", "finer", "levels_of", "moved", "parting_steps", "parted", "span", "earners_in", "earnable", "is_place", "Heap", "spare_of", "made", "words_written", "written", "_law_begun", "_law_take", "_law_alike", "_law_told", "_law_all", "_law_letters", "_law_scheme", "_law_counted", "_law_paper", "_law_odd"]
def names3 : List PySem.Str := ["_law_spoilt", "_law_great", "_law_doors"]
def names : List PySem.Str := names0 ++ names1 ++ names2 ++ names3
/-- a def of the top -/
def dG (x : PySem.Str) (st : Stmt) : He.DefD := ⟨(x, none), x, x, L2.defArgs st, L2.defBody st, L2.defScope st, [], []⟩
def fn0 : List He.DefD := [dG "is_number" MS.s_is_number, dG "fits" MS.s_fits, dG "can_be" MS.s_can_be, dG "word_in" MS.s_word_in, dG "within" MS.s_within, dG "placed" MS.s_placed, dG "schemes_in" MS.s_schemes_in, dG "many_of" MS.s_many_of, dG "check_paper" MS.s_check_paper, dG "parts_of" MS.s_parts_of, dG "words_in" MS.s_words_in, dG "words_of" MS.s_words_of, dG "points_of" MS.s_points_of, dG "earned" MS.s_earned, dG "marked" MS.s_marked, dG "parted" (MS.topS 68), dG "span" (MS.topS 69), dG "earnable" (MS.topS 71)]
def fn1 : List He.DefD := [dG "made" (MS.topS 77), dG "written" (MS.topS 80), dG "_law_begun" MS.s_L_begun, dG "_law_take" MS.s_L_take, dG "_law_alike" MS.s_L_alike, dG "_law_told" (MS.topS 85), dG "_law_all" (MS.topS 86), dG "_law_letters" MS.s_L_letters, dG "_law_scheme" MS.s_L_scheme, dG "_law_counted" MS.s_L_counted, dG "_law_paper" MS.s_L_paper, dG "_law_odd" (MS.topS 91), dG "_law_spoilt" (MS.topS 92), dG "_law_great" (MS.topS 93), dG "_law_doors" (MS.topS 94), dG "law" (MS.topS 95)]
/-- a method of a class of the top -/
def dM (C m q : PySem.Str) (st : Stmt) : He.DefD := ⟨(C, some m), m, q, L2.defArgs st, L2.defBody st, L2.defScope st, [], []⟩
def fn2 : List He.DefD := [dM "Heap" "__init__" "Heap.__init__" (L2.inClass (MS.topS 74) 0)]
def fn : List He.DefD := fn0 ++ (fn1 ++ (fn2))
def glo0 : List PySem.Str := ["MarkError", "BadPaper", "BadWork", "BadStep", "BadCount", "NoWork", "BadText", "WORDS", "SHAPES", "BOUNDS", "is_number", "fits", "can_be", "word_in", "within", "EARNERS", "WATCHERS", "placed", "schemes_in", "many_of", "check_paper", "parts_of"]
def glo1 : List PySem.Str := ["words_in", "words_of", "points_of", "earned", "marked", "Watch", "parted", "span", "earnable", "Heap", "made", "written", "_law_begun", "_law_take", "_law_alike", "_law_told", "_law_all", "_law_letters", "_law_scheme", "_law_counted", "_law_paper", "_law_odd"]
def glo2 : List PySem.Str := ["_law_spoilt", "_law_great", "_law_doors", "law"]
def gloL : List PySem.Str := glo0 ++ glo1 ++ glo2
def freeL : List PySem.Str := ["len", "list", "range", "tuple", "int", "isinstance", "any", "all", "zip", "enumerate", "str", "bool", "min", "max", "sum", "sorted", "set", "reversed", "super", "ValueError"]
def errL : List PySem.Str := ["BadPaper", "BadWork", "BadStep", "BadCount", "NoWork", "BadText"]
def restA : List He.Fa := [.str "RIGHT" "r", .str "WRONG" "w", .str "CARRIED" "c", .int "MOST_STEPS" 12, .int "MOST_WITHIN" 4, .int "MOST_IN_PAPER" 5, .int "MOST_IN_SCHEME" 12, .int "LONGEST_PLACE" 4, .int "MOST_EARNERS" 7, .int "MOST_WATCHERS" 3, .noat "BadPaper" "scheme", .noat "BadPaper" "place", .noat "BadWork" "number", .noat "BadText" "place",
  .mkr "Heap"]
def restB : List He.Fa := [.meth "Heap" "__init__"]
def restF : List He.Fa := restA ++ restB
def fa : List He.Fa := gloL.map .glo ++ (freeL.map .free ++ (restF ++ errL.map fun x => .exm x "MarkError" true))
/-- what stands at a key of a dict of the top, if it is an object -/
def inD (x k : PySem.Str) (K : Frag) : Addr := match nsIn K (He.ga K x) k with
  | some (some (.ref a)) => a
  | _ => 0
/-- a tuple of these stands there -/
def tupAt (K : Frag) (a : Addr) (vs : List L2.V) : Bool := match K.lookup a with
  | some ⟨.type c, _, .seq its _, _⟩ => decide (c = "tuple") && (decide (its.size ≤ sizeLine) && He.relAll vs its.toList)
  | _ => false
def entB (x : PySem.Str) (k : PySem.Str) (vs : List L2.V) (K : Frag) : Bool := He.eqO (nsIn K (He.ga K x) k) (some (some (.ref (inD x k K)))) && tupAt K (inD x k K) vs
def shapesV : List (PySem.Str × List L2.V) := [("step", [.str "word", .str "points"]), ("all", [.str "schemes"]), ("best", [.str "schemes"]), ("most", [.str "limit", .str "scheme"]), ("half", [.str "scheme"]), ("seen", [.str "word", .str "scheme"]), ("behind", [.str "word", .str "scheme"]), ("carry", [.str "scheme"]), ("end", [.str "word", .str "points", .str "scheme"]), ("use", [.str "later"])]
def boundsV : List (PySem.Str × List L2.V) := [("points", [.int 1, .int 9]), ("limit", [.int 0, .int 30])]
def wordsD : List He.Dv := [.str "a", .str "b", .str "c", .str "d", .str "e", .str "f", .str "g", .str "h"]
/-- what is asked of an error caught -/
def excCB (K : Frag) (D : Addr) : Bool := He.eqO (findIn K (.ref D) "__getattribute__") (some (some (.builtin "BaseException.__getattribute__"))) && (He.eqO (findIn K (.ref D) "__getattr__") (some none) && (decide (subIn K (.ref D) (.type "BaseException") = some true) && (hasDictIn K D &&
  (He.eqO (findIn K (.ref D) "__class__") (some (some (.builtin "object.__class__"))) && (He.eqO (specialIn K (.builtin "object.__class__") "__get__") (some (some (.builtin "getset_descriptor.__get__"))) && (decide (takesIn K (.builtin "object.__class__") = some true) && decide (mroIn K D (.type "object") = some true)))))))
def kitB (K : Frag) (i : Nat) : Bool := (List.range 6).all fun j => decide (kitOne K (.ref (He.ga K (errL.getD i ""))) (.ref (He.ga K (errL.getD j ""))) = some (decide (i = j)))
def errB (K : Frag) (i : Nat) : Bool := excCB K (He.ga K (errL.getD i "")) && (kitB K i && (decide (kitOne K (.ref (He.ga K (errL.getD i ""))) (.type "ValueError") = some true) && L2.xfB K (He.ga K (errL.getD i ""))))
def noDfl (K : Frag) (f : Addr) : Bool := match K.lookup f with
  | some ⟨_, _, .func fd, _⟩ => decide (fd.defaults = .none)
  | _ => false
def file : PySem.Str := R.prog.main.file
def initB (K : Frag) (x qn : PySem.Str) : Bool := HeY.supB K file x qn && noDfl K (He.ma K (He.ga K x) "__init__")
def exT (K : Frag) : Bool := He.eqO (nsIn K (He.ga K "SHAPES") "Step") (some none) && (He.tupB K "WORDS" wordsD && (He.tupB K "EARNERS" [.str "step", .str "end"] && (He.tupB K "WATCHERS" [.str "seen", .str "behind"] && (shapesV.all (fun p => entB "SHAPES" p.1 p.2 K) && boundsV.all (fun p => entB "BOUNDS" p.1 p.2 K)))))
def ex (K : Frag) : Bool := exT K && ((List.range 6).all (errB K) && initB K "BadPaper" "BadPaper.__init__")
def ts : List He.Tab := [(fun K => He.ga K "SHAPES", shapesV.map (·.1)), (fun K => He.ga K "BOUNDS", boundsV.map (·.1))]
def tf : List He.Defn := [("_law_doors", none)]
def xs : List HeY.InD := [(⟨"BadPaper", "BadPaper.__init__", L2.defArgs (L2.inClass (MS.topS 3) 0), L2.defBody (L2.inClass (MS.topS 3) 0), L2.defScope (L2.inClass (MS.topS 3) 0)⟩ : HeY.InD)]
/-- where the top's names, their classes' methods and the code of these stand, when the top has run -/
def asL : List Addr := [3, 2, 31, 53, 74, 86, 98, 110, 131, 301, 384, 582, 0, 1, 6, 24, 30, 37, 52, 58, 73, 79, 85, 91, 97, 103, 109, 115, 130, 149, 160, 247, 300, 363, 383, 505, 581, 21, 20, 50, 49, 71, 70, 128, 127, 141, 140, 148, 147, 169, 168, 176, 175, 181, 180, 188, 187, 195, 194, 202, 201, 209, 208, 216, 215, 223, 222, 230, 229, 237, 236, 244, 243, 258, 257, 265, 264, 272, 271, 279, 278, 284, 283, 291, 290, 298, 297, 310, 309, 317, 316, 324, 323, 329, 328, 334, 333, 339, 338, 346, 345, 353, 352, 360, 359, 374, 373, 381, 380, 395, 394, 402, 401, 409, 408, 416, 415, 421, 420, 428, 427, 435, 434, 440, 439, 447, 446, 452, 451, 459, 458, 464, 463, 469, 468, 476, 475, 483, 482, 490, 489, 495, 494, 502, 501, 516, 515, 523, 522, 530, 529, 537, 536, 544, 543, 551, 550, 558, 557, 565, 564, 572, 571, 579, 578, 591, 590, 596, 595, 603, 602, 608, 607, 615, 614, 622, 621, 629, 628, 636, 635, 641, 640, 648, 647, 653, 652, 658, 657, 663, 662, 670, 669, 677, 676, 684, 683, 691, 690, 698, 697, 9, 12, 13, 23, 27, 32, 33, 34, 36, 38, 40, 41, 54, 55, 57, 59, 61, 62, 75, 76, 78, 82, 87, 88, 90, 94, 99, 100, 102, 106, 111, 112, 114, 116, 118, 119, 132, 133, 134, 150, 151, 152, 153, 154, 155, 156, 157, 158, 159, 161, 162, 196, 197, 246, 249, 250, 302, 303, 304, 305, 362, 365, 366, 385, 386, 387, 388, 504, 507, 508, 583, 584, 585, 586]
abbrev hk : Hook := HeY.hookZ asL fa fn ts tf xs ex
def ob (s : SharedT) : HeY.AlY := HeY.obsZ asL fa fn ts tf xs ex (HandSHeadRun.getT s)
theorem ob_eq (s : SharedT) : ob s = hk.obs s.abs := HeY.obsZ_eq (HandSHeadRun.getT_eq s)
theorem cmb2 {α β γ δ : Type} {x : Option α} {f : α → β} {g : α → γ} {h : α → δ} {a : β} {b : γ} {c : δ} (h1 : x.map (fun s => (f s, g s)) = some (a, b)) (h3 : x.map h = some c) : x.map (fun s => (f s, g s, h s)) = some (a, b, c) := by
  cases x with
  | none => cases h1
  | some y =>
    have e := Option.some.inj h1
    have e1 : f y = a := congrArg (fun z => z.1) e
    have e2 : g y = b := congrArg (fun z => z.2) e
    have e3 := Option.some.inj h3
    show some (f y, g y, h y) = _
    rw [e1, e2, e3]
noncomputable abbrev endS (w : World) (os : OsState) : Option SharedT := HandSHeadRun.endF (HandSHeadRun.stepQ (HandSHeadRun.denQ HandSHeadRun.tabQ) R.prog w) 6000 R.prog w os
theorem runF1 (w : World) (os : OsState) : (endS (w.withFollow "special-get-raises" false) os).map (fun s => (HandSHeadRun.looksF R.prog (boot_heap (w.withFollow "special-get-raises" false).params) s.abs, HandSHeadRun.seenQ qv names (importedModules R.prog.main.body) (fun s => xlAt qv [] s && recOk R.toRowW.records s) s.abs)) = some (true, openGood qv names) := by kernel_rfl
theorem runF3 (w : World) (os : OsState) : (endS (w.withFollow "special-get-raises" false) os).map (fun s => ob s) = some (hk.val (w.withFollow "special-get-raises" false)) := by kernel_rfl
theorem runF (w : World) : HandSHeadRun.RunEq R qv hk ob 6000 names (w.withFollow "special-get-raises" false) := fun os => cmb2 (runF1 w os) (runF3 w os)
theorem runT1 (w : World) (os : OsState) : (endS (w.withFollow "special-get-raises" true) os).map (fun s => (HandSHeadRun.looksF R.prog (boot_heap (w.withFollow "special-get-raises" true).params) s.abs, HandSHeadRun.seenQ qv names (importedModules R.prog.main.body) (fun s => xlAt qv [] s && recOk R.toRowW.records s) s.abs)) = some (true, openGood qv names) := by kernel_rfl
theorem runT3 (w : World) (os : OsState) : (endS (w.withFollow "special-get-raises" true) os).map (fun s => ob s) = some (hk.val (w.withFollow "special-get-raises" true)) := by kernel_rfl
theorem runT (w : World) : HandSHeadRun.RunEq R qv hk ob 6000 names (w.withFollow "special-get-raises" true) := fun os => cmb2 (runT1 w os) (runT3 w os)
theorem run (w : World) : HandSHeadRun.RunEq R qv hk ob 6000 names w :=
  byRow2 "special-get-raises" (P := fun w => HandSHeadRun.RunEq R qv hk ob 6000 names w) runF runT w
end K3H
end
section
set_option maxRecDepth 100000
set_option maxHeartbeats 4000000
namespace MS
open PySem L2
/-! ### words, steps -/
def wordsL : List Str := ["a", "b", "c", "d", "e", "f", "g", "h"]
def marksL : List Str := ["r", "w", "c"]
def IsW (x : Str) : Prop := x ∈ wordsL
def IsM (x : Str) : Prop := x ∈ marksL
theorem IsW.len {x : Str} (h : IsW x) : x.length = 1 := by
  have h' : x ∈ wordsL := h
  have q : ∀ y ∈ wordsL, y.length = 1 := by decide +kernel
  exact q x h'
theorem IsM.len {x : Str} (h : IsM x) : x.length = 1 := by
  have h' : x ∈ marksL := h
  have q : ∀ y ∈ marksL, y.length = 1 := by decide +kernel
  exact q x h'
theorem IsW.ok {x : Str} (h : IsW x) : PyData.strOk x = true := by
  have h' : x ∈ wordsL := h
  have q : ∀ y ∈ wordsL, PyData.strOk y = true := by decide +kernel
  exact q x h'
/-- a step: its word, how it was done -/
abbrev StepT := Str × Str
def stepS (p : StepT) : Str := p.1 ++ p.2
def IsStep (p : StepT) : Prop := IsW p.1 ∧ IsM p.2
theorem step_look : ∀ x ∈ wordsL, ∀ m ∈ marksL, (∃ c, atI (stepS (x, m)).cps.toList 0 = some c ∧ (⟨#[c]⟩ : Str) = x) ∧ (∃ c, atI (stepS (x, m)).cps.toList 1 = some c ∧ (⟨#[c]⟩ : Str) = m) ∧ (stepS (x, m)).length = 2 ∧ PyData.strOk (stepS (x, m)) = true := by
  intro x hx m hm
  simp only [wordsL, marksL, List.mem_cons, List.not_mem_nil, or_false] at hx hm
  rcases hx with rfl | rfl | rfl | rfl | rfl | rfl | rfl | rfl <;> rcases hm with rfl | rfl | rfl <;> exact ⟨⟨_, rfl, by decide +kernel⟩, ⟨_, rfl, by decide +kernel⟩, by decide +kernel, by decide +kernel⟩
theorem IsStep.at0 {p : StepT} (h : IsStep p) : ∃ c, atI (stepS p).cps.toList 0 = some c ∧ (⟨#[c]⟩ : Str) = p.1 := (step_look p.1 h.1 p.2 h.2).1
theorem IsStep.at1 {p : StepT} (h : IsStep p) : ∃ c, atI (stepS p).cps.toList 1 = some c ∧ (⟨#[c]⟩ : Str) = p.2 := (step_look p.1 h.1 p.2 h.2).2.1
theorem IsStep.len {p : StepT} (h : IsStep p) : (stepS p).length = 2 := (step_look p.1 h.1 p.2 h.2).2.2.1
theorem IsStep.ok {p : StepT} (h : IsStep p) : PyData.strOk (stepS p) = true := (step_look p.1 h.1 p.2 h.2).2.2.2
/-- steps of which none is carried on without a wrong one ahead; w: there was one -/
def WorkFrom : Bool → List StepT → Prop
  | _, [] => True
  | w, p :: r => IsStep p ∧ (p.2 = "c" → w = true) ∧ WorkFrom (w || p.2 == "w") r
def WorkOk (ws : List StepT) : Prop := WorkFrom false ws ∧ ws.length ≤ 12
def anyWrong (ws : List StepT) : Bool := ws.any fun p => p.2 == "w"
theorem WorkFrom.snoc : ∀ {ws : List StepT} {w : Bool} {p : StepT}, WorkFrom w ws → IsStep p → (p.2 = "c" → (w || anyWrong ws) = true) → WorkFrom w (ws ++ [p])
  | [], w, p, _, hp, hc => ⟨hp, fun e => by
      have z := hc e
      rw [show anyWrong [] = false from rfl, Bool.or_false] at z
      exact z, trivial⟩
  | q :: r, w, p, h, hp, hc => ⟨h.1, h.2.1, WorkFrom.snoc h.2.2 hp fun e => by
      have z := hc e
      rw [show anyWrong (q :: r) = ((q.2 == "w") || anyWrong r) from rfl] at z
      rw [Bool.or_assoc]
      exact z⟩
theorem WorkFrom.all : ∀ {ws : List StepT} {w : Bool}, WorkFrom w ws → ∀ p ∈ ws, IsStep p
  | [], _, _, p, h => by cases h
  | q :: r, _, h, p, hp => by
    rcases List.mem_cons.mp hp with rfl | hp
    · exact h.1
    · exact WorkFrom.all h.2.2 p hp
def stepsV (ws : List StepT) : List V := ws.map fun p => V.str (stepS p)

/-! ### list(text) -/
def rListS : List V → Hp → VK → Prop := fun xs H Q => ∃ x : Str, xs = [.str x] ∧ x.cps.size ≤ sizeLine ∧ ∀ p, H p = none → Q (.ref p) (upd H p (.lst (x.cps.toList.map fun c => V.str ⟨#[c]⟩)))
theorem cr_listStr {X : Cx} (hc : X.calm = true) : CallR X (.type "list") rListS := by
  intro pins s σ H xs us Q I r h
  obtain ⟨x, rfl, hz, q⟩ := h
  obtain ⟨u, rfl, ru⟩ := vals1 r
  obtain ⟨t, rfl⟩ := ru
  refine call_list_str (hn := hz) (I.ok.hd hc) x t fun h' tk acc c' hk e hi => ?_
  refine (fun (hv : Vals (x.cps.toList.map fun c => V.str ⟨#[c]⟩) acc.toList) => ?_) ?_
  · exact ⟨.ref s.heap.objs.size, upd H s.heap.objs.size (.lst (x.cps.toList.map fun c => V.str ⟨#[c]⟩)), I.laid hk (Nat.le_refl _) ⟨by rw [List.length_map, Array.length_toList]; exact hz, acc.toList, c', hv, by rw [Array.toArray_toList]; exact e⟩, rfl, q _ (I.hok.fresh (Nat.le_refl _))⟩
  refine vals_of_idx _ _ (by rw [List.length_map, Array.length_toList, Array.length_toList]; exact hi.1) fun j u hj => ?_
  obtain ⟨c, t', hc, rfl⟩ := hi.2 j u (by rw [← Array.getElem?_toList]; exact hj)
  exact ⟨.str ⟨#[c]⟩, by simp [hc], ⟨_, rfl⟩⟩
theorem letters_of : (("abcdefgh" : Str).cps.toList.map fun c => V.str ⟨#[c]⟩) = wordsL.map V.str := by decide +kernel

/-! ### the draws' begin -/
def spBegun (K : PySem.W.Frag) : Sp := fun vs H Q _ => ∃ (a : Addr) (ns : List Int), vs = [.ref a] ∧ SqL K H a (ns.map V.int) ∧ ns.length ≤ 63 ∧
  ∀ (b l : Addr) (H' : Hp), H b = none → H l = none → Box H' b l → Same H H' → Q (.ref b) H'
section
variable {P : Program} {w : World} {K : PySem.W.Frag} {mg : Str → Option Value} {base : Heap}
theorem ok_begun (D : Def K mg "_law_begun" s_L_begun ["_law_script"]) (ml : mg "len" = none) (mli : mg "list" = none) (mi : mg "int" = none) : FnOk P w K mg base CX0 1 D.f D.fd ["_law_script"] (spBegun K) := by
  refine D.ok sc_L_begun (fun vs H Q E h => ?_) (fun cdv A outer s H vs Q E hr h => ?_)
  · obtain ⟨a, ns, rfl, _⟩ := h
    rfl
  obtain ⟨a, ns, rfl, hS, hlen, q⟩ := h
  refine ⟨_, pss_cons (ps_set (i := 1) sc_L_begun.nd rfl (Or.inl rfl) pe_int)
    (pss_cons (ps_for PassesOwn.never rfl (pi_list (pv 0)) (pg_name (i := 2) sc_L_begun.nd rfl (Or.inl rfl))
      (pss_one (ps_set (i := 1) sc_L_begun.nd rfl (Or.inl rfl) (pe_op op_mod (pe_op op_add (pe_op op_add (pe_op op_mul (pv 1) pe_int) (pe_op op_mul (pv 2) pe_int)) pe_int) pe_int))))
    (pss_one (ps_ret (pe_lst (pa_cons (pe_callTy call_list_of rfl mli (by decide +kernel) (pa_cons (pv 0) pa_nil))
      (pa_cons (pe_op op_mul (pv 1) (pe_callTy call_int1 rfl mi (by decide +kernel) (pa_cons (pe_cmpR op_gt (pe_callB call_len_seq rfl ml PySem.boot_len (pa_cons (pv 0) pa_nil)) pe_int (nomark _)) pa_nil))) pa_nil)))))), ?_⟩
  refine ⟨_, rfl, a, rfl, ⟨_, hS⟩, for_list (K := K) (a := a) (xs := ns.map V.int) (fun i σ H' => ∃ (z : Int) (v : Option V), σ = [some (.ref a), some (.int z), v] ∧ H' = H)
    ⟨0, none, rfl, rfl⟩ (fun i σ H' _ ⟨_, _, _, e⟩ => by rw [e]; exact hS) ?_ ?_⟩
  · rintro i y σ H' hi ⟨z, v, rfl, rfl⟩
    obtain ⟨u, rfl⟩ : ∃ u, y = V.int u := by
      obtain ⟨u, _, e⟩ := List.mem_map.mp (List.mem_of_getElem? hi)
      exact ⟨u, e.symm⟩
    exact ⟨_, rfl, _, _, rfl, rfl, .inr ⟨by decide, by decide⟩, _, rfl, _, _, rfl, rfl, .inr ⟨by decide, by decide⟩, _, _, rfl, rfl, _, _, rfl, rfl, _, _, rfl, rfl, (by show (0 : Int) < 2147483647; decide), _, _, rfl, rfl⟩
  · rintro σ H' ⟨z, v, rfl, rfl⟩
    refine ⟨_, rfl, a, _, rfl, .inl hS, fun l hl => ?_⟩
    have s1 : Same H' (upd H' l (.lst (ns.map V.int))) := Same.new hl
    refine ⟨_, rfl, _, rfl, a, _, rfl, .inl (s1.seq hS), _, _, rfl, rfl, .inr ⟨_, rfl, ?_⟩⟩
    refine ⟨_, _, rfl, rfl, .inr ?_, ?_⟩
    · split <;> exact ⟨by decide, by decide⟩
    refine ⟨(by show 2 ≤ sizeLine; decide), fun b hb => ?_⟩
    have nb : l ≠ b := ne_of_none upd_same hb
    have hb0 : H' b = none := s1.free hb
    refine q b l _ hb0 hl ⟨nb.symm, ⟨_, upd_same⟩, ns, by rw [upd_ne nb]; exact upd_same⟩ (s1.trans (Same.new hb))
/-! ### the letters -/
def spLetters : Sp := fun vs H Q _ => ∃ (b l : Addr), vs = [.ref b] ∧ Box H b l ∧
  ∀ (p : Addr) (F : List Str) (H' : Hp), H p = none → H' p = some (.lst (F.map V.str)) → (∀ x ∈ F, IsW x) → 0 < F.length → F.length ≤ 8 → Box H' b l → Keep [b, l] H H' → Q (.ref p) H'
end
end MS
end
section
set_option maxRecDepth 100000
set_option maxHeartbeats 4000000
namespace MS
open PySem L2
theorem mem_eraseIdx {α : Type} {l : List α} {k : Nat} {x : α} (h : x ∈ l.eraseIdx k) : x ∈ l := List.mem_of_mem_eraseIdx h
theorem map_erase {α β : Type} (f : α → β) : ∀ (l : List α) (k : Nat), (l.map f).eraseIdx k = (l.eraseIdx k).map f
  | [], _ => rfl
  | _ :: _, 0 => rfl
  | a :: r, k + 1 => congrArg (f a :: ·) (map_erase f r k)
theorem seq_of {n : Nat} {i : Int} (h0 : 0 ≤ i) (h1 : i < n) : seqIndex? i n = some i.toNat := by
  have e : ixN n i = some i.toNat := by
    unfold ixN
    rw [if_pos h0, if_pos h1]
  exact (ixN_seq e).1
theorem atI_of {α : Type} {l : List α} {i : Int} {x : α} (h0 : 0 ≤ i) (h : l[i.toNat]? = some x) : atI l i = some x := by
  have e : i = ((i.toNat : Nat) : Int) := by omega
  rw [e]
  exact atI_nat h
theorem get_map {α β : Type} (f : α → β) (l : List α) {i : Nat} (h : i < l.length) : (l.map f)[i]? = some (f (l[i]'h)) := by
  rw [List.getElem?_map, List.getElem?_eq_getElem h]
  rfl
theorem Keep.newer {S : List Addr} {H H1 : Hp} {p : Addr} {o : HO} (k : Keep S H H1) (h : H p = none) : Keep S H (upd H1 p o) := fun b u q n => by
  rw [upd_ne (ne_of_none q h)]
  exact k b u q n
theorem Box.ne_new {H : Hp} {b l x : Addr} (B : Box H b l) (hx : H x = none) : x ≠ b ∧ x ≠ l := by
  obtain ⟨_, ⟨n, e1⟩, ns, e2⟩ := B
  exact ⟨(ne_of_none e1 hx).symm, (ne_of_none e2 hx).symm⟩
theorem Box.nin {H : Hp} {b l x : Addr} (B : Box H b l) (hx : H x = none) : x ∉ [b, l] := fun hm => by
  rcases List.mem_cons.mp hm with e | hm
  · exact (B.ne_new hx).1 e
  · exact (B.ne_new hx).2 (List.mem_singleton.mp hm)
theorem Box.put {H : Hp} {b l x : Addr} {o : HO} (B : Box H b l) (hb : x ≠ b) (hl : x ≠ l) : Box (upd H x o) b l := by
  obtain ⟨ne, ⟨n, e1⟩, ns, e2⟩ := B
  exact ⟨ne, ⟨n, by rw [upd_ne hb.symm]; exact e1⟩, ns, by rw [upd_ne hl.symm]; exact e2⟩
theorem Box.new {H : Hp} {b l x : Addr} {o : HO} (B : Box H b l) (hx : H x = none) : Box (upd H x o) b l := B.put (B.ne_new hx).1 (B.ne_new hx).2
theorem sz2 : 2 ≤ sizeLine := by decide
theorem szN {n : Nat} (h : n ≤ 1000) : n ≤ sizeLine := Nat.le_of_lt (small1000 h)
/-- one of two numbers, by a draw -/
theorem pick2 {x y r m : Int} (hx : 0 ≤ x ∧ x < m) (hy : 0 ≤ y ∧ y < m) (h0 : 0 ≤ r) (h1 : r < 2) : ∃ z, atI [V.int x, V.int y] r = some (.int z) ∧ 0 ≤ z ∧ z < m := by
  have e : r = 0 ∨ r = 1 := by omega
  rcases e with rfl | rfl
  · exact ⟨x, at0, hx⟩
  · exact ⟨y, at1, hy⟩
section
variable {P : Program} {w : World} {K : PySem.W.Frag} {mg : Str → Option Value} {base : Heap}
theorem ok_letters (D : Def K mg "_law_letters" s_L_letters ["_law_box"]) (DT : Def K mg "_law_take" s_L_take ["_law_box", "_law_many"]) (ml : mg "len" = none) (mli : mg "list" = none) (mr : mg "range" = none) : FnOk P w K mg base CX0 2 D.f D.fd ["_law_box"] spLetters := by
  have GT : FnOk P w K mg base CX0 1 DT.f DT.fd ["_law_box", "_law_many"] spTake := ok_take DT
  refine D.ok sc_L_letters (fun vs H Q E h => ?_) (fun cdv A outer s H vs Q E hr h => ?_)
  · obtain ⟨b, l, rfl, _⟩ := h
    rfl
  obtain ⟨b, l, rfl, B, q⟩ := h
  refine ⟨_, pss_cons (ps_par (i := 1) (j := 2) (by rfl) sc_L_letters.nd rfl rfl (by decide) rfl rfl (pa_cons (pe_callTy (cr_listStr rfl) rfl mli (by decide +kernel) (pa_cons pe_str pa_nil)) (pa_cons (pe_lst pa_nil) pa_nil)) (by rfl))
    (pss_cons (ps_for PassesOwn.never rfl (pi_range1 rfl mr (pa_cons (pe_op op_add pe_int (pe_ix ix_list (pe_lst (pa_cons (pcall DT GT hr (pa_cons (pv 0) (pa_cons pe_int pa_nil))) (pa_cons (pcall DT GT hr (pa_cons (pv 0) (pa_cons pe_int pa_nil))) pa_nil))) (pcall DT GT hr (pa_cons (pv 0) (pa_cons pe_int pa_nil))) (fun _ _ => rfl))) pa_nil)) (pg_name (i := 3) sc_L_letters.nd rfl (Or.inl rfl))
      (pss_one (ps_expr (pe_bm PySem.F.plainAttrs_list PySem.F.slot_list_append PySem.F.type_list_append mt_append (pv 2)
        (pa_cons (pe_bm PySem.F.plainAttrs_list PySem.F.slot_list_pop PySem.F.type_list_pop mt_popAt (pv 1) (pa_cons (pcall DT GT hr (pa_cons (pv 0) (pa_cons (pe_callB call_len_seq rfl ml PySem.boot_len (pa_cons (pv 1) pa_nil)) pa_nil))) pa_nil)) pa_nil)))))
    (pss_one (ps_ret (pv 2)))), ?_⟩
  refine ⟨_, rfl, by decide, fun p hp => ?_⟩
  rw [letters_of]
  refine ⟨Nat.zero_le _, fun f hf => ?_⟩
  have npf : p ≠ f := ne_of_none upd_same hf
  have hpf : upd (upd H p (.lst (wordsL.map V.str))) f (.lst []) p = some (.lst (wordsL.map V.str)) := by rw [upd_ne npf]; exact upd_same
  have k1 : Keep [b, l] H (upd (upd H p (.lst (wordsL.map V.str))) f (.lst [])) := (Keep.new hp).trans (Keep.new hf)
  have hf0 : H f = none := (Same.new hp).free hf
  have nfb := B.ne_new hf0
  have npb := B.ne_new hp
  have B1 : Box (upd (upd H p (.lst (wordsL.map V.str))) f (.lst [])) b l := (B.new hp).put nfb.1 nfb.2
  refine ⟨_, _, rfl, ?_⟩
  refine ⟨_, rfl, b, l, 2, rfl, by decide, by decide, B1, fun r1 H1 a0 a1 B2 k2 => ?_⟩
  refine ⟨_, rfl, b, l, 7, rfl, by decide, by decide, B2, fun r2 H2 b0 b1 B3 k3 => ?_⟩
  refine ⟨sz2, fun L hL => ?_⟩
  refine ⟨_, rfl, b, l, 2, rfl, by decide, by decide, B3.new hL, fun r3 H3 c0 c1 B4 k4 => ?_⟩
  have k5 : Keep [b, l] H2 H3 := (Keep.new hL).trans k4
  have nL := B3.ne_new hL
  have eL : H3 L = some (.lst [.int r1, .int r2]) := k4 L _ upd_same (by simp [nL.1, nL.2])
  obtain ⟨z, ez, z0, z1⟩ := pick2 (x := r1) (y := r2) (m := 7) ⟨a0, by omega⟩ ⟨b0, b1⟩ c0 c1
  refine ⟨L, _, r3, .int z, rfl, rfl, SqL.of eL, ez, _, _, rfl, rfl, _, rfl, by omega, by omega, ?_⟩
  have k6 : Keep [b, l] (upd (upd H p (.lst (wordsL.map V.str))) f (.lst [])) H3 := k2.trans (k3.trans k5)
  have nin : ∀ {x : Addr}, x ≠ b ∧ x ≠ l → x ∉ [b, l] := fun {x} h => by simp [h.1, h.2]
  refine for_range (lo := 0) (n := (2 + z).toNat) (fun i σ H' => ∃ (W F : List Str) (v : Option V), σ = [some (.ref b), some (.ref p), some (.ref f), v] ∧ H' p = some (.lst (W.map V.str)) ∧ H' f = some (.lst (F.map V.str)) ∧
      W.length + i = 8 ∧ F.length = i ∧ (∀ x ∈ W, IsW x) ∧ (∀ x ∈ F, IsW x) ∧ Box H' b l ∧ Keep [b, l] H H')
    ⟨wordsL, [], none, rfl, k6 _ _ hpf (nin npb), k6 _ _ upd_same (nin nfb), rfl, rfl, fun _ h => h, fun _ h => (nomatch h), B4, k1.trans k6⟩ ?_ ?_
  · rintro i σ H' hi ⟨W, F, v, rfl, e1, e2, l1, l2, w1, w2, B', k'⟩
    have hW : 0 < W.length := by omega
    refine ⟨_, rfl, .inl ⟨rfl, _, SqL.of e2⟩, _, rfl, .inl ⟨rfl, _, SqL.of e1⟩, _, rfl, _, rfl, p, _, rfl, .inl (SqL.of e1), b, l, _, rfl, (by rw [List.length_map]; omega), (by rw [List.length_map]; omega), B', fun r H2' r0 r1' B2' k2' => ?_⟩
    rw [List.length_map] at r1'
    have hr' : r.toNat < W.length := by omega
    have e1' := k2' _ _ e1 (nin npb)
    have e2' := k2' _ _ e2 (nin nfb)
    refine ⟨p, _, r, r.toNat, .str (W[r.toNat]'hr'), rfl, rfl, e1', by omega, by omega, seq_of r0 (by rw [List.length_map]; exact r1'), get_map V.str W hr', ?_⟩
    refine ⟨f, _, _, rfl, rfl, (by rw [upd_ne npf.symm]; exact e2'), (by rw [List.length_map]; exact small1000 (by omega)), ?_⟩
    refine ⟨W.eraseIdx r.toNat, F ++ [W[r.toNat]'hr'], _, rfl, ?_, ?_, ?_, ?_, fun x hx => w1 x (mem_eraseIdx hx), fun x hx => ?_, (B2'.put npb.1 npb.2).put nfb.1 nfb.2, ((k'.trans k2').newer hp).newer hf0⟩
    · rw [upd_ne npf, upd_same, map_erase]
    · rw [upd_same, List.map_append]
      rfl
    · rw [List.length_eraseIdx_of_lt hr']
      omega
    · rw [List.length_append, l2]
      rfl
    · rcases List.mem_append.mp hx with hx | hx
      · exact w2 x hx
      · rw [List.mem_singleton.mp hx]
        exact w1 _ (List.getElem_mem hr')
  · rintro σ H' ⟨W, F, v, rfl, e1, e2, l1, l2, w1, w2, B', k'⟩
    exact ⟨_, rfl, q f F H' hf0 e2 w2 (by omega) (by omega) B' k'⟩
end
end MS
end
section
set_option maxRecDepth 100000
set_option maxHeartbeats 4000000
namespace MS
open PySem L2
def spStep : Sp := fun vs H Q _ => ∃ (b l L : Addr) (F : List Str) (c : Bool), vs = [.ref b, .ref L, .bl c] ∧ Box H b l ∧ L ≠ b ∧ L ≠ l ∧ H L = some (.lst (F.map V.str)) ∧ (∀ x ∈ F, IsW x) ∧ 0 < F.length ∧ F.length ≤ 8 ∧
  ∀ (p : StepT) (H' : Hp), IsStep p → (p.2 = "c" → c = true) → Box H' b l → Keep [b, l] H H' → Q (.str (stepS p)) H'
theorem pick_mark {r : Int} (h0 : 0 ≤ r) (h1 : r < 4) : ∃ m, atI [V.str "r", V.str "w", V.str "r", V.str "c"] r = some (.str m) ∧ IsM m := by
  have e : r = 0 ∨ r = 1 ∨ r = 2 ∨ r = 3 := by omega
  rcases e with rfl | rfl | rfl | rfl
  · exact ⟨"r", at0, by unfold IsM; decide +kernel⟩
  · exact ⟨"w", at1, by unfold IsM; decide +kernel⟩
  · exact ⟨"r", at2, by unfold IsM; decide +kernel⟩
  · exact ⟨"c", at_of (j := 3) rfl rfl, by unfold IsM; decide +kernel⟩
theorem pick_word {F : List Str} {r : Int} (w1 : ∀ x ∈ F, IsW x) (h0 : 0 ≤ r) (h1 : r < ((F.map V.str).length : Nat)) : ∃ x, atI (F.map V.str) r = some (.str x) ∧ IsW x ∧ x ∈ F := by
  rw [List.length_map] at h1
  have hr : r.toNat < F.length := by omega
  exact ⟨F[r.toNat]'hr, atI_of h0 (get_map V.str F hr), w1 _ (List.getElem_mem hr), List.getElem_mem hr⟩
section
variable {P : Program} {w : World} {K : PySem.W.Frag} {mg : Str → Option Value} {base : Heap}
/-! ### a work -/
def spWork : Sp := fun vs H Q _ => ∃ (b l L : Addr) (F : List Str), vs = [.ref b, .ref L, .int 12] ∧ Box H b l ∧ L ≠ b ∧ L ≠ l ∧ H L = some (.lst (F.map V.str)) ∧ (∀ x ∈ F, IsW x) ∧ 0 < F.length ∧ F.length ≤ 8 ∧
  ∀ (p : Addr) (ws : List StepT) (H' : Hp), H p = none → H' p = some (.lst (stepsV ws)) → WorkOk ws → Box H' b l → Keep [b, l] H H' → Q (.ref p) H'
end
end MS
end
section
set_option maxRecDepth 100000
set_option maxHeartbeats 4000000
namespace MS
open PySem L2
/-! ### schemes -/
inductive Sch where
  | step (w : Str) (p : Int)
  | all (k : List Sch)
  | best (k : List Sch)
  | most (n : Int) (s : Sch)
  | half (s : Sch)
  | seen (w : Str) (s : Sch)
  | behind (w : Str) (s : Sch)
  | carry (s : Sch)
  | fin (w : Str) (p : Int) (s : Sch)
  | use (n : Nat)
/-- a scheme of at most d levels stands in the heap -/
def SAt (H : Hp) : Nat → Sch → V → Prop
  | 0, _, _ => False
  | _ + 1, .step w p, v => ∃ a, v = .ref a ∧ H a = some (.tup [.str "step", .str w, .int p])
  | d + 1, .all k, v => ∃ a b vs, v = .ref a ∧ H a = some (.tup [.str "all", .ref b]) ∧ H b = some (.tup vs) ∧ Paired (SAt H d) k vs
  | d + 1, .best k, v => ∃ a b vs, v = .ref a ∧ H a = some (.tup [.str "best", .ref b]) ∧ H b = some (.tup vs) ∧ Paired (SAt H d) k vs
  | d + 1, .most n s, v => ∃ a u, v = .ref a ∧ H a = some (.tup [.str "most", .int n, u]) ∧ SAt H d s u
  | d + 1, .half s, v => ∃ a u, v = .ref a ∧ H a = some (.tup [.str "half", u]) ∧ SAt H d s u
  | d + 1, .seen w s, v => ∃ a u, v = .ref a ∧ H a = some (.tup [.str "seen", .str w, u]) ∧ SAt H d s u
  | d + 1, .behind w s, v => ∃ a u, v = .ref a ∧ H a = some (.tup [.str "behind", .str w, u]) ∧ SAt H d s u
  | d + 1, .carry s, v => ∃ a u, v = .ref a ∧ H a = some (.tup [.str "carry", u]) ∧ SAt H d s u
  | d + 1, .fin w p s, v => ∃ a u, v = .ref a ∧ H a = some (.tup [.str "end", .str w, .int p, u]) ∧ SAt H d s u
  | _ + 1, .use n, v => ∃ a, v = .ref a ∧ H a = some (.tup [.str "use", .int (n : Int)])
/-- tuples stay -/
def TupK (H H' : Hp) : Prop := ∀ a xs, H a = some (.tup xs) → H' a = some (.tup xs)
theorem TupK.refl (H : Hp) : TupK H H := fun _ _ h => h
theorem TupK.trans {H H1 H2 : Hp} (a : TupK H H1) (b : TupK H1 H2) : TupK H H2 := fun c o h => b c o (a c o h)
theorem TupK.new {H : Hp} {p : Addr} {o : HO} (h : H p = none) : TupK H (upd H p o) := fun b u q => by rw [upd_ne (ne_of_none q h)]; exact q
theorem TupK.put {H : Hp} {p : Addr} {o : HO} {ys : List V} (h : H p = some (.lst ys)) : TupK H (upd H p o) := fun b u q => by rw [upd_ne (ne_of q h (by intro z; cases z))]; exact q
theorem Keep.tup {S : List Addr} {H H' : Hp} (k : Keep S H H') (nt : ∀ a ∈ S, ∃ ys, H a = some (.lst ys)) : TupK H H' := fun a xs e => k a _ e fun hm => by
  obtain ⟨ys, z⟩ := nt a hm
  rw [e] at z
  cases z
theorem paired_imp {α β : Type} {R T : α → β → Prop} : ∀ {xs : List α} {ys : List β}, Paired R xs ys → (∀ x y, R x y → T x y) → Paired T xs ys
  | _, _, .nil, _ => .nil
  | _, _, .cons r t, h => .cons (h _ _ r) (paired_imp t h)
theorem SAt.keep {H H' : Hp} (k : TupK H H') : ∀ (d : Nat) (s : Sch) (v : V), SAt H d s v → SAt H' d s v
  | 0, _, _, h => by cases h
  | _ + 1, .step w p, v, ⟨a, e, h⟩ => ⟨a, e, k _ _ h⟩
  | d + 1, .all ks, v, ⟨a, b, vs, e, h1, h2, h3⟩ => ⟨a, b, vs, e, k _ _ h1, k _ _ h2, paired_imp h3 fun s v => SAt.keep k d s v⟩
  | d + 1, .best ks, v, ⟨a, b, vs, e, h1, h2, h3⟩ => ⟨a, b, vs, e, k _ _ h1, k _ _ h2, paired_imp h3 fun s v => SAt.keep k d s v⟩
  | d + 1, .most n s, v, ⟨a, u, e, h1, h2⟩ => ⟨a, u, e, k _ _ h1, SAt.keep k d s u h2⟩
  | d + 1, .half s, v, ⟨a, u, e, h1, h2⟩ => ⟨a, u, e, k _ _ h1, SAt.keep k d s u h2⟩
  | d + 1, .seen w s, v, ⟨a, u, e, h1, h2⟩ => ⟨a, u, e, k _ _ h1, SAt.keep k d s u h2⟩
  | d + 1, .behind w s, v, ⟨a, u, e, h1, h2⟩ => ⟨a, u, e, k _ _ h1, SAt.keep k d s u h2⟩
  | d + 1, .carry s, v, ⟨a, u, e, h1, h2⟩ => ⟨a, u, e, k _ _ h1, SAt.keep k d s u h2⟩
  | d + 1, .fin w p s, v, ⟨a, u, e, h1, h2⟩ => ⟨a, u, e, k _ _ h1, SAt.keep k d s u h2⟩
  | _ + 1, .use n, v, ⟨a, e, h⟩ => ⟨a, e, k _ _ h⟩
/-- a scheme that can be, in scheme i of M -/
def OkS (i M : Nat) : Nat → Sch → Prop
  | 0, _ => False
  | _ + 1, .step w p => IsW w ∧ 1 ≤ p ∧ p ≤ 9
  | d + 1, .all k => 0 < k.length ∧ k.length ≤ 4 ∧ ∀ s ∈ k, OkS i M d s
  | d + 1, .best k => 0 < k.length ∧ k.length ≤ 4 ∧ ∀ s ∈ k, OkS i M d s
  | d + 1, .most n s => (0 ≤ n ∧ n ≤ 30) ∧ OkS i M d s
  | d + 1, .half s => OkS i M d s
  | d + 1, .seen w s => IsW w ∧ OkS i M d s
  | d + 1, .behind w s => IsW w ∧ OkS i M d s
  | d + 1, .carry s => OkS i M d s
  | d + 1, .fin w p s => (IsW w ∧ 1 ≤ p ∧ p ≤ 9) ∧ OkS i M d s
  | _ + 1, .use n => i < n ∧ n < M
def sz : Nat → Sch → Int
  | 0, _ => 0
  | _ + 1, .step _ _ => 1
  | d + 1, .all k => 1 + (k.map (sz d)).sum
  | d + 1, .best k => 1 + (k.map (sz d)).sum
  | d + 1, .most _ s => 1 + sz d s
  | d + 1, .half s => 1 + sz d s
  | d + 1, .seen _ s => 1 + sz d s
  | d + 1, .behind _ s => 1 + sz d s
  | d + 1, .carry s => 1 + sz d s
  | d + 1, .fin _ _ s => 1 + sz d s
  | _ + 1, .use _ => 1
/-- steps and ends; c: those of the used ones -/
def er (c : Nat → Int) : Nat → Sch → Int
  | 0, _ => 0
  | _ + 1, .step _ _ => 1
  | d + 1, .all k => (k.map (er c d)).sum
  | d + 1, .best k => (k.map (er c d)).sum
  | d + 1, .most _ s => er c d s
  | d + 1, .half s => er c d s
  | d + 1, .seen _ s => er c d s
  | d + 1, .behind _ s => er c d s
  | d + 1, .carry s => er c d s
  | d + 1, .fin _ _ s => 1 + er c d s
  | _ + 1, .use n => c n
/-- seens and behinds -/
def wr (c : Nat → Int) : Nat → Sch → Int
  | 0, _ => 0
  | _ + 1, .step _ _ => 0
  | d + 1, .all k => (k.map (wr c d)).sum
  | d + 1, .best k => (k.map (wr c d)).sum
  | d + 1, .most _ s => wr c d s
  | d + 1, .half s => wr c d s
  | d + 1, .seen _ s => 1 + wr c d s
  | d + 1, .behind _ s => 1 + wr c d s
  | d + 1, .carry s => wr c d s
  | d + 1, .fin _ _ s => wr c d s
  | _ + 1, .use n => c n
/-- what is told of the later schemes: number, steps and ends, seens and behinds -/
def UAt (H : Hp) (i M : Nat) (ce cw : Nat → Int) (u : Addr) : Prop := ∃ (js : List Nat) (vs : List V), H u = some (.lst vs) ∧ js.length ≤ 5 ∧ (∀ j ∈ js, i < j ∧ j < M) ∧
  Paired (fun j v => ∃ t, v = V.ref t ∧ H t = some (.tup [.int ((j : Nat) : Int), .int (ce j), .int (cw j)])) js vs
theorem UAt.keep {H H' : Hp} {i M : Nat} {ce cw : Nat → Int} {u : Addr} (h : UAt H i M ce cw u) (k : TupK H H') (hu : ∀ vs, H u = some (.lst vs) → H' u = some (.lst vs)) : UAt H' i M ce cw u := by
  obtain ⟨js, vs, e, l, r, p⟩ := h
  exact ⟨js, vs, hu vs e, l, r, paired_imp p fun j v ⟨t, e1, e2⟩ => ⟨t, e1, k _ _ e2⟩⟩
end MS
end
section
set_option maxRecDepth 100000
set_option maxHeartbeats 4000000
namespace MS
open PySem L2
theorem ev_or {t u : TT} {σ : St} {H : Hp} {b c : Bool} (h1 : ∀ Q : Bool → Hp → Prop, Q b H → t σ H Q) (h2 : ∀ Q : Bool → Hp → Prop, Q c H → u σ H Q) : ∀ Q : Bool → Hp → Prop, Q (b || c) H → tOr t u σ H Q := fun Q q => h1 _ (by
  cases b with
  | true => exact iteT q
  | false => exact iteF (h2 _ q))
theorem ev_and {t u : TT} {σ : St} {H : Hp} {b c : Bool} (h1 : ∀ Q : Bool → Hp → Prop, Q b H → t σ H Q) (h2 : ∀ Q : Bool → Hp → Prop, Q c H → u σ H Q) : ∀ Q : Bool → Hp → Prop, Q (b && c) H → tAnd t u σ H Q := fun Q q => h1 _ (by
  cases b with
  | true => exact iteT (h2 _ q)
  | false => exact iteF q)
theorem seq_if {tc : TT} {t r : TS} {D : Ends} {σ : St} {H : Hp} {b : Bool} (h : ∀ Q : Bool → Hp → Prop, Q b H → tc σ H Q) (k1 : b = true → t { D with nx := r D } σ H) (k2 : b = false → r D σ H) : tSeq (tIfS tc t tNext) r D σ H := h _ (by
  cases b with
  | true => exact iteT (k1 rfl)
  | false => exact iteF (k2 rfl))
theorem one_if {tc : TT} {t : TS} {D : Ends} {σ : St} {H : Hp} {b : Bool} (h : ∀ Q : Bool → Hp → Prop, Q b H → tc σ H Q) (k1 : b = true → t D σ H) (k2 : b = false → D.nx σ H) : tIfS tc t tNext D σ H := h _ (by
  cases b with
  | true => exact iteT (k1 rfl)
  | false => exact iteF (k2 rfl))
theorem seq_if_to {tc : TT} {t r : TS} {D : Ends} {σ : St} {H : Hp} {b : Bool} (R : St → Hp → Prop) (h : ∀ Q : Bool → Hp → Prop, Q b H → tc σ H Q) (rest : ∀ σ' H', R σ' H' → r D σ' H')
    (k1 : b = true → (∀ σ' H', R σ' H' → r D σ' H') → t { D with nx := r D } σ H) (k2 : b = false → R σ H) : tSeq (tIfS tc t tNext) r D σ H := seq_if h (fun e => k1 e rest) fun e => rest _ _ (k2 e)
theorem paired_get' {α β : Type} {R : α → β → Prop} : ∀ {xs : List α} {ys : List β}, Paired R xs ys → ∀ {k : Nat} {y : β}, ys[k]? = some y → ∃ x, xs[k]? = some x ∧ R x y
  | _, _, .nil, _, _, h => by simp at h
  | _, _, .cons r t, 0, _, h => by
    simp at h
    subst h
    exact ⟨_, rfl, r⟩
  | _, _, .cons _ t, k + 1, y, h => by
    obtain ⟨x, e, r⟩ := paired_get' t (k := k) (y := y) (by simpa using h)
    exact ⟨x, by simpa using e, r⟩
theorem paired_snoc {α β : Type} {R : α → β → Prop} : ∀ {xs : List α} {ys : List β} {x : α} {y : β}, Paired R xs ys → R x y → Paired R (xs ++ [x]) (ys ++ [y])
  | _, _, _, _, .nil, h => .cons h .nil
  | _, _, _, _, .cons r t, h => .cons r (paired_snoc t h)
theorem pick_name {a b : Str} {r : Int} (h0 : 0 ≤ r) (h1 : r < 2) : atI [V.str a, V.str b] r = some (.str (if r = 0 then a else b)) := by
  have e : r = 0 ∨ r = 1 := by omega
  rcases e with rfl | rfl
  · exact at0
  · exact at1
structure GenAt (i M : Nat) (ce cw : Nat → Int) (H : Hp) (b l L m u : Addr) (F : List Str) (x y z : Int) : Prop where
  box : Box H b l
  left : H m = some (.lst [.int x, .int y, .int z])
  lets : H L = some (.lst (F.map V.str))
  words : ∀ x ∈ F, IsW x
  pos : 0 < F.length
  few : F.length ≤ 8
  uses : UAt H i M ce cw u
  bm : m ≠ b ∧ m ≠ l
  nL : L ∉ [b, l, m]
  nu : u ∉ [b, l, m]
section
variable {i M : Nat} {ce cw : Nat → Int} {H H' : Hp} {b l L m u : Addr} {F : List Str} {x y z x' y' z' : Int}
theorem GenAt.lists (G : GenAt i M ce cw H b l L m u F x y z) : ∀ a ∈ [b, l, m], ∃ ys, H a = some (.lst ys) := fun a ha => by
  obtain ⟨_, ⟨n, e1⟩, ns, e2⟩ := G.box
  rcases List.mem_cons.mp ha with rfl | ha
  · exact ⟨_, e1⟩
  · rcases List.mem_cons.mp ha with rfl | ha
    · exact ⟨_, e2⟩
    · rw [List.mem_singleton.mp ha]
      exact ⟨_, G.left⟩
theorem GenAt.tup (G : GenAt i M ce cw H b l L m u F x y z) (k : Keep [b, l, m] H H') : TupK H H' := k.tup G.lists
theorem GenAt.move (G : GenAt i M ce cw H b l L m u F x y z) (k : Keep [b, l, m] H H') (B : Box H' b l) (e : H' m = some (.lst [.int x', .int y', .int z'])) : GenAt i M ce cw H' b l L m u F x' y' z' :=
  ⟨B, e, k _ _ G.lets G.nL, G.words, G.pos, G.few, G.uses.keep (G.tup k) (fun vs h => k _ _ h G.nu), G.bm, G.nL, G.nu⟩
theorem GenAt.nm (G : GenAt i M ce cw H b l L m u F x y z) : m ∉ [b, l] := by simp [G.bm.1, G.bm.2]
theorem GenAt.draw (G : GenAt i M ce cw H b l L m u F x y z) (k : Keep [b, l] H H') (B : Box H' b l) : GenAt i M ce cw H' b l L m u F x y z :=
  G.move (k.mono fun _ h => by simp only [List.mem_cons, List.not_mem_nil, or_false] at h ⊢; rcases h with h | h <;> simp [h]) B (k _ _ G.left G.nm)
theorem GenAt.new (G : GenAt i M ce cw H b l L m u F x y z) {p : Addr} {o : HO} (h : H p = none) : GenAt i M ce cw (upd H p o) b l L m u F x y z :=
  G.draw (Keep.new h) (G.box.new h)
theorem GenAt.put (G : GenAt i M ce cw H b l L m u F x y z) : GenAt i M ce cw (upd H m (.lst [.int x', .int y', .int z'])) b l L m u F x' y' z' :=
  G.move (Keep.put (by simp)) (G.box.put G.bm.1 G.bm.2) upd_same
theorem k3 {b l m : Addr} {H H' : Hp} (k : Keep [b, l] H H') : Keep [b, l, m] H H' := k.mono fun _ h => by simp only [List.mem_cons, List.not_mem_nil, or_false] at h ⊢; rcases h with h | h <;> simp [h]
end
def spScheme (i M : Nat) (ce cw : Nat → Int) (d : Nat) : Sp := fun vs H Q _ => ∃ (b l L m u : Addr) (F : List Str) (x y z : Int), vs = [.ref b, .ref L, .ref m, .int (d : Int), .ref u] ∧ GenAt i M ce cw H b l L m u F x y z ∧ 1 ≤ x ∧ 1 ≤ y ∧ 0 ≤ z ∧
  ∀ (v : V) (s : Sch) (H' : Hp) (x' y' z' : Int), SAt H' (d + 1) s v → OkS i M (d + 1) s → sz (d + 1) s = x - x' → er ce (d + 1) s = y - y' → wr cw (d + 1) s = z - z' → 0 ≤ x' → 0 ≤ y' → 0 ≤ z' →
    H' m = some (.lst [.int x', .int y', .int z']) → Box H' b l → Keep [b, l, m] H H' → Q v H'
abbrev nmScheme : List Str := ["_law_box", "_law_letters_here", "_law_left", "_law_deep", "_law_uses", "_law_word", "_law_way", "_law_one", "_law_some", "_law_kids", "_law_turn"]
abbrev psScheme : List Str := ["_law_box", "_law_letters_here", "_law_left", "_law_deep", "_law_uses"]
section
variable {P : Program} {w : World} {K : PySem.W.Frag} {mg : Str → Option Value} {base : Heap}
theorem scheme_turn {i M d : Nat} {ce cw : Nat → Int} {sp' : Sp} (D : Def K mg "_law_scheme" s_L_scheme psScheme) (DT : Def K mg "_law_take" s_L_take ["_law_box", "_law_many"]) (ml : mg "len" = none) (mr : mg "range" = none) (mt : mg "tuple" = none)
    (G : FnOk P w K mg base CX0 (d + 1) D.f D.fd psScheme sp') (hs : ∀ d', d = d' + 1 → sp' = spScheme i M ce cw d') : FnOk P w K mg base CX0 (d + 2) D.f D.fd psScheme (spScheme i M ce cw d) := by
  have GT : FnOk P w K mg base CX0 1 DT.f DT.fd ["_law_box", "_law_many"] spTake := ok_take DT
  have nd := sc_L_scheme.nd
  refine D.ok sc_L_scheme (fun vs H Q E h => ?_) (fun cdv A outer s H vs Q E hr h => ?_)
  · obtain ⟨b, l, L, m, u, F, x, y, z, rfl, _⟩ := h
    rfl
  obtain ⟨b, l, L, m, u, F, x, y, z, rfl, g, hx, hy, hz, q⟩ := h
  have hr1 : Room 1 _ := hr.mono (by omega)
  refine ⟨_, pss_cons (ps_asg (pe_op op_sub (pe_ix ix_list (pv 2) pe_int (fun _ _ => rfl)) pe_int) (pg_sub (pv 2) pe_int set_list))
    (pss_cons (ps_set (i := 5) nd rfl (Or.inl rfl) (pe_ix ix_list (pv 1) (pcall DT GT hr1 (pa_cons (pv 0) (pa_cons (pe_callB call_len_seq rfl ml PySem.boot_len (pa_cons (pv 1) pa_nil)) pa_nil))) (fun _ _ => rfl)))
    (pss_cons (ps_set (i := 6) nd rfl (Or.inl rfl) (pcall DT GT hr1 (pa_cons (pv 0) (pa_cons pe_int pa_nil))))
    (pss_cons (ps_if (PW.pt (pw_or (pt_cmpR op_eq (pv 3) pe_int (nomark _)) (pw_or (pt_cmpR op_lt (pe_ix ix_list (pv 2) pe_int (fun _ _ => rfl)) pe_int (nomark _)) (pw_or (pt_cmpR op_lt (pe_ix ix_list (pv 2) pe_int (fun _ _ => rfl)) pe_int (nomark _)) (pw_or1 (pt_cmpR op_lt (pv 6) pe_int (nomark _)))))))
      (pss_cons (ps_asg (pe_op op_sub (pe_ix ix_list (pv 2) pe_int (fun _ _ => rfl)) pe_int) (pg_sub (pv 2) pe_int set_list)) (pss_one (ps_ret (pe_tup (pa_cons pe_str (pa_cons (pv 5) (pa_cons (pe_op op_add pe_int (pcall DT GT hr1 (pa_cons (pv 0) (pa_cons pe_int pa_nil)))) pa_nil))))))) pss_nil)
    (pss_cons (ps_if (pt_cmpR op_eq (pv 6) pe_int (nomark _))
      (pss_cons (ps_setLc (i := 8) (own := [("_law_one", 7)]) (g := gName 7) rfl nd rfl rfl (sw_true rfl rfl rfl (by decide +kernel)) (pi_list (pv 4)) (blkOk_by (N := nmScheme) (sc := defScope s_L_scheme) (by decide +kernel)) (fun _ _ _ _ _ => pg_name (i := 7) nd rfl (Or.inl rfl))
          (fun _ _ _ _ _ => pts_one (PW.pt (pw_and (pt_cmpR op_le (pe_ix (r := rIxT K) ix_tup (pv 7) pe_int (fun _ _ => rfl)) (pe_ix (r := rIxL K) ix_list (pv 2) pe_int (fun _ _ => rfl)) (nomark _)) (pw_and1 (pt_cmpR op_le (pe_ix (r := rIxT K) ix_tup (pv 7) pe_int (fun _ _ => rfl)) (pe_ix (r := rIxL K) ix_list (pv 2) pe_int (fun _ _ => rfl)) (nomark _))))))
          (fun _ _ _ _ _ => pv 7))
        (pss_one (ps_if (pt_cmpR (op_neD hr.units) (pv 8) (pe_lst pa_nil) (nomark _))
          (pss_cons (ps_set (i := 7) nd rfl (Or.inl rfl) (pe_ix ix_list (pv 8) (pcall DT GT hr1 (pa_cons (pv 0) (pa_cons (pe_callB call_len_seq rfl ml PySem.boot_len (pa_cons (pv 8) pa_nil)) pa_nil))) (fun _ _ => rfl)))
          (pss_cons (ps_asg (pe_tup (pa_cons (pe_op op_sub (pe_ix ix_list (pv 2) pe_int (fun _ _ => rfl)) (pe_ix ix_tup (pv 7) pe_int (fun _ _ => rfl))) (pa_cons (pe_op op_sub (pe_ix ix_list (pv 2) pe_int (fun _ _ => rfl)) (pe_ix ix_tup (pv 7) pe_int (fun _ _ => rfl))) pa_nil)))
              (pg_tup (by rfl) (pgs_cons (pg_sub (pv 2) pe_int set_list) (pgs_cons (pg_sub (pv 2) pe_int set_list) pgs_nil))))
          (pss_one (ps_ret (pe_tup (pa_cons pe_str (pa_cons (pe_ix ix_tup (pv 7) pe_int (fun _ _ => rfl)) pa_nil))))))) pss_nil))) pss_nil)
    (pss_cons (ps_if (pt_cmpR op_lt (pv 6) pe_int (nomark _))
      (pss_cons (ps_set (i := 9) nd rfl (Or.inl rfl) (pe_lst pa_nil))
      (pss_cons (ps_for PassesOwn.never rfl (pi_range1 rfl mr (pa_cons (pe_op op_add pe_int (pcall DT GT hr1 (pa_cons (pv 0) (pa_cons pe_int pa_nil)))) pa_nil)) (pg_name (i := 10) nd rfl (Or.inl rfl))
        (pss_one (ps_if (PW.pt (pw_and (pt_cmpR op_gt (pe_ix ix_list (pv 2) pe_int (fun _ _ => rfl)) pe_int (nomark _)) (pw_and1 (pt_cmpR op_gt (pe_ix ix_list (pv 2) pe_int (fun _ _ => rfl)) pe_int (nomark _)))))
          (pss_one (ps_expr (pe_bm PySem.F.plainAttrs_list PySem.F.slot_list_append PySem.F.type_list_append mt_append (pv 9) (pa_cons (pcall D G hr (pa_cons (pv 0) (pa_cons (pv 1) (pa_cons (pv 2) (pa_cons (pe_op op_sub (pv 3) pe_int) (pa_cons (pv 4) pa_nil)))))) pa_nil)))) pss_nil)))
      (pss_one (ps_ret (pe_tup (pa_cons (pe_ix ix_list (pe_lst (pa_cons pe_str (pa_cons pe_str pa_nil))) (pe_op op_mod (pv 6) pe_int) (fun _ _ => rfl)) (pa_cons (pe_callTy call_tuple_of rfl mt (by decide +kernel) (pa_cons (pv 9) pa_nil)) pa_nil))))))) pss_nil)
    (pss_cons (ps_if (PW.pt (pw_and (pt_cmpR op_lt (pv 6) pe_int (nomark _)) (pw_and1 (pt_cmpR op_gt (pe_ix ix_list (pv 2) pe_int (fun _ _ => rfl)) pe_int (nomark _)))))
      (pss_cons (ps_asg (pe_op op_sub (pe_ix ix_list (pv 2) pe_int (fun _ _ => rfl)) pe_int) (pg_sub (pv 2) pe_int set_list))
        (pss_one (ps_ret (pe_tup (pa_cons (pe_ix ix_list (pe_lst (pa_cons pe_str (pa_cons pe_str pa_nil))) (pe_op op_mod (pv 6) pe_int) (fun _ _ => rfl)) (pa_cons (pv 5) (pa_cons (pcall D G hr (pa_cons (pv 0) (pa_cons (pv 1) (pa_cons (pv 2) (pa_cons (pe_op op_sub (pv 3) pe_int) (pa_cons (pv 4) pa_nil)))))) pa_nil))))))) pss_nil)
    (pss_cons (ps_if (PW.pt (pw_and (pt_cmpR op_eq (pv 6) pe_int (nomark _)) (pw_and1 (pt_cmpR op_gt (pe_ix ix_list (pv 2) pe_int (fun _ _ => rfl)) pe_int (nomark _)))))
      (pss_cons (ps_asg (pe_op op_sub (pe_ix ix_list (pv 2) pe_int (fun _ _ => rfl)) pe_int) (pg_sub (pv 2) pe_int set_list))
        (pss_one (ps_ret (pe_tup (pa_cons pe_str (pa_cons (pv 5) (pa_cons (pe_op op_add pe_int (pcall DT GT hr1 (pa_cons (pv 0) (pa_cons pe_int pa_nil)))) (pa_cons (pcall D G hr (pa_cons (pv 0) (pa_cons (pv 1) (pa_cons (pv 2) (pa_cons (pe_op op_sub (pv 3) pe_int) (pa_cons (pv 4) pa_nil)))))) pa_nil)))))))) pss_nil)
    (pss_cons (ps_if (pt_cmpR op_eq (pv 6) pe_int (nomark _))
      (pss_one (ps_ret (pe_tup (pa_cons pe_str (pa_cons (pcall DT GT hr1 (pa_cons (pv 0) (pa_cons (pe_ix ix_list (pe_lst (pa_cons pe_int (pa_cons pe_int (pa_cons pe_int pa_nil)))) (pcall DT GT hr1 (pa_cons (pv 0) (pa_cons pe_int pa_nil))) (fun _ _ => rfl)) pa_nil))) (pa_cons (pcall D G hr (pa_cons (pv 0) (pa_cons (pv 1) (pa_cons (pv 2) (pa_cons (pe_op op_sub (pv 3) pe_int) (pa_cons (pv 4) pa_nil)))))) pa_nil)))))) pss_nil)
    (pss_one (ps_ret (pe_tup (pa_cons (pe_ix ix_list (pe_lst (pa_cons pe_str (pa_cons pe_str pa_nil))) (pe_op op_mod (pv 6) pe_int) (fun _ _ => rfl)) (pa_cons (pcall D G hr (pa_cons (pv 0) (pa_cons (pv 1) (pa_cons (pv 2) (pa_cons (pe_op op_sub (pv 3) pe_int) (pa_cons (pv 4) pa_nil)))))) pa_nil))))))))))))), ?_⟩
  -- left[0] = left[0] - 1
  refine ⟨_, rfl, m, _, 0, .int x, rfl, rfl, SqL.of g.left, at0, _, _, rfl, rfl, _, rfl, m, _, 0, 0, rfl, rfl, g.left, rfl, ?_⟩
  have g1 : GenAt i M ce cw (upd H m (.lst [.int (x - 1), .int y, .int z])) b l L m u F (x - 1) y z := g.put
  -- word
  refine ⟨_, rfl, _, rfl, _, rfl, L, _, rfl, .inl (SqL.of g1.lets), b, l, _, rfl, (by have := g.pos; rw [List.length_map]; omega), (by have := g.few; rw [List.length_map]; omega), g1.box, fun r1 H2 a0 a1 B2 k2 => ?_⟩
  have g2 := g1.draw k2 B2
  obtain ⟨wd, ew, hw, _⟩ := pick_word g.words a0 a1
  refine ⟨L, _, r1, .str wd, rfl, rfl, SqL.of g2.lets, ew, ?_⟩
  -- way
  refine ⟨_, rfl, b, l, 16, rfl, by decide, by decide, g2.box, fun way H3 c0 c1 B3 k3' => ?_⟩
  have g3 := g2.draw k3' B3
  have kk3 : Keep [b, l, m] H H3 := (Keep.put (by simp)).trans (k3 (k2.trans k3'))
  dsimp only [gName]
  refine seq_if (b := decide ((d : Int) = 0) || (decide (x - 1 < 2) || (decide (y < 2) || decide (way < 3)))) (ev_or (fun Q q => ⟨_, rfl, rfl, _, rfl, by rw [dec_int]; exact q⟩) (ev_or (fun Q q => ⟨_, rfl, m, _, 0, .int (x - 1), rfl, rfl, SqL.of g3.left, at0, _, _, rfl, rfl, _, rfl, q⟩)
    (ev_or (fun Q q => ⟨_, rfl, m, _, 1, .int y, rfl, rfl, SqL.of g3.left, at1, _, _, rfl, rfl, _, rfl, q⟩) (fun Q q => ⟨_, rfl, _, _, rfl, rfl, _, rfl, q⟩)))) (fun cc => ?_) (fun cc => ?_)
  · -- a step
    refine ⟨_, rfl, m, _, 1, .int y, rfl, rfl, SqL.of g3.left, at1, _, _, rfl, rfl, _, rfl, m, _, 1, 1, rfl, rfl, g3.left, rfl, ?_⟩
    have g4 : GenAt i M ce cw (upd H3 m (.lst [.int (x - 1), .int (y - 1), .int z])) b l L m u F (x - 1) (y - 1) z := g3.put
    refine ⟨_, rfl, _, rfl, b, l, 9, rfl, by decide, by decide, g4.box, fun r H5 d0 d1 B5 k5 => ?_⟩
    have g5 := g4.draw k5 B5
    refine ⟨_, _, rfl, rfl, (by show 3 ≤ sizeLine; decide), fun p hp => ?_⟩
    have g6 := g5.new (o := .tup [.str "step", .str wd, .int (1 + r)]) hp
    refine q _ (.step wd (1 + r)) _ (x - 1) (y - 1) z ⟨p, rfl, upd_same⟩ ⟨hw, by omega, by omega⟩ ?_ ?_ ?_ (by omega) (by omega) hz g6.left g6.box (kk3.trans ((Keep.put (by simp)).trans ((k3 k5).trans (Keep.new hp))))
    · show (1 : Int) = x - (x - 1)
      omega
    · show (1 : Int) = y - (y - 1)
      omega
    · show (0 : Int) = z - z
      omega
  simp only [Bool.or_eq_false_iff, decide_eq_false_iff_not] at cc
  obtain ⟨cd, cx, cy, cw'⟩ := cc
  obtain ⟨d', rfl⟩ : ∃ d', d = d' + 1 := ⟨d - 1, by omega⟩
  obtain rfl := hs d' rfl
  refine seq_if_to (b := decide (way = 3)) (fun σ' H' => ∃ v7 v8 : Option V, σ' = [some (.ref b), some (.ref L), some (.ref m), some (.int ((d' + 1 : Nat) : Int)), some (.ref u), some (.str wd), some (.int way), v7, v8, none, none] ∧ GenAt i M ce cw H' b l L m u F (x - 1) y z ∧ Keep [b, l, m] H H')
    (fun Q q => ⟨_, rfl, rfl, _, rfl, by rw [dec_int]; exact q⟩) ?_ ?_ (fun _ => ⟨none, none, rfl, g3, kk3⟩)
  · rintro σ' H4 ⟨v7, v8, rfl, g4, kk4⟩
    have recE : (.int (((d' + 1 : Nat) : Int) - 1) : V) = .int (d' : Int) := by rw [show (((d' + 1 : Nat) : Int) - 1) = (d' : Int) by omega]
    refine seq_if (b := decide (way < 9)) (fun Q q => ⟨_, rfl, _, _, rfl, rfl, _, rfl, q⟩) (fun _ => ?_) (fun c9 => ?_)
    · -- all, best
      refine ⟨Nat.zero_le _, fun kd hkd => ?_⟩
      have nkd := g4.box.ne_new hkd
      have nkm : kd ≠ m := (ne_of_none g4.left hkd).symm
      have gk := g4.new (o := .lst []) hkd
      have hkd0 : ∀ {S : List Addr} {H' : Hp} {o : HO}, Keep [b, l, m] H4 H' → Keep [b, l, m] H4 (upd H' kd o) := fun k => k.newer hkd
      have nin : kd ∉ [b, l, m] := by simp [nkd.1, nkd.2, nkm]
      refine ⟨_, rfl, b, l, 4, rfl, by decide, by decide, gk.box, fun r H5 e0 e1 B5 k5 => ?_⟩
      have g5 := gk.draw k5 B5
      refine ⟨_, _, rfl, rfl, _, rfl, by omega, by omega, ?_⟩
      refine for_range (lo := 0) (n := (1 + r).toNat) (fun k σ H' => ∃ (ks : List Sch) (vs : List V) (x' y' z' : Int) (v10 : Option V), σ = [some (.ref b), some (.ref L), some (.ref m), some (.int ((d' + 1 : Nat) : Int)), some (.ref u), some (.str wd), some (.int way), v7, v8, some (.ref kd), v10] ∧
          H' kd = some (.lst vs) ∧ Paired (SAt H' (d' + 1)) ks vs ∧ (∀ s ∈ ks, OkS i M (d' + 1) s) ∧ (ks.map (sz (d' + 1))).sum = (x - 1) - x' ∧ (ks.map (er ce (d' + 1))).sum = y - y' ∧ (ks.map (wr cw (d' + 1))).sum = z - z' ∧ 0 ≤ x' ∧ 0 ≤ y' ∧ 0 ≤ z' ∧
          ks.length ≤ k ∧ (0 < k → 0 < ks.length) ∧ (k = 0 → x' = x - 1 ∧ y' = y) ∧ GenAt i M ce cw H' b l L m u F x' y' z' ∧ Keep [b, l, m] H4 H')
        ⟨[], [], x - 1, y, z, none, rfl, k5 _ _ upd_same (by simp [nkd.1, nkd.2]), .nil, (fun _ h => nomatch h), by simp, by simp, by simp, by omega, by omega, hz, Nat.le_refl _, fun h => absurd h (Nat.lt_irrefl _), fun _ => ⟨rfl, rfl⟩, g5, (Keep.new hkd).trans (k3 k5)⟩ ?_ ?_
      · rintro k σ H' hk ⟨ks, vs, x', y', z', v10, rfl, ekd, pk, ok, s1, s2, s3, p1, p2, p3, len, pos, ini, g', kk'⟩
        refine one_if (b := decide (0 < x') && decide (0 < y')) (ev_and (fun Q q => ⟨_, rfl, m, _, 0, .int x', rfl, rfl, SqL.of g'.left, at0, _, _, rfl, rfl, _, rfl, q⟩) (fun Q q => ⟨_, rfl, m, _, 1, .int y', rfl, rfl, SqL.of g'.left, at1, _, _, rfl, rfl, _, rfl, q⟩)) (fun cc => ?_) (fun cc => ?_)
        · simp only [Bool.and_eq_true, decide_eq_true_eq] at cc
          refine ⟨_, rfl, .inl ⟨rfl, _, SqL.of ekd⟩, _, rfl, _, rfl, _, rfl, _, rfl, _, _, rfl, rfl, _, rfl, b, l, L, m, u, F, x', y', z', by rw [← recE] <;> rfl, g', by omega, by omega, p3, fun v s H6 x2 y2 z2 sa so q1 q2 q3 n1 n2 n3 el B6 k6 => ?_⟩
          have g6 := g'.move k6 B6 el
          have t6 := g'.tup k6
          refine ⟨kd, vs, v, rfl, rfl, k6 _ _ ekd nin, ?_, ?_⟩
          · have hl := Paired.length pk
            exact small1000 (by omega)
          · have g7 : GenAt i M ce cw (upd H6 kd (.lst (vs ++ [v]))) b l L m u F x2 y2 z2 := g4.move ((kk'.trans k6).newer hkd) (g6.box.put nkd.1 nkd.2) (by rw [upd_ne nkm.symm]; exact g6.left)
            have t7 : TupK H6 (upd H6 kd (.lst (vs ++ [v]))) := TupK.put (k6 _ _ ekd nin)
            refine ⟨ks ++ [s], vs ++ [v], x2, y2, z2, _, rfl, upd_same, paired_snoc (paired_imp pk fun s' v' h => SAt.keep (t6.trans t7) _ _ _ h) (SAt.keep t7 _ _ _ sa), ?_, ?_, ?_, ?_, n1, n2, n3, ?_, fun _ => by simp, fun h => absurd h (Nat.succ_ne_zero _), g7, (kk'.trans k6).newer hkd⟩
            · intro s' hs'
              rcases List.mem_append.mp hs' with h | h
              · exact ok s' h
              · rw [List.mem_singleton.mp h]
                exact so
            · simp only [List.map_append, List.sum_append, List.map_cons, List.map_nil, List.sum_cons, List.sum_nil]
              omega
            · simp only [List.map_append, List.sum_append, List.map_cons, List.map_nil, List.sum_cons, List.sum_nil]
              omega
            · simp only [List.map_append, List.sum_append, List.map_cons, List.map_nil, List.sum_cons, List.sum_nil]
              omega
            · simp only [List.length_append, List.length_cons, List.length_nil]
              omega
        · simp only [Bool.and_eq_false_iff, decide_eq_false_iff_not] at cc
          refine ⟨ks, vs, x', y', z', _, rfl, ekd, pk, ok, s1, s2, s3, p1, p2, p3, by omega, fun _ => pos ?_, fun h => absurd h (Nat.succ_ne_zero _), g', kk'⟩
          by_cases hk0 : k = 0
          · have := ini hk0
            omega
          · omega
      · rintro σ H' ⟨ks, vs, x', y', z', v10, rfl, ekd, pk, ok, s1, s2, s3, p1, p2, p3, len, pos, ini, g', kk'⟩
        have hm := Int.emod_nonneg way (show (2 : Int) ≠ 0 by decide)
        have hm2 := Int.emod_lt_of_pos way (show (0 : Int) < 2 by decide)
        refine ⟨sz2, fun T hT => ?_⟩
        have gT := g'.new (o := .lst [.str "all", .str "best"]) hT
        refine ⟨_, rfl, _, _, rfl, rfl, (by show (0 : Int) < 2; decide), T, _, way % 2, _, rfl, rfl, SqL.of upd_same, pick_name hm hm2, ?_⟩
        have nkT : kd ≠ T := ne_of_none ekd hT
        have ekT : upd H' T (.lst [.str "all", .str "best"]) kd = some (.lst vs) := by rw [upd_ne nkT]; exact ekd
        refine ⟨_, rfl, kd, vs, rfl, .inl ⟨SqL.of ekT, fun t ht => ?_⟩⟩
        have gt := gT.new (o := .tup vs) ht
        refine ⟨sz2, fun p hp => ?_⟩
        have tt : TupK H' (upd (upd (upd H' T (.lst [.str "all", .str "best"])) t (.tup vs)) p (.tup [.str (if way % 2 = 0 then "all" else "best"), .ref t])) := (TupK.new hT).trans ((TupK.new ht).trans (TupK.new hp))
        have gp := gt.new (o := .tup [.str (if way % 2 = 0 then "all" else "best"), .ref t]) hp
        have kp : Keep [b, l, m] H (upd (upd (upd H' T (.lst [.str "all", .str "best"])) t (.tup vs)) p (.tup [.str (if way % 2 = 0 then "all" else "best"), .ref t])) := kk4.trans (kk'.trans ((Keep.new hT).trans ((Keep.new ht).trans (Keep.new hp))))
        have et : (upd (upd (upd H' T (.lst [.str "all", .str "best"])) t (.tup vs)) p (.tup [.str (if way % 2 = 0 then "all" else "best"), .ref t])) t = some (.tup vs) := by rw [upd_ne (ne_of_none upd_same hp)]; exact upd_same
        have pk' := paired_imp pk fun s' v' h => SAt.keep tt _ _ _ h
        have hlen : 0 < ks.length ∧ ks.length ≤ 4 := ⟨pos (by omega), by omega⟩
        by_cases hw2 : way % 2 = 0
        · refine q _ (.all ks) _ x' y' z' ⟨p, t, vs, rfl, by rw [upd_same, if_pos hw2], et, pk'⟩ ⟨hlen.1, hlen.2, ok⟩ ?_ ?_ ?_ p1 p2 p3 gp.left gp.box kp
          · show 1 + (ks.map (sz (d' + 1))).sum = x - x'
            omega
          · exact s2
          · exact s3
        · refine q _ (.best ks) _ x' y' z' ⟨p, t, vs, rfl, by rw [upd_same, if_neg hw2], et, pk'⟩ ⟨hlen.1, hlen.2, ok⟩ ?_ ?_ ?_ p1 p2 p3 gp.left gp.box kp
          · show 1 + (ks.map (sz (d' + 1))).sum = x - x'
            omega
          · exact s2
          · exact s3
    have hm := Int.emod_nonneg way (show (2 : Int) ≠ 0 by decide)
    have hm2 := Int.emod_lt_of_pos way (show (0 : Int) < 2 by decide)
    refine seq_if (b := decide (way < 12) && decide (0 < z)) (ev_and (fun Q q => ⟨_, rfl, _, _, rfl, rfl, _, rfl, q⟩) (fun Q q => ⟨_, rfl, m, _, 2, .int z, rfl, rfl, SqL.of g4.left, at2, _, _, rfl, rfl, _, rfl, q⟩)) (fun cc => ?_) (fun c12 => ?_)
    · -- seen, behind
      simp only [Bool.and_eq_true, decide_eq_true_eq] at cc
      refine ⟨_, rfl, m, _, 2, .int z, rfl, rfl, SqL.of g4.left, at2, _, _, rfl, rfl, _, rfl, m, _, 2, 2, rfl, rfl, g4.left, rfl, ?_⟩
      have g5 : GenAt i M ce cw (upd H4 m (.lst [.int (x - 1), .int y, .int (z - 1)])) b l L m u F (x - 1) y (z - 1) := g4.put
      refine ⟨sz2, fun T hT => ?_⟩
      have g6 := g5.new (o := .lst [.str "seen", .str "behind"]) hT
      refine ⟨_, rfl, _, _, rfl, rfl, (by show (0 : Int) < 2; decide), T, _, way % 2, _, rfl, rfl, SqL.of upd_same, pick_name hm hm2, ?_⟩
      refine ⟨_, rfl, _, rfl, _, rfl, _, rfl, _, rfl, _, _, rfl, rfl, _, rfl, b, l, L, m, u, F, x - 1, y, z - 1, by rw [← recE] <;> rfl, g6, by omega, by omega, by omega, fun v s H6 x2 y2 z2 sa so q1 q2 q3 n1 n2 n3 el B6 k6 => ?_⟩
      have g7 := g6.move k6 B6 el
      refine ⟨(by show 3 ≤ sizeLine; decide), fun p hp => ?_⟩
      have tp : TupK H6 (upd H6 p (.tup [.str (if way % 2 = 0 then "seen" else "behind"), .str wd, v])) := TupK.new hp
      have g8 := g7.new (o := .tup [.str (if way % 2 = 0 then "seen" else "behind"), .str wd, v]) hp
      have kp : Keep [b, l, m] H (upd H6 p (.tup [.str (if way % 2 = 0 then "seen" else "behind"), .str wd, v])) := kk4.trans ((Keep.put (by simp)).trans ((Keep.new hT).trans (k6.trans (Keep.new hp))))
      by_cases hw2 : way % 2 = 0
      · refine q _ (.seen wd s) _ x2 y2 z2 ⟨p, v, rfl, by rw [upd_same, if_pos hw2], SAt.keep tp _ _ _ sa⟩ ⟨hw, so⟩ ?_ ?_ ?_ n1 n2 n3 g8.left g8.box kp
        · show 1 + sz (d' + 1) s = x - x2
          omega
        · exact q2
        · show 1 + wr cw (d' + 1) s = z - z2
          omega
      · refine q _ (.behind wd s) _ x2 y2 z2 ⟨p, v, rfl, by rw [upd_same, if_neg hw2], SAt.keep tp _ _ _ sa⟩ ⟨hw, so⟩ ?_ ?_ ?_ n1 n2 n3 g8.left g8.box kp
        · show 1 + sz (d' + 1) s = x - x2
          omega
        · exact q2
        · show 1 + wr cw (d' + 1) s = z - z2
          omega
    refine seq_if (b := decide (way = 12) && decide (1 < y)) (ev_and (fun Q q => ⟨_, rfl, rfl, _, rfl, by rw [dec_int]; exact q⟩) (fun Q q => ⟨_, rfl, m, _, 1, .int y, rfl, rfl, SqL.of g4.left, at1, _, _, rfl, rfl, _, rfl, q⟩)) (fun cc => ?_) (fun c13 => ?_)
    · -- end
      simp only [Bool.and_eq_true, decide_eq_true_eq] at cc
      refine ⟨_, rfl, m, _, 1, .int y, rfl, rfl, SqL.of g4.left, at1, _, _, rfl, rfl, _, rfl, m, _, 1, 1, rfl, rfl, g4.left, rfl, ?_⟩
      have g5 : GenAt i M ce cw (upd H4 m (.lst [.int (x - 1), .int (y - 1), .int z])) b l L m u F (x - 1) (y - 1) z := g4.put
      refine ⟨_, rfl, _, rfl, b, l, 9, rfl, by decide, by decide, g5.box, fun r H5 d0 d1 B5 k5 => ?_⟩
      have g6 := g5.draw k5 B5
      refine ⟨_, _, rfl, rfl, ?_⟩
      refine ⟨_, rfl, _, rfl, _, rfl, _, rfl, _, _, rfl, rfl, _, rfl, b, l, L, m, u, F, x - 1, y - 1, z, by rw [← recE] <;> rfl, g6, by omega, by omega, hz, fun v s H6 x2 y2 z2 sa so q1 q2 q3 n1 n2 n3 el B6 k6 => ?_⟩
      have g7 := g6.move k6 B6 el
      refine ⟨(by show 4 ≤ sizeLine; decide), fun p hp => ?_⟩
      have g8 := g7.new (o := .tup [.str "end", .str wd, .int (1 + r), v]) hp
      refine q _ (.fin wd (1 + r) s) _ x2 y2 z2 ⟨p, v, rfl, upd_same, SAt.keep (TupK.new hp) _ _ _ sa⟩ ⟨⟨hw, by omega, by omega⟩, so⟩ ?_ ?_ q3 n1 n2 n3 g8.left g8.box (kk4.trans ((Keep.put (by simp)).trans ((k3 k5).trans (k6.trans (Keep.new hp)))))
      · show 1 + sz (d' + 1) s = x - x2
        omega
      · show 1 + er ce (d' + 1) s = y - y2
        omega
    refine seq_if (b := decide (way = 13)) (fun Q q => ⟨_, rfl, rfl, _, rfl, by rw [dec_int]; exact q⟩) (fun _ => ?_) (fun _ => ?_)
    · -- most
      refine ⟨_, rfl, (by show 3 ≤ sizeLine; decide), fun T hT => ?_⟩
      have g5 := g4.new (o := .lst [.int 4, .int 12, .int 31]) hT
      refine ⟨_, rfl, b, l, 3, rfl, by decide, by decide, g5.box, fun r H5 d0 d1 B5 k5 => ?_⟩
      have g6 := g5.draw k5 B5
      have eT := k5 _ _ upd_same (g4.box.nin hT)
      obtain ⟨mm, em, mb⟩ : ∃ mm : Int, atI [V.int 4, V.int 12, V.int 31] r = some (.int mm) ∧ (0 < mm ∧ mm ≤ 31) := by
        have e : r = 0 ∨ r = 1 ∨ r = 2 := by omega
        rcases e with rfl | rfl | rfl
        · exact ⟨4, at0, by decide⟩
        · exact ⟨12, at1, by decide⟩
        · exact ⟨31, at2, by decide⟩
      refine ⟨T, _, r, .int mm, rfl, rfl, SqL.of eT, em, b, l, mm, rfl, mb.1, by omega, g6.box, fun r2 H6 f0 f1 B6 k6 => ?_⟩
      have g7 := g6.draw k6 B6
      refine ⟨_, rfl, _, rfl, _, rfl, _, rfl, _, _, rfl, rfl, _, rfl, b, l, L, m, u, F, x - 1, y, z, by rw [← recE] <;> rfl, g7, by omega, by omega, hz, fun v s H7 x2 y2 z2 sa so q1 q2 q3 n1 n2 n3 el B7 k7 => ?_⟩
      have g8 := g7.move k7 B7 el
      refine ⟨(by show 3 ≤ sizeLine; decide), fun p hp => ?_⟩
      have g9 := g8.new (o := .tup [.str "most", .int r2, v]) hp
      refine q _ (.most r2 s) _ x2 y2 z2 ⟨p, v, rfl, upd_same, SAt.keep (TupK.new hp) _ _ _ sa⟩ ⟨⟨f0, by omega⟩, so⟩ ?_ q2 q3 n1 n2 n3 g9.left g9.box (kk4.trans ((Keep.new hT).trans ((k3 (k5.trans k6)).trans (k7.trans (Keep.new hp)))))
      show 1 + sz (d' + 1) s = x - x2
      omega
    -- half, carry
    refine ⟨sz2, fun T hT => ?_⟩
    have g6 := g4.new (o := .lst [.str "half", .str "carry"]) hT
    refine ⟨_, rfl, _, _, rfl, rfl, (by show (0 : Int) < 2; decide), T, _, way % 2, _, rfl, rfl, SqL.of upd_same, pick_name hm hm2, ?_⟩
    refine ⟨_, rfl, _, rfl, _, rfl, _, rfl, _, _, rfl, rfl, _, rfl, b, l, L, m, u, F, x - 1, y, z, by rw [← recE] <;> rfl, g6, by omega, by omega, hz, fun v s H6 x2 y2 z2 sa so q1 q2 q3 n1 n2 n3 el B6 k6 => ?_⟩
    have g7 := g6.move k6 B6 el
    refine ⟨sz2, fun p hp => ?_⟩
    have tp : TupK H6 (upd H6 p (.tup [.str (if way % 2 = 0 then "half" else "carry"), v])) := TupK.new hp
    have g8 := g7.new (o := .tup [.str (if way % 2 = 0 then "half" else "carry"), v]) hp
    have kp : Keep [b, l, m] H (upd H6 p (.tup [.str (if way % 2 = 0 then "half" else "carry"), v])) := kk4.trans ((Keep.new hT).trans (k6.trans (Keep.new hp)))
    by_cases hw2 : way % 2 = 0
    · refine q _ (.half s) _ x2 y2 z2 ⟨p, v, rfl, by rw [upd_same, if_pos hw2], SAt.keep tp _ _ _ sa⟩ so ?_ q2 q3 n1 n2 n3 g8.left g8.box kp
      show 1 + sz (d' + 1) s = x - x2
      omega
    · refine q _ (.carry s) _ x2 y2 z2 ⟨p, v, rfl, by rw [upd_same, if_neg hw2], SAt.keep tp _ _ _ sa⟩ so ?_ q2 q3 n1 n2 n3 g8.left g8.box kp
      show 1 + sz (d' + 1) s = x - x2
      omega
  · -- a use
    intro _ rest
    obtain ⟨js, uv, eu, jl, jr, pu⟩ := g3.uses
    have gu : UAt H3 i M ce cw u := ⟨js, uv, eu, jl, jr, pu⟩
    have ul := Paired.length pu
    refine ⟨_, rfl, u, rfl, ⟨_, SqL.of eu⟩, fun Dd hD => ?_⟩
    have nuD : u ≠ Dd := ne_of_none eu hD
    refine lc_list (K := K) (a := u) (xs := uv) (fun k H'' => ∃ (js' : List Nat) (vs' : List V), H'' = upd H3 Dd (.lst vs') ∧ js'.length ≤ k ∧ (∀ j ∈ js', j ∈ js ∧ ce j ≤ y ∧ cw j ≤ z) ∧ Paired (fun j v => ∃ t, v = V.ref t ∧ H3 t = some (.tup [.int ((j : Nat) : Int), .int (ce j), .int (cw j)])) js' vs')
      ⟨[], [], rfl, Nat.le_refl _, (fun _ h => nomatch h), .nil⟩ (fun k H'' _ ⟨_, _, e, _⟩ => by rw [e]; exact SqL.of (by rw [upd_ne nuD]; exact eu)) ?_ ?_
    · rintro k xk H'' hk ⟨js', vs', rfl, l', sub, pu'⟩
      obtain ⟨j, ej, t, rfl, et⟩ := paired_get' pu hk
      have et' : upd H3 Dd (.lst vs') t = some (.tup [.int ((j : Nat) : Int), .int (ce j), .int (cw j)]) := by rw [upd_ne (ne_of_none et hD)]; exact et
      have em : upd H3 Dd (.lst vs') m = some (.lst [.int (x - 1), .int y, .int z]) := (g3.new hD).left
      refine ⟨rfl, ev_and (b := decide (ce j ≤ y)) (c := decide (cw j ≤ z)) (fun Q q => ⟨_, rfl, t, _, 1, .int (ce j), rfl, rfl, SqT.of et', at1, _, rfl, m, _, 1, .int y, rfl, rfl, SqL.of em, at1, _, _, rfl, rfl, _, rfl, q⟩)
        (fun Q q => ⟨_, rfl, t, _, 2, .int (cw j), rfl, rfl, SqT.of et', at2, _, rfl, m, _, 2, .int z, rfl, rfl, SqL.of em, at2, _, _, rfl, rfl, _, rfl, q⟩) _ ?_⟩
      have lv := Paired.length pu'
      have hkl := (List.getElem?_eq_some_iff.mp hk).1
      refine ite2 (fun c => ?_) (fun c => ?_)
      · simp only [Bool.and_eq_true, decide_eq_true_eq] at c
        refine ⟨_, rfl, vs', upd_same, small1000 (by omega), js' ++ [j], vs' ++ [.ref t], upd_upd, by simp only [List.length_append, List.length_cons, List.length_nil]; omega, fun j' hj' => ?_, paired_snoc pu' ⟨t, rfl, et⟩⟩
        rcases List.mem_append.mp hj' with h | h
        · exact sub j' h
        · rw [List.mem_singleton.mp h]
          exact ⟨List.mem_of_getElem? ej, c⟩
      · exact ⟨js', vs', rfl, by omega, sub, pu'⟩
    · rintro H'' ⟨js', vs', rfl, l', sub, pu'⟩
      have lv := Paired.length pu'
      have g4 := g3.new (o := .lst vs') hD
      have kk4 : Keep [b, l, m] H (upd H3 Dd (.lst vs')) := kk3.trans (Keep.new hD)
      dsimp only [gName]
      refine ⟨_, rfl, Nat.zero_le _, fun p hp => ?_⟩
      have g5 := g4.new (o := .lst []) hp
      have nDp : Dd ≠ p := ne_of_none upd_same hp
      have eD : upd (upd H3 Dd (.lst vs')) p (.lst []) Dd = some (.lst vs') := by rw [upd_ne nDp]; exact upd_same
      have kk5 : Keep [b, l, m] H (upd (upd H3 Dd (.lst vs')) p (.lst [])) := kk4.trans (Keep.new hp)
      have tk5 : TupK H3 (upd (upd H3 Dd (.lst vs')) p (.lst [])) := (TupK.new hD).trans (TupK.new hp)
      have pu5 : Paired (fun (j : Nat) (v : V) => ∃ t, v = V.ref t ∧ (upd (upd H3 Dd (.lst vs')) p (.lst [])) t = some (HO.tup [.int ((j : Nat) : Int), .int (ce j), .int (cw j)])) js' vs' := paired_imp pu' fun j v ⟨t, e1, e2⟩ => ⟨t, e1, tk5 _ _ e2⟩
      have dp : ∀ {js' : List Nat} {vs' : List V} {Hx : Hp}, Paired (fun j v => ∃ t, v = V.ref t ∧ Hx t = some (.tup [.int ((j : Nat) : Int), .int (ce j), .int (cw j)])) js' vs' → DpAll K Hx vs' (js'.map fun j => .tuple [.int ((j : Nat) : Int), .int (ce j), .int (cw j)]) := by
        intro js' vs' Hx h
        induction h with
        | nil => exact .nil
        | cons h1 _ ih =>
          obtain ⟨t, rfl, e⟩ := h1
          exact .cons (.tup (SqT.of e) (.cons (.int _) (.cons (.int _) (.cons (.int _) .nil)))) ih
      refine ⟨.list (js'.map fun j => .tuple [.int ((j : Nat) : Int), .int (ce j), .int (cw j)]), .list [], .lst (SqL.of eD) (dp pu5), .lst (SqL.of upd_same) .nil, (ShN.lst (n := 1) (ShAll.of fun dd h => ?_)).ok (by decide), rfl, _, rfl, ?_⟩
      · obtain ⟨j, _, rfl⟩ := List.mem_map.mp h
        exact ShN.tup (.cons (.int _) (.cons (.int _) (.cons (.int _) .nil)))
      refine ite2 (fun c => ?_) (fun c => ?_)
      · have hne : 0 < vs'.length := by
          cases js' with
          | nil => exact absurd c (by simp [PyData.eqv, PyData.eqvAll])
          | cons a r => rw [← lv]; exact Nat.succ_pos _
        refine ⟨_, rfl, _, rfl, _, rfl, Dd, _, rfl, .inl (SqL.of eD), b, l, _, rfl, by omega, by omega, g5.box, fun r H6 a0 a1 B6 k6 => ?_⟩
        have g6 := g5.draw k6 B6
        have eD6 := k6 _ _ eD (g3.box.nin hD)
        have hr' : r.toNat < vs'.length := by omega
        have ev : vs'[r.toNat]? = some (vs'[r.toNat]'hr') := List.getElem?_eq_getElem hr'
        obtain ⟨j, ej, t, et0, et⟩ := paired_get' pu5 ev
        have ht6 := g5.tup (k3 k6) _ _ et
        refine ⟨Dd, _, r, .ref t, rfl, rfl, SqL.of eD6, atI_of a0 (by rw [ev, et0]), ?_⟩
        obtain ⟨jin, j1, j2⟩ := sub j (List.mem_of_getElem? ej)
        refine ⟨_, rfl, m, _, 1, .int y, rfl, rfl, SqL.of g6.left, at1, _, rfl, t, _, 1, .int (ce j), rfl, rfl, SqT.of ht6, at1, _, _, rfl, rfl, ?_⟩
        refine ⟨_, rfl, m, _, 2, .int z, rfl, rfl, SqL.of g6.left, at2, _, rfl, t, _, 2, .int (cw j), rfl, rfl, SqT.of ht6, at2, _, _, rfl, rfl, ?_⟩
        refine ⟨sz2, fun T hT => ?_⟩
        have g7 := g6.new (o := .tup [.int (y - ce j), .int (z - cw j)]) hT
        refine ⟨T, _, rfl, SqT.of upd_same, rfl, _, _, rfl, _, rfl, m, _, 1, 1, rfl, rfl, g7.left, rfl, _, _, rfl, _, rfl, m, _, 2, 2, rfl, rfl, upd_same, rfl, rfl, ?_⟩
        have g7a : GenAt i M ce cw (upd (upd H6 T (.tup [.int (y - ce j), .int (z - cw j)])) m (.lst [.int (x - 1), .int (y - ce j), .int z])) b l L m u F (x - 1) (y - ce j) z := g7.put
        have g8 : GenAt i M ce cw (upd (upd (upd H6 T (.tup [.int (y - ce j), .int (z - cw j)])) m (.lst [.int (x - 1), .int (y - ce j), .int z])) m (.lst [.int (x - 1), .int (y - ce j), .int (z - cw j)])) b l L m u F (x - 1) (y - ce j) (z - cw j) := g7a.put
        have ht8 : (upd (upd (upd H6 T (.tup [.int (y - ce j), .int (z - cw j)])) m (.lst [.int (x - 1), .int (y - ce j), .int z])) m (.lst [.int (x - 1), .int (y - ce j), .int (z - cw j)])) t = some (.tup [.int ((j : Nat) : Int), .int (ce j), .int (cw j)]) := (TupK.put g7a.left) _ _ ((TupK.put g7.left) _ _ ((TupK.new hT) _ _ ht6))
        refine ⟨_, rfl, t, _, 0, .int ((j : Nat) : Int), rfl, rfl, SqT.of ht8, at0, sz2, fun p2 hp2 => ?_⟩
        have g9 := g8.new (o := .tup [.str "use", .int ((j : Nat) : Int)]) hp2
        refine q _ (.use j) _ (x - 1) (y - ce j) (z - cw j) ⟨p2, rfl, upd_same⟩ (jr j jin) ?_ ?_ ?_ (by omega) (by omega) (by omega) g9.left g9.box (kk5.trans ((k3 k6).trans ((Keep.new hT).trans ((Keep.put (by simp)).trans ((Keep.put (by simp)).trans (Keep.new hp2))))))
        · show (1 : Int) = x - (x - 1)
          omega
        · show ce j = y - (y - ce j)
          omega
        · show cw j = z - (z - cw j)
          omega
      · exact rest _ _ ⟨none, some (.ref Dd), rfl, g5, kk5⟩
end
end MS
end
section
set_option maxRecDepth 100000
set_option maxHeartbeats 4000000
namespace MS
open PySem L2
section
variable {P : Program} {w : World} {K : PySem.W.Frag} {mg : Str → Option Value} {base : Heap}
theorem no_sp {k : Nat} {f : Addr} {fd : FuncData} {ps : List Str} : FnOk P w K mg base CX0 k f fd ps (fun _ _ _ _ => False) := ⟨fun vs H Q E h => h.elim, fun A outer s H args us vs Q E _ _ _ _ h => h.elim⟩
theorem ok_scheme {i M : Nat} {ce cw : Nat → Int} (D : Def K mg "_law_scheme" s_L_scheme psScheme) (DT : Def K mg "_law_take" s_L_take ["_law_box", "_law_many"]) (ml : mg "len" = none) (mr : mg "range" = none) (mt : mg "tuple" = none) :
    ∀ d : Nat, FnOk P w K mg base CX0 (d + 2) D.f D.fd psScheme (spScheme i M ce cw d)
  | 0 => scheme_turn D DT ml mr mt (sp' := fun _ _ _ _ => False) no_sp fun d' h => by omega
  | d + 1 => scheme_turn D DT ml mr mt (ok_scheme D DT ml mr mt d) fun d' h => by
      have e : d = d' := by omega
      rw [e]
end
/-! ### counts -/
/-- all later schemes are told -/
def UFull (H : Hp) (i M : Nat) (ce cw : Nat → Int) (u : Addr) : Prop := ∃ (js : List Nat) (vs : List V), H u = some (.lst vs) ∧ js.length ≤ 5 ∧ (∀ j, i < j → j < M → j ∈ js) ∧
  Paired (fun j v => ∃ t, v = V.ref t ∧ H t = some (.tup [.int ((j : Nat) : Int), .int (ce j), .int (cw j)])) js vs
theorem UFull.keep {H H' : Hp} {i M : Nat} {ce cw : Nat → Int} {u : Addr} (h : UFull H i M ce cw u) (k : Same H H') : UFull H' i M ce cw u := by
  obtain ⟨js, vs, e, l, r, p⟩ := h
  exact ⟨js, vs, k _ _ e, l, r, paired_imp p fun j v ⟨t, e1, e2⟩ => ⟨t, e1, k _ _ e2⟩⟩
theorem Same.tupK {H H' : Hp} (k : Same H H') : TupK H H' := fun a xs e => k a _ e
/-- what a value within a scheme counts -/
def KidR (i M : Nat) (ce cw : Nat → Int) (H : Hp) (d : Nat) (p : Int × Int) (v : V) : Prop := (∃ n, v = .int n ∧ p = (0, 0)) ∨ ∃ s, SAt H d s v ∧ OkS i M d s ∧ p = (er ce d s, wr cw d s)
def isAB (nm : Str) : Bool := inV (.str nm) [.str "all", .str "best"]
def n0 (nm : Str) : Int := if inV (.str nm) [.str "step", .str "end"] then 1 else 0
def n1 (nm : Str) : Int := if inV (.str nm) [.str "seen", .str "behind"] then 1 else 0
structure KidsOf (i M : Nat) (ce cw : Nat → Int) (H : Hp) (d : Nat) (nm : Str) (rest : List V) (e w : Int) : Prop where
  no : nm ≠ "use"
  kids : (isAB nm = true ∧ ∃ (b : Addr) (vs : List V) (ps : List (Int × Int)), rest = [.ref b] ∧ H b = some (.tup vs) ∧ Paired (KidR i M ce cw H d) ps vs ∧ e = n0 nm + (ps.map (·.1)).sum ∧ w = n1 nm + (ps.map (·.2)).sum) ∨
    (isAB nm = false ∧ ∃ (u : V) (p : Int × Int), cutV (.str nm :: rest) (some (-1)) none = [u] ∧ ¬ (HT.sIx (V.str nm :: rest).length 0 (some (-1)) = 0 ∧ HT.sIx (V.str nm :: rest).length (V.str nm :: rest).length none = (V.str nm :: rest).length) ∧ KidR i M ce cw H d p u ∧ e = n0 nm + p.1 ∧ w = n1 nm + p.2)
theorem kid_list {i M : Nat} {ce cw : Nat → Int} {H : Hp} {d : Nat} : ∀ {ks : List Sch} {vs : List V}, Paired (SAt H d) ks vs → (∀ s ∈ ks, OkS i M d s) → Paired (KidR i M ce cw H d) (ks.map fun s => (er ce d s, wr cw d s)) vs
  | _, _, .nil, _ => .nil
  | _, _, .cons r t, h => .cons (.inr ⟨_, r, h _ List.mem_cons_self, rfl⟩) (kid_list t fun s hs => h s (List.mem_cons_of_mem _ hs))
theorem SAt.view {i M : Nat} {ce cw : Nat → Int} {H : Hp} {d : Nat} {s : Sch} {v : V} (h : SAt H (d + 1) s v) (o : OkS i M (d + 1) s) :
    (∃ a j, v = .ref a ∧ s = .use j ∧ H a = some (.tup [.str "use", .int ((j : Nat) : Int)])) ∨
    ∃ a nm rest, v = .ref a ∧ H a = some (.tup (.str nm :: rest)) ∧ KidsOf i M ce cw H d nm rest (er ce (d + 1) s) (wr cw (d + 1) s) := by
  cases s with
  | step x p =>
    obtain ⟨a, rfl, e⟩ := h
    exact .inr ⟨a, "step", _, rfl, e, by decide +kernel, .inr ⟨by decide +kernel, .int p, (0, 0), rfl, (by show ¬ (HT.sIx 3 0 (some (-1)) = 0 ∧ HT.sIx 3 3 none = 3); decide), .inl ⟨p, rfl, rfl⟩, by show (1 : Int) = n0 "step" + 0; decide +kernel, by show (0 : Int) = n1 "step" + 0; decide +kernel⟩⟩
  | all k =>
    obtain ⟨a, b, vs, rfl, e, e2, pk⟩ := h
    refine .inr ⟨a, "all", _, rfl, e, by decide +kernel, .inl ⟨by decide +kernel, b, vs, _, rfl, e2, kid_list pk o.2.2, ?_, ?_⟩⟩
    · rw [List.map_map, show n0 "all" = 0 by decide +kernel, Int.zero_add]; rfl
    · rw [List.map_map, show n1 "all" = 0 by decide +kernel, Int.zero_add]; rfl
  | best k =>
    obtain ⟨a, b, vs, rfl, e, e2, pk⟩ := h
    refine .inr ⟨a, "best", _, rfl, e, by decide +kernel, .inl ⟨by decide +kernel, b, vs, _, rfl, e2, kid_list pk o.2.2, ?_, ?_⟩⟩
    · rw [List.map_map, show n0 "best" = 0 by decide +kernel, Int.zero_add]; rfl
    · rw [List.map_map, show n1 "best" = 0 by decide +kernel, Int.zero_add]; rfl
  | most n s =>
    obtain ⟨a, u, rfl, e, hs⟩ := h
    refine .inr ⟨a, "most", _, rfl, e, by decide +kernel, .inr ⟨by decide +kernel, u, _, rfl, (by show ¬ (HT.sIx 3 0 (some (-1)) = 0 ∧ HT.sIx 3 3 none = 3); decide), .inr ⟨s, hs, o.2, rfl⟩, ?_, ?_⟩⟩
    · rw [show n0 "most" = 0 by decide +kernel, Int.zero_add]; rfl
    · rw [show n1 "most" = 0 by decide +kernel, Int.zero_add]; rfl
  | half s =>
    obtain ⟨a, u, rfl, e, hs⟩ := h
    refine .inr ⟨a, "half", _, rfl, e, by decide +kernel, .inr ⟨by decide +kernel, u, _, rfl, (by show ¬ (HT.sIx 2 0 (some (-1)) = 0 ∧ HT.sIx 2 2 none = 2); decide), .inr ⟨s, hs, o, rfl⟩, ?_, ?_⟩⟩
    · rw [show n0 "half" = 0 by decide +kernel, Int.zero_add]; rfl
    · rw [show n1 "half" = 0 by decide +kernel, Int.zero_add]; rfl
  | seen x s =>
    obtain ⟨a, u, rfl, e, hs⟩ := h
    refine .inr ⟨a, "seen", _, rfl, e, by decide +kernel, .inr ⟨by decide +kernel, u, _, rfl, (by show ¬ (HT.sIx 3 0 (some (-1)) = 0 ∧ HT.sIx 3 3 none = 3); decide), .inr ⟨s, hs, o.2, rfl⟩, ?_, ?_⟩⟩
    · rw [show n0 "seen" = 0 by decide +kernel, Int.zero_add]; rfl
    · rw [show n1 "seen" = 1 by decide +kernel]; rfl
  | behind x s =>
    obtain ⟨a, u, rfl, e, hs⟩ := h
    refine .inr ⟨a, "behind", _, rfl, e, by decide +kernel, .inr ⟨by decide +kernel, u, _, rfl, (by show ¬ (HT.sIx 3 0 (some (-1)) = 0 ∧ HT.sIx 3 3 none = 3); decide), .inr ⟨s, hs, o.2, rfl⟩, ?_, ?_⟩⟩
    · rw [show n0 "behind" = 0 by decide +kernel, Int.zero_add]; rfl
    · rw [show n1 "behind" = 1 by decide +kernel]; rfl
  | carry s =>
    obtain ⟨a, u, rfl, e, hs⟩ := h
    refine .inr ⟨a, "carry", _, rfl, e, by decide +kernel, .inr ⟨by decide +kernel, u, _, rfl, (by show ¬ (HT.sIx 2 0 (some (-1)) = 0 ∧ HT.sIx 2 2 none = 2); decide), .inr ⟨s, hs, o, rfl⟩, ?_, ?_⟩⟩
    · rw [show n0 "carry" = 0 by decide +kernel, Int.zero_add]; rfl
    · rw [show n1 "carry" = 0 by decide +kernel, Int.zero_add]; rfl
  | fin x p s =>
    obtain ⟨a, u, rfl, e, hs⟩ := h
    refine .inr ⟨a, "end", _, rfl, e, by decide +kernel, .inr ⟨by decide +kernel, u, _, rfl, (by show ¬ (HT.sIx 4 0 (some (-1)) = 0 ∧ HT.sIx 4 4 none = 4); decide), .inr ⟨s, hs, o.2, rfl⟩, ?_, ?_⟩⟩
    · rw [show n0 "end" = 1 by decide +kernel]; rfl
    · rw [show n1 "end" = 0 by decide +kernel, Int.zero_add]; rfl
  | use n =>
    obtain ⟨a, rfl, e⟩ := h
    exact .inl ⟨a, n, rfl, rfl, e⟩
theorem KidR.keep {i M : Nat} {ce cw : Nat → Int} {H H' : Hp} {d : Nat} {p : Int × Int} {v : V} (h : KidR i M ce cw H d p v) (k : TupK H H') : KidR i M ce cw H' d p v := by
  rcases h with h | ⟨s, h1, h2⟩
  · exact .inl h
  · exact .inr ⟨s, SAt.keep k _ _ _ h1, h2⟩
theorem KidsOf.keep {i M : Nat} {ce cw : Nat → Int} {H H' : Hp} {d : Nat} {nm : Str} {rest : List V} {e w : Int} (h : KidsOf i M ce cw H d nm rest e w) (k : TupK H H') : KidsOf i M ce cw H' d nm rest e w := by
  refine ⟨h.no, ?_⟩
  rcases h.kids with ⟨hb, b, vs, ps, e1, eb, pk, ee, ew⟩ | ⟨hb, u, p, eu, nw, hk, ee, ew⟩
  · exact .inl ⟨hb, b, vs, ps, e1, k _ _ eb, paired_imp pk fun _ _ z => z.keep k, ee, ew⟩
  · exact .inr ⟨hb, u, p, eu, nw, hk.keep k, ee, ew⟩
theorem SAt.ref {H : Hp} {d : Nat} {s : Sch} {v : V} (h : SAt H d s v) : ∃ a xs, v = .ref a ∧ H a = some (.tup xs) := by
  cases d with
  | zero => cases h
  | succ d =>
    cases s with
    | step x p => obtain ⟨a, e, h⟩ := h; exact ⟨a, _, e, h⟩
    | all k => obtain ⟨a, b, vs, e, h, _⟩ := h; exact ⟨a, _, e, h⟩
    | best k => obtain ⟨a, b, vs, e, h, _⟩ := h; exact ⟨a, _, e, h⟩
    | most n s => obtain ⟨a, u, e, h, _⟩ := h; exact ⟨a, _, e, h⟩
    | half s => obtain ⟨a, u, e, h, _⟩ := h; exact ⟨a, _, e, h⟩
    | seen x s => obtain ⟨a, u, e, h, _⟩ := h; exact ⟨a, _, e, h⟩
    | behind x s => obtain ⟨a, u, e, h, _⟩ := h; exact ⟨a, _, e, h⟩
    | carry s => obtain ⟨a, u, e, h, _⟩ := h; exact ⟨a, _, e, h⟩
    | fin x p s => obtain ⟨a, u, e, h, _⟩ := h; exact ⟨a, _, e, h⟩
    | use n => obtain ⟨a, e, h⟩ := h; exact ⟨a, _, e, h⟩
/-- what the laws' walks go through within a scheme -/
def tKids (K : PySem.W.Frag) : TE := tIf (tTest (tOp (rIn K false) (tOp (rIxT K) (tVar 0) (tC (.int 0))) (tTup (tCons (tC (.str "all")) (tCons (tC (.str "best")) tNil))))) (tOp (rIxT K) (tVar 0) (tC (.int 1)))
  (tSl (rSlA K) (tVar 0) (tPart (tUn (rU fun i => .int (-i)) (tC (.int 1)))) tNoPart)
theorem kids_ev {K : PySem.W.Frag} {i M : Nat} {ce cw : Nat → Int} {σ : St} {H : Hp} {d : Nat} {a : Addr} {nm : Str} {rest : List V} {e w : Int} {Q : VK} (s0 : σ[0]? = some (some (.ref a))) (ea : H a = some (.tup (.str nm :: rest))) (k : KidsOf i M ce cw H d nm rest e w)
    (h : ∀ (kd : Addr) (kv : List V) (ps : List (Int × Int)) (H1 : Hp), Same H H1 → H1 kd = some (.tup kv) → Paired (KidR i M ce cw H d) ps kv → e = n0 nm + (ps.map (·.1)).sum → w = n1 nm + (ps.map (·.2)).sum → Q (.ref kd) H1) : tKids K σ H Q := by
  refine ⟨_, s0, a, _, 0, .str nm, rfl, rfl, SqT.of ea, at0, sz2, fun t ht => ⟨t, _, rfl, .inr (SqT.of upd_same), rfl, rfl, _, rfl, ?_⟩⟩
  have s1 : Same H (upd H t (.tup [.str "all", .str "best"])) := Same.new ht
  have ea1 := s1 _ _ ea
  rcases k.kids with ⟨hb, b, vs, ps, rfl, eb, pk, ee, ew⟩ | ⟨hb, u, p, eu, nw, hk, ee, ew⟩
  · show (if isAB nm = true then _ else _)
    rw [if_pos hb]
    exact ⟨_, s0, a, _, 1, .ref b, rfl, rfl, SqT.of ea1, at1, h b vs ps _ s1 (s1 _ _ eb) pk ee ew⟩
  · show (if isAB nm = true then _ else _)
    rw [if_neg (by rw [hb]; decide)]
    refine ⟨_, s0, 1, rfl, -1, rfl, a, _, rfl, SqT.of ea1, fun z => absurd z nw, fun _ q hq => ?_⟩
    refine h q [u] [p] _ (s1.trans (Same.new hq)) (by rw [upd_same, eu]) (.cons hk .nil) ?_ ?_
    · rw [ee, List.map_singleton, List.sum_singleton]
    · rw [ew, List.map_singleton, List.sum_singleton]
def spCounted (K : PySem.W.Frag) (i M : Nat) (ce cw : Nat → Int) (d : Nat) : Sp := fun vs H Q _ => ∃ (v : V) (u : Addr) (s : Sch), vs = [v, .ref u] ∧ SAt H d s v ∧ OkS i M d s ∧ UFull H i M ce cw u ∧
  ∀ (p : Addr) (H' : Hp), Same H H' → H' p = some (.tup [.int (er ce d s), .int (wr cw d s)]) → Q (.ref p) H'
abbrev nmCounted : List Str := ["_law_scheme_here", "_law_uses", "_law_found", "_law_kid", "_law_more", "_law_one"]
abbrev psCounted : List Str := ["_law_scheme_here", "_law_uses"]
section
variable {P : Program} {w : World} {K : PySem.W.Frag} {mg : Str → Option Value} {base : Heap}
theorem counted_turn {i M d : Nat} {ce cw : Nat → Int} (D : Def K mg "_law_counted" s_L_counted psCounted) (mi : mg "int" = none) (mt : mg "tuple" = none) (mis : mg "isinstance" = none)
    (G : FnOk P w K mg base CX0 d D.f D.fd psCounted (spCounted K i M ce cw d)) : FnOk P w K mg base CX0 (d + 1) D.f D.fd psCounted (spCounted K i M ce cw (d + 1)) := by
  have nd := sc_L_counted.nd
  refine D.ok sc_L_counted (fun vs H Q E h => ?_) (fun cdv A outer s H vs Q E hr h => ?_)
  · obtain ⟨v, u, s, rfl, _⟩ := h
    rfl
  obtain ⟨v, u, sc, rfl, hs, ho, hu, q⟩ := h
  refine ⟨_, pss_cons (ps_if (pt_cmpR op_eq (pe_ix ix_tup (pv 0) pe_int (fun _ _ => rfl)) pe_str (nomark _))
      (pss_one (ps_ret (pe_ix ix_list (pe_lc (own := [("_law_one", 5)]) (g := gName 5) rfl nd (pi_list (pv 1)) (blkOk_by (N := nmCounted) (sc := defScope s_L_counted) (by decide +kernel)) (fun _ _ _ _ _ => pg_name (i := 5) nd rfl (Or.inl rfl))
          (fun _ _ _ _ _ => pts_one (pt_cmpR op_eq (pe_ix (r := rIxT K) ix_tup (pv 5) pe_int (fun _ _ => rfl)) (pe_ix (r := rIxT K) ix_tup (pv 0) pe_int (fun _ _ => rfl)) (nomark _)))
          (fun _ _ _ _ _ => pe_slice (r := rSlA K) sl_tupA (pv 5) (po_some pe_int) po_none)) pe_int (fun _ _ => rfl)))) pss_nil)
    (pss_cons (ps_set (i := 2) nd rfl (Or.inl rfl) (pe_lst (pa_cons (pe_callTy call_int1 rfl mi (by decide +kernel) (pa_cons (pe_cmpR op_in_seq (pe_ix ix_tup (pv 0) pe_int (fun _ _ => rfl)) (pe_tup (pa_cons pe_str (pa_cons pe_str pa_nil))) (by rfl)) pa_nil))
      (pa_cons (pe_callTy call_int1 rfl mi (by decide +kernel) (pa_cons (pe_cmpR op_in_seq (pe_ix ix_tup (pv 0) pe_int (fun _ _ => rfl)) (pe_tup (pa_cons pe_str (pa_cons pe_str pa_nil))) (by rfl)) pa_nil)) pa_nil))))
    (pss_cons (ps_for PassesOwn.never rfl (pi_tup (pe_ifExp (pt_cmpR op_in_seq (pe_ix ix_tup (pv 0) pe_int (fun _ _ => rfl)) (pe_tup (pa_cons pe_str (pa_cons pe_str pa_nil))) (by rfl)) (pe_ix ix_tup (pv 0) pe_int (fun _ _ => rfl)) (pe_slice sl_tupA (pv 0) (po_some (pe_un un_neg pe_int)) po_none))) (pg_name (i := 3) nd rfl (Or.inl rfl))
      (pss_one (ps_if (pt_val (pe_callB call_isi rfl mis (by decide +kernel) (pa_cons (pv 3) (pa_cons (pe_bltn rfl mt (by decide +kernel) (v := .ty "tuple") rfl) pa_nil))))
        (pss_cons (ps_set (i := 4) nd rfl (Or.inl rfl) (pcall D G hr (pa_cons (pv 3) (pa_cons (pv 1) pa_nil))))
        (pss_one (ps_set (i := 2) nd rfl (Or.inl rfl) (pe_lst (pa_cons (pe_op op_add (pe_ix ix_list (pv 2) pe_int (fun _ _ => rfl)) (pe_ix ix_tup (pv 4) pe_int (fun _ _ => rfl))) (pa_cons (pe_op op_add (pe_ix ix_list (pv 2) pe_int (fun _ _ => rfl)) (pe_ix ix_tup (pv 4) pe_int (fun _ _ => rfl))) pa_nil)))))) pss_nil)))
    (pss_one (ps_ret (pe_callTy call_tuple_of rfl mt (by decide +kernel) (pa_cons (pv 2) pa_nil)))))), ?_⟩
  rcases hs.view (ce := ce) (cw := cw) ho with ⟨a, j, rfl, rfl, ea⟩ | ⟨a, nm, rest, rfl, ea, kk⟩
  · -- a use
    refine seq_if (b := true) (fun Q q => ⟨_, rfl, a, _, 0, .str "use", rfl, rfl, SqT.of ea, at0, rfl, _, rfl, by rw [dec_str]; exact q⟩) (fun _ => ?_) (fun z => nomatch z)
    obtain ⟨js, uv, eu, jl, jf, pu⟩ := hu
    have ul := Paired.length pu
    refine ⟨_, rfl, u, rfl, ⟨_, SqL.of eu⟩, fun Dd hD => ?_⟩
    have jin : j ∈ js := jf j ho.1 ho.2
    refine lc_list (K := K) (a := u) (xs := uv) (fun k H'' => ∃ rs : List Addr, H'' Dd = some (.lst (rs.map V.ref)) ∧ Same H H'' ∧ (∀ r ∈ rs, H'' r = some (.tup [.int (ce j), .int (cw j)])) ∧ rs.length ≤ k ∧ (j ∈ js.take k → rs ≠ []))
      ⟨[], upd_same, Same.new hD, (fun _ h => nomatch h), Nat.le_refl _, fun h => by simp at h⟩ (fun k H'' _ ⟨_, _, s1, _⟩ => SqL.of (s1 _ _ eu)) ?_ ?_
    · rintro k xk H'' hk ⟨rs, eD, s1, hrs, lr, hin⟩
      obtain ⟨j', ej, t, rfl, et⟩ := paired_get' pu hk
      have et' := s1 _ _ et
      have ea' := s1 _ _ ea
      have hkl := (List.getElem?_eq_some_iff.mp hk).1
      have tk : js.take (k + 1) = js.take k ++ [j'] := by
        rw [List.take_succ, ej]
        rfl
      refine ⟨rfl, _, rfl, t, _, 0, .int ((j' : Nat) : Int), rfl, rfl, SqT.of et', at0, _, rfl, a, _, 1, .int ((j : Nat) : Int), rfl, rfl, SqT.of ea', at1, rfl, _, rfl, ?_⟩
      refine ite2 (fun c => ?_) (fun c => ?_)
      · have e : j' = j := by
          have z := V.int.inj (of_decide_eq_true c)
          omega
        subst e
        refine ⟨_, rfl, 1, rfl, t, _, rfl, SqT.of et', fun z => absurd z (by show ¬ (HT.sIx 3 0 (some 1) = 0 ∧ HT.sIx 3 3 none = 3); decide), fun _ p hp => ?_⟩
        refine ⟨_, (by rw [upd_ne (ne_of_none eD hp)]; exact eD), (by rw [List.length_map]; exact small1000 (by omega)), rs ++ [p], ?_, fun b o e => ?_, fun r hr => ?_, by simp only [List.length_append, List.length_cons, List.length_nil]; omega, fun _ => by simp⟩
        · rw [upd_same, List.map_append]
          rfl
        · rw [upd_ne (ne_of_none e hD)]
          exact Same.new hp _ _ (s1 _ _ e)
        · have nD : ∀ x xs, H'' x = some (HO.tup xs) → x ≠ Dd := fun x xs e => ne_of e eD (by intro z; cases z)
          rcases List.mem_append.mp hr with h | h
          · rw [upd_ne (nD r _ (hrs r h))]
            exact Same.new hp _ _ (hrs r h)
          · rw [List.mem_singleton.mp h, upd_ne (ne_of_none eD hp).symm, upd_same]
            rfl
      · refine ⟨rs, eD, s1, hrs, by omega, fun h => hin ?_⟩
        rw [tk] at h
        rcases List.mem_append.mp h with h | h
        · exact h
        · exact absurd (by rw [List.mem_singleton.mp h]; exact decide_eq_true rfl) c
    · rintro H'' ⟨rs, eD, s1, hrs, lr, hin⟩
      have hne := hin (by rw [List.take_of_length_le (by omega)]; exact jin)
      cases rs with
      | nil => exact absurd rfl hne
      | cons r0 rr => exact ⟨Dd, _, 0, .ref r0, rfl, rfl, SqL.of eD, at0, q r0 H'' s1 (hrs r0 List.mem_cons_self)⟩
  · refine seq_if (b := false) (fun Q q => ⟨_, rfl, a, _, 0, .str nm, rfl, rfl, SqT.of ea, at0, rfl, _, rfl, by rw [dec_str, beq_eq_false_iff_ne.mpr kk.no]; exact q⟩) (fun z => nomatch z) (fun _ => ?_)
    refine ⟨_, rfl, a, _, 0, .str nm, rfl, rfl, SqT.of ea, at0, sz2, fun t1 h1 => ⟨t1, _, rfl, .inr (SqT.of upd_same), rfl, rfl, .inr ⟨_, rfl, ?_⟩⟩⟩
    have s1 : Same H (upd H t1 (.tup [.str "step", .str "end"])) := Same.new h1
    refine ⟨_, rfl, a, _, 0, .str nm, rfl, rfl, SqT.of (s1 _ _ ea), at0, sz2, fun t2 h2 => ⟨t2, _, rfl, .inr (SqT.of upd_same), rfl, rfl, .inr ⟨_, rfl, sz2, fun fd0 hf0 => ?_⟩⟩⟩
    have s2 : Same H (upd (upd H t1 (.tup [.str "step", .str "end"])) t2 (.tup [.str "seen", .str "behind"])) := s1.trans (Same.new h2)
    have hf00 : H fd0 = none := s2.free hf0
    have s3 : Same H (upd (upd (upd H t1 (.tup [.str "step", .str "end"])) t2 (.tup [.str "seen", .str "behind"])) fd0 (.lst [.int (n0 nm), .int (n1 nm)])) := s2.trans (Same.new hf0)
    dsimp only [gName]
    refine kids_ev (K := K) (d := d) rfl (s3 _ _ ea) (kk.keep (Same.tupK s3)) (fun kd kv ps H1 s4 ekd pk ee ew => ?_)
    have s5 := s3.trans s4
    have pk1 := paired_imp pk fun _ _ z => z.keep (Same.tupK s4)
    refine ⟨kd, rfl, ⟨_, SqT.of ekd⟩, for_tup (K := K) (a := kd) (xs := kv) (fun k σ H' => ∃ (f : Addr) (v3 v4 : Option V), σ = [some (.ref a), some (.ref u), some (.ref f), v3, v4, none] ∧ H' f = some (.lst [.int (n0 nm + ((ps.take k).map (·.1)).sum), .int (n1 nm + ((ps.take k).map (·.2)).sum)]) ∧ Same H1 H')
      ⟨fd0, none, none, rfl, by rw [List.take_zero, List.map_nil, List.map_nil, List.sum_nil, Int.add_zero, Int.add_zero]; exact s4 _ _ upd_same, Same.refl _⟩ (fun k σ H' _ ⟨_, _, _, _, _, s6⟩ => SqT.of (s6 _ _ ekd)) ?_ ?_⟩
    · rintro k x σ H' hk ⟨f, v3, v4, rfl, ef, s6⟩
      obtain ⟨p, ep, hp⟩ := paired_get' pk1 hk
      have hkl := (List.getElem?_eq_some_iff.mp ep).1
      have tk : ps.take (k + 1) = ps.take k ++ [p] := by rw [List.take_succ, ep]; rfl
      rcases hp with ⟨n, rfl, rfl⟩ | ⟨s', hs', ho', rfl⟩
      · refine one_if (b := false) (fun Q q => ⟨_, rfl, _, .ty "tuple", .type "int", .type "tuple", false, rfl, .ty _, .base (.int n), kit_ty (by decide +kernel), _, rfl, q⟩) (fun z => nomatch z) (fun _ => ?_)
        refine ⟨f, _, v4, rfl, ?_, s6⟩
        rw [tk]
        simpa using ef
      · obtain ⟨t, xs, rfl, et⟩ := hs'.ref
        have et' := s6 _ _ et
        refine one_if (b := true) (fun Q q => ⟨_, rfl, _, .ty "tuple", .type "tuple", .type "tuple", true, rfl, .ty _, .base (.tup et'), kit_ty (by decide +kernel), _, rfl, q⟩) (fun _ => ?_) (fun z => nomatch z)
        refine ⟨_, rfl, _, rfl, .ref t, u, s', rfl, SAt.keep (Same.tupK s6) _ _ _ hs', ho', hu.keep (s5.trans s6), fun p H2 s7 ep => ?_⟩
        have ef' := s7 _ _ ef
        refine ⟨_, rfl, f, _, 0, .int _, rfl, rfl, SqL.of ef', at0, _, rfl, p, _, 0, .int _, rfl, rfl, SqT.of ep, at0, _, _, rfl, rfl, _, rfl, f, _, 1, .int _, rfl, rfl, SqL.of ef', at1, _, rfl, p, _, 1, .int _, rfl, rfl, SqT.of ep, at1, _, _, rfl, rfl, sz2, fun f2 hf2 => ?_⟩
        refine ⟨f2, _, _, rfl, ?_, s6.trans (s7.trans (Same.new hf2))⟩
        rw [upd_same, tk]
        simp only [List.map_append, List.sum_append, List.map_cons, List.map_nil, List.sum_cons, List.sum_nil, Int.add_zero, Int.add_assoc]
    · rintro σ H' ⟨f, v3, v4, rfl, ef, s6⟩
      have lp := Paired.length pk
      rw [← lp, List.take_length, ← ee, ← ew] at ef
      exact ⟨_, rfl, f, _, rfl, .inl ⟨SqL.of ef, fun t ht => q t _ ((s5.trans s6).trans (Same.new ht)) upd_same⟩⟩
end
end MS
end
section
set_option maxRecDepth 100000
set_option maxHeartbeats 4000000
namespace MS
open PySem L2
theorem er_congr {i M : Nat} {c c' : Nat → Int} (h : ∀ j, i < j → j < M → c j = c' j) : ∀ (d : Nat) (s : Sch), OkS i M d s → er c d s = er c' d s
  | 0, _, o => by cases o
  | _ + 1, .step _ _, _ => rfl
  | d + 1, .all k, o => by
    show (k.map (er c d)).sum = (k.map (er c' d)).sum
    rw [List.map_congr_left fun s hs => er_congr h d s (o.2.2 s hs)]
  | d + 1, .best k, o => by
    show (k.map (er c d)).sum = (k.map (er c' d)).sum
    rw [List.map_congr_left fun s hs => er_congr h d s (o.2.2 s hs)]
  | d + 1, .most _ s, o => er_congr h d s o.2
  | d + 1, .half s, o => er_congr h d s o
  | d + 1, .seen _ s, o => er_congr h d s o.2
  | d + 1, .behind _ s, o => er_congr h d s o.2
  | d + 1, .carry s, o => er_congr h d s o
  | d + 1, .fin _ _ s, o => congrArg (1 + ·) (er_congr h d s o.2)
  | _ + 1, .use n, o => h n o.1 o.2
theorem wr_congr {i M : Nat} {c c' : Nat → Int} (h : ∀ j, i < j → j < M → c j = c' j) : ∀ (d : Nat) (s : Sch), OkS i M d s → wr c d s = wr c' d s
  | 0, _, o => by cases o
  | _ + 1, .step _ _, _ => rfl
  | d + 1, .all k, o => by
    show (k.map (wr c d)).sum = (k.map (wr c' d)).sum
    rw [List.map_congr_left fun s hs => wr_congr h d s (o.2.2 s hs)]
  | d + 1, .best k, o => by
    show (k.map (wr c d)).sum = (k.map (wr c' d)).sum
    rw [List.map_congr_left fun s hs => wr_congr h d s (o.2.2 s hs)]
  | d + 1, .most _ s, o => wr_congr h d s o.2
  | d + 1, .half s, o => wr_congr h d s o
  | d + 1, .seen _ s, o => congrArg (1 + ·) (wr_congr h d s o.2)
  | d + 1, .behind _ s, o => congrArg (1 + ·) (wr_congr h d s o.2)
  | d + 1, .carry s, o => wr_congr h d s o
  | d + 1, .fin _ _ s, o => wr_congr h d s o.2
  | _ + 1, .use n, o => h n o.1 o.2
/-- a paper stands in the heap -/
def PaperAt (H : Hp) (ps : List Sch) (v : V) : Prop := ∃ a vs, v = .ref a ∧ H a = some (.tup vs) ∧ Paired (SAt H 5) ps vs
theorem PaperAt.keep {H H' : Hp} {ps : List Sch} {v : V} (h : PaperAt H ps v) (k : TupK H H') : PaperAt H' ps v := by
  obtain ⟨a, vs, e, h1, h2⟩ := h
  exact ⟨a, vs, e, k _ _ h1, paired_imp h2 fun s v => SAt.keep k _ _ _⟩
/-- the later ones from the n-th on can be -/
def TailOk (ce cw : Nat → Int) (M n : Nat) (ps : List Sch) : Prop := ∀ k s, ps[k]? = some s → OkS (n + k) M 5 s ∧ ce (n + k) = er ce 5 s ∧ cw (n + k) = wr cw 5 s ∧ sz 5 s ≤ 12 ∧ er ce 5 s ≤ 7 ∧ wr cw 5 s ≤ 3
def PaperOk (ps : List Sch) : Prop := 0 < ps.length ∧ ps.length ≤ 5 ∧ ∃ ce cw : Nat → Int, TailOk ce cw ps.length 0 ps
theorem TailOk.cons {ce cw : Nat → Int} {M n : Nat} {ps : List Sch} {s : Sch} (h : TailOk ce cw M (n + 1) ps) (o : OkS n M 5 s) (hM : n + 1 + ps.length ≤ M) (h1 : sz 5 s ≤ 12) (h2 : er ce 5 s ≤ 7) (h3 : wr cw 5 s ≤ 3) :
    TailOk (fun j => if j = n then er ce 5 s else ce j) (fun j => if j = n then wr cw 5 s else cw j) M n (s :: ps) := by
  have key : ∀ i t, n ≤ i → OkS i M 5 t → er (fun j => if j = n then er ce 5 s else ce j) 5 t = er ce 5 t ∧ wr (fun j => if j = n then wr cw 5 s else cw j) 5 t = wr cw 5 t := fun i t hi ot =>
    ⟨er_congr (fun j hj _ => if_neg (by omega)) 5 t ot, wr_congr (fun j hj _ => if_neg (by omega)) 5 t ot⟩
  intro k t e
  cases k with
  | zero =>
    obtain rfl : s = t := by simpa using e
    obtain ⟨k1, k2⟩ := key n s (Nat.le_refl _) o
    rw [k1, k2]
    exact ⟨o, if_pos rfl, if_pos rfl, h1, h2, h3⟩
  | succ k =>
    obtain ⟨q1, q2, q3, q4, q5, q6⟩ := h k t (by simpa using e)
    have en : n + 1 + k = n + (k + 1) := by omega
    rw [en] at q1 q2 q3
    obtain ⟨k1, k2⟩ := key (n + (k + 1)) t (by omega) q1
    rw [k1, k2]
    exact ⟨q1, by rw [← q2]; exact if_neg (by omega), by rw [← q3]; exact if_neg (by omega), q4, q5, q6⟩
theorem fn_any {P : Program} {w : World} {K : PySem.W.Frag} {mg : Str → Option Value} {base : Heap} {ι : Type} {sp : ι → Sp} {k : Nat} {f : Addr} {fd : FuncData} {ps : List Str} (G : ∀ i, FnOk P w K mg base CX0 k f fd ps (sp i)) : FnOk P w K mg base CX0 k f fd ps (fun vs H Q E => ∃ i, sp i vs H Q E) :=
  ⟨fun vs H Q E ⟨i, h⟩ => (G i).1 vs H Q E h, fun A outer s H args us vs Q E a1 a2 a3 a4 ⟨i, h⟩ => (G i).2 A outer s H args us vs Q E a1 a2 a3 a4 h⟩
structure Gp where
  i : Nat
  M : Nat
  ce : Nat → Int
  cw : Nat → Int
theorem cut_to (xs : List V) (k : Nat) : cutV xs none (some (k : Int)) = xs.take k := by
  unfold cutV
  rw [HT.sIx_none, HT.sIx_nat, List.drop_zero, Nat.sub_zero]
  by_cases h : k ≤ xs.length
  · rw [Nat.min_eq_left h]
  · rw [Nat.min_eq_right (by omega), List.take_of_length_le (Nat.le_refl _), List.take_of_length_le (by omega)]
theorem cut_from (xs : List V) (k : Nat) : cutV xs (some (k : Int)) none = xs.drop k := by
  unfold cutV
  rw [HT.sIx_none, HT.sIx_nat]
  by_cases h : k ≤ xs.length
  · rw [Nat.min_eq_left h, List.take_of_length_le (by rw [List.length_drop]; exact Nat.le_refl _)]
  · rw [Nat.min_eq_right (by omega), List.drop_eq_nil_of_le (Nat.le_refl _), List.drop_eq_nil_of_le (by omega)]
    simp
/-- plain steps in a row -/
def StepR (H : Hp) (s : Sch) (v : V) : Prop := ∃ x p a, s = .step x p ∧ v = V.ref a ∧ H a = some (.tup [.str "step", .str x, .int p]) ∧ IsW x ∧ 1 ≤ p ∧ p ≤ 9
theorem StepR.keep {H H' : Hp} {s : Sch} {v : V} (h : StepR H s v) (k : TupK H H') : StepR H' s v := by
  obtain ⟨x, p, a, e1, e2, e3, r⟩ := h
  exact ⟨x, p, a, e1, e2, k _ _ e3, r⟩
theorem StepR.at {H : Hp} {s : Sch} {v : V} (h : StepR H s v) (d : Nat) : SAt H (d + 1) s v := by
  obtain ⟨x, p, a, rfl, e2, e3, r⟩ := h
  exact ⟨a, e2, e3⟩
theorem steps_ok {H : Hp} {i M : Nat} {ce cw : Nat → Int} (d : Nat) : ∀ {ss : List Sch} {vs : List V}, Paired (StepR H) ss vs → (∀ s ∈ ss, OkS i M (d + 1) s) ∧ (ss.map (sz (d + 1))).sum = ss.length ∧ (ss.map (er ce (d + 1))).sum = ss.length ∧ (ss.map (wr cw (d + 1))).sum = 0
  | _, _, .nil => ⟨(fun _ h => nomatch h), rfl, rfl, rfl⟩
  | _, _, .cons h t => by
    obtain ⟨h1, h2, h3, h4⟩ := steps_ok (i := i) (M := M) (ce := ce) (cw := cw) d t
    obtain ⟨x, p, a, rfl, _, _, r1, r2⟩ := h
    refine ⟨fun s' hs' => ?_, ?_, ?_, ?_⟩
    · rcases List.mem_cons.mp hs' with rfl | hs'
      · exact ⟨r1, r2⟩
      · exact h1 s' hs'
    · rw [List.map_cons, List.sum_cons, h2, List.length_cons]
      show (1 : Int) + _ = _
      omega
    · rw [List.map_cons, List.sum_cons, h3, List.length_cons]
      show (1 : Int) + _ = _
      omega
    · rw [List.map_cons, List.sum_cons, h4]
      rfl
theorem paired_take {α β : Type} {R : α → β → Prop} : ∀ {xs : List α} {ys : List β}, Paired R xs ys → ∀ n, Paired R (xs.take n) (ys.take n)
  | _, _, .nil, n => by simp; exact .nil
  | _, _, .cons r t, 0 => .nil
  | _, _, .cons r t, n + 1 => .cons r (paired_take t n)
theorem paired_drop {α β : Type} {R : α → β → Prop} : ∀ {xs : List α} {ys : List β}, Paired R xs ys → ∀ n, Paired R (xs.drop n) (ys.drop n)
  | _, _, .nil, n => by simp; exact .nil
  | _, _, .cons r t, 0 => .cons r t
  | _, _, .cons r t, n + 1 => paired_drop t n
theorem Keep.drop {b l m : Addr} {H H1 H2 : Hp} (k1 : Keep [b, l] H H1) (k2 : Keep [b, l, m] H1 H2) (hm : H m = none) : Keep [b, l] H H2 := fun a o e n => k2 a o (k1 a o e n) fun h => by
  have ne : a ≠ m := ne_of_none e hm
  simp only [List.mem_cons, List.not_mem_nil, or_false] at h n
  rcases h with h | h | h
  · exact n (.inl h)
  · exact n (.inr h)
  · exact ne h
theorem Keep.freeN {S : List Addr} {H H' : Hp} {m : Addr} (k : Keep S H H') (hm : H' m = none) (n : m ∉ S) : H m = none := by
  cases q : H m with
  | none => rfl
  | some o =>
    have z := k m o q n
    rw [hm] at z
    cases z
theorem pick3 {x y z r : Int} (h0 : 0 ≤ r) (h1 : r < 3) : ∃ w, atI [V.int x, V.int y, V.int z] r = some (.int w) ∧ (w = x ∨ w = y ∨ w = z) := by
  have e : r = 0 ∨ r = 1 ∨ r = 2 := by omega
  rcases e with rfl | rfl | rfl
  · exact ⟨x, at0, .inl rfl⟩
  · exact ⟨y, at1, .inr (.inl rfl)⟩
  · exact ⟨z, at2, .inr (.inr rfl)⟩
theorem pick2' {x y r : Int} (h0 : 0 ≤ r) (h1 : r < 2) : ∃ w, atI [V.int x, V.int y] r = some (.int w) ∧ (w = x ∨ w = y) := by
  have e : r = 0 ∨ r = 1 := by omega
  rcases e with rfl | rfl
  · exact ⟨x, at0, .inl rfl⟩
  · exact ⟨y, at1, .inr rfl⟩
def UseR (ce cw : Nat → Int) (H : Hp) (j : Nat) (v : V) : Prop := ∃ t, v = V.ref t ∧ H t = some (.tup [.int ((j : Nat) : Int), .int (ce j), .int (cw j)])
theorem use_other {ce cw : Nat → Int} {H : Hp} {n : Nat} {x y : Int} : ∀ {js : List Nat} {uv : List V}, Paired (UseR ce cw H) js uv → (∀ j ∈ js, j ≠ n) → Paired (UseR (fun j => if j = n then x else ce j) (fun j => if j = n then y else cw j) H) js uv
  | _, _, .nil, _ => .nil
  | _, _, .cons h t, al => .cons (by
      obtain ⟨t, e1, e2⟩ := h
      exact ⟨t, e1, by simp [e2, al _ List.mem_cons_self]⟩) (use_other t fun j hj => al j (List.mem_cons_of_mem _ hj))
theorem use_new {ce cw : Nat → Int} {H : Hp} {n : Nat} {x y : Int} {p : Addr} (h : H p = some (.tup [.int ((n : Nat) : Int), .int x, .int y])) : UseR (fun j => if j = n then x else ce j) (fun j => if j = n then y else cw j) H n (.ref p) :=
  ⟨p, rfl, by simp [h]⟩
theorem Box.tup {H H' : Hp} {b l : Addr} (B : Box H b l) (k : Keep [b, l] H H') : TupK H H' := k.tup fun a ha => by
  obtain ⟨_, ⟨n, e1⟩, ns, e2⟩ := B
  rcases List.mem_cons.mp ha with rfl | ha
  · exact ⟨_, e1⟩
  · rw [List.mem_singleton.mp ha]; exact ⟨_, e2⟩
def spPaper : Sp := fun vs H Q _ => ∃ (b l L : Addr) (F : List Str), vs = [.ref b, .ref L] ∧ Box H b l ∧ L ≠ b ∧ L ≠ l ∧ H L = some (.lst (F.map V.str)) ∧ (∀ x ∈ F, IsW x) ∧ 0 < F.length ∧ F.length ≤ 8 ∧
  ∀ (v : V) (ps : List Sch) (H' : Hp), PaperAt H' ps v → PaperOk ps → Box H' b l → Keep [b, l] H H' → Q v H'
abbrev nmPaper : List Str := ["_law_box", "_law_letters_here", "_law_left", "_law_words", "_law_turn", "_law_steps", "_law_whole", "_law_many", "_law_found", "_law_uses", "_law_number", "_law_scheme_here", "_law_word"]
section
variable {P : Program} {w : World} {K : PySem.W.Frag} {mg : Str → Option Value} {base : Heap}
theorem ok_counted {i M : Nat} {ce cw : Nat → Int} (D : Def K mg "_law_counted" s_L_counted psCounted) (mi : mg "int" = none) (mt : mg "tuple" = none) (mis : mg "isinstance" = none) : ∀ d : Nat, FnOk P w K mg base CX0 d D.f D.fd psCounted (spCounted K i M ce cw d)
  | 0 => by
    have no : ∀ vs H Q E, ¬ spCounted K i M ce cw 0 vs H Q E := fun vs H Q E h => by
      obtain ⟨v, u, s, _, h, _⟩ := h
      cases h
    exact ⟨fun vs H Q E h => absurd h (no vs H Q E), fun A outer s H args us vs Q E _ _ _ _ h => absurd h (no vs H Q E)⟩
  | d + 1 => counted_turn D mi mt mis (ok_counted D mi mt mis d)
theorem ok_paper (D : Def K mg "_law_paper" s_L_paper ["_law_box", "_law_letters_here"]) (DT : Def K mg "_law_take" s_L_take ["_law_box", "_law_many"]) (DS : Def K mg "_law_scheme" s_L_scheme psScheme) (DC : Def K mg "_law_counted" s_L_counted psCounted)
    (ml : mg "len" = none) (mr : mg "range" = none) (mt : mg "tuple" = none) (mi : mg "int" = none) (mis : mg "isinstance" = none) (mli : mg "list" = none) : FnOk P w K mg base CX0 7 D.f D.fd ["_law_box", "_law_letters_here"] spPaper := by
  have GT : FnOk P w K mg base CX0 1 DT.f DT.fd ["_law_box", "_law_many"] spTake := ok_take DT
  have GS : FnOk P w K mg base CX0 6 DS.f DS.fd psScheme (fun vs H Q E => ∃ g : Gp, spScheme g.i g.M g.ce g.cw 4 vs H Q E) := fn_any fun g => ok_scheme DS DT ml mr mt 4
  have GC : FnOk P w K mg base CX0 5 DC.f DC.fd psCounted (fun vs H Q E => ∃ g : Gp, spCounted K g.i g.M g.ce g.cw 5 vs H Q E) := fn_any fun g => ok_counted DC mi mt mis 5
  have nd := sc_L_paper.nd
  refine D.ok sc_L_paper (fun vs H Q E h => ?_) (fun cdv A outer s H vs Q E hr h => ?_)
  · obtain ⟨b, l, L, F, rfl, _⟩ := h
    rfl
  obtain ⟨b, l, L, F, rfl, B, nb, nl, eL, w1, l0, l1, q⟩ := h
  have hr1 : Room 1 _ := hr.mono (by decide)
  have hr5 : Room 5 _ := hr.mono (by decide)
  refine ⟨_, pss_cons (ps_if (pt_cmpR op_eq (pcall DT GT hr1 (pa_cons (pv 0) (pa_cons pe_int pa_nil))) pe_int (nomark _))
      (pss_cons (ps_par (i := 2) (j := 3) (by rfl) nd rfl rfl (by decide) rfl rfl (pa_cons (pe_callTy (cr_listStr rfl) rfl mli (by decide +kernel) (pa_cons pe_str pa_nil)) (pa_cons (pe_lst pa_nil) pa_nil)) (by rfl))
      (pss_cons (ps_for PassesOwn.never rfl (pi_range1 rfl mr (pa_cons (pe_op op_add pe_int (pcall DT GT hr1 (pa_cons (pv 0) (pa_cons pe_int pa_nil)))) pa_nil)) (pg_name (i := 4) nd rfl (Or.inl rfl))
        (pss_one (ps_expr (pe_bm PySem.F.plainAttrs_list PySem.F.slot_list_append PySem.F.type_list_append mt_append (pv 3)
          (pa_cons (pe_bm PySem.F.plainAttrs_list PySem.F.slot_list_pop PySem.F.type_list_pop mt_popAt (pv 2) (pa_cons (pcall DT GT hr1 (pa_cons (pv 0) (pa_cons (pe_callB call_len_seq rfl ml PySem.boot_len (pa_cons (pv 2) pa_nil)) pa_nil))) pa_nil)) pa_nil)))))
      (pss_cons (ps_setLc (i := 5) (own := [("_law_word", 12)]) (g := gName 12) (tt := tYes) rfl nd rfl rfl (sw_true rfl rfl rfl (by decide +kernel)) (pi_list (pe_slice sl_list (pv 3) po_none (po_some pe_int))) (blkOk_by (N := nmPaper) (sc := defScope s_L_paper) (by decide +kernel)) (fun _ _ _ _ _ => pg_name (i := 12) nd rfl (Or.inl rfl)) (fun _ _ _ _ _ => pts_nil)
          (fun _ _ _ _ _ => pe_tup (pa_cons pe_str (pa_cons (pv 12) (pa_cons (pe_op op_add pe_int (pcall DT GT hr1 (pa_cons (pv 0) (pa_cons pe_int pa_nil)))) pa_nil)))))
      (pss_cons (ps_set (i := 6) nd rfl (Or.inl rfl) (pe_tup (pa_cons pe_str (pa_cons (pe_tup (pa_cons (pe_tup (pa_cons pe_str (pa_cons (pe_callTy call_tuple_of rfl mt (by decide +kernel) (pa_cons (pe_slice sl_list (pv 5) po_none (po_some pe_int)) pa_nil)) pa_nil)))
          (pa_cons (pe_tup (pa_cons pe_str (pa_cons (pe_callTy call_tuple_of rfl mt (by decide +kernel) (pa_cons (pe_slice sl_list (pv 5) (po_some pe_int) po_none) pa_nil)) pa_nil))) pa_nil))) pa_nil))))
      (pss_one (ps_ret (pe_tup (pa_cons (pe_ifExp (pt_cmpR op_gt (pe_callB call_len_seq rfl ml PySem.boot_len (pa_cons (pv 3) pa_nil)) pe_int (nomark _)) (pe_tup (pa_cons pe_str (pa_cons (pe_ix ix_list (pv 3) pe_int (fun _ _ => rfl)) (pa_cons (pv 6) pa_nil)))) (pv 6)) pa_nil)))))))) pss_nil)
    (pss_cons (ps_set (i := 7) nd rfl (Or.inl rfl) (pe_op op_add pe_int (pe_ix ix_list (pe_lst (pa_cons pe_int (pa_cons (pcall DT GT hr1 (pa_cons (pv 0) (pa_cons pe_int pa_nil))) (pa_cons (pcall DT GT hr1 (pa_cons (pv 0) (pa_cons pe_int pa_nil))) pa_nil)))) (pcall DT GT hr1 (pa_cons (pv 0) (pa_cons pe_int pa_nil))) (fun _ _ => rfl))))
    (pss_cons (ps_par (i := 8) (j := 9) (by rfl) nd rfl rfl (by decide) rfl rfl (pa_cons (pe_lst pa_nil) (pa_cons (pe_lst pa_nil) pa_nil)) (by rfl))
    (pss_cons (ps_for PassesOwn.never rfl (pi_range3 rfl mr (pa_cons (pe_op op_sub (pv 7) pe_int) (pa_cons (pe_un un_neg pe_int) (pa_cons (pe_un un_neg pe_int) pa_nil)))) (pg_name (i := 10) nd rfl (Or.inl rfl))
      (pss_cons (ps_set (i := 2) nd rfl (Or.inl rfl) (pe_lst (pa_cons (pe_ix ix_list (pe_lst (pa_cons pe_int (pa_cons pe_int (pa_cons pe_int pa_nil)))) (pcall DT GT hr1 (pa_cons (pv 0) (pa_cons pe_int pa_nil))) (fun _ _ => rfl))
          (pa_cons (pe_ix ix_list (pe_lst (pa_cons pe_int (pa_cons pe_int (pa_cons pe_int pa_nil)))) (pcall DT GT hr1 (pa_cons (pv 0) (pa_cons pe_int pa_nil))) (fun _ _ => rfl))
          (pa_cons (pe_ix ix_list (pe_lst (pa_cons pe_int (pa_cons pe_int pa_nil))) (pcall DT GT hr1 (pa_cons (pv 0) (pa_cons pe_int pa_nil))) (fun _ _ => rfl)) pa_nil)))))
      (pss_cons (ps_set (i := 11) nd rfl (Or.inl rfl) (pcall DS GS hr (pa_cons (pv 0) (pa_cons (pv 1) (pa_cons (pv 2) (pa_cons pe_int (pa_cons (pv 9) pa_nil)))))))
      (pss_cons (ps_set (i := 8) nd rfl (Or.inl rfl) (pe_op op_cat (pe_lst (pa_cons (pv 11) pa_nil)) (pv 8)))
      (pss_one (ps_set (i := 9) nd rfl (Or.inl rfl) (pe_op op_cat (pv 9) (pe_lst (pa_cons (pe_op op_catA (pe_tup (pa_cons (pv 10) pa_nil)) (pe_callTy call_tuple_of rfl mt (by decide +kernel) (pa_cons (pcall DC GC hr5 (pa_cons (pv 11) (pa_cons (pv 9) pa_nil))) pa_nil))) pa_nil)))))))))
    (pss_one (ps_ret (pe_callTy call_tuple_of rfl mt (by decide +kernel) (pa_cons (pv 8) pa_nil))))))), ?_⟩
  refine ⟨_, rfl, b, l, 12, rfl, by decide, by decide, B, fun r0 H1 a0 a1 B1 k1 => ?_⟩
  have nin : ∀ {x : Addr}, x ≠ b ∧ x ≠ l → x ∉ [b, l] := fun {x} h => by simp [h.1, h.2]
  refine ⟨rfl, _, rfl, ?_⟩
  refine ite2 (fun _ => ?_) (fun _ => ?_)
  · -- a paper of many words
    refine ⟨_, rfl, by decide, fun p hp => ?_⟩
    rw [letters_of]
    refine ⟨Nat.zero_le _, fun f hf => ⟨_, _, rfl, ?_⟩⟩
    have npf : p ≠ f := ne_of_none upd_same hf
    have hpf : upd (upd H1 p (.lst (wordsL.map V.str))) f (.lst []) p = some (.lst (wordsL.map V.str)) := by rw [upd_ne npf]; exact upd_same
    have k2 : Keep [b, l] H1 (upd (upd H1 p (.lst (wordsL.map V.str))) f (.lst [])) := (Keep.new hp).trans (Keep.new hf)
    have hf0 : H1 f = none := (Same.new hp).free hf
    have nfb := B1.ne_new hf0
    have npb := B1.ne_new hp
    have B2 : Box (upd (upd H1 p (.lst (wordsL.map V.str))) f (.lst [])) b l := (B1.new hp).put nfb.1 nfb.2
    refine ⟨_, rfl, b, l, 3, rfl, by decide, by decide, B2, fun r H3 b0 b1 B3 k3 => ⟨_, _, rfl, rfl, _, rfl, by omega, by omega, ?_⟩⟩
    refine for_range (lo := 0) (n := (6 + r).toNat) (fun i σ H' => ∃ (W F : List Str) (v : Option V), σ = [some (.ref b), some (.ref L), some (.ref p), some (.ref f), v, none, none, none, none, none, none, none, none] ∧ H' p = some (.lst (W.map V.str)) ∧ H' f = some (.lst (F.map V.str)) ∧
        W.length + i = 8 ∧ F.length = i ∧ (∀ x ∈ W, IsW x) ∧ (∀ x ∈ F, IsW x) ∧ Box H' b l ∧ Keep [b, l] H1 H')
      ⟨wordsL, [], none, rfl, k3 _ _ hpf (nin npb), k3 _ _ upd_same (nin nfb), rfl, rfl, fun _ h => h, (fun _ h => nomatch h), B3, k2.trans k3⟩ ?_ ?_
    · rintro i σ H' hi ⟨W, F, v, rfl, e1, e2, l1, l2, w1, w2, B', k'⟩
      have hW : 0 < W.length := by omega
      refine ⟨_, rfl, .inl ⟨rfl, _, SqL.of e2⟩, _, rfl, .inl ⟨rfl, _, SqL.of e1⟩, _, rfl, _, rfl, p, _, rfl, .inl (SqL.of e1), b, l, _, rfl, (by rw [List.length_map]; omega), (by rw [List.length_map]; omega), B', fun r H2' r0 r1' B2' k2' => ?_⟩
      rw [List.length_map] at r1'
      have hr' : r.toNat < W.length := by omega
      have e1' := k2' _ _ e1 (nin npb)
      have e2' := k2' _ _ e2 (nin nfb)
      refine ⟨p, _, r, r.toNat, .str (W[r.toNat]'hr'), rfl, rfl, e1', by omega, by omega, seq_of r0 (by rw [List.length_map]; exact r1'), get_map V.str W hr', ?_⟩
      refine ⟨f, _, _, rfl, rfl, (by rw [upd_ne npf.symm]; exact e2'), (by rw [List.length_map]; exact small1000 (by omega)), ?_⟩
      refine ⟨W.eraseIdx r.toNat, F ++ [W[r.toNat]'hr'], _, rfl, ?_, ?_, ?_, ?_, fun x hx => w1 x (mem_eraseIdx hx), fun x hx => ?_, (B2'.put npb.1 npb.2).put nfb.1 nfb.2, ((k'.trans k2').newer hp).newer hf0⟩
      · rw [upd_ne npf, upd_same, map_erase]
      · rw [upd_same, List.map_append]
        rfl
      · rw [List.length_eraseIdx_of_lt hr']
        omega
      · rw [List.length_append, l2]
        rfl
      · rcases List.mem_append.mp hx with hx | hx
        · exact w2 x hx
        · rw [List.mem_singleton.mp hx]
          exact w1 _ (List.getElem_mem hr')
    · rintro σ H4 ⟨W, F, v, rfl, e1, e2, l1, l2, w1, w2, B4, k4⟩
      have F6 : 6 ≤ F.length ∧ F.length ≤ 8 := by omega
      refine ⟨_, rfl, 7, rfl, f, _, rfl, SqL.of e2, fun q1 hq1 => ?_⟩
      have ec : cutV (F.map V.str) none (some 7) = (F.take 7).map V.str := by rw [List.map_take]; exact cut_to _ 7
      rw [ec]
      refine ⟨q1, rfl, ⟨_, SqL.of upd_same⟩, fun Dd hD => ?_⟩
      have nqD : q1 ≠ Dd := ne_of_none upd_same hD
      have B5 := B4.new (o := .lst ((F.take 7).map V.str)) hq1
      have hD4 : H4 Dd = none := (Same.new hq1).free hD
      have k5 : Keep [b, l] H1 (upd (upd H4 q1 (.lst ((F.take 7).map V.str))) Dd (.lst [])) := k4.trans ((Keep.new hq1).trans (Keep.new hD))
      have nDb := B4.ne_new hD4
      refine lc_list (K := K) (a := q1) (xs := (F.take 7).map V.str) (fun k H'' => ∃ (ss : List Sch) (vs' : List V), H'' Dd = some (.lst vs') ∧ ss.length = k ∧ Paired (StepR H'') ss vs' ∧ Box H'' b l ∧ Keep [b, l] (upd H4 q1 (.lst ((F.take 7).map V.str))) H'')
        ⟨[], [], upd_same, rfl, .nil, B5.put nDb.1 nDb.2, Keep.new hD⟩ (fun k H'' _ ⟨_, _, _, _, _, _, kk⟩ => SqL.of (kk _ _ upd_same (B4.nin hq1))) ?_ ?_
      · rintro k x H'' hk ⟨ss, vs', eD, ls, pw, B6, k6⟩
        obtain ⟨y, hy, rfl⟩ := List.mem_map.mp (List.mem_of_getElem? hk)
        have yw := w2 y (List.mem_of_mem_take hy)
        have hkl := (List.getElem?_eq_some_iff.mp hk).1
        rw [List.length_map, List.length_take] at hkl
        refine ⟨rfl, _, rfl, _, rfl, b, l, 9, rfl, by decide, by decide, B6, fun r H7 c0 c1 B7 k7 => ⟨_, _, rfl, rfl, (by show 3 ≤ sizeLine; decide), fun t ht => ?_⟩⟩
        have eD7 := k7 _ _ eD (nin nDb)
        have nDt : Dd ≠ t := ne_of_none eD7 ht
        have lv := Paired.length pw
        have t7 : TupK H'' H7 := k7.tup fun a ha => by
          obtain ⟨_, ⟨n, e1⟩, ns, e2⟩ := B6
          rcases List.mem_cons.mp ha with rfl | ha
          · exact ⟨_, e1⟩
          · rw [List.mem_singleton.mp ha]; exact ⟨_, e2⟩
        have eD8 : upd H7 t (.tup [.str "step", .str y, .int (1 + r)]) Dd = some (.lst vs') := by rw [upd_ne nDt]; exact eD7
        have t8 : TupK H7 (upd (upd H7 t (.tup [.str "step", .str y, .int (1 + r)])) Dd (.lst (vs' ++ [.ref t]))) := (TupK.new ht).trans (TupK.put eD8)
        refine ⟨vs', eD8, small1000 (by omega), ss ++ [.step y (1 + r)], vs' ++ [.ref t], upd_same, by simp [ls], paired_snoc (paired_imp pw fun s' v' h => h.keep (t7.trans t8)) ⟨y, 1 + r, t, rfl, rfl, by rw [upd_ne nDt.symm]; exact upd_same, yw, by omega, by omega⟩, ((B7.new ht).put nDb.1 nDb.2), ?_⟩
        exact ((k6.trans k7).trans (Keep.new ht)).newer (by rw [upd_ne (ne_of_none upd_same hD).symm] <;> exact hD4)
      · rintro H5 ⟨ss, vs', eD, ls, pw, B6, k6⟩
        rw [List.length_map, List.length_take] at ls
        have k4' : Keep [b, l] H4 H5 := (Keep.new hq1).trans k6
        have e2' := k4' _ _ e2 (nin nfb)
        dsimp only [gName]
        refine ⟨_, rfl, 4, rfl, Dd, _, rfl, SqL.of eD, fun s2 hs2 => ⟨s2, _, rfl, .inl ⟨SqL.of upd_same, fun t2 ht2 => ⟨sz2, fun A1 hA1 => ?_⟩⟩⟩⟩
        have eDx := Same.new (o := .tup [.str "all", .ref t2]) hA1 _ _ (Same.new (o := .tup (cutV vs' none (some 4))) ht2 _ _ (Same.new (o := .lst (cutV vs' none (some 4))) hs2 _ _ eD))
        refine ⟨_, rfl, 4, rfl, Dd, _, rfl, SqL.of eDx, fun s3 hs3 => ⟨s3, _, rfl, .inl ⟨SqL.of upd_same, fun t3 ht3 => ⟨sz2, fun A2 hA2 => ⟨sz2, fun A3 hA3 => ⟨sz2, fun A4 hA4 => ?_⟩⟩⟩⟩⟩⟩
        have c1 : cutV vs' none (some 4) = vs'.take 4 := cut_to _ 4
        have c2 : cutV vs' (some 4) none = vs'.drop 4 := cut_from _ 4
        have o4 := Same.new (o := .tup [.str "all", .ref A3]) hA4
        have o3 := (Same.new (o := .tup [.ref A1, .ref A2]) hA3).trans o4
        have o2 := (Same.new (o := .tup [.str "best", .ref t3]) hA2).trans o3
        have ot3 := (Same.new (o := .tup (cutV vs' (some 4) none)) ht3).trans o2
        have os3 := (Same.new (o := .lst (cutV vs' (some 4) none)) hs3).trans ot3
        have o1 := (Same.new (o := .tup [.str "all", .ref t2]) hA1).trans os3
        have ot2 := (Same.new (o := .tup (cutV vs' none (some 4))) ht2).trans o1
        have o5 := (Same.new (o := .lst (cutV vs' none (some 4))) hs2).trans ot2
        have f3 := o4 _ _ (upd_same (a := A3) (o := .tup [.ref A1, .ref A2]))
        have f2 := o3 _ _ (upd_same (a := A2) (o := .tup [.str "best", .ref t3]))
        have ft3 := o2 _ _ (upd_same (a := t3) (o := .tup (cutV vs' (some 4) none)))
        have f1 := os3 _ _ (upd_same (a := A1) (o := .tup [.str "all", .ref t2]))
        have ft2 := o1 _ _ (upd_same (a := t2) (o := .tup (cutV vs' none (some 4))))
        dsimp only [gName]
        have e2f := o5 _ _ e2'
        have lF : (F.map V.str).length = F.length := List.length_map _
        have ss6 : 6 ≤ ss.length ∧ ss.length ≤ 7 := by omega
        have pwA := paired_take pw 4
        have pwB := paired_drop pw 4
        have B8 : Box _ b l := B6.keep (S := []) (fun a o e _ => o5 _ _ e) (by simp) (by simp)
        have k8 : Keep [b, l] H _ := k1.trans (k4.trans (k4'.trans (fun a o e _ => o5 _ _ e)))
        -- the whole, at any depth
        have wholeAt : ∀ (d : Nat) (Hf : Hp), TupK _ Hf → SAt Hf (d + 3) (.all [.all (ss.take 4), .best (ss.drop 4)]) (.ref A4) := fun d Hf kt =>
          ⟨A4, A3, _, rfl, kt _ _ upd_same, kt _ _ f3, .cons ⟨A1, t2, _, rfl, kt _ _ f1, (show Hf t2 = some (.tup (vs'.take 4)) by rw [← c1]; exact kt _ _ ft2), paired_imp pwA fun s' v' h => ((h.keep (Same.tupK o5)).keep kt).at d⟩ (.cons ⟨A2, t3, _, rfl, kt _ _ f2, (show Hf t3 = some (.tup (vs'.drop 4)) by rw [← c2]; exact kt _ _ ft3), paired_imp pwB fun s' v' h => ((h.keep (Same.tupK o5)).keep kt).at d⟩ .nil)⟩
        have wholeOk : ∀ d, OkS 0 1 (d + 3) (.all [.all (ss.take 4), .best (ss.drop 4)]) ∧ sz (d + 3) (.all [.all (ss.take 4), .best (ss.drop 4)]) ≤ 10 ∧ er (fun _ => 0) (d + 3) (.all [.all (ss.take 4), .best (ss.drop 4)]) ≤ 7 ∧ wr (fun _ => 0) (d + 3) (.all [.all (ss.take 4), .best (ss.drop 4)]) = 0 := fun d => by
          obtain ⟨a1, a2, a3, a4⟩ := steps_ok (i := 0) (M := 1) (ce := fun _ => 0) (cw := fun _ => 0) d pwA
          obtain ⟨d1, d2, d3, d4⟩ := steps_ok (i := 0) (M := 1) (ce := fun _ => 0) (cw := fun _ => 0) d pwB
          rw [List.length_take] at a2 a3
          rw [List.length_drop] at d2 d3
          have lA : (ss.take 4).length = 4 := by rw [List.length_take]; omega
          have lB : (ss.drop 4).length = ss.length - 4 := List.length_drop
          refine ⟨⟨by simp, by simp, fun s' hs' => ?_⟩, ?_, ?_, ?_⟩
          · rcases List.mem_cons.mp hs' with rfl | hs'
            · exact ⟨by omega, by omega, a1⟩
            · rw [List.mem_singleton.mp hs']
              exact ⟨by omega, by omega, d1⟩
          · show 1 + ((1 + ((ss.take 4).map (sz (d + 1))).sum) + ((1 + ((ss.drop 4).map (sz (d + 1))).sum) + 0)) ≤ 10
            omega
          · show (((ss.take 4).map (er (fun _ => 0) (d + 1))).sum) + ((((ss.drop 4).map (er (fun _ => 0) (d + 1))).sum) + 0) ≤ 7
            omega
          · show (((ss.take 4).map (wr (fun _ => 0) (d + 1))).sum) + ((((ss.drop 4).map (wr (fun _ => 0) (d + 1))).sum) + 0) = 0
            omega
        refine ⟨_, rfl, f, _, rfl, .inl (SqL.of e2f), _, _, rfl, rfl, _, rfl, ?_⟩
        refine ite2 (fun c => ?_) (fun c => ?_)
        · have c8 : 7 < F.length := by
            have z := of_decide_eq_true c
            rw [lF] at z
            omega
          refine ⟨_, rfl, f, _, 7, .str (F[7]'c8), rfl, rfl, SqL.of e2f, at_of (j := 7) rfl (get_map V.str F c8), _, rfl, (by show 3 ≤ sizeLine; decide), fun A5 hA5 => ?_⟩
          refine ⟨(by show 1 ≤ sizeLine; decide), fun R hR => ?_⟩
          have oR := (Same.new (o := .tup [.str "seen", .str (F[7]'c8), .ref A4]) hA5).trans (Same.new (o := .tup [.ref A5]) hR)
          obtain ⟨w1', w2', w3', w4'⟩ := wholeOk 1
          refine q (.ref R) [.seen (F[7]'c8) (.all [.all (ss.take 4), .best (ss.drop 4)])] _ ⟨R, _, rfl, upd_same, .cons ⟨A5, _, rfl, Same.new hR _ _ upd_same, wholeAt 1 _ (Same.tupK oR)⟩ .nil⟩ ⟨by simp, by simp, fun _ => er (fun _ => 0) 5 (.seen (F[7]'c8) (.all [.all (ss.take 4), .best (ss.drop 4)])), fun _ => wr (fun _ => 0) 5 (.seen (F[7]'c8) (.all [.all (ss.take 4), .best (ss.drop 4)])), ?_⟩
            (B8.keep (S := []) (fun a o e _ => oR _ _ e) (by simp) (by simp)) (k8.trans (fun a o e _ => oR _ _ e))
          intro k s' hk
          cases k with
          | succ k => simp at hk
          | zero =>
            obtain rfl : _ = s' := by simpa using hk
            have o := (show OkS 0 1 5 (.seen (F[7]'c8) (.all [.all (ss.take 4), .best (ss.drop 4)])) from ⟨w2 _ (List.getElem_mem c8), w1'⟩)
            refine ⟨o, (er_congr (fun j h1 h2 => by omega) 5 _ o), (wr_congr (fun j h1 h2 => by omega) 5 _ o), ?_, ?_, ?_⟩
            · show 1 + sz (1 + 3) _ ≤ 12
              omega
            · rw [er_congr (c' := fun _ => 0) (fun j h1 h2 => by omega) 5 _ o]
              exact w3'
            · rw [wr_congr (c' := fun _ => 0) (fun j h1 h2 => by omega) 5 _ o]
              show 1 + wr (fun _ => 0) (1 + 3) _ ≤ 3
              omega
        · refine ⟨_, rfl, (by show 1 ≤ sizeLine; decide), fun R hR => ?_⟩
          have oR := (Same.new (o := .tup [.ref A4]) hR)
          obtain ⟨w1', w2', w3', w4'⟩ := wholeOk 2
          refine q (.ref R) [.all [.all (ss.take 4), .best (ss.drop 4)]] _ ⟨R, _, rfl, upd_same, .cons (wholeAt 2 _ (Same.tupK oR)) .nil⟩ ⟨by simp, by simp, fun _ => er (fun _ => 0) 5 (.all [.all (ss.take 4), .best (ss.drop 4)]), fun _ => wr (fun _ => 0) 5 (.all [.all (ss.take 4), .best (ss.drop 4)]), ?_⟩
            (B8.keep (S := []) (fun a o e _ => oR _ _ e) (by simp) (by simp)) (k8.trans (fun a o e _ => oR _ _ e))
          intro k s' hk
          cases k with
          | succ k => simp at hk
          | zero =>
            obtain rfl : _ = s' := by simpa using hk
            refine ⟨w1', (er_congr (fun j h1 h2 => by omega) 5 _ w1'), (wr_congr (fun j h1 h2 => by omega) 5 _ w1'), Int.le_trans w2' (by decide), ?_, ?_⟩
            · rw [er_congr (c' := fun _ => 0) (fun j h1 h2 => by omega) 5 _ w1']
              exact w3'
            · rw [wr_congr (c' := fun _ => 0) (fun j h1 h2 => by omega) 5 _ w1']
              exact Int.le_trans (Int.le_of_eq w4') (by decide)
  · refine ⟨_, rfl, b, l, 3, rfl, by decide, by decide, B1, fun r1 H2 b0 b1 B2 k2 => ?_⟩
    refine ⟨_, rfl, b, l, 5, rfl, by decide, by decide, B2, fun r2 H3 c0 c1 B3 k3 => ⟨(by show 3 ≤ sizeLine; decide), fun T hT => ?_⟩⟩
    refine ⟨_, rfl, b, l, 3, rfl, by decide, by decide, B3.new hT, fun r3 H4 d0 d1 B4 k4 => ?_⟩
    have eT := k4 _ _ upd_same (B3.nin hT)
    obtain ⟨mm, em, hmm⟩ := pick3 (x := 0) (y := r1) (z := r2) d0 d1
    have mm0 : 0 ≤ mm ∧ mm ≤ 4 := by omega
    refine ⟨T, _, r3, .int mm, rfl, rfl, SqL.of eT, em, _, _, rfl, rfl, ?_⟩
    have kk4 : Keep [b, l] H H4 := k1.trans (k2.trans (k3.trans ((Keep.new hT).trans k4)))
    refine ⟨Nat.zero_le _, fun f0 hf0 => ⟨Nat.zero_le _, fun u0 hu0 => ⟨_, _, rfl, ?_⟩⟩⟩
    have hu00 : H4 u0 = none := (Same.new hf0).free hu0
    have nfu : f0 ≠ u0 := ne_of_none upd_same hu0
    have B5 := (B4.new (o := .lst []) hf0).new (o := .lst []) hu0
    have kk5 : Keep [b, l] H (upd (upd H4 f0 (.lst [])) u0 (.lst [])) := kk4.trans ((Keep.new hf0).trans (Keep.new hu0))
    have hM : ∃ M : Nat, (M : Int) = 1 + mm := ⟨(1 + mm).toNat, by omega⟩
    obtain ⟨M, eM⟩ := hM
    refine ⟨_, rfl, _, _, rfl, rfl, 1, rfl, 1, rfl, 1 + mm - 1, -1, -1, (1 + mm - 1 - -1).toNat, rfl, RgC.neg (by omega) (by omega) (by decide) (by decide), ?_⟩
    have en : (1 + mm - 1 - -1).toNat = M := by omega
    rw [en]
    refine for_rangeC (lo := 1 + mm - 1) (c := -1) (n := M) (fun k σ H' => ∃ (f u : Addr) (vs : List V) (ps : List Sch) (js : List Nat) (uv : List V) (ce cw : Nat → Int) (v2 v10 v11 : Option V), σ = [some (.ref b), some (.ref L), v2, none, none, none, none, some (.int (1 + mm)), some (.ref f), some (.ref u), v10, v11, none] ∧
        H' f = some (.lst vs) ∧ H' u = some (.lst uv) ∧ (u ≠ b ∧ u ≠ l) ∧ (f ≠ b ∧ f ≠ l) ∧ Paired (SAt H' 5) ps vs ∧ ps.length = k ∧ k ≤ M ∧ TailOk ce cw M (M - k) ps ∧ Paired (UseR ce cw H') js uv ∧ (∀ j, j ∈ js ↔ M - k ≤ j ∧ j < M) ∧ js.length = k ∧ Box H' b l ∧ Keep [b, l] H H')
      ⟨f0, u0, [], [], [], [], fun _ => 0, fun _ => 0, none, none, none, rfl, by rw [upd_ne nfu]; exact upd_same, upd_same, B4.ne_new hu00, B4.ne_new hf0, .nil, rfl, Nat.zero_le _, (fun k s h => by simp at h), .nil, (fun j => ⟨(fun h => nomatch h), fun h => by omega⟩), rfl, B5, kk5⟩ ?_ ?_
    · rintro k σ H' hk ⟨f, u, vs, ps, js, uv, ce, cw, v2, v10, v11, rfl, ef, eu, nu, nf, pp, lp, kM, tl, pu, iff, lj, B', k'⟩
      refine ⟨(by show 3 ≤ sizeLine; decide), fun T1 hT1 => ⟨_, rfl, b, l, 3, rfl, by decide, by decide, B'.new hT1, fun q1 H5 _ _ B5 k5 => ?_⟩⟩
      have eT1 := k5 _ _ upd_same (B'.nin hT1)
      obtain ⟨x, ex, hx⟩ := pick3 (x := 4) (y := 8) (z := 12) (r := q1) (by assumption) (by assumption)
      refine ⟨T1, _, q1, .int x, rfl, rfl, SqL.of eT1, ex, ?_⟩
      refine ⟨(by show 3 ≤ sizeLine; decide), fun T2 hT2 => ⟨_, rfl, b, l, 3, rfl, by decide, by decide, B5.new hT2, fun q2 H6 g0 g1 B6 k6 => ?_⟩⟩
      have eT2 := k6 _ _ upd_same (B5.nin hT2)
      obtain ⟨y, ey, hy⟩ := pick3 (x := 2) (y := 4) (z := 7) (r := q2) g0 g1
      refine ⟨T2, _, q2, .int y, rfl, rfl, SqL.of eT2, ey, ?_⟩
      refine ⟨sz2, fun T3 hT3 => ⟨_, rfl, b, l, 2, rfl, by decide, by decide, B6.new hT3, fun q3 H7 h0 h1 B7 k7 => ?_⟩⟩
      have eT3 := k7 _ _ upd_same (B6.nin hT3)
      obtain ⟨z, ez, hz⟩ := pick2' (x := 1) (y := 3) (r := q3) h0 h1
      refine ⟨T3, _, q3, .int z, rfl, rfl, SqL.of eT3, ez, ?_⟩
      refine ⟨(by show 3 ≤ sizeLine; decide), fun m hm => ?_⟩
      have kk7 : Keep [b, l] H' H7 := (Keep.new hT1).trans (k5.trans ((Keep.new hT2).trans (k6.trans ((Keep.new hT3).trans k7))))
      have B8 := B7.new (o := .lst [.int x, .int y, .int z]) hm
      have kk8 : Keep [b, l] H' (upd H7 m (.lst [.int x, .int y, .int z])) := kk7.trans (Keep.new hm)
      have t8 := B'.tup kk8
      have eu8 := kk8 _ _ eu (nin nu)
      have nmb := B7.ne_new hm
      have eL7 := (k'.trans kk7) _ _ eL (nin ⟨nb, nl⟩)
      have eu7 := kk7 _ _ eu (nin nu)
      have nLm : L ≠ m := ne_of_none eL7 hm
      have num : u ≠ m := ne_of_none eu7 hm
      have pu8 : Paired (UseR ce cw (upd H7 m (.lst [.int x, .int y, .int z]))) js uv := paired_imp pu fun j v ⟨t, e1, e2⟩ => ⟨t, e1, t8 _ _ e2⟩
      have jM : js.length ≤ 5 := by omega
      have g : GenAt (M - 1 - k) M ce cw (upd H7 m (.lst [.int x, .int y, .int z])) b l L m u F x y z :=
        ⟨B8, upd_same, by rw [upd_ne nLm]; exact eL7, w1, l0, l1, ⟨js, uv, eu8, jM, fun j hj => (by have := (iff j).mp hj; omega), pu8⟩, nmb, by simp [nb, nl, nLm], by simp [nu.1, nu.2, num]⟩
      dsimp only [gName]
      refine ⟨_, rfl, _, rfl, _, rfl, _, rfl, ⟨M - 1 - k, M, ce, cw⟩, b, l, L, m, u, F, x, y, z, rfl, g, by omega, by omega, by omega, fun v s H9 x' y' z' sa so e1 e2 e3 p1 p2 p3 el B9 k9 => ?_⟩
      have g9 := g.move k9 B9 el
      have hm' : H' m = none := kk7.freeN hm (nin nmb)
      have k10 : Keep [b, l] H' H9 := Keep.drop kk8 k9 hm'
      have t10 := B'.tup k10
      have ef10 := k10 _ _ ef (nin nf)
      have eu10 := k10 _ _ eu (nin nu)
      have lv := Paired.length pp
      have lu := Paired.length pu
      dsimp only [gName]
      refine ⟨_, rfl, (by show 1 ≤ sizeLine; decide), fun X1 hX1 => ⟨_, rfl, X1, f, _, _, rfl, rfl, upd_same, Same.new hX1 _ _ ef10, szN (by simp only [List.length_cons, List.length_nil]; omega), fun f2 hf2 => ?_⟩⟩
      have o1 := (Same.new (o := .lst [v]) hX1).trans (Same.new (o := .lst ([v] ++ vs)) hf2)
      refine ⟨_, rfl, _, rfl, (by show 1 ≤ sizeLine; decide), fun t1 ht1 => ?_⟩
      have o2 := o1.trans (Same.new (o := .tup [.int (1 + mm - 1 + ((k : Nat) : Int) * -1)]) ht1)
      have eNum : 1 + mm - 1 + ((k : Nat) : Int) * -1 = ((M - 1 - k : Nat) : Int) := by omega
      refine ⟨_, rfl, _, rfl, ⟨M - 1 - k, M, ce, cw⟩, v, u, s, rfl, SAt.keep (Same.tupK o2) _ _ _ sa, so, ⟨js, uv, o2 _ _ eu10, jM, fun j h1 h2 => (iff j).mpr ⟨by have h1' : M - 1 - k < j := h1; omega, h2⟩, paired_imp pu fun j v ⟨t, e1, e2⟩ => ⟨t, e1, (Same.tupK o2) _ _ (t10 _ _ e2)⟩⟩, fun p H6 s6 ep => ?_⟩
      have o3 := o2.trans s6
      refine ⟨p, _, rfl, .inr ⟨SqT.of ep, t1, p, _, _, rfl, rfl, SqT.of (s6 _ _ upd_same), SqT.of ep, (by show 3 ≤ sizeLine; decide), (fun z => nomatch z), (fun _ z => nomatch z), fun _ _ p2 hp2 => ⟨(by show 1 ≤ sizeLine; decide), fun w1 hw1 => ?_⟩⟩⟩
      have o4 := (Same.new (o := .tup ([.int (1 + mm - 1 + ((k : Nat) : Int) * -1)] ++ [.int (er ce 5 s), .int (wr cw 5 s)])) hp2)
      have o5 := o4.trans (Same.new (o := .lst [.ref p2]) hw1)
      refine ⟨u, w1, _, _, rfl, rfl, o5 _ _ (o3 _ _ eu10), upd_same, szN (by simp only [List.length_cons, List.length_nil]; omega), fun u2 hu2 => ?_⟩
      have o6 := o5.trans (Same.new (o := .lst (uv ++ [.ref p2])) hu2)
      have oAll := o3.trans o6
      have tAll := Same.tupK oAll
      have B10 := B9.keep (S := []) (fun a o e _ => oAll _ _ e) (by simp) (by simp)
      have kAll : Keep [b, l] H' _ := k10.trans (fun a o e _ => oAll _ _ e)
      have hN : M - (k + 1) = M - 1 - k := by omega
      have hN1 : M - 1 - k + 1 = M - k := by omega
      have e1' : sz 5 s = x - x' := e1
      have e2' : er ce 5 s = y - y' := e2
      have e3' : wr cw 5 s = z - z' := e3
      have tl0 : TailOk ce cw M (M - 1 - k + 1) ps := by rw [hN1]; exact tl
      have tl' := TailOk.cons (n := M - 1 - k) (s := s) tl0 so (show M - 1 - k + 1 + ps.length ≤ M by omega) (show sz 5 s ≤ 12 by omega) (show er ce 5 s ≤ 7 by omega) (show wr cw 5 s ≤ 3 by omega)
      have f2b := B9.ne_new (hX1 : H9 X1 = none)
      refine ⟨f2, u2, [v] ++ vs, s :: ps, js ++ [M - 1 - k], uv ++ [.ref p2], _, _, _, _, _, rfl, ?_, upd_same, ?_, ?_, ?_, by simp only [List.length_cons]; omega, by omega, by rw [hN]; exact tl', ?_, fun j => ?_, by simp only [List.length_append, List.length_cons, List.length_nil]; omega, B10, k'.trans kAll⟩
      · exact (Same.new (o := .tup [.int (1 + mm - 1 + ((k : Nat) : Int) * -1)]) ht1).trans (s6.trans o6) _ _ upd_same
      · exact (B9.keep (S := []) (fun a o e _ => o3.trans o5 _ _ e) (by simp) (by simp)).ne_new hu2
      · exact (B9.new (o := .lst [v]) hX1).ne_new hf2
      · exact .cons (SAt.keep tAll _ _ _ sa) (paired_imp pp fun s' v' h => SAt.keep (t10.trans tAll) _ _ _ h)
      · have al : ∀ j ∈ js, j ≠ M - 1 - k := fun j hj => by have := (iff j).mp hj; omega
        have z := ((Same.new (o := .lst [.ref p2]) hw1).trans (Same.new (o := .lst (uv ++ [.ref p2])) hu2)) _ _ (upd_same (a := p2) (o := .tup ([.int (1 + mm - 1 + ((k : Nat) : Int) * -1)] ++ [.int (er ce 5 s), .int (wr cw 5 s)])))
        have z2 := z.trans (by rw [eNum]; rfl : some (HO.tup ([V.int (1 + mm - 1 + ((k : Nat) : Int) * -1)] ++ [V.int (er ce 5 s), V.int (wr cw 5 s)])) = some (.tup [V.int ((M - 1 - k : Nat) : Int), V.int (er ce 5 s), V.int (wr cw 5 s)]))
        exact paired_snoc (use_other (paired_imp pu fun j v ⟨t, e1, e2⟩ => ⟨t, e1, tAll _ _ (t10 _ _ e2)⟩) al) (use_new z2)
      · rw [List.mem_append, List.mem_singleton, iff j]
        omega
    · rintro σ H' ⟨f, u, vs, ps, js, uv, ce, cw, v2, v10, v11, rfl, ef, eu, nu, nf, pp, lp, kM, tl, pu, iff, lj, B', k'⟩
      refine ⟨_, rfl, f, _, rfl, .inl ⟨SqL.of ef, fun t ht => ?_⟩⟩
      refine q (.ref t) ps _ ⟨t, vs, rfl, upd_same, paired_imp pp fun s v h => SAt.keep (TupK.new ht) _ _ _ h⟩ ⟨by omega, by omega, ce, cw, ?_⟩ (B'.new ht) (k'.trans (Keep.new ht))
      rw [lp]
      rw [Nat.sub_self] at tl
      exact tl
end
end MS
end
section
set_option maxRecDepth 100000
set_option maxHeartbeats 4000000
namespace MS
open PySem L2
def shapesL : List (Str × List Str) := [("step", ["word", "points"]), ("all", ["schemes"]), ("best", ["schemes"]), ("most", ["limit", "scheme"]), ("half", ["scheme"]), ("seen", ["word", "scheme"]), ("behind", ["word", "scheme"]), ("carry", ["scheme"]), ("end", ["word", "points", "scheme"]), ("use", ["later"])]
def freeL : List Str := ["len", "list", "range", "tuple", "int", "isinstance", "any", "all", "zip", "enumerate", "str", "bool", "min", "max", "sum", "sorted", "set", "reversed"]
/-- what the program's top leaves -/
structure PTx (w : World) (K : PySem.W.Frag) (mg : Str → Option Value) : Prop where
  words : ∃ a, mg "WORDS" = some (.ref a) ∧ ∀ H, SqT K H a (wordsL.map V.str)
  right : ∃ t, mg "RIGHT" = some (.str "r" t)
  wrong : ∃ t, mg "WRONG" = some (.str "w" t)
  carried : ∃ t, mg "CARRIED" = some (.str "c" t)
  mostSteps : ∃ t, mg "MOST_STEPS" = some (.int 12 t)
  mostWithin : ∃ t, mg "MOST_WITHIN" = some (.int 4 t)
  mostInPaper : ∃ t, mg "MOST_IN_PAPER" = some (.int 5 t)
  mostInScheme : ∃ t, mg "MOST_IN_SCHEME" = some (.int 12 t)
  longest : ∃ t, mg "LONGEST_PLACE" = some (.int 4 t)
  mostE : ∃ t, mg "MOST_EARNERS" = some (.int 7 t)
  mostW : ∃ t, mg "MOST_WATCHERS" = some (.int 3 t)
  earners : ∃ a, mg "EARNERS" = some (.ref a) ∧ ∀ H, SqT K H a [.str "step", .str "end"]
  watchers : ∃ a, mg "WATCHERS" = some (.ref a) ∧ ∀ H, SqT K H a [.str "seen", .str "behind"]
  shapes : ∃ a, mg "SHAPES" = some (.ref a) ∧ (a == sysModules) = false ∧ ∀ p ∈ shapesL, ∃ t, KDct K w a p.1 (.ref t) ∧ ∀ H, SqT K H t (p.2.map V.str)
  bounds : ∃ a, mg "BOUNDS" = some (.ref a) ∧ ∃ t1 t2, KDct K w a "points" (.ref t1) ∧ (∀ H, SqT K H t1 [.int 1, .int 9]) ∧ KDct K w a "limit" (.ref t2) ∧ ∀ H, SqT K H t2 [.int 0, .int 30]
  free : ∀ x ∈ freeL, mg x = none
theorem str_len2 {z : Str} (h : z.length = 2) : z.length ≤ sizeLine := by rw [h]; decide
def spIsStep : Sp := fun vs H Q _ => ∃ p : StepT, vs = [.str (stepS p)] ∧ IsStep p ∧ ∀ H', Same H H' → Q (.bl true) H'
theorem inV_words {x : Str} (h : IsW x) : inV (.str x) (wordsL.map V.str) = true := by
  have h' : x ∈ wordsL := h
  have q : ∀ y ∈ wordsL, inV (.str y) (wordsL.map V.str) = true := by decide +kernel
  exact q x h'
theorem inV_marks {x : Str} (h : IsM x) : inV (.str x) [.str "r", .str "w", .str "c"] = true := by
  have h' : x ∈ marksL := h
  have q : ∀ y ∈ marksL, inV (.str y) [.str "r", .str "w", .str "c"] = true := by decide +kernel
  exact q x h'
section
variable {P : Program} {w : World} {K : PySem.W.Frag} {mg : Str → Option Value} {base : Heap}
theorem ok_is_step (T : PTx w K mg) (D : Def K mg "is_step" s_is_step ["thing"]) : FnOk P w K mg base CX0 1 D.f D.fd ["thing"] spIsStep := by
  obtain ⟨aW, gW, qW⟩ := T.words
  obtain ⟨tr, gr⟩ := T.right
  obtain ⟨tw, gw⟩ := T.wrong
  obtain ⟨tc, gc⟩ := T.carried
  refine D.ok sc_is_step (fun vs H Q E h => ?_) (fun cdv A outer s H vs Q E hr h => ?_)
  · obtain ⟨p, rfl, _⟩ := h
    rfl
  obtain ⟨p, rfl, hp, q⟩ := h
  refine ⟨_, pss_cons (ps_if (PW.pt (pw_or (pt_not (pt_val (pe_callB call_isi rfl (T.free "isinstance" (by decide +kernel)) (by decide +kernel) (pa_cons (pv 0) (pa_cons (pe_bltn rfl (T.free "str" (by decide +kernel)) (by decide +kernel) (v := .ty "str") rfl) pa_nil)))))
      (pw_or1 (pt_cmpR op_ne (pe_callB call_len_str rfl (T.free "len" (by decide +kernel)) PySem.boot_len (pa_cons (pv 0) pa_nil)) pe_int (nomark _))))) (pss_one ps_never) pss_nil)
    (pss_one (ps_ret (pe_and (pe_cmpR op_in_seq (pe_ix ix_str (pv 0) pe_int (fun _ _ => rfl)) (pe_glob rfl gW (v := .ref aW) rfl) (by rfl))
      (pe_one (pe_cmpR op_in_seq (pe_ix ix_str (pv 0) pe_int (fun _ _ => rfl)) (pe_tup (pa_cons (pe_glob rfl gr (v := .str "r") ⟨_, rfl⟩) (pa_cons (pe_glob rfl gw (v := .str "w") ⟨_, rfl⟩) (pa_cons (pe_glob rfl gc (v := .str "c") ⟨_, rfl⟩) pa_nil)))) (by rfl)))))), ?_⟩
  obtain ⟨c0, e0, x0⟩ := hp.at0
  obtain ⟨c1, e1, x1⟩ := hp.at1
  refine seq_if (b := false) (fun Q q => ?_) (fun z => nomatch z) (fun _ => ?_)
  · refine ⟨_, rfl, _, .ty "str", .type "str", .type "str", true, rfl, .ty _, .base (.str _), kit_ty (by decide +kernel), _, rfl, ?_⟩
    refine ⟨_, rfl, _, rfl, str_len2 hp.len, rfl, _, rfl, ?_⟩
    rw [hp.len]
    exact q
  · refine ⟨_, rfl, _, 0, c0, rfl, rfl, str_len2 hp.len, e0, ?_⟩
    rw [x0]
    refine ⟨aW, _, rfl, .inr (qW _), rfl, by decide +kernel, _, rfl, ?_⟩
    show (if inV (.str p.1) (wordsL.map V.str) = true then _ else _)
    rw [if_pos (inV_words hp.1)]
    refine ⟨_, rfl, _, 1, c1, rfl, rfl, str_len2 hp.len, e1, ?_⟩
    rw [x1]
    refine ⟨(by show 3 ≤ sizeLine; decide), fun t ht => ⟨t, _, rfl, .inr (SqT.of upd_same), rfl, rfl, ?_⟩⟩
    show Q (.bl (inV (.str p.2) [.str "r", .str "w", .str "c"])) _
    rw [inV_marks hp.2]
    exact q _ (Same.new ht)
def spCheckWork : Sp := fun vs H Q _ => ∃ (a : Addr) (ws : List StepT), vs = [.ref a] ∧ H a = some (.lst (stepsV ws)) ∧ WorkOk ws ∧ ∀ H', Same H H' → Q .non H'
theorem WorkFrom.at : ∀ {ws : List StepT} {w : Bool} {i : Nat} {p : StepT}, WorkFrom w ws → ws[i]? = some p → IsStep p ∧ (p.2 = "c" → (w || anyWrong (ws.take i)) = true)
  | [], _, _, _, _, h => by simp at h
  | q :: r, w, 0, p, h, e => by
    obtain rfl : q = p := by simpa using e
    exact ⟨h.1, fun z => by rw [h.2.1 z]; rfl⟩
  | q :: r, w, i + 1, p, h, e => by
    obtain ⟨h1, h2⟩ := WorkFrom.at (i := i) h.2.2 (by simpa using e)
    refine ⟨h1, fun z => ?_⟩
    have z2 := h2 z
    rw [Bool.or_assoc] at z2
    exact z2
theorem ok_check_work (T : PTx w K mg) (D : Def K mg "check_work" s_check_work ["work"]) (DI : Def K mg "is_step" s_is_step ["thing"]) : FnOk P w K mg base CX0 2 D.f D.fd ["work"] spCheckWork := by
  have GI : FnOk P w K mg base CX0 1 DI.f DI.fd ["thing"] spIsStep := ok_is_step T DI
  obtain ⟨tw, gw⟩ := T.wrong
  obtain ⟨tc, gc⟩ := T.carried
  obtain ⟨tm, gm⟩ := T.mostSteps
  have nd := sc_check_work.nd
  refine D.ok sc_check_work (fun vs H Q E h => ?_) (fun cdv A outer s H vs Q E hr h => ?_)
  · obtain ⟨a, ws, rfl, _⟩ := h
    rfl
  obtain ⟨a, ws, rfl, ea, hw, q⟩ := h
  refine ⟨_, pss_cons (ps_if (pt_not (pt_val (pe_callB call_isi rfl (T.free "isinstance" (by decide +kernel)) (by decide +kernel) (pa_cons (pv 0) (pa_cons (pe_bltn rfl (T.free "list" (by decide +kernel)) (by decide +kernel) (v := .ty "list") rfl) pa_nil))))) (pss_one ps_never) pss_nil)
    (pss_cons (ps_set (i := 1) nd rfl (Or.inl rfl) pe_bl)
    (pss_one (ps_for PassesOwn.never rfl (pi_enum rfl (T.free "enumerate" (by decide +kernel)) (pa_cons (pv 0) pa_nil)) (pg_tup (by rfl) (pgs_cons (pg_name (i := 2) nd rfl (Or.inl rfl)) (pgs_cons (pg_name (i := 3) nd rfl (Or.inl rfl)) pgs_nil)))
      (pss_cons (ps_if (PW.pt (pw_or (pt_cmpR op_eq (pv 2) (pe_glob rfl gm (v := .int 12) ⟨_, rfl⟩) (nomark _)) (pw_or1 (pt_not (pt_val (pcall DI GI hr (pa_cons (pv 3) pa_nil))))))) (pss_one ps_never) pss_nil)
      (pss_cons (ps_if (PW.pt (pw_and (pt_cmpR op_eq (pe_ix ix_str (pv 3) pe_int (fun _ _ => rfl)) (pe_glob rfl gc (v := .str "c") ⟨_, rfl⟩) (nomark _)) (pw_and1 (pt_not (pt_val (pv 1)))))) (pss_one ps_never) pss_nil)
      (pss_one (ps_set (i := 1) nd rfl (Or.inl rfl) (pe_or (pv 1) (pe_one (pe_cmpR op_eq (pe_ix ix_str (pv 3) pe_int (fun _ _ => rfl)) (pe_glob rfl gw (v := .str "w") ⟨_, rfl⟩) (nomark _))))))))))), ?_⟩
  refine seq_if (b := false) (fun Q q => ⟨_, rfl, _, .ty "list", .type "list", .type "list", true, rfl, .ty _, .base (.lst ea), kit_ty (by decide +kernel), _, rfl, q⟩) (fun z => nomatch z) (fun _ => ?_)
  have lws : (stepsV ws).length = ws.length := List.length_map _
  refine ⟨_, rfl, a, _, rfl, SqL.of ea, for_it (walk_enum (K := K) (a := a) (xs := stepsV ws)) (fun i σ H' => ∃ v2 v3 : Option V, σ = [some (.ref a), some (.bl (anyWrong (ws.take i))), v2, v3] ∧ Same H H')
    ⟨none, none, rfl, Same.refl _⟩ (fun i σ H' _ ⟨_, _, _, sm⟩ => SqL.of (sm _ _ ea)) ?_ ?_⟩
  · rintro i x σ H1 H2 hi ⟨v2, v3, rfl, sm⟩ ⟨T1, x1, x2, rfl, hT1, rfl, ex1, ex2⟩
    obtain rfl : V.int ((i : Nat) : Int) = x1 := Option.some.inj ex1
    rw [lws] at hi
    have ep : ws[i]? = some (ws[i]'hi) := List.getElem?_eq_getElem hi
    obtain rfl : V.str (stepS (ws[i]'hi)) = x2 := Option.some.inj ((get_map (fun p => V.str (stepS p)) ws hi).symm.trans ex2)
    obtain ⟨hp, hc⟩ := hw.1.at ep
    obtain ⟨c1, e1, y1⟩ := hp.at1
    have sm1 : Same H (upd H1 T1 (.tup [.int ((i : Nat) : Int), .str (stepS (ws[i]'hi))])) := sm.trans (Same.new hT1)
    refine ⟨T1, _, rfl, SqT.of upd_same, rfl, _, _, rfl, _, _, rfl, rfl, ?_⟩
    have hlen := hw.2
    refine ⟨_, rfl, rfl, _, rfl, ?_⟩
    have ne : decide (V.int ((i : Nat) : Int) = V.int 12) = false := decide_eq_false (fun z => by have := V.int.inj z; omega)
    rw [ne]
    refine iteF ⟨_, rfl, _, rfl, hp, fun H3 s3 => ⟨_, rfl, iteF ?_⟩⟩
    dsimp only [tNext]
    refine seq_if (b := (ws[i]'hi).2 == "c" && !anyWrong (ws.take i)) (ev_and (fun Q q => ⟨_, rfl, _, 1, c1, rfl, rfl, str_len2 hp.len, e1, rfl, _, rfl, by rw [y1, dec_str]; exact q⟩) (fun Q q => ⟨_, rfl, _, rfl, q⟩)) (fun z => ?_) (fun _ => ?_)
    · rw [Bool.and_eq_true] at z
      have z1 := hc (eq_of_beq z.1)
      rw [Bool.false_or] at z1
      rw [z1] at z
      exact absurd z.2 (by decide)
    · refine ⟨_, rfl, _, rfl, ?_⟩
      have tk : anyWrong (ws.take (i + 1)) = (anyWrong (ws.take i) || ((ws[i]'hi).2 == "w")) := by
        rw [List.take_succ_eq_append_getElem hi]
        unfold anyWrong
        rw [List.any_append]
        simp
      refine ite2 (fun z => ?_) (fun z => ?_)
      · exact ⟨_, _, by rw [tk, z]; rfl, (sm1.trans s3)⟩
      · refine ⟨_, rfl, _, 1, c1, rfl, rfl, str_len2 hp.len, e1, rfl, ?_⟩
        rw [y1]
        refine ⟨some (.int ((i : Nat) : Int)), some (.str (stepS (ws[i]'hi))), ?_, (sm1.trans s3)⟩
        rw [tk, Bool.eq_false_iff.mpr z, Bool.false_or, dec_str]
        rfl
  · rintro σ H' ⟨v2, v3, rfl, sm⟩
    exact q H' sm
end
end MS
end
section
set_option maxRecDepth 100000
set_option maxHeartbeats 4000000
namespace MS
open PySem L2
/-! ### a written dict: get -/
def tKGet2 (K : PySem.W.Frag) (w : World) (td ty tx : TE) : TE := fun σ H Q => td σ H fun x H1 => ∃ a, x = .ref a ∧ (a == sysModules) = false ∧ (∃ z0 v0, KDct K w a z0 v0) ∧ ty σ H1 fun y H2 => tx σ H2 fun d H3 => ∃ z, y = .str z ∧ ((∃ v, KDct K w a z v ∧ Q v H3) ∨ (KMiss K w a z ∧ Q d H3))
theorem pe_kget2 {X : Cx} {o e f : Expr} {apos cpos : Pos} {td ty tx : TE} (ho : PE X o td) (he : PE X e ty) (hf : PE X f tx) (m : M2 X o "get" apos e f cpos) : PE X (.Call (.Attribute o "get" apos) [e, f] [] cpos) (tKGet2 X.K X.w td ty tx) := by
  refine ⟨fun pins s σ H Q I h => ?_⟩
  refine wpAny_Call_method m.base m.few m.line PySem.F.plainAttrs_dict PySem.F.slot_dict_get PySem.F.type_dict_get (thn (ho.run pins s σ H _ I h) fun u s1 ⟨x, H1, I1, rx, a, ex, low, ⟨z0, v0, es, n, u0, hl, hk, e0, ru⟩, q1⟩ => ?_)
  subst ex
  obtain rfl : u = Value.ref a := rx
  refine ⟨(PySem.W.mapOf_K (prog := X.prog) (w := X.w) I1.kIn hl hk).typeIs, (fun b q => by
    cases q
    exact ⟨_, I1.kIn _ _ hl, rfl⟩), ?_⟩
  rw [m.trees]
  refine Calls.callWith_builtin rfl (Calls.evalArgs_plain (Calls.spliced_cons (thn (he.run pins s1 σ H1 _ I1 q1) fun iv s2 ⟨y, H2, I2, ry, q2⟩ =>
    Calls.spliced_cons (thn (hf.run pins s2 σ H2 _ I2 q2) fun fv s3 ⟨d, H3, I3, rz, z, ey, q3⟩ => Calls.spliced_nil ?_))))
  subst ey
  obtain ⟨t, rfl⟩ := ry
  have hm := PySem.W.mapOf_K (prog := X.prog) (w := X.w) I3.kIn hl hk
  refine call_meetsIn PySem.F.slot_dict_get hm.typeIs PySem.F.entry_dict_get (PySem.F.args_dict_get_3 _ _ _) (meets_dict_get_default (strKind X.prog X.w) a (strKind_is X.prog X.w z t) low fv) ⟨_, hm, ?_⟩
  rcases q3 with ⟨v, ⟨es2, n2, u2, hl2, hk2, e2, ru2⟩, q3⟩ | ⟨⟨es2, n2, hl2, hk2, low2, e2⟩, q3⟩
  · rw [hl] at hl2
    cases hl2
    rw [PySem.W.find_K hl e2]
    exact ⟨v, H3, I3.tok _, ru2, q3⟩
  · rw [hl] at hl2
    cases hl2
    rw [PySem.W.find_K hl e2]
    exact ⟨d, H3, I3.tok _, rz, q3⟩
end MS
end
section
set_option maxRecDepth 100000
set_option maxHeartbeats 4000000
namespace MS
open PySem L2
def FitsR (H : Hp) (i M : Nat) (part : V) (kind : Str) : Prop :=
  (kind = "word" ∧ ∃ x, part = .str x ∧ IsW x) ∨ (kind = "points" ∧ ∃ p : Int, part = .int p ∧ 1 ≤ p ∧ p ≤ 9) ∨ (kind = "limit" ∧ ∃ p : Int, part = .int p ∧ 0 ≤ p ∧ p ≤ 30) ∨
  (kind = "schemes" ∧ ∃ b vs, part = .ref b ∧ H b = some (.tup vs) ∧ 0 < vs.length ∧ vs.length ≤ 4) ∨ kind = "scheme" ∨ (kind = "later" ∧ ∃ j : Nat, part = .int (j : Int) ∧ i < j ∧ j < M)
def spIsNumber : Sp := fun vs H Q _ => ∃ i : Int, vs = [.int i] ∧ Q (.bl true) H
def spFits (i M : Nat) : Sp := fun vs H Q _ => ∃ (part : V) (kind : Str), vs = [part, .str kind, .int (i : Int), .int (M : Int)] ∧ FitsR H i M part kind ∧ Q (.bl true) H
section
variable {P : Program} {w : World} {K : PySem.W.Frag} {mg : Str → Option Value} {base : Heap}
theorem ok_is_number (T : PTx w K mg) (D : Def K mg "is_number" s_is_number ["thing"]) : FnOk P w K mg base CX0 1 D.f D.fd ["thing"] spIsNumber := by
  refine D.ok sc_is_number (fun vs H Q E h => ?_) (fun cdv A outer s H vs Q E hr h => ?_)
  · obtain ⟨i, rfl, _⟩ := h
    rfl
  obtain ⟨i, rfl, q⟩ := h
  refine ⟨_, pss_one (ps_ret (pe_and (pe_callB call_isi rfl (T.free "isinstance" (by decide +kernel)) (by decide +kernel) (pa_cons (pv 0) (pa_cons (pe_bltn rfl (T.free "int" (by decide +kernel)) (by decide +kernel) (v := .ty "int") rfl) pa_nil)))
    (pe_one (pe_not (pe_callB call_isi rfl (T.free "isinstance" (by decide +kernel)) (by decide +kernel) (pa_cons (pv 0) (pa_cons (pe_bltn rfl (T.free "bool" (by decide +kernel)) (by decide +kernel) (v := .ty "bool") rfl) pa_nil))))))), ?_⟩
  exact ⟨_, rfl, _, .ty "int", .type "int", .type "int", true, rfl, .ty _, .base (.int _), kit_ty (by decide +kernel), _, rfl, _, rfl, _, .ty "bool", .type "int", .type "bool", false, rfl, .ty _, .base (.int _), kit_ty (by decide +kernel), _, rfl, q⟩
theorem ok_fits {i M : Nat} (T : PTx w K mg) (D : Def K mg "fits" s_fits ["part", "kind", "number", "many"]) (DN : Def K mg "is_number" s_is_number ["thing"]) : FnOk P w K mg base CX0 2 D.f D.fd ["part", "kind", "number", "many"] (spFits i M) := by
  have GN : FnOk P w K mg base CX0 1 DN.f DN.fd ["thing"] spIsNumber := ok_is_number T DN
  obtain ⟨aW, gW, qW⟩ := T.words
  obtain ⟨tm, gm⟩ := T.mostWithin
  obtain ⟨aB, gB, t1, t2, kb1, qb1, kb2, qb2⟩ := T.bounds
  have nd := sc_fits.nd
  refine D.ok sc_fits (fun vs H Q E h => ?_) (fun cdv A outer s H vs Q E hr h => ?_)
  · obtain ⟨part, kind, rfl, _⟩ := h
    rfl
  obtain ⟨part, kind, rfl, hf, q⟩ := h
  refine ⟨_, pss_cons (ps_if (pt_cmpR op_eq (pv 1) pe_str (nomark _)) (pss_one (ps_ret (pe_cmpR op_in_seq (pv 0) (pe_glob rfl gW (v := .ref aW) rfl) (by rfl)))) pss_nil)
    (pss_cons (ps_if (pt_cmpR op_eq (pv 1) pe_str (nomark _)) (pss_one (ps_ret (pe_and (pe_callB call_isi rfl (T.free "isinstance" (by decide +kernel)) (by decide +kernel) (pa_cons (pv 0) (pa_cons (pe_bltn rfl (T.free "tuple" (by decide +kernel)) (by decide +kernel) (v := .ty "tuple") rfl) pa_nil)))
        (pe_one (pe_chain op_le op_le pe_int (pe_callB call_len_seq rfl (T.free "len" (by decide +kernel)) PySem.boot_len (pa_cons (pv 0) pa_nil)) (pe_glob rfl gm (v := .int 4) ⟨_, rfl⟩)))))) pss_nil)
    (pss_cons (ps_if (pt_cmpR op_eq (pv 1) pe_str (nomark _)) (pss_one (ps_ret pe_bl)) pss_nil)
    (pss_cons (ps_if (pt_cmpR op_eq (pv 1) pe_str (nomark _)) (pss_one (ps_ret (pe_and (pcall DN GN hr (pa_cons (pv 0) pa_nil)) (pe_one (pe_chain op_lt op_lt (pv 2) (pv 0) (pv 3)))))) pss_nil)
    (pss_cons (ps_asg (pe_ix ix_kdict (pe_glob rfl gB (v := .ref aB) rfl) (pv 1) (fun _ _ => rfl)) (pg_tup (by rfl) (pgs_cons (pg_name (i := 4) nd rfl (Or.inl rfl)) (pgs_cons (pg_name (i := 5) nd rfl (Or.inl rfl)) pgs_nil))))
    (pss_one (ps_ret (pe_and (pcall DN GN hr (pa_cons (pv 0) pa_nil)) (pe_one (pe_chain op_le op_le (pv 4) (pv 0) (pv 5)))))))))), ?_⟩
  have tst : ∀ {c : Str} {σ : St} {b : Bool}, σ[1]? = some (some (.str kind)) → (kind == c) = b → ∀ Q : Bool → Hp → Prop, Q b H → tTest (tOp rEq (tVar 1) (tC (.str c))) σ H Q := fun s1 e Q q => ⟨_, s1, rfl, _, rfl, by rw [dec_str, e]; exact q⟩
  rcases hf with ⟨rfl, x, rfl, hx⟩ | ⟨rfl, p, rfl, p1, p2⟩ | ⟨rfl, p, rfl, p1, p2⟩ | ⟨rfl, b, vs, rfl, eb, v1, v2⟩ | rfl | ⟨rfl, j, rfl, j1, j2⟩
  · refine seq_if (b := true) (tst rfl (by decide +kernel)) (fun _ => ?_) (fun z => nomatch z)
    refine ⟨_, rfl, aW, _, rfl, .inr (qW _), rfl, by decide +kernel, ?_⟩
    show Q (.bl (inV (.str x) (wordsL.map V.str))) _
    rw [inV_words hx]
    exact q
  · refine seq_if (b := false) (tst rfl (by decide +kernel)) (fun z => nomatch z) (fun _ => seq_if (b := false) (tst rfl (by decide +kernel)) (fun z => nomatch z) (fun _ => seq_if (b := false) (tst rfl (by decide +kernel)) (fun z => nomatch z) (fun _ => seq_if (b := false) (tst rfl (by decide +kernel)) (fun z => nomatch z) (fun _ => ?_))))
    refine ⟨_, rfl, aB, "points", .ref t1, rfl, rfl, kb1, t1, _, rfl, qb1 _, rfl, _, _, rfl, _, _, rfl, rfl, ?_⟩
    refine ⟨_, rfl, p, rfl, _, rfl, ?_⟩
    refine ⟨_, rfl, _, rfl, _, _, rfl, rfl, _, rfl, ?_⟩
    rw [decide_eq_true p1]
    refine iteT ⟨_, rfl, _, _, rfl, rfl, ?_⟩
    show Q (V.bl (decide _)) H
    rw [decide_eq_true p2]
    exact q
  · refine seq_if (b := false) (tst rfl (by decide +kernel)) (fun z => nomatch z) (fun _ => seq_if (b := false) (tst rfl (by decide +kernel)) (fun z => nomatch z) (fun _ => seq_if (b := false) (tst rfl (by decide +kernel)) (fun z => nomatch z) (fun _ => seq_if (b := false) (tst rfl (by decide +kernel)) (fun z => nomatch z) (fun _ => ?_))))
    refine ⟨_, rfl, aB, "limit", .ref t2, rfl, rfl, kb2, t2, _, rfl, qb2 _, rfl, _, _, rfl, _, _, rfl, rfl, ?_⟩
    refine ⟨_, rfl, p, rfl, _, rfl, ?_⟩
    refine ⟨_, rfl, _, rfl, _, _, rfl, rfl, _, rfl, ?_⟩
    rw [decide_eq_true p1]
    refine iteT ⟨_, rfl, _, _, rfl, rfl, ?_⟩
    show Q (V.bl (decide _)) H
    rw [decide_eq_true p2]
    exact q
  · refine seq_if (b := false) (tst rfl (by decide +kernel)) (fun z => nomatch z) (fun _ => seq_if (b := true) (tst rfl (by decide +kernel)) (fun _ => ?_) (fun z => nomatch z))
    refine ⟨_, rfl, _, .ty "tuple", .type "tuple", .type "tuple", true, rfl, .ty _, .base (.tup eb), kit_ty (by decide +kernel), _, rfl, ?_⟩
    refine iteT ⟨_, rfl, b, vs, rfl, .inr (SqT.of eb), _, _, rfl, rfl, _, rfl, ?_⟩
    rw [decide_eq_true (show (1 : Int) ≤ (vs.length : Int) by omega)]
    refine iteT ⟨_, _, rfl, rfl, ?_⟩
    show Q (V.bl (decide _)) H
    rw [decide_eq_true (show (vs.length : Int) ≤ 4 by omega)]
    exact q
  · refine seq_if (b := false) (tst rfl (by decide +kernel)) (fun z => nomatch z) (fun _ => seq_if (b := false) (tst rfl (by decide +kernel)) (fun z => nomatch z) (fun _ => seq_if (b := true) (tst rfl (by decide +kernel)) (fun _ => q) (fun z => nomatch z)))
  · refine seq_if (b := false) (tst rfl (by decide +kernel)) (fun z => nomatch z) (fun _ => seq_if (b := false) (tst rfl (by decide +kernel)) (fun z => nomatch z) (fun _ => seq_if (b := false) (tst rfl (by decide +kernel)) (fun z => nomatch z) (fun _ => seq_if (b := true) (tst rfl (by decide +kernel)) (fun _ => ?_) (fun z => nomatch z))))
    refine ⟨_, rfl, _, rfl, _, rfl, ?_⟩
    refine iteT ⟨_, rfl, _, rfl, _, _, rfl, rfl, _, rfl, ?_⟩
    rw [decide_eq_true (show ((i : Nat) : Int) < ((j : Nat) : Int) by omega)]
    refine iteT ⟨_, rfl, _, _, rfl, rfl, ?_⟩
    show Q (V.bl (decide _)) H
    rw [decide_eq_true (show ((j : Nat) : Int) < ((M : Nat) : Int) by omega)]
    exact q
end
end MS
end
section
set_option maxRecDepth 100000
set_option maxHeartbeats 4000000
namespace MS
open PySem L2
/-! ### what the law earns, point by point -/
/-- a point: the place of the step, the place in the paper -/
abbrev Un := Nat × List Nat
def okAt (c : Bool) (x : Str) (p : StepT) : Bool := (p.1 == x) && (p.2 == "r" || (c && p.2 == "c"))
/-- the places from st on where a step of a word counts -/
def hits (ws : List StepT) (c : Bool) (x : Str) (st : Nat) : List Nat := (List.range' st (ws.length - st)).filter fun i => match ws[i]? with
  | some p => okAt c x p
  | none => false
def lastOk (ws : List StepT) (c : Bool) (x : Str) (st : Nat) : Bool := decide (st < ws.length) && match ws.getLast? with
  | some p => okAt c x p
  | none => false
def allU {α : Type} (f : Sch → Nat → List α) : List Sch → Nat → List α
  | [], _ => []
  | s :: r, j => f s j ++ allU f r (j + 1)
def bestU {α : Type} (f : Sch → Nat → List α) : List Sch → Nat → List α → List α
  | [], _, acc => acc
  | s :: r, j, acc => bestU f r (j + 1) (if acc.length < (f s j).length then f s j else acc)
def uP (ps : List Sch) (ws : List StepT) : Nat → Sch → Nat → Bool → List Nat → List Un
  | 0, _, _, _, _ => []
  | k + 1, .step x p, st, c, wh => match hits ws c x st with
    | [] => []
    | i :: _ => List.replicate p.toNat (i, wh)
  | k + 1, .behind x s, st, c, wh => match hits ws c x st with
    | [] => []
    | i :: _ => uP ps ws k s (i + 1) c (wh ++ [0])
  | k + 1, .use n, st, c, wh => match ps[n]? with
    | none => []
    | some s => uP ps ws k s st c (wh ++ [0])
  | k + 1, .all ks, st, c, wh => allU (fun s j => uP ps ws k s st c (wh ++ [j])) ks 0
  | k + 1, .best ks, st, c, wh => bestU (fun s j => uP ps ws k s st c (wh ++ [j])) ks 0 []
  | k + 1, .fin x p s, st, c, wh => if lastOk ws c x st = true then List.replicate p.toNat (ws.length - 1, wh) else uP ps ws k s st c (wh ++ [0])
  | k + 1, .seen x s, st, c, wh => if (ws.any fun p => p.1 == x) = true then uP ps ws k s st c (wh ++ [0]) else []
  | k + 1, .most n s, st, c, wh => (uP ps ws k s st c (wh ++ [0])).take n.toNat
  | k + 1, .half s, st, c, wh => (uP ps ws k s st c (wh ++ [0])).take ((uP ps ws k s st c (wh ++ [0])).length / 2)
  | k + 1, .carry s, st, c, wh => uP ps ws k s st true (wh ++ [0])
def natV (l : List Nat) : List V := l.map fun j : Nat => V.int ((j : Nat) : Int)
def UnR (H : Hp) (u : Un) (v : V) : Prop := ∃ a b, v = V.ref a ∧ H a = some (.tup [.int ((u.1 : Nat) : Int), .ref b]) ∧ H b = some (.tup (natV u.2))
theorem UnR.keep {H H' : Hp} {u : Un} {v : V} (h : UnR H u v) (k : TupK H H') : UnR H' u v := by
  obtain ⟨a, b, e, h1, h2⟩ := h
  exact ⟨a, b, e, k _ _ h1, k _ _ h2⟩
/-- how many points at most -/
theorem take_le {α : Type} (l : List α) (n : Nat) : (l.take n).length ≤ l.length := by
  rw [List.length_take]
  exact Nat.min_le_right _ _
theorem er_nonneg {i M : Nat} {c : Nat → Int} (h : ∀ j, i < j → j < M → 0 ≤ c j) : ∀ (d : Nat) (s : Sch), OkS i M d s → 0 ≤ er c d s
  | 0, _, o => by cases o
  | _ + 1, .step _ _, _ => by show (0 : Int) ≤ 1; decide
  | d + 1, .all k, o => by
    show 0 ≤ (k.map (er c d)).sum
    have : ∀ s ∈ k, 0 ≤ er c d s := fun s hs => er_nonneg h d s (o.2.2 s hs)
    clear o
    induction k with
    | nil => exact Int.le_refl _
    | cons a r ih =>
      rw [List.map_cons, List.sum_cons]
      have := ih fun s hs => this s (List.mem_cons_of_mem _ hs)
      have := ‹∀ s ∈ a :: r, 0 ≤ er c d s› a List.mem_cons_self
      omega
  | d + 1, .best k, o => by
    show 0 ≤ (k.map (er c d)).sum
    have : ∀ s ∈ k, 0 ≤ er c d s := fun s hs => er_nonneg h d s (o.2.2 s hs)
    clear o
    induction k with
    | nil => exact Int.le_refl _
    | cons a r ih =>
      rw [List.map_cons, List.sum_cons]
      have := ih fun s hs => this s (List.mem_cons_of_mem _ hs)
      have := ‹∀ s ∈ a :: r, 0 ≤ er c d s› a List.mem_cons_self
      omega
  | d + 1, .most _ s, o => er_nonneg h d s o.2
  | d + 1, .half s, o => er_nonneg h d s o
  | d + 1, .seen _ s, o => er_nonneg h d s o.2
  | d + 1, .behind _ s, o => er_nonneg h d s o.2
  | d + 1, .carry s, o => er_nonneg h d s o
  | d + 1, .fin _ _ s, o => by
    have := er_nonneg h d s o.2
    show 0 ≤ 1 + er c d s
    omega
  | _ + 1, .use n, o => h n o.1 o.2
theorem allU_len {α : Type} {f : Sch → Nat → List α} {g : Sch → Int} : ∀ (ks : List Sch) (j : Nat), (∀ s ∈ ks, ∀ j, ((f s j).length : Int) ≤ 9 * g s) → ((allU f ks j).length : Int) ≤ 9 * (ks.map g).sum
  | [], _, _ => by show (0 : Int) ≤ 9 * 0; decide
  | s :: r, j, h => by
    show (((f s j) ++ allU f r (j + 1)).length : Int) ≤ _
    rw [List.map_cons, List.sum_cons, List.length_append]
    have := h s List.mem_cons_self j
    have := allU_len r (j + 1) fun s hs => h s (List.mem_cons_of_mem _ hs)
    omega
theorem bestU_len {α : Type} {f : Sch → Nat → List α} {g : Sch → Int} : ∀ (ks : List Sch) (j : Nat) (acc : List α), (∀ s ∈ ks, ∀ j, ((f s j).length : Int) ≤ 9 * g s) → (∀ s ∈ ks, 0 ≤ g s) → ∀ B : Int, ((acc.length : Int) ≤ 9 * B) → 0 ≤ B → ((bestU f ks j acc).length : Int) ≤ 9 * (B + (ks.map g).sum)
  | [], _, acc, _, _, B, h, hB => by
    show (acc.length : Int) ≤ 9 * (B + 0)
    omega
  | s :: r, j, acc, h, h0, B, hb, hB => by
    show ((bestU f r (j + 1) (if acc.length < (f s j).length then f s j else acc)).length : Int) ≤ _
    rw [List.map_cons, List.sum_cons]
    have a1 := h s List.mem_cons_self j
    have a0 := h0 s List.mem_cons_self
    have := bestU_len r (j + 1) (if acc.length < (f s j).length then f s j else acc) (fun s hs => h s (List.mem_cons_of_mem _ hs)) (fun s hs => h0 s (List.mem_cons_of_mem _ hs)) (B + g s) (by
      split
      · omega
      · omega) (by omega)
    omega
theorem uP_len {ps : List Sch} {ws : List StepT} {ce : Nat → Int} {M : Nat} (hp : ∀ (j : Nat) (s : Sch), ps[j]? = some s → OkS j M 5 s ∧ ce j = er ce 5 s) (h0 : ∀ j, j < M → 0 ≤ ce j) :
    ∀ (k : Nat) (i d : Nat) (s : Sch) (st : Nat) (c : Bool) (wh : List Nat), OkS i M d s → ((uP ps ws k s st c wh).length : Int) ≤ 9 * er ce d s
  | 0, i, d, s, st, c, wh, o => by
    have := er_nonneg (c := ce) (fun j _ hj => h0 j hj) d s o
    show (0 : Int) ≤ _
    omega
  | k + 1, i, 0, s, st, c, wh, o => by cases o
  | k + 1, i, d + 1, .step x p, st, c, wh, o => by
    show ((match hits ws c x st with
      | [] => []
      | i :: _ => List.replicate p.toNat (i, wh)).length : Int) ≤ 9 * 1
    have := o.2.2
    split
    · simp
    · rw [List.length_replicate]
      omega
  | k + 1, i, d + 1, .behind x s, st, c, wh, o => by
    show ((match hits ws c x st with
      | [] => []
      | i :: _ => uP ps ws k s (i + 1) c (wh ++ [0])).length : Int) ≤ 9 * er ce d s
    have := er_nonneg (c := ce) (fun j _ hj => h0 j hj) d s o.2
    split
    · show (0 : Int) ≤ _
      omega
    · exact uP_len hp h0 k i d s _ c _ o.2
  | k + 1, i, d + 1, .use n, st, c, wh, o => by
    show ((match ps[n]? with
      | none => []
      | some s => uP ps ws k s st c (wh ++ [0])).length : Int) ≤ 9 * ce n
    have := h0 n o.2
    split
    · show (0 : Int) ≤ _
      omega
    · rename_i s e
      obtain ⟨o', e'⟩ := hp n s e
      rw [e']
      exact uP_len hp h0 k n 5 s st c _ o'
  | k + 1, i, d + 1, .all ks, st, c, wh, o => allU_len ks 0 fun s hs j => uP_len hp h0 k i d s st c _ (o.2.2 s hs)
  | k + 1, i, d + 1, .best ks, st, c, wh, o => by
    have := bestU_len (f := fun s j => uP ps ws k s st c (wh ++ [j])) (g := er ce d) ks 0 [] (fun s hs j => uP_len hp h0 k i d s st c _ (o.2.2 s hs)) (fun s hs => er_nonneg (c := ce) (fun j _ hj => h0 j hj) d s (o.2.2 s hs)) 0 (by simp) (Int.le_refl _)
    rw [Int.zero_add] at this
    exact this
  | k + 1, i, d + 1, .fin x p s, st, c, wh, o => by
    show ((if lastOk ws c x st = true then List.replicate p.toNat (ws.length - 1, wh) else uP ps ws k s st c (wh ++ [0])).length : Int) ≤ 9 * (1 + er ce d s)
    have := er_nonneg (c := ce) (fun j _ hj => h0 j hj) d s o.2
    have := o.1.2.2
    have := uP_len (ws := ws) hp h0 k i d s st c (wh ++ [0]) o.2
    split
    · rw [List.length_replicate]
      omega
    · omega
  | k + 1, i, d + 1, .seen x s, st, c, wh, o => by
    show ((if (ws.any fun p => p.1 == x) = true then uP ps ws k s st c (wh ++ [0]) else []).length : Int) ≤ 9 * er ce d s
    have := er_nonneg (c := ce) (fun j _ hj => h0 j hj) d s o.2
    split
    · exact uP_len hp h0 k i d s st c _ o.2
    · show (0 : Int) ≤ _
      omega
  | k + 1, i, d + 1, .most n s, st, c, wh, o => by
    have := uP_len (ws := ws) hp h0 k i d s st c (wh ++ [0]) o.2
    have := take_le (uP ps ws k s st c (wh ++ [0])) n.toNat
    show (((uP ps ws k s st c (wh ++ [0])).take n.toNat).length : Int) ≤ 9 * er ce d s
    omega
  | k + 1, i, d + 1, .half s, st, c, wh, o => by
    have := uP_len (ws := ws) hp h0 k i d s st c (wh ++ [0]) o
    have := take_le (uP ps ws k s st c (wh ++ [0])) ((uP ps ws k s st c (wh ++ [0])).length / 2)
    show (((uP ps ws k s st c (wh ++ [0])).take _).length : Int) ≤ 9 * er ce d s
    omega
  | k + 1, i, d + 1, .carry s, st, c, wh, o => uP_len hp h0 k i d s st true (wh ++ [0]) o
end MS
end
section
set_option maxRecDepth 100000
set_option maxHeartbeats 4000000
namespace MS
open PySem L2
abbrev nmUnits : List Str := ["_law_paper_here", "_law_scheme_here", "_law_work_here", "_law_look", "_law_is_carried", "_law_where", "_law_word", "_law_signs", "_law_some", "_law_later", "_law_found", "_law_k", "_law_place", "_law_step_here"]
abbrev psUnits : List Str := ["_law_paper_here", "_law_scheme_here", "_law_work_here", "_law_look", "_law_is_carried", "_law_where"]
/-- the paper, the work, the places looked at -/
structure UCtx (H : Hp) (ps : List Sch) (ws : List StepT) (pa wa la : Addr) (st : Nat) : Prop where
  paper : ∃ pv, H pa = some (.tup pv) ∧ Paired (SAt H 5) ps pv
  work : H wa = some (.lst (stepsV ws))
  look : H la = some (.lst (natV (List.range' st (ws.length - st))))
theorem UCtx.keep {H H' : Hp} {ps : List Sch} {ws : List StepT} {pa wa la : Addr} {st : Nat} (h : UCtx H ps ws pa wa la st) (k : Same H H') : UCtx H' ps ws pa wa la st := by
  obtain ⟨⟨pv, e, p⟩, h2, h3⟩ := h
  exact ⟨⟨pv, k _ _ e, paired_imp p fun s v => SAt.keep (Same.tupK k) _ _ _⟩, k _ _ h2, k _ _ h3⟩
def spUnits (ps : List Sch) (ws : List StepT) (ce : Nat → Int) (M k : Nat) : Sp := fun vs H Q _ => ∃ (pa wa la wr : Addr) (v : V) (c : Bool) (s : Sch) (i d st : Nat) (wh : List Nat), vs = [.ref pa, v, .ref wa, .ref la, .bl c, .ref wr] ∧
  UCtx H ps ws pa wa la st ∧ st ≤ ws.length ∧ SAt H d s v ∧ OkS i M d s ∧ er ce d s ≤ 7 ∧ (M - i) * 5 + d ≤ k ∧ wh.length + k ≤ 100 ∧ H wr = some (.tup (natV wh)) ∧
  ∀ (r : Addr) (uv : List V) (H' : Hp), Same H H' → H r = none → H' r = some (.lst uv) → Paired (UnR H') (uP ps ws k s st c wh) uv → Q (.ref r) H'
theorem strl2 {z : Str} (h : z.length = 2) : z.length ≤ sizeLine := by rw [h]; decide
/-- a test that may make new things -/
theorem seq_new {tc : TT} {t r : TS} {D : Ends} {σ : St} {H : Hp} {b : Bool} (h : ∀ Q : Bool → Hp → Prop, (∀ H', Same H H' → Q b H') → tc σ H Q) (k1 : b = true → ∀ H', Same H H' → t { D with nx := r D } σ H') (k2 : b = false → ∀ H', Same H H' → r D σ H') : tSeq (tIfS tc t tNext) r D σ H := h _ fun H' s => by
  cases b with
  | true => exact iteT (k1 rfl H' s)
  | false => exact iteF (k2 rfl H' s)
theorem in_two {K : PySem.W.Frag} {σ : St} {H : Hp} {i : Nat} {nm x y : Str} {b : Bool} (s : σ[i]? = some (some (.str nm))) (e : inV (.str nm) [.str x, .str y] = b) : ∀ Q : Bool → Hp → Prop, (∀ H', Same H H' → Q b H') → tTest (tOp (rIn K false) (tVar i) (tTup (tCons (tC (.str x)) (tCons (tC (.str y)) tNil)))) σ H Q := fun Q q =>
  ⟨_, s, sz2, fun t ht => ⟨t, _, rfl, .inr (SqT.of upd_same), rfl, rfl, _, rfl, by
    show Q (inV (.str nm) [.str x, .str y]) _
    rw [e]
    exact q _ (Same.new ht)⟩⟩
theorem is_word {σ : St} {H : Hp} {i : Nat} {nm x : Str} {b : Bool} (s : σ[i]? = some (some (.str nm))) (e : (nm == x) = b) : ∀ Q : Bool → Hp → Prop, Q b H → tTest (tOp rEq (tVar i) (tC (.str x))) σ H Q := fun Q q =>
  ⟨_, s, rfl, _, rfl, by rw [dec_str, e]; exact q⟩
def sgL (c : Bool) : List V := cutV [.str "r", .str "c"] none (some (1 + if c then 1 else 0))
theorem sg_in {c : Bool} {m : Str} (h : IsM m) : inV (.str m) (sgL c) = (m == "r" || (c && m == "c")) := by
  have h' : m ∈ marksL := h
  have q : ∀ c : Bool, ∀ y ∈ marksL, inV (.str y) (sgL c) = (y == "r" || (c && y == "c")) := by decide +kernel
  exact q c m h'
theorem sg_flat (c : Bool) : (sgL c).all flatV = true := by cases c <;> rfl
theorem SAt.tag {H : Hp} {d : Nat} {s : Sch} {v : V} (h : SAt H d s v) : ∃ a nm rest, v = V.ref a ∧ H a = some (.tup (.str nm :: rest)) := by
  cases d with
  | zero => cases h
  | succ d =>
    cases s with
    | step x p => obtain ⟨a, e, h⟩ := h; exact ⟨a, _, _, e, h⟩
    | all k => obtain ⟨a, b, vs, e, h, _⟩ := h; exact ⟨a, _, _, e, h⟩
    | best k => obtain ⟨a, b, vs, e, h, _⟩ := h; exact ⟨a, _, _, e, h⟩
    | most n s => obtain ⟨a, u, e, h, _⟩ := h; exact ⟨a, _, _, e, h⟩
    | half s => obtain ⟨a, u, e, h, _⟩ := h; exact ⟨a, _, _, e, h⟩
    | seen x s => obtain ⟨a, u, e, h, _⟩ := h; exact ⟨a, _, _, e, h⟩
    | behind x s => obtain ⟨a, u, e, h, _⟩ := h; exact ⟨a, _, _, e, h⟩
    | carry s => obtain ⟨a, u, e, h, _⟩ := h; exact ⟨a, _, _, e, h⟩
    | fin x p s => obtain ⟨a, u, e, h, _⟩ := h; exact ⟨a, _, _, e, h⟩
    | use n => obtain ⟨a, e, h⟩ := h; exact ⟨a, _, _, e, h⟩
/-- what has one scheme within, but no `behind` -/
structure OneR (H : Hp) (i M d : Nat) (sc : Sch) (nm : Str) (rest : List V) : Prop where
  nb : inV (.str nm) [.str "step", .str "behind"] = false
  nu : (nm == "use") = false
  na : inV (.str nm) [.str "all", .str "best"] = false
  nm5 : nm = "most" ∨ nm = "half" ∨ nm = "seen" ∨ nm = "carry" ∨ nm = "end"
  kid : ∃ u s', atI (.str nm :: rest) (-1) = some u ∧ SAt H d s' u ∧ OkS i M d s' ∧ (nm = "end" → ∃ x p, sc = .fin x p s' ∧ rest = [.str x, .int p, u] ∧ IsW x ∧ 1 ≤ p ∧ p ≤ 9) ∧ (nm = "seen" → ∃ x, sc = .seen x s' ∧ rest = [.str x, u] ∧ IsW x) ∧
    (nm = "most" → ∃ n, sc = .most n s' ∧ rest = [.int n, u] ∧ 0 ≤ n) ∧ (nm = "half" → sc = .half s' ∧ rest = [u]) ∧ (nm = "carry" → sc = .carry s' ∧ rest = [u]) ∧ ∃ x1, atI (.str nm :: rest) 1 = some x1
inductive SKind (H : Hp) (i M d : Nat) : Sch → Str → List V → Prop
  | step {x : Str} {p : Int} (hx : IsW x) (h1 : 1 ≤ p) (h2 : p ≤ 9) : SKind H i M d (.step x p) "step" [.str x, .int p]
  | behind {x : Str} {s : Sch} {u : V} (hx : IsW x) (hs : SAt H d s u) (ho : OkS i M d s) : SKind H i M d (.behind x s) "behind" [.str x, u]
  | use {n : Nat} (h1 : i < n) (h2 : n < M) : SKind H i M d (.use n) "use" [.int ((n : Nat) : Int)]
  | all {ks : List Sch} {b : Addr} {vs : List V} (eb : H b = some (.tup vs)) (hk : Paired (SAt H d) ks vs) (ho : ∀ s ∈ ks, OkS i M d s) (hl : ks.length ≤ 4) : SKind H i M d (.all ks) "all" [.ref b]
  | best {ks : List Sch} {b : Addr} {vs : List V} (eb : H b = some (.tup vs)) (hk : Paired (SAt H d) ks vs) (ho : ∀ s ∈ ks, OkS i M d s) (hl : ks.length ≤ 4) : SKind H i M d (.best ks) "best" [.ref b]
  | one {sc : Sch} {nm : Str} {rest : List V} (h : OneR H i M d sc nm rest) : SKind H i M d sc nm rest
theorem SAt.kind {H : Hp} {i M d : Nat} {sc : Sch} {a : Addr} {nm : Str} {rest : List V} (h : SAt H (d + 1) sc (.ref a)) (o : OkS i M (d + 1) sc) (ea : H a = some (.tup (.str nm :: rest))) : SKind H i M d sc nm rest := by
  have inj : ∀ {a' : Addr} {nm' : Str} {rest' : List V}, (V.ref a = V.ref a') → H a' = some (.tup (.str nm' :: rest')) → nm' = nm ∧ rest' = rest := fun e h => by
    cases e
    rw [ea] at h
    cases h
    exact ⟨rfl, rfl⟩
  cases sc with
  | step x p =>
    obtain ⟨a', e, h⟩ := h
    obtain ⟨rfl, rfl⟩ := inj e h
    exact .step o.1 o.2.1 o.2.2
  | all k =>
    obtain ⟨a', b, vs, e, h, eb, hk⟩ := h
    obtain ⟨rfl, rfl⟩ := inj e h
    exact .all eb hk o.2.2 o.2.1
  | best k =>
    obtain ⟨a', b, vs, e, h, eb, hk⟩ := h
    obtain ⟨rfl, rfl⟩ := inj e h
    exact .best eb hk o.2.2 o.2.1
  | most n s =>
    obtain ⟨a', u, e, h, hs⟩ := h
    obtain ⟨rfl, rfl⟩ := inj e h
    exact .one ⟨by decide +kernel, by decide +kernel, by decide +kernel, .inl rfl, u, s, rfl, hs, o.2, (fun z => absurd z (by decide +kernel)), (fun z => absurd z (by decide +kernel)), fun _ => ⟨n, rfl, rfl, o.1.1⟩, (fun z => absurd z (by decide +kernel)), (fun z => absurd z (by decide +kernel)), _, at1⟩
  | half s =>
    obtain ⟨a', u, e, h, hs⟩ := h
    obtain ⟨rfl, rfl⟩ := inj e h
    exact .one ⟨by decide +kernel, by decide +kernel, by decide +kernel, .inr (.inl rfl), u, s, rfl, hs, o, (fun z => absurd z (by decide +kernel)), (fun z => absurd z (by decide +kernel)), (fun z => absurd z (by decide +kernel)), fun _ => ⟨rfl, rfl⟩, (fun z => absurd z (by decide +kernel)), _, at1⟩
  | seen x s =>
    obtain ⟨a', u, e, h, hs⟩ := h
    obtain ⟨rfl, rfl⟩ := inj e h
    exact .one ⟨by decide +kernel, by decide +kernel, by decide +kernel, .inr (.inr (.inl rfl)), u, s, rfl, hs, o.2, (fun z => absurd z (by decide +kernel)), (fun _ => ⟨x, rfl, rfl, o.1⟩), (fun z => absurd z (by decide +kernel)), (fun z => absurd z (by decide +kernel)), (fun z => absurd z (by decide +kernel)), _, at1⟩
  | behind x s =>
    obtain ⟨a', u, e, h, hs⟩ := h
    obtain ⟨rfl, rfl⟩ := inj e h
    exact .behind o.1 hs o.2
  | carry s =>
    obtain ⟨a', u, e, h, hs⟩ := h
    obtain ⟨rfl, rfl⟩ := inj e h
    exact .one ⟨by decide +kernel, by decide +kernel, by decide +kernel, .inr (.inr (.inr (.inl rfl))), u, s, rfl, hs, o, (fun z => absurd z (by decide +kernel)), (fun z => absurd z (by decide +kernel)), (fun z => absurd z (by decide +kernel)), (fun z => absurd z (by decide +kernel)), fun _ => ⟨rfl, rfl⟩, _, at1⟩
  | fin x p s =>
    obtain ⟨a', u, e, h, hs⟩ := h
    obtain ⟨rfl, rfl⟩ := inj e h
    exact .one ⟨by decide +kernel, by decide +kernel, by decide +kernel, .inr (.inr (.inr (.inr rfl))), u, s, rfl, hs, o.2, (fun _ => ⟨x, p, rfl, rfl, o.1.1, o.1.2.1, o.1.2.2⟩), (fun z => absurd z (by decide +kernel)), (fun z => absurd z (by decide +kernel)), (fun z => absurd z (by decide +kernel)), (fun z => absurd z (by decide +kernel)), _, at1⟩
  | use n =>
    obtain ⟨a', e, h⟩ := h
    obtain ⟨rfl, rfl⟩ := inj e h
    exact .use o.1 o.2
theorem natV_len (l : List Nat) : (natV l).length = l.length := List.length_map _
theorem natV_snoc (l : List Nat) (j : Nat) : natV l ++ [V.int ((j : Nat) : Int)] = natV (l ++ [j]) := by
  unfold natV
  rw [List.map_append]
  rfl
theorem range_after {st n i : Nat} (h1 : st ≤ i) (h2 : i < n) : (List.range' st (n - st)).filter (fun q => decide (i < q)) = List.range' (i + 1) (n - (i + 1)) := by
  have e : List.range' st (n - st) = List.range' st (i + 1 - st) ++ List.range' (i + 1) (n - (i + 1)) := by
    have z := List.range'_append (s := st) (m := i + 1 - st) (n := n - (i + 1)) (step := 1)
    rw [Nat.one_mul, show st + (i + 1 - st) = i + 1 by omega, show i + 1 - st + (n - (i + 1)) = n - st by omega] at z
    exact z.symm
  have e1 : (List.range' st (i + 1 - st)).filter (fun q => decide (i < q)) = [] := List.filter_eq_nil_iff.mpr fun q hq => by
    have := (List.mem_range'_1.mp hq).2
    simp
    omega
  have e2 : (List.range' (i + 1) (n - (i + 1))).filter (fun q => decide (i < q)) = List.range' (i + 1) (n - (i + 1)) := List.filter_eq_self.mpr fun q hq => by
    have := (List.mem_range'_1.mp hq).1
    simp
    omega
  rw [e, List.filter_append, e1, e2, List.nil_append]
theorem hits_in {ws : List StepT} {c : Bool} {x : Str} {st i : Nat} {r : List Nat} (h : hits ws c x st = i :: r) : st ≤ i ∧ i < ws.length := by
  have m : i ∈ hits ws c x st := by rw [h]; exact List.mem_cons_self
  have z := List.mem_range'_1.mp (List.mem_filter.mp m).1
  omega
theorem flat_rep {α : Type} (x : α) : ∀ n : Nat, (List.replicate n [x]).flatten = List.replicate n x
  | 0 => rfl
  | n + 1 => by
    show [x] ++ (List.replicate n [x]).flatten = x :: List.replicate n x
    rw [flat_rep x n]
    rfl
theorem paired_rep {α β : Type} {R : α → β → Prop} {x : α} {y : β} (h : R x y) : ∀ n : Nat, Paired R (List.replicate n x) (List.replicate n y)
  | 0 => .nil
  | n + 1 => .cons h (paired_rep h n)
theorem natV_ints (l : List Nat) : natV l = (l.map fun j : Nat => ((j : Nat) : Int)).map V.int := by
  unfold natV
  rw [List.map_map]
  rfl
theorem ints_nil (ns : List Int) : PyData.eqv (.list (ns.map PyData.int)) (.list []) = ns.isEmpty := by
  cases ns with
  | nil => rfl
  | cons a r => rfl
theorem cat_where {K : PySem.W.Frag} {σ : St} {H : Hp} {wr : Addr} {wh : List Nat} {j : Nat} {te : TE} {Q : VK} (s5 : σ[5]? = some (some (.ref wr))) (ewr : H wr = some (.tup (natV wh))) (hl : wh.length ≤ 200) (ht : ∀ Q : VK, Q (.int ((j : Nat) : Int)) H → te σ H Q)
    (q : ∀ (wr' : Addr) (H' : Hp), Same H H' → H' wr' = some (.tup (natV (wh ++ [j]))) → Q (.ref wr') H') : tOp (rCatA K) (tVar 5) (tTup (tCons te tNil)) σ H Q := by
  refine ⟨_, s5, ht _ ⟨(by show 1 ≤ sizeLine; decide), fun t htn => ⟨wr, t, natV wh, [.int ((j : Nat) : Int)], rfl, rfl, SqT.of (Same.new htn _ _ ewr), SqT.of upd_same, szN (by rw [natV_len]; show wh.length + 1 ≤ 1000; omega), (fun z => ?_), (fun _ z => nomatch z), fun z _ p hp => ?_⟩⟩⟩
  · have z' : wh = [] := List.map_eq_nil_iff.mp z
    subst z'
    exact q t _ (Same.new htn) upd_same
  · exact q p _ ((Same.new htn).trans (Same.new hp)) (by rw [upd_same, natV_snoc])
theorem allU_snoc {α : Type} (f : Sch → Nat → List α) : ∀ (l : List Sch) (s : Sch) (j : Nat), allU f (l ++ [s]) j = allU f l j ++ f s (j + l.length)
  | [], s, j => by
    show f s j ++ [] = [] ++ f s (j + 0)
    rw [List.append_nil]
    rfl
  | a :: l, s, j => by
    show f a j ++ allU f (l ++ [s]) (j + 1) = (f a j ++ allU f l (j + 1)) ++ f s (j + (l.length + 1))
    rw [allU_snoc f l s (j + 1), List.append_assoc, show j + 1 + l.length = j + (l.length + 1) by omega]
theorem bestU_snoc {α : Type} (f : Sch → Nat → List α) : ∀ (l : List Sch) (s : Sch) (j : Nat) (acc : List α), bestU f (l ++ [s]) j acc = if (bestU f l j acc).length < (f s (j + l.length)).length then f s (j + l.length) else bestU f l j acc
  | [], s, j, acc => rfl
  | a :: l, s, j, acc => by
    show bestU f (l ++ [s]) (j + 1) _ = if (bestU f l (j + 1) _).length < (f s (j + (l.length + 1))).length then f s (j + (l.length + 1)) else bestU f l (j + 1) _
    rw [bestU_snoc f l s (j + 1), show j + 1 + l.length = j + (l.length + 1) by omega]
theorem le_sum {l : List Int} (h : ∀ x ∈ l, 0 ≤ x) : ∀ x ∈ l, x ≤ l.sum := by
  induction l with
  | nil => intro x hx; cases hx
  | cons a r ih =>
    intro x hx
    have nn : ∀ {r : List Int}, (∀ x ∈ r, 0 ≤ x) → 0 ≤ r.sum := by
      intro r
      induction r with
      | nil => intro _; exact Int.le_refl _
      | cons b t ih2 =>
        intro h2
        have := ih2 fun x hx => h2 x (List.mem_cons_of_mem _ hx)
        have := h2 b List.mem_cons_self
        rw [List.sum_cons]
        omega
    have n1 := nn fun x hx => h x (List.mem_cons_of_mem _ hx)
    rw [List.sum_cons]
    rcases List.mem_cons.mp hx with rfl | hx
    · omega
    · have := ih (fun x hx => h x (List.mem_cons_of_mem _ hx)) x hx
      have := h a List.mem_cons_self
      omega
theorem ev_and_new {t u : TT} {σ : St} {H : Hp} {b c : Bool} (h1 : ∀ Q : Bool → Hp → Prop, (∀ H', Same H H' → Q b H') → t σ H Q) (h2 : b = true → ∀ H', Same H H' → ∀ Q : Bool → Hp → Prop, (∀ H'', Same H' H'' → Q c H'') → u σ H' Q) :
    ∀ Q : Bool → Hp → Prop, (∀ H', Same H H' → Q (b && c) H') → tAnd t u σ H Q := fun Q q => h1 _ fun H' s => by
  cases b with
  | true => exact iteT (h2 rfl H' s _ fun H'' s'' => q H'' (s.trans s''))
  | false => exact iteF (q H' s)
theorem seq_to {C : Prop} {tc : TT} {t r : TS} {D : Ends} {σ : St} {H : Hp} {b : Bool} (h : ∀ Q : Bool → Hp → Prop, (∀ H', Same H H' → Q b H') → tc σ H Q) (k1 : b = true → ∀ H', Same H H' → (C → ∀ H'', Same H H'' → r D σ H'') → t { D with nx := r D } σ H') (k2 : b = false → C)
    (rest : C → ∀ H', Same H H' → r D σ H') : tSeq (tIfS tc t tNext) r D σ H := seq_new h (fun e H' s => k1 e H' s rest) (fun e H' s => rest (k2 e) H' s)
theorem to_new {t : TT} {σ : St} {H H0 : Hp} {b : Bool} (s : Same H0 H) (h : ∀ Q : Bool → Hp → Prop, Q b H → t σ H Q) : ∀ Q : Bool → Hp → Prop, (∀ H', Same H0 H' → Q b H') → t σ H Q := fun Q q => h Q (q H s)
theorem range_last {st n : Nat} (h : st < n) : List.range' st (n - st) = List.range' st (n - st - 1) ++ [n - 1] := by
  have e : n - st = (n - st - 1) + 1 := by omega
  have z := List.range'_concat (s := st) (n := n - st - 1) (step := 1)
  rw [← e, Nat.one_mul, show st + (n - st - 1) = n - 1 by omega] at z
  exact z
theorem paired_app {α β : Type} {R : α → β → Prop} {as cs : List α} {bs ds : List β} (h : Paired R as bs) (g : Paired R cs ds) : Paired R (as ++ cs) (bs ++ ds) := by
  induction h with
  | nil => exact g
  | cons r _ ih => exact .cons r ih
theorem in_words (x : Str) (ws : List StepT) : inV (.str x) (ws.map fun p : StepT => V.str p.1) = ws.any fun p => p.1 == x := by
  unfold inV
  rw [List.any_map]
  rfl
theorem or_carry {σ : St} {H : Hp} {c : Bool} {nm : Str} {Q : VK} (s4 : σ[4]? = some (some (.bl c))) (s6 : σ[6]? = some (some (.str nm))) (q : Q (.bl (c || nm == "carry")) H) : tOrV (tVar 4) (tOp rEq (tVar 6) (tC (.str "carry"))) σ H Q :=
  ⟨_, s4, c, rfl, by
    cases c with
    | true => exact iteT q
    | false => exact iteF ⟨_, s6, rfl, by rw [dec_str]; exact q⟩⟩
theorem look_last {st n : Nat} (h : st < n) : atI (natV (List.range' st (n - st))) (-1) = some (V.int ((n - 1 : Nat) : Int)) := by
  rw [range_last h, ← natV_snoc]
  exact atI_last _ _
theorem last_get {ws : List StepT} (h : 0 < ws.length) : ws.getLast? = some (ws[ws.length - 1]'(by omega)) := by
  rw [List.getLast?_eq_getElem?, List.getElem?_eq_getElem (by omega)]
theorem steps_last {ws : List StepT} (h : 0 < ws.length) : atI (stepsV ws) (-1) = some (V.str (stepS (ws[ws.length - 1]'(by omega)))) := by
  have hl : (stepsV ws).length = ws.length := List.length_map _
  unfold atI ixN
  rw [hl, if_neg (by decide), if_pos (by omega), show ((-1 : Int) + (ws.length : Int)).toNat = ws.length - 1 by omega]
  exact get_map (fun p => V.str (stepS p)) ws (by omega)
def seenW : Sch → Str
  | .seen x _ => x
  | _ => ""
theorem get_most {x y : V} : valV (mergeK [] [((.inr "most" : Key), x), (.inr "half", y)]) (.inr "most") = some x := by
  have h1 : ((.inr "most" : Key) = .inr "half") = False := by simp; decide +kernel
  have h2 : ((.inr "half" : Key) = .inr "most") = False := by simp; decide +kernel
  simp [mergeK, putK, valV, h1, h2]
theorem get_half {x y : V} : valV (mergeK [] [((.inr "most" : Key), x), (.inr "half", y)]) (.inr "half") = some y := by
  have h1 : ((.inr "most" : Key) = .inr "half") = False := by simp; decide +kernel
  have h2 : ((.inr "half" : Key) = .inr "most") = False := by simp; decide +kernel
  simp [mergeK, putK, valV, h1, h2]
theorem get_none {x y : V} {nm : Str} (n1 : ("most" : Str) ≠ nm) (n2 : ("half" : Str) ≠ nm) : valV (mergeK [] [((.inr "most" : Key), x), (.inr "half", y)]) (.inr nm) = none := by
  have h1 : ((.inr "most" : Key) = .inr "half") = False := by simp; decide +kernel
  have h3 : ((.inr "most" : Key) = .inr nm) = False := by simpa using n1
  have h4 : ((.inr "half" : Key) = .inr nm) = False := by simpa using n2
  simp [mergeK, putK, valV, h1, h3, h4]
section
variable {P : Program} {w : World} {K : PySem.W.Frag} {mg : Str → Option Value} {base : Heap}
end
end MS
end
section
set_option maxRecDepth 100000
set_option maxHeartbeats 4000000
namespace MS
open PySem L2
theorem rg_nat (n : Nat) : rgV 0 (n : Int) = natV (List.range' 0 n) := by
  unfold rgV natV
  rw [show ((n : Int) - 0).toNat = n by omega, List.range_eq_range']
  refine List.map_congr_left fun i _ => ?_
  rw [Int.zero_add]
theorem PaperOk.facts {ps : List Sch} (h : PaperOk ps) : ∃ ce : Nat → Int, (∀ (j : Nat) (s : Sch), ps[j]? = some s → OkS j ps.length 5 s ∧ ce j = er ce 5 s) ∧ (∀ j, j < ps.length → 0 ≤ ce j) ∧ ∀ j, j < ps.length → ce j ≤ 7 := by
  obtain ⟨_, _, ce, cw, t⟩ := h
  have hp : ∀ (j : Nat) (s : Sch), ps[j]? = some s → OkS j ps.length 5 s ∧ ce j = er ce 5 s := fun j s e => by
    obtain ⟨q1, q2, _⟩ := t j s e
    rw [Nat.zero_add] at q1 q2
    exact ⟨q1, q2⟩
  have h0 : ∀ n j, ps.length - j ≤ n → j < ps.length → 0 ≤ ce j := by
    intro n
    induction n with
    | zero => intro j a b; omega
    | succ n ih =>
      intro j a b
      obtain ⟨o, e⟩ := hp j _ (List.getElem?_eq_getElem b)
      rw [e]
      exact er_nonneg (fun j' h1 h2 => ih j' (by omega) h2) 5 _ o
  refine ⟨ce, hp, fun j hj => h0 _ j (Nat.le_refl _) hj, fun j hj => ?_⟩
  obtain ⟨_, q2, _, _, q5, _⟩ := t j _ (List.getElem?_eq_getElem hj)
  rw [Nat.zero_add] at q2
  rw [q2]
  exact q5
/-- a paper, a work -/
structure PWAt (H : Hp) (ps : List Sch) (ws : List StepT) (pa wa : Addr) : Prop where
  paper : ∃ pv, H pa = some (.tup pv) ∧ Paired (SAt H 5) ps pv
  work : H wa = some (.lst (stepsV ws))
theorem PWAt.keep {H H' : Hp} {ps : List Sch} {ws : List StepT} {pa wa : Addr} (h : PWAt H ps ws pa wa) (k : Same H H') : PWAt H' ps ws pa wa := by
  obtain ⟨⟨pv, e, p⟩, h2⟩ := h
  exact ⟨⟨pv, k _ _ e, paired_imp p fun s v => SAt.keep (Same.tupK k) _ _ _⟩, k _ _ h2⟩
/-- all that is earned, point by point -/
def uAll (ps : List Sch) (ws : List StepT) : List Un := match ps with
  | [] => []
  | s :: _ => uP ps ws 30 s 0 false []
/-- the rows of points -/
abbrev Row := Nat × Nat × List Nat
def addU (acc : List Row) (u : Un) : List Row := match acc.getLast? with
  | some (_, n, wh) => if wh = u.2 then acc.dropLast ++ [(u.1, n + 1, u.2)] else acc ++ [(u.1, 1, u.2)]
  | none => [(u.1, 1, u.2)]
def eP (us : List Un) : List Row := us.foldl addU []
def RowR (H : Hp) (u : Row) (v : V) : Prop := ∃ a b, v = V.ref a ∧ H a = some (.tup [.int ((u.1 : Nat) : Int), .int ((u.2.1 : Nat) : Int), .ref b]) ∧ H b = some (.tup (natV u.2.2))
theorem RowR.keep {H H' : Hp} {u : Row} {v : V} (h : RowR H u v) (k : TupK H H') : RowR H' u v := by
  obtain ⟨a, b, e, h1, h2⟩ := h
  exact ⟨a, b, e, k _ _ h1, k _ _ h2⟩
def spMarks (ps : List Sch) (ws : List StepT) : Sp := fun vs H Q _ => ∃ pa wa, vs = [.ref pa, .ref wa] ∧ PWAt H ps ws pa wa ∧ ∀ H', Same H H' → Q (.int (((uAll ps ws).length : Nat) : Int)) H'
def spEarned (ps : List Sch) (ws : List StepT) : Sp := fun vs H Q _ => ∃ pa wa, vs = [.ref pa, .ref wa] ∧ PWAt H ps ws pa wa ∧ ∀ (f : Addr) (rv : List V) (H' : Hp), Same H H' → H f = none → H' f = some (.lst rv) → Paired (RowR H') (eP (uAll ps ws)) rv → Q (.ref f) H'
theorem one_new {tc : TT} {t u : TS} {D : Ends} {σ : St} {H : Hp} {b : Bool} (h : ∀ Q : Bool → Hp → Prop, (∀ H', Same H H' → Q b H') → tc σ H Q) (k1 : b = true → ∀ H', Same H H' → t D σ H') (k2 : b = false → ∀ H', Same H H' → u D σ H') : tIfS tc t u D σ H := h _ fun H' s => by
  cases b with
  | true => exact iteT (k1 rfl H' s)
  | false => exact iteF (k2 rfl H' s)
theorem list_nil (ds : List PyData) : PyData.eqv (.list ds) (.list []) = ds.isEmpty := by
  cases ds with
  | nil => simp only [PyData.eqv, PyData.eqvAll]; rfl
  | cons a r => simp only [PyData.eqv, PyData.eqvAll]; rfl
def natD (l : List Nat) : List PyData := l.map fun j : Nat => PyData.int ((j : Nat) : Int)
theorem natD_eqvAll : ∀ l m : List Nat, PyData.eqvAll (natD l) (natD m) = decide (l = m)
  | [], [] => by show PyData.eqvAll [] [] = _; simp only [PyData.eqvAll]; rfl
  | [], b :: m => by show PyData.eqvAll [] (_ :: _) = _; simp only [PyData.eqvAll]; rfl
  | a :: l, [] => by show PyData.eqvAll (_ :: _) [] = _; simp only [PyData.eqvAll]; rfl
  | a :: l, b :: m => by
    have ih := natD_eqvAll l m
    show PyData.eqvAll (PyData.int ((a : Nat) : Int) :: natD l) (PyData.int ((b : Nat) : Int) :: natD m) = _
    simp only [PyData.eqvAll, PyData.eqv, ih]
    by_cases h1 : a = b
    · subst h1
      by_cases h2 : l = m
      · subst h2; simp
      · simp [h2]
    · have : ((a : Nat) : Int) ≠ ((b : Nat) : Int) := by omega
      simp [h1, this]
theorem natD_eqv (l m : List Nat) : PyData.eqv (.tuple (natD l)) (.tuple (natD m)) = decide (l = m) := by
  simp only [PyData.eqv]
  exact natD_eqvAll l m
theorem natD_sh (n : Nat) (l : List Nat) : ShAll n (natD l) := ShAll.of fun d h => by
  obtain ⟨i, _, rfl⟩ := List.mem_map.mp h
  exact .int _
theorem natD_dp {K : PySem.W.Frag} {H : Hp} : ∀ l : List Nat, DpAll K H (natV l) (natD l)
  | [] => .nil
  | n :: r => .cons (.int _) (natD_dp r)
def rowD (r : Row) : PyData := .tuple [.int ((r.1 : Nat) : Int), .int ((r.2.1 : Nat) : Int), .tuple (natD r.2.2)]
theorem rowD_sh (r : Row) : ShN 2 (rowD r) := .tup (.cons (.int _) (.cons (.int _) (.cons (.tup (natD_sh 0 _)) .nil)))
theorem rows_sh (rs : List Row) : ShN 3 (.list (rs.map rowD)) := .lst (ShAll.of fun d h => by
  obtain ⟨r, _, rfl⟩ := List.mem_map.mp h
  exact rowD_sh r)
theorem rows_dp {K : PySem.W.Frag} {H : Hp} : ∀ {rs : List Row} {rv : List V}, Paired (RowR H) rs rv → DpAll K H rv (rs.map rowD)
  | _, _, .nil => .nil
  | _, _, .cons h t => by
    obtain ⟨a, b, rfl, h1, h2⟩ := h
    exact .cons (.tup (SqT.of h1) (.cons (.int _) (.cons (.int _) (.cons (.tup (SqT.of h2) (natD_dp _)) .nil)))) (rows_dp t)
theorem paired_snoc_inv {α β : Type} {R : α → β → Prop} : ∀ {xs : List α} {x : α} {ys : List β}, Paired R (xs ++ [x]) ys → ∃ ys' y, ys = ys' ++ [y] ∧ Paired R xs ys' ∧ R x y
  | [], x, _, .cons h .nil => ⟨[], _, rfl, .nil, h⟩
  | a :: xs, x, _, .cons h t => by
    obtain ⟨ys', y, e, h1, h2⟩ := paired_snoc_inv t
    exact ⟨_ :: ys', y, by rw [e]; rfl, .cons h h1, h2⟩
theorem last_set (xs : List V) (x y : V) : (xs ++ [x]).set xs.length y = xs ++ [y] := by
  rw [List.set_append_right _ _ (Nat.le_refl _), Nat.sub_self]
  rfl
theorem ixN_last {n : Nat} : ixN (n + 1) (-1) = some n := by
  unfold ixN
  rw [if_neg (by decide), if_pos (by omega)]
  congr 1
  omega
theorem addU_len (acc : List Row) (u : Un) : (addU acc u).length ≤ acc.length + 1 := by
  unfold addU
  split
  · split
    · rw [List.length_append, List.length_dropLast, List.length_singleton]
      omega
    · simp
  · simp
def sameW (acc : List Row) (u : Un) : Bool := match acc.getLast? with
  | some r => decide (r.2.2 = u.2)
  | none => false
theorem sameW_snoc (ini : List Row) (r : Row) (u : Un) : sameW (ini ++ [r]) u = decide (r.2.2 = u.2) := by
  unfold sameW
  rw [show (ini ++ [r]).getLast? = some r by simp]
theorem addU_same (ini : List Row) (r : Row) (u : Un) (h : r.2.2 = u.2) : addU (ini ++ [r]) u = ini ++ [(u.1, r.2.1 + 1, u.2)] := by
  unfold addU
  rw [show (ini ++ [r]).getLast? = some r by simp]
  obtain ⟨a, b, c⟩ := r
  show (if c = u.2 then _ else _) = _
  rw [if_pos h]
  simp
theorem addU_else (acc : List Row) (u : Un) (h : ((!acc.isEmpty) && sameW acc u) = false) : addU acc u = acc ++ [(u.1, 1, u.2)] := by
  rcases List.eq_nil_or_concat acc with rfl | ⟨ini, r, rfl⟩
  · rfl
  · rw [List.concat_eq_append] at h ⊢
    rw [sameW_snoc] at h
    have h2 : r.2.2 ≠ u.2 := fun z => by
      rw [z, decide_eq_true rfl, Bool.and_true] at h
      cases ini <;> cases h
    unfold addU
    rw [show (ini ++ [r]).getLast? = some r by simp]
    obtain ⟨a, b, c⟩ := r
    show (if c = u.2 then _ else _) = _
    rw [if_neg h2]
section
variable {P : Program} {w : World} {K : PySem.W.Frag} {mg : Str → Option Value} {base : Heap}
end
end MS
end
section
set_option maxRecDepth 100000
set_option maxHeartbeats 4000000
namespace MS
open PySem L2
/-! ### the words of a scheme -/
def wP (ps : List Sch) : Nat → Sch → List Str
  | 0, _ => []
  | _ + 1, .step x _ => [x]
  | k + 1, .seen x s => x :: wP ps k s
  | k + 1, .behind x s => x :: wP ps k s
  | k + 1, .fin x _ s => x :: wP ps k s
  | k + 1, .most _ s => wP ps k s
  | k + 1, .half s => wP ps k s
  | k + 1, .carry s => wP ps k s
  | k + 1, .all ks => (ks.map (wP ps k)).flatten
  | k + 1, .best ks => (ks.map (wP ps k)).flatten
  | k + 1, .use n => match ps[n]? with
    | none => []
    | some s => wP ps k s
theorem wr_nonneg {i M : Nat} {c : Nat → Int} (h : ∀ j, i < j → j < M → 0 ≤ c j) : ∀ (d : Nat) (s : Sch), OkS i M d s → 0 ≤ wr c d s
  | 0, _, o => by cases o
  | _ + 1, .step _ _, _ => by show (0 : Int) ≤ 0; decide
  | d + 1, .all k, o => by
    show 0 ≤ (k.map (wr c d)).sum
    have : ∀ s ∈ k, 0 ≤ wr c d s := fun s hs => wr_nonneg h d s (o.2.2 s hs)
    clear o
    induction k with
    | nil => exact Int.le_refl _
    | cons a r ih =>
      rw [List.map_cons, List.sum_cons]
      have := ih fun s hs => this s (List.mem_cons_of_mem _ hs)
      have := ‹∀ s ∈ a :: r, 0 ≤ wr c d s› a List.mem_cons_self
      omega
  | d + 1, .best k, o => by
    show 0 ≤ (k.map (wr c d)).sum
    have : ∀ s ∈ k, 0 ≤ wr c d s := fun s hs => wr_nonneg h d s (o.2.2 s hs)
    clear o
    induction k with
    | nil => exact Int.le_refl _
    | cons a r ih =>
      rw [List.map_cons, List.sum_cons]
      have := ih fun s hs => this s (List.mem_cons_of_mem _ hs)
      have := ‹∀ s ∈ a :: r, 0 ≤ wr c d s› a List.mem_cons_self
      omega
  | d + 1, .most _ s, o => wr_nonneg h d s o.2
  | d + 1, .half s, o => wr_nonneg h d s o
  | d + 1, .seen _ s, o => by
    have := wr_nonneg h d s o.2
    show 0 ≤ 1 + wr c d s
    omega
  | d + 1, .behind _ s, o => by
    have := wr_nonneg h d s o.2
    show 0 ≤ 1 + wr c d s
    omega
  | d + 1, .carry s, o => wr_nonneg h d s o
  | d + 1, .fin _ _ s, o => wr_nonneg h d s o.2
  | _ + 1, .use n, o => h n o.1 o.2
/-- its words, the schemes within -/
structure WV (H : Hp) (i M d : Nat) (ps : List Sch) (k : Nat) (sc : Sch) (nm : Str) (rest : List V) (pre : List Str) (ks : List Sch) (kv : List V) : Prop where
  nu : (nm == "use") = false
  eq : wP ps (k + 1) sc = pre ++ (ks.map (wP ps k)).flatten
  pl : pre.length ≤ 1
  kl : ks.length ≤ 4
  ok : ∀ s ∈ ks, OkS i M d s
  at_ : Paired (SAt H d) ks kv
  w1 : inV (.str nm) [.str "step", .str "seen", .str "behind", .str "end"] = true → ∃ x, pre = [x] ∧ atI (.str nm :: rest) 1 = some (.str x)
  w0 : inV (.str nm) [.str "step", .str "seen", .str "behind", .str "end"] = false → pre = []
  k2 : inV (.str nm) [.str "all", .str "best"] = true → ∃ b, atI (.str nm :: rest) 1 = some (.ref b) ∧ H b = some (.tup kv)
  k1 : inV (.str nm) [.str "all", .str "best"] = false → nm ≠ "step" → ∃ u, atI (.str nm :: rest) (-1) = some u ∧ kv = [u]
  k0 : nm = "step" → kv = []
theorem SKind.words {H : Hp} {i M d : Nat} {ps : List Sch} {k : Nat} {sc : Sch} {nm : Str} {rest : List V} (h : SKind H i M d sc nm rest) : (∃ n : Nat, rest = [.int ((n : Nat) : Int)] ∧ sc = .use n ∧ nm = "use" ∧ i < n ∧ n < M) ∨ ∃ pre ks kv, WV H i M d ps k sc nm rest pre ks kv := by
  cases h with
  | @step x p hx _ _ => exact .inr ⟨[x], [], [], by decide +kernel, rfl, by simp, by simp, (fun s h => nomatch h), .nil, fun _ => ⟨x, rfl, at1⟩, (fun z => absurd z (by decide +kernel)), (fun z => absurd z (by decide +kernel)), fun _ z => absurd rfl z, fun _ => rfl⟩
  | @behind x s u hx hs ho => exact .inr ⟨[x], [s], [u], by decide +kernel, by show x :: wP ps k s = [x] ++ (wP ps k s ++ []); rw [List.append_nil]; rfl, by simp, by simp, (fun s' h' => by rw [List.mem_singleton.mp h']; exact ho), .cons hs .nil, fun _ => ⟨x, rfl, at1⟩, (fun z => absurd z (by decide +kernel)), (fun z => absurd z (by decide +kernel)), fun _ _ => ⟨u, rfl, rfl⟩, (fun z => absurd z (by decide +kernel))⟩
  | use h1 h2 => exact .inl ⟨_, rfl, rfl, rfl, h1, h2⟩
  | @all ks b vs eb hk ho hl => exact .inr ⟨[], ks, vs, by decide +kernel, rfl, by simp, hl, ho, hk, (fun z => absurd z (by decide +kernel)), fun _ => rfl, fun _ => ⟨b, at1, eb⟩, (fun z => absurd z (by decide +kernel)), (fun z => absurd z (by decide +kernel))⟩
  | @best ks b vs eb hk ho hl => exact .inr ⟨[], ks, vs, by decide +kernel, rfl, by simp, hl, ho, hk, (fun z => absurd z (by decide +kernel)), fun _ => rfl, fun _ => ⟨b, at1, eb⟩, (fun z => absurd z (by decide +kernel)), (fun z => absurd z (by decide +kernel))⟩
  | one h =>
    obtain ⟨u, s', hlast, hs', ho', c5, c6, cm, chh, cc, x1, ex1⟩ := h.kid
    have nst : nm ≠ "step" := fun e => by
      have := h.nb
      rw [e] at this
      exact absurd this (by decide +kernel)
    have a1 : ∀ s ∈ [s'], OkS i M d s := fun s h' => by rw [List.mem_singleton.mp h']; exact ho'
    rcases h.nm5 with e | e | e | e | e
    · obtain ⟨n, hsc, hre, _⟩ := cm e
      exact .inr ⟨[], [s'], [u], h.nu, by rw [hsc]; show wP ps k s' = [] ++ (wP ps k s' ++ []); rw [List.append_nil]; rfl, by simp, by simp, a1, .cons hs' .nil, (fun z => by rw [e] at z; exact absurd z (by decide +kernel)), fun _ => rfl, (fun z => by rw [h.na] at z; cases z), fun _ _ => ⟨u, hlast, rfl⟩, fun z => absurd z nst⟩
    · obtain ⟨hsc, hre⟩ := chh e
      exact .inr ⟨[], [s'], [u], h.nu, by rw [hsc]; show wP ps k s' = [] ++ (wP ps k s' ++ []); rw [List.append_nil]; rfl, by simp, by simp, a1, .cons hs' .nil, (fun z => by rw [e] at z; exact absurd z (by decide +kernel)), fun _ => rfl, (fun z => by rw [h.na] at z; cases z), fun _ _ => ⟨u, hlast, rfl⟩, fun z => absurd z nst⟩
    · obtain ⟨x, hsc, hre, hx⟩ := c6 e
      exact .inr ⟨[x], [s'], [u], h.nu, by rw [hsc]; show x :: wP ps k s' = [x] ++ (wP ps k s' ++ []); rw [List.append_nil]; rfl, by simp, by simp, a1, .cons hs' .nil, fun _ => ⟨x, rfl, by rw [hre]; exact at1⟩, (fun z => by rw [e] at z; exact absurd z (by decide +kernel)), (fun z => by rw [h.na] at z; cases z), fun _ _ => ⟨u, hlast, rfl⟩, fun z => absurd z nst⟩
    · obtain ⟨hsc, hre⟩ := cc e
      exact .inr ⟨[], [s'], [u], h.nu, by rw [hsc]; show wP ps k s' = [] ++ (wP ps k s' ++ []); rw [List.append_nil]; rfl, by simp, by simp, a1, .cons hs' .nil, (fun z => by rw [e] at z; exact absurd z (by decide +kernel)), fun _ => rfl, (fun z => by rw [h.na] at z; cases z), fun _ _ => ⟨u, hlast, rfl⟩, fun z => absurd z nst⟩
    · obtain ⟨x, p, hsc, hre, hx, _⟩ := c5 e
      exact .inr ⟨[x], [s'], [u], h.nu, by rw [hsc]; show x :: wP ps k s' = [x] ++ (wP ps k s' ++ []); rw [List.append_nil]; rfl, by simp, by simp, a1, .cons hs' .nil, fun _ => ⟨x, rfl, by rw [hre]; exact at1⟩, (fun z => by rw [e] at z; exact absurd z (by decide +kernel)), (fun z => by rw [h.na] at z; cases z), fun _ _ => ⟨u, hlast, rfl⟩, fun z => absurd z nst⟩
theorem flat_len {g : Sch → Int} {f : Sch → List Str} : ∀ (ks : List Sch), (∀ s ∈ ks, ((f s).length : Int) ≤ g s) → (((ks.map f).flatten).length : Int) ≤ (ks.map g).sum
  | [], _ => Int.le_refl _
  | s :: r, h => by
    rw [List.map_cons, List.flatten_cons, List.length_append, List.map_cons, List.sum_cons]
    have := h s List.mem_cons_self
    have := flat_len r fun s hs => h s (List.mem_cons_of_mem _ hs)
    omega
theorem sum_two {g h : Sch → Int} : ∀ (ks : List Sch), (ks.map fun s => g s + h s).sum = (ks.map g).sum + (ks.map h).sum
  | [] => rfl
  | s :: r => by
    rw [List.map_cons, List.sum_cons, List.map_cons, List.sum_cons, List.map_cons, List.sum_cons, sum_two r]
    omega
theorem wP_len {ps : List Sch} {ce cw : Nat → Int} {M : Nat} (hp : ∀ (j : Nat) (s : Sch), ps[j]? = some s → OkS j M 5 s ∧ ce j = er ce 5 s ∧ cw j = wr cw 5 s) (h0 : ∀ j, j < M → 0 ≤ ce j) (h1 : ∀ j, j < M → 0 ≤ cw j) :
    ∀ (k : Nat) (i d : Nat) (s : Sch), OkS i M d s → ((wP ps k s).length : Int) ≤ er ce d s + wr cw d s
  | 0, i, d, s, o => by
    have := er_nonneg (c := ce) (fun j _ hj => h0 j hj) d s o
    have := wr_nonneg (c := cw) (fun j _ hj => h1 j hj) d s o
    show (0 : Int) ≤ _
    omega
  | k + 1, i, 0, s, o => by cases o
  | k + 1, i, d + 1, .step x p, o => by show (1 : Int) ≤ 1 + 0; decide
  | k + 1, i, d + 1, .behind x s, o => by
    have := wP_len hp h0 h1 k i d s o.2
    show (((x :: wP ps k s).length : Nat) : Int) ≤ er ce d s + (1 + wr cw d s)
    rw [List.length_cons]
    omega
  | k + 1, i, d + 1, .seen x s, o => by
    have := wP_len hp h0 h1 k i d s o.2
    show (((x :: wP ps k s).length : Nat) : Int) ≤ er ce d s + (1 + wr cw d s)
    rw [List.length_cons]
    omega
  | k + 1, i, d + 1, .fin x p s, o => by
    have := wP_len hp h0 h1 k i d s o.2
    show (((x :: wP ps k s).length : Nat) : Int) ≤ (1 + er ce d s) + wr cw d s
    rw [List.length_cons]
    omega
  | k + 1, i, d + 1, .use n, o => by
    show ((match ps[n]? with
      | none => []
      | some s => wP ps k s).length : Int) ≤ ce n + cw n
    have := h0 n o.2
    have := h1 n o.2
    split
    · show (0 : Int) ≤ _
      omega
    · rename_i s e
      obtain ⟨o', e1, e2⟩ := hp n s e
      rw [e1, e2]
      exact wP_len hp h0 h1 k n 5 s o'
  | k + 1, i, d + 1, .all ks, o => by
    have := flat_len (f := wP ps k) (g := fun s => er ce d s + wr cw d s) ks fun s hs => wP_len hp h0 h1 k i d s (o.2.2 s hs)
    rw [sum_two] at this
    exact this
  | k + 1, i, d + 1, .best ks, o => by
    have := flat_len (f := wP ps k) (g := fun s => er ce d s + wr cw d s) ks fun s hs => wP_len hp h0 h1 k i d s (o.2.2 s hs)
    rw [sum_two] at this
    exact this
  | k + 1, i, d + 1, .most n s, o => wP_len hp h0 h1 k i d s o.2
  | k + 1, i, d + 1, .half s, o => wP_len hp h0 h1 k i d s o
  | k + 1, i, d + 1, .carry s, o => wP_len hp h0 h1 k i d s o
def spWords (ps : List Sch) (M k : Nat) : Sp := fun vs H Q _ => ∃ (pa : Addr) (v : V) (s : Sch) (i d : Nat), vs = [.ref pa, v] ∧ (∃ pv, H pa = some (.tup pv) ∧ Paired (SAt H 5) ps pv) ∧ SAt H d s v ∧ OkS i M d s ∧ (M - i) * 5 + d ≤ k ∧ (wP ps k s).length ≤ 100 ∧
  ∀ (f : Addr) (H' : Hp), Same H H' → H f = none → H' f = some (.lst ((wP ps k s).map V.str)) → Q (.ref f) H'
abbrev psWords : List Str := ["_law_paper_here", "_law_scheme_here"]
theorem flat_split {f : Sch → List Str} : ∀ (ks : List Sch) (j : Nat) (s : Sch), ks[j]? = some s → (((ks.take j).map f).flatten).length + (f s).length ≤ ((ks.map f).flatten).length
  | [], _, _, h => by simp at h
  | a :: r, 0, s, h => by
    obtain rfl : a = s := by simpa using h
    rw [List.map_cons, List.flatten_cons, List.length_append]
    show 0 + _ ≤ _
    omega
  | a :: r, j + 1, s, h => by
    have ih := flat_split (f := f) r j s (by simpa using h)
    rw [List.take_succ_cons, List.map_cons, List.flatten_cons, List.length_append, List.map_cons, List.flatten_cons, List.length_append]
    omega
theorem found_if {σ : St} {H1 : Hp} {Q : VK} {b : Bool} {ta : TA} {pre : List V} (h1 : b = true → ∀ R : List V → Hp → Prop, R pre H1 → ta σ H1 R) (h2 : b = false → pre = []) (lp : pre.length ≤ 1000) (c : ∀ f, H1 f = none → Q (.ref f) (upd H1 f (.lst pre))) : if b = true then tLst ta σ H1 Q else tLst tNil σ H1 Q := by
  cases b with
  | true => exact iteT (h1 rfl _ ⟨szN lp, c⟩)
  | false =>
    have e := h2 rfl
    subst e
    exact iteF ⟨Nat.zero_le _, c⟩
theorem kids_if {σ : St} {H1 : Hp} {Q : VK} {b : Bool} {t1 t2 : TE} {kv : List V} (h1 : b = true → ∀ R : VK, (∀ l, H1 l = none → R (.ref l) (upd H1 l (.lst kv))) → t1 σ H1 R) (h2 : b = false → ∀ R : VK, (∀ l, H1 l = none → R (.ref l) (upd H1 l (.lst kv))) → t2 σ H1 R)
    (c : ∀ l, H1 l = none → Q (.ref l) (upd H1 l (.lst kv))) : if b = true then t1 σ H1 Q else t2 σ H1 Q := by
  cases b with
  | true => exact iteT (h1 rfl _ c)
  | false => exact iteF (h2 rfl _ c)
section
variable {P : Program} {w : World} {K : PySem.W.Frag} {mg : Str → Option Value} {base : Heap}
end
section
variable {P : Program} {w : World} {K : PySem.W.Frag} {mg : Str → Option Value} {base : Heap}
end
/-- the words of a paper that can be are few -/
theorem wAll_len {ps : List Sch} (h : PaperOk ps) {s : Sch} {j : Nat} (e : ps[j]? = some s) (k : Nat) : (wP ps k s).length ≤ 10 := by
  obtain ⟨_, _, ce, cw, t⟩ := h
  have hp : ∀ (j : Nat) (s : Sch), ps[j]? = some s → OkS j ps.length 5 s ∧ ce j = er ce 5 s ∧ cw j = wr cw 5 s := fun j s e => by
    obtain ⟨q1, q2, q3, _⟩ := t j s e
    rw [Nat.zero_add] at q1 q2 q3
    exact ⟨q1, q2, q3⟩
  have h0 : ∀ n j, ps.length - j ≤ n → j < ps.length → 0 ≤ ce j ∧ 0 ≤ cw j := by
    intro n
    induction n with
    | zero => intro j a b; omega
    | succ n ih =>
      intro j a b
      obtain ⟨o, e1, e2⟩ := hp j _ (List.getElem?_eq_getElem b)
      rw [e1, e2]
      exact ⟨er_nonneg (fun j' h1 h2 => (ih j' (by omega) h2).1) 5 _ o, wr_nonneg (fun j' h1 h2 => (ih j' (by omega) h2).2) 5 _ o⟩
  obtain ⟨_, _, _, _, q5, q6⟩ := t j s e
  have := wP_len hp (fun j hj => (h0 _ j (Nat.le_refl _) hj).1) (fun j hj => (h0 _ j (Nat.le_refl _) hj).2) k j 5 s (hp j s e).1
  omega
end MS
end
section
set_option maxRecDepth 100000
set_option maxHeartbeats 4000000
namespace MS
open PySem L2
/-! ### rows and points: the same told twice -/
def pts (rs : List Row) : Nat := (rs.map fun r => r.2.1).sum
def expand (rs : List Row) : List Un := rs.flatMap fun r => List.replicate r.2.1 (r.1, r.2.2)
/-- the first so many points of rows -/
def firstP : List Row → Nat → List Row
  | [], _ => []
  | (i, n, wh) :: r, left => if left = 0 then [] else (i, min n left, wh) :: firstP r (left - min n left)
def bestR (f : Sch → Nat → List Row) : List Sch → Nat → List Row → List Row
  | [], _, acc => acc
  | s :: r, j, acc => bestR f r (j + 1) (if pts acc < pts (f s j) then f s j else acc)
def rP (ps : List Sch) (ws : List StepT) : Nat → Sch → Nat → Bool → List Nat → List Row
  | 0, _, _, _, _ => []
  | k + 1, .step x p, st, c, wh => match hits ws c x st with
    | [] => []
    | i :: _ => [(i, p.toNat, wh)]
  | k + 1, .behind x s, st, c, wh => match hits ws c x st with
    | [] => []
    | i :: _ => rP ps ws k s (i + 1) c (wh ++ [0])
  | k + 1, .use n, st, c, wh => match ps[n]? with
    | none => []
    | some s => rP ps ws k s st c (wh ++ [0])
  | k + 1, .all ks, st, c, wh => allU (fun s j => rP ps ws k s st c (wh ++ [j])) ks 0
  | k + 1, .best ks, st, c, wh => bestR (fun s j => rP ps ws k s st c (wh ++ [j])) ks 0 []
  | k + 1, .fin x p s, st, c, wh => if lastOk ws c x st = true then [(ws.length - 1, p.toNat, wh)] else rP ps ws k s st c (wh ++ [0])
  | k + 1, .seen x s, st, c, wh => if (ws.any fun p => p.1 == x) = true then rP ps ws k s st c (wh ++ [0]) else []
  | k + 1, .most n s, st, c, wh => firstP (rP ps ws k s st c (wh ++ [0])) n.toNat
  | k + 1, .half s, st, c, wh => firstP (rP ps ws k s st c (wh ++ [0])) (pts (rP ps ws k s st c (wh ++ [0])) / 2)
  | k + 1, .carry s, st, c, wh => rP ps ws k s st true (wh ++ [0])
theorem pts_zero : pts [] = 0 := rfl
theorem pts_cons (r : Row) (rs : List Row) : pts (r :: rs) = r.2.1 + pts rs := by
  unfold pts
  rw [List.map_cons, List.sum_cons]
theorem expand_cons (r : Row) (rs : List Row) : expand (r :: rs) = List.replicate r.2.1 (r.1, r.2.2) ++ expand rs := by
  unfold expand
  rw [List.flatMap_cons]
theorem expand_app (as bs : List Row) : expand (as ++ bs) = expand as ++ expand bs := by
  unfold expand
  rw [List.flatMap_append]
theorem expand_len : ∀ rs : List Row, (expand rs).length = pts rs
  | [] => rfl
  | r :: rs => by rw [expand_cons, List.length_append, List.length_replicate, expand_len rs, pts_cons]
theorem expand_first : ∀ (rs : List Row) (n : Nat), expand (firstP rs n) = (expand rs).take n
  | [], n => by
    show [] = List.take n []
    rw [List.take_nil]
  | (i, m, wh) :: r, n => by
    unfold firstP
    by_cases h : n = 0
    · rw [if_pos h, h, List.take_zero]
      rfl
    · rw [if_neg h, expand_cons, expand_cons, expand_first r, List.take_append, List.length_replicate, List.take_replicate]
      show List.replicate (min m n) _ ++ _ = List.replicate (min n m) _ ++ _
      rw [Nat.min_comm m n, show n - min n m = n - m by omega]
theorem expand_all {f : Sch → Nat → List Row} {g : Sch → Nat → List Un} : ∀ (ks : List Sch) (j : Nat), (∀ s ∈ ks, ∀ j, g s j = expand (f s j)) → allU g ks j = expand (allU f ks j)
  | [], _, _ => rfl
  | s :: r, j, h => by
    show g s j ++ allU g r (j + 1) = expand (f s j ++ allU f r (j + 1))
    rw [expand_app, h s List.mem_cons_self j, expand_all r (j + 1) fun s hs => h s (List.mem_cons_of_mem _ hs)]
theorem expand_best {f : Sch → Nat → List Row} {g : Sch → Nat → List Un} : ∀ (ks : List Sch) (j : Nat) (acc : List Row), (∀ s ∈ ks, ∀ j, g s j = expand (f s j)) → bestU g ks j (expand acc) = expand (bestR f ks j acc)
  | [], _, _, _ => rfl
  | s :: r, j, acc, h => by
    show bestU g r (j + 1) (if (expand acc).length < (g s j).length then g s j else expand acc) = expand (bestR f r (j + 1) (if pts acc < pts (f s j) then f s j else acc))
    rw [h s List.mem_cons_self j, expand_len, expand_len, ← expand_best r (j + 1) _ fun s hs => h s (List.mem_cons_of_mem _ hs)]
    split <;> rfl
/-- the points are those of the rows -/
theorem uP_expand {ps : List Sch} {ws : List StepT} : ∀ (k : Nat) (s : Sch) (st : Nat) (c : Bool) (wh : List Nat), uP ps ws k s st c wh = expand (rP ps ws k s st c wh)
  | 0, _, _, _, _ => rfl
  | k + 1, .step x p, st, c, wh => by
    unfold uP rP
    cases hits ws c x st with
    | nil => rfl
    | cons i r => show List.replicate _ _ = expand [_]; rw [expand_cons]; show _ = List.replicate _ _ ++ []; rw [List.append_nil]
  | k + 1, .behind x s, st, c, wh => by
    unfold uP rP
    cases hits ws c x st with
    | nil => rfl
    | cons i r => exact uP_expand k s _ c _
  | k + 1, .use n, st, c, wh => by
    unfold uP rP
    cases ps[n]? with
    | none => rfl
    | some s => exact uP_expand k s st c _
  | k + 1, .all ks, st, c, wh => expand_all ks 0 fun s _ j => uP_expand k s st c _
  | k + 1, .best ks, st, c, wh => expand_best ks 0 [] fun s _ j => uP_expand k s st c _
  | k + 1, .fin x p s, st, c, wh => by
    unfold uP rP
    split
    · rw [expand_cons]
      show _ = List.replicate _ _ ++ []
      rw [List.append_nil]
    · exact uP_expand k s st c _
  | k + 1, .seen x s, st, c, wh => by
    unfold uP rP
    split
    · exact uP_expand k s st c _
    · rfl
  | k + 1, .most n s, st, c, wh => by
    unfold uP rP
    rw [uP_expand k s st c _, expand_first]
  | k + 1, .half s, st, c, wh => by
    unfold uP rP
    rw [uP_expand k s st c _, expand_first, expand_len]
  | k + 1, .carry s, st, c, wh => uP_expand k s st true _
/-- rows that can stand side by side: each has points, no two one place -/
def Good (wh : List Nat) (rs : List Row) : Prop := (∀ r ∈ rs, 0 < r.2.1 ∧ wh <+: r.2.2) ∧ (rs.map fun r => r.2.2).Nodup
theorem Good.nil (wh : List Nat) : Good wh [] := ⟨(fun _ h => nomatch h), List.nodup_nil⟩
theorem Good.one {i n : Nat} (wh : List Nat) (h : 0 < n) : Good wh [(i, n, wh)] := ⟨fun r hr => by rw [List.mem_singleton.mp hr]; exact ⟨h, List.prefix_refl _⟩, by simp⟩
theorem Good.up {wh : List Nat} {j : Nat} {rs : List Row} (h : Good (wh ++ [j]) rs) : Good wh rs := ⟨fun r hr => ⟨(h.1 r hr).1, (List.prefix_append _ _).trans (h.1 r hr).2⟩, h.2⟩
theorem first_mem : ∀ (rs : List Row) (n : Nat) (r : Row), r ∈ firstP rs n → (∀ r ∈ rs, 0 < r.2.1) → 0 < r.2.1 ∧ ∃ r' ∈ rs, r'.2.2 = r.2.2
  | [], _, _, h, _ => by cases h
  | (i, m, w) :: t, n, r, h, hp => by
    unfold firstP at h
    by_cases hn : n = 0
    · rw [if_pos hn] at h
      cases h
    · rw [if_neg hn] at h
      rcases List.mem_cons.mp h with rfl | h
      · have : 0 < m := hp _ List.mem_cons_self
        exact ⟨by show 0 < min m n; omega, _, List.mem_cons_self, rfl⟩
      · obtain ⟨h1, r', h2, h3⟩ := first_mem t _ r h fun r hr => hp r (List.mem_cons_of_mem _ hr)
        exact ⟨h1, r', List.mem_cons_of_mem _ h2, h3⟩
theorem first_sub : ∀ (rs : List Row) (n : Nat), ((firstP rs n).map fun r => r.2.2).Sublist (rs.map fun r => r.2.2)
  | [], _ => List.Sublist.slnil
  | (i, m, w) :: t, n => by
    unfold firstP
    split
    · exact List.nil_sublist _
    · exact (first_sub t _).cons_cons _
theorem Good.first {wh : List Nat} {rs : List Row} (h : Good wh rs) (n : Nat) : Good wh (firstP rs n) := ⟨fun r hr => by
  obtain ⟨h1, r', h2, h3⟩ := first_mem rs n r hr fun r hr => (h.1 r hr).1
  exact ⟨h1, by rw [← h3]; exact (h.1 r' h2).2⟩, h.2.sublist (first_sub rs n)⟩
theorem pre_eq {wh t : List Nat} {i j : Nat} (h1 : wh ++ [i] <+: t) (h2 : wh ++ [j] <+: t) : i = j := by
  have h := List.prefix_of_prefix_length_le h1 h2 (by simp)
  obtain ⟨u, hu⟩ := h
  rw [List.append_assoc] at hu
  have := List.append_cancel_left hu
  simp at this
  exact this.1
theorem good_all {wh : List Nat} {f : Sch → Nat → List Row} : ∀ (ks : List Sch) (j : Nat), (∀ s ∈ ks, ∀ j, Good (wh ++ [j]) (f s j)) → (∀ r ∈ allU f ks j, 0 < r.2.1 ∧ ∃ j', j ≤ j' ∧ wh ++ [j'] <+: r.2.2) ∧ ((allU f ks j).map fun r => r.2.2).Nodup
  | [], _, _ => ⟨(fun _ h => nomatch h), List.nodup_nil⟩
  | s :: t, j, h => by
    obtain ⟨a1, a2⟩ := good_all t (j + 1) fun s hs => h s (List.mem_cons_of_mem _ hs)
    have g := h s List.mem_cons_self j
    show (∀ r ∈ f s j ++ allU f t (j + 1), _) ∧ ((f s j ++ allU f t (j + 1)).map fun r => r.2.2).Nodup
    refine ⟨fun r hr => ?_, ?_⟩
    · rcases List.mem_append.mp hr with hr | hr
      · exact ⟨(g.1 r hr).1, j, Nat.le_refl _, (g.1 r hr).2⟩
      · obtain ⟨p, j', h1, h2⟩ := a1 r hr
        exact ⟨p, j', by omega, h2⟩
    · rw [List.map_append]
      refine List.nodup_append.mpr ⟨g.2, a2, fun x hx y hy e => ?_⟩
      obtain ⟨r1, m1, rfl⟩ := List.mem_map.mp hx
      obtain ⟨r2, m2, e2⟩ := List.mem_map.mp hy
      obtain ⟨_, j', h1, h2⟩ := a1 r2 m2
      have p1 := (g.1 r1 m1).2
      rw [e, ← e2] at p1
      have := pre_eq p1 h2
      omega
theorem good_best {wh : List Nat} {f : Sch → Nat → List Row} : ∀ (ks : List Sch) (j : Nat) (acc : List Row), (∀ s ∈ ks, ∀ j, Good (wh ++ [j]) (f s j)) → Good wh acc → Good wh (bestR f ks j acc)
  | [], _, _, _, g => g
  | s :: t, j, acc, h, g => good_best t (j + 1) _ (fun s hs => h s (List.mem_cons_of_mem _ hs)) (by
    split
    · exact (h s List.mem_cons_self j).up
    · exact g)
theorem rP_good {ps : List Sch} {ws : List StepT} {M : Nat} (hp : ∀ (j : Nat) (s : Sch), ps[j]? = some s → OkS j M 5 s) : ∀ (k : Nat) (i d : Nat) (s : Sch) (st : Nat) (c : Bool) (wh : List Nat), OkS i M d s → Good wh (rP ps ws k s st c wh)
  | 0, _, _, _, _, _, _, _ => Good.nil _
  | k + 1, i, 0, s, st, c, wh, o => by cases o
  | k + 1, i, d + 1, .step x p, st, c, wh, o => by
    unfold rP
    have := o.2.1
    split
    · exact Good.nil _
    · exact Good.one _ (by omega)
  | k + 1, i, d + 1, .behind x s, st, c, wh, o => by
    unfold rP
    split
    · exact Good.nil _
    · exact (rP_good hp k i d s _ c _ o.2).up
  | k + 1, i, d + 1, .use n, st, c, wh, o => by
    unfold rP
    split
    · exact Good.nil _
    · rename_i s e
      exact (rP_good hp k n 5 s st c _ (hp n s e)).up
  | k + 1, i, d + 1, .all ks, st, c, wh, o => by
    obtain ⟨a1, a2⟩ := good_all (wh := wh) (f := fun s j => rP ps ws k s st c (wh ++ [j])) ks 0 fun s hs j => rP_good hp k i d s st c _ (o.2.2 s hs)
    exact ⟨fun r hr => by
      obtain ⟨p, j', _, h2⟩ := a1 r hr
      exact ⟨p, (List.prefix_append _ _).trans h2⟩, a2⟩
  | k + 1, i, d + 1, .best ks, st, c, wh, o => good_best ks 0 [] (fun s hs j => rP_good hp k i d s st c _ (o.2.2 s hs)) (Good.nil _)
  | k + 1, i, d + 1, .fin x p s, st, c, wh, o => by
    unfold rP
    have := o.1.2.1
    split
    · exact Good.one _ (by omega)
    · exact (rP_good hp k i d s st c _ o.2).up
  | k + 1, i, d + 1, .seen x s, st, c, wh, o => by
    unfold rP
    split
    · exact (rP_good hp k i d s st c _ o.2).up
    · exact Good.nil _
  | k + 1, i, d + 1, .most n s, st, c, wh, o => ((rP_good hp k i d s st c _ o.2).up).first _
  | k + 1, i, d + 1, .half s, st, c, wh, o => ((rP_good hp k i d s st c _ o).up).first _
  | k + 1, i, d + 1, .carry s, st, c, wh, o => (rP_good hp k i d s st true _ o).up
theorem add_more (acc : List Row) (i : Nat) (w : List Nat) : ∀ (n m : Nat), (List.replicate n ((i, w) : Un)).foldl addU (acc ++ [(i, m, w)]) = acc ++ [(i, m + n, w)]
  | 0, m => rfl
  | n + 1, m => by
    show (List.replicate n ((i, w) : Un)).foldl addU (addU (acc ++ [(i, m, w)]) (i, w)) = _
    rw [addU_same acc (i, m, w) (i, w) rfl]
    show (List.replicate n ((i, w) : Un)).foldl addU (acc ++ [(i, m + 1, w)]) = _
    rw [add_more acc i w n (m + 1), show m + 1 + n = m + (n + 1) by omega]
theorem add_rows : ∀ (rs acc : List Row), (∀ r ∈ rs, 0 < r.2.1) → ((acc ++ rs).map fun r => r.2.2).Nodup → (expand rs).foldl addU acc = acc ++ rs
  | [], acc, _, _ => by rw [List.append_nil]; rfl
  | (i, n, w) :: t, acc, hp, hn => by
    have n0 : 0 < n := hp _ List.mem_cons_self
    obtain ⟨m, rfl⟩ : ∃ m, n = m + 1 := ⟨n - 1, by omega⟩
    have hnw : w ∉ acc.map fun r => r.2.2 := fun z => by
      rw [List.map_append] at hn
      exact (List.nodup_append.mp hn).2.2 w z w List.mem_cons_self rfl
    have he : addU acc (i, w) = acc ++ [(i, 1, w)] := addU_else acc (i, w) (by
      have : sameW acc (i, w) = false := by
        unfold sameW
        cases hl : acc.getLast? with
        | none => rfl
        | some r =>
          refine decide_eq_false fun e => hnw ?_
          rw [← show r.2.2 = w from e]
          exact List.mem_map_of_mem (List.mem_of_getLast? hl)
      rw [this, Bool.and_false])
    rw [expand_cons, List.foldl_append]
    show (expand t).foldl addU ((List.replicate m ((i, w) : Un)).foldl addU (addU acc (i, w))) = _
    rw [he, add_more, add_rows t _ (fun r hr => hp r (List.mem_cons_of_mem _ hr)) (by
      rw [show acc ++ [(i, 1 + m, w)] ++ t = acc ++ ((i, 1 + m, w) :: t) by simp]
      rw [List.map_append] at hn ⊢
      exact hn)]
    rw [show 1 + m = m + 1 by omega]
    simp
theorem eP_expand {wh : List Nat} {rs : List Row} (h : Good wh rs) : eP (expand rs) = rs := by
  have := add_rows rs [] (fun r hr => (h.1 r hr).1) (by simpa using h.2)
  simpa [eP] using this
/-- all rows that a work earns -/
def rAll (ps : List Sch) (ws : List StepT) : List Row := match ps with
  | [] => []
  | s :: _ => rP ps ws 30 s 0 false []
theorem eP_all {ps : List Sch} {ws : List StepT} (h : PaperOk ps) : eP (uAll ps ws) = rAll ps ws := by
  obtain ⟨ce, hp, _, _⟩ := h.facts
  cases ps with
  | nil => rfl
  | cons s r =>
    show eP (uP (s :: r) ws 30 s 0 false []) = rP (s :: r) ws 30 s 0 false []
    rw [uP_expand]
    exact eP_expand (rP_good (fun j s e => (hp j s e).1) 30 0 5 s 0 false [] (hp 0 s rfl).1)
theorem uAll_len {ps : List Sch} {ws : List StepT} : (uAll ps ws).length = pts (rAll ps ws) := by
  cases ps with
  | nil => rfl
  | cons s r =>
    show (uP (s :: r) ws 30 s 0 false []).length = pts (rP (s :: r) ws 30 s 0 false [])
    rw [uP_expand, expand_len]
end MS
end
section
set_option maxRecDepth 100000
set_option maxHeartbeats 4000000
namespace MS
open PySem L2
/-! ### the view: what a scheme looks at -/
def waysV (c : Bool) : List V := if c then [.str "r", .str "c"] else [.str "r"]
theorem ways_in {c : Bool} {m : Str} (h : IsM m) : inV (.str m) (waysV c) = (m == "r" || (c && m == "c")) := by
  have h' : m ∈ marksL := h
  have q : ∀ c : Bool, ∀ y ∈ marksL, inV (.str y) (waysV c) = (y == "r" || (c && y == "c")) := by decide +kernel
  exact q c m h'
theorem ways_flat (c : Bool) : (waysV c).all flatV = true := by cases c <;> rfl
theorem n_sw : ¬ (("steps" : Str) = "ways") := by decide +kernel
theorem n_ss : ¬ (("steps" : Str) = "start") := by decide +kernel
theorem n_tw : ¬ (("start" : Str) = "ways") := by decide +kernel
def vf (wa : Addr) (st : Nat) (wp : Addr) : List (Str × V) := putF "ways" (.ref wp) (putF "start" (.int ((st : Nat) : Int)) (putF "steps" (.ref wa) []))
theorem vf_steps (wa : Addr) (st : Nat) (wp : Addr) : (vf wa st wp).lookup ("steps" : Str) = some (.ref wa) := by
  unfold vf
  rw [lookup_putF, if_neg n_sw, lookup_putF, if_neg n_ss, lookup_putF, if_pos rfl]
theorem vf_start (wa : Addr) (st : Nat) (wp : Addr) : (vf wa st wp).lookup ("start" : Str) = some (.int ((st : Nat) : Int)) := by
  unfold vf
  rw [lookup_putF, if_neg n_tw, lookup_putF, if_pos rfl]
theorem vf_ways (wa : Addr) (st : Nat) (wp : Addr) : (vf wa st wp).lookup ("ways" : Str) = some (.ref wp) := by
  unfold vf
  rw [lookup_putF, if_pos rfl]
theorem vf_no (wa : Addr) (st : Nat) (wp : Addr) {m : Str} (h1 : ¬ m = "ways") (h2 : ¬ m = "start") (h3 : ¬ m = "steps") : (vf wa st wp).lookup m = none := by
  unfold vf
  rw [lookup_putF, if_neg h1, lookup_putF, if_neg h2, lookup_putF, if_neg h3]
  all_goals rfl
theorem vf_counts (wa : Addr) (st : Nat) (wp : Addr) : (vf wa st wp).lookup ("counts" : Str) = none := vf_no wa st wp (by decide +kernel) (by decide +kernel) (by decide +kernel)
theorem vf_first (wa : Addr) (st : Nat) (wp : Addr) : (vf wa st wp).lookup ("first" : Str) = none := vf_no wa st wp (by decide +kernel) (by decide +kernel) (by decide +kernel)
theorem vf_last (wa : Addr) (st : Nat) (wp : Addr) : (vf wa st wp).lookup ("last" : Str) = none := vf_no wa st wp (by decide +kernel) (by decide +kernel) (by decide +kernel)
theorem vf_stands (wa : Addr) (st : Nat) (wp : Addr) : (vf wa st wp).lookup ("stands" : Str) = none := vf_no wa st wp (by decide +kernel) (by decide +kernel) (by decide +kernel)
theorem vf_behind (wa : Addr) (st : Nat) (wp : Addr) : (vf wa st wp).lookup ("behind" : Str) = none := vf_no wa st wp (by decide +kernel) (by decide +kernel) (by decide +kernel)
theorem vf_carrying (wa : Addr) (st : Nat) (wp : Addr) : (vf wa st wp).lookup ("carrying" : Str) = none := vf_no wa st wp (by decide +kernel) (by decide +kernel) (by decide +kernel)
/-- a view stands in the heap -/
def ViewAt (C : Addr) (H : Hp) (v : Addr) (ws : List StepT) (st : Nat) (c : Bool) : Prop := ∃ dx wa wp, H v = some (.ins C dx (vf wa st wp)) ∧ H wa = some (.lst (stepsV ws)) ∧ H wp = some (.tup (waysV c))
theorem ViewAt.keep {C : Addr} {H H' : Hp} {v : Addr} {ws : List StepT} {st : Nat} {c : Bool} (h : ViewAt C H v ws st c) (k : Same H H') : ViewAt C H' v ws st c := by
  obtain ⟨dx, wa, wp, h1, h2, h3⟩ := h
  exact ⟨dx, wa, wp, k _ _ h1, k _ _ h2, k _ _ h3⟩
/-- a method of the text -/
structure DefM (K : PySem.W.Frag) (C : Addr) (m q : Str) (st : Stmt) (ps : List Str) where
  f : Addr
  fd : FuncData
  F : FunD K m q (defArgs st) (defBody st) (defScope st) [] [] f fd
  me : Meth K C m f
  b : Binds K fd ps []
theorem DefM.ok {P : Program} {w : World} {K : PySem.W.Frag} {mg : Str → Option Value} {base : Heap} {C : Addr} {m x : Str} {st : Stmt} {ps N : List Str} {k : Nat} {sp : Sp} (D : DefM K C m x st ps) (S : FnScope N ps (defScope st)) (len : ∀ vs H Q E, sp vs H Q E → vs.length = ps.length)
    (hbody : ∀ (cdv : Value) (A : Around) (outer : List Env) (s : Shared) (H : Hp) (vs : List V) (Q : VK) (E : XK), Room k (A.deeper (PyProof.Rows.envOfC x (defScope st) s.heap.objs.size D.f cdv)) → sp vs H Q E →
      ∃ t, PSs (cxOf CX0 P w K mg base N x (defScope st) D.f cdv A outer s H E).nox (defBody st) t ∧ t { nx := fun _ H' => Q .non H', rt := Q } (start N vs) H) : FnOk P w K mg base CX0 (k + 1) D.f D.fd ps sp :=
  D.F.ok S len fun cdv A outer s H vs Q E hr hsp => by
    obtain ⟨t, h, q⟩ := hbody cdv A outer s H vs Q E hr hsp
    exact ⟨t, h.nox, q⟩
/-- what the text says of the class -/
structure VCls (K : PySem.W.Frag) (mg : Str → Option Value) (C : Addr) where
  cl : Cls K C
  nSteps : NoAttr K C "steps"
  nStart : NoAttr K C "start"
  nWays : NoAttr K C "ways"
  mgC : mg "View" = some (.ref C)
  makes : PySem.W.makesIn K C = true
  kp : PySem.W.keepIn K (.ref C) = true
  DI : DefM K C "__init__" "View.__init__" s_View_init ["self", "steps", "start", "ways"]
  DC : DefM K C "counts" "View.counts" s_View_counts ["self", "place", "word"]
  DF : DefM K C "first" "View.first" s_View_first ["self", "word"]
  DL : DefM K C "last" "View.last" s_View_last ["self", "word"]
  DS : DefM K C "stands" "View.stands" s_View_stands ["self", "word"]
  DB : DefM K C "behind" "View.behind" s_View_behind ["self", "place"]
  DY : DefM K C "carrying" "View.carrying" s_View_carrying ["self"]
theorem VCls.mk' {K : PySem.W.Frag} {mg : Str → Option Value} {C : Addr} (V : VCls K mg C) : Mk K C V.DI.f := ⟨V.makes, V.DI.me.at_, V.DI.me.fn, V.kp⟩
def spVInit (C : Addr) : Sp := fun vs H Q _ => ∃ (p dx wa wp : Addr) (st : Nat), vs = [.ref p, .ref wa, .int ((st : Nat) : Int), .ref wp] ∧ H p = some (.ins C dx []) ∧ ∀ H' : Hp, H' p = some (.ins C dx (vf wa st wp)) → (∀ b, b ≠ p → H' b = H b) → Q .non H'
def spCounts (C : Addr) : Sp := fun vs H Q _ => ∃ (v : Addr) (i : Nat) (x : Str) (ws : List StepT) (st : Nat) (c : Bool) (p : StepT), vs = [.ref v, .int ((i : Nat) : Int), .str x] ∧ ViewAt C H v ws st c ∧ ws[i]? = some p ∧ IsStep p ∧ Q (.bl (okAt c x p)) H
def natO (o : Option Nat) : V := match o with
  | some i => V.int ((i : Nat) : Int)
  | none => V.non
def spVFirst (C : Addr) : Sp := fun vs H Q _ => ∃ (v : Addr) (x : Str) (ws : List StepT) (st : Nat) (c : Bool), vs = [.ref v, .str x] ∧ ViewAt C H v ws st c ∧ (∀ p ∈ ws, IsStep p) ∧ ws.length ≤ 1000 ∧ st ≤ 1000 ∧ Q (natO (hits ws c x st).head?) H
def spVLast (C : Addr) : Sp := fun vs H Q _ => ∃ (v : Addr) (x : Str) (ws : List StepT) (st : Nat) (c : Bool), vs = [.ref v, .str x] ∧ ViewAt C H v ws st c ∧ (∀ p ∈ ws, IsStep p) ∧ ws.length ≤ 1000 ∧ Q (natO (if lastOk ws c x st = true then some (ws.length - 1) else none)) H
def spStands (C : Addr) : Sp := fun vs H Q _ => ∃ (v : Addr) (x : Str) (ws : List StepT) (st : Nat) (c : Bool), vs = [.ref v, .str x] ∧ ViewAt C H v ws st c ∧ (∀ p ∈ ws, IsStep p) ∧ ws.length ≤ 900 ∧ ∀ H', Same H H' → Q (.bl (ws.any fun p => p.1 == x)) H'
def spVBehind (C : Addr) : Sp := fun vs H Q _ => ∃ (v : Addr) (i : Nat) (ws : List StepT) (st : Nat) (c : Bool), vs = [.ref v, .int ((i : Nat) : Int)] ∧ ViewAt C H v ws st c ∧ ∀ (u : Addr) (H' : Hp), Same H H' → ViewAt C H' u ws (i + 1) c → Q (.ref u) H'
def spCarrying (C : Addr) : Sp := fun vs H Q _ => ∃ (v : Addr) (ws : List StepT) (st : Nat) (c : Bool), vs = [.ref v] ∧ ViewAt C H v ws st c ∧ ∀ (u : Addr) (H' : Hp), Same H H' → ViewAt C H' u ws st true → Q (.ref u) H'
theorem hits_cons {ws : List StepT} {c : Bool} {x : Str} {i : Nat} {p : StepT} (h : ws[i]? = some p) : hits ws c x i = if okAt c x p = true then i :: hits ws c x (i + 1) else hits ws c x (i + 1) := by
  have hi := (List.getElem?_eq_some_iff.mp h).1
  unfold hits
  rw [show ws.length - i = (ws.length - (i + 1)) + 1 by omega, List.range'_succ, List.filter_cons]
  simp only [h]
theorem hits_end {ws : List StepT} {c : Bool} {x : Str} {i : Nat} (h : ws.length ≤ i) : hits ws c x i = [] := by
  unfold hits
  rw [show ws.length - i = 0 by omega]
  rfl
section
variable {P : Program} {w : World} {K : PySem.W.Frag} {mg : Str → Option Value} {base : Heap} {C : Addr}
theorem ok_vinit (Y : VCls K mg C) : FnOk P w K mg base CX0 1 Y.DI.f Y.DI.fd ["self", "steps", "start", "ways"] (spVInit C) := by
  refine Y.DI.ok sc_View_init (fun vs H Q E h => ?_) (fun cdv A outer s H vs Q E hr h => ?_)
  · obtain ⟨p, dx, wa, wp, st, rfl, _⟩ := h
    rfl
  obtain ⟨p, dx, wa, wp, st, rfl, hp, q⟩ := h
  refine ⟨_, pss_cons (ps_fld (pv 0) (pv 1) rfl) (pss_cons (ps_fld (pv 0) (pv 2) rfl) (pss_one (ps_fld (pv 0) (pv 3) rfl))), ?_⟩
  refine ⟨_, rfl, _, rfl, p, C, dx, _, rfl, hp, Y.cl, Y.nSteps, (by show 0 < 1000; decide), ?_⟩
  refine ⟨_, rfl, _, rfl, p, C, dx, _, rfl, upd_same, Y.cl, Y.nStart, (by show 1 < 1000; decide), ?_⟩
  refine ⟨_, rfl, _, rfl, p, C, dx, _, rfl, upd_same, Y.cl, Y.nWays, Nat.lt_of_le_of_lt (length_putF _ _ _) (by show 1 + 1 < 1000; decide), ?_⟩
  exact q _ upd_same fun b hb => by rw [upd_ne hb, upd_ne hb, upd_ne hb]
theorem ok_counts (Y : VCls K mg C) : FnOk P w K mg base CX0 1 Y.DC.f Y.DC.fd ["self", "place", "word"] (spCounts C) := by
  have nd := sc_View_counts.nd
  refine Y.DC.ok sc_View_counts (fun vs H Q E h => ?_) (fun cdv A outer s H vs Q E hr h => ?_)
  · obtain ⟨v, i, x, ws, st, c, p, rfl, _⟩ := h
    rfl
  obtain ⟨v, i, x, ws, st, c, p, rfl, ⟨dx, wa, wp, hv, ewa, ewp⟩, hi, hp, q⟩ := h
  refine ⟨_, pss_cons (ps_set (i := 3) nd rfl (Or.inl rfl) (pe_ix ix_list (pe_fld (pv 0) rfl) (pv 1) (fun _ _ => rfl)))
    (pss_one (ps_ret (pe_and (pe_cmpR op_eq (pe_ix ix_str (pv 3) pe_int (fun _ _ => rfl)) (pv 2) (nomark _)) (pe_one (pe_cmpR op_in_seq (pe_ix ix_str (pv 3) pe_int (fun _ _ => rfl)) (pe_fld (pv 0) rfl) (by rfl)))))), ?_⟩
  obtain ⟨c0, e0, x0⟩ := hp.at0
  obtain ⟨c1, e1, x1⟩ := hp.at1
  have eit : (stepsV ws)[i]? = some (V.str (stepS p)) := by
    unfold stepsV
    rw [List.getElem?_map, hi]
    rfl
  refine ⟨_, rfl, v, C, dx, _, _, rfl, hv, Y.cl, Y.nSteps, vf_steps _ _ _, _, rfl, wa, _, _, _, rfl, rfl, SqL.of ewa, atI_nat eit, ?_⟩
  dsimp only [gName]
  refine ⟨_, rfl, _, 0, c0, rfl, rfl, str_len2 hp.len, e0, ?_⟩
  rw [x0]
  refine ⟨_, rfl, rfl, _, rfl, ?_⟩
  rw [dec_str]
  unfold okAt at q
  cases e : p.1 == x with
  | false =>
    rw [e, Bool.false_and] at q
    exact iteF q
  | true =>
    rw [e, Bool.true_and] at q
    refine iteT ⟨_, rfl, _, 1, c1, rfl, rfl, str_len2 hp.len, e1, ?_⟩
    rw [x1]
    refine ⟨_, rfl, v, C, dx, _, _, rfl, hv, Y.cl, Y.nWays, vf_ways _ _ _, wp, _, rfl, .inr (SqT.of ewp), rfl, ways_flat c, ?_⟩
    show Q (.bl (inV (.str p.2) (waysV c))) H
    rw [ways_in hp.2]
    exact q
theorem ok_vfirst (T : PTx w K mg) (Y : VCls K mg C) : FnOk P w K mg base CX0 2 Y.DF.f Y.DF.fd ["self", "word"] (spVFirst C) := by
  have GC : FnOk P w K mg base CX0 1 Y.DC.f Y.DC.fd ["self", "place", "word"] (spCounts C) := ok_counts Y
  have nd := sc_View_first.nd
  refine Y.DF.ok sc_View_first (fun vs H Q E h => ?_) (fun cdv A outer s H vs Q E hr h => ?_)
  · obtain ⟨v, x, ws, st, c, rfl, _⟩ := h
    rfl
  obtain ⟨v, x, ws, st, c, rfl, hva, hw, hl, hst, q⟩ := h
  obtain ⟨dx, wa, wp, hv, ewa, ewp⟩ := id hva
  refine ⟨_, pss_cons (ps_for PassesOwn.never rfl (pi_range2 rfl (T.free "range" (by decide +kernel)) (pa_cons (pe_fld (pv 0) rfl) (pa_cons (pe_callB call_len_seq rfl (T.free "len" (by decide +kernel)) PySem.boot_len (pa_cons (pe_fld (pv 0) rfl) pa_nil)) pa_nil))) (pg_name (i := 2) nd rfl (Or.inl rfl))
      (pss_one (ps_if (pt_val (pe_meth (pv 0) Y.cl Y.DC.me GC hr Y.DC.b .nil pass0 (pa_cons (pv 2) (pa_cons (pv 1) pa_nil)))) (pss_one (ps_ret (pv 2))) pss_nil)))
    (pss_one (ps_ret pe_non)), ?_⟩
  have lws : (stepsV ws).length = ws.length := List.length_map _
  have en : (((stepsV ws).length : Int) - ((st : Nat) : Int)).toNat = ws.length - st := by rw [lws]; omega
  refine ⟨_, rfl, v, C, dx, _, _, rfl, hv, Y.cl, Y.nStart, vf_start _ _ _, _, rfl, v, C, dx, _, _, rfl, hv, Y.cl, Y.nSteps, vf_steps _ _ _, wa, _, rfl, .inl (SqL.of ewa), _, _, rfl, ⟨by omega, by omega, by omega, by omega⟩, ?_⟩
  refine for_range (lo := ((st : Nat) : Int)) (n := (((stepsV ws).length : Int) - ((st : Nat) : Int)).toNat) (fun i σ H' => ∃ v2 : Option V, σ = [some (.ref v), some (.str x), v2] ∧ H' = H ∧ hits ws c x st = hits ws c x (st + i)) ⟨none, rfl, rfl, rfl⟩ ?_ ?_
  · rintro i σ H' hi ⟨v2, rfl, rfl, eh⟩
    rw [en] at hi
    have hil : st + i < ws.length := by omega
    have ei : ws[st + i]? = some (ws[st + i]'hil) := List.getElem?_eq_getElem hil
    rw [hits_cons ei] at eh
    have ez : ((st : Nat) : Int) + ((i : Nat) : Int) = ((st + i : Nat) : Int) := by omega
    dsimp only [gName]
    rw [ez]
    refine ⟨_, rfl, v, dx, _, rfl, hv, vf_counts _ _ _, _, rfl, _, rfl, v, st + i, x, ws, st, c, _, rfl, hva, ei, hw _ (List.getElem_mem hil), _, rfl, ?_⟩
    cases e : okAt c x (ws[st + i]'hil) with
    | true =>
      rw [if_pos e] at eh
      rw [eh] at q
      exact iteT ⟨_, rfl, q⟩
    | false =>
      rw [if_neg (by rw [e]; decide)] at eh
      exact iteF ⟨_, rfl, rfl, eh⟩
  · rintro σ H' ⟨v2, rfl, rfl, eh⟩
    rw [en] at eh
    rw [eh, hits_end (show ws.length ≤ st + (ws.length - st) by omega)] at q
    exact q
theorem ok_vlast (T : PTx w K mg) (Y : VCls K mg C) : FnOk P w K mg base CX0 2 Y.DL.f Y.DL.fd ["self", "word"] (spVLast C) := by
  have GC : FnOk P w K mg base CX0 1 Y.DC.f Y.DC.fd ["self", "place", "word"] (spCounts C) := ok_counts Y
  have nd := sc_View_last.nd
  refine Y.DL.ok sc_View_last (fun vs H Q E h => ?_) (fun cdv A outer s H vs Q E hr h => ?_)
  · obtain ⟨v, x, ws, st, c, rfl, _⟩ := h
    rfl
  obtain ⟨v, x, ws, st, c, rfl, hva, hw, hl, q⟩ := h
  obtain ⟨dx, wa, wp, hv, ewa, ewp⟩ := id hva
  refine ⟨_, pss_cons (ps_set (i := 2) nd rfl (Or.inl rfl) (pe_op op_sub (pe_callB call_len_seq rfl (T.free "len" (by decide +kernel)) PySem.boot_len (pa_cons (pe_fld (pv 0) rfl) pa_nil)) pe_int))
    (pss_one (ps_ret (pe_ifExp (PW.pt (pw_and (pt_cmpR op_ge (pv 2) (pe_fld (pv 0) rfl) (nomark _)) (pw_and1 (pt_val (pe_meth (pv 0) Y.cl Y.DC.me GC hr Y.DC.b .nil pass0 (pa_cons (pv 2) (pa_cons (pv 1) pa_nil))))))) (pv 2) pe_non))), ?_⟩
  have lws : (stepsV ws).length = ws.length := List.length_map _
  refine ⟨_, rfl, v, C, dx, _, _, rfl, hv, Y.cl, Y.nSteps, vf_steps _ _ _, wa, _, rfl, .inl (SqL.of ewa), _, _, rfl, rfl, ?_⟩
  dsimp only [gName]
  refine ⟨_, rfl, _, rfl, v, C, dx, _, _, rfl, hv, Y.cl, Y.nStart, vf_start _ _ _, _, _, rfl, rfl, _, rfl, ?_⟩
  rw [lws]
  by_cases hlt : st < ws.length
  · rw [decide_eq_true (show ((st : Nat) : Int) ≤ ((ws.length : Nat) : Int) - 1 by omega)]
    have hil : ws.length - 1 < ws.length := by omega
    have ei : ws[ws.length - 1]? = some (ws[ws.length - 1]'hil) := List.getElem?_eq_getElem hil
    have ez : ((ws.length : Nat) : Int) - 1 = ((ws.length - 1 : Nat) : Int) := by omega
    rw [ez]
    have elo : lastOk ws c x st = okAt c x (ws[ws.length - 1]'hil) := by
      unfold lastOk
      rw [decide_eq_true hlt, Bool.true_and, last_get (by omega)]
    rw [elo] at q
    refine iteT ⟨_, rfl, v, dx, _, rfl, hv, vf_counts _ _ _, _, rfl, _, rfl, v, ws.length - 1, x, ws, st, c, _, rfl, hva, ei, hw _ (List.getElem_mem hil), _, rfl, ?_⟩
    cases e : okAt c x (ws[ws.length - 1]'hil) with
    | true =>
      rw [if_pos e] at q
      exact iteT ⟨_, rfl, q⟩
    | false =>
      rw [if_neg (by rw [e]; decide)] at q
      exact iteF q
  · rw [decide_eq_false (show ¬ ((st : Nat) : Int) ≤ ((ws.length : Nat) : Int) - 1 by omega)]
    have elo : lastOk ws c x st = false := by
      unfold lastOk
      rw [decide_eq_false hlt, Bool.false_and]
    rw [elo] at q
    exact iteF (iteF q)
theorem ok_stands (T : PTx w K mg) (Y : VCls K mg C) : FnOk P w K mg base CX0 1 Y.DS.f Y.DS.fd ["self", "word"] (spStands C) := by
  have nd := sc_View_stands.nd
  refine Y.DS.ok sc_View_stands (fun vs H Q E h => ?_) (fun cdv A outer s H vs Q E hr h => ?_)
  · obtain ⟨v, x, ws, st, c, rfl, _⟩ := h
    rfl
  obtain ⟨v, x, ws, st, c, rfl, hva, hw, hl, q⟩ := h
  obtain ⟨dx, wa, wp, hv, ewa, ewp⟩ := id hva
  refine ⟨_, pss_one (ps_ret (pe_callB (cr_any rfl) rfl (T.free "any" (by decide +kernel)) (by decide +kernel) (pa_cons
      (pe_lc (own := [("step", 2)]) (g := gName 2) (tt := tYes) rfl nd (pi_list (pe_fld (pv 0) rfl)) (blkOk_by (N := ["self", "word", "step"]) (sc := defScope s_View_stands) (by decide +kernel)) (fun _ _ _ _ _ => pg_name (i := 2) nd rfl (Or.inl rfl)) (fun _ _ _ _ _ => pts_nil)
            (fun _ _ _ _ _ => pe_cmpR op_eq (pe_ix ix_str (pv 2) pe_int (fun _ _ => rfl)) (pv 1) (nomark _))) pa_nil))), ?_⟩
  have lws : (stepsV ws).length = ws.length := List.length_map _
  refine ⟨_, rfl, v, C, dx, _, _, rfl, hv, Y.cl, Y.nSteps, vf_steps _ _ _, wa, rfl, ⟨_, SqL.of ewa⟩, fun D hD => ?_⟩
  have nwD : wa ≠ D := ne_of_none ewa hD
  refine lc_list (K := K) (a := wa) (xs := stepsV ws) (fun j H'' => H'' = upd H D (.lst ((ws.take j).map fun p : StepT => V.bl (p.1 == x)))) rfl (fun j H'' _ e => by rw [e]; exact SqL.of (by rw [upd_ne nwD]; exact ewa)) ?_ ?_
  · rintro j y H'' hj rfl
    have hjl : j < ws.length := by
      have z := (List.getElem?_eq_some_iff.mp hj).1
      rw [lws] at z
      exact z
    have ey : y = V.str (stepS (ws[j]'hjl)) := by
      have z := get_map (fun p => V.str (stepS p)) ws hjl
      exact Option.some.inj (hj.symm.trans z)
    subst ey
    have hs := hw _ (List.getElem_mem hjl)
    obtain ⟨c0, ec, em⟩ := hs.at0
    refine ⟨rfl, _, rfl, _, 0, c0, rfl, rfl, by rw [hs.len]; decide, ec, ?_⟩
    rw [em]
    refine ⟨_, rfl, rfl, _, upd_same, ?_, ?_⟩
    · rw [List.length_map, List.length_take]
      exact small1000 (by omega)
    · rw [upd_upd, List.take_succ_eq_append_getElem hjl, List.map_append, dec_str]
      rfl
  · rintro H'' rfl
    rw [lws, List.take_length]
    refine ⟨D, ws.map fun p : StepT => p.1 == x, rfl, SqL.of (by rw [upd_same, List.map_map]; rfl), ?_⟩
    rw [show (ws.map fun p : StepT => p.1 == x).any id = ws.any fun p => p.1 == x by rw [List.any_map]; rfl]
    exact q _ (Same.new hD)
/-- a view is made -/
theorem view_made {C wa wp x dx : Addr} {H H1 : Hp} {ws : List StepT} {st : Nat} {c : Bool} {Q : VK} (ewa : H wa = some (.lst (stepsV ws))) (ewp : H wp = some (.tup (waysV c))) (hx : H x = none) (hdx : H dx = none) (ne : dx ≠ x) (e1 : H1 = upd (upd H dx (.own x)) x (.ins C dx []))
    (q : ∀ (u : Addr) (H' : Hp), Same H H' → ViewAt C H' u ws st c → Q (.ref u) H') : spVInit C [.ref x, .ref wa, .int ((st : Nat) : Int), .ref wp] H1 (fun v H2 => v = .non ∧ Q (.ref x) H2) E0 := by
  subst e1
  refine ⟨x, dx, wa, wp, st, rfl, upd_same, fun H' h1 h2 => ⟨rfl, ?_⟩⟩
  have sm : Same H H' := fun b o e => by
    have nb : b ≠ x := ne_of_none e hx
    have nd : b ≠ dx := ne_of_none e hdx
    rw [h2 b nb, upd_ne nb, upd_ne nd]
    exact e
  exact q x H' sm ⟨dx, wa, wp, h1, sm _ _ ewa, sm _ _ ewp⟩
theorem ok_vbehind (T : PTx w K mg) (Y : VCls K mg C) : FnOk P w K mg base CX0 3 Y.DB.f Y.DB.fd ["self", "place"] (spVBehind C) := by
  have GI : FnOk P w K mg base CX0 1 Y.DI.f Y.DI.fd ["self", "steps", "start", "ways"] (spVInit C) := ok_vinit Y
  refine Y.DB.ok sc_View_behind (fun vs H Q E h => ?_) (fun cdv A outer s H vs Q E hr h => ?_)
  · obtain ⟨v, i, ws, st, c, rfl, _⟩ := h
    rfl
  obtain ⟨v, i, ws, st, c, rfl, hva, q⟩ := h
  obtain ⟨dx, wa, wp, hv, ewa, ewp⟩ := id hva
  refine ⟨_, pss_one (ps_ret (pe_make Y.mk' GI hr rfl Y.mgC Y.DI.b .nil pass0 (pa_cons (pe_fld (pv 0) rfl) (pa_cons (pe_op op_add (pv 1) pe_int) (pa_cons (pe_fld (pv 0) rfl) pa_nil))))), ?_⟩
  refine ⟨_, rfl, v, C, dx, _, _, rfl, hv, Y.cl, Y.nSteps, vf_steps _ _ _, _, rfl, _, _, rfl, rfl, _, rfl, v, C, dx, _, _, rfl, hv, Y.cl, Y.nWays, vf_ways _ _ _, fun x dx' hx hdx ne => ?_⟩
  exact view_made (st := i + 1) ewa ewp hx hdx ne rfl q
theorem ok_carrying (T : PTx w K mg) (Y : VCls K mg C) : FnOk P w K mg base CX0 3 Y.DY.f Y.DY.fd ["self"] (spCarrying C) := by
  have GI : FnOk P w K mg base CX0 1 Y.DI.f Y.DI.fd ["self", "steps", "start", "ways"] (spVInit C) := ok_vinit Y
  obtain ⟨tr, gr⟩ := T.right
  obtain ⟨tc, gc⟩ := T.carried
  refine Y.DY.ok sc_View_carrying (fun vs H Q E h => ?_) (fun cdv A outer s H vs Q E hr h => ?_)
  · obtain ⟨v, ws, st, c, rfl, _⟩ := h
    rfl
  obtain ⟨v, ws, st, c, rfl, hva, q⟩ := h
  obtain ⟨dx, wa, wp, hv, ewa, ewp⟩ := id hva
  refine ⟨_, pss_one (ps_ret (pe_make Y.mk' GI hr rfl Y.mgC Y.DI.b .nil pass0 (pa_cons (pe_fld (pv 0) rfl) (pa_cons (pe_fld (pv 0) rfl) (pa_cons (pe_tup (pa_cons (pe_glob rfl gr (v := .str "r") ⟨_, rfl⟩) (pa_cons (pe_glob rfl gc (v := .str "c") ⟨_, rfl⟩) pa_nil))) pa_nil))))), ?_⟩
  refine ⟨_, rfl, v, C, dx, _, _, rfl, hv, Y.cl, Y.nSteps, vf_steps _ _ _, _, rfl, v, C, dx, _, _, rfl, hv, Y.cl, Y.nStart, vf_start _ _ _, sz2, fun t ht => ?_⟩
  intro x dx' hx hdx ne
  have s1 : Same H (upd H t (.tup [.str "r", .str "c"])) := Same.new ht
  exact view_made (st := st) (c := true) (s1 _ _ ewa) upd_same hx hdx ne rfl fun u H' sm hu => q u H' (s1.trans sm) hu
end
end MS
end
section
set_option maxRecDepth 100000
set_option maxHeartbeats 4000000
namespace MS
open PySem L2
/-- the word that a scheme names itself -/
def wordOf : Sch → Str
  | .step x _ => x
  | .seen x _ => x
  | .behind x _ => x
  | .fin x _ _ => x
  | _ => ""
/-- the schemes within -/
def kidsOf : Sch → List Sch
  | .step _ _ => []
  | .all k => k
  | .best k => k
  | .most _ s => [s]
  | .half s => [s]
  | .seen _ s => [s]
  | .behind _ s => [s]
  | .carry s => [s]
  | .fin _ _ s => [s]
  | .use _ => []
structure Shp (H : Hp) (i M d : Nat) (sc : Sch) (nm : Str) (rest : List V) (kinds : List Str) (kv : List V) : Prop where
  mem : (nm, kinds) ∈ shapesL
  fit : Paired (FitsR H i M) rest kinds
  ok : ∀ s ∈ kidsOf sc, OkS i M d s
  at_ : Paired (SAt H d) (kidsOf sc) kv
  w1 : ∃ k0 kr, kinds = k0 :: kr ∧ ((k0 = "word" ∧ atI (.str nm :: rest) 1 = some (.str (wordOf sc))) ∨ (k0 ≠ "word" ∧ wordOf sc = ""))
  k1 : ∃ kl, atI (kinds.map V.str) (-1) = some (.str kl) ∧ ((kl = "schemes" ∧ ∃ b, atI (.str nm :: rest) (-1) = some (.ref b) ∧ H b = some (.tup kv)) ∨ (kl = "scheme" ∧ ∃ u, atI (.str nm :: rest) (-1) = some u ∧ kv = [u]) ∨ (kl ≠ "schemes" ∧ kl ≠ "scheme" ∧ kv = []))
theorem SAt.shape {H : Hp} {i M d : Nat} {sc : Sch} {a : Addr} {nm : Str} {rest : List V} (h : SAt H (d + 1) sc (.ref a)) (o : OkS i M (d + 1) sc) (ea : H a = some (.tup (.str nm :: rest))) : ∃ kinds kv, Shp H i M d sc nm rest kinds kv := by
  have inj : ∀ {a' : Addr} {nm' : Str} {rest' : List V}, (V.ref a = V.ref a') → H a' = some (.tup (.str nm' :: rest')) → nm' = nm ∧ rest' = rest := fun e h => by
    cases e
    rw [ea] at h
    cases h
    exact ⟨rfl, rfl⟩
  have fw : ∀ {x : Str}, IsW x → FitsR H i M (.str x) "word" := fun hx => .inl ⟨rfl, _, rfl, hx⟩
  have fp : ∀ {p : Int}, 1 ≤ p → p ≤ 9 → FitsR H i M (.int p) "points" := fun h1 h2 => .inr (.inl ⟨rfl, _, rfl, h1, h2⟩)
  have fs : ∀ {u : V}, FitsR H i M u "scheme" := .inr (.inr (.inr (.inr (.inl rfl))))
  have one : ∀ {s : Sch}, OkS i M d s → ∀ s' ∈ [s], OkS i M d s' := fun o s' h' => by rw [List.mem_singleton.mp h']; exact o
  cases sc with
  | step x p =>
    obtain ⟨a', e, h⟩ := h
    obtain ⟨rfl, rfl⟩ := inj e h
    exact ⟨["word", "points"], [], by decide +kernel, .cons (fw o.1) (.cons (fp o.2.1 o.2.2) .nil), (fun _ h => nomatch h), .nil, ⟨_, _, rfl, .inl ⟨rfl, at1⟩⟩, ⟨"points", rfl, .inr (.inr ⟨by decide +kernel, by decide +kernel, rfl⟩)⟩⟩
  | all k =>
    obtain ⟨a', b, vs, e, h, eb, hk⟩ := h
    obtain ⟨rfl, rfl⟩ := inj e h
    have := Paired.length hk
    have h1 := o.1
    have h2 := o.2.1
    exact ⟨["schemes"], vs, by decide +kernel, .cons (.inr (.inr (.inr (.inl ⟨rfl, b, vs, rfl, eb, by omega, by omega⟩)))) .nil, o.2.2, hk, ⟨_, _, rfl, .inr ⟨by decide +kernel, rfl⟩⟩, ⟨"schemes", rfl, .inl ⟨rfl, b, rfl, eb⟩⟩⟩
  | best k =>
    obtain ⟨a', b, vs, e, h, eb, hk⟩ := h
    obtain ⟨rfl, rfl⟩ := inj e h
    have := Paired.length hk
    have h1 := o.1
    have h2 := o.2.1
    exact ⟨["schemes"], vs, by decide +kernel, .cons (.inr (.inr (.inr (.inl ⟨rfl, b, vs, rfl, eb, by omega, by omega⟩)))) .nil, o.2.2, hk, ⟨_, _, rfl, .inr ⟨by decide +kernel, rfl⟩⟩, ⟨"schemes", rfl, .inl ⟨rfl, b, rfl, eb⟩⟩⟩
  | most n s =>
    obtain ⟨a', u, e, h, hs⟩ := h
    obtain ⟨rfl, rfl⟩ := inj e h
    exact ⟨["limit", "scheme"], [u], by decide +kernel, .cons (.inr (.inr (.inl ⟨rfl, n, rfl, o.1.1, o.1.2⟩))) (.cons fs .nil), one o.2, .cons hs .nil, ⟨_, _, rfl, .inr ⟨by decide +kernel, rfl⟩⟩, ⟨"scheme", rfl, .inr (.inl ⟨rfl, u, rfl, rfl⟩)⟩⟩
  | half s =>
    obtain ⟨a', u, e, h, hs⟩ := h
    obtain ⟨rfl, rfl⟩ := inj e h
    exact ⟨["scheme"], [u], by decide +kernel, .cons fs .nil, one o, .cons hs .nil, ⟨_, _, rfl, .inr ⟨by decide +kernel, rfl⟩⟩, ⟨"scheme", rfl, .inr (.inl ⟨rfl, u, rfl, rfl⟩)⟩⟩
  | seen x s =>
    obtain ⟨a', u, e, h, hs⟩ := h
    obtain ⟨rfl, rfl⟩ := inj e h
    exact ⟨["word", "scheme"], [u], by decide +kernel, .cons (fw o.1) (.cons fs .nil), one o.2, .cons hs .nil, ⟨_, _, rfl, .inl ⟨rfl, at1⟩⟩, ⟨"scheme", rfl, .inr (.inl ⟨rfl, u, rfl, rfl⟩)⟩⟩
  | behind x s =>
    obtain ⟨a', u, e, h, hs⟩ := h
    obtain ⟨rfl, rfl⟩ := inj e h
    exact ⟨["word", "scheme"], [u], by decide +kernel, .cons (fw o.1) (.cons fs .nil), one o.2, .cons hs .nil, ⟨_, _, rfl, .inl ⟨rfl, at1⟩⟩, ⟨"scheme", rfl, .inr (.inl ⟨rfl, u, rfl, rfl⟩)⟩⟩
  | carry s =>
    obtain ⟨a', u, e, h, hs⟩ := h
    obtain ⟨rfl, rfl⟩ := inj e h
    exact ⟨["scheme"], [u], by decide +kernel, .cons fs .nil, one o, .cons hs .nil, ⟨_, _, rfl, .inr ⟨by decide +kernel, rfl⟩⟩, ⟨"scheme", rfl, .inr (.inl ⟨rfl, u, rfl, rfl⟩)⟩⟩
  | fin x p s =>
    obtain ⟨a', u, e, h, hs⟩ := h
    obtain ⟨rfl, rfl⟩ := inj e h
    exact ⟨["word", "points", "scheme"], [u], by decide +kernel, .cons (fw o.1.1) (.cons (fp o.1.2.1 o.1.2.2) (.cons fs .nil)), one o.2, .cons hs .nil, ⟨_, _, rfl, .inl ⟨rfl, at1⟩⟩, ⟨"scheme", rfl, .inr (.inl ⟨rfl, u, rfl, rfl⟩)⟩⟩
  | use n =>
    obtain ⟨a', e, h⟩ := h
    obtain ⟨rfl, rfl⟩ := inj e h
    exact ⟨["later"], [], by decide +kernel, .cons (.inr (.inr (.inr (.inr (.inr ⟨rfl, n, rfl, o.1, o.2⟩))))) .nil, (fun _ h => nomatch h), .nil, ⟨_, _, rfl, .inr ⟨by decide +kernel, rfl⟩⟩, ⟨"later", rfl, .inr (.inr ⟨by decide +kernel, by decide +kernel, rfl⟩)⟩⟩
def spWordIn : Sp := fun vs H Q _ => ∃ (v : V) (sc : Sch) (i M d : Nat), vs = [v] ∧ SAt H (d + 1) sc v ∧ OkS i M (d + 1) sc ∧ Q (.str (wordOf sc)) H
def spWithin : Sp := fun vs H Q _ => ∃ (v : V) (sc : Sch) (i M d : Nat), vs = [v] ∧ SAt H (d + 1) sc v ∧ OkS i M (d + 1) sc ∧ ∀ (f : Addr) (kv : List V), H f = none → Paired (SAt H d) (kidsOf sc) kv → Q (.ref f) (upd H f (.lst kv))
section
variable {P : Program} {w : World} {K : PySem.W.Frag} {mg : Str → Option Value} {base : Heap}
theorem ok_word_in (T : PTx w K mg) (D : Def K mg "word_in" s_word_in ["scheme"]) : FnOk P w K mg base CX0 1 D.f D.fd ["scheme"] spWordIn := by
  obtain ⟨aS, gS, low, hS⟩ := T.shapes
  refine D.ok sc_word_in (fun vs H Q E h => ?_) (fun cdv A outer s H vs Q E hr h => ?_)
  · obtain ⟨v, sc, i, M, d, rfl, _⟩ := h
    rfl
  obtain ⟨v, sc, i, M, d, rfl, hs, ho, q⟩ := h
  refine ⟨_, pss_one (ps_ret (pe_ifExp (pt_cmpR op_eq (pe_ix ix_tup (pe_ix ix_kdict (pe_glob rfl gS (v := .ref aS) rfl) (pe_ix ix_tup (pv 0) pe_int (fun _ _ => rfl)) (fun _ _ => rfl)) pe_int (fun _ _ => rfl)) pe_str (nomark _)) (pe_ix ix_tup (pv 0) pe_int (fun _ _ => rfl)) pe_str)), ?_⟩
  obtain ⟨a, nm, rest, rfl, ea⟩ := hs.tag
  obtain ⟨kinds, kv, S⟩ := hs.shape ho ea
  obtain ⟨t, kd, qt⟩ := hS _ S.mem
  obtain ⟨k0, kr, rfl, hk⟩ := S.w1
  refine ⟨_, rfl, a, _, 0, .str nm, rfl, rfl, SqT.of ea, at0, aS, nm, .ref t, rfl, rfl, kd, t, _, 0, .str k0, rfl, rfl, qt _, at0, rfl, _, rfl, ?_⟩
  rw [dec_str]
  rcases hk with ⟨e, e1⟩ | ⟨e, e1⟩
  · rw [e, show (("word" : Str) == "word") = true by decide +kernel]
    exact iteT ⟨_, rfl, a, _, 1, _, rfl, rfl, SqT.of ea, e1, q⟩
  · rw [beq_eq_false_iff_ne.mpr e]
    rw [e1] at q
    exact iteF q
theorem ok_within (T : PTx w K mg) (D : Def K mg "within" s_within ["scheme"]) : FnOk P w K mg base CX0 1 D.f D.fd ["scheme"] spWithin := by
  obtain ⟨aS, gS, low, hS⟩ := T.shapes
  have nd := sc_within.nd
  refine D.ok sc_within (fun vs H Q E h => ?_) (fun cdv A outer s H vs Q E hr h => ?_)
  · obtain ⟨v, sc, i, M, d, rfl, _⟩ := h
    rfl
  obtain ⟨v, sc, i, M, d, rfl, hs, ho, q⟩ := h
  refine ⟨_, pss_cons (ps_set (i := 1) nd rfl (Or.inl rfl) (pe_ix ix_tup (pe_ix ix_kdict (pe_glob rfl gS (v := .ref aS) rfl) (pe_ix ix_tup (pv 0) pe_int (fun _ _ => rfl)) (fun _ _ => rfl)) (pe_un un_neg pe_int) (fun _ _ => rfl)))
    (pss_cons (ps_if (pt_cmpR op_eq (pv 1) pe_str (nomark _)) (pss_one (ps_ret (pe_callTy call_list_of rfl (T.free "list" (by decide +kernel)) (by decide +kernel) (pa_cons (pe_ix ix_tup (pv 0) (pe_un un_neg pe_int) (fun _ _ => rfl)) pa_nil)))) pss_nil)
    (pss_one (ps_ret (pe_ifExp (pt_cmpR op_eq (pv 1) pe_str (nomark _)) (pe_lst (pa_cons (pe_ix ix_tup (pv 0) (pe_un un_neg pe_int) (fun _ _ => rfl)) pa_nil)) (pe_lst pa_nil))))), ?_⟩
  obtain ⟨a, nm, rest, rfl, ea⟩ := hs.tag
  obtain ⟨kinds, kv, S⟩ := hs.shape ho ea
  obtain ⟨t, kd, qt⟩ := hS _ S.mem
  obtain ⟨kl, hl, hk⟩ := S.k1
  refine ⟨_, rfl, a, _, 0, .str nm, rfl, rfl, SqT.of ea, at0, aS, nm, .ref t, rfl, rfl, kd, 1, rfl, t, _, -1, .str kl, rfl, rfl, qt _, hl, ?_⟩
  have S_at := S.at_
  rcases hk with ⟨e, b, e1, eb⟩ | ⟨e, u, e1, ek⟩ | ⟨n1, n2, ek⟩
  · refine seq_if (b := true) (is_word rfl (by rw [e]; decide +kernel)) (fun _ => ?_) (fun z => nomatch z)
    exact ⟨_, rfl, 1, rfl, a, _, -1, .ref b, rfl, rfl, SqT.of ea, e1, b, kv, rfl, .inr (SqT.of eb), fun l hl' => q l kv hl' S_at⟩
  · refine seq_if (b := false) (is_word rfl (by rw [e]; decide +kernel)) (fun z => nomatch z) (fun _ => ?_)
    refine is_word (b := true) rfl (by rw [e]; decide +kernel) _ (iteT ?_)
    exact ⟨_, rfl, 1, rfl, a, _, -1, u, rfl, rfl, SqT.of ea, e1, szN (by show 1 ≤ 1000; decide), fun l hl' => q l _ hl' (by rw [← ek]; exact S_at)⟩
  · refine seq_if (b := false) (is_word rfl (beq_eq_false_iff_ne.mpr n1)) (fun z => nomatch z) (fun _ => ?_)
    refine is_word (b := false) rfl (beq_eq_false_iff_ne.mpr n2) _ (iteF ?_)
    exact ⟨Nat.zero_le _, fun l hl' => q l _ hl' (by rw [← ek]; exact S_at)⟩
end
end MS
end
section
set_option maxRecDepth 100000
set_option maxHeartbeats 4000000
namespace MS
open PySem L2
/-! ### rows in the program -/
theorem pts_sum : ∀ rs : List Row, (rs.map fun r => ((r.2.1 : Nat) : Int)).sum = ((pts rs : Nat) : Int)
  | [] => rfl
  | r :: t => by
    rw [List.map_cons, List.sum_cons, pts_sum t, pts_cons]
    omega
def spPoints : Sp := fun vs H Q _ => ∃ (a : Addr) (rs : List Row) (rv : List V), vs = [.ref a] ∧ H a = some (.lst rv) ∧ Paired (RowR H) rs rv ∧ rs.length ≤ 1000 ∧ ∀ H', Same H H' → Q (.int ((pts rs : Nat) : Int)) H'
def spFirst : Sp := fun vs H Q _ => ∃ (a : Addr) (n : Nat) (rs : List Row) (rv : List V), vs = [.ref a, .int ((n : Nat) : Int)] ∧ H a = some (.lst rv) ∧ Paired (RowR H) rs rv ∧ rs.length ≤ 1000 ∧
  ∀ (f : Addr) (rv' : List V) (H' : Hp), Same H H' → H f = none → H' f = some (.lst rv') → Paired (RowR H') (firstP rs n) rv' → Q (.ref f) H'
theorem first_step (r : Row) (t : List Row) (left : Nat) : firstP (r :: t) left = if left = 0 then [] else (r.1, min r.2.1 left, r.2.2) :: firstP t (left - min r.2.1 left) := rfl
theorem first_zero (rs : List Row) : firstP rs 0 = [] := by
  cases rs with
  | nil => rfl
  | cons r t => rw [first_step, if_pos rfl]
theorem Same.newer {H H1 : Hp} {p : Addr} {o : HO} (k : Same H H1) (h : H p = none) : Same H (upd H1 p o) := fun b u q => by
  rw [upd_ne (ne_of_none q h)]
  exact k b u q
section
variable {P : Program} {w : World} {K : PySem.W.Frag} {mg : Str → Option Value} {base : Heap}
theorem ok_points_of (T : PTx w K mg) (D : Def K mg "points_of" s_points_of ["rows"]) : FnOk P w K mg base CX0 1 D.f D.fd ["rows"] spPoints := by
  have nd := sc_points_of.nd
  refine D.ok sc_points_of (fun vs H Q E h => ?_) (fun cdv A outer s H vs Q E hr h => ?_)
  · obtain ⟨a, rs, rv, rfl, _⟩ := h
    rfl
  obtain ⟨a, rs, rv, rfl, ea, pr, hl, q⟩ := h
  refine ⟨_, pss_one (ps_ret (pe_callB (cr_sum rfl) rfl (T.free "sum" (by decide +kernel)) (by decide +kernel) (pa_cons
    (pe_lc (own := [("place", 1), ("points", 2), ("where", 3)]) (g := gTup K 3 (gCons (gName 1) (gCons (gName 2) (gCons (gName 3) gNil)))) (tt := tYes) rfl nd (pi_list (pv 0)) (blkOk_by (N := ["rows", "place", "points", "where"]) (sc := defScope s_points_of) (by decide +kernel))
      (fun _ _ _ _ _ => pg_tup rfl (pgs_cons (pg_name (i := 1) nd rfl (Or.inl rfl)) (pgs_cons (pg_name (i := 2) nd rfl (Or.inl rfl)) (pgs_cons (pg_name (i := 3) nd rfl (Or.inl rfl)) pgs_nil)))) (fun _ _ _ _ _ => pts_nil) (fun _ _ _ _ _ => pv 2)) pa_nil))), ?_⟩
  have lr := Paired.length pr
  refine ⟨_, rfl, a, rfl, ⟨_, SqL.of ea⟩, fun Dd hD => ?_⟩
  have naD : a ≠ Dd := ne_of_none ea hD
  refine lc_list (K := K) (a := a) (xs := rv) (fun j H'' => H'' = upd H Dd (.lst (((rs.take j).map fun r => ((r.2.1 : Nat) : Int)).map V.int))) rfl (fun j H'' _ e => by rw [e]; exact SqL.of (by rw [upd_ne naD]; exact ea)) ?_ ?_
  · rintro j x H'' hj rfl
    obtain ⟨r, er', ⟨b, c, rfl, eb, ec⟩⟩ := paired_get' pr hj
    have hjl := (List.getElem?_eq_some_iff.mp er').1
    have tk : rs.take (j + 1) = rs.take j ++ [r] := by
      rw [List.take_succ, er']
      rfl
    refine ⟨b, _, rfl, SqT.of (Same.new hD _ _ eb), rfl, _, _, rfl, _, _, rfl, _, _, rfl, rfl, rfl, _, rfl, _, upd_same, ?_, ?_⟩
    · rw [List.length_map, List.length_map, List.length_take]
      exact small1000 (by omega)
    · rw [upd_upd, tk, List.map_append, List.map_append]
      rfl
  · rintro H'' rfl
    rw [← lr, List.take_length]
    refine ⟨Dd, _, rfl, SqL.of upd_same, ?_⟩
    rw [pts_sum]
    exact q _ (Same.new hD)
theorem ok_first_points (T : PTx w K mg) (D : Def K mg "first_points" s_first_points ["rows", "limit"]) : FnOk P w K mg base CX0 1 D.f D.fd ["rows", "limit"] spFirst := by
  have nd := sc_first_points.nd
  refine D.ok sc_first_points (fun vs H Q E h => ?_) (fun cdv A outer s H vs Q E hr h => ?_)
  · obtain ⟨a, n, rs, rv, rfl, _⟩ := h
    rfl
  obtain ⟨a, n, rs, rv, rfl, ea, pr, hl, q⟩ := h
  refine ⟨_, pss_cons (ps_set (i := 2) nd rfl (Or.inl rfl) (pe_lst pa_nil))
    (pss_cons (ps_set (i := 3) nd rfl (Or.inl rfl) (pv 1))
    (pss_cons (ps_for PassesOwn.never rfl (pi_list (pv 0)) (pg_tup (by rfl) (pgs_cons (pg_name (i := 4) nd rfl (Or.inl rfl)) (pgs_cons (pg_name (i := 5) nd rfl (Or.inl rfl)) (pgs_cons (pg_name (i := 6) nd rfl (Or.inl rfl)) pgs_nil))))
      (pss_cons (ps_if (pt_cmpR op_eq (pv 3) pe_int (nomark _)) (pss_one ps_break) pss_nil)
      (pss_cons (ps_set (i := 7) nd rfl (Or.inl rfl) (pe_callB (call_min2 rfl) rfl (T.free "min" (by decide +kernel)) (by decide +kernel) (pa_cons (pv 5) (pa_cons (pv 3) pa_nil))))
      (pss_cons (ps_expr (pe_bm PySem.F.plainAttrs_list PySem.F.slot_list_append PySem.F.type_list_append mt_append (pv 2) (pa_cons (pe_tup (pa_cons (pv 4) (pa_cons (pv 7) (pa_cons (pv 6) pa_nil)))) pa_nil)))
      (pss_one (ps_aug (i := 3) nd rfl (Or.inl rfl) (pv 7) ip_sub))))))
    (pss_one (ps_ret (pv 2))))), ?_⟩
  have lr := Paired.length pr
  refine ⟨Nat.zero_le _, fun f hf => ?_⟩
  dsimp only [gName]
  refine ⟨_, rfl, ?_⟩
  dsimp only [gName]
  have s1 : Same H (upd H f (.lst [])) := Same.new hf
  refine ⟨_, rfl, a, rfl, ⟨_, SqL.of (s1 _ _ ea)⟩, for_list (K := K) (a := a) (xs := rv) (fun j σ H'' => ∃ (kj : List Row) (kv : List V) (left : Nat) (v4 v5 v6 v7 : Option V), σ = [some (.ref a), some (.int ((n : Nat) : Int)), some (.ref f), some (.int ((left : Nat) : Int)), v4, v5, v6, v7] ∧ H'' f = some (.lst kv) ∧ Paired (RowR H'') kj kv ∧ kj.length ≤ j ∧ firstP rs n = kj ++ firstP (rs.drop j) left ∧ Same H H'')
    ⟨[], [], n, none, none, none, none, rfl, upd_same, .nil, Nat.le_refl _, rfl, s1⟩ (fun j σ H'' _ ⟨_, _, _, _, _, _, _, _, _, _, _, _, s2⟩ => SqL.of (s2 _ _ ea)) ?_ ?_⟩
  · rintro j x σ H5 hj ⟨kj, kv, left, v4, v5, v6, v7, rfl, ef, pk, lk, hf1, s2⟩
    obtain ⟨r, er', ⟨b, c, rfl, eb, ec⟩⟩ := paired_get' pr hj
    have eb5 := s2 _ _ eb
    have ec5 := s2 _ _ ec
    have hjl := (List.getElem?_eq_some_iff.mp er').1
    have dr : rs.drop j = r :: rs.drop (j + 1) := by
      rw [List.drop_eq_getElem_cons hjl]
      congr 1
      exact Option.some.inj ((List.getElem?_eq_getElem hjl).symm.trans er')
    rw [dr, first_step] at hf1
    refine ⟨b, _, rfl, SqT.of eb5, rfl, _, _, rfl, _, _, rfl, _, _, rfl, rfl, ?_⟩
    refine seq_if (b := ((left : Nat) : Int) == 0) (fun Q q => ⟨_, rfl, rfl, _, rfl, by rw [dec_int]; exact q⟩) (fun z => ?_) (fun z => ?_)
    · have z0 : left = 0 := by have := eq_of_beq z; omega
      rw [if_pos z0, List.append_nil] at hf1
      exact ⟨_, rfl, q f kv H5 s2 hf ef (by rw [hf1]; exact pk)⟩
    · have z0 : left ≠ 0 := fun e => by rw [e] at z; cases z
      rw [if_neg z0] at hf1
      have hmin : (if ((left : Nat) : Int) < ((r.2.1 : Nat) : Int) then ((left : Nat) : Int) else ((r.2.1 : Nat) : Int)) = ((min r.2.1 left : Nat) : Int) := by split <;> omega
      refine ⟨_, rfl, _, rfl, _, _, rfl, ?_⟩
      rw [hmin]
      dsimp only [gName]
      refine ⟨_, rfl, .inl ⟨rfl, _, SqL.of ef⟩, _, rfl, _, rfl, _, rfl, szN (by show 3 ≤ 1000; decide), fun t ht => ?_⟩
      have ntf : f ≠ t := ne_of_none ef ht
      have ef7 : upd H5 t (.tup [.int ((r.1 : Nat) : Int), .int ((min r.2.1 left : Nat) : Int), .ref c]) f = some (.lst kv) := by rw [upd_ne ntf]; exact ef
      have tk : ∀ o, TupK H5 (upd (upd H5 t (.tup [.int ((r.1 : Nat) : Int), .int ((min r.2.1 left : Nat) : Int), .ref c])) f o) := fun o => (TupK.new ht).trans (TupK.put ef7)
      have lkv := Paired.length pk
      refine ⟨f, _, _, rfl, rfl, ef7, small1000 (by omega), ?_⟩
      refine ⟨_, rfl, _, rfl, _, _, rfl, rfl, ?_⟩
      refine ⟨kj ++ [(r.1, min r.2.1 left, r.2.2)], _, left - min r.2.1 left, some (.int ((r.1 : Nat) : Int)), some (.int ((r.2.1 : Nat) : Int)), some (.ref c), some (.int ((min r.2.1 left : Nat) : Int)), ?_, upd_same, paired_app (paired_imp pk fun _ _ h => RowR.keep h (tk _)) (.cons ⟨t, c, rfl, ?_, tk _ _ _ ec5⟩ .nil), ?_, ?_, ?_⟩
      · rw [show (((left - min r.2.1 left : Nat)) : Int) = ((left : Nat) : Int) - ((min r.2.1 left : Nat) : Int) by omega]
        rfl
      · rw [upd_ne ntf.symm, upd_same]
      · rw [List.length_append]
        simp
        omega
      · rw [hf1]
        simp
      · exact Same.newer (s2.trans (Same.new ht)) hf
  · rintro σ H5 ⟨kj, kv, left, v4, v5, v6, v7, rfl, ef, pk, lk, hf1, s2⟩
    rw [← lr, List.drop_length] at hf1
    have e : firstP rs n = kj := by rw [hf1]; show kj ++ [] = kj; rw [List.append_nil]
    exact ⟨_, rfl, q f kv H5 s2 hf ef (by rw [e]; exact pk)⟩
end
end MS
end
section
set_option maxRecDepth 100000
set_option maxHeartbeats 4000000
namespace MS
open PySem L2
theorem word_ne {x : Str} (h : IsW x) : x.length ≠ 0 := by rw [h.len]; decide
theorem wP_shape {ps : List Sch} {k i M d : Nat} {sc : Sch} (o : OkS i M (d + 1) sc) (nu : ∀ n, sc ≠ .use n) : wP ps (k + 1) sc = (if (wordOf sc).length ≠ 0 then [wordOf sc] else []) ++ ((kidsOf sc).map (wP ps k)).flatten := by
  have one : ∀ s, ([s].map (wP ps k)).flatten = wP ps k s := fun s => by
    show wP ps k s ++ [] = _
    rw [List.append_nil]
  have z0 : ¬ (Str.length "" ≠ 0) := by decide
  cases sc with
  | step x p => rw [if_pos (show (wordOf (Sch.step x p)).length ≠ 0 from word_ne o.1)]; rfl
  | all ks => rw [if_neg (show ¬ (wordOf (Sch.all ks)).length ≠ 0 from z0)]; rfl
  | best ks => rw [if_neg (show ¬ (wordOf (Sch.best ks)).length ≠ 0 from z0)]; rfl
  | most n s => rw [if_neg (show ¬ (wordOf (Sch.most n s)).length ≠ 0 from z0)]; exact (one s).symm
  | half s => rw [if_neg (show ¬ (wordOf (Sch.half s)).length ≠ 0 from z0)]; exact (one s).symm
  | seen x s => rw [if_pos (show (wordOf (Sch.seen x s)).length ≠ 0 from word_ne o.1)]; show x :: wP ps k s = x :: ([s].map (wP ps k)).flatten; rw [one]
  | behind x s => rw [if_pos (show (wordOf (Sch.behind x s)).length ≠ 0 from word_ne o.1)]; show x :: wP ps k s = x :: ([s].map (wP ps k)).flatten; rw [one]
  | carry s => rw [if_neg (show ¬ (wordOf (Sch.carry s)).length ≠ 0 from z0)]; exact (one s).symm
  | fin x p s => rw [if_pos (show (wordOf (Sch.fin x p s)).length ≠ 0 from word_ne o.1.1)]; show x :: wP ps k s = x :: ([s].map (wP ps k)).flatten; rw [one]
  | use n => exact absurd rfl (nu n)
theorem wordOf_len {i M d : Nat} {sc : Sch} (o : OkS i M (d + 1) sc) : (wordOf sc).length ≤ 1 := by
  cases sc with
  | step x p => exact Nat.le_of_eq (IsW.len o.1)
  | seen x s => exact Nat.le_of_eq (IsW.len o.1)
  | behind x s => exact Nat.le_of_eq (IsW.len o.1)
  | fin x p s => exact Nat.le_of_eq (IsW.len o.1.1)
  | all ks => show Str.length "" ≤ 1; decide
  | best ks => show Str.length "" ≤ 1; decide
  | most n s => show Str.length "" ≤ 1; decide
  | half s => show Str.length "" ≤ 1; decide
  | carry s => show Str.length "" ≤ 1; decide
  | use n => show Str.length "" ≤ 1; decide

theorem paired_impM {α β : Type} {R T : α → β → Prop} : ∀ {xs : List α} {ys : List β}, Paired R xs ys → (∀ x ∈ xs, ∀ y, R x y → T x y) → Paired T xs ys
  | _, _, .nil, _ => .nil
  | _, _, .cons r t, h => .cons (h _ List.mem_cons_self _ r) (paired_impM t fun x hx => h x (List.mem_cons_of_mem _ hx))
/-- the schemes within, of a use the used one -/
def partsOf (ps : List Sch) : Sch → List Sch
  | .use n => (ps[n]?).toList
  | s => kidsOf s
theorem parts_kids {ps : List Sch} {sc : Sch} (nu : ∀ n, sc ≠ .use n) : partsOf ps sc = kidsOf sc := by
  cases sc with
  | use n => exact absurd rfl (nu n)
  | _ => rfl
theorem wP_parts {ps : List Sch} {k i M d : Nat} {sc : Sch} (o : OkS i M (d + 1) sc) : wP ps (k + 1) sc = (if (wordOf sc).length ≠ 0 then [wordOf sc] else []) ++ ((partsOf ps sc).map (wP ps k)).flatten := by
  by_cases h : ∃ n, sc = .use n
  · obtain ⟨n, rfl⟩ := h
    have z0 : ¬ (Str.length "" ≠ 0) := by decide
    rw [if_neg (show ¬ (wordOf (Sch.use n)).length ≠ 0 from z0)]
    show (match ps[n]? with
      | none => []
      | some s => wP ps k s) = [] ++ (((ps[n]?).toList).map (wP ps k)).flatten
    cases ps[n]? with
    | none => rfl
    | some s => show wP ps k s = wP ps k s ++ []; rw [List.append_nil]
  · have nu : ∀ n, sc ≠ .use n := fun n e => h ⟨n, e⟩
    rw [parts_kids nu]
    exact wP_shape o nu
def PartR (H : Hp) (M k : Nat) (s : Sch) (v : V) : Prop := ∃ i d, SAt H d s v ∧ OkS i M d s ∧ (M - i) * 5 + d ≤ k
def spParts (ps : List Sch) (M k : Nat) : Sp := fun vs H Q _ => ∃ (pa : Addr) (v : V) (s : Sch) (i d : Nat), vs = [.ref pa, v] ∧ (∃ pv, H pa = some (.tup pv) ∧ Paired (SAt H 5) ps pv) ∧ SAt H (d + 1) s v ∧ OkS i M (d + 1) s ∧ (M - i) * 5 + (d + 1) ≤ k + 1 ∧
  ∀ (f : Addr) (kv : List V), H f = none → Paired (PartR H M k) (partsOf ps s) kv → (partsOf ps s).length ≤ 4 → Q (.ref f) (upd H f (.lst kv))
section
variable {P : Program} {w : World} {K : PySem.W.Frag} {mg : Str → Option Value} {base : Heap}
theorem kids_few {i M d : Nat} {sc : Sch} (o : OkS i M (d + 1) sc) : (kidsOf sc).length ≤ 4 := by
  cases sc with
  | all k => exact o.2.1
  | best k => exact o.2.1
  | _ => first | (show 0 ≤ 4; decide) | (show 1 ≤ 4; decide)
theorem ok_parts_of {ps : List Sch} {M k : Nat} (hM : ps.length = M) (hp : ∀ (j : Nat) (s : Sch), ps[j]? = some s → OkS j M 5 s) (T : PTx w K mg) (D : Def K mg "parts_of" s_parts_of ["paper", "scheme"]) (DI : Def K mg "within" s_within ["scheme"]) :
    FnOk P w K mg base CX0 2 D.f D.fd ["paper", "scheme"] (spParts ps M k) := by
  have GI : FnOk P w K mg base CX0 1 DI.f DI.fd ["scheme"] spWithin := ok_within T DI
  refine D.ok sc_parts_of (fun vs H Q E h => ?_) (fun cdv A outer s H vs Q E hr h => ?_)
  · obtain ⟨pa, v, s, i, d, rfl, _⟩ := h
    rfl
  obtain ⟨pa, v, sc, i, d, rfl, ⟨pv0, epv, pp⟩, hs, ho, hk, q⟩ := h
  refine ⟨_, pss_one (ps_ret (pe_ifExp (pt_cmpR op_eq (pe_ix ix_tup (pv 1) pe_int (fun _ _ => rfl)) pe_str (nomark _)) (pe_lst (pa_cons (pe_ix ix_tup (pv 0) (pe_ix ix_tup (pv 1) pe_int (fun _ _ => rfl)) (fun _ _ => rfl)) pa_nil)) (pcall DI GI hr (pa_cons (pv 1) pa_nil)))), ?_⟩
  obtain ⟨a, nm, rest, rfl, ea⟩ := hs.tag
  rcases (hs.kind ho ea).words (ps := ps) (k := k) with ⟨n, rfl, rfl, rfl, h1, h2⟩ | ⟨_, _, _, W⟩
  · refine ⟨_, rfl, a, _, 0, .str "use", rfl, rfl, SqT.of ea, at0, rfl, _, rfl, ?_⟩
    rw [dec_str, show (("use" : Str) == "use") = true by decide +kernel]
    have nl : n < pv0.length := by rw [← Paired.length pp]; omega
    have epn : pv0[n]? = some (pv0[n]'nl) := List.getElem?_eq_getElem nl
    obtain ⟨s', es', hs'⟩ := paired_get' pp epn
    have ho' := hp n s' es'
    have el : partsOf ps (.use n) = [s'] := by show (ps[n]?).toList = _; rw [es']; rfl
    rw [el] at q
    exact iteT ⟨_, rfl, _, rfl, a, _, 1, .int ((n : Nat) : Int), rfl, rfl, SqT.of ea, at1, pa, pv0, _, _, rfl, rfl, SqT.of epv, atI_nat epn, szN (by show 1 ≤ 1000; decide), fun f hf => q f _ hf (.cons ⟨n, 5, hs', ho', by omega⟩ .nil) (by show 1 ≤ 4; decide)⟩
  · have nu : ∀ n, sc ≠ .use n := fun n e => by
      subst e
      obtain ⟨a', e, h⟩ := hs
      cases e
      rw [ea] at h
      cases h
      exact absurd W.nu (by decide +kernel)
    refine ⟨_, rfl, a, _, 0, .str nm, rfl, rfl, SqT.of ea, at0, rfl, _, rfl, ?_⟩
    rw [dec_str, W.nu]
    obtain ⟨_, _, hsh⟩ := hs.shape ho ea
    have hok := hsh.ok
    rw [parts_kids nu] at q
    exact iteF ⟨_, rfl, _, sc, i, M, d, rfl, hs, ho, fun f kv hf at_ => q f kv hf (paired_impM at_ fun s hs' v' hv' => ⟨i, d, hv', hok s hs', by omega⟩) (kids_few ho)⟩
theorem PartR.keep {H H' : Hp} {M k : Nat} {s : Sch} {v : V} (h : PartR H M k s v) (t : TupK H H') : PartR H' M k s v := by
  obtain ⟨i, d, h1, h2, h3⟩ := h
  exact ⟨i, d, SAt.keep t _ _ _ h1, h2, h3⟩
theorem words_in_turn {ps : List Sch} {M k : Nat} (hM : ps.length = M) (hp : ∀ (j : Nat) (s : Sch), ps[j]? = some s → OkS j M 5 s) (T : PTx w K mg) (D : Def K mg "words_in" s_words_in ["paper", "scheme"]) (DW : Def K mg "word_in" s_word_in ["scheme"]) (DI : Def K mg "within" s_within ["scheme"]) (DP : Def K mg "parts_of" s_parts_of ["paper", "scheme"])
    (G : FnOk P w K mg base CX0 (k + 2) D.f D.fd ["paper", "scheme"] (spWords ps M k)) : FnOk P w K mg base CX0 (k + 3) D.f D.fd ["paper", "scheme"] (spWords ps M (k + 1)) := by
  have GW : FnOk P w K mg base CX0 1 DW.f DW.fd ["scheme"] spWordIn := ok_word_in T DW
  have GP : FnOk P w K mg base CX0 2 DP.f DP.fd ["paper", "scheme"] (spParts ps M k) := ok_parts_of hM hp T DP DI
  have nd := sc_words_in.nd
  refine D.ok sc_words_in (fun vs H Q E h => ?_) (fun cdv A outer s H vs Q E hr h => ?_)
  · obtain ⟨pa, v, s, i, d, rfl, _⟩ := h
    rfl
  obtain ⟨pa, v, sc, i, d, rfl, ⟨pv0, epv, pp⟩, hs, ho, hk, h10, q⟩ := h
  have hr1 : Room 1 _ := hr.mono (by omega)
  have hr2 : Room 2 _ := hr.mono (by omega)
  refine ⟨_, pss_cons (ps_set (i := 2) nd rfl (Or.inl rfl) (pe_ifExp (pt_truth (pcall DW GW hr1 (pa_cons (pv 1) pa_nil)) (by intro _; rfl)) (pe_lst (pa_cons (pcall DW GW hr1 (pa_cons (pv 1) pa_nil)) pa_nil)) (pe_lst pa_nil)))
    (pss_cons (ps_for PassesOwn.never rfl (pi_list (pcall DP GP hr2 (pa_cons (pv 0) (pa_cons (pv 1) pa_nil)))) (pg_name (i := 3) nd rfl (Or.inl rfl))
      (pss_one (ps_expr (pe_bm PySem.F.plainAttrs_list PySem.F.slot_list_extend PySem.F.type_list_extend mt_extend (pv 2) (pa_cons (pcall D G hr (pa_cons (pv 0) (pa_cons (pv 3) pa_nil))) pa_nil)))))
    (pss_one (ps_ret (pv 2)))), ?_⟩
  obtain ⟨a, nm, rest, rfl, ea⟩ := hs.tag
  cases d with
  | zero => cases hs
  | succ d =>
  have wsh := wP_parts (ps := ps) (k := k) ho
  have wl := wordOf_len ho
  let pre : List Str := if (wordOf sc).length ≠ 0 then [wordOf sc] else []
  have hpre : pre.length ≤ 1 := by
    show (if (wordOf sc).length ≠ 0 then [wordOf sc] else []).length ≤ 1
    split <;> simp
  have wsh : wP ps (k + 1) sc = pre ++ ((partsOf ps sc).map (wP ps k)).flatten := wsh
  refine ⟨_, rfl, _, sc, i, M, d, rfl, hs, ho, (((wordOf sc).length : Int) != 0), ⟨szN (by omega), rfl⟩, ?_⟩
  refine found_if (pre := pre.map V.str) (fun z R hR => ?_) (fun z => ?_) (by rw [List.length_map]; omega) (fun f hf => ?_)
  · refine ⟨_, rfl, _, sc, i, M, d, rfl, hs, ho, ?_⟩
    have z1 : (wordOf sc).length ≠ 0 := fun e => by rw [e] at z; cases z
    have e : pre.map V.str = [V.str (wordOf sc)] := by
      show (if (wordOf sc).length ≠ 0 then [wordOf sc] else []).map V.str = _
      rw [if_pos z1]
      rfl
    rw [e] at hR
    exact hR
  · have z1 : ¬ (wordOf sc).length ≠ 0 := fun e => by
      have z2 : (((wordOf sc).length : Int) != 0) = true := by simpa using e
      rw [z] at z2
      cases z2
    show (if (wordOf sc).length ≠ 0 then [wordOf sc] else []).map V.str = _
    rw [if_neg z1]
    rfl
  have s1 : Same H (upd H f (.lst (pre.map V.str))) := Same.new hf
  dsimp only [gName]
  refine ⟨_, rfl, _, rfl, pa, _, sc, i, d, rfl, ⟨pv0, s1 _ _ epv, paired_imp pp fun _ _ => SAt.keep (Same.tupK s1) _ _ _⟩, SAt.keep (Same.tupK s1) _ _ _ hs, ho, hk, fun l kv hl at_ few => ?_⟩
  have s2 := s1.trans (Same.new (o := .lst kv) hl)
  have el : upd (upd H f (.lst (pre.map V.str))) l (.lst kv) l = some (.lst kv) := upd_same
  have ef : upd (upd H f (.lst (pre.map V.str))) l (.lst kv) f = some (.lst (pre.map V.str)) := Same.new hl _ _ upd_same
  have nfl : f ≠ l := ne_of_none upd_same hl
  have hkv := Paired.length at_
  have hl0 := s1.free hl
  rw [wsh, List.length_append] at h10
  refine ⟨l, rfl, ⟨_, SqL.of el⟩, for_list (K := K) (a := l) (xs := kv) (fun j σ H' => ∃ v4 : Option V, σ = [some (.ref pa), some (.ref a), some (.ref f), v4] ∧ H' f = some (.lst ((pre ++ (((partsOf ps sc).take j).map (wP ps k)).flatten).map V.str)) ∧ H' l = some (.lst kv) ∧ Same H H')
    ⟨none, rfl, by rw [List.take_zero, List.map_nil, List.flatten_nil, List.append_nil]; exact ef, el, s2⟩ (fun j σ H' _ ⟨_, _, _, el', _⟩ => SqL.of el') ?_ ?_⟩
  · rintro j x σ H' hj ⟨v4, rfl, ef5, el5, s5⟩
    obtain ⟨s', es', hs'⟩ := paired_get' at_ hj
    have fl := flat_split (f := wP ps k) (partsOf ps sc) j s' es'
    have tk1 : TupK (upd H f (.lst (pre.map V.str))) H' := fun b xs e => by
      by_cases eb : b = f
      · rw [eb, upd_same] at e
        cases e
      · rw [upd_ne eb] at e
        exact s5 _ _ e
    obtain ⟨i', d', hs5, ho5, hk5⟩ := hs'.keep tk1
    dsimp only [gName]
    refine ⟨_, rfl, .inl ⟨rfl, _, SqL.of ef5⟩, _, rfl, _, rfl, pa, x, s', i', d', rfl, ⟨pv0, s5 _ _ epv, paired_imp pp fun _ _ => SAt.keep (Same.tupK s5) _ _ _⟩, hs5, ho5, hk5, by omega, fun f2 H6 s7 fr ef6 => ?_⟩
    have ef7 := s7 _ _ ef5
    have el7 := s7 _ _ el5
    refine ⟨f, f2, _, _, rfl, rfl, ef7, ef6, szN (by rw [List.length_map, List.length_map, List.length_append]; omega), ?_⟩
    refine ⟨_, rfl, ?_, by rw [upd_ne nfl.symm]; exact el7, Same.newer (s5.trans s7) hf⟩
    have tk : (partsOf ps sc).take (j + 1) = (partsOf ps sc).take j ++ [s'] := by
      rw [List.take_succ, es']
      rfl
    rw [upd_same, tk]
    simp [List.append_assoc]
  · rintro σ H' ⟨v4, rfl, ef5, el5, s5⟩
    rw [← hkv, List.take_length, ← wsh] at ef5
    exact ⟨_, rfl, q f H' s5 hf ef5⟩
theorem ok_words_in {ps : List Sch} (hp : ∀ (j : Nat) (s : Sch), ps[j]? = some s → OkS j ps.length 5 s) (T : PTx w K mg) (D : Def K mg "words_in" s_words_in ["paper", "scheme"]) (DW : Def K mg "word_in" s_word_in ["scheme"]) (DI : Def K mg "within" s_within ["scheme"]) (DP : Def K mg "parts_of" s_parts_of ["paper", "scheme"]) : ∀ k : Nat, FnOk P w K mg base CX0 (k + 2) D.f D.fd ["paper", "scheme"] (spWords ps ps.length k)
  | 0 => by
    have e : spWords ps ps.length 0 = fun _ _ _ _ => False := by
      funext vs H Q E
      refine propext ⟨fun h => ?_, fun h => h.elim⟩
      obtain ⟨pa, v, s, i, d, _, _, _, ho, hk, _⟩ := h
      have : d = 0 := by omega
      subst this
      cases ho
    rw [e]
    exact no_sp
  | k + 1 => words_in_turn rfl hp T D DW DI DP (ok_words_in hp T D DW DI DP k)
end
end MS
end
section
set_option maxRecDepth 100000
set_option maxHeartbeats 4000000
namespace MS
open PySem L2
theorem walk_zipT {K : PySem.W.Frag} {a b : Addr} {xs ys : List V} {n : Nat} (hn : n = min xs.length ys.length) : Walk (RZ.ItzT K a b) n (fun H => SqT K H a xs ∧ SqT K H b ys) (YPair (fun i => xs[i]?) (fun i => ys[i]?)) := by
  subst hn
  refine ⟨fun i _ hi q => ?_, fun _ q => ⟨xs, ys, q.1, q.2, by omega⟩, fun i H v H' _ q y => ?_⟩
  · have h1 : i < xs.length := by omega
    have h2 : i < ys.length := by omega
    exact ⟨xs, ys, xs[i], ys[i], q.1, q.2, by simp [h1], by simp [h2]⟩
  · obtain ⟨T, x, z, h1, h2, h3, h4, h5⟩ := y
    exact ⟨T, x, z, h1, h2, h3, h4 xs q.1, h5 ys q.2⟩
def spCanBe (i M : Nat) : Sp := fun vs H Q _ => ∃ (v : V) (sc : Sch) (d : Nat), vs = [v, .int ((i : Nat) : Int), .int ((M : Nat) : Int)] ∧ SAt H (d + 1) sc v ∧ OkS i M (d + 1) sc ∧ ∀ H', Same H H' → Q (.bl true) H'
abbrev nmCanBe : List Str := ["thing", "number", "many", "shape", "part", "kind"]
abbrev psFits : List Str := ["part", "kind", "number", "many"]
theorem FitsR.keep {H H' : Hp} {i M : Nat} {v : V} {z : Str} (h : FitsR H i M v z) (k : Same H H') : FitsR H' i M v z := by
  rcases h with h | h | h | ⟨e, b, vs, e1, e2, h1, h2⟩ | h | h
  · exact .inl h
  · exact .inr (.inl h)
  · exact .inr (.inr (.inl h))
  · exact .inr (.inr (.inr (.inl ⟨e, b, vs, e1, k _ _ e2, h1, h2⟩)))
  · exact .inr (.inr (.inr (.inr (.inl h))))
  · exact .inr (.inr (.inr (.inr (.inr h))))
theorem not_whole {n : Nat} (h : 0 < n) : ¬ (HT.sIx n 0 (some 1) = 0 ∧ HT.sIx n n none = n) := fun ⟨h1, _⟩ => by
  have e := HT.sIx_nat n 0 1
  have h2 : HT.sIx n 0 (some ((1 : Nat) : Int)) = 0 := h1
  rw [e] at h2
  omega
section
variable {P : Program} {w : World} {K : PySem.W.Frag} {mg : Str → Option Value} {base : Heap}
theorem ok_can_be {i M : Nat} (T : PTx w K mg) (D : Def K mg "can_be" s_can_be ["thing", "number", "many"]) (DF : Def K mg "fits" s_fits psFits) (DN : Def K mg "is_number" s_is_number ["thing"]) : FnOk P w K mg base CX0 3 D.f D.fd ["thing", "number", "many"] (spCanBe i M) := by
  have GF : FnOk P w K mg base CX0 2 DF.f DF.fd psFits (spFits i M) := ok_fits T DF DN
  obtain ⟨aS, gS, low, hS⟩ := T.shapes
  have nd := sc_can_be.nd
  refine D.ok sc_can_be (fun vs H Q E h => ?_) (fun cdv A outer s H vs Q E hr h => ?_)
  · obtain ⟨v, sc, d, rfl, _⟩ := h
    rfl
  obtain ⟨v, sc, d, rfl, hs, ho, q⟩ := h
  refine ⟨_, pss_cons (ps_if (PW.pt (pw_or (pt_not (pt_val (pe_callB call_isi rfl (T.free "isinstance" (by decide +kernel)) (by decide +kernel) (pa_cons (pv 0) (pa_cons (pe_bltn rfl (T.free "tuple" (by decide +kernel)) (by decide +kernel) (v := .ty "tuple") rfl) pa_nil)))))
      (pw_or (pt_not (pt_truth (pv 0) (by intro _; rfl))) (pw_or1 (pt_not (pt_val (pe_callB call_isi rfl (T.free "isinstance" (by decide +kernel)) (by decide +kernel) (pa_cons (pe_ix ix_tup (pv 0) pe_int (fun _ _ => rfl)) (pa_cons (pe_bltn rfl (T.free "str" (by decide +kernel)) (by decide +kernel) (v := .ty "str") rfl) pa_nil))))))))) (pss_one (ps_ret pe_bl)) pss_nil)
    (pss_cons (ps_set (i := 3) nd rfl (Or.inl rfl) (pe_kget2 (pe_glob rfl gS (v := .ref aS) rfl) (pe_ix ix_tup (pv 0) pe_int (fun _ _ => rfl)) pe_non ⟨rfl, rfl, rfl, rfl⟩))
    (pss_cons (ps_if (PW.pt (pw_or (pt_cmpR op_isN (pv 3) pe_non (nomark _)) (pw_or1 (pt_cmpR op_ne (pe_callB call_len_seq rfl (T.free "len" (by decide +kernel)) PySem.boot_len (pa_cons (pv 0) pa_nil)) (pe_op op_add (pe_callB call_len_seq rfl (T.free "len" (by decide +kernel)) PySem.boot_len (pa_cons (pv 3) pa_nil)) pe_int) (nomark _))))) (pss_one (ps_ret pe_bl)) pss_nil)
    (pss_one (ps_ret (pe_callB (cr_all rfl) rfl (T.free "all" (by decide +kernel)) (by decide +kernel) (pa_cons
      (pe_lc (own := [("part", 4), ("kind", 5)]) (g := gTup K 2 (gCons (gName 4) (gCons (gName 5) gNil))) (tt := tYes) rfl nd (RZ.pi_zipA rfl (T.free "zip" (by decide +kernel)) (pa_cons (pe_slice sl_tupA (pv 0) (po_some pe_int) po_none) (pa_cons (pv 3) pa_nil))) (blkOk_by (N := nmCanBe) (sc := defScope s_can_be) (by decide +kernel))
        (fun _ _ _ _ _ => pg_tup rfl (pgs_cons (pg_name (i := 4) nd rfl (Or.inl rfl)) (pgs_cons (pg_name (i := 5) nd rfl (Or.inl rfl)) pgs_nil))) (fun _ _ _ _ _ => pts_nil)
        (fun _ _ _ _ _ => pcall DF GF hr (pa_cons (pv 4) (pa_cons (pv 5) (pa_cons (pv 1) (pa_cons (pv 2) pa_nil)))))) pa_nil)))))), ?_⟩
  obtain ⟨a, nm, rest, rfl, ea⟩ := hs.tag
  obtain ⟨kinds, kv, S⟩ := hs.shape ho ea
  obtain ⟨t, kd, qt⟩ := hS _ S.mem
  have lrk := Paired.length S.fit
  have lk3 : kinds.length ≤ 3 := by
    have z : ∀ p ∈ shapesL, p.2.length ≤ 3 := by decide +kernel
    exact z _ S.mem
  refine seq_if (b := false || (false || false)) (ev_or (b := false) (c := false || false) (fun Q q => ⟨_, rfl, _, .ty "tuple", .type "tuple", .type "tuple", true, rfl, .ty _, .base (.tup ea), kit_ty (by decide +kernel), _, rfl, q⟩)
    (ev_or (b := false) (c := false) (fun Q q => ⟨_, rfl, true, .inr (.inl ⟨_, SqT.of ea, rfl⟩), q⟩) (fun Q q => ⟨_, rfl, a, _, 0, .str nm, rfl, rfl, SqT.of ea, at0, _, .ty "str", .type "str", .type "str", true, rfl, .ty _, .base (.str nm), kit_ty (by decide +kernel), _, rfl, q⟩))) (fun z => nomatch z) (fun _ => ?_)
  refine ⟨aS, rfl, low, ⟨_, _, kd⟩, _, rfl, a, _, 0, .str nm, rfl, rfl, SqT.of ea, at0, nm, rfl, .inl ⟨_, kd, ?_⟩⟩
  dsimp only [gName]
  refine seq_if (b := false || false) (ev_or (b := false) (c := false) (fun Q q => ⟨_, rfl, rfl, _, rfl, by rw [decide_eq_false (fun z => nomatch z)]; exact q⟩)
    (fun Q q => ⟨_, rfl, a, _, rfl, .inr (SqT.of ea), _, rfl, t, _, rfl, .inr (qt _), _, _, rfl, rfl, rfl, _, rfl, (by
      have e : V.int (((V.str nm :: rest).length : Nat) : Int) = V.int (((kinds.map V.str).length : Nat) + 1 : Int) := by
        rw [List.length_cons, List.length_map, lrk]
        rfl
      rw [decide_eq_true e]
      exact q)⟩)) (fun z => nomatch z) (fun _ => ?_)
  refine ⟨_, rfl, 1, rfl, a, _, rfl, SqT.of ea, fun z => absurd z (not_whole (Nat.succ_pos _)), fun _ p hp => ?_⟩
  have s1 : Same H (upd H p (.tup (cutV (V.str nm :: rest) (some 1) none))) := Same.new hp
  have ec : cutV (V.str nm :: rest) (some 1) none = rest := cut_from (V.str nm :: rest) 1
  rw [ec] at s1 ⊢
  refine ⟨_, rfl, p, t, rest, kinds.map V.str, rfl, .inr ⟨SqT.of upd_same, qt _, fun Dd hD => ?_⟩⟩
  have s2 := s1.trans (Same.new (o := .lst []) hD)
  have ep : upd H p (.tup rest) p = some (.tup rest) := upd_same
  refine lc_it (walk_zipT (K := K) (a := p) (b := t) (xs := rest) (ys := kinds.map V.str) (n := rest.length) (by rw [List.length_map]; omega)) (fun j H'' => H'' Dd = some (.lst ((List.replicate j true).map V.bl)) ∧ Same (upd H p (.tup rest)) H'') ⟨upd_same, Same.new hD⟩ (fun j H'' _ ⟨_, s3⟩ => ⟨SqT.of (s3 _ _ ep), qt _⟩) ?_ ?_
  · rintro j x H2 H3 hj ⟨eD, s3⟩ ⟨T1, x1, x2, rfl, hT1, rfl, ex1, ex2⟩
    obtain ⟨k', ek', rfl⟩ : ∃ k', kinds[j]? = some k' ∧ x2 = V.str k' := by
      have ex2 : (kinds.map V.str)[j]? = some x2 := ex2
      rw [List.getElem?_map] at ex2
      cases e : kinds[j]? with
      | none => rw [e] at ex2; cases ex2
      | some k' => rw [e] at ex2; exact ⟨k', rfl, (Option.some.inj ex2).symm⟩
    obtain ⟨x', ex', hf⟩ := paired_get' S.fit ek'
    have ex1 : rest[j]? = some x1 := ex1
    rw [ex1] at ex'
    cases ex'
    have s4 := (s1.trans s3).trans (Same.new (o := .tup [x1, .str k']) hT1)
    refine ⟨T1, _, rfl, SqT.of upd_same, rfl, _, _, rfl, _, _, rfl, rfl, rfl, _, rfl, _, rfl, _, rfl, _, rfl, x1, k', rfl, hf.keep s4, _, Same.new hT1 _ _ eD, ?_, ?_, ?_⟩
    · rw [List.length_map, List.length_replicate]
      exact small1000 (by omega)
    · rw [upd_same, List.replicate_succ']
      rw [List.map_append]
      rfl
    · exact fun b o e => by
        rw [upd_ne (ne_of_none e hD)]
        exact (s3.trans (Same.new hT1)) b o e
  · rintro H'' ⟨eD, s3⟩
    refine ⟨Dd, _, rfl, SqL.of eD, ?_⟩
    rw [show (List.replicate rest.length true).all id = true by rw [List.all_replicate]; simp]
    exact q _ (s1.trans s3)
end
end MS
end
section
set_option maxRecDepth 100000
set_option maxHeartbeats 4000000
namespace MS
open PySem L2
theorem cat_at {K : PySem.W.Frag} {σ : St} {H : Hp} {wr : Addr} {wh : List Nat} {j i : Nat} {te : TE} {Q : VK} (s5 : σ[i]? = some (some (.ref wr))) (ewr : H wr = some (.tup (natV wh))) (hl : wh.length ≤ 200) (ht : ∀ Q : VK, Q (.int ((j : Nat) : Int)) H → te σ H Q)
    (q : ∀ (wr' : Addr) (H' : Hp), Same H H' → H' wr' = some (.tup (natV (wh ++ [j]))) → Q (.ref wr') H') : tOp (rCatA K) (tVar i) (tTup (tCons te tNil)) σ H Q := by
  refine ⟨_, s5, ht _ ⟨(by show 1 ≤ sizeLine; decide), fun t htn => ⟨wr, t, natV wh, [.int ((j : Nat) : Int)], rfl, rfl, SqT.of (Same.new htn _ _ ewr), SqT.of upd_same, szN (by rw [natV_len]; show wh.length + 1 ≤ 1000; omega), (fun z => ?_), (fun _ z => nomatch z), fun z _ p hp => ?_⟩⟩⟩
  · have z' : wh = [] := List.map_eq_nil_iff.mp z
    subst z'
    exact q t _ (Same.new htn) upd_same
  · exact q p _ ((Same.new htn).trans (Same.new hp)) (by rw [upd_same, natV_snoc])
/-- a place and what stands there -/
def PlR (H : Hp) (x : List Nat × V) (v : V) : Prop := ∃ b q, v = V.ref b ∧ H b = some (.tup [.ref q, x.2]) ∧ H q = some (.tup (natV x.1))
theorem PlR.keep {H H' : Hp} {x : List Nat × V} {v : V} (h : PlR H x v) (k : TupK H H') : PlR H' x v := by
  obtain ⟨b, q, e, h1, h2⟩ := h
  exact ⟨b, q, e, k _ _ h1, k _ _ h2⟩
def placedL (wh : List Nat) (xs : List V) : List (List Nat × V) := xs.zipIdx.map fun p => (wh ++ [p.2], p.1)
def spPlaced : Sp := fun vs H Q _ => ∃ (l pl : Addr) (xs : List V) (wh : List Nat), vs = [.ref l, .ref pl] ∧ H l = some (.lst xs) ∧ H pl = some (.tup (natV wh)) ∧ xs.length ≤ 100 ∧ wh.length ≤ 100 ∧
  ∀ (f : Addr) (pv : List V) (H' : Hp), Same H H' → H f = none → H' f = some (.lst pv) → Paired (PlR H') (placedL wh xs) pv → Q (.ref f) H'
section
variable {P : Program} {w : World} {K : PySem.W.Frag} {mg : Str → Option Value} {base : Heap}
theorem ok_placed (T : PTx w K mg) (D : Def K mg "placed" s_placed ["schemes", "place"]) : FnOk P w K mg base CX0 1 D.f D.fd ["schemes", "place"] spPlaced := by
  have nd := sc_placed.nd
  refine D.ok sc_placed (fun vs H Q E h => ?_) (fun cdv A outer s H vs Q E hr h => ?_)
  · obtain ⟨l, pl, xs, wh, rfl, _⟩ := h
    rfl
  obtain ⟨l, pl, xs, wh, rfl, el, epl, lx, lw, q⟩ := h
  refine ⟨_, pss_one (ps_ret (pe_lc (own := [("at", 2), ("scheme", 3)]) (g := gTup K 2 (gCons (gName 2) (gCons (gName 3) gNil))) (tt := tYes) rfl nd (pi_enum rfl (T.free "enumerate" (by decide +kernel)) (pa_cons (pv 0) pa_nil)) (blkOk_by (N := ["schemes", "place", "at", "scheme"]) (sc := defScope s_placed) (by decide +kernel))
      (fun _ _ _ _ _ => pg_tup rfl (pgs_cons (pg_name (i := 2) nd rfl (Or.inl rfl)) (pgs_cons (pg_name (i := 3) nd rfl (Or.inl rfl)) pgs_nil))) (fun _ _ _ _ _ => pts_nil)
      (fun _ _ _ _ _ => pe_tup (pa_cons (pe_op (r := rCatA K) op_catA (pv 1) (pe_tup (pa_cons (pv 2) pa_nil))) (pa_cons (pv 3) pa_nil))))), ?_⟩
  refine ⟨_, rfl, l, _, rfl, SqL.of el, fun Dd hD => ?_⟩
  have nlD : l ≠ Dd := ne_of_none el hD
  refine lc_it (walk_enum (K := K) (a := l) (xs := xs)) (fun j H'' => ∃ pv, H'' Dd = some (.lst pv) ∧ Paired (PlR H'') (placedL wh (xs.take j)) pv ∧ Same H H'') ⟨[], upd_same, .nil, Same.new hD⟩ (fun j H'' _ ⟨_, _, _, s3⟩ => SqL.of (s3 _ _ el)) ?_ ?_
  · rintro j x H2 H3 hj ⟨pv0, eD, pp, s3⟩ ⟨T1, x1, x2, rfl, hT1, rfl, ex1, ex2⟩
    obtain rfl : V.int ((j : Nat) : Int) = x1 := Option.some.inj ex1
    have ex2 : xs[j]? = some x2 := ex2
    have s4 := s3.trans (Same.new (o := .tup [.int ((j : Nat) : Int), x2]) hT1)
    refine ⟨T1, _, rfl, SqT.of upd_same, rfl, _, _, rfl, _, _, rfl, rfl, rfl, ?_⟩
    refine cat_at (i := 1) (j := j) rfl (s4 _ _ epl) (by omega) (fun Q q => ⟨_, rfl, q⟩) (fun wr' H5 s5 ew => ?_)
    refine ⟨_, rfl, sz2, fun p hp => ?_⟩
    have s6 := (Same.new (o := .tup [.int ((j : Nat) : Int), x2]) hT1).trans (s5.trans (Same.new (o := .tup [.ref wr', x2]) hp))
    have eD6 := s6 _ _ eD
    have lpv := Paired.length pp
    have tk : TupK H2 (upd (upd H5 p (.tup [.ref wr', x2])) Dd (.lst (pv0 ++ [.ref p]))) := (Same.tupK s6).trans (TupK.put eD6)
    have npD : p ≠ Dd := fun e => by rw [e] at eD6; rw [upd_same] at eD6; cases eD6
    refine ⟨_, eD6, ?_, _, upd_same, ?_, ?_⟩
    · have : (placedL wh (xs.take j)).length ≤ 100 := by
        unfold placedL
        rw [List.length_map, List.length_zipIdx, List.length_take]
        omega
      exact small1000 (by omega)
    · have e : placedL wh (xs.take (j + 1)) = placedL wh (xs.take j) ++ [(wh ++ [j], x2)] := by
        have hjl := (List.getElem?_eq_some_iff.mp ex2).1
        unfold placedL
        rw [List.take_succ, ex2]
        simp [List.zipIdx_append, List.length_take, Nat.min_eq_left (Nat.le_of_lt hjl)]
      rw [e]
      refine paired_app (paired_imp pp fun _ _ h => PlR.keep h tk) (.cons ⟨p, wr', rfl, by rw [upd_ne npD, upd_same], ?_⟩ .nil)
      exact TupK.put eD6 _ _ (Same.new hp _ _ ew)
    · intro b o e
      rw [upd_ne (ne_of_none e hD)]
      exact (s3.trans s6) b o e
  · rintro H'' ⟨pv0, eD, pp, s3⟩
    rw [List.take_length] at pp
    exact q Dd pv0 H'' s3 hD eD pp
end
/-- the one row of a step, or none -/
def spRowAt : Sp := fun vs H Q _ => ∃ (o : Option Nat) (p : Nat) (wr : Addr) (wh : List Nat), vs = [(match o with | some i => V.int ((i : Nat) : Int) | none => V.non), .int ((p : Nat) : Int), .ref wr] ∧ H wr = some (.tup (natV wh)) ∧
  ∀ (f : Addr) (rv : List V) (H' : Hp), Same H H' → H f = none → H' f = some (.lst rv) → Paired (RowR H') (match o with | some i => [(i, p, wh)] | none => []) rv → Q (.ref f) H'
section
variable {P : Program} {w : World} {K : PySem.W.Frag} {mg : Str → Option Value} {base : Heap}
theorem ok_row_at (T : PTx w K mg) (D : Def K mg "row_at" s_row_at ["place", "points", "where"]) : FnOk P w K mg base CX0 1 D.f D.fd ["place", "points", "where"] spRowAt := by
  have nd := sc_row_at.nd
  refine D.ok sc_row_at (fun vs H Q E h => ?_) (fun cdv A outer s H vs Q E hr h => ?_)
  · obtain ⟨o, p, wr, wh, rfl, _⟩ := h
    rfl
  obtain ⟨o, p, wr, wh, rfl, ewr, q⟩ := h
  refine ⟨_, pss_one (ps_ret (pe_ifExp (pt_cmpR op_isN (pv 0) pe_non (nomark _)) (pe_lst pa_nil) (pe_lst (pa_cons (pe_tup (pa_cons (pv 0) (pa_cons (pv 1) (pa_cons (pv 2) pa_nil)))) pa_nil)))), ?_⟩
  cases o with
  | none =>
    refine ⟨_, rfl, rfl, _, rfl, ?_⟩
    rw [decide_eq_true rfl]
    exact iteT ⟨Nat.zero_le _, fun f hf => q f [] _ (Same.new hf) hf upd_same .nil⟩
  | some i =>
    refine ⟨_, rfl, rfl, _, rfl, ?_⟩
    rw [decide_eq_false (fun z => nomatch z)]
    refine iteF ⟨_, rfl, _, rfl, _, rfl, szN (by show 3 ≤ 1000; decide), fun t ht => ⟨(by show 1 ≤ sizeLine; decide), fun f hf => ?_⟩⟩
    have s1 : Same H (upd H t (.tup [.int ((i : Nat) : Int), .int ((p : Nat) : Int), .ref wr])) := Same.new ht
    have s2 := Same.new (o := .lst [V.ref t]) hf
    exact q f _ _ (s1.trans s2) (s1.free hf) upd_same (.cons ⟨t, wr, rfl, s2 _ _ upd_same, (s1.trans s2) _ _ ewr⟩ .nil)
end
end MS
end
section
set_option maxRecDepth 100000
set_option maxHeartbeats 4000000
namespace MS
open PySem L2
/-! ### all schemes in one -/
def pre : Nat → Sch → List Sch
  | 0, _ => []
  | d + 1, s => s :: ((kidsOf s).map (pre d)).flatten
theorem pre_succ (d : Nat) (s : Sch) : pre (d + 1) s = s :: ((kidsOf s).map (pre d)).flatten := rfl
theorem ok_kids {i M d : Nat} {s : Sch} (o : OkS i M (d + 1) s) : ∀ x ∈ kidsOf s, OkS i M d x := by
  cases s with
  | step w p => exact fun _ h => nomatch h
  | all k => exact o.2.2
  | best k => exact o.2.2
  | most n s => intro x h; rw [List.mem_singleton.mp h]; exact o.2
  | half s => intro x h; rw [List.mem_singleton.mp h]; exact o
  | seen w s => intro x h; rw [List.mem_singleton.mp h]; exact o.2
  | behind w s => intro x h; rw [List.mem_singleton.mp h]; exact o.2
  | carry s => intro x h; rw [List.mem_singleton.mp h]; exact o
  | fin w p s => intro x h; rw [List.mem_singleton.mp h]; exact o.2
  | use n => exact fun _ h => nomatch h
theorem sz_kids (d : Nat) (s : Sch) : sz (d + 1) s = 1 + ((kidsOf s).map (sz d)).sum := by
  cases s <;> simp [sz, kidsOf]
/-- what a scheme is itself -/
def ownE (c : Nat → Int) : Sch → Int
  | .step _ _ => 1
  | .fin _ _ _ => 1
  | .use n => c n
  | _ => 0
def ownW (c : Nat → Int) : Sch → Int
  | .seen _ _ => 1
  | .behind _ _ => 1
  | .use n => c n
  | _ => 0
theorem er_kids (c : Nat → Int) (d : Nat) (s : Sch) : er c (d + 1) s = ownE c s + ((kidsOf s).map (er c d)).sum := by
  cases s <;> simp [er, ownE, kidsOf]
theorem wr_kids (c : Nat → Int) (d : Nat) (s : Sch) : wr c (d + 1) s = ownW c s + ((kidsOf s).map (wr c d)).sum := by
  cases s <;> simp [wr, ownW, kidsOf]
theorem flat_lenEq {f : Sch → List Sch} {g : Sch → Int} : ∀ ks : List Sch, (∀ s ∈ ks, ((f s).length : Int) = g s) → (((ks.map f).flatten).length : Int) = (ks.map g).sum
  | [], _ => rfl
  | s :: r, h => by
    rw [List.map_cons, List.flatten_cons, List.length_append, List.map_cons, List.sum_cons]
    have := h s List.mem_cons_self
    have := flat_lenEq r fun s hs => h s (List.mem_cons_of_mem _ hs)
    omega
theorem flat_sumEq {f : Sch → List Sch} {o g : Sch → Int} : ∀ ks : List Sch, (∀ s ∈ ks, ((f s).map o).sum = g s) → (((ks.map f).flatten).map o).sum = (ks.map g).sum
  | [], _ => rfl
  | s :: r, h => by
    rw [List.map_cons, List.flatten_cons, List.map_append, List.sum_append, List.map_cons, List.sum_cons, h s List.mem_cons_self, flat_sumEq r fun s hs => h s (List.mem_cons_of_mem _ hs)]
theorem pre_len {i M : Nat} : ∀ (d : Nat) (s : Sch), OkS i M d s → ((pre d s).length : Int) = sz d s
  | 0, _, o => by cases o
  | d + 1, s, o => by
    rw [pre_succ, List.length_cons, sz_kids]
    have := flat_lenEq (f := pre d) (g := sz d) (kidsOf s) fun x hx => pre_len d x (ok_kids o x hx)
    omega
theorem pre_er {i M : Nat} (c : Nat → Int) : ∀ (d : Nat) (s : Sch), OkS i M d s → ((pre d s).map (ownE c)).sum = er c d s
  | 0, _, o => by cases o
  | d + 1, s, o => by
    rw [pre_succ, List.map_cons, List.sum_cons, er_kids, flat_sumEq (f := pre d) (g := er c d) (kidsOf s) fun x hx => pre_er c d x (ok_kids o x hx)]
theorem pre_wr {i M : Nat} (c : Nat → Int) : ∀ (d : Nat) (s : Sch), OkS i M d s → ((pre d s).map (ownW c)).sum = wr c d s
  | 0, _, o => by cases o
  | d + 1, s, o => by
    rw [pre_succ, List.map_cons, List.sum_cons, wr_kids, flat_sumEq (f := pre d) (g := wr c d) (kidsOf s) fun x hx => pre_wr c d x (ok_kids o x hx)]
/-- a scheme that was found -/
def FoundR (H : Hp) (i M : Nat) (s : Sch) (v : V) : Prop := ∃ d, SAt H (d + 1) s v ∧ OkS i M (d + 1) s
theorem FoundR.keep {H H' : Hp} {i M : Nat} {s : Sch} {v : V} (h : FoundR H i M s v) (k : TupK H H') : FoundR H' i M s v := by
  obtain ⟨d, h1, h2⟩ := h
  exact ⟨d, SAt.keep k _ _ _ h1, h2⟩
/-- a scheme that waits, behind its place -/
def WaitR (H : Hp) (i M : Nat) (x : List Nat × Sch) (v : V) : Prop := ∃ b q u, v = V.ref b ∧ H b = some (.tup [.ref q, u]) ∧ H q = some (.tup (natV x.1)) ∧ x.1.length ≤ 4 ∧ SAt H (5 - x.1.length) x.2 u ∧ OkS i M (5 - x.1.length) x.2
theorem WaitR.keep {H H' : Hp} {i M : Nat} {x : List Nat × Sch} {v : V} (h : WaitR H i M x v) (k : TupK H H') : WaitR H' i M x v := by
  obtain ⟨b, q, u, e, h1, h2, h3, h4, h5⟩ := h
  exact ⟨b, q, u, e, k _ _ h1, k _ _ h2, h3, SAt.keep k _ _ _ h4, h5⟩
def restOf (L : List (List Nat × Sch)) : List Sch := (L.map fun p => pre (5 - p.1.length) p.2).flatten
def waitsOf (wh : List Nat) (n : Nat) (ks : List Sch) : List (List Nat × Sch) := (ks.zipIdx n).map fun p => (wh ++ [p.2], p.1)
theorem rest_waits {wh : List Nat} {d : Nat} (hd : 5 - (wh.length + 1) = d) : ∀ (ks : List Sch) (n : Nat), restOf (waitsOf wh n ks) = (ks.map (pre d)).flatten
  | [], _ => rfl
  | s :: r, n => by
    have ih := rest_waits hd r (n + 1)
    unfold restOf waitsOf at ih ⊢
    rw [List.zipIdx_cons, List.map_cons, List.map_cons, List.flatten_cons, ih, List.map_cons, List.flatten_cons]
    show pre (5 - (wh ++ [n]).length) s ++ _ = _
    rw [List.length_append, List.length_singleton, hd]
theorem rest_app (a b : List (List Nat × Sch)) : restOf (a ++ b) = restOf a ++ restOf b := by
  unfold restOf
  rw [List.map_append, List.flatten_append]
theorem waits_at {H : Hp} {i M d : Nat} {wh : List Nat} (hd : 5 - (wh.length + 1) = d) : ∀ {ks : List Sch} {kv : List V} (n : Nat), Paired (SAt H d) ks kv → (∀ s ∈ ks, OkS i M d s) → ∀ {pv : List V}, Paired (PlR H) ((kv.zipIdx n).map fun p => (wh ++ [p.2], p.1)) pv → Paired (WaitR H i M) (waitsOf wh n ks) pv
  | _, _, n, .nil, _, _, .nil => .nil
  | s :: ks, v :: kv, n, .cons h t, ok, pv, hp => by
    rw [List.zipIdx_cons, List.map_cons] at hp
    cases hp with
    | @cons _ p0 _ pr h0 hr =>
      obtain ⟨b, q, e, h1, h2⟩ := h0
      have o := ok s List.mem_cons_self
      have hd0 : d ≠ 0 := fun z => by rw [z] at o; cases o
      have el : (wh ++ [n]).length = wh.length + 1 := by rw [List.length_append, List.length_singleton]
      show Paired (WaitR H i M) ((wh ++ [n], s) :: waitsOf wh (n + 1) ks) _
      refine .cons ⟨b, q, v, e, h1, h2, ?_, ?_, ?_⟩ (waits_at hd (n + 1) t (fun s hs => ok s (List.mem_cons_of_mem _ hs)) hr)
      · show (wh ++ [n]).length ≤ 4
        rw [el]
        omega
      · show SAt H (5 - (wh ++ [n]).length) s v
        rw [el, hd]
        exact h
      · show OkS i M (5 - (wh ++ [n]).length) s
        rw [el, hd]
        exact o
def SIn (K : PySem.W.Frag) (M i : Nat) (s : Sch) (pa f : Addr) (H : Hp) (m : Nat) (σ : St) (H' : Hp) : Prop :=
  ∃ (wl : Addr) (done : List Sch) (L : List (List Nat × Sch)) (fv wv : List V) (v4 v5 : Option V), σ = [some (.ref pa), some (.int ((i : Nat) : Int)), some (.ref f), some (.ref wl), v4, v5] ∧ H' f = some (.lst fv) ∧ H' wl = some (.lst wv) ∧
    Paired (FoundR H' i M) done fv ∧ Paired (WaitR H' i M) L wv ∧ done ++ restOf L = pre 5 s ∧ L.length ≤ 1000 ∧ m = (restOf L).length ∧ Same H H'
def spSchemesIn (ps : List Sch) (i : Nat) : Sp := fun vs H Q _ => ∃ (pa : Addr) (pv : List V) (s : Sch), vs = [.ref pa, .int ((i : Nat) : Int)] ∧ H pa = some (.tup pv) ∧ Paired (SAt H 5) ps pv ∧ ps[i]? = some s ∧ OkS i ps.length 5 s ∧ sz 5 s ≤ 12 ∧
  ∀ (f : Addr) (fv : List V) (H' : Hp), Same H H' → H f = none → H' f = some (.lst fv) → Paired (FoundR H' i ps.length) (pre 5 s) fv → Q (.ref f) H'
theorem paired_get2 {α β : Type} {R : α → β → Prop} : ∀ {xs : List α} {ys : List β}, Paired R xs ys → ∀ {k : Nat} {x : α}, xs[k]? = some x → ∃ y, ys[k]? = some y ∧ R x y
  | _, _, .nil, _, _, h => by simp at h
  | _, _, .cons r t, 0, _, h => by
    simp at h
    subst h
    exact ⟨_, rfl, r⟩
  | _, _, .cons _ t, k + 1, x, h => by
    obtain ⟨y, e, r⟩ := paired_get2 t (k := k) (x := x) (by simpa using h)
    exact ⟨y, by simpa using e, r⟩
theorem rest_len_le : ∀ {H : Hp} {i M : Nat} {L : List (List Nat × Sch)} {wv : List V}, Paired (WaitR H i M) L wv → L.length ≤ (restOf L).length
  | _, _, _, _, _, .nil => Nat.le_refl _
  | H, i, M, x :: L, _, .cons h t => by
    have ih := rest_len_le t
    obtain ⟨b, q, u, e, h1, h2, h3, h4, h5⟩ := h
    obtain ⟨d, hd⟩ : ∃ d, 5 - x.1.length = d + 1 := ⟨4 - x.1.length, by omega⟩
    show (x :: L).length ≤ (restOf ([x] ++ L)).length
    rw [rest_app, List.length_append, List.length_cons]
    have : 1 ≤ (restOf [x]).length := by
      show 1 ≤ ((pre (5 - x.1.length) x.2) ++ []).length
      rw [hd, pre_succ, List.append_nil, List.length_cons]
      omega
    omega
section
variable {P : Program} {w : World} {K : PySem.W.Frag} {mg : Str → Option Value} {base : Heap}
theorem ok_schemes_in {ps : List Sch} {i : Nat} (T : PTx w K mg) (D : Def K mg "schemes_in" s_schemes_in ["paper", "number"]) (DB : Def K mg "can_be" s_can_be ["thing", "number", "many"]) (DF : Def K mg "fits" s_fits psFits) (DN : Def K mg "is_number" s_is_number ["thing"])
    (DI : Def K mg "within" s_within ["scheme"]) (DP : Def K mg "placed" s_placed ["schemes", "place"]) : FnOk P w K mg base CX0 4 D.f D.fd ["paper", "number"] (spSchemesIn ps i) := by
  have GB : FnOk P w K mg base CX0 3 DB.f DB.fd ["thing", "number", "many"] (spCanBe i ps.length) := ok_can_be T DB DF DN
  have GI : FnOk P w K mg base CX0 1 DI.f DI.fd ["scheme"] spWithin := ok_within T DI
  have GP : FnOk P w K mg base CX0 1 DP.f DP.fd ["schemes", "place"] spPlaced := ok_placed T DP
  obtain ⟨tS, gS⟩ := T.mostInScheme
  obtain ⟨tL, gL⟩ := T.longest
  have nd := sc_schemes_in.nd
  refine D.ok sc_schemes_in (fun vs H Q E h => ?_) (fun cdv A outer s H vs Q E hr h => ?_)
  · obtain ⟨pa, pv, s, rfl, _⟩ := h
    rfl
  obtain ⟨pa, pv0, sc, rfl, epv, pp, es, ho, hz, q⟩ := h
  have hr1 : Room 1 _ := hr.mono (by decide)
  refine ⟨_, pss_cons (ps_set (i := 2) nd rfl (Or.inl rfl) (pe_lst pa_nil))
    (pss_cons (ps_set (i := 3) nd rfl (Or.inl rfl) (pe_lst (pa_cons (pe_tup (pa_cons (pe_tup pa_nil) (pa_cons (pe_ix ix_tup (pv 0) (pv 1) (fun _ _ => rfl)) pa_nil))) pa_nil)))
    (pss_cons (ps_while PassesOwn.never (pt_truth (pv 3) (by intro _; rfl))
      (pss_cons (ps_asg (pe_ix ix_list (pv 3) pe_int (fun _ _ => rfl)) (pg_tup (by rfl) (pgs_cons (pg_name (i := 4) nd rfl (Or.inl rfl)) (pgs_cons (pg_name (i := 5) nd rfl (Or.inl rfl)) pgs_nil))))
      (pss_cons (ps_if (PW.pt (pw_or (pt_cmpR op_eq (pe_callB call_len_seq rfl (T.free "len" (by decide +kernel)) PySem.boot_len (pa_cons (pv 2) pa_nil)) (pe_glob rfl gS (v := .int 12) ⟨_, rfl⟩) (nomark _)) (pw_or1 (pt_cmpR op_gt (pe_callB call_len_seq rfl (T.free "len" (by decide +kernel)) PySem.boot_len (pa_cons (pv 4) pa_nil)) (pe_glob rfl gL (v := .int 4) ⟨_, rfl⟩) (nomark _))))) (pss_one ps_never) pss_nil)
      (pss_cons (ps_if (pt_not (pt_val (pcall DB GB hr (pa_cons (pv 5) (pa_cons (pv 1) (pa_cons (pe_callB call_len_seq rfl (T.free "len" (by decide +kernel)) PySem.boot_len (pa_cons (pv 0) pa_nil)) pa_nil)))))) (pss_one ps_never) pss_nil)
      (pss_cons (ps_expr (pe_bm PySem.F.plainAttrs_list PySem.F.slot_list_append PySem.F.type_list_append mt_append (pv 2) (pa_cons (pv 5) pa_nil)))
      (pss_one (ps_set (i := 3) nd rfl (Or.inl rfl) (pe_op op_cat (pcall DP GP hr1 (pa_cons (pcall DI GI hr1 (pa_cons (pv 5) pa_nil)) (pa_cons (pv 4) pa_nil))) (pe_slice sl_list (pv 3) (po_some pe_int) po_none)))))))))
    (pss_one (ps_ret (pv 2))))), ?_⟩
  have hM := Paired.length pp
  have hlen : ((pre 5 sc).length : Int) = sz 5 sc := pre_len 5 sc ho
  obtain ⟨v0, ev0, hs0⟩ := paired_get2 pp es
  refine ⟨Nat.zero_le _, fun f hf => ?_⟩
  have s1 : Same H (upd H f (.lst [])) := Same.new hf
  dsimp only [gName]
  refine ⟨Nat.zero_le _, fun t0 ht0 => ?_⟩
  have s2 := s1.trans (Same.new (o := .tup []) ht0)
  refine ⟨_, rfl, _, rfl, pa, _, _, v0, rfl, rfl, SqT.of (s2 _ _ epv), atI_nat ev0, sz2, fun t1 ht1 => ?_⟩
  have s3 := s2.trans (Same.new (o := .tup [.ref t0, v0]) ht1)
  refine ⟨szN (by show 1 ≤ 1000; decide), fun wl hwl => ?_⟩
  have s4 := s3.trans (Same.new (o := .lst [.ref t1]) hwl)
  dsimp only [gName]
  have b1 := Same.new (o := .lst [V.ref t1]) hwl
  have b2 := (Same.new (o := .tup [.ref t0, v0]) ht1).trans b1
  have b3 := (Same.new (o := .tup []) ht0).trans b2
  have R0 : restOf [(([] : List Nat), sc)] = pre 5 sc := by show pre 5 sc ++ [] = _; rw [List.append_nil]
  refine ⟨fun m σ H' => SIn K ps.length i sc pa f H m σ H', ⟨(restOf [([], sc)]).length, wl, [], [([], sc)], [], [.ref t1], none, none, rfl, b3 _ _ upd_same, upd_same, .nil, .cons ⟨t1, t0, v0, rfl, b1 _ _ upd_same, b2 _ _ upd_same, by show 0 ≤ 4; decide, SAt.keep (Same.tupK s4) _ _ _ hs0, ho⟩ .nil, R0, by show 1 ≤ 1000; decide, rfl, s4⟩, ?_⟩
  rintro m σ H1 ⟨wl1, done, L, fv, wv, v4, v5, rfl, ef, ewl, pf, pw, eall, hL, em, sm⟩
  have lall := congrArg List.length eall
  rw [List.length_append] at lall
  have hrl := rest_len_le pw
  have lfv := Paired.length pf
  have lwv := Paired.length pw
  refine ⟨_, rfl, !wv.isEmpty, .inl ⟨_, SqL.of ewl, rfl⟩, ?_⟩
  cases pw with
  | nil =>
    have e : done = pre 5 sc := by rw [← eall]; show done = done ++ []; rw [List.append_nil]
    rw [e] at pf
    exact iteF ⟨_, rfl, q f fv H1 sm hf ef pf⟩
  | @cons x vb L' wr hx hrest =>
    obtain ⟨b, qa, u, rfl, eb, eqa, hx4, hsx, hox⟩ := hx
    obtain ⟨wh, s'⟩ := x
    have hx4 : wh.length ≤ 4 := hx4
    obtain ⟨d, hd⟩ : ∃ d, 5 - wh.length = d + 1 := ⟨4 - wh.length, by omega⟩
    have hsx : SAt H1 (5 - wh.length) s' u := hsx
    have hox : OkS i ps.length (5 - wh.length) s' := hox
    rw [hd] at hsx hox
    have eR : restOf ((wh, s') :: L') = s' :: (((kidsOf s').map (pre d)).flatten ++ restOf L') := by
      show pre (5 - wh.length) s' ++ restOf L' = _
      rw [hd, pre_succ]
      rfl
    rw [eR] at eall lall em hrl
    rw [List.length_cons] at lall em
    have hrl' : L'.length ≤ 12 := by
      rw [List.length_cons, List.length_cons] at hrl
      omega
    refine iteT ⟨fun σ' H' => ∃ m', m' < m ∧ SIn K ps.length i sc pa f H m' σ' H', fun _ _ z => z, ?_⟩
    refine ⟨_, rfl, wl1, _, 0, .ref b, rfl, rfl, SqL.of ewl, at0, b, _, rfl, SqT.of eb, rfl, _, _, rfl, _, _, rfl, rfl, ?_⟩
    dsimp only [gName]
    refine seq_if (b := false || false) (ev_or (b := false) (c := false) (fun Q q => ⟨_, rfl, f, _, rfl, .inl (SqL.of ef), rfl, _, rfl, by
        rw [decide_eq_false (fun z => by have z2 := V.int.inj z; omega)]
        exact q⟩) (fun Q q => ⟨_, rfl, qa, _, rfl, .inr (SqT.of eqa), _, _, rfl, rfl, _, rfl, by
        rw [decide_eq_false (show ¬ ((4 : Int) < (((natV wh).length : Nat) : Int)) by rw [natV_len]; omega)]
        exact q⟩)) (fun z => nomatch z) (fun _ => ?_)
    refine seq_new (b := false) (fun Q q => ⟨_, rfl, _, rfl, _, rfl, pa, _, rfl, .inr (SqT.of (sm _ _ epv)), u, s', d, by rw [hM]; rfl, hsx, hox, fun H3 s3 => ⟨_, rfl, q H3 s3⟩⟩) (fun z => nomatch z) (fun _ H3 s3 => ?_)
    have ef3 := s3 _ _ ef
    refine ⟨_, rfl, .inl ⟨rfl, _, SqL.of ef3⟩, _, rfl, f, _, _, rfl, rfl, ef3, small1000 (by omega), ?_⟩
    have t4 : TupK H1 (upd H3 f (.lst (fv ++ [u]))) := (Same.tupK s3).trans (TupK.put ef3)
    have ef4 : upd H3 f (.lst (fv ++ [u])) f = some (.lst (fv ++ [u])) := upd_same
    have nfw : wl1 ≠ f := fun z => by
      rw [z, ef] at ewl
      have e2 := HO.lst.inj (Option.some.inj ewl)
      subst e2
      cases pf with
      | @cons s9 v9 _ _ h9 _ =>
        obtain ⟨d9, h9, _⟩ := h9
        obtain ⟨a9, nm9, r9, e9, ea9⟩ := h9.tag
        cases e9
        rw [eb] at ea9
        cases ea9
    have ewl4 : upd H3 f (.lst (fv ++ [u])) wl1 = some (.lst (V.ref b :: wr)) := by rw [upd_ne nfw]; exact s3 _ _ ewl
    have sm4 : Same H (upd H3 f (.lst (fv ++ [u]))) := Same.newer (sm.trans s3) hf
    generalize hH4 : upd H3 f (.lst (fv ++ [u])) = H4 at t4 ef4 ewl4 sm4 ⊢
    refine ⟨_, rfl, u, s', i, ps.length, d, rfl, SAt.keep t4 _ _ _ hsx, hox, fun l kv hl at_ => ?_⟩
    have lkv := Paired.length at_
    have lkf := kids_few hox
    have s5 := Same.new (o := .lst kv) hl
    have t5 := t4.trans (Same.tupK s5)
    refine ⟨_, rfl, l, qa, kv, wh, rfl, upd_same, t5 _ _ eqa, by omega, by omega, fun g pv' H6 s6 hg eg pp6 => ?_⟩
    have s56 := s5.trans s6
    refine ⟨_, rfl, 1, rfl, wl1, _, rfl, SqL.of (s56 _ _ ewl4), fun p hp => ?_⟩
    have ec : cutV (V.ref b :: wr) (some 1) none = wr := cut_from (V.ref b :: wr) 1
    rw [ec]
    have ngp : g ≠ p := ne_of_none eg hp
    have lpv := Paired.length pp6
    have lpl : (placedL wh kv).length = kv.length := by unfold placedL; rw [List.length_map, List.length_zipIdx]
    have lcat : pv'.length + wr.length ≤ 1000 := by
      have := Paired.length hrest
      omega
    refine ⟨g, p, _, _, rfl, rfl, by rw [upd_ne ngp]; exact eg, upd_same, szN lcat, fun r hr => ?_⟩
    have s7 := (s56.trans (Same.new (o := .lst wr) hp)).trans (Same.new (o := .lst (pv' ++ wr)) hr)
    have s67 := (s6.trans (Same.new (o := .lst wr) hp)).trans (Same.new (o := .lst (pv' ++ wr)) hr)
    have t6 := (Same.new (o := .lst wr) hp).trans (Same.new (o := .lst (pv' ++ wr)) hr)
    dsimp only [gName]
    have hd' : 5 - (wh.length + 1) = d := by omega
    have tk7 := t4.trans (Same.tupK s7)
    refine ⟨(restOf (waitsOf wh 0 (kidsOf s') ++ L')).length, ?_, r, done ++ [s'], waitsOf wh 0 (kidsOf s') ++ L', fv ++ [u], pv' ++ wr, _, _, rfl, s7 _ _ ef4, upd_same, ?_, ?_, ?_, ?_, rfl, sm4.trans s7⟩
    · rw [rest_app, rest_waits hd']
      omega
    · exact paired_app (paired_imp pf fun _ _ h => FoundR.keep h tk7) (.cons ⟨d, SAt.keep tk7 _ _ _ hsx, hox⟩ .nil)
    · refine paired_app ?_ (paired_imp hrest fun _ _ h => WaitR.keep h tk7)
      exact waits_at hd' 0 (paired_imp at_ fun _ _ h => SAt.keep (Same.tupK (s5.trans s67)) _ _ _ h) (ok_kids hox) (paired_imp pp6 fun _ _ h => PlR.keep h (Same.tupK t6))
    · rw [rest_app, rest_waits hd', ← eall]
      simp
    · rw [List.length_append]
      unfold waitsOf
      rw [List.length_map, List.length_zipIdx]
      omega
end
end MS
end
section
set_option maxRecDepth 100000
set_option maxHeartbeats 4000000
namespace MS
open PySem L2
/-! ### how many of some names -/
def rGetL (K : PySem.W.Frag) : V → V → Hp → VK → Prop := fun x y H Q => ∃ p xs i v, x = .ref p ∧ y = .int i ∧ SqL K H p xs ∧ 0 ≤ i ∧ xs[i.toNat]? = some v ∧ Q v H
theorem pget_list {X : Cx} : PGet X (rGetL X.K) := by
  intro pins s σ H o i ov iv Q I ro ri h
  obtain ⟨p, xs, k, v, rfl, rfl, hq, h0, he, q⟩ := h
  cases ro
  obtain ⟨t, rfl⟩ := ri
  obtain ⟨its, r, pl, hz⟩ := I.list hq
  obtain ⟨w, ew, rw'⟩ := r.get he
  have hl := r.length
  have hn := line63
  have hk := (List.getElem?_eq_some_iff.mp he).1
  exact PyProof.Rows.getItem_listL pl.isList h0 (by omega) ew ⟨v, H, I, rw', q⟩
theorem ix_nat {n k : Nat} (h : k < n) : ixN n ((k : Nat) : Int) = some k := by
  unfold ixN
  rw [if_pos (by omega), if_pos (by omega)]
  congr 1
def own (E : Bool) (c : Nat → Int) (s : Sch) : Int := match E with
  | true => ownE c s
  | false => ownW c s
def namesV (E : Bool) : List V := match E with
  | true => [.str "step", .str "end"]
  | false => [.str "seen", .str "behind"]
theorem names_flat (E : Bool) : (namesV E).all flatV = true := by cases E <;> rfl
theorem own_tag {H : Hp} {d : Nat} {s : Sch} {a : Addr} {nm : Str} {rest : List V} (h : SAt H (d + 1) s (.ref a)) (ea : H a = some (.tup (.str nm :: rest))) :
    (∃ n, s = .use n ∧ nm = "use" ∧ rest = [.int ((n : Nat) : Int)]) ∨ ((nm == "use") = false ∧ ∀ E c, own E c s = if inV (.str nm) (namesV E) = true then 1 else 0) := by
  have inj : ∀ {a' : Addr} {nm' : Str} {rest' : List V}, (V.ref a = V.ref a') → H a' = some (.tup (.str nm' :: rest')) → nm' = nm ∧ rest' = rest := fun e h => by
    cases e
    rw [ea] at h
    cases h
    exact ⟨rfl, rfl⟩
  cases s with
  | step x p =>
    obtain ⟨a', e, h⟩ := h
    obtain ⟨rfl, rfl⟩ := inj e h
    refine .inr ⟨by decide +kernel, fun E c => ?_⟩
    cases E
    · show (0 : Int) = if inV (.str "step") [.str "seen", .str "behind"] = true then 1 else 0
      decide +kernel
    · show (1 : Int) = if inV (.str "step") [.str "step", .str "end"] = true then 1 else 0
      decide +kernel
  | all k =>
    obtain ⟨a', b, vs, e, h, _⟩ := h
    obtain ⟨rfl, rfl⟩ := inj e h
    refine .inr ⟨by decide +kernel, fun E c => ?_⟩
    cases E
    · show (0 : Int) = if inV (.str "all") [.str "seen", .str "behind"] = true then 1 else 0
      decide +kernel
    · show (0 : Int) = if inV (.str "all") [.str "step", .str "end"] = true then 1 else 0
      decide +kernel
  | best k =>
    obtain ⟨a', b, vs, e, h, _⟩ := h
    obtain ⟨rfl, rfl⟩ := inj e h
    refine .inr ⟨by decide +kernel, fun E c => ?_⟩
    cases E
    · show (0 : Int) = if inV (.str "best") [.str "seen", .str "behind"] = true then 1 else 0
      decide +kernel
    · show (0 : Int) = if inV (.str "best") [.str "step", .str "end"] = true then 1 else 0
      decide +kernel
  | most n s =>
    obtain ⟨a', u, e, h, _⟩ := h
    obtain ⟨rfl, rfl⟩ := inj e h
    refine .inr ⟨by decide +kernel, fun E c => ?_⟩
    cases E
    · show (0 : Int) = if inV (.str "most") [.str "seen", .str "behind"] = true then 1 else 0
      decide +kernel
    · show (0 : Int) = if inV (.str "most") [.str "step", .str "end"] = true then 1 else 0
      decide +kernel
  | half s =>
    obtain ⟨a', u, e, h, _⟩ := h
    obtain ⟨rfl, rfl⟩ := inj e h
    refine .inr ⟨by decide +kernel, fun E c => ?_⟩
    cases E
    · show (0 : Int) = if inV (.str "half") [.str "seen", .str "behind"] = true then 1 else 0
      decide +kernel
    · show (0 : Int) = if inV (.str "half") [.str "step", .str "end"] = true then 1 else 0
      decide +kernel
  | seen x s =>
    obtain ⟨a', u, e, h, _⟩ := h
    obtain ⟨rfl, rfl⟩ := inj e h
    refine .inr ⟨by decide +kernel, fun E c => ?_⟩
    cases E
    · show (1 : Int) = if inV (.str "seen") [.str "seen", .str "behind"] = true then 1 else 0
      decide +kernel
    · show (0 : Int) = if inV (.str "seen") [.str "step", .str "end"] = true then 1 else 0
      decide +kernel
  | behind x s =>
    obtain ⟨a', u, e, h, _⟩ := h
    obtain ⟨rfl, rfl⟩ := inj e h
    refine .inr ⟨by decide +kernel, fun E c => ?_⟩
    cases E
    · show (1 : Int) = if inV (.str "behind") [.str "seen", .str "behind"] = true then 1 else 0
      decide +kernel
    · show (0 : Int) = if inV (.str "behind") [.str "step", .str "end"] = true then 1 else 0
      decide +kernel
  | carry s =>
    obtain ⟨a', u, e, h, _⟩ := h
    obtain ⟨rfl, rfl⟩ := inj e h
    refine .inr ⟨by decide +kernel, fun E c => ?_⟩
    cases E
    · show (0 : Int) = if inV (.str "carry") [.str "seen", .str "behind"] = true then 1 else 0
      decide +kernel
    · show (0 : Int) = if inV (.str "carry") [.str "step", .str "end"] = true then 1 else 0
      decide +kernel
  | fin x p s =>
    obtain ⟨a', u, e, h, _⟩ := h
    obtain ⟨rfl, rfl⟩ := inj e h
    refine .inr ⟨by decide +kernel, fun E c => ?_⟩
    cases E
    · show (0 : Int) = if inV (.str "end") [.str "seen", .str "behind"] = true then 1 else 0
      decide +kernel
    · show (1 : Int) = if inV (.str "end") [.str "step", .str "end"] = true then 1 else 0
      decide +kernel
  | use n =>
    obtain ⟨a', e, h⟩ := h
    obtain ⟨rfl, rfl⟩ := inj e h
    exact .inl ⟨n, rfl, rfl, rfl⟩
def mvOf (N : Nat) (g : Nat → Int) : List V := (List.range N).map fun j => V.int (g j)
theorem mv_len (N : Nat) (g : Nat → Int) : (mvOf N g).length = N := by unfold mvOf; simp
theorem mv_get {N k : Nat} {g : Nat → Int} (h : k < N) : (mvOf N g)[k]? = some (.int (g k)) := by
  unfold mvOf
  rw [List.getElem?_map, List.getElem?_range h]
  rfl
theorem mv_congr {N : Nat} {g g' : Nat → Int} (h : ∀ j, j < N → g j = g' j) : mvOf N g = mvOf N g' := by
  unfold mvOf
  exact List.map_congr_left fun j hj => by rw [h j (List.mem_range.mp hj)]
theorem mv_set (N k : Nat) (g : Nat → Int) (z : Int) : (mvOf N g).set k (.int z) = mvOf N (fun j => if j = k then z else g j) := by
  refine List.ext_getElem (by simp [mvOf]) fun j h1 h2 => ?_
  simp only [mvOf, List.getElem_set, List.getElem_map, List.getElem_range]
  by_cases e : k = j
  · subst e
    simp
  · rw [if_neg e, if_neg (fun z => e z.symm)]
theorem mv_zero {N : Nat} {g : Nat → Int} (h : ∀ j, j < N → g j = 0) : mvOf N g = List.replicate N (V.int 0) := by
  refine List.ext_getElem (by simp [mvOf]) fun j h1 h2 => ?_
  simp only [mvOf, List.getElem_map, List.getElem_range, List.getElem_replicate]
  rw [h j (by simpa [mvOf] using h1)]
/-- the schemes of each of a paper stand at plv -/
def PartsAt (H : Hp) (ps : List Sch) (plv : List V) : Prop := ∀ j s, ps[j]? = some s → ∃ fj fv, plv[j]? = some (V.ref fj) ∧ H fj = some (.lst fv) ∧ Paired (FoundR H j ps.length) (pre 5 s) fv
theorem PartsAt.keep {H H' : Hp} {ps : List Sch} {plv : List V} (h : PartsAt H ps plv) (k : Same H H') : PartsAt H' ps plv := fun j s e => by
  obtain ⟨fj, fv, h1, h2, h3⟩ := h j s e
  exact ⟨fj, fv, h1, k _ _ h2, paired_imp h3 fun _ _ h => FoundR.keep h (Same.tupK k)⟩
def spMany (K : PySem.W.Frag) (E : Bool) (ps : List Sch) (c : Nat → Int) : Sp := fun vs H Q _ => ∃ (na pl : Addr) (plv : List V), vs = [.ref na, .ref pl] ∧ (∀ H', SqT K H' na (namesV E)) ∧ H pl = some (.lst plv) ∧ plv.length = ps.length ∧ 0 < ps.length ∧ ps.length ≤ 5 ∧ PartsAt H ps plv ∧
  (∀ j s, ps[j]? = some s → c j = ((pre 5 s).map (own E c)).sum) ∧ ∀ H', Same H H' → Q (.int (c 0)) H'
section
variable {P : Program} {w : World} {K : PySem.W.Frag} {mg : Str → Option Value} {base : Heap}
theorem ok_many_of {E : Bool} {ps : List Sch} {c : Nat → Int} (T : PTx w K mg) (D : Def K mg "many_of" s_many_of ["names", "parts"]) : FnOk P w K mg base CX0 1 D.f D.fd ["names", "parts"] (spMany K E ps c) := by
  have nd := sc_many_of.nd
  refine D.ok sc_many_of (fun vs H Q E h => ?_) (fun cdv A outer s H vs Q E' hr h => ?_)
  · obtain ⟨na, pl, plv, rfl, _⟩ := h
    rfl
  obtain ⟨na, pl, plv, rfl, hna, epl, hl, h0, h5, hparts, hc, q⟩ := h
  refine ⟨_, pss_cons (ps_set (i := 2) nd rfl (Or.inl rfl) (pe_op op_rep (pe_lst (pa_cons pe_int pa_nil)) (pe_callB call_len_seq rfl (T.free "len" (by decide +kernel)) PySem.boot_len (pa_cons (pv 1) pa_nil))))
    (pss_cons (ps_for PassesOwn.never rfl (pi_revR rfl (T.free "reversed" (by decide +kernel)) (prg_1 rfl (T.free "range" (by decide +kernel)) (pe_callB call_len_seq rfl (T.free "len" (by decide +kernel)) PySem.boot_len (pa_cons (pv 1) pa_nil)))) (pg_name (i := 3) nd rfl (Or.inl rfl))
      (pss_one (ps_for PassesOwn.never rfl (pi_list (pe_ix ix_list (pv 1) (pv 3) (fun _ _ => rfl))) (pg_name (i := 4) nd rfl (Or.inl rfl))
        (pss_one (ps_if (pt_cmpR op_eq (pe_ix ix_tup (pv 4) pe_int (fun _ _ => rfl)) pe_str (nomark _))
          (pss_one (ps_augS (pv 2) (pv 3) pget_list (pe_ix ix_list (pv 2) (pe_ix ix_tup (pv 4) pe_int (fun _ _ => rfl)) (fun _ _ => rfl)) ip_add set_list))
          (pss_one (ps_if (pt_cmpR op_in_seq (pe_ix ix_tup (pv 4) pe_int (fun _ _ => rfl)) (pv 0) (by rfl)) (pss_one (ps_augS (pv 2) (pv 3) pget_list pe_int ip_add set_list)) pss_nil)))))))
    (pss_one (ps_ret (pe_ix ix_list (pv 2) pe_int (fun _ _ => rfl))))), ?_⟩
  have hN : (((plv.length : Nat) : Int) - 0).toNat = ps.length := by rw [hl]; omega
  refine ⟨szN (by show 1 ≤ 1000; decide), fun p0 hp0 => ?_⟩
  have s1 : Same H (upd H p0 (.lst [.int 0])) := Same.new hp0
  refine ⟨_, rfl, pl, _, rfl, .inl (SqL.of (s1 _ _ epl)), p0, _, _, rfl, rfl, upd_same, by omega, by omega, szN (by show 1 * _ ≤ 1000; omega), fun ml hml => ?_⟩
  rw [flat_rep, show (((plv.length : Nat) : Int)).toNat = ps.length by omega]
  have s2 := s1.trans (Same.new (o := .lst (List.replicate ps.length (V.int 0))) hml)
  have hm0 : H ml = none := s1.free hml
  dsimp only [gName]
  refine ⟨_, rfl, pl, _, rfl, .inl (SqL.of (s2 _ _ epl)), _, rfl, by omega, by omega, by omega, by omega, ?_⟩
  refine for_rangeC (lo := 0 + ((((plv.length : Nat) : Int) - 0).toNat : Int) - 1) (c := -1) (n := (((plv.length : Nat) : Int) - 0).toNat) (fun i σ H' => ∃ v3 v4 : Option V, σ = [some (.ref na), some (.ref pl), some (.ref ml), v3, v4] ∧ H' ml = some (.lst (mvOf ps.length fun j => if ps.length - i ≤ j then c j else 0)) ∧ Same H H')
    ⟨none, none, rfl, by rw [mv_zero fun j hj => if_neg (by omega)]; exact upd_same, s2⟩ ?_ ?_
  · rintro i σ H1 hi ⟨v3, v4, rfl, em, sm⟩
    rw [hN] at hi
    dsimp only [gName]
    have ez : 0 + ((((plv.length : Nat) : Int) - 0).toNat : Int) - 1 + ((i : Nat) : Int) * -1 = ((ps.length - 1 - i : Nat) : Int) := by rw [hN]; omega
    rw [ez]
    have hk : ps.length - 1 - i < ps.length := by omega
    obtain ⟨fj, fv, e1, e2, e3⟩ := hparts _ _ (List.getElem?_eq_getElem hk)
    have ck := hc _ _ (List.getElem?_eq_getElem hk)
    have lfv := Paired.length e3
    generalize hs : ps[ps.length - 1 - i]'hk = s at e3 ck lfv
    have hki : ps.length - 1 - i + 1 = ps.length - i := by omega
    generalize ps.length - 1 - i = k at e1 e3 ck hk hki ⊢
    refine ⟨_, rfl, _, rfl, pl, _, _, .ref fj, rfl, rfl, SqL.of (sm _ _ epl), atI_nat e1, fj, rfl, ⟨_, SqL.of (sm _ _ e2)⟩, ?_⟩
    have gt : ∀ t, t < (pre 5 s).length → ∀ s', (pre 5 s)[t]? = some s' → (((pre 5 s).take (t + 1)).map (own E c)).sum = (((pre 5 s).take t).map (own E c)).sum + own E c s' := fun t ht s' e => by
      rw [List.take_succ, e, List.map_append, List.sum_append]
      simp
    have hstart : ∀ j, (if ps.length - i ≤ j then c j else 0) = if j = k then (((pre 5 s).take 0).map (own E c)).sum else if ps.length - i ≤ j then c j else 0 := fun j => by
      by_cases ej : j = k
      · rw [if_pos ej, if_neg (by omega)]
        rfl
      · rw [if_neg ej]
    refine for_list (K := K) (a := fj) (xs := fv) (fun t σ H' => ∃ v4 : Option V, σ = [some (.ref na), some (.ref pl), some (.ref ml), some (.int ((k : Nat) : Int)), v4] ∧ H' ml = some (.lst (mvOf ps.length fun j => if j = k then (((pre 5 s).take t).map (own E c)).sum else if ps.length - i ≤ j then c j else 0)) ∧ Same H H')
      ⟨v4, rfl, by rw [em]; exact congrArg (fun z => some (HO.lst z)) (mv_congr fun j _ => hstart j), sm⟩ (fun t σ H' _ ⟨_, _, _, s5⟩ => SqL.of (s5 _ _ e2)) ?_ ?_
    · rintro t y σ H2 hy ⟨v4', rfl, em2, s5⟩
      obtain ⟨s', es', d, hsx, hox⟩ := paired_get' e3 hy
      have htl := (List.getElem?_eq_some_iff.mp es').1
      have gt1 := gt t htl s' es'
      obtain ⟨a, nm, rest, rfl, ea⟩ := hsx.tag
      have ea2 := s5 _ _ ea
      dsimp only [gName]
      have fin : ∀ z : Int, (((pre 5 s).take (t + 1)).map (own E c)).sum = z → ∃ v4 : Option V, [some (V.ref na), some (V.ref pl), some (V.ref ml), some (V.int ((k : Nat) : Int)), some (V.ref a)] = [some (V.ref na), some (V.ref pl), some (V.ref ml), some (V.int ((k : Nat) : Int)), v4] ∧
          upd H2 ml (.lst ((mvOf ps.length fun j => if j = k then (((pre 5 s).take t).map (own E c)).sum else if ps.length - i ≤ j then c j else 0).set k (.int z))) ml = some (.lst (mvOf ps.length fun j => if j = k then (((pre 5 s).take (t + 1)).map (own E c)).sum else if ps.length - i ≤ j then c j else 0)) ∧
          Same H (upd H2 ml (.lst ((mvOf ps.length fun j => if j = k then (((pre 5 s).take t).map (own E c)).sum else if ps.length - i ≤ j then c j else 0).set k (.int z)))) := fun z hz => by
        refine ⟨_, rfl, ?_, Same.newer s5 hm0⟩
        rw [upd_same, mv_set]
        congr 2
        refine mv_congr fun j hj => ?_
        by_cases ej : j = k
        · rw [if_pos ej, if_pos ej, hz]
        · rw [if_neg ej, if_neg ej, if_neg ej]
      have gk : (mvOf ps.length fun j => if j = k then (((pre 5 s).take t).map (own E c)).sum else if ps.length - i ≤ j then c j else 0)[k]? = some (.int (((pre 5 s).take t).map (own E c)).sum) := by
        rw [mv_get hk, if_pos rfl]
      have ixk : ixN (mvOf ps.length fun j => if j = k then (((pre 5 s).take t).map (own E c)).sum else if ps.length - i ≤ j then c j else 0).length ((k : Nat) : Int) = some k := by rw [mv_len]; exact ix_nat hk
      refine ⟨_, rfl, a, _, 0, .str nm, rfl, rfl, SqT.of ea2, at0, rfl, _, rfl, ?_⟩
      rw [dec_str]
      rcases own_tag hsx ea with ⟨n, rfl, rfl, rfl⟩ | ⟨nu, ho⟩
      · have hn : k < n ∧ n < ps.length := hox
        rw [show (("use" : Str) == "use") = true by decide +kernel]
        have eo : own E c (.use n) = c n := by cases E <;> rfl
        rw [eo] at gt1
        have gn : (mvOf ps.length fun j => if j = k then (((pre 5 s).take t).map (own E c)).sum else if ps.length - i ≤ j then c j else 0)[n]? = some (.int (c n)) := by
          rw [mv_get hn.2, if_neg (by omega), if_pos (by omega)]
        exact iteT ⟨_, rfl, _, rfl, ml, _, _, _, rfl, rfl, SqL.of em2, by omega, gk, _, rfl, _, rfl, a, _, 1, .int ((n : Nat) : Int), rfl, rfl, SqT.of ea2, at1, ml, _, _, .int (c n), rfl, rfl, SqL.of em2, atI_nat gn, _, _, rfl, rfl, ml, _, _, k, rfl, rfl, em2, ixk, fin _ gt1⟩
      · rw [nu]
        rw [ho E c] at gt1
        refine iteF ⟨_, rfl, a, _, 0, .str nm, rfl, rfl, SqT.of ea2, at0, _, rfl, na, _, rfl, .inr (hna _), rfl, names_flat E, _, rfl, ?_⟩
        refine ite2 (fun z => ?_) (fun z => ?_)
        · have z : inV (.str nm) (namesV E) = true := z
          rw [if_pos z] at gt1
          exact ⟨_, rfl, _, rfl, ml, _, _, _, rfl, rfl, SqL.of em2, by omega, gk, _, _, rfl, rfl, ml, _, _, k, rfl, rfl, em2, ixk, fin _ gt1⟩
        · have z : ¬ inV (.str nm) (namesV E) = true := z
          rw [if_neg z, Int.add_zero] at gt1
          refine ⟨_, rfl, ?_, s5⟩
          rw [em2, gt1]
    · rintro σ H2 ⟨v4', rfl, em2, s5⟩
      rw [← lfv, List.take_length, ← ck] at em2
      refine ⟨_, _, rfl, ?_, s5⟩
      rw [em2]
      congr 2
      refine mv_congr fun j hj => ?_
      by_cases ej : j = k
      · rw [if_pos ej, if_pos (by omega), ej]
      · rw [if_neg ej]
        by_cases e2 : ps.length - i ≤ j
        · rw [if_pos e2, if_pos (by omega)]
        · rw [if_neg e2, if_neg (by omega)]
  · rintro σ H1 ⟨v3, v4, rfl, em, sm⟩
    rw [hN] at em
    refine ⟨_, rfl, ml, _, 0, .int (c 0), rfl, rfl, SqL.of em, ?_, q _ sm⟩
    refine atI_nat (j := 0) ?_
    rw [mv_get h0, if_pos (by omega)]
end
end MS
end
section
set_option maxRecDepth 100000
set_option maxHeartbeats 4000000
namespace MS
open PySem L2
/-! ### what can be a paper -/
theorem ev_or_new {t u : TT} {σ : St} {H : Hp} {b c : Bool} (h1 : ∀ Q : Bool → Hp → Prop, (∀ H', Same H H' → Q b H') → t σ H Q) (h2 : b = false → ∀ H', Same H H' → ∀ Q : Bool → Hp → Prop, (∀ H'', Same H' H'' → Q c H'') → u σ H' Q) :
    ∀ Q : Bool → Hp → Prop, (∀ H', Same H H' → Q (b || c) H') → tOr t u σ H Q := fun Q q => h1 _ fun H' s => by
  cases b with
  | true => exact iteT (q H' s)
  | false => exact iteF (h2 rfl H' s _ fun H'' s'' => q H'' (s.trans s''))
def spCheckPaper : Sp := fun vs H Q _ => ∃ (pa : Addr) (ps : List Sch) (pv : List V), vs = [.ref pa] ∧ H pa = some (.tup pv) ∧ Paired (SAt H 5) ps pv ∧ PaperOk ps ∧ ∀ H', Same H H' → Q .non H'
def spCheckPaper1 (ps : List Sch) : Sp := fun vs H Q _ => ∃ (pa : Addr) (pv : List V), vs = [.ref pa] ∧ H pa = some (.tup pv) ∧ Paired (SAt H 5) ps pv ∧ PaperOk ps ∧ ∀ H', Same H H' → Q .non H'
structure DPaper (K : PySem.W.Frag) (mg : Str → Option Value) where
  DN : Def K mg "is_number" s_is_number ["thing"]
  DF : Def K mg "fits" s_fits psFits
  DB : Def K mg "can_be" s_can_be ["thing", "number", "many"]
  DW : Def K mg "word_in" s_word_in ["scheme"]
  DI : Def K mg "within" s_within ["scheme"]
  DP : Def K mg "placed" s_placed ["schemes", "place"]
  DS : Def K mg "schemes_in" s_schemes_in ["paper", "number"]
  DM : Def K mg "many_of" s_many_of ["names", "parts"]
  DC : Def K mg "check_paper" s_check_paper ["paper"]
  DO : Def K mg "parts_of" s_parts_of ["paper", "scheme"]
  DX : Def K mg "words_in" s_words_in ["paper", "scheme"]
  DZ : Def K mg "words_of" s_words_of ["paper"]
section
variable {P : Program} {w : World} {K : PySem.W.Frag} {mg : Str → Option Value} {base : Heap}
theorem ok_check_paper1 {ps : List Sch} (T : PTx w K mg) (D : DPaper K mg) : FnOk P w K mg base CX0 5 D.DC.f D.DC.fd ["paper"] (spCheckPaper1 ps) := by
  by_cases hP : PaperOk ps
  case neg =>
    have e : spCheckPaper1 ps = fun _ _ _ _ => False := by
      funext vs H Q E
      refine propext ⟨fun h => ?_, fun h => h.elim⟩
      obtain ⟨_, _, _, _, _, z, _⟩ := h
      exact hP z
    rw [e]
    exact no_sp
  have hPl := hP.1
  have hP5 := hP.2.1
  obtain ⟨ce, cw, tl⟩ := hP.2.2
  have GS : FnOk P w K mg base CX0 4 D.DS.f D.DS.fd ["paper", "number"] (fun vs H Q E => ∃ i, spSchemesIn ps i vs H Q E) := fn_any fun i => ok_schemes_in T D.DS D.DB D.DF D.DN D.DI D.DP
  have GE : FnOk P w K mg base CX0 1 D.DM.f D.DM.fd ["names", "parts"] (spMany K true ps ce) := ok_many_of T D.DM
  have GW : FnOk P w K mg base CX0 1 D.DM.f D.DM.fd ["names", "parts"] (spMany K false ps cw) := ok_many_of T D.DM
  obtain ⟨tP, gP⟩ := T.mostInPaper
  obtain ⟨tE, gE⟩ := T.mostE
  obtain ⟨tW, gW⟩ := T.mostW
  obtain ⟨aE, hE, qE⟩ := T.earners
  obtain ⟨aW, hW, qW⟩ := T.watchers
  have nd := sc_check_paper.nd
  refine D.DC.ok sc_check_paper (fun vs H Q E h => ?_) (fun cdv A outer s H vs Q E hr h => ?_)
  · obtain ⟨pa, pv, rfl, _⟩ := h
    rfl
  obtain ⟨pa, pv0, rfl, epv, pp, _, q⟩ := h
  have hr1 : Room 1 _ := hr.mono (by decide)
  refine ⟨_, pss_cons (ps_if (PW.pt (pw_or (pt_not (pt_val (pe_callB call_isi rfl (T.free "isinstance" (by decide +kernel)) (by decide +kernel) (pa_cons (pv 0) (pa_cons (pe_bltn rfl (T.free "tuple" (by decide +kernel)) (by decide +kernel) (v := .ty "tuple") rfl) pa_nil)))))
      (pw_or1 (pt_not (pt_truth (pv 0) (by intro _; rfl)))))) (pss_one ps_never) pss_nil)
    (pss_cons (ps_set (i := 1) nd rfl (Or.inl rfl) (pe_lst pa_nil))
    (pss_cons (ps_for PassesOwn.never rfl (pi_range1 rfl (T.free "range" (by decide +kernel)) (pa_cons (pe_callB call_len_seq rfl (T.free "len" (by decide +kernel)) PySem.boot_len (pa_cons (pv 0) pa_nil)) pa_nil)) (pg_name (i := 2) nd rfl (Or.inl rfl))
      (pss_cons (ps_if (pt_cmpR op_eq (pv 2) (pe_glob rfl gP (v := .int 5) ⟨_, rfl⟩) (nomark _)) (pss_one ps_never) pss_nil)
      (pss_one (ps_expr (pe_bm PySem.F.plainAttrs_list PySem.F.slot_list_append PySem.F.type_list_append mt_append (pv 1) (pa_cons (pcall D.DS GS hr (pa_cons (pv 0) (pa_cons (pv 2) pa_nil))) pa_nil))))))
    (pss_one (ps_if (PW.pt (pw_or (pt_cmpR op_gt (pcall D.DM GE hr1 (pa_cons (pe_glob rfl hE (v := .ref aE) rfl) (pa_cons (pv 1) pa_nil))) (pe_glob rfl gE (v := .int 7) ⟨_, rfl⟩) (nomark _))
      (pw_or1 (pt_cmpR op_gt (pcall D.DM GW hr1 (pa_cons (pe_glob rfl hW (v := .ref aW) rfl) (pa_cons (pv 1) pa_nil))) (pe_glob rfl gW (v := .int 3) ⟨_, rfl⟩) (nomark _))))) (pss_one ps_never) pss_nil)))), ?_⟩
  have hM := Paired.length pp
  refine seq_if (b := false || false) (ev_or (b := false) (c := false) (fun Q q => ⟨_, rfl, _, .ty "tuple", .type "tuple", .type "tuple", true, rfl, .ty _, .base (.tup epv), kit_ty (by decide +kernel), _, rfl, q⟩)
    (fun Q q => ⟨_, rfl, true, .inr (.inl ⟨_, SqT.of epv, by cases pp with
      | nil => exact absurd hPl (by simp)
      | cons _ _ => rfl⟩), q⟩)) (fun z => nomatch z) (fun _ => ?_)
  refine ⟨Nat.zero_le _, fun p hp => ?_⟩
  have s1 : Same H (upd H p (.lst [])) := Same.new hp
  dsimp only [gName]
  refine ⟨_, rfl, pa, _, rfl, .inr (SqT.of (s1 _ _ epv)), _, rfl, by omega, by omega, ?_⟩
  have hn : (((pv0.length : Nat) : Int)).toNat = ps.length := by omega
  refine for_range (lo := 0) (n := (((pv0.length : Nat) : Int)).toNat) (fun i σ H' => ∃ (plv : List V) (v : Option V), σ = [some (.ref pa), some (.ref p), v] ∧ H' p = some (.lst plv) ∧ plv.length = i ∧
      (∀ j s, j < i → ps[j]? = some s → ∃ fj fv, plv[j]? = some (V.ref fj) ∧ fj ≠ p ∧ H' fj = some (.lst fv) ∧ Paired (FoundR H' j ps.length) (pre 5 s) fv) ∧ Same H H')
    ⟨[], none, rfl, upd_same, rfl, (fun _ _ h => by omega), s1⟩ ?_ ?_
  · rintro i σ H1 hi ⟨plv, v, rfl, ep, hl, hparts, sm⟩
    rw [hn] at hi
    have ez : (0 : Int) + ((i : Nat) : Int) = ((i : Nat) : Int) := by omega
    dsimp only [gName]
    rw [ez]
    refine seq_if (b := false) (fun Q q => ⟨_, rfl, rfl, _, rfl, by rw [decide_eq_false (fun z => by have := V.int.inj z; omega)]; exact q⟩) (fun z => nomatch z) (fun _ => ?_)
    obtain ⟨t1, t2, t3, t4, _⟩ := tl i _ (List.getElem?_eq_getElem hi)
    rw [Nat.zero_add] at t1
    refine ⟨_, rfl, .inl ⟨rfl, _, SqL.of ep⟩, _, rfl, _, rfl, i, pa, pv0, _, rfl, sm _ _ epv, paired_imp pp fun _ _ => SAt.keep (Same.tupK sm) _ _ _, List.getElem?_eq_getElem hi, t1, t4, fun f fv H2 s2 hf ef pf => ?_⟩
    have ep2 := s2 _ _ ep
    have nfp : f ≠ p := fun z => by rw [z, ep] at hf; cases hf
    have tk : TupK H2 (upd H2 p (.lst (plv ++ [.ref f]))) := TupK.put ep2
    refine ⟨p, _, _, rfl, rfl, ep2, small1000 (by omega), ?_⟩
    refine ⟨plv ++ [.ref f], _, rfl, upd_same, by rw [List.length_append, hl]; rfl, fun j s hj es => ?_, Same.newer (sm.trans s2) hp⟩
    by_cases e : j < i
    · obtain ⟨fj, fv', e1, e2, e3, e4⟩ := hparts j s e es
      exact ⟨fj, fv', by rw [List.getElem?_append_left (by omega)]; exact e1, e2, by rw [upd_ne e2]; exact s2 _ _ e3, paired_imp e4 fun _ _ h => FoundR.keep h ((Same.tupK s2).trans tk)⟩
    · have e : j = i := by omega
      subst e
      obtain rfl : ps[j] = s := Option.some.inj ((List.getElem?_eq_getElem hi).symm.trans es)
      refine ⟨f, fv, ?_, nfp, by rw [upd_ne nfp]; exact ef, paired_imp pf fun _ _ h => FoundR.keep h tk⟩
      rw [List.getElem?_append_right (by omega), hl, Nat.sub_self]
      rfl
  · rintro σ H1 ⟨plv, v, rfl, ep, hl, hparts, sm⟩
    rw [hn] at hl hparts
    have hPA : PartsAt H1 ps plv := fun j s es => by
      obtain ⟨fj, fv, e1, _, e3, e4⟩ := hparts j s (List.getElem?_eq_some_iff.mp es).1 es
      exact ⟨fj, fv, e1, e3, e4⟩
    obtain ⟨t1, t2, t3, t4, t5, t6⟩ := tl 0 _ (List.getElem?_eq_getElem hPl)
    rw [Nat.zero_add] at t2 t3
    dsimp only
    refine one_new (u := tNext) (b := false || false) (ev_or_new (b := false) (c := false) (fun Q q => ?_) (fun _ H2 s2 Q q => ?_)) (fun z => nomatch z) (fun _ H2 s2 => ?_)
    · refine ⟨_, rfl, aE, p, plv, rfl, qE, ep, hl, hPl, hP5, hPA, fun j s es => ?_, fun H2 s2 => ?_⟩
      · obtain ⟨u1, u2, _⟩ := tl j s es
        rw [Nat.zero_add] at u1 u2
        rw [u2]
        exact (pre_er ce 5 s u1).symm
      · refine ⟨_, _, rfl, rfl, _, rfl, ?_⟩
        rw [decide_eq_false (show ¬ (7 : Int) < ce 0 by omega)]
        exact q H2 s2
    · refine ⟨_, rfl, aW, p, plv, rfl, qW, s2 _ _ ep, hl, hPl, hP5, hPA.keep s2, fun j s es => ?_, fun H3 s3 => ?_⟩
      · obtain ⟨u1, _, u3, _⟩ := tl j s es
        rw [Nat.zero_add] at u1 u3
        rw [u3]
        exact (pre_wr cw 5 s u1).symm
      · refine ⟨_, _, rfl, rfl, _, rfl, ?_⟩
        rw [decide_eq_false (show ¬ (3 : Int) < cw 0 by omega)]
        exact q H3 s3
    · exact q H2 (sm.trans s2)
theorem ok_check_paper (T : PTx w K mg) (D : DPaper K mg) : FnOk P w K mg base CX0 5 D.DC.f D.DC.fd ["paper"] spCheckPaper := by
  have G : FnOk P w K mg base CX0 5 D.DC.f D.DC.fd ["paper"] (fun vs H Q E => ∃ ps, spCheckPaper1 ps vs H Q E) := fn_any fun ps => ok_check_paper1 T D
  have e : spCheckPaper = fun vs H Q E => ∃ ps, spCheckPaper1 ps vs H Q E := by
    funext vs H Q E
    refine propext ⟨fun h => ?_, fun h => ?_⟩
    · obtain ⟨pa, ps, pv, h⟩ := h
      exact ⟨ps, pa, pv, h⟩
    · obtain ⟨ps, pa, pv, h⟩ := h
      exact ⟨pa, ps, pv, h⟩
  rw [e]
  exact G
end
end MS
end
section
set_option maxRecDepth 100000
set_option maxHeartbeats 4000000
namespace MS
open PySem L2
/-- two values are of the same kinds, and the same -/
def Alk (H : Hp) : Nat → V → V → Prop
  | 0, x, y => (∃ i : Int, x = .int i ∧ y = .int i) ∨ ∃ z : Str, x = .str z ∧ y = .str z
  | n + 1, x, y => Alk H n x y ∨ ∃ (a b : Addr) (xs ys : List V), x = .ref a ∧ y = .ref b ∧ ((H a = some (.lst xs) ∧ H b = some (.lst ys)) ∨ (H a = some (.tup xs) ∧ H b = some (.tup ys))) ∧ xs.length ≤ 1000 ∧ Paired (Alk H n) xs ys
theorem Alk.keep {H H' : Hp} (k : Same H H') : ∀ (n : Nat) (x y : V), Alk H n x y → Alk H' n x y
  | 0, _, _, h => h
  | n + 1, x, y, .inl h => .inl (Alk.keep k n x y h)
  | n + 1, x, y, .inr ⟨a, b, xs, ys, e1, e2, h, l, p⟩ => .inr ⟨a, b, xs, ys, e1, e2, by
      rcases h with ⟨h1, h2⟩ | ⟨h1, h2⟩
      · exact .inl ⟨k _ _ h1, k _ _ h2⟩
      · exact .inr ⟨k _ _ h1, k _ _ h2⟩, l, paired_imp p fun x y => Alk.keep k n x y⟩
def spAlike (n : Nat) : Sp := fun vs H Q _ => ∃ x y, vs = [x, y] ∧ Alk H n x y ∧ ∀ H', Same H H' → Q (.bl true) H'
theorem Alk.up {H : Hp} {n : Nat} {x y : V} (h : Alk H n x y) : Alk H (n + 1) x y := .inl h
theorem Alk.kind {H : Hp} : ∀ {n : Nat} {x y : V}, Alk H n x y → (∃ i : Int, x = .int i ∧ y = .int i) ∨ (∃ z : Str, x = .str z ∧ y = .str z) ∨ ∃ (m : Nat) (a b : Addr) (xs ys : List V), n = m + 1 ∧ x = .ref a ∧ y = .ref b ∧ ((H a = some (.lst xs) ∧ H b = some (.lst ys)) ∨ (H a = some (.tup xs) ∧ H b = some (.tup ys))) ∧ xs.length ≤ 1000 ∧ Paired (Alk H m) xs ys
  | 0, _, _, .inl h => .inl h
  | 0, _, _, .inr h => .inr (.inl h)
  | n + 1, x, y, .inl h => by
    rcases Alk.kind h with h1 | h1 | ⟨m, a, b, xs, ys, e, e1, e2, h1, l, p⟩
    · exact .inl h1
    · exact .inr (.inl h1)
    · subst e
      exact .inr (.inr ⟨m + 1, a, b, xs, ys, rfl, e1, e2, h1, l, paired_imp p fun _ _ z => z.up⟩)
  | n + 1, x, y, .inr ⟨a, b, xs, ys, e1, e2, h, l, p⟩ => .inr (.inr ⟨n, a, b, xs, ys, rfl, e1, e2, h, l, p⟩)
theorem one_to {tc : TT} {t u : TS} {D : Ends} {σ : St} {H : Hp} {b : Bool} (h : ∀ Q : Bool → Hp → Prop, (∀ H', Same H H' → Q b H') → tc σ H Q) (k1 : b = true → ∀ H', Same H H' → t D σ H') (k2 : b = false → ∀ H', Same H H' → u D σ H') : tIfS tc t u D σ H := h _ fun H' s => by
  cases b with
  | true => exact iteT (k1 rfl H' s)
  | false => exact iteF (k2 rfl H' s)
section
variable {P : Program} {w : World} {K : PySem.W.Frag} {mg : Str → Option Value} {base : Heap}
abbrev psAlike : List Str := ["_law_found", "_law_due"]
theorem alike_turn {n : Nat} {sp' : Sp} (D : Def K mg "_law_alike" s_L_alike psAlike) (mis : mg "isinstance" = none) (mb : mg "bool" = none) (mi : mg "int" = none) (ms : mg "str" = none) (mt : mg "tuple" = none) (mli : mg "list" = none) (ml : mg "len" = none) (mr : mg "range" = none)
    (G : FnOk P w K mg base CX0 n D.f D.fd psAlike sp') (hs : ∀ n', n = n' + 1 → sp' = spAlike n') : FnOk P w K mg base CX0 (n + 1) D.f D.fd psAlike (spAlike n) := by
  have nd := sc_L_alike.nd
  refine D.ok sc_L_alike (fun vs H Q E h => ?_) (fun cdv A outer s H vs Q E hr h => ?_)
  · obtain ⟨x, y, rfl, _⟩ := h
    rfl
  obtain ⟨x, y, rfl, hxy, q⟩ := h
  refine ⟨_, pss_cons (ps_if (pt_cmpR op_isN (pv 1) pe_non (nomark _)) (pss_one (ps_ret (pe_cmpR op_isN (pv 0) pe_non (by rfl)))) pss_nil)
    (pss_cons (ps_if (pt_val (pe_callB call_isi rfl mis (by decide +kernel) (pa_cons (pv 1) (pa_cons (pe_bltn rfl mb (by decide +kernel) (v := .ty "bool") rfl) pa_nil)))) (pss_one (ps_ret (pe_and (pe_callB call_isi rfl mis (by decide +kernel) (pa_cons (pv 0) (pa_cons (pe_bltn rfl mb (by decide +kernel) (v := .ty "bool") rfl) pa_nil))) (pe_one (pe_cmpR op_eq (pv 0) (pv 1) (nomark _)))))) pss_nil)
    (pss_cons (ps_if (pt_val (pe_callB call_isi rfl mis (by decide +kernel) (pa_cons (pv 1) (pa_cons (pe_bltn rfl mi (by decide +kernel) (v := .ty "int") rfl) pa_nil)))) (pss_one (ps_ret (pe_and (pe_callB call_isi rfl mis (by decide +kernel) (pa_cons (pv 0) (pa_cons (pe_bltn rfl mi (by decide +kernel) (v := .ty "int") rfl) pa_nil)))
        (pe_and (pe_not (pe_callB call_isi rfl mis (by decide +kernel) (pa_cons (pv 0) (pa_cons (pe_bltn rfl mb (by decide +kernel) (v := .ty "bool") rfl) pa_nil)))) (pe_one (pe_cmpR op_eq (pv 0) (pv 1) (nomark _))))))) pss_nil)
    (pss_cons (ps_if (pt_val (pe_callB call_isi rfl mis (by decide +kernel) (pa_cons (pv 1) (pa_cons (pe_bltn rfl ms (by decide +kernel) (v := .ty "str") rfl) pa_nil)))) (pss_one (ps_ret (pe_and (pe_callB call_isi rfl mis (by decide +kernel) (pa_cons (pv 0) (pa_cons (pe_bltn rfl ms (by decide +kernel) (v := .ty "str") rfl) pa_nil))) (pe_one (pe_cmpR op_eq (pv 0) (pv 1) (nomark _)))))) pss_nil)
    (pss_cons (ps_if (PW.pt (pw_or (pt_cmpR op_ne (pe_callB call_isi rfl mis (by decide +kernel) (pa_cons (pv 1) (pa_cons (pe_bltn rfl mt (by decide +kernel) (v := .ty "tuple") rfl) pa_nil))) (pe_callB call_isi rfl mis (by decide +kernel) (pa_cons (pv 0) (pa_cons (pe_bltn rfl mt (by decide +kernel) (v := .ty "tuple") rfl) pa_nil))) (nomark _))
        (pw_or1 (pt_cmpR op_ne (pe_callB call_isi rfl mis (by decide +kernel) (pa_cons (pv 1) (pa_cons (pe_bltn rfl mli (by decide +kernel) (v := .ty "list") rfl) pa_nil))) (pe_callB call_isi rfl mis (by decide +kernel) (pa_cons (pv 0) (pa_cons (pe_bltn rfl mli (by decide +kernel) (v := .ty "list") rfl) pa_nil))) (nomark _))))) (pss_one (ps_ret pe_bl)) pss_nil)
    (pss_cons (ps_if (pt_cmpR op_ne (pe_callB call_len_seq rfl ml PySem.boot_len (pa_cons (pv 0) pa_nil)) (pe_callB call_len_seq rfl ml PySem.boot_len (pa_cons (pv 1) pa_nil)) (nomark _)) (pss_one (ps_ret pe_bl)) pss_nil)
    (pss_cons (ps_for PassesOwn.never rfl (pi_range1 rfl mr (pa_cons (pe_callB call_len_seq rfl ml PySem.boot_len (pa_cons (pv 1) pa_nil)) pa_nil)) (pg_name (i := 2) nd rfl (Or.inl rfl))
      (pss_one (ps_if (pt_not (pt_val (pcall D G hr (pa_cons (pe_ix ix_seq (pv 0) (pv 2) (fun _ _ => rfl)) (pa_cons (pe_ix ix_seq (pv 1) (pv 2) (fun _ _ => rfl)) pa_nil))))) (pss_one (ps_ret pe_bl)) pss_nil)))
    (pss_one (ps_ret pe_bl)))))))), ?_⟩
  have qq : ∀ b : Bool, b = true → Q (.bl b) H := fun b e => by
    subst e
    exact q H (Same.refl _)
  rcases hxy.kind with ⟨i, rfl, rfl⟩ | ⟨z, rfl, rfl⟩ | ⟨m, a, b, xs, ys, rfl, rfl, rfl, hab, hl, hp⟩
  · refine seq_if (b := false) (fun Q q => ⟨_, rfl, rfl, _, rfl, by rw [decide_eq_false (fun z => nomatch z)]; exact q⟩) (fun z => nomatch z) (fun _ => ?_)
    refine seq_if (b := false) (fun Q q => ⟨_, rfl, _, .ty "bool", .type "int", .type "bool", false, rfl, .ty _, .base (.int i), kit_ty (by decide +kernel), _, rfl, q⟩) (fun z => nomatch z) (fun _ => ?_)
    refine seq_if (b := true) (fun Q q => ⟨_, rfl, _, .ty "int", .type "int", .type "int", true, rfl, .ty _, .base (.int i), kit_ty (by decide +kernel), _, rfl, q⟩) (fun _ => ?_) (fun z => nomatch z)
    exact ⟨_, rfl, _, .ty "int", .type "int", .type "int", true, rfl, .ty _, .base (.int i), kit_ty (by decide +kernel), _, rfl, _, rfl, _, .ty "bool", .type "int", .type "bool", false, rfl, .ty _, .base (.int i), kit_ty (by decide +kernel), _, rfl, _, rfl, _, rfl, _, rfl, rfl, qq _ (decide_eq_true rfl)⟩
  · refine seq_if (b := false) (fun Q q => ⟨_, rfl, rfl, _, rfl, by rw [decide_eq_false (fun z => nomatch z)]; exact q⟩) (fun z => nomatch z) (fun _ => ?_)
    refine seq_if (b := false) (fun Q q => ⟨_, rfl, _, .ty "bool", .type "str", .type "bool", false, rfl, .ty _, .base (.str z), kit_ty (by decide +kernel), _, rfl, q⟩) (fun z => nomatch z) (fun _ => ?_)
    refine seq_if (b := false) (fun Q q => ⟨_, rfl, _, .ty "int", .type "str", .type "int", false, rfl, .ty _, .base (.str z), kit_ty (by decide +kernel), _, rfl, q⟩) (fun z => nomatch z) (fun _ => ?_)
    refine seq_if (b := true) (fun Q q => ⟨_, rfl, _, .ty "str", .type "str", .type "str", true, rfl, .ty _, .base (.str z), kit_ty (by decide +kernel), _, rfl, q⟩) (fun _ => ?_) (fun z => nomatch z)
    exact ⟨_, rfl, _, .ty "str", .type "str", .type "str", true, rfl, .ty _, .base (.str z), kit_ty (by decide +kernel), _, rfl, _, rfl, _, rfl, rfl, qq _ (decide_eq_true rfl)⟩
  · obtain rfl := hs m rfl
    have lxy := Paired.length hp
    obtain ⟨isT, tn, tya, tyb, cT, cL, sa, sb, nb, ni, nsx⟩ : ∃ (isT : Bool) (tn : String), TyX K H (.ref a) (.type tn) ∧ TyX K H (.ref b) (.type tn) ∧ PySem.W.kitOne K (.type tn) (.type "tuple") = some isT ∧ PySem.W.kitOne K (.type tn) (.type "list") = some (!isT) ∧
        (SqL K H a xs ∨ SqT K H a xs) ∧ (SqL K H b ys ∨ SqT K H b ys) ∧ PySem.W.kitOne K (.type tn) (.type "bool") = some false ∧ PySem.W.kitOne K (.type tn) (.type "int") = some false ∧ PySem.W.kitOne K (.type tn) (.type "str") = some false := by
      rcases hab with ⟨h1, h2⟩ | ⟨h1, h2⟩
      · exact ⟨false, "list", .base (.lst h1), .base (.lst h2), kit_ty (by decide +kernel), kit_ty (by decide +kernel), .inl (SqL.of h1), .inl (SqL.of h2), kit_ty (by decide +kernel), kit_ty (by decide +kernel), kit_ty (by decide +kernel)⟩
      · exact ⟨true, "tuple", .base (.tup h1), .base (.tup h2), kit_ty (by decide +kernel), kit_ty (by decide +kernel), .inr (SqT.of h1), .inr (SqT.of h2), kit_ty (by decide +kernel), kit_ty (by decide +kernel), kit_ty (by decide +kernel)⟩
    refine seq_if (b := false) (fun Q q => ⟨_, rfl, rfl, _, rfl, by rw [decide_eq_false (fun z => nomatch z)]; exact q⟩) (fun z => nomatch z) (fun _ => ?_)
    refine seq_if (b := false) (fun Q q => ⟨_, rfl, _, .ty "bool", _, .type "bool", false, rfl, .ty _, tyb, nb, _, rfl, q⟩) (fun z => nomatch z) (fun _ => ?_)
    refine seq_if (b := false) (fun Q q => ⟨_, rfl, _, .ty "int", _, .type "int", false, rfl, .ty _, tyb, ni, _, rfl, q⟩) (fun z => nomatch z) (fun _ => ?_)
    refine seq_if (b := false) (fun Q q => ⟨_, rfl, _, .ty "str", _, .type "str", false, rfl, .ty _, tyb, nsx, _, rfl, q⟩) (fun z => nomatch z) (fun _ => ?_)
    refine seq_if (b := false || false) (ev_or (b := false) (c := false) (fun Q q => ⟨_, rfl, _, .ty "tuple", _, .type "tuple", isT, rfl, .ty _, tyb, cT, _, rfl, _, .ty "tuple", _, .type "tuple", isT, rfl, .ty _, tya, cT, rfl, _, rfl, by rw [decide_eq_true rfl]; exact q⟩)
      (fun Q q => ⟨_, rfl, _, .ty "list", _, .type "list", !isT, rfl, .ty _, tyb, cL, _, rfl, _, .ty "list", _, .type "list", !isT, rfl, .ty _, tya, cL, rfl, _, rfl, by rw [decide_eq_true rfl]; exact q⟩)) (fun z => nomatch z) (fun _ => ?_)
    refine seq_if (b := false) (fun Q q => ⟨_, rfl, a, xs, rfl, sa, _, rfl, b, ys, rfl, sb, rfl, _, rfl, by rw [lxy, decide_eq_true rfl]; exact q⟩) (fun z => nomatch z) (fun _ => ?_)
    refine ⟨_, rfl, b, ys, rfl, sb, _, rfl, by omega, by omega, ?_⟩
    rw [Int.toNat_natCast]
    have ix : ∀ {c : Addr} {zs : List V} {H' : Hp} {j : Nat} {v : V} {Q : VK}, (SqL K H' c zs ∨ SqT K H' c zs) → zs[j]? = some v → Q v H' → rIx K (.ref c) (.int ((j : Nat) : Int)) H' Q := fun h e q => by
      rcases h with h | h
      · exact .inl ⟨_, _, _, _, rfl, rfl, h, atI_nat e, q⟩
      · exact .inr (.inl ⟨_, _, _, _, rfl, rfl, h, atI_nat e, q⟩)
    have seqK : ∀ {c : Addr} {zs : List V} {H' : Hp}, ((H c = some (.lst zs)) ∨ (H c = some (.tup zs))) → Same H H' → (SqL K H' c zs ∨ SqT K H' c zs) := fun h s => by
      rcases h with h | h
      · exact .inl (SqL.of (s _ _ h))
      · exact .inr (SqT.of (s _ _ h))
    have ha' : (H a = some (.lst xs)) ∨ (H a = some (.tup xs)) := hab.imp (·.1) (·.1)
    have hb' : (H b = some (.lst ys)) ∨ (H b = some (.tup ys)) := hab.imp (·.2) (·.2)
    refine for_range (lo := 0) (n := ys.length) (fun j σ H' => ∃ v2 : Option V, σ = [some (.ref a), some (.ref b), v2] ∧ Same H H') ⟨none, rfl, Same.refl _⟩ ?_ ?_
    · rintro j σ H' hj ⟨v2, rfl, s1⟩
      have hjx : j < xs.length := by omega
      have ex : xs[j]? = some (xs[j]'hjx) := List.getElem?_eq_getElem hjx
      obtain ⟨y', ey, hy⟩ : ∃ y', ys[j]? = some y' ∧ Alk H m (xs[j]'hjx) y' := by
        have eyj : ys[j]? = some (ys[j]'hj) := List.getElem?_eq_getElem hj
        obtain ⟨x', ex', hx'⟩ := paired_get' hp eyj
        rw [ex] at ex'
        cases ex'
        exact ⟨_, eyj, hx'⟩
      simp only [Int.zero_add]
      dsimp only [gName]
      refine one_to (b := false) (fun Q q => ⟨_, rfl, _, rfl, ix (seqK ha' s1) ex ⟨_, rfl, _, rfl, ix (seqK hb' s1) ey ⟨_, _, rfl, Alk.keep s1 _ _ _ hy, fun H6 s6 => ⟨_, rfl, q H6 s6⟩⟩⟩⟩) (fun z => nomatch z) (fun _ H6 s6 => ?_)
      exact ⟨_, rfl, s1.trans s6⟩
    · rintro σ H' ⟨v2, rfl, s1⟩
      exact q H' s1
theorem ok_alike (D : Def K mg "_law_alike" s_L_alike psAlike) (mis : mg "isinstance" = none) (mb : mg "bool" = none) (mi : mg "int" = none) (ms : mg "str" = none) (mt : mg "tuple" = none) (mli : mg "list" = none) (ml : mg "len" = none) (mr : mg "range" = none) :
    ∀ n : Nat, FnOk P w K mg base CX0 (n + 1) D.f D.fd psAlike (spAlike n)
  | 0 => alike_turn (sp' := fun _ _ _ _ => False) D mis mb mi ms mt mli ml mr ⟨fun vs H Q E h => h.elim, fun A outer s H args us vs Q E _ _ _ _ h => h.elim⟩ fun n' e => by omega
  | n + 1 => alike_turn (sp' := spAlike n) D mis mb mi ms mt mli ml mr (ok_alike D mis mb mi ms mt mli ml mr n) fun n' e => by
      have e' : n = n' := by omega
      rw [e']
end
end MS
end
section
set_option maxRecDepth 100000
set_option maxHeartbeats 4000000
namespace MS
open PySem L2
/-! ### match over a tuple whose first item is a text -/
inductive Caps (X : Cx) : List Pattern → List (Str × Nat) → Prop
  | nil : Caps X [] []
  | cons {n : Str} {i : Nat} {pos : Pos} {ps : List Pattern} {l : List (Str × Nat)} (hi : X.N[i]? = some n) (hx : Loc X.env.scope n) (hf : X.fn n = true ∨ X.env.scope.names.lookup n = some .local) (t : Caps X ps l) : Caps X (.MatchAs none (some n) pos :: ps) ((n, i) :: l)
def setAll : St → List Nat → List V → St
  | σ, i :: is, v :: vs => setAll (σ.set i (some v)) is vs
  | σ, _, _ => σ
section
variable {X : Cx} {pins : List (Addr × Obj)} {A : Around}
theorem Caps.each {E : Value → Shared → Prop} {s : Shared} : ∀ {ps : List Pattern} {l : List (Str × Nat)} {vs : List Value} {Q : Option (List (Str × Value)) → Shared → Prop}, Caps X ps l → vs.length = l.length → Q (some ((l.map (·.1)).zip vs)) s → wpAny (model X.prog X.w) A (matchEach ps X.env vs) Q E s
  | _, _, [], _, .nil, _, h => wpAny_matchEach_nil h
  | _, _, _ :: _, _, .nil, e, _ => nomatch e
  | _, _, [], _, .cons _ _ _ _, e, _ => nomatch e
  | _, _, v :: vs, Q, .cons hi hx hf t, e, h => wpAny_matchEach_cons (wpAny_matchPattern_Capture (Caps.each t (by simpa using e) h)) rfl
theorem Caps.len {ps : List Pattern} {l : List (Str × Nat)} (h : Caps X ps l) : ps.length = l.length := by
  induction h with
  | nil => rfl
  | cons _ _ _ _ ih => simp [ih]
theorem Caps.nostar : ∀ {ps : List Pattern} {l : List (Str × Nat)}, Caps X ps l → ∀ n, List.findIdx?.go (fun p : Pattern => p.isStar) ps n = none
  | _, _, .nil, _ => rfl
  | _, _, .cons hi hx hf t, n => by
    show (if _ then _ else _) = none
    rw [if_neg (by simp [Pattern.isStar])]
    exact Caps.nostar t (n + 1)
theorem Caps.store {E : Value → Shared → Prop} : ∀ {ps : List Pattern} {l : List (Str × Nat)} {us : List Value} {vs : List V} {σ : St} {H : Hp} {s : Shared} {Q : Unit → Shared → Prop}, Caps X ps l → X.N.Nodup → Vals vs us → us.length = l.length → Inv X pins σ H s → (∀ s', Inv X pins (setAll σ (l.map (·.2)) vs) H s' → Q () s') →
    wpAny (model X.prog X.w) A (assignInOrder ((((l.map (·.1)).zip us)).map fun (n, _) => bindName X.env n) (((l.map (·.1)).zip us).map (·.2))) Q E s
  | _, _, [], _, _, _, _, _, .nil, _, .nil, _, I, h => wpAny_assignInOrder_none (h _ I)
  | _, _, _ :: _, _, _, _, _, _, .nil, _, _, e, _, _ => nomatch e
  | _, _, [], _, _, _, _, _, .cons _ _ _ _, _, _, e, _, _ => nomatch e
  | _, _, u :: us, v :: vs, σ, H, s, Q, .cons hi hx hf t, hN, .cons r rr, e, I, h => by
    refine wpAny_assignInOrder_more ?_
    show wpAny _ _ (holding [u] point >>= fun _ => storeName X.env _ u >>= fun _ => point) _ _ _
    refine wpAny_bind (wpAny_holding (wpAny_point (wpAny_bind (store_ok I hN hi hx r (fun s' I' => ?_) hf))))
    exact wpAny_point (Caps.store t hN rr (by simpa using e) I' h)
end
/-- the cases of a match -/
abbrev TM := V → TS
structure PM (X : Cx) (cs : List MatchCase) (t : TM) : Prop where
  run : ∀ (first : Bool) (pins : List (Addr × Obj)) (s : Shared) (σ : St) (H : Hp) (x : V) (u : Value) (D : Ends), Inv X pins σ H s → RelV x u → t x D σ H → wpAny (model X.prog X.w) X.A (matchCases cs X.env u first) (SP X pins D) X.xe s
section
variable {X : Cx}
theorem pm_nil : PM X [] (fun _ D σ H => D.nx σ H) := ⟨fun first pins s σ H x u D I r h => wpAny_matchCases_nil ⟨σ, H, I, h⟩⟩
def tCase (K : PySem.W.Frag) (nm : Str) (is : List Nat) (tb : TS) (tr : TM) : TM := fun x D σ H => ∃ (a : Addr) (z : Str) (tl : List V), x = .ref a ∧ SqT K H a (.str z :: tl) ∧ tl.length ≤ 1000 ∧
  if tl.length = is.length ∧ z = nm then tb D (setAll σ is tl) H else tr x D σ H
theorem pm_cons {nm : Str} {k : Nat} {p1 p2 p3 : Pos} {ps : List Pattern} {l : List (Str × Nat)} {body : List Stmt} {cs : List MatchCase} {tb : TS} {tr : TM} (hc : X.calm = true) (hN : X.N.Nodup) (c : Caps X ps l) (hb : PSs X body tb) (hr : PM X cs tr) :
    PM X (⟨.MatchSequence (.MatchValue (.Constant (.str nm) k p1) p2 :: ps) p3, none, body⟩ :: cs) (tCase X.K nm (l.map (·.2)) tb tr) := by
  refine ⟨fun first pins s σ H x u D I r h => ?_⟩
  obtain ⟨a, z, tl, rfl, hq, hz, h⟩ := h
  obtain rfl : u = .ref a := r
  obtain ⟨its, rv, ht, _⟩ := I.tuple hq
  have hl := rv.length
  rw [List.length_cons] at hl
  have hps := c.len
  have hfit : (its.toArray.size : Int) < 2 ^ 63 := by
    rw [List.size_toArray, ← hl]
    omega
  have nost : (Pattern.MatchValue (.Constant (.str nm) k p1) p2 :: ps).findIdx? (·.isStar) = none := by
    have q := c.nostar 1
    simp only [List.findIdx?, List.findIdx?.go, Pattern.isStar, Bool.false_eq_true, if_false]
    exact q
  have nowild : ((Pattern.MatchValue (.Constant (.str nm) k p1) p2 :: ps).all fun p => p.isWildcard || (p.isStar && p.names.isEmpty)) = false := by
    simp [Pattern.isWildcard, Pattern.isStar]
  refine wpAny_matchCases_cons ?_
  by_cases hlen : tl.length = l.length
  · refine PyProof.Rows.matchSeq_tuple_hit ht hfit (by rw [List.size_toArray, ← hl, List.length_cons, hps, hlen]) ?_ nost nowild
    have esz : (Pattern.MatchValue (.Constant (.str nm) k p1) p2 :: ps).length = its.toArray.size := by rw [List.size_toArray, ← hl, List.length_cons, hps, hlen]
    rw [esz]
    refine PyProof.Rows.unpackItems_tuple (I.ok.hd hc) ht fun h' hx => ?_
    have I1 : Inv X pins σ H { s with heap := h', toks := s.toks + 1 + 1 } := I.kept (t' := s.toks + 1 + 1) fun b o e => hx b o (Nat.ne_of_lt (Heap.lt_size e)) e
    cases rv with
    | cons r0 rt =>
      rename_i u0 us
      obtain ⟨t0, rfl⟩ := r0
      have hus : us.length = l.length := by rw [← rt.length]; exact hlen
      refine wpAny_matchEach_cons (p := .MatchValue (.Constant (.str nm) k p1) p2) ?_ rfl
      refine wpAny_matchPattern_Value (Calls.Constant_str (PyProof.Rows.eq_str (wpAny_truthy_bool ?_)))
      by_cases hnm : z = nm
      · subst hnm
        rw [if_pos ⟨by rw [List.length_map]; exact hlen, rfl⟩] at h
        rw [if_pos (by simp)]
        refine c.each hus ?_
        refine c.store hN rt hus (I1.tok _) fun s' I' => ?_
        exact hb.run pins s' _ H D I' h
      · rw [if_neg (fun q => hnm q.2)] at h
        rw [if_neg (fun q => hnm (eq_of_beq q))]
        exact hr.run false pins _ σ H (.ref a) _ D (I1.tok _) rfl h
  · rw [if_neg (fun q => hlen (by rw [q.1, List.length_map]))] at h
    refine PyProof.Rows.matchSeq_tuple_miss ht hfit (by rw [List.size_toArray, ← hl, List.length_cons, hps]; omega) ?_ nost nowild
    exact hr.run false pins _ σ H (.ref a) _ D (I.tok _) rfl h
def tMatch (te : TE) (tm : TM) : TS := fun D σ H => te σ H fun x H1 => tm x D σ H1
theorem ps_match {e : Expr} {cs : List MatchCase} {te : TE} {tm : TM} {pos : Pos} (he : PE X e te) (hm : PM X cs tm) : PS X (.Match e cs pos) (tMatch te tm) := by
  refine ⟨fun pins s σ H D I h => ?_⟩
  refine wpAny_Match (thn (he.run pins s σ H _ I h) fun u s1 ⟨x, H1, I1, r1, q1⟩ => ?_)
  exact hm.run true pins s1 σ H1 x u D I1 r1 q1
end
end MS
end
section
set_option maxRecDepth 100000
set_option maxHeartbeats 4000000
namespace MS
open PySem L2
/-! ### enumerate(tuple) -/
theorem meets_enumerate_newT (l : Addr) (items : Array Value) :
    Meets (Builtin.«enumerate.__new__» ⟨[.type "enumerate", .ref l], []⟩) (fun _ R s => s.heap.IsTuple l items ∧
      R (.ok (.ret (.ref (s.heap.push { cls := .type "tuple_iterator", data := .fields #[.ref l, .int 0 0] }).objs.size)))
        { s with heap := (s.heap.push { cls := .type "tuple_iterator", data := .fields #[.ref l, .int 0 0] }).push { cls := .type "enumerate", data := .fields #[.none, .bool false, .ref s.heap.objs.size, rawInt 0, .none, .none] } }) :=
  .of_wp fun prog w A R s h => by
    obtain ⟨hp, g, d, tk, os⟩ := s; obtain ⟨hl, h⟩ := h
    have hsub := sub_enumerate
    have q1 : ∀ {A' : Around} {E : Value → Shared → Prop} {Q : Value → Shared → Prop}, Q (.ref hp.objs.size) ⟨hp.push { cls := .type "tuple_iterator", data := .fields #[.ref l, .int 0 0] }, g, d, tk, os⟩ → wpAny (model prog w) A' (pyIter (.ref l)) Q E ⟨hp, g, d, tk, os⟩ :=
      fun q => wpAny_pyIter_tuple (s := ⟨hp, g, d, tk, os⟩) hl q
    wp_walk using q1
    refine wpAny_stack_any fun st => wpAny_pure ?_
    split
    · rename_i c _ _ _ _ _
      cases (c == Value.type "enumerate")
      · wp_walk using q1
        exact ⟨_, rfl, h⟩
      · wp_walk using q1
        exact ⟨_, rfl, h⟩
    · wp_walk using q1
      exact ⟨_, rfl, h⟩
theorem call_enumerate_tuple {prog : Program} {w : World} {A : Around} {E : Value → Shared → Prop} {s : Shared} {l : Addr} {items : Array Value} {Q : Value → Shared → Prop} (hL : s.heap.IsTuple l items)
    (h : ∀ h', IsEnum h' (s.heap.objs.size + 1) s.heap.objs.size 0 .none → h'.IsTupleIter s.heap.objs.size l 0 → h'.objs.size = s.heap.objs.size + 2 →
      (∀ b o, s.heap.get? b = some o → h'.get? b = some o) → Q (.ref (s.heap.objs.size + 1)) { s with heap := h' }) :
    wpAny (model prog w) A (call (.type "enumerate") [.ref l]) Q E s := by
  refine callType_new F.called_enumerate (by decide) (F.typeCall_enumerate_1 _) (F.newCall_enumerate_1 _) (fun obj => F.args_object_init_2 obj _) F.entry_enumerate_new
    (meets_enumerate_newT l items) ⟨hL, ?_⟩
  have hz : (s.heap.push { cls := .type "tuple_iterator", data := .fields #[.ref l, .int 0 0] }).objs.size = s.heap.objs.size + 1 := Heap.size_push ..
  show _ ∧ _
  rw [hz]
  have he : IsEnum ((s.heap.push { cls := .type "tuple_iterator", data := .fields #[.ref l, .int 0 0] }).push
      { cls := .type "enumerate", data := .fields #[.none, .bool false, .ref s.heap.objs.size, rawInt 0, .none, .none] }) (s.heap.objs.size + 1) s.heap.objs.size 0 .none := by
    have := Heap.get?_push_size (s.heap.push { cls := .type "tuple_iterator", data := .fields #[.ref l, .int 0 0] })
      (o := { cls := .type "enumerate", data := .fields #[.none, .bool false, .ref s.heap.objs.size, rawInt 0, .none, .none] }) rfl
    rw [hz] at this; exact this
  refine ⟨⟨_, he, rfl⟩, h _ he ⟨_, Heap.get?_push_of_some _ (Heap.get?_push_size _ rfl), rfl, rfl⟩ (by rw [Heap.size_push, hz]) fun b o x => Heap.get?_push_of_some _ (Heap.get?_push_of_some _ x)⟩
/-- the tuple at a as it stands at each turn, each item in a new pair -/
def IteT (K : PySem.W.Frag) (a : Addr) : It :=
  ⟨fun i H => ∃ (xs : List V) (x : V), SqT K H a xs ∧ xs[i]? = some x, fun i H v H' => ∃ T x, v = .ref T ∧ H T = none ∧ H' = upd H T (.tup [.int (i : Nat), x]) ∧ ∀ xs, SqT K H a xs → xs[i]? = some x, fun i H => ∃ xs : List V, SqT K H a xs ∧ xs.length ≤ i⟩
theorem walk_enumT {K : PySem.W.Frag} {a : Addr} {xs : List V} : Walk (IteT K a) xs.length (fun H => SqT K H a xs) (YPair (fun i => some (.int (i : Nat))) (fun i => xs[i]?)) := by
  refine ⟨fun i _ hi q => ⟨xs, xs[i], q, by simp [hi]⟩, fun _ q => ⟨xs, q, Nat.le_refl _⟩, fun i H v H' _ q y => ?_⟩
  obtain ⟨T, x, h1, h2, h3, h4⟩ := y
  exact ⟨T, .int (i : Nat), x, h1, h2, h3, rfl, h4 xs q⟩
theorem turn_enumT {P : Program} {w : World} {K : PySem.W.Frag} {elts : List Expr} {kk : Nat} {tpos : Pos} (a e it : Addr) :
    Turn P w K (.Tuple elts kk tpos) (IteT K a) [e, it] e (fun i h => (∃ old, IsEnum h e it ((i : Nat) : Int) old) ∧ h.IsTupleIter it a i ∧ e ≠ it ∧ e ≠ a ∧ a ≠ it) where
  mem := by simp
  obj := fun i h st b hb => by
    obtain ⟨⟨old, he⟩, ⟨o, ho, hc, hd⟩, _⟩ := st
    have e' : b = e ∨ b = it := by simpa using hb
    rcases e' with z | z
    · rw [z]; exact ⟨_, he, fun v q => nomatch q⟩
    · rw [z]; exact ⟨o, ho, fun v q => by rw [hd] at q; cases q⟩
  keep := fun i h h' st k => let ⟨⟨old, he⟩, hi, hne⟩ := st; ⟨⟨old, k e (by simp) _ he⟩, hi.at fun o q => k it (by simp) o q, hne⟩
  item := by
    intro X hP hw hK hc i pins s σ H E I hf st hg
    subst hP hw hK
    obtain ⟨⟨old, he⟩, hit, hne, hea, hai⟩ := st
    obtain ⟨xs, x, hq, hx⟩ := hg
    obtain ⟨its, rv, p, hz⟩ := I.tuple hq
    obtain ⟨u, hu, ru⟩ := rv.get hx
    have hel : e < s.heap.objs.size := Heap.lt_size he
    have hil : it < s.heap.objs.size := by obtain ⟨_, q, _⟩ := hit; exact Heap.lt_size q
    have hlt : i < its.toArray.size := by
      have z := (List.getElem?_eq_some_iff.mp hu).1
      rw [List.size_toArray]
      exact z
    refine wpAny_pyNext_enum_itemD (Draws.tuple (A := X.A.in1) (I.ok.hd hc) it a hai its.toArray) he ⟨hit, p⟩ hlt hne (by simp [hne, hea]) fun x' h' tk hx' ho hit' hT hsz hk => ?_
    have eu : x' = u := by
      have z : its.toArray[i]? = some u := by simpa using hu
      exact Option.some.inj (hx'.symm.trans z)
    subst eu
    refine ⟨_, rfl, wpAny_letOwnedTupleGo_enum (s := { s with heap := h', toks := tk + 1 }) ho fun h'' he' sb => ?_⟩
    have hT2 : h''.get? s.heap.objs.size = some { cls := .type "tuple", data := .seq #[.int i tk, x'] } := (sb.2 _ (Nat.ne_of_gt hel)).trans hT
    have new : ObjOk X.prog X.w (upd H s.heap.objs.size (.tup [.int (i : Nat), x])) h'' s.heap.objs.size (.tup [.int (i : Nat), x]) :=
      ⟨by show 2 ≤ sizeLine; decide, [.int i tk, x'], .cons ⟨_, rfl⟩ (.cons ru .nil), ⟨_, hT2, rfl, _, rfl⟩⟩
    have I1 : Inv X pins σ (upd H s.heap.objs.size (.tup [.int (i : Nat), x])) { s with heap := h'', toks := tk + 1 } :=
      I.turnedNew (ch := [e, it]) (fun b ob hb q => (sb.2 b (fun z => hb (by simp [z]))).trans (hk b ob (fun z => hb (by simp [z])) (fun z => hb (by simp [z])) q)) hf (Nat.le_refl _) new
    refine ⟨.ref s.heap.objs.size, _, I1, rfl, ⟨_, x, rfl, I.hok.fresh (Nat.le_refl _), rfl, fun ys hy => by rw [I.tuple_inj hy hq]; exact hx⟩, ⟨⟨x', ?_⟩, hit'.1.at fun o q => (sb.2 it (Ne.symm hne)).trans q, hne, hea, hai⟩, fun b hb => ?_⟩
    · have e1 : ((i + 1 : Nat) : Int) = (i : Int) + 1 := by omega
      rw [e1]; exact he'
    · have hb' : b < s.heap.objs.size := by
        have e' : b = e ∨ b = it := by simpa using hb
        rcases e' with z | z
        · rw [z]; exact hel
        · rw [z]; exact hil
      rw [upd_ne (Nat.ne_of_lt hb')]
      exact (hf b hb).1
  done := by
    intro X hP hw hK hc i pins s σ H E I hf st hg
    subst hP hw hK
    obtain ⟨⟨old, he⟩, hit, hne, hea, hai⟩ := st
    obtain ⟨xs, hq, hx⟩ := hg
    obtain ⟨its, rv, p, hz⟩ := I.tuple hq
    obtain ⟨f0, f1, f2, f3, f4, f5⟩ := hf it (by simp)
    have hl := rv.length
    have hT : s.TypeIs (.ref e) "enumerate" := ⟨_, he, rfl⟩
    unfold pyNext
    refine wpAny_bind (wpAny_attempt (wpAny_callSpecial?_slot (name := Str.ofString "__next__") hT F.slot_enumerate_next
      (wpAny_call_entry F.slot_enumerate_next hT F.entry_enumerate_next ?_ (F.args_enumerate_next_1 _))))
    show wpAny _ _ (field (.ref e) 2 >>= _) _ _ _
    refine wpAny_bind (wpAny_field he rfl (x := .ref it) rfl ?_)
    refine wpAny_bind (wpAny_nextOf_tuple_end (A := X.A.in1) (I.ok.hd hc) hit (show s.heap.IsTuple a its.toArray from p) (by simp; omega) fun h' x he' hx' => ?_)
    obtain ⟨o, ho, hc'⟩ := hx'
    refine wpAny_bind (wpAny_isInstance (T := "StopIteration") (b := true) ⟨o, ho, hc'⟩ isSubtype_stop ?_)
    exact wpAny_pure ⟨rfl, I.turned (t' := s.toks) (fun b o hb q => he' b o hb q) f0 f1 f3 f4 f5⟩
  self := fun A i s Q E st h => let ⟨⟨_, he⟩, _⟩ := st; wpAny_pyIter_enum he h
def iEnumT (K : PySem.W.Frag) (ta : TA) : TI := fun σ H R => ta σ H fun vs H1 => ∃ a xs, vs = [.ref a] ∧ SqT K H1 a xs ∧ R (IteT K a) H1
theorem pi_enumT {X : Cx} {e : Expr} {ta : TA} {p pos tpos : Pos} {elts : List Expr} {kk : Nat} (hg : Gl X "enumerate") (hm : X.mg "enumerate" = none) (ha : PA X [e] ta) (hs : starEach [e] X.env = [(false, eval e X.env)] := by rfl) :
    PI X (.Tuple elts kk tpos) (.Call (.Name "enumerate" p) [e] [] pos) (iEnumT X.K ta) := by
  refine ⟨fun pins s σ H R I h => ?_⟩
  refine PyProof.Rows.Call_ (ld_blt I hg hm PyProof.Rows.boot_enumerate (PyProof.Rows.callWith_type1 (thn (ha.run pos pins s σ H _ I h) fun us s1 ⟨vs, H1, I1, r1, q1⟩ => ?_) hs rfl))
  obtain ⟨a, xs, ex, hq, q⟩ := q1
  subst ex
  cases r1 with
  | cons r rr =>
    cases rr
    cases r
    obtain ⟨its, rv, p', hz⟩ := I1.tuple hq
    have hal : a < s1.heap.objs.size := p'.lt
    refine call_enumerate_tuple (show s1.heap.IsTuple a its.toArray from p') fun h' he hit hsz hk => wpAny_pyIter_enum he ?_
    have I2 : Inv X pins σ H1 { s1 with heap := h' } := I1.kept (t' := s1.toks) hk
    refine ⟨s1.heap.objs.size + 1, [s1.heap.objs.size + 1, s1.heap.objs.size], _, _, H1, rfl, I2, turn_enumT a (s1.heap.objs.size + 1) s1.heap.objs.size, ⟨⟨.none, he⟩, hit, Nat.succ_ne_self _, Nat.ne_of_gt (Nat.lt_succ_of_lt hal), Nat.ne_of_lt hal⟩, fun b hb => ?_, q⟩
    have e' : b = s1.heap.objs.size + 1 ∨ b = s1.heap.objs.size := by simpa using hb
    have hle : s1.heap.objs.size ≤ b := by
      rcases e' with z | z
      · rw [z]; exact Nat.le_add_right _ _
      · rw [z]; exact Nat.le_refl _
    exact I1.fpOk hle (I1.hok.fresh hle)
end MS
end
section
set_option maxRecDepth 100000
set_option maxHeartbeats 4000000
namespace MS
open PySem L2
/-! ### max(list of objects, key=f), f a def of the text: the first of the greatest -/
def gtB (kf : Nat → Int) : Nat → Nat → Bool := fun i j => decide (kf j < kf i)
def rMaxKey (f : Addr) (sp : Sp) : List V → List V → Hp → VK → Prop := fun vs zs H Q => ∃ (a : Addr) (xs : List V) (kf : Nat → Int), vs = [.ref a] ∧ zs = [.ref f] ∧ H a = some (.lst xs) ∧ (∀ x ∈ xs, ∃ b, x = V.ref b) ∧ 0 < xs.length ∧
  (∀ H' i x, Same H H' → xs[i]? = some x → sp [x] H' (fun v H'' => v = .int (kf i) ∧ Same H' H'') E0) ∧ ∀ x H', Same H H' → xs[argBest (gtB kf) (xs.length - 1)]? = some x → Q x H'
theorem vals_refs_eq : ∀ {xs : List V} {us ws : List Value}, (∀ x ∈ xs, ∃ b, x = V.ref b) → Vals xs us → Vals xs ws → us = ws
  | _, _, _, _, .nil, .nil => rfl
  | _, _, _, h, .cons r t, .cons r' t' => by
    obtain ⟨b, rfl⟩ := h _ List.mem_cons_self
    cases r
    cases r'
    rw [vals_refs_eq (fun x hx => h x (List.mem_cons_of_mem _ hx)) t t']
theorem cr_maxKey {X : Cx} {k : Nat} {f : Addr} {fd : FuncData} {ps : List Str} {sp : Sp} (hc : X.calm = true) (F : FnOk X.prog X.w X.K X.mg X.base CX0 k f fd ps sp) (hr : Room (k + 1) X.A) (hb : Binds X.K fd ps []) : CallRK X (.builtin "max") [Str.ofString "key"] (rMaxKey f sp) := by
  intro pins s σ H vs zs us ws Q I r1 r2 h
  obtain ⟨a, xs, kf, rfl, rfl, ea, hx, hpos, hkey, hQ⟩ := h
  obtain ⟨u, rfl, ru⟩ := vals1 r1
  obtain ⟨u2, rfl, ru2⟩ := vals1 r2
  obtain rfl : u = .ref a := ru
  obtain rfl : u2 = .ref f := ru2
  show wpAny _ _ (call (.builtin "max") [.ref a] [(Str.ofString "key", .ref f)]) _ _ _
  obtain ⟨its, rv, pl, hz⟩ := I.list (SqL.of ea)
  have hlen := rv.length
  refine call_max_walkK (wpAny_pyIter_list pl.isList ?_)
  have hIn : H s.heap.objs.size = none := I.hok.fresh (Nat.le_refl _)
  have I1 : Inv X pins σ H { s with heap := s.heap.push { cls := .type "list_iterator", data := .fields #[.ref a, .int 0 0] } } := I.kept (t' := s.toks) fun b o e => Heap.get?_push_of_some _ e
  have hsz : (s.heap.push { cls := .type "list_iterator", data := .fields #[.ref a, .int 0 0] }).objs.size = s.heap.objs.size + 1 := Heap.size_push ..
  have hal : a < s.heap.objs.size := by
    obtain ⟨o, e, _⟩ := pl.isList
    exact Heap.lt_size e
  have fI : FpOk X pins H s.heap.objs.size := I.fpOk (Nat.le_refl _) hIn
  have fS : FpOk X pins H (s.heap.objs.size + 1) := I.fpOk (Nat.le_succ _) (I.hok.fresh (Nat.le_succ _))
  have hh : X.A.in1.handled = none := I.ok.hd hc
  have W := (Walks.list (prog := X.prog) (w := X.w) (A := X.A.in1) hh s.heap.objs.size a (Nat.ne_of_lt hal) its.toArray).toS
  have look : ∀ {H' : Hp} {s' : Shared}, Inv X pins σ H' s' → Same H H' → s'.heap.IsList a its.toArray := fun {H' s'} I' sm => by
    obtain ⟨its', rv', pl', _⟩ := I'.list (SqL.of (sm _ _ ea))
    rw [vals_refs_eq hx rv rv']
    exact pl'.isList
  refine ⟨s.heap.objs.size, _, _, _, _, _, _, (fun s' => ∃ H', Same H H' ∧ Inv X pins σ H' s' ∧ (∀ b ∈ [s.heap.objs.size + 1, s.heap.objs.size], H' b = none)), (fun i v _ => ∃ t, v = .int (kf i) t), gtB kf, rfl, W, ⟨⟨_, Heap.get?_push_size _ rfl, rfl, rfl⟩, look I1 (Same.refl _)⟩, ?_, by rw [List.size_toArray, ← hlen]; exact hpos, ?_, ⟨H, Same.refl _, I1, ?_⟩, ?_⟩
  · intro b hb
    have e' : b = s.heap.objs.size ∨ b = a := by simpa using hb
    have e2 : b < s.heap.objs.size + 1 := by
      rcases e' with e' | e'
      · rw [e']; exact Nat.lt_succ_self _
      · rw [e']; exact Nat.lt_succ_of_lt hal
    rw [← hsz] at e2
    exact e2
  · rw [hsz]
    refine ⟨fun s1 s2 ⟨H', sm, I', fr⟩ mv => ?_, fun i v s1 s2 h _ => h, fun i v s1 o Q' E' hi hv ⟨H', sm, I', fr⟩ hst hS hQ' => ?_, fun i j ki kj s1 Q' E' _ hki hkj q => ?_⟩
    · rw [Moved.eq_with mv]
      refine ⟨H', sm, I'.turnedL (ch := [s.heap.objs.size + 1, s.heap.objs.size]) (fun b o hb e => mv.heap b o (by simpa using hb) e) (fun b hb => ?_), fr⟩
      have e' : b = s.heap.objs.size + 1 ∨ b = s.heap.objs.size := by simpa using hb
      rcases e' with e' | e'
      · subst e'; exact ⟨fr _ (by simp), fS.2⟩
      · subst e'; exact ⟨fr _ (by simp), fI.2⟩
    · obtain ⟨x, ex, rx⟩ : ∃ x, xs[i]? = some x ∧ RelV x v := by
        have hv' : its[i]? = some v := by simpa using hv
        have hil := (List.getElem?_eq_some_iff.mp hv').1
        have hix : i < xs.length := by omega
        obtain ⟨u, hu, ru⟩ := rv.get (i := i) (x := xs[i]) (by simp [hix])
        rw [hv'] at hu
        cases hu
        exact ⟨_, by simp [hix], ru⟩
      have r' : Vals [x] [v] := .cons rx .nil
      have hsp := hkey H' i x sm ex
      have hl : ([v] : List Value).length = ps.length := by rw [← F.len _ _ _ _ hsp]; rfl
      refine wpAny_call (codeAny_mono (F.run X.A.in1 X.stack s1 H' ⟨[v], []⟩ [v] [x] _ E0 hr.in1 I'.env0.in1 (by have z := hb s1 [v] I'.kIn (by simpa using hl); simpa using z) r' hsp) fun r s2 hq => ?_)
      cases r with
      | error e => exact False.elim hq
      | ok fl =>
        cases fl with
        | next => exact False.elim hq
        | brk => exact False.elim hq
        | cont => exact False.elim hq
        | ret u =>
          have hq' : CE X.stack X.prog X.w H' s1 (fun v H'' => v = .int (kf i) ∧ Same H' H'') u s2 := hq
          obtain ⟨w', H'', os, bare, un, hok, rw', ev, sm2⟩ := hq'
          subst ev
          obtain ⟨t, rfl⟩ := rw'
          have I'' : Inv X pins σ H'' s2 := by
            obtain ⟨hp2, g2, d2, t2, os2⟩ := s2
            obtain rfl : os2 = s1.os := os
            exact I'.call (h' := hp2) (g' := g2) (d' := d2) (t' := t2) (ch := []) un hok bare (fun b z => absurd z (by simp))
          have nst : ∀ b, FpOk X pins H b → b ∉ frs X.stack := fun b fb hm => by
            rcases List.mem_cons.mp (I'.stkSub b hm) with e | e
            · exact fb.2.1 e
            · exact fb.2.2.1 e
          obtain ⟨⟨oI, hoI, hoc, hod⟩, _⟩ := hst
          have kI := un.keep _ oI hoI (fr _ (by simp)) (nst _ fI) (by simp)
          have kS := un.keep _ o hS (fr _ (by simp)) (nst _ fS) (by simp)
          have fI2 := un.free _ oI hoI (fr _ (by simp)) (by simp)
          have fS2 := un.free _ o hS (fr _ (by simp)) (by simp)
          refine hQ' _ s2 ⟨H'', sm.trans sm2, I'', fun b hb => ?_⟩ ⟨⟨oI, kI, hoc, hod⟩, look I'' (sm.trans sm2)⟩ kS ⟨t, rfl⟩ (fun j k' h => h)
          have e' : b = s.heap.objs.size + 1 ∨ b = s.heap.objs.size := by simpa using hb
          rcases e' with e' | e'
          · subst e'; exact fS2
          · subst e'; exact fI2
    · obtain ⟨ti, rfl⟩ := hki
      obtain ⟨tj, rfl⟩ := hkj
      exact CmpOf.ints_gt (prog := X.prog) (w := X.w) (A := X.A.in1) (P := fun i v => ∃ t, v = .int (kf i) t) kf (fun i v h => h) i j _ _ _ _ _ ⟨ti, rfl⟩ ⟨tj, rfl⟩ q
  · intro b hb
    have e' : b = s.heap.objs.size + 1 ∨ b = s.heap.objs.size := by simpa using hb
    rcases e' with e' | e'
    · subst e'; exact fS.1
    · subst e'; exact hIn
  · rintro v s' hv ⟨H', sm, I', _⟩
    have hv' : its[argBest (gtB kf) (its.length - 1)]? = some v := by simpa using hv
    have hil := (List.getElem?_eq_some_iff.mp hv').1
    rw [← hlen] at hil hv'
    obtain ⟨u, hu, ru⟩ := rv.get (i := argBest (gtB kf) (xs.length - 1)) (x := xs[argBest (gtB kf) (xs.length - 1)]'hil) (by simp [hil])
    rw [hv'] at hu
    cases hu
    exact ⟨_, H', I', ru, hQ _ H' sm (by simp [hil])⟩
end MS
end
section
set_option maxRecDepth 100000
set_option maxHeartbeats 4000000
/-! sorted(set(a list of texts)) -/
namespace SST
open PySem PySem.Spec PyProof.Rows L2
def keyT (e : Int × Value) : Str := match e.2 with | .str k _ => k | _ => Str.empty
def GoodT (P : Program) (w : World) (e : Int × Value) : Prop := ∃ k tk, e.2 = Value.str k tk ∧ e.1 = (PySem.strKind P w).hash k
/-- the set of the texts l at a -/
def SetT (P : Program) (w : World) (h : Heap) (a : Addr) (l : List Str) : Prop :=
  ∃ o es ep t, h.get? a = some o ∧ o.ExactSet ∧ o.data = .set es ep t ∧ (∀ e ∈ es.toList, GoodT P w e) ∧ (es.toList.map keyT).Nodup ∧ (∀ k, k ∈ l ↔ k ∈ es.toList.map keyT) ∧
    es.size ≤ l.length ∧ l.length < scanBound ∧ t.fits es.size = true ∧ Ris t.place.toList ∧ (w.params.followText "set-order" = true ∨ t.led = true)
section
variable {P : Program} {w : World} {h h' : Heap} {a : Addr} {l : List Str}
theorem SetT.at (R : SetT P w h a l) (k : ∀ o, h.get? a = some o → h'.get? a = some o) : SetT P w h' a l := by
  obtain ⟨o, es, ep, t, ho, r⟩ := R
  exact ⟨o, es, ep, t, k o ho, r⟩
theorem good_elems {l : List (Int × Value)} (g : ∀ e ∈ l, GoodT P w e) : ElemsOf (PySem.strKind P w) l := fun e he => by
  obtain ⟨k, tk, h1, h2⟩ := g e he
  exact ⟨⟨k, by rw [h1]; exact strKind_is P w k tk, h2⟩, by rw [h1] <;> rfl⟩
theorem good_is {e : Int × Value} (g : GoodT P w e) (k : Str) : (PySem.strKind P w).is k e.2 = true ↔ keyT e = k := by
  obtain ⟨k0, tk, h1, _⟩ := g
  have hk : keyT e = k0 := by unfold keyT; rw [h1]
  rw [hk, h1]
  constructor
  · intro z
    exact ((PySem.strKind P w).inj (.str k0 tk) k k0 z (strKind_is P w k0 tk)).symm
  · rintro rfl
    exact strKind_is P w k0 tk
theorem good_mem {l : List (Int × Value)} (g : ∀ e ∈ l, GoodT P w e) (k : Str) : k ∈ l.map keyT ↔ ∃ e ∈ l, (PySem.strKind P w).is k e.2 = true := by
  rw [List.mem_map]
  constructor
  · rintro ⟨e, he, q⟩
    exact ⟨e, he, (good_is (g e he) k).2 q⟩
  · rintro ⟨e, he, q⟩
    exact ⟨e, he, (good_is (g e he) k).1 q⟩
end
section
variable {P : Program} {w : World} {A : Around} {E : Value → Shared → Prop} {s : Shared} {a : Addr} {l : List Str}
theorem add_tail {g : Bool → Sem Unit} (hg : ∀ (b : Bool) (s₁ : Shared) (Q' : Unit → Shared → Prop), Q' () s₁ → wpAny (model P w) A (g b) Q' E s₁)
    {o : Obj} {es : Array (Int × Value)} {ep : Nat} {t : SetTable} (ho : s.heap.get? a = some o) (hex : o.ExactSet) (hd : o.data = .set es ep t)
    {es1 : Array (Int × Value)} {t2 : SetTable} {l' : List Str} (g1 : ∀ e ∈ es1.toList, GoodT P w e) (nd1 : (es1.toList.map keyT).Nodup) (m1 : ∀ k, k ∈ l' ↔ k ∈ es1.toList.map keyT)
    (hb1 : es1.size ≤ l'.length) (hb0 : l'.length < scanBound) (hf2 : t2.fits es1.size = true) (hr : Ris t2.place.toList) (hl : w.params.followText "set-order" = true ∨ t2.led = true) {wasDummy : Bool} {R : Option Bool → Shared → Prop}
    (hR : ∀ h', Heap.SameBut a s.heap h' → SetT P w h' a l' → R (some true) { s with heap := h' }) :
    wpAny (model P w) A (do
        storeSet a es1 t2
        if (!wasDummy && t2.tooFull) = true then do
            g (relayAll t2 es1 (SetTable.grown es1.size)).2.2
            storeSet a (relayAll t2 es1 (SetTable.grown es1.size)).1 (relayAll t2 es1 (SetTable.grown es1.size)).2.1
            pure (some true)
          else pure (some true)) R E s := by
  refine wpAny_bind (wpAny_storeSet_of ho hd ?_ (fits_of_scanBound (by omega)))
  have ho1 := store_at (es' := es1) (t' := t2) ho hd
  have sb1 := Heap.SameBut.update s.heap a (Obj.putSet es1 t2)
  split
  · have pm := relayAll_perm t2 es1 (SetTable.grown es1.size)
    have hf3 := relayAll_fits t2 es1 (SetTable.grown es1.size)
    have hr3 := relayAll_ris t2 es1 (SetTable.grown es1.size)
    have hl3 := relayAll_led t2 es1 (SetTable.grown es1.size)
    generalize relayAll t2 es1 (SetTable.grown es1.size) = Z at pm hf3 hr3 hl3 ⊢
    obtain ⟨es2, t3, gave⟩ := Z
    dsimp only at pm hf3 hr3 hl3 ⊢
    have hsz : es2.size = es1.size := by rw [← Array.length_toList, pm.length_eq, Array.length_toList]
    refine wpAny_bind (hg _ _ _ ?_)
    refine wpAny_bind (wpAny_storeSet_of ho1 rfl ?_ (fits_of_scanBound (by omega)))
    have ho2 := store_at (es' := es2) (t' := t3) ho1 rfl
    refine wpAny_pure (hR _ (sb1.trans (Heap.SameBut.update _ a _)) ?_)
    exact ⟨_, es2, _, t3, ho2, hex, rfl, fun e he => g1 e (pm.mem_iff.mp he), (pm.map keyT).nodup_iff.mpr nd1, fun k => (m1 k).trans (pm.map keyT).mem_iff.symm, by omega, hb0, by rw [hsz] at hf3 ⊢; exact hf3, hr3,
      hl.imp id fun z => by rw [hl3]; exact z⟩
  · exact wpAny_pure (hR _ sb1 ⟨_, es1, _, t2, ho1, hex, rfl, g1, nd1, m1, hb1, hb0, hf2, hr, hl⟩)
theorem add_hashed {k : Str} {tk : Tok} {Q : Bool → Shared → Prop} (R : SetT P w s.heap a l) (room : l.length + 1 < scanBound)
    (hQ : ∀ h' b, Heap.SameBut a s.heap h' → SetT P w h' a (l ++ [k]) → Q b { s with heap := h' }) :
    wpAny (model P w) A (setAddHashed a (.str k tk) ((PySem.strKind P w).hash k)) Q E s := by
  obtain ⟨o, es, ep, t, ho, hex, hd, g, nd, hm, hb, hb0, hf, hr, hl⟩ := R
  have hkey : (PySem.strKind P w).is k (.str k tk) = true := strKind_is P w k tk
  have hsc : (Value.str k tk).scannable = true := rfl
  have hel : ElemsOf (PySem.strKind P w) es.toList := good_elems g
  have lapp : (l ++ [k]).length = l.length + 1 := by simp
  unfold setAddHashed setAddHashedIn
  refine wpAny_holding (wpAny_bind (wpAny_setState_of ho hd hf ?_))
  dsimp only
  rw [byScan_of hsc (by omega) hel]
  simp only [↓reduceIte]
  unfold setAddByScan
  refine wpAny_bind ?_
  refine wpAny_bind (wpAny_rule ?_)
  refine wpAny_bind (wpAny_setScan_of hkey ho hd hf hel ?_)
  cases hfi : List.findIdx? (fun e => (PySem.strKind P w).is k e.2) es.toList with
  | some j =>
    dsimp only
    obtain ⟨hj, pj, _⟩ := List.findIdx?_eq_some_iff_getElem.mp hfi
    have hk : k ∈ l := (hm k).2 ((good_mem (P := P) (w := w) g k).2 ⟨es.toList[j], List.getElem_mem hj, pj⟩)
    refine wpAny_pure (wpAny_pure ?_)
    exact hQ s.heap _ (Heap.SameBut.refl a s.heap) ⟨o, es, ep, t, ho, hex, hd, g, nd, fun i => by
      rw [List.mem_append, List.mem_singleton, ← hm i]
      exact ⟨fun z => z.elim id (fun e => e ▸ hk), .inl⟩, by omega, by omega, hf, hr, hl⟩
  | none =>
    dsimp only
    have hnk : k ∉ es.toList.map keyT := fun z => by
      obtain ⟨e, he, q⟩ := (good_mem (P := P) (w := w) g k).1 z
      have c := List.findIdx?_eq_none_iff.mp hfi e he
      rw [q] at c
      cases c
    have hgw : ∀ (b : Bool) {s₁ : Shared} {Q' : Unit → Shared → Prop}, Q' () s₁ → wpAny (model P w) A (match b with | true => rule "set.scan.the-table-gave-way" | false => pure ()) Q' E s₁ :=
      fun b s₁ Q' q => by cases b <;> first | exact wpAny_pure q | exact wpAny_rule q
    have pm := layNew_perm t es ((PySem.strKind P w).hash k) (.str k tk)
    have hf1 := layNew_fits t es ((PySem.strKind P w).hash k) (.str k tk)
    have hr1 := layNew_ris t es ((PySem.strKind P w).hash k) (.str k tk) hr
    have hl1 := layNew_led t es ((PySem.strKind P w).hash k) (.str k tk)
    generalize layNew t es ((PySem.strKind P w).hash k) (.str k tk) = Z at pm hf1 hr1 hl1 ⊢
    obtain ⟨es1, t1, wasDummy, gave⟩ := Z
    dsimp only at pm hf1 hr1 hl1 ⊢
    rw [Array.toList_push] at pm
    have pc : es1.toList.Perm (((PySem.strKind P w).hash k, Value.str k tk) :: es.toList) := pm.trans (List.perm_append_singleton _ _)
    have pk : (es1.toList.map keyT).Perm (k :: es.toList.map keyT) := pc.map keyT
    have g1 : ∀ e ∈ es1.toList, GoodT P w e := fun e he => by
      rcases List.mem_cons.mp (pc.mem_iff.mp he) with z | z
      · rw [z]; exact ⟨k, tk, rfl, rfl⟩
      · exact g e z
    have nd1 : (es1.toList.map keyT).Nodup := pk.nodup_iff.mpr (List.nodup_cons.mpr ⟨hnk, nd⟩)
    have m1 : ∀ i, i ∈ l ++ [k] ↔ i ∈ es1.toList.map keyT := fun i => by
      rw [List.mem_append, List.mem_singleton, hm i, pk.mem_iff, List.mem_cons]
      exact Or.comm
    have hsz : es1.size = es.size + 1 := by rw [← Array.length_toList, pc.length_eq, List.length_cons, Array.length_toList]
    have hled : w.params.followText "set-order" = true ∨ t1.led = true := hl.imp id fun z => by rw [hl1]; exact z
    refine wpAny_bind (hgw _ ?_)
    split
    · refine wpAny_bind ?_
      rw [hashByValue_scannable 8 hsc]
      refine wpAny_pure ?_
      refine add_tail ?_ ho hex hd g1 nd1 m1 (by omega) (by omega) ?_ ?_ ?_ ?_
      · intro b s₁ Q' q; cases b <;> first | exact wpAny_pure q | exact wpAny_rule q
      · first | (split <;> first | exact hf1 | exact SetTable.fits_plain_off hf1) | exact hf1
      · first | (split <;> exact hr1) | exact hr1
      · first | (split <;> exact hled) | exact hled
      · intro h' sb r; dsimp only; exact wpAny_pure (hQ h' _ sb r)
    · refine wpAny_bind (wpAny_pure ?_)
      simp only [↓reduceIte]
      refine add_tail ?_ ho hex hd g1 nd1 m1 (by omega) (by omega) hf1 hr1 hled ?_
      · intro b s₁ Q' q; cases b <;> first | exact wpAny_pure q | exact wpAny_rule q
      · intro h' sb r; dsimp only; exact wpAny_pure (hQ h' _ sb r)
theorem fresh_T {P : Program} {w : World} {h : Heap} : SetT P w (h.push { cls := .type "set", dict := none, data := .set #[] 0 (.fresh 0 0 (!w.params.followText "set-order")) }) h.objs.size [] :=
  ⟨_, #[], 0, _, Heap.get?_push_size _ rfl, ⟨rfl, rfl, rfl⟩, rfl, (fun e he => by simp at he), (by simp), (fun k => by simp), (by simp), (by decide), (by rfl), List.Pairwise.nil, by
    show _ ∨ (!w.params.followText "set-order") = true
    cases w.params.followText "set-order"
    · exact .inr rfl
    · exact .inl rfl⟩
theorem code_new_led (a : Value) {Q₁ : Value → Shared → Prop}
    (h : Q₁ (.ref s.heap.objs.size) { s with heap := s.heap.push { cls := .type "set", dict := none, data := .set #[] 0 (.fresh 0 0 (!w.params.followText "set-order")) } }) :
    codeAny (model P w) A (.call (.builtin "set.__new__") ⟨[.type "set", a], []⟩) (wants Q₁ E) s := by
  refine codeAny_of_tree ?_
  show wpAny _ A.in1 (do checkBuiltinCall "set.__new__" ⟨[.type "set", a], []⟩; again (.builtin "set.__new__" ⟨[.type "set", a], []⟩)) _ _ s
  refine wpAny_bind (wpAny_of_eq (F.newCall_set_1 a) (wpAny_pure ⟨plainId_quiet F.plain_set_new _, codeAny_builtin F.entry_set_new ?_⟩))
  rw [Around.under_plainId F.plain_set_new _]
  unfold Builtin.«set.__new__» Builtin.Frozenset.newClass
  have hsub := sub_set_self
  obtain ⟨hp, g, d, tk, os⟩ := s
  dsimp only
  wp_walk
  refine wpAny_askSetting (wpAny_pure ?_)
  dsimp only
  simp only [newObj]
  refine wpAny_bind (wpAny_alloc (wpAny_pure ?_))
  exact wpAny_pure h
end
section
variable {prog : Program} {w : World} {A : Around} {R : Result → Shared → Prop} {I : Addr} {fp wr : List Addr} {G : Array GenState → Array GenState → Prop} {n : Nat} {P : Nat → Value → Prop} {St : Nat → Shared → Prop}
theorem loopT (W : WalksS prog w A.in1 I fp wr G n P St) (S : Addr) (hSf : S ∉ fp) (xs : List Str) (hsz : xs.length = n) (hn1 : n ≤ 1000)
    (hval : ∀ i v, P i v → ∃ t, v = .str (xs.getD i Str.empty) t) :
    ∀ (k i : Nat) (s : Shared), n - i = k → i ≤ n → St i s → SetT prog w s.heap S (xs.take i) →
      (∀ s', Moved (S :: wr) G s s' → SetT prog w s'.heap S xs → R (.ok (.ret .none)) s') →
      codeAny (model prog w) A (.builtin "set.update.loop" ⟨[.ref S, .ref I], []⟩) R s := by
  have hSw : S ∉ wr := fun h => hSf (W.sub _ h)
  have hsub : ∀ b ∈ wr, b ∈ S :: wr := fun b hb => List.mem_cons_of_mem _ hb
  intro k
  induction k with
  | zero =>
    intro i s hk hi hst hS hR
    have hin : i = n := by omega
    subst hin
    refine codeAny_builtin PyProof.Rows.F.entry_set_update_loop ?_
    rw [Around.under_plainId PyProof.Rows.F.plain_set_update_loop _]
    show wpAny _ A.in1 (pyNext (.ref I) >>= _) _ _ s
    refine wpAny_bind (W.done s _ _ hst fun s' hm => ?_)
    show wpAny _ A.in1 (ret Value.none) _ _ s'
    refine wpAny_pure (hR s' (hm.mono hsub) ?_)
    rw [← hsz, List.take_length] at hS
    exact hS.at fun o ho => hm.heap S _ hSw ho
  | succ k ih =>
    intro i s hk hi hst hS hR
    have hlt : i < n := by omega
    refine codeAny_builtin PyProof.Rows.F.entry_set_update_loop ?_
    rw [Around.under_plainId PyProof.Rows.F.plain_set_update_loop _]
    show wpAny _ A.in1 (pyNext (.ref I) >>= _) _ _ s
    refine wpAny_bind (W.item i s _ _ hlt hst fun v s' hP hst' hm => ?_)
    obtain ⟨t, rfl⟩ := hval i v hP
    have hS' : SetT prog w s'.heap S (xs.take i) := hS.at fun o ho => hm.heap S _ hSw ho
    show wpAny _ A.in1 (holding [Value.str (xs.getD i Str.empty) t] (setAdd S (.str (xs.getD i Str.empty) t)) >>= _) _ _ s'
    refine wpAny_bind (wpAny_holding ?_)
    unfold setAdd
    refine wpAny_holding ?_
    refine wpAny_bind ((PySem.strKind prog w).pyHash (k := xs.getD i Str.empty) (strKind_is _ _ _ _) ?_)
    refine add_hashed (s := { s' with toks := s'.toks + 1 }) hS' (by rw [List.length_take]; unfold scanBound; omega) fun h' b hsb hS2 => ?_
    have hSi : SetT prog w h' S (xs.take (i + 1)) := by
      have e : xs.take (i + 1) = xs.take i ++ [xs.getD i Str.empty] := by
        have hil : i < xs.length := by omega
        rw [List.take_succ_eq_append_getElem hil, List.getD_eq_getElem?_getD, List.getElem?_eq_getElem hil]
        rfl
      rw [e]
      exact hS2
    refine wpAny_pure ⟨plainId_quiet PyProof.Rows.F.plain_set_update_loop _, ih (i + 1) _ (by omega) hlt (W.frame _ s' _ _ hst' (Nat.le_succ _) fun b hb o e => ?_) hSi fun s'' hm'' hS'' => ?_⟩
    · rw [hsb.2 b (fun h : b = S => hSf (by rw [← h]; exact hb))]; exact e
    · refine hR s'' (Moved.trans W.gtrans ((hm.mono hsub).then_heap (Nat.le_succ _) fun b o hb e => ?_) hm'') hS''
      rw [hsb.2 b (fun h : b = S => hb (by rw [h]; exact List.mem_cons_self))]; exact e
end
section
variable {prog : Program} {w : World} {A : Around} {E : Value → Shared → Prop} {s : Shared}
theorem call_setT {l : Addr} {items : Array Value} {xs : List Str} {Q : Value → Shared → Prop}
    (hh : A.handled = none) (hl : s.heap.IsList l items) (hi : PyProof.Rows.StrsAre items.toList xs) (hn1 : xs.length ≤ 1000)
    (h : ∀ (h' : Heap) (tk : Nat), SetT prog w h' s.heap.objs.size xs →
      (∀ b o, b < s.heap.objs.size → s.heap.get? b = some o → h'.get? b = some o) → Q (.ref s.heap.objs.size) { s with heap := h', toks := tk }) :
    wpAny (model prog w) A (call (.type "set") [.ref l]) Q E s := by
  obtain ⟨c, tl, hmro⟩ := PySem.F.called_set.mro
  have hmade := PySem.F.called_set.made
  have hsub := PySem.F.called_set.sub
  refine wpAny_call (codeAny_of_tree ?_)
  show wpAny _ _ (callAny (.type "set") _) _ _ _
  refine wpAny_pure ⟨Code.quiet_builtin _ (by decide +kernel), codeAny_builtin PySem.F.entry_type_call ?_⟩
  rw [Around.under_plain (weight_type_call_type "set" [.ref l] []) rfl]
  have h1 := PySem.F.called_set.notType
  have h2 := PySem.F.called_set.canCreate
  have hct := PySem.F.typeCall_set_1 (.ref l)
  repeat (any_goals (first | assumption | wp_step))
  refine codeAny_mono (code_new_led (P := prog) (w := w) (.ref l) (E := E) (Q₁ := fun obj s₁ => obj = .ref s.heap.objs.size ∧ s₁ = { s with heap := s.heap.push { cls := .type "set", dict := none, data := .set #[] 0 (.fresh 0 0 (!w.params.followText "set-order")) } }) ⟨rfl, rfl⟩) fun r s₁ hr => ?_
  generalize hled : (!w.params.followText "set-order") = led at hr
  cases r with
  | error e => exact hr
  | ok fl =>
    cases fl with
    | ret obj =>
      obtain ⟨rfl, rfl⟩ := hr
      have hS : (s.heap.push { cls := .type "set", dict := none, data := .set #[] 0 (.fresh 0 0 led) }).get? s.heap.objs.size = some { cls := .type "set", dict := none, data := .set #[] 0 (.fresh 0 0 led) } := Heap.get?_push_size _ rfl
      have hT : Shared.TypeIs { s with heap := s.heap.push { cls := .type "set", dict := none, data := .set #[] 0 (.fresh 0 0 led) } } (.ref s.heap.objs.size) "set" := ⟨_, hS, rfl⟩
      have hli := PySem.F.called_set.init.lookup
      have hbi := PySem.F.called_set.init.bind (.ref s.heap.objs.size)
      repeat (any_goals (first | assumption | wp_step))
      refine codeAny_mono (codeAny_call_builtin (R := wants (fun r s₂ => r = .none ∧ ∃ h' tk, s₂ = { s with heap := h', toks := tk } ∧
          SetT prog w h' s.heap.objs.size xs ∧
          (∀ b o, b < s.heap.objs.size → s.heap.get? b = some o → h'.get? b = some o)) E) PySem.F.called_set.init.plain PySem.F.entry_set_init (check_set_init_1 hT ?_)) fun r₂ s₂ hr₂ => ?_
      · obtain ⟨ol, hol, hcl, nl, hdl⟩ := hl
        obtain ⟨ocls, odict, odata, oslots⟩ := ol
        simp only at hcl hdl
        subst hcl; subst hdl
        have hol' : (s.heap.push { cls := .type "set", dict := none, data := .set #[] 0 (.fresh 0 0 led) }).get? l = some { cls := .type "list", dict := odict, data := .seq items nl, slots := oslots } := Heap.get?_push_of_some _ hol
        have hsls := PySem.F.sub_list_set
        have hslf := PySem.F.sub_list_frozenset
        have hne : (Value.type "list" == Value.type "dict") = false := by decide
        have hl1 : (s.heap.push { cls := .type "set", dict := none, data := .set #[] 0 (.fresh 0 0 led) }).IsList l items := ⟨_, hol', rfl, nl, rfl⟩
        unfold Builtin.«set.__init__» noKeywords Builtin.Frozenset.updateFrom
        generalize hPI : pyIter = PI
        wp_walk
        subst hPI
        refine wpAny_pyIter_list hl1 ?_
        refine wpAny_bind (wpAny_runValue ?_)
        have hlS : l < s.heap.objs.size := Heap.lt_size hol
        have hh3 : A.in1.in1.in1.handled = none := by simp [hh]
        have hneI : l ≠ (s.heap.push { cls := .type "set", dict := none, data := .set #[] 0 (.fresh 0 0 led) }).objs.size := by
          rw [Heap.size_push]; exact Nat.ne_of_lt (Nat.lt_succ_of_lt hlS)
        have hSf : s.heap.objs.size ∉ [(s.heap.push { cls := .type "set", dict := none, data := .set #[] 0 (.fresh 0 0 led) }).objs.size, l] := by
          rw [Heap.size_push]; simp only [List.mem_cons, List.mem_singleton, List.not_mem_nil, or_false, not_or]
          exact ⟨Nat.ne_of_lt (Nat.lt_succ_self _), Nat.ne_of_gt hlS⟩
        have hsz : xs.length = items.size := by rw [← StrsAre.len_eq hi, Array.length_toList]
        have hval : ∀ (i : Nat) (v : Value), items[i]? = some v → ∃ t, v = .str (xs.getD i Str.empty) t := fun i v hv => SS.strs_at hi i v (by rw [Array.getElem?_toList]; exact hv)
        refine loopT ((Walks.list hh3 _ l hneI items).toS) s.heap.objs.size
          hSf xs hsz (by rw [← hsz]; exact hn1) hval (items.size - 0) 0 _ (by omega) (Nat.zero_le _)
          ⟨⟨_, Heap.get?_push_size _ rfl, rfl, rfl⟩, (hl1.push _)⟩ ?hS0 ?hR
        case hS0 =>
          have f : SetT prog w (s.heap.push { cls := .type "set", dict := none, data := .set #[] 0 (.fresh 0 0 led) }) s.heap.objs.size [] := by
            rw [← hled]
            exact fresh_T
          exact f.at fun o ho => Heap.get?_push_of_some _ ho
        case hR =>
          intro s' hm hS'
          obtain ⟨h', g', d', tk', os'⟩ := s'
          have eg : g' = s.gens := hm.gens
          have ed : d' = s.drawn := hm.drawn
          have eo : os' = s.os := hm.os
          subst eg; subst ed; subst eo
          show wpAny _ _ _ _ _ _
          refine wpAny_pure ?_
          show wpAny _ _ (ret Value.none) _ _ _
          refine wpAny_pure ⟨rfl, h', tk', rfl, hS', fun b o hb e => ?_⟩
          have hb1 : b ≠ s.heap.objs.size := Nat.ne_of_lt hb
          have hb2 : b ≠ (s.heap.push { cls := .type "set", dict := none, data := .set #[] 0 (.fresh 0 0 led) }).objs.size := by
            rw [Heap.size_push]; exact Nat.ne_of_lt (Nat.lt_succ_of_lt hb)
          exact hm.heap b o (by simp only [List.mem_cons, List.mem_singleton, List.not_mem_nil, or_false, not_or]; exact ⟨hb1, hb2⟩) (Heap.get?_push_of_some _ (Heap.get?_push_of_some _ e))
      · cases r₂ with
        | error e => exact hr₂
        | ok fl₂ =>
          cases fl₂ with
          | ret r =>
            obtain ⟨rfl, h', tk, rfl, hS', hk'⟩ := hr₂
            repeat (any_goals (first | assumption | wp_step))
            exact h _ _ hS' hk'
          | _ => exact hr₂.elim
    | _ => exact hr.elim
theorem strs_of : ∀ (l : List (Int × Value)), (∀ e ∈ l, GoodT prog w e) → ∀ vs : List Value, vs.Perm (l.map (·.2)) → ∃ ss, StrsAre vs ss ∧ ss.Perm (l.map keyT) := by
  intro l g vs pm
  have hv : ∀ v ∈ vs, ∃ k tk, v = Value.str k tk := fun v hv => by
    obtain ⟨e, he, q⟩ := List.mem_map.mp (pm.mem_iff.mp hv)
    obtain ⟨k, tk, h1, _⟩ := g e he
    exact ⟨k, tk, by rw [← q]; exact h1⟩
  have mk : ∀ vs : List Value, (∀ v ∈ vs, ∃ k tk, v = Value.str k tk) → StrsAre vs (vs.map fun v => keyT (0, v)) := by
    intro vs
    induction vs with
    | nil => intro _; exact .nil
    | cons v r ih =>
      intro h
      obtain ⟨k, tk, rfl⟩ := h v List.mem_cons_self
      exact .cons k tk (ih fun u hu => h u (List.mem_cons_of_mem _ hu))
  refine ⟨_, mk vs hv, ?_⟩
  have q := pm.map fun v => keyT (0, v)
  rw [List.map_map] at q
  exact q
theorem sorted_T {a : Addr} {l : List Str} {Q : Value → Shared → Prop} (R : SetT prog w s.heap a l) (hh : A.handled = none) (h64 : l.length < 64)
    (hQ : ∀ s' p (out : Array Value) (c : Nat) (ss : List Str), (∀ b o, s.heap.get? b = some o → s'.heap.get? b = some o) → s'.gens = s.gens → s'.os = s.os → s.heap.objs.size ≤ p →
      s'.heap.get? p = some (seqObj "list" out c) → StrsAre out.toList ss → sortedS ss = true → ss.Nodup → (∀ k, k ∈ ss ↔ k ∈ l) → ss.length ≤ l.length → Q (.ref p) s') :
    wpAny (model prog w) A (call (.builtin "sorted") [.ref a]) Q E s := by
  obtain ⟨o, es, ep, t, ho, hex, hd, g, nd, hm, hb, hb0, hf, hr, hl⟩ := R
  refine Calls.call_function_entry kind_sorted plain_sorted entry_sorted (args_sorted1 _) ?_
  unfold Builtin.«sorted»
  refine wpAny_bind (m := checkCount "sorted" 1 1 _) (wpAny_pure ?_)
  refine wpAny_bind (collect_set (A := A.in1) hh ⟨o, ho, hex.1, hd⟩ hf (by omega) hr hl fun s1 vs k1 hz g1 o1 pm => ?_)
  have hvl : vs.length = es.size := by rw [pm.length_eq, List.length_map, Array.length_toList]
  obtain ⟨ss0, hS, pk⟩ := strs_of (prog := prog) (w := w) es.toList g vs pm
  refine wpAny_bind (wpAny_newList ?_ (by rw [hvl, sizeLine_eq]; omega))
  have hoL : (s1.heap.push (seqObj "list" vs.toArray 0)).get? s1.heap.objs.size = some (seqObj "list" vs.toArray 0) := Heap.get?_push_size _ rfl
  refine wpAny_bind (wpAny_holding (wpAny_call_entry slot_list_sort ⟨_, hoL, rfl⟩ entry_list_sort (list_sort_treeK strKind_oneLt hoL hS.keysOf (fun v₁ v₂ rest e => keyKind_strs (by rw [← e]; exact hS)) (by rw [hvl]; omega) fun st' hp hs => ⟨_, rfl, ?_⟩) (args_list_sort _)))
  obtain ⟨ss', a1, a2, a3⟩ := sorted_out_str hS hp hs
  obtain ⟨c, hc⟩ := sortedHeap_at (vs := vs) (out := (arrOf st').map (·.2)) hoL
  have pn : ss'.Perm (es.toList.map keyT) := a2.trans pk
  refine wpAny_pure ⟨_, rfl, hQ _ s1.heap.objs.size _ c ss' (fun b u e => ?_) g1 o1 hz hc a1 a3 (pn.nodup_iff.mpr nd) (fun k => by rw [pn.mem_iff, ← hm k]) (by rw [pn.length_eq, List.length_map, Array.length_toList]; exact hb)⟩
  have q := k1 b u e
  have hlt := Heap.lt_size q
  show (sortedHeap (s1.heap.push (seqObj "list" vs.toArray 0)) s1.heap.objs.size vs ((arrOf st').map (·.2))).get? b = some u
  rw [sortedHeap_old (Nat.ne_of_lt hlt) (by rw [size_push']; exact Nat.lt_succ_of_lt hlt)]
  exact Heap.get?_push_of_some _ q
end
end SST
end
section
set_option maxRecDepth 100000
set_option maxHeartbeats 4000000
namespace SST
open PySem PySem.Spec PyProof.Rows L2
/-- sorted(set(xs)), xs a list of texts -/
def tSortSet (K : PySem.W.Frag) (ta : TE) : TE := fun σ H Q => ta σ H fun x H1 => ∃ l, ∃ xs : List Str, x = .ref l ∧ SqL K H1 l (xs.map V.str) ∧ xs.length ≤ 60 ∧ ∀ (p : Addr) (ss : List Str), H1 p = none → sortedS ss = true → ss.Nodup → (∀ k, k ∈ ss ↔ k ∈ xs) → Q (.ref p) (upd H1 p (.lst (ss.map V.str)))
theorem pe_sortSet {X : Cx} {a : Expr} {ta : TE} {p p2 q pos : Pos} (hc : X.calm = true) (hg : Gl X "sorted") (hm : X.mg "sorted" = none) (hg2 : Gl X "set") (hm2 : X.mg "set" = none) (ha : PE X a ta)
    (na : starEach [a] X.env = (false, eval a X.env) :: starEach [] X.env := by rfl) : PE X (.Call (.Name "sorted" p) [.Call (.Name "set" p2) [a] [] q] [] pos) (tSortSet X.K ta) := by
  refine ⟨fun pins s σ H Q I h => ?_⟩
  refine Call_ (ld_blt I hg hm boot_sorted ?_)
  refine PyProof.Rows.callWith_builtin1 (PyProof.Rows.args_cons ?_ rfl) rfl rfl
  refine Call_ (ld_blt I hg2 hm2 boot_set ?_)
  refine PyProof.Rows.callWith_type1 (PyProof.Rows.args_cons (thn (ha.run pins s σ H _ I h) fun v s1 ⟨x, H1, I1, r1, q1⟩ => PyProof.Rows.args_nil ?_) na) na rfl
  obtain ⟨l, xs, rfl, hq, h1, q1⟩ := q1
  cases r1
  obtain ⟨its, r, pl, hz⟩ := I1.list hq
  refine call_setT (I1.ok.hd hc) pl.isList (by simpa using strsAre_of r) (by omega) fun h' tk hS hk => ?_
  refine PyProof.Rows.args_nil ?_
  have I2 : Inv X pins σ H1 { s1 with heap := h', toks := tk } := I1.kept fun b o e => hk b o (Heap.lt_size e) e
  refine sorted_T hS (I2.ok.hd hc) (by omega) fun s' p out c ss k2 g2 o2 hp hget hss srt nd hmem hle => ?_
  have hsl : ss.length ≤ 60 := by omega
  have hlen : (ss.map V.str).length ≤ sizeLine := by rw [List.length_map]; exact Nat.le_trans hsl (by decide)
  have hn : H1 p = none := I2.hok.fresh hp
  have J : L2.Inv X pins σ (upd H1 p (.lst (ss.map V.str))) { ({ heap := h', gens := s1.gens, drawn := s1.drawn, toks := tk, os := s1.os } : Shared) with heap := s'.heap, gens := s'.gens, drawn := s'.drawn, toks := s'.toks } :=
    I2.call (ch := []) (Un.laid k2 hp hn) (I2.hok.laid k2 hp ⟨hlen, out.toList, c, vals_of_strs hss, hget⟩) (by rw [g2]; exact I2.bare) (fun _ z => nomatch z)
  have e : s' = { s1 with heap := s'.heap, gens := s'.gens, drawn := s'.drawn, toks := s'.toks } := by
    obtain ⟨h3, g3, d3, t3, os3⟩ := s'
    obtain rfl : os3 = s1.os := o2
    rfl
  rw [e]
  exact ⟨.ref p, _, J, rfl, q1 p ss hn srt nd hmem⟩
end SST
end
section
set_option maxRecDepth 100000
set_option maxHeartbeats 4000000
namespace MS
open PySem L2
/-! ### rows of each, of all -/
theorem inner_list {K : PySem.W.Frag} {a : Addr} {xs : List V} {g : TG} {tt : TT} {te : TE} {vs : List Nat} {σ : St} {H1 : Hp} {D : Addr} {Qd : Hp → Prop} (Pv : Nat → Hp → Prop) (h0 : Pv 0 H1) (hl : ∀ i H, i ≤ xs.length → Pv i H → SqL K H a xs)
    (hs : ∀ i x H, xs[i]? = some x → Pv i H → g x (wipe σ vs) H fun σ2 H2 => wipe σ2 vs = wipe σ vs ∧ tt σ2 H2 fun b H3 =>
      if b = true then te σ2 H3 fun y H4 => ∃ acc, H4 D = some (.lst acc) ∧ acc.length < sizeLine ∧ Pv (i + 1) (upd H4 D (.lst (acc ++ [y]))) else Pv (i + 1) H3) (hd : ∀ H, Pv xs.length H → Qd H) :
    ∃ W : Nat → Nat → Hp → Prop, (∃ m, W 0 m H1) ∧ ∀ i m H, W i m H →
      ((Itl K a).stop i H ∧ Qd H) ∨ ((Itl K a).go i H ∧ ∃ Nx : Hp → Prop, (∀ H', Nx H' → ∃ m', m' < m ∧ W (i + 1) m' H') ∧ ∀ x H', (Itl K a).yld i H x H' → g x (wipe σ vs) H' fun σ2 H2 => wipe σ2 vs = wipe σ vs ∧ tt σ2 H2 fun b H3 =>
        if b = true then te σ2 H3 fun y H4 => ∃ acc, H4 D = some (.lst acc) ∧ acc.length < sizeLine ∧ Nx (upd H4 D (.lst (acc ++ [y]))) else Nx H3) := by
  refine ⟨fun i m H => m = xs.length - i ∧ i ≤ xs.length ∧ Pv i H, ⟨xs.length, by simp, Nat.zero_le _, h0⟩, ?_⟩
  rintro i m H ⟨rfl, hi, p⟩
  have q := hl i H hi p
  by_cases hlt : i < xs.length
  · refine .inr ⟨⟨xs, xs[i], q, by simp [hlt]⟩, Pv (i + 1), fun H' p' => ⟨xs.length - (i + 1), by omega, rfl, hlt, p'⟩, fun x H' y => ?_⟩
    obtain ⟨e, y⟩ := y
    subst e
    exact hs i x _ (y xs q) p
  · have e : i = xs.length := by omega
    subst e
    exact .inl ⟨⟨xs, q, Nat.le_refl _⟩, hd H p⟩
theorem outer_list {K : PySem.W.Frag} {a : Addr} {xs : List V} {g g1 : TG} {tt tt1 : TT} {wi1 : TI} {te : TE} {vs vs1 : List Nat} {σ : St} {H1 : Hp} {D : Addr} {Qd : Hp → Prop} (Pv : Nat → Hp → Prop) (h0 : Pv 0 (upd H1 D (.lst []))) (hl : ∀ i H, i ≤ xs.length → Pv i H → SqL K H a xs)
    (hs : ∀ i x H, xs[i]? = some x → Pv i H → g x (wipe σ vs) H fun σ2 H2 => wipe σ2 vs = wipe σ vs ∧ tt σ2 H2 fun b H3 =>
      if b = true then wi1 σ2 H3 fun J1 H4 => ∃ W1 : Nat → Nat → Hp → Prop, (∃ m, W1 0 m H4) ∧ ∀ j k H, W1 j k H →
        (J1.stop j H ∧ Pv (i + 1) H) ∨ (J1.go j H ∧ ∃ Nx1 : Hp → Prop, (∀ H', Nx1 H' → ∃ k', k' < k ∧ W1 (j + 1) k' H') ∧ ∀ x H', J1.yld j H x H' → g1 x (wipe σ2 vs1) H' fun σ3 H5 => wipe σ3 vs1 = wipe σ2 vs1 ∧ tt1 σ3 H5 fun b H6 =>
          if b = true then te σ3 H6 fun y H7 => ∃ acc, H7 D = some (.lst acc) ∧ acc.length < sizeLine ∧ Nx1 (upd H7 D (.lst (acc ++ [y]))) else Nx1 H6)
      else Pv (i + 1) H3) (hd : ∀ H, Pv xs.length H → Qd H) :
    ∃ W : Nat → Nat → Hp → Prop, (∃ m, W 0 m (upd H1 D (.lst []))) ∧ ∀ i m H, W i m H →
      ((Itl K a).stop i H ∧ Qd H) ∨ ((Itl K a).go i H ∧ ∃ Nx : Hp → Prop, (∀ H', Nx H' → ∃ m', m' < m ∧ W (i + 1) m' H') ∧ ∀ x H', (Itl K a).yld i H x H' → g x (wipe σ vs) H' fun σ2 H2 => wipe σ2 vs = wipe σ vs ∧ tt σ2 H2 fun b H3 =>
        if b = true then wi1 σ2 H3 fun J1 H4 => ∃ W1 : Nat → Nat → Hp → Prop, (∃ m, W1 0 m H4) ∧ ∀ j k H, W1 j k H →
          (J1.stop j H ∧ Nx H) ∨ (J1.go j H ∧ ∃ Nx1 : Hp → Prop, (∀ H', Nx1 H' → ∃ k', k' < k ∧ W1 (j + 1) k' H') ∧ ∀ x H', J1.yld j H x H' → g1 x (wipe σ2 vs1) H' fun σ3 H5 => wipe σ3 vs1 = wipe σ2 vs1 ∧ tt1 σ3 H5 fun b H6 =>
            if b = true then te σ3 H6 fun y H7 => ∃ acc, H7 D = some (.lst acc) ∧ acc.length < sizeLine ∧ Nx1 (upd H7 D (.lst (acc ++ [y]))) else Nx1 H6)
        else Nx H3) := by
  refine ⟨fun i m H => m = xs.length - i ∧ i ≤ xs.length ∧ Pv i H, ⟨xs.length, by simp, Nat.zero_le _, h0⟩, ?_⟩
  rintro i m H ⟨rfl, hi, p⟩
  have q := hl i H hi p
  by_cases hlt : i < xs.length
  · refine .inr ⟨⟨xs, xs[i], q, by simp [hlt]⟩, Pv (i + 1), fun H' p' => ⟨xs.length - (i + 1), by omega, rfl, hlt, p'⟩, fun x H' y => ?_⟩
    obtain ⟨e, y⟩ := y
    subst e
    exact hs i x _ (y xs q) p
  · have e : i = xs.length := by omega
    subst e
    exact .inl ⟨⟨xs, q, Nat.le_refl _⟩, hd H p⟩
abbrev psRows : List Str := ["paper", "scheme", "where", "view"]
abbrev psEach : List Str := ["paper", "schemes", "where", "view"]
structure RAt (C : Addr) (H : Hp) (ps : List Sch) (ws : List StepT) (pa wr vw : Addr) (st : Nat) (c : Bool) (wh : List Nat) : Prop where
  paper : ∃ pv, H pa = some (.tup pv) ∧ Paired (SAt H 5) ps pv
  view : ViewAt C H vw ws st c
  wher : H wr = some (.tup (natV wh))
theorem RAt.keep {C : Addr} {H H' : Hp} {ps : List Sch} {ws : List StepT} {pa wr vw : Addr} {st : Nat} {c : Bool} {wh : List Nat} (h : RAt C H ps ws pa wr vw st c wh) (k : Same H H') : RAt C H' ps ws pa wr vw st c wh := by
  obtain ⟨⟨pv, e, p⟩, h2, h3⟩ := h
  exact ⟨⟨pv, k _ _ e, paired_imp p fun s v => SAt.keep (Same.tupK k) _ _ _⟩, h2.keep k, k _ _ h3⟩
def spRows (C : Addr) (ps : List Sch) (ws : List StepT) (ce : Nat → Int) (M k : Nat) : Sp := fun vs H Q _ => ∃ (pa wr vw : Addr) (v : V) (s : Sch) (i d st : Nat) (c : Bool) (wh : List Nat), vs = [.ref pa, v, .ref wr, .ref vw] ∧ RAt C H ps ws pa wr vw st c wh ∧ st ≤ ws.length ∧ SAt H d s v ∧ OkS i M d s ∧ er ce d s ≤ 7 ∧ (M - i) * 5 + d ≤ k ∧ wh.length + k ≤ 100 ∧
  ∀ (f : Addr) (rv : List V) (H' : Hp), Same H H' → H f = none → H' f = some (.lst rv) → Paired (RowR H') (rP ps ws k s st c wh) rv → Q (.ref f) H'
structure KAt (H : Hp) (ce : Nat → Int) (M k i d : Nat) (ks : List Sch) (kv : List V) (b : Addr) : Prop where
  at_ : H b = some (.tup kv)
  pr : Paired (SAt H d) ks kv
  ok : ∀ s ∈ ks, OkS i M d s ∧ er ce d s ≤ 7
  few : ks.length ≤ 4
  fuel : (M - i) * 5 + d ≤ k
theorem KAt.keep {H H' : Hp} {ce : Nat → Int} {M k i d : Nat} {ks : List Sch} {kv : List V} {b : Addr} (h : KAt H ce M k i d ks kv b) (s : Same H H') : KAt H' ce M k i d ks kv b := ⟨s _ _ h.at_, paired_imp h.pr fun _ _ => SAt.keep (Same.tupK s) _ _ _, h.ok, h.few, h.fuel⟩
/-- the rows of each stand at fv -/
def EachAt (H0 H : Hp) (F : Sch → Nat → List Row) (ks : List Sch) (fv : List V) : Prop := fv.length = ks.length ∧ ∀ j s, ks[j]? = some s → ∃ g rv, fv[j]? = some (V.ref g) ∧ H0 g = none ∧ H g = some (.lst rv) ∧ Paired (RowR H) (F s j) rv
def spEach (C : Addr) (ps : List Sch) (ws : List StepT) (ce : Nat → Int) (M k : Nat) : Sp := fun vs H Q _ => ∃ (pa wr vw b : Addr) (ks : List Sch) (kv : List V) (i d st : Nat) (c : Bool) (wh : List Nat), vs = [.ref pa, .ref b, .ref wr, .ref vw] ∧ RAt C H ps ws pa wr vw st c wh ∧ st ≤ ws.length ∧ KAt H ce M k i d ks kv b ∧ wh.length + 1 + k ≤ 100 ∧
  ∀ (f : Addr) (fv : List V) (H' : Hp), Same H H' → H f = none → H' f = some (.lst fv) → EachAt H H' (fun s j => rP ps ws k s st c (wh ++ [j])) ks fv → Q (.ref f) H'
def spAll (C : Addr) (ps : List Sch) (ws : List StepT) (ce : Nat → Int) (M k : Nat) : Sp := fun vs H Q _ => ∃ (pa wr vw b : Addr) (ks : List Sch) (kv : List V) (i d st : Nat) (c : Bool) (wh : List Nat), vs = [.ref pa, .ref b, .ref wr, .ref vw] ∧ RAt C H ps ws pa wr vw st c wh ∧ st ≤ ws.length ∧ KAt H ce M k i d ks kv b ∧ wh.length + 1 + k ≤ 100 ∧
  ∀ (f : Addr) (rv : List V) (H' : Hp), Same H H' → H f = none → H' f = some (.lst rv) → Paired (RowR H') (allU (fun s j => rP ps ws k s st c (wh ++ [j])) ks 0) rv → Q (.ref f) H'
theorem rows_le_pts : ∀ (rs : List Row), (∀ r ∈ rs, 0 < r.2.1) → rs.length ≤ pts rs
  | [], _ => Nat.zero_le _
  | r :: t, h => by
    rw [pts_cons, List.length_cons]
    have := rows_le_pts t fun r hr => h r (List.mem_cons_of_mem _ hr)
    have := h r List.mem_cons_self
    omega
theorem rP_len {ps : List Sch} {ws : List StepT} {ce : Nat → Int} {M : Nat} (hp : ∀ (j : Nat) (s : Sch), ps[j]? = some s → OkS j M 5 s ∧ ce j = er ce 5 s) (h0 : ∀ j, j < M → 0 ≤ ce j) {k i d : Nat} {s : Sch} {st : Nat} {c : Bool} {wh : List Nat} (o : OkS i M d s) (h7 : er ce d s ≤ 7) : (rP ps ws k s st c wh).length ≤ 63 := by
  have h1 := uP_len (ws := ws) hp h0 k i d s st c wh o
  rw [uP_expand, expand_len] at h1
  have h2 := rows_le_pts _ fun r hr => ((rP_good (ws := ws) (fun j s e => (hp j s e).1) k i d s st c wh o).1 r hr).1
  omega
theorem allU_le {α : Type} {f : Sch → Nat → List α} : ∀ (ks : List Sch) (j : Nat), (∀ s ∈ ks, ∀ j, (f s j).length ≤ 63) → (allU f ks j).length ≤ 63 * ks.length
  | [], _, _ => Nat.le_refl _
  | s :: r, j, h => by
    show (f s j ++ allU f r (j + 1)).length ≤ _
    rw [List.length_append, List.length_cons]
    have := h s List.mem_cons_self j
    have := allU_le r (j + 1) fun s hs => h s (List.mem_cons_of_mem _ hs)
    omega
section
variable {P : Program} {w : World} {K : PySem.W.Frag} {mg : Str → Option Value} {base : Heap} {C : Addr} {ps : List Sch} {ws : List StepT} {ce : Nat → Int} {M k L : Nat}
theorem ok_each (T : PTx w K mg) (DR : Def K mg "rows_of" s_rows_of psRows) (D : Def K mg "rows_of_each" s_rows_of_each psEach) (G : FnOk P w K mg base CX0 L DR.f DR.fd psRows (spRows C ps ws ce M k)) : FnOk P w K mg base CX0 (L + 1) D.f D.fd psEach (spEach C ps ws ce M k) := by
  have nd := sc_rows_of_each.nd
  refine D.ok sc_rows_of_each (fun vs H Q E h => ?_) (fun cdv A outer s H vs Q E hr h => ?_)
  · obtain ⟨pa, wr, vw, b, ks, kv, i, d, st, c, wh, rfl, _⟩ := h
    rfl
  obtain ⟨pa, wr, vw, b, ks, kv, i, d, st, c, wh, rfl, R, hst, KA, hwh, q⟩ := h
  refine ⟨_, pss_one (ps_ret (pe_lc (own := [("at", 4), ("scheme", 5)]) (g := gTup K 2 (gCons (gName 4) (gCons (gName 5) gNil))) (tt := tYes) rfl nd (pi_enumT rfl (T.free "enumerate" (by decide +kernel)) (pa_cons (pv 1) pa_nil)) (blkOk_by (N := ["paper", "schemes", "where", "view", "at", "scheme"]) (sc := defScope s_rows_of_each) (by decide +kernel))
      (fun _ _ _ _ _ => pg_tup rfl (pgs_cons (pg_name (i := 4) nd rfl (Or.inl rfl)) (pgs_cons (pg_name (i := 5) nd rfl (Or.inl rfl)) pgs_nil))) (fun _ _ _ _ _ => pts_nil)
      (fun _ _ _ _ _ => pcall DR G hr (pa_cons (pv 0) (pa_cons (pv 5) (pa_cons (pe_op (r := rCatA K) op_catA (pv 2) (pe_tup (pa_cons (pv 4) pa_nil))) (pa_cons (pv 3) pa_nil))))))), ?_⟩
  have hkl := Paired.length KA.pr
  have hfew := KA.few
  have hfu := KA.fuel
  refine ⟨_, rfl, b, _, rfl, SqT.of KA.at_, fun Dd hD => ?_⟩
  refine lc_it (walk_enumT (K := K) (a := b) (xs := kv)) (fun j H'' => ∃ fv, H'' Dd = some (.lst fv) ∧ fv.length = j ∧ (∀ j' s, j' < j → ks[j']? = some s → ∃ g rv, fv[j']? = some (V.ref g) ∧ g ≠ Dd ∧ H g = none ∧ H'' g = some (.lst rv) ∧ Paired (RowR H'') (rP ps ws k s st c (wh ++ [j'])) rv) ∧ Same H H'') ⟨[], upd_same, rfl, (fun _ _ h => by omega), Same.new hD⟩ (fun j H'' _ ⟨_, _, _, _, s3⟩ => SqT.of (s3 _ _ KA.at_)) ?_ ?_
  · rintro j x H2 H3 hj ⟨fv, eD, hl, hfv, s3⟩ ⟨T1, x1, x2, rfl, hT1, rfl, ex1, ex2⟩
    obtain rfl : V.int ((j : Nat) : Int) = x1 := Option.some.inj ex1
    have ex2 : kv[j]? = some x2 := ex2
    obtain ⟨s', es', hs'⟩ := paired_get' KA.pr ex2
    have hm := List.mem_of_getElem? es'
    obtain ⟨hok, h7⟩ := KA.ok s' hm
    have sT := Same.new (o := .tup [.int ((j : Nat) : Int), x2]) hT1
    have s4 := s3.trans sT
    have R4 := R.keep s4
    refine ⟨T1, _, rfl, SqT.of upd_same, rfl, _, _, rfl, _, _, rfl, rfl, rfl, _, rfl, _, rfl, ?_⟩
    refine cat_at (i := 2) (j := j) rfl R4.wher (by omega) (fun Q q => ⟨_, rfl, q⟩) (fun wr' H5 s5 ew => ?_)
    have s45 := s4.trans s5
    have R5 := R4.keep s5
    refine ⟨_, rfl, pa, wr', vw, x2, s', i, d, st, c, wh ++ [j], rfl, ⟨R5.paper, R5.view, ew⟩, hst, SAt.keep (Same.tupK s45) _ _ _ hs', hok, h7, hfu, by rw [List.length_append, List.length_singleton]; omega, fun g rv H6 s6 hg eg pr => ?_⟩
    have s26 := (sT.trans s5).trans s6
    have eD6 := s26 _ _ eD
    have ngD : g ≠ Dd := fun z => by rw [z, (sT.trans s5) _ _ eD] at hg; cases hg
    have tk : TupK H6 (upd H6 Dd (.lst (fv ++ [.ref g]))) := TupK.put eD6
    have hjl := (List.getElem?_eq_some_iff.mp es').1
    refine ⟨_, eD6, small1000 (by omega), fv ++ [.ref g], upd_same, by rw [List.length_append, hl]; rfl, fun j' s'' hj' es'' => ?_, Same.newer (s3.trans s26) hD⟩
    by_cases e : j' < j
    · obtain ⟨g', rv', e1, e2, e3, e4, e5⟩ := hfv j' s'' e es''
      exact ⟨g', rv', by rw [List.getElem?_append_left (by omega)]; exact e1, e2, e3, by rw [upd_ne e2]; exact s26 _ _ e4, paired_imp e5 fun _ _ h => RowR.keep h ((Same.tupK s26).trans tk)⟩
    · have e : j' = j := by omega
      subst e
      rw [es'] at es''
      cases es''
      refine ⟨g, rv, ?_, ngD, s45.free hg, by rw [upd_ne ngD]; exact eg, paired_imp pr fun _ _ h => RowR.keep h tk⟩
      rw [List.getElem?_append_right (by omega), hl, Nat.sub_self]
      rfl
  · rintro H'' ⟨fv, eD, hl, hfv, s3⟩
    refine q Dd fv H'' s3 hD eD ⟨by omega, fun j s' es' => ?_⟩
    have hjl := (List.getElem?_eq_some_iff.mp es').1
    obtain ⟨g', rv', e1, e2, e3, e4, e5⟩ := hfv j s' (by omega) es'
    exact ⟨g', rv', e1, e3, e4, e5⟩
theorem ok_all (hp : ∀ (j : Nat) (s : Sch), ps[j]? = some s → OkS j M 5 s ∧ ce j = er ce 5 s) (h0 : ∀ j, j < M → 0 ≤ ce j) (T : PTx w K mg) (DE : Def K mg "rows_of_each" s_rows_of_each psEach) (D : Def K mg "rows_of_all" s_rows_of_all psEach) (G : FnOk P w K mg base CX0 L DE.f DE.fd psEach (spEach C ps ws ce M k)) : FnOk P w K mg base CX0 (L + 1) D.f D.fd psEach (spAll C ps ws ce M k) := by
  have nd := sc_rows_of_all.nd
  refine D.ok sc_rows_of_all (fun vs H Q E h => ?_) (fun cdv A outer s H vs Q E hr h => ?_)
  · obtain ⟨pa, wr, vw, b, ks, kv, i, d, st, c, wh, rfl, _⟩ := h
    rfl
  obtain ⟨pa, wr, vw, b, ks, kv, i, d, st, c, wh, rfl, R, hst, KA, hwh, q⟩ := h
  refine ⟨_, pss_one (ps_ret (pe_lc2 (own := [("rows", 4), ("row", 5)]) (vs1 := [5]) (g := gName 4) (wi1 := iList K (tVar 4)) (g1 := gName 5) (tt := tYes) (tt1 := tYes) rfl nd (pi_list (pcall DE G hr (pa_cons (pv 0) (pa_cons (pv 1) (pa_cons (pv 2) (pa_cons (pv 3) pa_nil))))))
      (blkOk_by (N := ["paper", "schemes", "where", "view", "rows", "row"]) (sc := defScope s_rows_of_all) (by decide +kernel)) (by intro i hi; rw [List.mem_singleton.mp hi]; decide)
      (fun _ _ _ _ _ => pg_name (i := 4) nd rfl (Or.inl rfl)) (fun _ _ _ _ _ => pts_nil) (fun _ _ _ _ _ => pi_list (pv 4)) (fun _ _ _ _ _ => pg_name (i := 5) nd rfl (Or.inl rfl)) (fun _ _ _ _ _ => pts_nil) (fun _ _ _ _ _ => pv 5))), ?_⟩
  refine ⟨_, rfl, _, rfl, _, rfl, _, rfl, pa, wr, vw, b, ks, kv, i, d, st, c, wh, rfl, R, hst, KA, hwh, fun r fv Hr sr hr0 er' EA => ?_⟩
  have hfew := KA.few
  have lrow : ∀ s ∈ ks, ∀ j, ((fun s j => rP ps ws k s st c (wh ++ [j])) s j).length ≤ 63 := fun s hs j => rP_len hp h0 (KA.ok s hs).1 (KA.ok s hs).2
  generalize (fun s j => rP ps ws k s st c (wh ++ [j])) = F at q EA lrow
  obtain ⟨hfl, hEA⟩ := EA
  refine ⟨r, rfl, ⟨_, SqL.of er'⟩, fun D hD => ?_⟩
  have nrD : r ≠ D := ne_of_none er' hD
  have lAll : ∀ i, (allU F (ks.take i) 0).length ≤ 252 := fun i => by
    have := allU_le (f := F) (ks.take i) 0 fun s hs j => lrow s (List.mem_of_mem_take hs) j
    have : (ks.take i).length ≤ 4 := by rw [List.length_take]; omega
    omega
  refine outer_list (K := K) (a := r) (xs := fv) (fun i H' => ∃ av, H' D = some (.lst av) ∧ Paired (RowR H') (allU F (ks.take i) 0) av ∧ Same Hr H') ⟨[], upd_same, .nil, Same.new hD⟩ (fun i H' _ ⟨_, _, _, s5⟩ => SqL.of (s5 _ _ er')) ?_ ?_
  · rintro j x H5 hj ⟨av, eD, pa5, s5⟩
    have hjl : j < ks.length := by rw [← hfl]; exact (List.getElem?_eq_some_iff.mp hj).1
    have es' : ks[j]? = some (ks[j]'hjl) := List.getElem?_eq_getElem hjl
    obtain ⟨g, rv, e1, e2, e3, e4⟩ := hEA j _ es'
    rw [hj] at e1
    cases e1
    have tk : ks.take (j + 1) = ks.take j ++ [ks[j]'hjl] := by
      rw [List.take_succ, es']
      rfl
    have eF : allU F (ks.take (j + 1)) 0 = allU F (ks.take j) 0 ++ F (ks[j]'hjl) j := by
      rw [tk, allU_snoc, List.length_take, Nat.zero_add, Nat.min_eq_left (Nat.le_of_lt hjl)]
    have lF := lrow _ (List.getElem_mem hjl) j
    have lrv := Paired.length e4
    have lA := lAll j
    refine ⟨rfl, _, rfl, g, rfl, ⟨_, SqL.of (s5 _ _ e3)⟩, ?_⟩
    refine inner_list (K := K) (a := g) (xs := rv) (fun t H' => ∃ av, H' D = some (.lst av) ∧ Paired (RowR H') (allU F (ks.take j) 0 ++ (F (ks[j]'hjl) j).take t) av ∧ Same Hr H') ⟨av, eD, by rw [List.take_zero, List.append_nil]; exact pa5, s5⟩ (fun t H' _ ⟨_, _, _, s6⟩ => SqL.of (s6 _ _ e3)) ?_ ?_
    · rintro t y H6 hy ⟨av6, eD6, pa6, s6⟩
      obtain ⟨row, erow, hrow⟩ := paired_get' e4 hy
      have lav := Paired.length pa6
      rw [List.length_append, List.length_take] at lav
      have tk6 : TupK H6 (upd H6 D (.lst (av6 ++ [y]))) := TupK.put eD6
      refine ⟨rfl, _, rfl, _, eD6, small1000 (by omega), av6 ++ [y], upd_same, ?_, Same.newer s6 hD⟩
      have e : (F (ks[j]'hjl) j).take (t + 1) = (F (ks[j]'hjl) j).take t ++ [row] := by
        rw [List.take_succ, erow]
        rfl
      rw [e, ← List.append_assoc]
      exact paired_app (paired_imp pa6 fun _ _ h => RowR.keep h tk6) (.cons (RowR.keep hrow ((Same.tupK s6).trans tk6)) .nil)
    · rintro H6 ⟨av6, eD6, pa6, s6⟩
      rw [← lrv, List.take_length] at pa6
      exact ⟨av6, eD6, by rw [eF]; exact pa6, s6⟩
  · rintro H5 ⟨av, eD, pa5, s5⟩
    rw [hfl, List.take_length] at pa5
    exact q D av H5 (sr.trans s5) (sr.free hD) eD pa5
end
end MS
end
section
set_option maxRecDepth 100000
set_option maxHeartbeats 4000000
namespace MS
open PySem L2
/-! ### the rows of a scheme -/
theorem case_no {K : PySem.W.Frag} {nm : Str} {is : List Nat} {tb : TS} {tr : TM} {a : Addr} {z : Str} {tl : List V} {D : Ends} {σ : St} {H : Hp} (ea : H a = some (.tup (.str z :: tl))) (hl : tl.length ≤ 1000) (n : z ≠ nm) (h : tr (.ref a) D σ H) : tCase K nm is tb tr (.ref a) D σ H :=
  ⟨a, z, tl, rfl, SqT.of ea, hl, by rw [if_neg (fun q => n q.2)]; exact h⟩
theorem case_yes {K : PySem.W.Frag} {z : Str} {is : List Nat} {tb : TS} {tr : TM} {a : Addr} {tl : List V} {D : Ends} {σ : St} {H : Hp} (ea : H a = some (.tup (.str z :: tl))) (hl : tl.length ≤ 1000) (e : tl.length = is.length) (h : tb D (setAll σ is tl) H) : tCase K z is tb tr (.ref a) D σ H :=
  ⟨a, z, tl, rfl, SqT.of ea, hl, by rw [if_pos ⟨e, rfl⟩]; exact h⟩
def FF (f : Sch → Nat → List Row) (ks : List Sch) (i : Nat) : List Row := match ks[i]? with
  | some s => f s i
  | none => []
theorem bestR_snoc (f : Sch → Nat → List Row) : ∀ (l : List Sch) (s : Sch) (j : Nat) (acc : List Row), bestR f (l ++ [s]) j acc = if pts (bestR f l j acc) < pts (f s (j + l.length)) then f s (j + l.length) else bestR f l j acc
  | [], s, j, acc => rfl
  | a :: l, s, j, acc => by
    show bestR f (l ++ [s]) (j + 1) (if pts acc < pts (f a j) then f a j else acc) = _
    rw [bestR_snoc f l s (j + 1), List.length_cons, show j + 1 + l.length = j + (l.length + 1) by omega]
    rfl
theorem pts_nil' : ∀ {rs : List Row}, (∀ r ∈ rs, 0 < r.2.1) → pts rs = 0 → rs = []
  | [], _, _ => rfl
  | r :: t, h, e => by
    rw [pts_cons] at e
    have := h r List.mem_cons_self
    omega
theorem best_arg {f : Sch → Nat → List Row} {ks : List Sch} (hpos : ∀ s ∈ ks, ∀ j, ∀ r ∈ f s j, 0 < r.2.1) : ∀ m, m < ks.length → bestR f (ks.take (m + 1)) 0 [] = FF f ks (argBest (gtB fun i => ((pts (FF f ks i) : Nat) : Int)) m)
  | 0, h => by
    have e : ks[0]? = some (ks[0]'h) := List.getElem?_eq_getElem h
    have t : ks.take (0 + 1) = [ks[0]'h] := by
      rw [List.take_succ, e]
      rfl
    rw [t]
    have F0 : FF f ks 0 = f (ks[0]'h) 0 := by unfold FF; rw [e]
    show (if pts [] < pts (f (ks[0]'h) 0) then f (ks[0]'h) 0 else []) = FF f ks 0
    rw [F0]
    by_cases c : pts [] < pts (f (ks[0]'h) 0)
    · rw [if_pos c]
    · rw [if_neg c]
      have z : pts (f (ks[0]'h) 0) = 0 := by
        have : pts [] = 0 := rfl
        omega
      exact (pts_nil' (hpos _ (List.getElem_mem h) 0) z).symm
  | m + 1, h => by
    have e : ks[m + 1]? = some (ks[m + 1]'h) := List.getElem?_eq_getElem h
    have t : ks.take (m + 1 + 1) = ks.take (m + 1) ++ [ks[m + 1]'h] := by
      rw [List.take_succ, e]
      rfl
    have F1 : FF f ks (m + 1) = f (ks[m + 1]'h) (m + 1) := by unfold FF; rw [e]
    rw [t, bestR_snoc, best_arg hpos m (by omega), List.length_take, Nat.min_eq_left (Nat.le_of_lt h), Nat.zero_add, ← F1]
    show _ = FF f ks (if gtB (fun i => ((pts (FF f ks i) : Nat) : Int)) (m + 1) (argBest (gtB fun i => ((pts (FF f ks i) : Nat) : Int)) m) then m + 1 else argBest (gtB fun i => ((pts (FF f ks i) : Nat) : Int)) m)
    generalize argBest (gtB fun i => ((pts (FF f ks i) : Nat) : Int)) m = A
    by_cases c : pts (FF f ks A) < pts (FF f ks (m + 1))
    · rw [if_pos c, if_pos (show gtB (fun i => ((pts (FF f ks i) : Nat) : Int)) (m + 1) A = true from decide_eq_true (show ((pts (FF f ks A) : Nat) : Int) < ((pts (FF f ks (m + 1)) : Nat) : Int) by omega))]
    · rw [if_neg c, if_neg (show ¬ gtB (fun i => ((pts (FF f ks i) : Nat) : Int)) (m + 1) A = true from fun z => by
        have z2 : ((pts (FF f ks A) : Nat) : Int) < ((pts (FF f ks (m + 1)) : Nat) : Int) := of_decide_eq_true z
        omega)]
theorem arg_le (bt : Nat → Nat → Bool) : ∀ m, argBest bt m ≤ m
  | 0 => Nat.le_refl _
  | m + 1 => by
    show (if bt (m + 1) (argBest bt m) then m + 1 else argBest bt m) ≤ m + 1
    have := arg_le bt m
    split <;> omega
structure DRows (K : PySem.W.Frag) (mg : Str → Option Value) where
  DPt : Def K mg "points_of" s_points_of ["rows"]
  DFp : Def K mg "first_points" s_first_points ["rows", "limit"]
  DRa : Def K mg "row_at" s_row_at ["place", "points", "where"]
  DE : Def K mg "rows_of_each" s_rows_of_each psEach
  DA : Def K mg "rows_of_all" s_rows_of_all psEach
  DR : Def K mg "rows_of" s_rows_of psRows
  DB : Def K mg "rows_by" s_rows_by ["paper", "work"]
  DI : Def K mg "is_step" s_is_step ["thing"]
  DC : Def K mg "check_work" s_check_work ["work"]
  DN : Def K mg "earned" s_earned ["paper", "work"]
  DM : Def K mg "marked" s_marked ["paper", "work"]
theorem nat_of {p : Int} (h : 0 ≤ p) : ∃ n : Nat, p = ((n : Nat) : Int) := ⟨p.toNat, by omega⟩
section
variable {P : Program} {w : World} {K : PySem.W.Frag} {mg : Str → Option Value} {base : Heap} {C : Addr} {ps : List Sch} {ws : List StepT} {ce : Nat → Int} {M k L : Nat}
theorem rows_turn (hM : ps.length = M) (hw : ∀ p ∈ ws, IsStep p) (hws : ws.length ≤ 12) (hp : ∀ (j : Nat) (s : Sch), ps[j]? = some s → OkS j M 5 s ∧ ce j = er ce 5 s) (h0 : ∀ j, j < M → 0 ≤ ce j) (h7 : ∀ j, j < M → ce j ≤ 7) (T : PTx w K mg) (Y : VCls K mg C) (D : DRows K mg) (hL : 1 ≤ L)
    (G : FnOk P w K mg base CX0 L D.DR.f D.DR.fd psRows (spRows C ps ws ce M k)) : FnOk P w K mg base CX0 (L + 3) D.DR.f D.DR.fd psRows (spRows C ps ws ce M (k + 1)) := by
  have GE : FnOk P w K mg base CX0 (L + 1) D.DE.f D.DE.fd psEach (spEach C ps ws ce M k) := ok_each T D.DR D.DE G
  have GA : FnOk P w K mg base CX0 (L + 2) D.DA.f D.DA.fd psEach (spAll C ps ws ce M k) := ok_all hp h0 T D.DE D.DA GE
  have GPt : FnOk P w K mg base CX0 1 D.DPt.f D.DPt.fd ["rows"] spPoints := ok_points_of T D.DPt
  have GFp : FnOk P w K mg base CX0 1 D.DFp.f D.DFp.fd ["rows", "limit"] spFirst := ok_first_points T D.DFp
  have GRa : FnOk P w K mg base CX0 1 D.DRa.f D.DRa.fd ["place", "points", "where"] spRowAt := ok_row_at T D.DRa
  have GF : FnOk P w K mg base CX0 2 Y.DF.f Y.DF.fd ["self", "word"] (spVFirst C) := ok_vfirst T Y
  have GL : FnOk P w K mg base CX0 2 Y.DL.f Y.DL.fd ["self", "word"] (spVLast C) := ok_vlast T Y
  have GS : FnOk P w K mg base CX0 1 Y.DS.f Y.DS.fd ["self", "word"] (spStands C) := ok_stands T Y
  have GB : FnOk P w K mg base CX0 3 Y.DB.f Y.DB.fd ["self", "place"] (spVBehind C) := ok_vbehind T Y
  have GY : FnOk P w K mg base CX0 3 Y.DY.f Y.DY.fd ["self"] (spCarrying C) := ok_carrying T Y
  have nd := sc_rows_of.nd
  refine D.DR.ok sc_rows_of (fun vs H Q E h => ?_) (fun cdv A outer s H vs Q E hr h => ?_)
  · obtain ⟨pa, wr, vw, v, s, i, d, st, c, wh, rfl, _⟩ := h
    rfl
  obtain ⟨pa, wr, vw, v, sc, i, d, st, c, wh, rfl, R, hst, hs, ho, he7, hk, hwh, q⟩ := h
  have hrL : Room L _ := hr.mono (by omega)
  have hrE : Room (L + 1) _ := hr.mono (by omega)
  have hrA : Room (L + 2) _ := hr.mono (by omega)
  have hr1 : Room 1 _ := hr.mono (by omega)
  have hr2 : Room (1 + 1) _ := hr.mono (by omega)
  have hr3 : Room 3 _ := hr.mono (by omega)
  refine ⟨_, pss_one (ps_match (pv 1)
    (pm_cons rfl nd (.cons (i := 4) rfl (Or.inl rfl) (Or.inr rfl) (.cons (i := 5) rfl (Or.inl rfl) (Or.inr rfl) .nil))
      (pss_one (ps_ret (pcall D.DRa GRa hr1 (pa_cons (pe_meth (pv 3) Y.cl Y.DF.me GF hr2 Y.DF.b .nil pass0 (pa_cons (pv 4) pa_nil)) (pa_cons (pv 5) (pa_cons (pv 2) pa_nil))))))
    (pm_cons rfl nd (.cons (i := 6) rfl (Or.inl rfl) (Or.inr rfl) .nil)
      (pss_one (ps_ret (pcall D.DA GA hrA (pa_cons (pv 0) (pa_cons (pv 6) (pa_cons (pv 2) (pa_cons (pv 3) pa_nil)))))))
    (pm_cons rfl nd (.cons (i := 6) rfl (Or.inl rfl) (Or.inr rfl) .nil)
      (pss_one (ps_ret (pe_callBK (cr_maxKey rfl GPt hr2 D.DPt.b) rfl (T.free "max" (by decide +kernel)) (by decide +kernel) (pa_cons (pcall D.DE GE hrE (pa_cons (pv 0) (pa_cons (pv 6) (pa_cons (pv 2) (pa_cons (pv 3) pa_nil))))) pa_nil) (pk_cons (pe_glob rfl D.DPt.g (v := .ref D.DPt.f) rfl) pk_nil))))
    (pm_cons rfl nd (.cons (i := 7) rfl (Or.inl rfl) (Or.inr rfl) (.cons (i := 8) rfl (Or.inl rfl) (Or.inr rfl) .nil))
      (pss_one (ps_ret (pcall D.DFp GFp hr1 (pa_cons (pcall D.DR G hrL (pa_cons (pv 0) (pa_cons (pv 8) (pa_cons (pe_op (r := rCatA K) op_catA (pv 2) (pe_tup (pa_cons pe_int pa_nil))) (pa_cons (pv 3) pa_nil))))) (pa_cons (pv 7) pa_nil)))))
    (pm_cons rfl nd (.cons (i := 8) rfl (Or.inl rfl) (Or.inr rfl) .nil)
      (pss_cons (ps_set (i := 9) nd rfl (Or.inl rfl) (pcall D.DR G hrL (pa_cons (pv 0) (pa_cons (pv 8) (pa_cons (pe_op (r := rCatA K) op_catA (pv 2) (pe_tup (pa_cons pe_int pa_nil))) (pa_cons (pv 3) pa_nil))))))
        (pss_one (ps_ret (pcall D.DFp GFp hr1 (pa_cons (pv 9) (pa_cons (pe_op op_fdiv (pcall D.DPt GPt hr1 (pa_cons (pv 9) pa_nil)) pe_int) pa_nil))))))
    (pm_cons rfl nd (.cons (i := 4) rfl (Or.inl rfl) (Or.inr rfl) (.cons (i := 8) rfl (Or.inl rfl) (Or.inr rfl) .nil))
      (pss_one (ps_ret (pe_ifExp (pt_val (pe_meth (pv 3) Y.cl Y.DS.me GS hr1 Y.DS.b .nil pass0 (pa_cons (pv 4) pa_nil))) (pcall D.DR G hrL (pa_cons (pv 0) (pa_cons (pv 8) (pa_cons (pe_op (r := rCatA K) op_catA (pv 2) (pe_tup (pa_cons pe_int pa_nil))) (pa_cons (pv 3) pa_nil))))) (pe_lst pa_nil))))
    (pm_cons rfl nd (.cons (i := 4) rfl (Or.inl rfl) (Or.inr rfl) (.cons (i := 8) rfl (Or.inl rfl) (Or.inr rfl) .nil))
      (pss_cons (ps_set (i := 10) nd rfl (Or.inl rfl) (pe_meth (pv 3) Y.cl Y.DF.me GF hr2 Y.DF.b .nil pass0 (pa_cons (pv 4) pa_nil)))
        (pss_one (ps_ret (pe_ifExp (pt_cmpR op_isN (pv 10) pe_non (nomark _)) (pe_lst pa_nil) (pcall D.DR G hrL (pa_cons (pv 0) (pa_cons (pv 8) (pa_cons (pe_op (r := rCatA K) op_catA (pv 2) (pe_tup (pa_cons pe_int pa_nil))) (pa_cons (pe_meth (pv 3) Y.cl Y.DB.me GB hr3 Y.DB.b .nil pass0 (pa_cons (pv 10) pa_nil)) pa_nil)))))))))
    (pm_cons rfl nd (.cons (i := 8) rfl (Or.inl rfl) (Or.inr rfl) .nil)
      (pss_one (ps_ret (pcall D.DR G hrL (pa_cons (pv 0) (pa_cons (pv 8) (pa_cons (pe_op (r := rCatA K) op_catA (pv 2) (pe_tup (pa_cons pe_int pa_nil))) (pa_cons (pe_meth0 (pv 3) Y.cl Y.DY.me GY hr3 Y.DY.b .nil pass0) pa_nil)))))))
    (pm_cons rfl nd (.cons (i := 4) rfl (Or.inl rfl) (Or.inr rfl) (.cons (i := 5) rfl (Or.inl rfl) (Or.inr rfl) (.cons (i := 8) rfl (Or.inl rfl) (Or.inr rfl) .nil)))
      (pss_one (ps_ret (pe_orT (pcall D.DRa GRa hr1 (pa_cons (pe_meth (pv 3) Y.cl Y.DL.me GL hr2 Y.DL.b .nil pass0 (pa_cons (pv 4) pa_nil)) (pa_cons (pv 5) (pa_cons (pv 2) pa_nil)))) (pe_one (pcall D.DR G hrL (pa_cons (pv 0) (pa_cons (pv 8) (pa_cons (pe_op (r := rCatA K) op_catA (pv 2) (pe_tup (pa_cons pe_int pa_nil))) (pa_cons (pv 3) pa_nil)))))))))
    (pm_cons rfl nd (.cons (i := 11) rfl (Or.inl rfl) (Or.inr rfl) .nil)
      (pss_one (ps_ret (pcall D.DR G hrL (pa_cons (pv 0) (pa_cons (pe_ix ix_tup (pv 0) (pv 11) (fun _ _ => rfl)) (pa_cons (pe_op (r := rCatA K) op_catA (pv 2) (pe_tup (pa_cons pe_int pa_nil))) (pa_cons (pv 3) pa_nil)))))))
    pm_nil))))))))))), ?_⟩
  obtain ⟨dxv, wav, wpv, hvw, ewa, ewp⟩ := id R.view
  have lw0 : (wh ++ [0]).length = wh.length + 1 := by rw [List.length_append]; rfl
  cases d with
  | zero => cases hs
  | succ d =>
  have hk' : (M - i) * 5 + d ≤ k := by omega
  have inner : ∀ {H1 : Hp} {wr' vw' : Addr} {u : V} {s' : Sch} {st' : Nat} {c' : Bool} {Q' : VK}, Same H H1 → H1 wr' = some (.tup (natV (wh ++ [0]))) → ViewAt C H1 vw' ws st' c' → st' ≤ ws.length → SAt H1 d s' u → OkS i M d s' → er ce d s' ≤ 7 →
      (∀ (f : Addr) (rv : List V) (H' : Hp), Same H1 H' → H1 f = none → H' f = some (.lst rv) → Paired (RowR H') (rP ps ws k s' st' c' (wh ++ [0])) rv → Q' (.ref f) H') → spRows C ps ws ce M k [.ref pa, u, .ref wr', .ref vw'] H1 Q' E0 := fun s1 ew hv hst' hs' ho' h7' q' =>
    ⟨pa, _, _, _, _, i, d, _, _, wh ++ [0], rfl, ⟨(R.keep s1).paper, hv, ew⟩, hst', hs', ho', h7', hk', by omega, q'⟩
  cases sc with
  | step x p =>
    obtain ⟨a, rfl, ea⟩ := hs
    obtain ⟨pn, rfl⟩ := nat_of (p := p) (by have := ho.2.1; omega)
    refine ⟨_, rfl, case_yes ea (by show 2 ≤ 1000; decide) rfl ?_⟩
    refine ⟨_, rfl, vw, dxv, _, rfl, hvw, vf_first _ _ _, _, rfl, vw, x, ws, st, c, rfl, R.view, hw, by omega, by omega, ?_⟩
    refine ⟨_, rfl, _, rfl, (hits ws c x st).head?, pn, wr, wh, rfl, R.wher, fun f rv H' s1 hf ef pr => q f rv H' s1 hf ef ?_⟩
    show Paired (RowR H') (match hits ws c x st with
      | [] => []
      | i :: _ => [(i, ((pn : Nat) : Int).toNat, wh)]) rv
    cases e : hits ws c x st with
    | nil => rw [e] at pr; exact pr
    | cons i r => rw [e] at pr; exact pr
  | all ks =>
    obtain ⟨a, b, kv, rfl, ea, eb, pr⟩ := hs
    have hsum : ∀ s ∈ ks, er ce d s ≤ 7 := fun s hs' => by
      have z : (ks.map (er ce d)).sum ≤ 7 := he7
      have := le_sum (l := ks.map (er ce d)) (fun x hx => by
        obtain ⟨s2, hs2, rfl⟩ := List.mem_map.mp hx
        exact er_nonneg (c := ce) (fun j _ hj => h0 j hj) d s2 (ho.2.2 s2 hs2)) _ (List.mem_map_of_mem hs')
      omega
    refine ⟨_, rfl, case_no ea (by show 1 ≤ 1000; decide) (by decide +kernel) (case_yes ea (by show 1 ≤ 1000; decide) rfl ?_)⟩
    refine ⟨_, rfl, _, rfl, _, rfl, _, rfl, pa, wr, vw, b, ks, kv, i, d, st, c, wh, rfl, R, hst, ⟨eb, pr, fun s hs' => ⟨ho.2.2 s hs', hsum s hs'⟩, ho.2.1, hk'⟩, by omega, fun f rv H' s1 hf ef pr' => q f rv H' s1 hf ef pr'⟩
  | best ks =>
    obtain ⟨a, b, kv, rfl, ea, eb, pr⟩ := hs
    have hsum : ∀ s ∈ ks, er ce d s ≤ 7 := fun s hs' => by
      have z : (ks.map (er ce d)).sum ≤ 7 := he7
      have := le_sum (l := ks.map (er ce d)) (fun x hx => by
        obtain ⟨s2, hs2, rfl⟩ := List.mem_map.mp hx
        exact er_nonneg (c := ce) (fun j _ hj => h0 j hj) d s2 (ho.2.2 s2 hs2)) _ (List.mem_map_of_mem hs')
      omega
    refine ⟨_, rfl, case_no ea (by show 1 ≤ 1000; decide) (by decide +kernel) (case_no ea (by show 1 ≤ 1000; decide) (by decide +kernel) (case_yes ea (by show 1 ≤ 1000; decide) rfl ?_))⟩
    refine ⟨_, rfl, _, rfl, _, rfl, _, rfl, pa, wr, vw, b, ks, kv, i, d, st, c, wh, rfl, R, hst, ⟨eb, pr, fun s hs' => ⟨ho.2.2 s hs', hsum s hs'⟩, ho.2.1, hk'⟩, by omega, fun r fv Hr sr hr0 er' EA => ?_⟩
    have hpos : ∀ s ∈ ks, ∀ j, ∀ r ∈ (fun s j => rP ps ws k s st c (wh ++ [j])) s j, 0 < r.2.1 := fun s hs' j r hr => ((rP_good (ws := ws) (fun j s e => (hp j s e).1) k i d s st c (wh ++ [j]) (ho.2.2 s hs')).1 r hr).1
    have hlen : ∀ s ∈ ks, ∀ j, ((fun s j => rP ps ws k s st c (wh ++ [j])) s j).length ≤ 63 := fun s hs' j => rP_len hp h0 (ho.2.2 s hs') (hsum s hs')
    have q : ∀ (f : Addr) (rv : List V) (H' : Hp), Same H H' → H f = none → H' f = some (.lst rv) → Paired (RowR H') (bestR (fun s j => rP ps ws k s st c (wh ++ [j])) ks 0 []) rv → Q (.ref f) H' := q
    generalize (fun s j => rP ps ws k s st c (wh ++ [j])) = F at q EA hpos hlen
    obtain ⟨hfl, hEA⟩ := EA
    have hk0 : 0 < ks.length := ho.1
    refine ⟨r, fv, fun i => ((pts (FF F ks i) : Nat) : Int), rfl, rfl, er', fun x hx => ?_, by omega, fun H' i' x sm ex => ?_, fun x H' sm ex => ?_⟩
    · obtain ⟨j, hj⟩ := List.getElem?_of_mem hx
      have hjl : j < ks.length := by rw [← hfl]; exact (List.getElem?_eq_some_iff.mp hj).1
      obtain ⟨g, rv, e1, _⟩ := hEA j _ (List.getElem?_eq_getElem hjl)
      rw [hj] at e1
      exact ⟨g, Option.some.inj e1⟩
    · have hjl : i' < ks.length := by rw [← hfl]; exact (List.getElem?_eq_some_iff.mp ex).1
      have es := List.getElem?_eq_getElem hjl
      obtain ⟨g, rv, e1, e2, e3, e4⟩ := hEA i' _ es
      rw [ex] at e1
      cases e1
      have l63 := hlen _ (List.getElem_mem hjl) i'
      refine ⟨g, F (ks[i']'hjl) i', rv, rfl, sm _ _ e3, paired_imp e4 fun _ _ h => RowR.keep h (Same.tupK sm), by omega, fun H'' s2 => ⟨?_, s2⟩⟩
      have eFF : FF F ks i' = F (ks[i']'hjl) i' := by unfold FF; rw [es]
      show V.int ((pts (F (ks[i']'hjl) i') : Nat) : Int) = V.int ((pts (FF F ks i') : Nat) : Int)
      rw [eFF]
    · rw [hfl] at ex
      have ha := arg_le (gtB fun i => ((pts (FF F ks i) : Nat) : Int)) (ks.length - 1)
      have hb := best_arg (f := F) hpos (ks.length - 1) (by omega)
      rw [show ks.length - 1 + 1 = ks.length by omega, List.take_length] at hb
      generalize argBest (gtB fun i => ((pts (FF F ks i) : Nat) : Int)) (ks.length - 1) = j at ex ha hb
      have hjl : j < ks.length := by omega
      have es := List.getElem?_eq_getElem hjl
      obtain ⟨g, rv, e1, e2, e3, e4⟩ := hEA j _ es
      rw [ex] at e1
      cases e1
      refine q g rv H' (sr.trans sm) e2 (sm _ _ e3) ?_
      rw [hb]
      unfold FF
      rw [es]
      exact paired_imp e4 fun _ _ h => RowR.keep h (Same.tupK sm)
  | most n s' =>
    obtain ⟨a, u, rfl, ea, hs'⟩ := hs
    obtain ⟨nn, rfl⟩ := nat_of (p := n) ho.1.1
    refine ⟨_, rfl, case_no ea (by show 2 ≤ 1000; decide) (by decide +kernel) (case_no ea (by show 2 ≤ 1000; decide) (by decide +kernel) (case_no ea (by show 2 ≤ 1000; decide) (by decide +kernel) (case_yes ea (by show 2 ≤ 1000; decide) rfl ?_)))⟩
    refine ⟨_, rfl, _, rfl, ?_⟩
    refine cat_at (i := 2) (j := 0) rfl R.wher (by omega) (fun Q q => q) (fun wr' H1 s1 ew => ?_)
    refine ⟨_, rfl, ?_⟩
    dsimp only [tNil]
    refine inner s1 ew (R.view.keep s1) hst (SAt.keep (Same.tupK s1) _ _ _ hs') ho.2 he7 fun f rv H2 s2 hf ef pr => ?_
    have l63 := rP_len (ws := ws) hp h0 (k := k) (st := st) (c := c) (wh := wh ++ [0]) ho.2 he7
    refine ⟨_, rfl, f, nn, _, rv, rfl, ef, pr, by omega, fun f3 rv3 H3 s3 hf3 ef3 pr3 => q f3 rv3 H3 ((s1.trans s2).trans s3) ((s1.trans s2).free hf3) ef3 ?_⟩
    show Paired (RowR H3) (firstP (rP ps ws k s' st c (wh ++ [0])) ((nn : Nat) : Int).toNat) rv3
    rw [Int.toNat_natCast]
    exact pr3
  | half s' =>
    obtain ⟨a, u, rfl, ea, hs'⟩ := hs
    refine ⟨_, rfl, case_no ea (by show 1 ≤ 1000; decide) (by decide +kernel) (case_no ea (by show 1 ≤ 1000; decide) (by decide +kernel) (case_no ea (by show 1 ≤ 1000; decide) (by decide +kernel) (case_no ea (by show 1 ≤ 1000; decide) (by decide +kernel) (case_yes ea (by show 1 ≤ 1000; decide) rfl ?_))))⟩
    refine ⟨_, rfl, _, rfl, ?_⟩
    refine cat_at (i := 2) (j := 0) rfl R.wher (by omega) (fun Q q => q) (fun wr' H1 s1 ew => ?_)
    refine ⟨_, rfl, ?_⟩
    dsimp only [tNil]
    refine inner s1 ew (R.view.keep s1) hst (SAt.keep (Same.tupK s1) _ _ _ hs') ho he7 fun f rv H2 s2 hf ef pr => ?_
    have l63 := rP_len (ws := ws) hp h0 (k := k) (i := i) (d := d) (s := s') (st := st) (c := c) (wh := wh ++ [0]) ho he7
    dsimp only [gName]
    refine ⟨_, rfl, _, rfl, f, _, rv, rfl, ef, pr, by omega, fun H3 s3 => ?_⟩
    refine ⟨_, _, rfl, rfl, ⟨by decide, by decide⟩, ?_⟩
    refine ⟨f, pts (rP ps ws k s' st c (wh ++ [0])) / 2, _, rv, congrArg (fun z => [V.ref f, V.int z]) (show ((pts (rP ps ws k s' st c (wh ++ [0])) : Nat) : Int) / 2 = ((pts (rP ps ws k s' st c (wh ++ [0])) / 2 : Nat) : Int) by omega), s3 _ _ ef, paired_imp pr fun _ _ h => RowR.keep h (Same.tupK s3), by omega, fun f4 rv4 H4 s4 hf4 ef4 pr4 => ?_⟩
    have sm := ((s1.trans s2).trans s3)
    exact q f4 rv4 H4 (sm.trans s4) (sm.free hf4) ef4 pr4
  | seen x s' =>
    obtain ⟨a, u, rfl, ea, hs'⟩ := hs
    refine ⟨_, rfl, case_no ea (by show 2 ≤ 1000; decide) (by decide +kernel) (case_no ea (by show 2 ≤ 1000; decide) (by decide +kernel) (case_no ea (by show 2 ≤ 1000; decide) (by decide +kernel) (case_no ea (by show 2 ≤ 1000; decide) (by decide +kernel) (case_no ea (by show 2 ≤ 1000; decide) (by decide +kernel) (case_yes ea (by show 2 ≤ 1000; decide) rfl ?_)))))⟩
    refine ⟨_, rfl, vw, dxv, _, rfl, hvw, vf_stands _ _ _, _, rfl, vw, x, ws, st, c, rfl, R.view, hw, by omega, fun H0 s0 => ⟨_, rfl, ?_⟩⟩
    have q : ∀ (f : Addr) (rv : List V) (H' : Hp), Same H H' → H f = none → H' f = some (.lst rv) → Paired (RowR H') (if (ws.any fun p => p.1 == x) = true then rP ps ws k s' st c (wh ++ [0]) else []) rv → Q (.ref f) H' := q
    have R0 := R.keep s0
    cases e : ws.any fun p => p.1 == x with
    | true =>
      rw [if_pos e] at q
      refine iteT ⟨_, rfl, _, rfl, ?_⟩
      refine cat_at (i := 2) (j := 0) rfl R0.wher (by omega) (fun Q q => q) (fun wr' H1 s1 ew => ?_)
      have s01 := s0.trans s1
      exact ⟨_, rfl, inner s01 ew (R.view.keep s01) hst (SAt.keep (Same.tupK s01) _ _ _ hs') ho.2 he7 fun f rv H2 s2 hf ef pr => q f rv H2 (s01.trans s2) (s01.free hf) ef pr⟩
    | false =>
      rw [if_neg (by rw [e]; decide)] at q
      exact iteF ⟨Nat.zero_le _, fun f hf => q f [] _ (s0.trans (Same.new hf)) (s0.free hf) upd_same .nil⟩
  | behind x s' =>
    obtain ⟨a, u, rfl, ea, hs'⟩ := hs
    refine ⟨_, rfl, case_no ea (by show 2 ≤ 1000; decide) (by decide +kernel) (case_no ea (by show 2 ≤ 1000; decide) (by decide +kernel) (case_no ea (by show 2 ≤ 1000; decide) (by decide +kernel) (case_no ea (by show 2 ≤ 1000; decide) (by decide +kernel) (case_no ea (by show 2 ≤ 1000; decide) (by decide +kernel) (case_no ea (by show 2 ≤ 1000; decide) (by decide +kernel) (case_yes ea (by show 2 ≤ 1000; decide) rfl ?_))))))⟩
    refine ⟨_, rfl, vw, dxv, _, rfl, hvw, vf_first _ _ _, _, rfl, vw, x, ws, st, c, rfl, R.view, hw, by omega, by omega, ?_⟩
    dsimp only [gName]
    have q : ∀ (f : Addr) (rv : List V) (H' : Hp), Same H H' → H f = none → H' f = some (.lst rv) → Paired (RowR H') (match hits ws c x st with
      | [] => []
      | i :: _ => rP ps ws k s' (i + 1) c (wh ++ [0])) rv → Q (.ref f) H' := q
    cases e : hits ws c x st with
    | nil =>
      rw [e] at q
      refine ⟨_, rfl, rfl, _, rfl, ?_⟩
      exact iteT ⟨Nat.zero_le _, fun f hf => q f [] _ (Same.new hf) hf upd_same .nil⟩
    | cons i0 r =>
      rw [e] at q
      have hin := hits_in e
      refine ⟨_, rfl, rfl, _, rfl, ?_⟩
      refine iteF ⟨_, rfl, _, rfl, ?_⟩
      refine cat_at (i := 2) (j := 0) rfl R.wher (by omega) (fun Q q => q) (fun wr' H1 s1 ew => ?_)
      refine ⟨_, rfl, vw, dxv, _, rfl, s1 _ _ hvw, vf_behind _ _ _, _, rfl, vw, i0, ws, st, c, rfl, R.view.keep s1, fun vw2 H2 s2 hv2 => ?_⟩
      have s12 := s1.trans s2
      exact inner s12 (s2 _ _ ew) hv2 (by omega) (SAt.keep (Same.tupK s12) _ _ _ hs') ho.2 he7 fun f rv H3 s3 hf ef pr => q f rv H3 (s12.trans s3) (s12.free hf) ef pr
  | carry s' =>
    obtain ⟨a, u, rfl, ea, hs'⟩ := hs
    refine ⟨_, rfl, case_no ea (by show 1 ≤ 1000; decide) (by decide +kernel) (case_no ea (by show 1 ≤ 1000; decide) (by decide +kernel) (case_no ea (by show 1 ≤ 1000; decide) (by decide +kernel) (case_no ea (by show 1 ≤ 1000; decide) (by decide +kernel) (case_no ea (by show 1 ≤ 1000; decide) (by decide +kernel) (case_no ea (by show 1 ≤ 1000; decide) (by decide +kernel) (case_no ea (by show 1 ≤ 1000; decide) (by decide +kernel) (case_yes ea (by show 1 ≤ 1000; decide) rfl ?_)))))))⟩
    refine ⟨_, rfl, _, rfl, ?_⟩
    refine cat_at (i := 2) (j := 0) rfl R.wher (by omega) (fun Q q => q) (fun wr' H1 s1 ew => ?_)
    refine ⟨_, rfl, vw, dxv, _, rfl, s1 _ _ hvw, vf_carrying _ _ _, vw, ws, st, c, rfl, R.view.keep s1, fun vw2 H2 s2 hv2 => ?_⟩
    have s12 := s1.trans s2
    exact inner s12 (s2 _ _ ew) hv2 hst (SAt.keep (Same.tupK s12) _ _ _ hs') ho he7 fun f rv H3 s3 hf ef pr => q f rv H3 (s12.trans s3) (s12.free hf) ef pr
  | fin x p s' =>
    obtain ⟨a, u, rfl, ea, hs'⟩ := hs
    obtain ⟨pn, rfl⟩ := nat_of (p := p) (by have := ho.1.2.1; omega)
    have he7' : er ce d s' ≤ 7 := by
      have z : 1 + er ce d s' ≤ 7 := he7
      omega
    refine ⟨_, rfl, case_no ea (by show 3 ≤ 1000; decide) (by decide +kernel) (case_no ea (by show 3 ≤ 1000; decide) (by decide +kernel) (case_no ea (by show 3 ≤ 1000; decide) (by decide +kernel) (case_no ea (by show 3 ≤ 1000; decide) (by decide +kernel) (case_no ea (by show 3 ≤ 1000; decide) (by decide +kernel) (case_no ea (by show 3 ≤ 1000; decide) (by decide +kernel) (case_no ea (by show 3 ≤ 1000; decide) (by decide +kernel) (case_no ea (by show 3 ≤ 1000; decide) (by decide +kernel) (case_yes ea (by show 3 ≤ 1000; decide) rfl ?_))))))))⟩
    refine ⟨_, rfl, vw, dxv, _, rfl, hvw, vf_last _ _ _, _, rfl, vw, x, ws, st, c, rfl, R.view, hw, by omega, ?_⟩
    have q : ∀ (f : Addr) (rv : List V) (H' : Hp), Same H H' → H f = none → H' f = some (.lst rv) → Paired (RowR H') (if lastOk ws c x st = true then [(ws.length - 1, ((pn : Nat) : Int).toNat, wh)] else rP ps ws k s' st c (wh ++ [0])) rv → Q (.ref f) H' := q
    refine ⟨_, rfl, _, rfl, if lastOk ws c x st = true then some (ws.length - 1) else none, pn, wr, wh, rfl, R.wher, fun f rv H1 s1 hf ef pr => ?_⟩
    cases e : lastOk ws c x st with
    | true =>
      rw [if_pos e] at q
      rw [e] at pr
      rw [Int.toNat_natCast] at q
      have pr : Paired (RowR H1) [(ws.length - 1, pn, wh)] rv := pr
      refine ⟨true, .inl ⟨rv, SqL.of ef, ?_⟩, iteT (q f rv H1 s1 hf ef pr)⟩
      cases pr
      rfl
    | false =>
      rw [if_neg (by rw [e]; decide)] at q
      rw [e] at pr
      have pr : Paired (RowR H1) [] rv := pr
      refine ⟨false, .inl ⟨rv, SqL.of ef, by cases pr; rfl⟩, iteF ⟨_, rfl, _, rfl, ?_⟩⟩
      have R1 := R.keep s1
      refine cat_at (i := 2) (j := 0) rfl R1.wher (by omega) (fun Q q => q) (fun wr' H2 s2 ew => ?_)
      have s12 := s1.trans s2
      exact ⟨_, rfl, inner s12 ew (R.view.keep s12) hst (SAt.keep (Same.tupK s12) _ _ _ hs') ho.2 he7' fun f rv H3 s3 hf ef pr => q f rv H3 (s12.trans s3) (s12.free hf) ef pr⟩
  | use n =>
    obtain ⟨a, rfl, ea⟩ := hs
    obtain ⟨pv0, epv, pp⟩ := R.paper
    have nl : n < ps.length := by rw [hM]; exact ho.2
    obtain ⟨v', ev', hs'⟩ := paired_get2 pp (List.getElem?_eq_getElem nl)
    obtain ⟨ho', ec⟩ := hp n _ (List.getElem?_eq_getElem nl)
    have hin : i < n := ho.1
    have hnM : n < M := ho.2
    refine ⟨_, rfl, case_no ea (by show 1 ≤ 1000; decide) (by decide +kernel) (case_no ea (by show 1 ≤ 1000; decide) (by decide +kernel) (case_no ea (by show 1 ≤ 1000; decide) (by decide +kernel) (case_no ea (by show 1 ≤ 1000; decide) (by decide +kernel) (case_no ea (by show 1 ≤ 1000; decide) (by decide +kernel) (case_no ea (by show 1 ≤ 1000; decide) (by decide +kernel) (case_no ea (by show 1 ≤ 1000; decide) (by decide +kernel) (case_no ea (by show 1 ≤ 1000; decide) (by decide +kernel) (case_no ea (by show 1 ≤ 1000; decide) (by decide +kernel) (case_yes ea (by show 1 ≤ 1000; decide) rfl ?_)))))))))⟩
    refine ⟨_, rfl, _, rfl, _, rfl, pa, pv0, _, _, rfl, rfl, SqT.of epv, atI_nat ev', ?_⟩
    refine cat_at (i := 2) (j := 0) rfl R.wher (by omega) (fun Q q => q) (fun wr' H1 s1 ew => ?_)
    have R1 := R.keep s1
    have q : ∀ (f : Addr) (rv : List V) (H' : Hp), Same H H' → H f = none → H' f = some (.lst rv) → Paired (RowR H') (match ps[n]? with
      | none => []
      | some s => rP ps ws k s st c (wh ++ [0])) rv → Q (.ref f) H' := q
    rw [List.getElem?_eq_getElem nl] at q
    exact ⟨_, rfl, pa, wr', vw, v', _, n, 5, st, c, wh ++ [0], rfl, ⟨R1.paper, R1.view, ew⟩, hst, SAt.keep (Same.tupK s1) _ _ _ hs', ho', by rw [← ec]; exact h7 n hnM, by omega, by omega, fun f rv H2 s2 hf ef pr => q f rv H2 (s1.trans s2) (s1.free hf) ef pr⟩
theorem ok_rows_of (hM : ps.length = M) (hw : ∀ p ∈ ws, IsStep p) (hws : ws.length ≤ 12) (hp : ∀ (j : Nat) (s : Sch), ps[j]? = some s → OkS j M 5 s ∧ ce j = er ce 5 s) (h0 : ∀ j, j < M → 0 ≤ ce j) (h7 : ∀ j, j < M → ce j ≤ 7) (T : PTx w K mg) (Y : VCls K mg C) (D : DRows K mg) : ∀ k : Nat, FnOk P w K mg base CX0 (3 * k + 3) D.DR.f D.DR.fd psRows (spRows C ps ws ce M k)
  | 0 => by
    have e : spRows C ps ws ce M 0 = fun _ _ _ _ => False := by
      funext vs H Q E
      refine propext ⟨fun h => ?_, fun h => h.elim⟩
      obtain ⟨pa, wr, vw, v, s, i, d, st, c, wh, _, _, _, _, ho, _, hk, _⟩ := h
      have : d = 0 := by omega
      subst this
      cases ho
    rw [e]
    exact no_sp
  | k + 1 => rows_turn hM hw hws hp h0 h7 T Y D (by omega) (ok_rows_of hM hw hws hp h0 h7 T Y D k)
end
end MS
end
section
set_option maxRecDepth 100000
set_option maxHeartbeats 4000000
namespace MS
open PySem L2
/-! ### what a work earns -/
abbrev PW : Type := { x : List Sch × List StepT // PaperOk x.1 ∧ WorkOk x.2 }
def spRowsBy1 (x : PW) : Sp := fun vs H Q _ => ∃ pa wa, vs = [.ref pa, .ref wa] ∧ PWAt H x.1.1 x.1.2 pa wa ∧ ∀ (f : Addr) (rv : List V) (H' : Hp), Same H H' → H f = none → H' f = some (.lst rv) → Paired (RowR H') (rAll x.1.1 x.1.2) rv → Q (.ref f) H'
def spMarked1 (x : PW) : Sp := fun vs H Q _ => ∃ pa wa, vs = [.ref pa, .ref wa] ∧ PWAt H x.1.1 x.1.2 pa wa ∧ ∀ H', Same H H' → Q (.int ((pts (rAll x.1.1 x.1.2) : Nat) : Int)) H'
section
variable {P : Program} {w : World} {K : PySem.W.Frag} {mg : Str → Option Value} {base : Heap} {C : Addr}
theorem rAll_len (x : PW) : (rAll x.1.1 x.1.2).length ≤ 63 := by
  obtain ⟨⟨ps, ws⟩, hP, hW⟩ := x
  obtain ⟨ce, hp, h0, h7⟩ := hP.facts
  cases ps with
  | nil => exact Nat.zero_le _
  | cons s r =>
    obtain ⟨o, e⟩ := hp 0 s rfl
    exact rP_len hp h0 (k := 30) (st := 0) (c := false) (wh := []) o (by rw [← e]; exact h7 0 hP.1)
theorem ok_rows_by (x : PW) (T : PTx w K mg) (Y : VCls K mg C) (D : DRows K mg) : FnOk P w K mg base CX0 94 D.DB.f D.DB.fd ["paper", "work"] (spRowsBy1 x) := by
  obtain ⟨⟨ps, ws⟩, hP, hW⟩ := x
  have hP : PaperOk ps := hP
  have hW : WorkOk ws := hW
  obtain ⟨ce, hp, h0, h7⟩ := hP.facts
  have GI : FnOk P w K mg base CX0 1 Y.DI.f Y.DI.fd ["self", "steps", "start", "ways"] (spVInit C) := ok_vinit Y
  have G : FnOk P w K mg base CX0 93 D.DR.f D.DR.fd psRows (spRows C ps ws ce ps.length 30) := ok_rows_of rfl hW.1.all hW.2 hp h0 h7 T Y D 30
  obtain ⟨tr, gr⟩ := T.right
  refine D.DB.ok sc_rows_by (fun vs H Q E h => ?_) (fun cdv A outer s H vs Q E hr h => ?_)
  · obtain ⟨pa, wa, rfl, _⟩ := h
    rfl
  obtain ⟨pa, wa, rfl, R, q⟩ := h
  have R : PWAt H ps ws pa wa := R
  have hr2 : Room (1 + 1) _ := hr.mono (by decide)
  refine ⟨_, pss_one (ps_ret (pcall D.DR G hr (pa_cons (pv 0) (pa_cons (pe_ix ix_tup (pv 0) pe_int (fun _ _ => rfl)) (pa_cons (pe_tup pa_nil) (pa_cons (pe_make Y.mk' GI hr2 rfl Y.mgC Y.DI.b .nil pass0 (pa_cons (pv 1) (pa_cons pe_int (pa_cons (pe_tup (pa_cons (pe_glob rfl gr (v := .str "r") ⟨_, rfl⟩) pa_nil)) pa_nil)))) pa_nil)))))), ?_⟩
  obtain ⟨pv0, epv, pp⟩ := R.paper
  have hPl := hP.1
  have hP5 := hP.2.1
  cases ps with
  | nil => exact absurd hPl (by decide)
  | cons s0 pr =>
  obtain ⟨v0, ev0, hs0⟩ := paired_get2 pp (k := 0) rfl
  obtain ⟨o0, e0⟩ := hp 0 s0 rfl
  refine ⟨_, rfl, _, rfl, pa, pv0, 0, v0, rfl, rfl, SqT.of epv, atI_nat (j := 0) ev0, Nat.zero_le _, fun t ht => ?_⟩
  have s1 : Same H (upd H t (.tup [])) := Same.new ht
  refine ⟨_, rfl, (by show 1 ≤ sizeLine; decide), fun t2 ht2 => ?_⟩
  have s2 := s1.trans (Same.new (o := .tup [.str "r"]) ht2)
  have et : upd (upd H t (.tup [])) t2 (.tup [.str "r"]) t = some (.tup []) := Same.new ht2 _ _ upd_same
  intro x dx hx hdx ne
  refine view_made (C := C) (ws := ws) (st := 0) (c := false) (Q := fun v H2 => spRows C (s0 :: pr) ws ce (s0 :: pr).length 30 [.ref pa, v0, .ref t, v] H2 Q E0) (s2 _ _ R.work) upd_same hx hdx ne rfl fun u H' sm hu => ?_
  have s3 := s2.trans sm
  have R3 := R.keep s3
  refine ⟨pa, t, u, v0, s0, 0, 5, 0, false, [], rfl, ⟨R3.paper, hu, sm _ _ et⟩, Nat.zero_le _, SAt.keep (Same.tupK s3) _ _ _ hs0, o0, by rw [← e0]; exact h7 0 hPl, by omega, by decide, fun f rv H4 s4 hf ef pr4 => ?_⟩
  exact q f rv H4 (s3.trans s4) (s3.free hf) ef pr4
theorem ok_earned_p (x : PW) (T : PTx w K mg) (Y : VCls K mg C) (D : DRows K mg) (DP : DPaper K mg) : FnOk P w K mg base CX0 95 D.DN.f D.DN.fd ["paper", "work"] (spRowsBy1 x) := by
  have GC : FnOk P w K mg base CX0 5 DP.DC.f DP.DC.fd ["paper"] spCheckPaper := ok_check_paper T DP
  have GW : FnOk P w K mg base CX0 2 D.DC.f D.DC.fd ["work"] spCheckWork := ok_check_work T D.DC D.DI
  have GB : FnOk P w K mg base CX0 94 D.DB.f D.DB.fd ["paper", "work"] (spRowsBy1 x) := ok_rows_by x T Y D
  refine D.DN.ok sc_earned (fun vs H Q E h => ?_) (fun cdv A outer s H vs Q E hr h => ?_)
  · obtain ⟨pa, wa, rfl, _⟩ := h
    rfl
  obtain ⟨pa, wa, rfl, R, q⟩ := h
  have hr5 : Room 5 _ := hr.mono (by decide)
  have hr2 : Room 2 _ := hr.mono (by decide)
  refine ⟨_, pss_cons (ps_expr (pcall DP.DC GC hr5 (pa_cons (pv 0) pa_nil))) (pss_cons (ps_expr (pcall D.DC GW hr2 (pa_cons (pv 1) pa_nil)))
    (pss_one (ps_ret (pcall D.DB GB hr (pa_cons (pv 0) (pa_cons (pv 1) pa_nil)))))), ?_⟩
  obtain ⟨pv0, epv, pp⟩ := R.paper
  refine ⟨_, rfl, pa, x.1.1, pv0, rfl, epv, pp, x.2.1, fun H1 s1 => ?_⟩
  refine ⟨_, rfl, wa, x.1.2, rfl, s1 _ _ R.work, x.2.2, fun H2 s2 => ?_⟩
  have s12 := s1.trans s2
  exact ⟨_, rfl, _, rfl, pa, wa, rfl, R.keep s12, fun f rv H3 s3 hf ef pr => q f rv H3 (s12.trans s3) (s12.free hf) ef pr⟩
theorem ok_marked_p (x : PW) (T : PTx w K mg) (Y : VCls K mg C) (D : DRows K mg) (DP : DPaper K mg) : FnOk P w K mg base CX0 96 D.DM.f D.DM.fd ["paper", "work"] (spMarked1 x) := by
  have GN : FnOk P w K mg base CX0 95 D.DN.f D.DN.fd ["paper", "work"] (spRowsBy1 x) := ok_earned_p x T Y D DP
  have GPt : FnOk P w K mg base CX0 1 D.DPt.f D.DPt.fd ["rows"] spPoints := ok_points_of T D.DPt
  refine D.DM.ok sc_marked (fun vs H Q E h => ?_) (fun cdv A outer s H vs Q E hr h => ?_)
  · obtain ⟨pa, wa, rfl, _⟩ := h
    rfl
  obtain ⟨pa, wa, rfl, R, q⟩ := h
  have hr1 : Room 1 _ := hr.mono (by decide)
  refine ⟨_, pss_one (ps_ret (pcall D.DPt GPt hr1 (pa_cons (pcall D.DN GN hr (pa_cons (pv 0) (pa_cons (pv 1) pa_nil))) pa_nil))), ?_⟩
  refine ⟨_, rfl, _, rfl, ?_⟩
  dsimp only [tNil]
  refine ⟨pa, wa, rfl, R, fun f rv H1 s1 hf ef pr => ?_⟩
  have := rAll_len x
  exact ⟨f, _, rv, rfl, ef, pr, by omega, fun H2 s2 => q H2 (s1.trans s2)⟩
end
end MS
end
section
set_option maxRecDepth 100000
set_option maxHeartbeats 4000000
/-! {tuple of numbers} in an f-string: some bounded text -/
namespace XTup
open PySem PySem.Spec PyProof.Rows L2
theorem log_small {i : Int} (h : i.natAbs < 10 ^ 4) : i.natAbs.log2 < 1920 := by
  have e : (10 : Nat) ^ 4 = 10000 := by decide
  by_cases z : i.natAbs = 0
  · rw [z]
    decide
  · have h2 : i.natAbs.log2 < 14 := (Nat.log2_lt z).mpr (by omega)
    omega
theorem repr_ints {prog : Program} {w : World} : ∀ {l : List Int} {its : List Value}, Vals (l.map V.int) its → (∀ i ∈ l, i.natAbs < 10 ^ 4) → ReprAll prog w its (l.map fun i => Str.ofString (toString i))
  | [], _, r, _ => by
    cases r
    exact .nil
  | y :: l, _, r, h => by
    cases r with
    | cons r1 r2 =>
      obtain ⟨t, rfl⟩ := r1
      exact .cons (ReprIs.int t (log_small (h y List.mem_cons_self))) (repr_ints r2 fun z hz => h z (List.mem_cons_of_mem _ hz))
theorem int_len {i : Int} (h : i.natAbs < 10 ^ 4) : (Str.ofString (toString i)).length ≤ 5 := by
  rw [PySem.ofString_length]
  exact PySem.int_text_length_le10 (k := 4) (by decide) h
theorem piled_ints : ∀ l : List Int, (∀ i ∈ l, i.natAbs < 10 ^ 4) → piled (l.map fun i => Str.ofString (toString i)) ≤ 7 * l.length
  | [], _ => Nat.zero_le _
  | y :: l, h => by
    have h1 := int_len (h y List.mem_cons_self)
    have h2 := piled_ints l fun z hz => h z (List.mem_cons_of_mem _ hz)
    rw [List.map_cons, piled_cons, List.length_cons]
    omega
def tFmtI (K : PySem.W.Frag) (te : TE) : TE := fun σ H Q => te σ H fun x H1 => ∃ (a : Addr) (l : List Int), x = .ref a ∧ SqT K H1 a (l.map V.int) ∧ (∀ i ∈ l, i.natAbs < 10 ^ 4) ∧ l.length ≤ 1000 ∧ ∀ m : Str, m.length ≤ 7 * l.length + 7 → Q (.str m) H1
section
variable {X : Cx}
theorem pe_fmtI {e : Expr} {te : TE} {pos : Pos} {k : Nat} (hr : Room k X.A) (he : PE X e te) : PE X (.FormattedValue e (-1) none pos) (tFmtI X.K te) := by
  refine ⟨fun pins s σ H Q I h => ?_⟩
  refine wpAny_FormattedValue_plain (thn (he.run pins s σ H _ I h) fun v s1 hv => ?_)
  obtain ⟨x, H1, I1, r1, a, l, rfl, ht, hc, hz, q⟩ := hv
  cases r1
  obtain ⟨its, rv, ⟨o, ho, hcl, n, hd⟩, _⟩ := I1.tuple ht
  have hp := piled_ints l hc
  have htx := fmt_text (l.map fun i => Str.ofString (toString i))
  have hu := hr.units
  exact fmt_tuple (ts := l.map fun i => Str.ofString (toString i)) (by omega) ho hcl hd (repr_ints rv hc) (by rw [sizeLine_eq]; omega) fun m u tk hm => ⟨.str m, H1, I1.tok _, ⟨u, rfl⟩, q m (by omega)⟩
end
end XTup
end
section
set_option maxRecDepth 100000
set_option maxHeartbeats 4000000
/-! list(zip(a, b)), two lists -/
namespace XZip
open PySem PySem.Spec PyProof.Rows L2 PySem.W
theorem zip_no_len : typeLookup (.type "zip") "__len__" = pure none := by rw [typeLookup_type, builtinLookup_eq_fast]; kernel_rfl
theorem zip_no_hint : typeLookup (.type "zip") "__length_hint__" = pure none := by rw [typeLookup_type, builtinLookup_eq_fast]; kernel_rfl
/-- the zip behind i turns, its pairs held -/
structure ZSt (h : Heap) (z TI TO i1 i2 l1 l2 S : Addr) (xs ys : Array Value) (i : Nat) : Prop where
  ti : IsPair h TI (.ref i1) (.ref i2)
  a1 : h.IsListIter i1 l1 i
  a2 : h.IsListIter i2 l2 i
  b1 : h.IsList l1 xs
  b2 : h.IsList l2 ys
  zz : (IsZip h z TI TO .none ∧ ∃ a b, IsPair h TO a b) ∨ ∃ T f oT, IsZipHeld h z TI TO T f ∧ h.get? T = some oT ∧ T ≠ z ∧ T ≠ i1 ∧ T ≠ i2 ∧ T ≠ S
theorem ZSt.keep {h h' : Heap} {z TI TO i1 i2 l1 l2 S : Addr} {xs ys : Array Value} {i : Nat} (x : ZSt h z TI TO i1 i2 l1 l2 S xs ys i) (n : S ∉ [z, TI, TO, i1, i2, l1, l2]) (hk : ∀ b o, b ≠ S → h.get? b = some o → h'.get? b = some o) : ZSt h' z TI TO i1 i2 l1 l2 S xs ys i := by
  simp only [List.mem_cons, List.not_mem_nil, or_false, not_or] at n
  obtain ⟨dz, dTI, dTO, d1, d2, e1, e2⟩ := n
  refine ⟨hk _ _ (Ne.symm dTI) x.ti, x.a1.at fun o e => hk _ o (Ne.symm d1) e, x.a2.at fun o e => hk _ o (Ne.symm d2) e, x.b1.at fun o e => hk _ o (Ne.symm e1) e, x.b2.at fun o e => hk _ o (Ne.symm e2) e, ?_⟩
  rcases x.zz with ⟨hz, a, b, hTO⟩ | ⟨T, f, oT, hz, hT, r1, r2, r3, r4⟩
  · exact .inl ⟨hk _ _ (Ne.symm dz) hz, a, b, hk _ _ (Ne.symm dTO) hTO⟩
  · exact .inr ⟨T, f, oT, hk _ _ (Ne.symm dz) hz, hk _ _ r4 hT, r1, r2, r3, r4⟩
section
variable {prog : Program} {w : World} {A : Around} {E : Value → Shared → Prop} {s : Shared} {z TI TO i1 i2 l1 l2 S : Addr} {xs ys : Array Value}
theorem zst_item {i : Nat} {x y : Value} {Q : Option Value → Shared → Prop} (D : ZipApart z TI TO i1 i2 l1 l2) (st : ZSt s.heap z TI TO i1 i2 l1 l2 S xs ys i) (hS : S < s.heap.objs.size) (ex : xs[i]? = some x) (ey : ys[i]? = some y)
    (hQ : ∀ h', ZSt h' z TI TO i1 i2 l1 l2 S xs ys (i + 1) → IsPair h' s.heap.objs.size x y → (∀ b o, b ∉ [z, TO, i1, i2] → s.heap.get? b = some o → h'.get? b = some o) → Q (some (.ref s.heap.objs.size)) { s with heap := h' }) :
    wpAny (model prog w) A (pyNext (.ref z)) Q E s := by
  obtain ⟨hTI, h1, h2, hl1, hl2, hz⟩ := st
  have lt : ∀ {c o}, s.heap.get? c = some o → s.heap.objs.size ≠ c := fun e => Nat.ne_of_gt (Heap.lt_size e)
  have n1 : s.heap.objs.size ≠ i1 := let ⟨_, e, _⟩ := h1; lt e
  have n2 : s.heap.objs.size ≠ i2 := let ⟨_, e, _⟩ := h2; lt e
  rcases hz with ⟨hz, a, b, hTO⟩ | ⟨T, f, oT, hz, hT, r1, r2, r3, r4⟩
  · refine wpAny_pyNext_zip_item D hz hTI hTO h1 h2 hl1 hl2 ex ey fun h' a1 a2 a3 a4 a5 a6 hk => ?_
    exact hQ h' ⟨hk _ _ D.TIz D.TITO D.TIi1 D.TIi2 hTI, a3, a4, hl1.at fun o e => hk _ o D.l1z D.l1TO D.l1i1 D.l1i2 e, hl2.at fun o e => hk _ o D.l2z D.l2TO D.l2i1 D.l2i2 e, .inr ⟨s.heap.objs.size, false, _, a1, a5, lt hz, n1, n2, Nat.ne_of_gt hS⟩⟩ a5
      fun c o hc e => hk c o (fun x => hc (by simp [x])) (fun x => hc (by simp [x])) (fun x => hc (by simp [x])) (fun x => hc (by simp [x])) e
  · refine wpAny_pyNext_zip_item_held D hz hT hTI h1 h2 hl1 hl2 ex ey fun h' a1 a3 a4 a5 a6 hk => ?_
    exact hQ h' ⟨hk _ _ D.TIz D.TIi1 D.TIi2 hTI, a3, a4, hl1.at fun o e => hk _ o D.l1z D.l1i1 D.l1i2 e, hl2.at fun o e => hk _ o D.l2z D.l2i1 D.l2i2 e, .inr ⟨T, true, oT, a1, hk _ _ r1 r2 r3 hT, r1, r2, r3, r4⟩⟩ a5
      fun c o hc e => hk c o (fun x => hc (by simp [x])) (fun x => hc (by simp [x])) (fun x => hc (by simp [x])) e
theorem zst_done {i : Nat} {Q : Option Value → Shared → Prop} (hh : A.handled = none) (D : ZipApart z TI TO i1 i2 l1 l2) (st : ZSt s.heap z TI TO i1 i2 l1 l2 S xs ys i) (hend : xs[i]? = none ∨ ys[i]? = none)
    (hQ : ∀ h', (∀ b o, b ∉ [z, TO, i1, i2] → s.heap.get? b = some o → h'.get? b = some o) → Q none { s with heap := h' }) : wpAny (model prog w) A (pyNext (.ref z)) Q E s := by
  obtain ⟨hTI, h1, h2, hl1, hl2, hz⟩ := st
  rcases hz with ⟨hz, a, b, hTO⟩ | ⟨T, f, oT, hz, hT, r1, r2, r3, r4⟩
  · exact wpAny_pyNext_zip_end hh D hz hTI hTO h1 h2 hl1 hl2 hend fun h' hk => hQ h' fun c o hc e => hk c o (fun x => hc (by simp [x])) (fun x => hc (by simp [x])) (fun x => hc (by simp [x])) (fun x => hc (by simp [x])) e
  · exact wpAny_pyNext_zip_end_held hh D hz hT hTI h1 h2 hl1 hl2 hend fun h' hk => hQ h' fun c o hc e => hk c o (fun x => hc (by simp [x])) (fun x => hc (by simp [x])) (fun x => hc (by simp [x])) e
end
/-- the pairs' tuples -/
structure ZG (xs ys : Array Value) (lo : Addr) (h : Heap) (as : List Addr) : Prop where
  rise : as.Pairwise (· < ·)
  above : ∀ a ∈ as, lo < a
  pairs : ∀ (j : Nat) (a : Addr), as[j]? = some a → ∃ x y, xs[j]? = some x ∧ ys[j]? = some y ∧ IsPair h a x y
theorem ZG.there {xs ys : Array Value} {lo : Addr} {h : Heap} {as : List Addr} (g : ZG xs ys lo h as) {a : Addr} (ha : a ∈ as) : a < h.objs.size := by
  obtain ⟨j, hj⟩ := List.mem_iff_getElem?.mp ha
  obtain ⟨_, _, _, _, e⟩ := g.pairs j a hj
  exact Heap.lt_size e
section
variable {prog : Program} {w : World} {A : Around} {s : Shared} {R : Result → Shared → Prop} {z TI TO i1 i2 l1 l2 S : Addr} {xs ys : Array Value} {n : Nat}
theorem z_loop (hh : A.handled = none) (D : ZipApart z TI TO i1 i2 l1 l2) (nS : S ∉ [z, TI, TO, i1, i2, l1, l2]) (low : ∀ b ∈ [z, TO, i1, i2], b < S) (hx : xs.size = n) (hy : ys.size = n) (hn : n ≤ sizeLine) (res : Value) {h₁ : Heap}
    (hR : ∀ h' tk acc c as, (∀ b o, b ≠ S → b ∉ [z, TO, i1, i2] → h₁.get? b = some o → h'.get? b = some o) → h'.get? S = some { cls := .type "list", dict := none, data := .seq acc c, slots := #[] } → as.length = n → ZG xs ys S h' as →
      acc.toList = as.map Value.ref → R (.ok (.ret res)) { s with heap := h', toks := tk }) :
    ∀ (k i : Nat) (h : Heap) (tk c : Nat) (acc : Array Value) (as : List Addr), n - i = k → i ≤ n → ZSt h z TI TO i1 i2 l1 l2 S xs ys i → (∀ b o, b ≠ S → b ∉ [z, TO, i1, i2] → h₁.get? b = some o → h.get? b = some o) →
      h.get? S = some { cls := .type "list", dict := none, data := .seq acc c, slots := #[] } → acc.toList = as.map Value.ref → as.length = i → ZG xs ys S h as →
      codeAny (model prog w) A (.builtin "list.extend.loop" ⟨[.ref S, .ref z, res], []⟩) R { s with heap := h, toks := tk } := by
  have nSw : S ∉ [z, TO, i1, i2] := fun hm => Nat.lt_irrefl _ (low S hm)
  have nw : ∀ {a : Addr}, S < a → a ∉ [z, TO, i1, i2] := fun {a} h hm => Nat.lt_irrefl _ (Nat.lt_trans h (low a hm))
  intro k
  induction k with
  | zero =>
    intro i h tk c acc as hk hi hst hkeep hS hacc hal hG
    have hin : i = n := by omega
    refine codeAny_builtin PySem.F.entry_extend_loop ?_
    rw [Around.under_plainId PySem.F.plain_extend_loop _]
    show wpAny _ A.in1 (pyNext (.ref z) >>= _) _ _ _
    refine wpAny_bind (zst_done (s := { s with heap := h, toks := tk }) (A := A.in1) hh D hst (.inl (Array.getElem?_eq_none (by omega))) fun h' he => ?_)
    refine wpAny_pure (hR h' tk acc c as (fun b o h1 h2 e => he b o h2 (hkeep b o h1 h2 e)) (he S _ nSw hS) (by omega) ⟨hG.rise, hG.above, fun j a hj => ?_⟩ hacc)
    obtain ⟨x, y, e1, e2, e3⟩ := hG.pairs j a hj
    exact ⟨x, y, e1, e2, he a _ (nw (hG.above a (List.mem_of_getElem? hj))) e3⟩
  | succ k ih =>
    intro i h tk c acc as hk hi hst hkeep hS hacc hal hG
    have hlt : i < n := by omega
    have ex : xs[i]? = some (xs[i]'(by omega)) := Array.getElem?_eq_getElem (by omega)
    have ey : ys[i]? = some (ys[i]'(by omega)) := Array.getElem?_eq_getElem (by omega)
    have hsz : acc.size = i := by rw [← Array.length_toList, hacc, List.length_map, hal]
    refine codeAny_builtin PySem.F.entry_extend_loop ?_
    rw [Around.under_plainId PySem.F.plain_extend_loop _]
    show wpAny _ A.in1 (pyNext (.ref z) >>= _) _ _ _
    refine wpAny_bind (zst_item (s := { s with heap := h, toks := tk }) D hst (Heap.lt_size hS) ex ey fun h' hst' ht hkp => ?_)
    dsimp only at ht hkp ⊢
    have hS' := hkp S _ nSw hS
    have up : ∀ b o, b ≠ S → h'.get? b = some o → (h'.update S (Obj.mapSeq (·.push (Value.ref h.objs.size)))).get? b = some o := fun b o hb e => (Heap.get?_update_other _ _ (Ne.symm hb)).trans e
    have hSl : S < h.objs.size := Heap.lt_size hS
    show wpAny _ A.in1 (updateSeq S (·.push (Value.ref h.objs.size)) >>= _) _ _ _
    refine wpAny_bind ?_
    refine wpAny_updateSeq hS' rfl (wpAny_pure ⟨plainId_quiet PySem.F.plain_extend_loop _, ih (i + 1) _ tk _ (acc.push (Value.ref h.objs.size)) (as ++ [h.objs.size]) (by omega) hlt (hst'.keep nS up)
      (fun b o h1 h2 e => up b o h1 (hkp b o h2 (hkeep b o h1 h2 e))) (Heap.get?_update_self _ hS' rfl) (by rw [Array.toList_push, hacc, List.map_append]; rfl) (by rw [List.length_append, hal]; rfl) ⟨?_, ?_, ?_⟩⟩) (by rw [hsz]; omega) (by show (acc.push (Value.ref h.objs.size)).size ≤ sizeLine + 1; rw [Array.size_push, hsz]; omega)
    · refine List.pairwise_append.mpr ⟨hG.rise, List.pairwise_singleton _ _, fun a ha b hb => ?_⟩
      rw [List.mem_singleton.mp hb]
      exact hG.there ha
    · intro a ha
      rcases List.mem_append.mp ha with ha | ha
      · exact hG.above a ha
      · rw [List.mem_singleton.mp ha]; exact hSl
    · intro j b hj
      rcases Nat.lt_trichotomy j as.length with h1 | h1 | h1
      · rw [List.getElem?_append_left h1] at hj
        obtain ⟨x', y', e1, e2, e3⟩ := hG.pairs j b hj
        have hb := hG.above b (List.mem_of_getElem? hj)
        exact ⟨x', y', e1, e2, up b _ (Nat.ne_of_gt hb) (hkp b _ (nw hb) e3)⟩
      · subst h1
        have hb : h.objs.size = b := by simpa using hj
        subst hb
        exact ⟨_, _, by rw [hal]; exact ex, by rw [hal]; exact ey, up _ _ (Nat.ne_of_gt hSl) ht⟩
      · have hnone : (as ++ [h.objs.size])[j]? = none := List.getElem?_eq_none (by rw [List.length_append, List.length_singleton]; omega)
        rw [hnone] at hj; cases hj
theorem z_call {E : Value → Shared → Prop} {Q : Value → Shared → Prop} (hh : A.handled = none) (D : ZipApart z TI TO i1 i2 l1 l2) (hx : xs.size = n) (hy : ys.size = n) (hn : n ≤ sizeLine) (below : ∀ b ∈ [z, TI, TO, i1, i2, l1, l2], b < s.heap.objs.size)
    (hz : IsZip s.heap z TI TO .none) (hTI : IsPair s.heap TI (.ref i1) (.ref i2)) (hTO : ∃ a b, IsPair s.heap TO a b) (h1 : s.heap.IsListIter i1 l1 0) (h2 : s.heap.IsListIter i2 l2 0) (hl1 : s.heap.IsList l1 xs) (hl2 : s.heap.IsList l2 ys)
    (hQ : ∀ h' tk acc c as, (∀ b o, b ∉ [z, TO, i1, i2] → s.heap.get? b = some o → h'.get? b = some o) → h'.get? s.heap.objs.size = some { cls := .type "list", dict := none, data := .seq acc c, slots := #[] } → as.length = n → ZG xs ys s.heap.objs.size h' as →
      acc.toList = as.map Value.ref → Q (.ref s.heap.objs.size) { s with heap := h', toks := tk }) :
    wpAny (model prog w) A (call (.type "list") [.ref z]) Q E s := by
  refine callType_codes (Q₁ := fun obj s₁ => obj = .ref s.heap.objs.size ∧ s₁ = { s with heap := s.heap.push { cls := .type "list", data := .seq #[] } }) PySem.F.called_list (PySem.F.typeCall_list_1 _) PySem.F.entry_list_init
    (code_list_new _ ⟨rfl, rfl⟩) fun obj s₁ h₁ => ?_
  obtain ⟨rfl, rfl⟩ := h₁
  have hS : (s.heap.push { cls := .type "list", data := .seq #[] }).get? s.heap.objs.size = some { cls := .type "list", data := .seq #[] } := Heap.get?_push_size _ rfl
  refine ⟨⟨_, hS, rfl⟩, PySem.F.args_list_init_2 _ _, ?_⟩
  show wpAny _ _ (do let old ← Builtin.List.listItems (.ref s.heap.objs.size); Builtin.List.listUpdate (.ref s.heap.objs.size) (fun _ => #[]); letGo old.toList.reverse; Builtin.List.listExtendWith (.ref s.heap.objs.size) (.ref z) .none) _ _ _
  refine wpAny_bind ?_
  unfold Builtin.List.listItems
  refine wpAny_bind (wpAny_seqItems hS rfl (wpAny_pure ?_))
  show wpAny _ _ (updateSeq s.heap.objs.size (fun _ => #[]) >>= fun _ => letGo (#[] : Array Value).toList.reverse >>= fun _ => Builtin.List.listExtendWith (.ref s.heap.objs.size) (.ref z) .none) _ _ _
  refine wpAny_bind (wpAny_updateSeq hS rfl ?_)
  have hS₂ := Heap.get?_update_self (Obj.mapSeq (fun _ => (#[] : Array Value))) hS rfl
  refine wpAny_bind (wpAny_letGo ?_)
  have k0 : ∀ b o, s.heap.get? b = some o → ((s.heap.push { cls := .type "list", data := .seq #[] }).update s.heap.objs.size (Obj.mapSeq (fun _ => (#[] : Array Value)))).get? b = some o := fun b o e =>
    (Heap.get?_update_other _ _ (Nat.ne_of_gt (Heap.lt_size e))).trans (Heap.get?_push_of_some _ e)
  generalize (s.heap.push { cls := .type "list", data := .seq #[] }).update s.heap.objs.size (Obj.mapSeq (fun _ => (#[] : Array Value))) = hB at hS₂ k0
  have nz : s.heap.objs.size ≠ z := Nat.ne_of_gt (below z (by simp))
  have hT : (⟨hB, s.gens, s.drawn, s.toks, s.os⟩ : Shared).TypeIs (.ref z) "zip" := ⟨_, k0 _ _ hz, rfl⟩
  unfold Builtin.List.listExtendWith
  refine wpAny_bind (wpAny_typeOf (T := "zip") hT ?_)
  have g1 : Builtin.List.listSameRef (.ref s.heap.objs.size) (.ref z) = false := by simp [Builtin.List.listSameRef, nz]
  have g2 : (Value.type "zip" == Value.type "list") = false := by decide
  have g3 : (Value.type "zip" == Value.type "tuple") = false := by decide
  simp only [g1, g2, g3, Bool.or_false, Bool.false_eq_true, if_false]
  refine wpAny_bind (wpAny_pyIter_zip (k0 _ _ hz) ?_)
  refine wpAny_bind (wpAny_holding ?_)
  unfold Builtin.List.listLengthHint
  refine wpAny_bind (wpAny_specialOf hT zip_no_len ?_)
  show wpAny _ _ (specialOf (Value.ref z) (Str.ofString "__length_hint__") >>= _) _ _ _
  refine wpAny_bind (wpAny_specialOf hT zip_no_hint ?_)
  refine wpAny_pure ?_
  have nS : s.heap.objs.size ∉ [z, TI, TO, i1, i2, l1, l2] := fun hm => Nat.lt_irrefl _ (below _ hm)
  have st0 : ZSt s.heap z TI TO i1 i2 l1 l2 s.heap.objs.size xs ys 0 := ⟨hTI, h1, h2, hl1, hl2, .inl ⟨hz, hTO⟩⟩
  have low : ∀ b ∈ [z, TO, i1, i2], b < s.heap.objs.size := fun b hb => below b (by
    simp only [List.mem_cons, List.not_mem_nil, or_false] at hb ⊢
    rcases hb with h | h | h | h <;> simp [h])
  show wpAny _ _ (rule "list.extend.makes-room" >>= fun _ => Builtin.List.listTouch (.ref s.heap.objs.size) >>= fun _ =>
    again (.builtin "list.extend.loop" ⟨[.ref s.heap.objs.size, .ref z, .none], []⟩)) _ _ _
  refine wpAny_bind (wpAny_rule ?_)
  refine wpAny_bind ?_
  show wpAny _ _ (updateSeq s.heap.objs.size (·.push .none) >>= fun _ => updateSeq s.heap.objs.size (·.pop)) _ _ _
  refine wpAny_bind (wpAny_updateSeq hS₂ rfl ?_)
  have hS₃ := Heap.get?_update_self (Obj.mapSeq (·.push Value.none)) hS₂ rfl
  refine wpAny_updateSeq hS₃ rfl ?_
  have hS₄ := Heap.get?_update_self (Obj.mapSeq (·.pop)) hS₃ rfl
  refine wpAny_pure ⟨plainId_quiet PySem.F.plain_extend_loop _, z_loop (prog := prog) (w := w) (A := A.in1) (R := _) (s := s) (h₁ := s.heap) (show A.in1.handled = none from hh) D nS low hx hy hn .none (fun h' tk acc c as hk hS' hl hG hacc => ?_) n 0 _ s.toks _ #[] [] (Nat.sub_zero _) (Nat.zero_le _)
    (st0.keep nS fun b o hb e => (Heap.get?_update_other _ _ (Ne.symm hb)).trans ((Heap.get?_update_other _ _ (Ne.symm hb)).trans (k0 b o e))) (fun b o hb _ e => (Heap.get?_update_other _ _ (Ne.symm hb)).trans ((Heap.get?_update_other _ _ (Ne.symm hb)).trans (k0 b o e))) hS₄ rfl rfl
    ⟨List.Pairwise.nil, (fun _ ha => nomatch ha), (fun j a hj => by simp at hj)⟩⟩
  exact ⟨rfl, hQ h' tk acc c as (fun b o hb e => hk b o (Nat.ne_of_lt (Heap.lt_size e)) hb e) hS' hl hG hacc⟩
end
/-! ### the rule -/
def putZ : Hp → List Addr → List (V × V) → Hp
  | H, a :: as, p :: ps => putZ (upd H a (.tup [p.1, p.2])) as ps
  | H, _, _ => H
theorem putZ_off {b : Addr} : ∀ (as : List Addr) (ps : List (V × V)) (H : Hp), b ∉ as → putZ H as ps b = H b
  | [], _, _, _ => rfl
  | _ :: _, [], _, _ => rfl
  | a :: as, p :: ps, H, h => by
    show putZ (upd H a (.tup [p.1, p.2])) as ps b = H b
    rw [putZ_off as ps _ (fun z => h (List.mem_cons_of_mem _ z)), upd_ne (fun z => h (by rw [z]; exact List.mem_cons_self))]
theorem putZ_at : ∀ (as : List Addr) (ps : List (V × V)) (H : Hp), as.length = ps.length → as.Nodup → ∀ (j : Nat) (t : Addr) (p : V × V), as[j]? = some t → ps[j]? = some p → putZ H as ps t = some (.tup [p.1, p.2])
  | [], _, _, _, _, j, _, _, e, _ => by simp at e
  | _ :: _, [], _, h, _, _, _, _, _, _ => by cases h
  | a :: as, q :: ps, H, h, hn, j, t, p, e1, e2 => by
    have hn' := List.nodup_cons.mp hn
    show putZ (upd H a (.tup [q.1, q.2])) as ps t = some (.tup [p.1, p.2])
    cases j with
    | zero =>
      obtain rfl : a = t := by simpa using e1
      obtain rfl : q = p := by simpa using e2
      rw [putZ_off as ps _ hn'.1, upd_same]
    | succ j => exact putZ_at as ps _ (Nat.succ.inj h) hn'.2 j t p (by simpa using e1) (by simpa using e2)
theorem zip_get {xs ys : List V} {j : Nat} {p : V × V} (h : (xs.zip ys)[j]? = some p) : xs[j]? = some p.1 ∧ ys[j]? = some p.2 := by
  rw [List.getElem?_zip_eq_some] at h
  exact h
section
variable {X : Cx}
theorem zip_laid {pins : List (Addr × Obj)} {σ : L2.St} {H : Hp} {s : Shared} {h' : Heap} {tk : Nat} {xs ys : List V} {us vs : List Value} {acc : Array Value} {c : Nat} {as : List Addr} {S : Addr} (I : Inv X pins σ H s) (hz : xs.length ≤ sizeLine) (he : xs.length = ys.length) (rx : Vals xs us) (ry : Vals ys vs)
    (hk : ∀ b o, s.heap.get? b = some o → h'.get? b = some o) (hSl : s.heap.objs.size ≤ S) (hS : h'.get? S = some { cls := .type "list", dict := none, data := .seq acc c, slots := #[] }) (hl : as.length = xs.length) (hG : ZG us.toArray vs.toArray S h' as) (hacc : acc.toList = as.map Value.ref) :
    ∃ H' : Hp, (∀ b o, H b = some o → H' b = some o) ∧ H S = none ∧ H' S = some (.lst (as.map V.ref)) ∧ (∀ (j : Nat) (t : Addr) (x y : V), as[j]? = some t → xs[j]? = some x → ys[j]? = some y → H' t = some (.tup [x, y])) ∧ Inv X pins σ H' { s with heap := h', toks := tk } := by
  have hSn : S ∉ as := fun z => Nat.lt_irrefl _ (hG.above _ z)
  have nd : as.Nodup := List.Pairwise.imp (fun {a b} (h : a < b) => Nat.ne_of_lt h) hG.rise
  have new : ∀ t ∈ as, H t = none := fun t ht => I.hok.fresh (Nat.le_trans hSl (Nat.le_of_lt (hG.above t ht)))
  have newS : H S = none := I.hok.fresh hSl
  have lz : (xs.zip ys).length = xs.length := by rw [List.length_zip]; omega
  have atP := putZ_at as (xs.zip ys) (upd H S (.lst (as.map V.ref))) (by omega) nd
  have off : ∀ b, b ∉ as → b ≠ S → putZ (upd H S (.lst (as.map V.ref))) as (xs.zip ys) b = H b := fun b h1 h2 => by rw [putZ_off as _ _ h1, upd_ne h2]
  have low : ∀ b o, s.heap.get? b = some o → b ∉ as ∧ b ≠ S := fun b o e => ⟨fun z => absurd (Heap.lt_size e) (Nat.not_lt.mpr (Nat.le_trans hSl (Nat.le_of_lt (hG.above b z)))), Nat.ne_of_lt (Nat.lt_of_lt_of_le (Heap.lt_size e) hSl)⟩
  have kp : ∀ b u, H b = some u → (putZ (upd H S (.lst (as.map V.ref))) as (xs.zip ys)) b = some u := fun b u e => by
    rw [off b (fun z => by rw [new b z] at e; cases e) (fun z => by rw [z, newS] at e; cases e)]
    exact e
  have eS : putZ (upd H S (.lst (as.map V.ref))) as (xs.zip ys) S = some (.lst (as.map V.ref)) := by rw [putZ_off as _ _ hSn, upd_same]
  refine ⟨putZ (upd H S (.lst (as.map V.ref))) as (xs.zip ys), kp, newS, eS, fun j t x y e1 e2 e3 => atP j t (x, y) e1 (by rw [List.getElem?_zip_eq_some]; exact ⟨e2, e3⟩), ?_⟩
  refine I.call' (ch := []) rfl ⟨fun b o q _ _ _ => hk b o q, fun b o q _ _ _ => ⟨o.slots, hk b o q⟩, fun b o q n _ => ?_, fun b o q _ => ⟨o, hk b o q⟩, fun b xs q => kp b _ q, fun b o u q => kp b _ q, fun b ps q => ⟨#[], by rw [kp b _ q]; simp⟩⟩ (fun b u q => ?_) I.bare fun b z => by simp at z
  · obtain ⟨z1, z2⟩ := low b o q
    rw [off b z1 z2]
    exact n
  · by_cases hb : b ∈ as
    · obtain ⟨j, hj⟩ := List.mem_iff_getElem?.mp hb
      have hjl : j < xs.length := by
        have := (List.getElem?_eq_some_iff.mp hj).1
        omega
      have ex : xs[j]? = some (xs[j]'hjl) := List.getElem?_eq_getElem hjl
      have ey : ys[j]? = some (ys[j]'(by omega)) := List.getElem?_eq_getElem (by omega)
      have e3 := atP j b (xs[j]'hjl, ys[j]'(by omega)) hj (by rw [List.getElem?_zip_eq_some]; exact ⟨ex, ey⟩)
      rw [e3] at q
      cases q
      obtain ⟨x, y, f1, f2, f3⟩ := hG.pairs j b hj
      obtain ⟨u, g1, r1⟩ := rx.get ex
      obtain ⟨v, g2, r2⟩ := ry.get ey
      obtain rfl : u = x := Option.some.inj (g1.symm.trans (by simpa using f1))
      obtain rfl : v = y := Option.some.inj (g2.symm.trans (by simpa using f2))
      exact ⟨by show 2 ≤ sizeLine; decide, [u, v], .cons r1 (.cons r2 .nil), ⟨_, f3, rfl, _, rfl⟩⟩
    · by_cases hb2 : b = S
      · rw [hb2] at q ⊢
        rw [eS] at q
        cases q
        refine ⟨by rw [List.length_map]; omega, acc.toList, c, by rw [hacc]; exact LiI.vals_refs as, ?_⟩
        rw [Array.toArray_toList]
        exact hS
      · rw [off b hb hb2] at q
        exact (I.hok b u q).stay (fun d v _ y => hk d v y) (fun d y => kp d _ y) fun d xs y => kp d _ y
def rZipL (K : PySem.W.Frag) : List V → Hp → VK → Prop := fun vs H Q => ∃ (a b : Addr) (xs ys : List V), vs = [.ref a, .ref b] ∧ SqL K H a xs ∧ SqL K H b ys ∧ xs.length = ys.length ∧ xs.length ≤ 4000 ∧
  ∀ (H' : Hp) (p : Addr) (ts : List Addr), (∀ b o, H b = some o → H' b = some o) → H p = none → H' p = some (.lst (ts.map V.ref)) → ts.length = xs.length → (∀ (j : Nat) (t : Addr) (x y : V), ts[j]? = some t → xs[j]? = some x → ys[j]? = some y → H' t = some (.tup [x, y])) → Q (.ref p) H'
/-- list(zip(e, e2)) -/
theorem pe_listZip {e e2 : Expr} {ta : TA} {p p2 pos pos2 : Pos} (hc : X.calm = true) (ha : PA X [e, e2] ta) (hg : Gl X "list") (hm : X.mg "list" = none) (hg2 : Gl X "zip") (hm2 : X.mg "zip" = none)
    (hs0 : starEach [.Call (.Name "zip" p2) [e, e2] [] pos2] X.env = (false, eval (.Call (.Name "zip" p2) [e, e2] [] pos2) X.env) :: starEach [] X.env := by rfl)
    (hs : starEach [e, e2] X.env = (false, eval e X.env) :: starEach [e2] X.env := by rfl) (hpl : (backTo pos2 (starEach [e2] X.env)).any (·.1) = false := by rfl) :
    PE X (.Call (.Name "list" p) [.Call (.Name "zip" p2) [e, e2] [] pos2] [] pos) (fun σ H Q => ta σ H fun vs H1 => rZipL X.K vs H1 Q) := by
  refine ⟨fun pins s σ H Q I hq => ?_⟩
  refine wpAny_Call_Name_kw (ld_blt I hg hm (by decide +kernel : bootBuiltins "list" = some (.type "list")) ?_)
  refine PyProof.Rows.callWith_type1 ?_ hs0 rfl
  rw [hs0]
  show wpAny _ _ (spliced ((false, eval (.Call (.Name "zip" p2) [e, e2] [] pos2) X.env) :: backTo pos (starEach [] X.env))) _ _ s
  refine Calls.spliced_cons ?_
  refine Call_ (ld_blt I hg2 hm2 PyProof.Rows.boot_zip (PyProof.Rows.callWith_type1 (thn (ha.run pos2 pins s σ H _ I hq) fun us s1 ⟨vs, H1, I1, r1, q1⟩ => ?_) hs hpl))
  obtain ⟨a, b, xs, ys, ex, hqx, hqy, hlen, hz, q⟩ := q1
  subst ex
  cases r1 with
  | cons r rr =>
    cases rr with
    | cons r' rr =>
      cases rr
      cases r
      cases r'
      obtain ⟨its, rv, p1, _⟩ := I1.list hqx
      obtain ⟨its2, rv2, pp2, _⟩ := I1.list hqy
      refine call_zip_2 p1.isList pp2.isList fun h' hzz hTI hTO h1 h2 hsz hk => ?_
      refine Calls.spliced_nil ?_
      have lx := rv.length
      have ly := rv2.length
      have hl1 : h'.IsList a its.toArray := p1.isList.at fun o e => hk _ o e
      have hl2 : h'.IsList b its2.toArray := pp2.isList.at fun o e => hk _ o e
      refine z_call (n := xs.length) (xs := its.toArray) (ys := its2.toArray) (I1.ok.hd hc) (PySem.W.ktu_apart s1.heap.objs.size a b p1.lt pp2.lt) (by rw [List.size_toArray]; omega) (by rw [List.size_toArray]; omega) (by rw [sizeLine_eq]; omega) (fun c hcm => ?_) hzz hTI ⟨_, _, hTO⟩ h1 h2 hl1 hl2 fun h'' tk acc c as hkk hS hl hG hacc => ?_
      · show c < h'.objs.size
        rw [hsz]
        simp only [List.mem_cons, List.not_mem_nil, or_false] at hcm
        rcases hcm with z | z | z | z | z | z | z
        · rw [z]; exact Nat.add_lt_add_left (by decide) _
        · rw [z]; exact Nat.add_lt_add_left (by decide) _
        · rw [z]; exact Nat.add_lt_add_left (by decide) _
        · rw [z]; exact Nat.lt_add_of_pos_right (by decide)
        · rw [z]; exact Nat.add_lt_add_left (by decide) _
        · rw [z]; exact Nat.lt_of_lt_of_le p1.lt (Nat.le_add_right _ _)
        · rw [z]; exact Nat.lt_of_lt_of_le pp2.lt (Nat.le_add_right _ _)
      · have hk2 : ∀ b o, s1.heap.get? b = some o → h''.get? b = some o := fun b o e => hkk b o (fun hm => by
          have hlt := Heap.lt_size e
          simp only [List.mem_cons, List.not_mem_nil, or_false] at hm
          rcases hm with z | z | z | z
          · rw [z] at hlt; exact absurd hlt (Nat.not_lt.mpr (Nat.le_add_right _ _))
          · rw [z] at hlt; exact absurd hlt (Nat.not_lt.mpr (Nat.le_add_right _ _))
          · rw [z] at hlt; exact absurd hlt (Nat.lt_irrefl _)
          · rw [z] at hlt; exact absurd hlt (Nat.not_lt.mpr (Nat.le_add_right _ _))) (hk b o e)
        obtain ⟨H', k1, k2, k3, k4, J⟩ := zip_laid (tk := tk) I1 (by rw [sizeLine_eq]; omega) hlen rv rv2 hk2 (by show s1.heap.objs.size ≤ h'.objs.size; rw [hsz]; exact Nat.le_add_right _ _) hS hl hG hacc
        exact ⟨.ref _, H', J, rfl, q H' _ as k1 k2 k3 hl k4⟩
end
end XZip
end
section
set_option maxRecDepth 100000
set_option maxHeartbeats 4000000
/-! enumerate(list, start=e) -/
namespace XEnum
open PySem PySem.Spec PyProof.Rows L2
theorem callWith_tyKw {M : Model} {A : Around} {E : Value → Shared → Prop} {s : Shared} {env : Env} {pos : Pos} {T : String} {e : Expr} {rest : List Expr} {kws : List Keyword} {Q : Value → Shared → Prop}
    (h : wpAny M A (spliced (backTo pos (starEach (e :: rest) env))) (fun vs s₁ => wpAny M A (PySem.evalAll ((backToKw pos (keywordEach kws env)).map (·.2)))
      (fun kvs s₂ => wpAny M A (call (.type T) vs (((backToKw pos (keywordEach kws env)).filterMap (·.1)).zip kvs)) Q E s₂) E s₁) E s)
    (he : backTo pos (starEach (e :: rest) env) = (false, eval e env) :: backTo pos (starEach rest env))
    (hplain : (backTo pos (starEach (e :: rest) env)).any (·.1) = false)
    (hall : (backToKw pos (keywordEach kws env)).all (·.1.isSome) = true)
    (hkw : (backToKw pos (keywordEach kws env)).any (·.1.isNone) = false) :
    wpAny M A (callWith pos (.type T) [] (backTo pos (starEach (e :: rest) env)) (backToKw pos (keywordEach kws env))) Q E s := by
  have h2 : wpAny M A (evalArgs (.type T) true (backTo pos (starEach (e :: rest) env)) (backToKw pos (keywordEach kws env))) (fun a s₁ => wpAny M A (call (.type T) ([] ++ a.pos) a.kw) Q E s₁) E s := by
    rw [he] at h ⊢
    exact evalArgs_kwB hall h
  unfold callWith
  refine wpAny_bind (wpAny_holding (wpAny_mono h2 (fun a s₁ h₁ => wpAny_bind (wpAny_standAt ?_)) fun _ _ x => x))
  simp only [hplain, hkw, Bool.or_false]
  refine wpAny_bind (wpAny_pure ?_)
  exact wpAny_bind (wpAny_mono h₁ (fun r s₂ hr => wpAny_bind (wpAny_holding (wpAny_point (wpAny_pure hr)))) fun _ _ x => x)
/-- the list at a as it stands at each turn, each item in a new pair behind its number, from k on -/
def IteS (K : PySem.W.Frag) (a : Addr) (k : Int) : It :=
  ⟨fun i H => ∃ (xs : List V) (x : V), SqL K H a xs ∧ xs[i]? = some x, fun i H v H' => ∃ T x, v = .ref T ∧ H T = none ∧ H' = upd H T (.tup [.int (k + (i : Nat)), x]) ∧ ∀ xs, SqL K H a xs → xs[i]? = some x, fun i H => ∃ xs : List V, SqL K H a xs ∧ xs.length ≤ i⟩
theorem walk_enumS {K : PySem.W.Frag} {a : Addr} {k : Int} {xs : List V} : Walk (IteS K a k) xs.length (fun H => SqL K H a xs) (YPair (fun i => some (.int (k + (i : Nat)))) (fun i => xs[i]?)) := by
  refine ⟨fun i _ hi q => ⟨xs, xs[i], q, by simp [hi]⟩, fun _ q => ⟨xs, q, Nat.le_refl _⟩, fun i H v H' _ q y => ?_⟩
  obtain ⟨T, x, h1, h2, h3, h4⟩ := y
  exact ⟨T, .int (k + (i : Nat)), x, h1, h2, h3, rfl, h4 xs q⟩
theorem turn_enumS {P : Program} {w : World} {K : PySem.W.Frag} {elts : List Expr} {kk : Nat} {tpos : Pos} (a e it : Addr) (k : Int) :
    Turn P w K (.Tuple elts kk tpos) (IteS K a k) [e, it] e (fun i h => (∃ old, IsEnum h e it (k + ((i : Nat) : Int)) old) ∧ h.IsListIter it a i ∧ e ≠ it ∧ e ≠ a ∧ a ≠ it) where
  mem := by simp
  obj := fun i h st b hb => by
    obtain ⟨⟨old, he⟩, ⟨o, ho, hc, hd⟩, _⟩ := st
    have e' : b = e ∨ b = it := by simpa using hb
    rcases e' with z | z
    · rw [z]; exact ⟨_, he, fun v q => nomatch q⟩
    · rw [z]; exact ⟨o, ho, fun v q => by rw [hd] at q; cases q⟩
  keep := fun i h h' st k => let ⟨⟨old, he⟩, hi, hne⟩ := st; ⟨⟨old, k e (by simp) _ he⟩, hi.at fun o q => k it (by simp) o q, hne⟩
  item := by
    intro X hP hw hK hc i pins s σ H E I hf st hg
    subst hP hw hK
    obtain ⟨⟨old, he⟩, hit, hne, hea, hai⟩ := st
    obtain ⟨xs, x, hq, hx⟩ := hg
    obtain ⟨its, rv, p, hz⟩ := I.list hq
    obtain ⟨u, hu, ru⟩ := rv.get hx
    have hel : e < s.heap.objs.size := Heap.lt_size he
    have hil : it < s.heap.objs.size := by obtain ⟨_, q, _⟩ := hit; exact Heap.lt_size q
    have hlt : i < its.toArray.size := by
      have z := (List.getElem?_eq_some_iff.mp hu).1
      rw [List.size_toArray]
      exact z
    refine wpAny_pyNext_enum_itemC (Draws.list (A := X.A.in1) (I.ok.hd hc) it a hai its.toArray) he ⟨hit, p.isList⟩ hlt hne (by simp [hne, hea]) fun x' h' tk hx' ho hit' hT hsz hk => ?_
    have eu : x' = u := by
      have z : its.toArray[i]? = some u := by simpa using hu
      exact Option.some.inj (hx'.symm.trans z)
    subst eu
    refine ⟨_, rfl, wpAny_letOwnedTupleGo_enum (s := { s with heap := h', toks := tk + 1 }) ho fun h'' he' sb => ?_⟩
    have hT2 : h''.get? s.heap.objs.size = some { cls := .type "tuple", data := .seq #[.int (k + (i : Nat)) tk, x'] } := (sb.2 _ (Nat.ne_of_gt hel)).trans hT
    have new : ObjOk X.prog X.w (upd H s.heap.objs.size (.tup [.int (k + (i : Nat)), x])) h'' s.heap.objs.size (.tup [.int (k + (i : Nat)), x]) :=
      ⟨by show 2 ≤ sizeLine; decide, [.int (k + (i : Nat)) tk, x'], .cons ⟨_, rfl⟩ (.cons ru .nil), ⟨_, hT2, rfl, _, rfl⟩⟩
    have I1 : Inv X pins σ (upd H s.heap.objs.size (.tup [.int (k + (i : Nat)), x])) { s with heap := h'', toks := tk + 1 } :=
      I.turnedNew (ch := [e, it]) (fun b ob hb q => (sb.2 b (fun z => hb (by simp [z]))).trans (hk b ob (fun z => hb (by simp [z])) (fun z => hb (by simp [z])) q)) hf (Nat.le_refl _) new
    refine ⟨.ref s.heap.objs.size, _, I1, rfl, ⟨_, x, rfl, I.hok.fresh (Nat.le_refl _), rfl, fun ys hy => by rw [I.list_inj hy hq]; exact hx⟩, ⟨⟨x', ?_⟩, hit'.1.at fun o q => (sb.2 it (Ne.symm hne)).trans q, hne, hea, hai⟩, fun b hb => ?_⟩
    · have e1 : k + ((i + 1 : Nat) : Int) = k + (i : Int) + 1 := by omega
      rw [e1]; exact he'
    · have hb' : b < s.heap.objs.size := by
        have e' : b = e ∨ b = it := by simpa using hb
        rcases e' with z | z
        · rw [z]; exact hel
        · rw [z]; exact hil
      rw [upd_ne (Nat.ne_of_lt hb')]
      exact (hf b hb).1
  done := by
    intro X hP hw hK hc i pins s σ H E I hf st hg
    subst hP hw hK
    obtain ⟨⟨old, he⟩, hit, hne, hea, hai⟩ := st
    obtain ⟨xs, hq, hx⟩ := hg
    obtain ⟨its, rv, p, hz⟩ := I.list hq
    obtain ⟨f0, f1, f2, f3, f4, f5⟩ := hf it (by simp)
    have hl := rv.length
    have hT : s.TypeIs (.ref e) "enumerate" := ⟨_, he, rfl⟩
    unfold pyNext
    refine wpAny_bind (wpAny_attempt (wpAny_callSpecial?_slot (name := Str.ofString "__next__") hT F.slot_enumerate_next
      (wpAny_call_entry F.slot_enumerate_next hT F.entry_enumerate_next ?_ (F.args_enumerate_next_1 _))))
    show wpAny _ _ (field (.ref e) 2 >>= _) _ _ _
    refine wpAny_bind (wpAny_field he rfl (x := .ref it) rfl ?_)
    refine wpAny_bind (wpAny_nextOf_list_end (A := X.A.in1) (I.ok.hd hc) hit p.isList (by simp; omega) fun h' x he' hx' => ?_)
    obtain ⟨o, ho, hc'⟩ := hx'
    refine wpAny_bind (wpAny_isInstance (T := "StopIteration") (b := true) ⟨o, ho, hc'⟩ isSubtype_stop ?_)
    exact wpAny_pure ⟨rfl, I.turned (t' := s.toks) (fun b o hb q => he' b o hb q) f0 f1 f3 f4 f5⟩
  self := fun A i s Q E st h => let ⟨⟨_, he⟩, _⟩ := st; wpAny_pyIter_enum he h
def iEnumS (K : PySem.W.Frag) (ta : TA) (tk : TE) : TI := fun σ H R => ta σ H fun vs H1 => tk σ H1 fun y H2 => ∃ (a : Addr) (xs : List V) (k : Int), vs = [.ref a] ∧ y = .int k ∧ 0 ≤ k ∧ k ≤ 1000000 ∧ SqL K H2 a xs ∧ R (IteS K a k) H2
def one1 (K : PySem.W.Frag) (R : It → Hp → Prop) (vs : List V) : List V → Hp → Prop
  | [y], H2 => ∃ (a : Addr) (xs : List V) (k : Int), vs = [.ref a] ∧ y = .int k ∧ 0 ≤ k ∧ k ≤ 1000000 ∧ SqL K H2 a xs ∧ R (IteS K a k) H2
  | _, _ => False
theorem one1_at {K : PySem.W.Frag} {R : It → Hp → Prop} {vs ws : List V} {H2 : Hp} (h : one1 K R vs ws H2) : ∃ y, ws = [y] ∧ ∃ (a : Addr) (xs : List V) (k : Int), vs = [.ref a] ∧ y = .int k ∧ 0 ≤ k ∧ k ≤ 1000000 ∧ SqL K H2 a xs ∧ R (IteS K a k) H2 := by
  match ws, h with
  | [y], h => exact ⟨y, rfl, h⟩
theorem pi_enumS {X : Cx} {e e2 : Expr} {ta : TA} {tk : TE} {p pos tpos kpos : Pos} {elts : List Expr} {kk : Nat} (hg : Gl X "enumerate") (hm : X.mg "enumerate" = none) (ha : PA X [e] ta) (hk2 : PE X e2 tk)
    (hks : (backToKw pos (keywordEach [⟨some "start", e2, kpos⟩] X.env)).filterMap (·.1) = [Str.ofString "start"] := by rfl)
    (h1 : backTo pos (starEach [e] X.env) = (false, eval e X.env) :: backTo pos (starEach [] X.env) := by rfl) (h2 : (backTo pos (starEach [e] X.env)).any (·.1) = false := by rfl)
    (h3 : (backToKw pos (keywordEach [⟨some "start", e2, kpos⟩] X.env)).all (·.1.isSome) = true := by rfl) (h4 : (backToKw pos (keywordEach [⟨some "start", e2, kpos⟩] X.env)).any (·.1.isNone) = false := by rfl) :
    PI X (.Tuple elts kk tpos) (.Call (.Name "enumerate" p) [e] [⟨some "start", e2, kpos⟩] pos) (iEnumS X.K ta tk) := by
  refine ⟨fun pins s σ H R I h => ?_⟩
  refine wpAny_Call_Name_kw (ld_blt I hg hm PyProof.Rows.boot_enumerate (callWith_tyKw ?_ h1 h2 h3 h4))
  refine thn (ha.run pos pins s σ H _ I h) fun us s1 ⟨vs, H1, I1, r1, q1⟩ => ?_
  refine thn ((pk_cons (nm := some "start") (kpos := kpos) hk2 pk_nil).run pos pins s1 σ H1 (one1 X.K R vs) I1 q1) fun ks s2 ⟨ws, H2, I2, r2, q2⟩ => ?_
  obtain ⟨y, ew, a, xs, k, ev, ey, k0, k1, hq, q⟩ := one1_at q2
  subst ev ew ey
  rw [hks]
  cases r1 with
  | cons r rr =>
    cases rr
    cases r
    cases r2 with
    | cons rk rr =>
      cases rr
      obtain ⟨t, rfl⟩ := rk
      obtain ⟨its, rv, p', hz⟩ := I2.list hq
      have hal : a < s2.heap.objs.size := p'.lt
      refine enum_begins_start (begins_list a its.toArray) p'.isList (by omega) (by omega) fun h' he' hit hsz hk => wpAny_pyIter_enum he' ?_
      have I3 : Inv X pins σ H2 { s2 with heap := h' } := I2.kept (t' := s2.toks) hk
      refine ⟨s2.heap.objs.size + 1, [s2.heap.objs.size + 1, s2.heap.objs.size], _, _, H2, rfl, I3, turn_enumS a (s2.heap.objs.size + 1) s2.heap.objs.size k, ⟨⟨.none, by rw [show k + ((0 : Nat) : Int) = k by omega]; exact he'⟩, ⟨_, hit, rfl, rfl⟩, Nat.succ_ne_self _, Nat.ne_of_gt (Nat.lt_succ_of_lt hal), Nat.ne_of_lt hal⟩, fun b hb => ?_, q⟩
      have e' : b = s2.heap.objs.size + 1 ∨ b = s2.heap.objs.size := by simpa using hb
      have hle : s2.heap.objs.size ≤ b := by
        rcases e' with z | z
        · rw [z]; exact Nat.le_add_right _ _
        · rw [z]; exact Nat.le_refl _
      exact I2.fpOk hle (I2.hok.fresh hle)
end XEnum
end
section
set_option maxRecDepth 100000
set_option maxHeartbeats 4000000
/-! d.update(e), two dicts whose keys are numbers or texts -/
namespace XUpd
open PySem PySem.Spec PyProof.Rows L2
def rDUpd : V → List V → Hp → VK → Prop := fun x vs H Q => ∃ (a b : Addr) (kvs more : List (Key × V)), x = .ref a ∧ vs = [.ref b] ∧ a ≠ b ∧ H a = some (.dK kvs) ∧ H b = some (.dK more) ∧ kvs.length + more.length ≤ 1000 ∧ (mergeK kvs more).length ≤ 1000 ∧ Q .non (upd H a (.dK (mergeK kvs more)))
theorem mtd_update {X : Cx} : MtR X "dict.update" rDUpd := by
  intro pins s σ H x vs v us Q I rx rv h
  obtain ⟨a, b, kvs, more, ex, ev, hab, e1, e2, hz, hz2, q⟩ := h
  subst ex
  subst ev
  obtain rfl : v = Value.ref a := rx
  cases rv with
  | cons r rr =>
    cases rr
    obtain rfl := r
    obtain ⟨z, hd, vs1, rel, dd⟩ := dk_of I.hok e1
    obtain ⟨z2, hd2, vs2, rel2, dd2⟩ := dk_of I.hok e2
    have l1 := Paired.length rel
    have l2 := Paired.length rel2
    refine call_meetsIn PySem.F.slot_dict_update dd.typeIs PySem.F.entry_dict_update (PySem.F.args_dict_update_2 _ _) (meets_dict_update (mixKind X.prog X.w) a b hab hd2) ⟨vs1, vs2, dd, dd2, by rw [sizeLine_eq]; omega, fun h' d1 d2 hs => ?_⟩
    have he : ∃ q, h'.get? a = some q := let ⟨q, _, _, hq, _⟩ := d1; ⟨q, hq⟩
    have I' := d_write (t' := s.toks) I (by rw [e1]; exact True.intro) hs he (dk_new (by rw [sizeLine_eq]; omega) hd (KV.merge rel2 rel) d1)
    exact ⟨.non, _, I', rfl, q⟩
end XUpd
end
section
set_option maxRecDepth 100000
set_option maxHeartbeats 4000000
/-! xs != [] for a list of anything -/
namespace XLs
open PySem PySem.Spec PyProof.Rows L2
def rNeE (K : PySem.W.Frag) : R2 := fun x y H Q => ∃ a b xs, x = .ref a ∧ y = .ref b ∧ SqL K H a xs ∧ SqL K H b [] ∧ Q (.bl (!xs.isEmpty)) H
section
variable {X : Cx}
theorem op_neE (hu : X.A.units < cLine) : OpR X (compareOp .NotEq) (rNeE X.K) := by
  intro pins s σ H x y v u Q I rx ry h
  obtain ⟨a, b, xs, rfl, rfl, ha, hb, q⟩ := h
  obtain rfl : v = Value.ref a := rx
  obtain rfl : u = Value.ref b := ry
  obtain ⟨its, r, pl, hz⟩ := I.list ha
  obtain ⟨its2, r2, pl2, hz2⟩ := I.list hb
  have l1 := r.length
  cases r2
  cases xs with
  | nil =>
    cases r
    have := PySem.SeqAt.RcNeAt.lists (A := X.A) (s := s) pl.isList pl2.isList rfl hu (e := fun _ => true) (fun j j1 j2 => by simp at j1)
    exact this X.prog X.w _ _ ⟨.bl false, H, I, rfl, q⟩
  | cons x xs =>
    refine PySem.SeqAt.RcNeAt.lists_lengths (A := X.A) (s := s) pl.isList pl2.isList ?_ hu X.prog X.w _ _ ⟨.bl true, H, I, rfl, q⟩
    cases its with
    | nil => cases r
    | cons y ys => simp
end
end XLs
end
section
set_option maxRecDepth 100000
set_option maxHeartbeats 4000000
/-! text * number -/
namespace XMu
open PySem PySem.Spec PyProof.Rows L2
def repS (z : Str) (n : Nat) : Str := ⟨(List.replicate n z.cps).foldl (· ++ ·) #[]⟩
theorem fold_list : ∀ (l : List (Array Nat)) (acc : Array Nat), (l.foldl (· ++ ·) acc).toList = acc.toList ++ (l.map Array.toList).flatten
  | [], acc => by simp
  | x :: r, acc => by
    rw [List.foldl_cons, fold_list r (acc ++ x), Array.toList_append, List.map_cons, List.flatten_cons, List.append_assoc]
theorem tl_rep (z : Str) (n : Nat) : (repS z n).cps.toList = (List.replicate n z.cps.toList).flatten := by
  show ((List.replicate n z.cps).foldl (· ++ ·) #[]).toList = _
  rw [fold_list, List.map_replicate]
  simp
theorem len_rep (z : Str) : ∀ n : Nat, (repS z n).length = n * z.length
  | n => by
    have e : (repS z n).length = (repS z n).cps.toList.length := by simp [Str.length]
    have e2 : z.length = z.cps.toList.length := by simp [Str.length]
    rw [e, tl_rep, List.length_flatten, List.map_replicate, List.sum_replicate_nat, e2]
def rMulS : R2 := fun x y H Q => ∃ z k, x = .str z ∧ y = .int k ∧ 2 ≤ k ∧ k ≤ 1000 ∧ 0 < z.length ∧ z.length ≤ 1000 ∧ Q (.str (repS z k.toNat)) H
section
variable {X : Cx}
theorem op_mulS : OpR X (binaryOp .Mult) rMulS := by
  intro pins s σ H x y v u Q I rx ry h
  obtain ⟨z, k, rfl, rfl, h2, h3, h4, h5, q⟩ := h
  obtain ⟨t, rfl⟩ := rx
  obtain ⟨t', rfl⟩ := ry
  have hm : z.length * k.toNat ≤ 1000 * 1000 := Nat.mul_le_mul h5 (by omega)
  refine P.mul_str ?_ (fun _ _ => ?_) (fun _ _ => ?_) ?_
  · rw [decide_eq_false (show ¬ k < -(2 ^ 63 : Int) by omega), decide_eq_false (show ¬ k ≥ 2 ^ 63 by omega)]
    rfl
  · have e : (1000 : Int) ≤ (2 ^ 63 - 1) / k := (Int.le_ediv_iff_mul_le (by omega)).mpr (by omega)
    omega
  · show decide (z.length * k.toNat > sizeLine) = false
    rw [sizeLine_eq]
    exact decide_eq_false (by omega)
  · rw [if_neg (by omega), if_neg (by
      rw [Bool.or_eq_true]
      rintro (e | e)
      · have := eq_of_beq e
        omega
      · have := eq_of_beq e
        omega)]
    refine ⟨?_, .str (repS z k.toNat), H, I.tok _, ⟨_, rfl⟩, q⟩
    have e := len_rep z k.toNat
    have e2 : k.toNat * z.length = z.length * k.toNat := Nat.mul_comm _ _
    show (repS z k.toNat).length ≤ sizeLine
    rw [sizeLine_eq]
    omega
end
end XMu
end
section
set_option maxRecDepth 100000
set_option maxHeartbeats 4000000
/-! sorted(a set of tuples of ints of any lengths, the empty one too) -/
namespace PySem.SeqAt
open MeetsSeq PySem
section
variable {A : Around} {s : Shared}
theorem call_tuple_lt {prog : Program} {w : World} {E : Value → Shared → Prop} {Q : Value → Shared → Prop} {l b : Addr} {items items2 : Array Value} {e r : Nat → Bool} (hl : s.heap.IsTuple l items) (hb : s.heap.IsTuple b items2)
    (he : ∀ j (h1 : j < items.size) (h2 : j < items2.size), EqAt A.in1 s items[j] items2[j] (e j)) (hr : ∀ j (h1 : j < items.size) (h2 : j < items2.size), e j = false → RcLt A.in1 s items[j] items2[j] (r j))
    (h : Q (.bool (firstLt e r (decide (items.size < items2.size)) (List.range (min items.size items2.size)))) s) : wpAny (model prog w) A (call (.builtin "tuple.__lt__") [.ref l, .ref b]) Q E s := by
  obtain ⟨⟨cls, dd, data, sl⟩, ho, hc, n, hd⟩ := id hl
  obtain ⟨⟨cls2, dd2, data2, sl2⟩, ho2, hc2, n2, hd2⟩ := id hb
  simp only at hc hd hc2 hd2
  subst hc hd hc2 hd2
  exact call_meets F.slot_tuple_lt ⟨_, ho, rfl⟩ F.entry_tuple_lt (F.args_tuple_lt_2 _ _) (tuple_ltAt l b items items2 n n2 dd dd2 sl sl2 e r) ⟨ho, ho2, he, hr, h⟩
end
end PySem.SeqAt
namespace XTS
open PySem PySem.W PySem.Calls PyProof.Rows PySem.SeqAt
def encT (p : Addr × List Int) : PyData := .tuple (p.2.map .int)
theorem alikeT (x y : List Int) : alike (.tuple (x.map .int)) (.tuple (y.map .int)) = true := by
  show alikeAll (x.map .int) (y.map .int) = true
  exact alike_ints x y
theorem depthT (x : List Int) : (PyData.tuple (x.map .int)).depth = 1 := by
  have h : ∀ y : List Int, PyData.depthAll (y.map .int) = 0 := by
    intro y
    induction y with
    | nil => simp [PyData.depthAll]
    | cons b y ih => simp [PyData.depthAll, PyData.depth, ih]
  simp [PyData.depth, h]
section
variable {prog : Program} {w : World} {A : Around} {E : Value → Shared → Prop} {s : Shared}
theorem oneLt_tup {xs ys : List PyData} {a b : Value} {as bs : List Addr} {Q : Bool → Shared → Prop} (ra : Reads s.heap a (.tuple xs) as) (rb : Reads s.heap b (.tuple ys) bs) (hal : alikeAll xs ys = true)
    (hu : A.units + min (PyData.tuple xs).depth (PyData.tuple ys).depth < cLine) (hq : Q (dataLt (.tuple xs) (.tuple ys)) s) : wpAny (model prog w) A (oneLt' true a b) Q E s := by
  cases ra with
  | @tuple l o vs n _ as₁ h1 h2 h3 h4 =>
    cases rb with
    | @tuple l' o' vs' n' _ bs₁ k1 k2 k3 k4 =>
      have n1 : vs.size = xs.length := by simpa using ReadsAll.length _ _ _ h4
      have n2 : vs'.size = ys.length := by simpa using ReadsAll.length _ _ _ k4
      rw [dataLt_tuple, ← firstLt_toks xs ys hal, ← n1, ← n2] at hq
      rw [oneLt'_eq]
      simp only [if_true]
      refine wpAny_bind (wpAny_cRoomFor (room_here hu) ?_)
      refine wpAny_bind (wpAny_callSpecialIfBound?_slot (T := "tuple") ⟨_, h1, h2⟩ F.slot_tuple_lt (call_tuple_lt (e := pairEq xs ys) (r := fun j => dataLt (xs.getD j .none) (ys.getD j .none)) ⟨_, h1, h2, _, h3⟩ ⟨_, k1, k2, _, k3⟩ (fun j j1 j2 => ?_) (fun j j1 j2 hj => ?_) ?_))
      · have := eqAt_alikeAll xs ys A.in1 s vs.toList vs'.toList _ _ h4 k4 hal (room_in hu) j (by simpa using j1) (by simpa using j2)
        simpa using this
      · have := rcLt_alikeAll xs ys A.in1 s vs.toList vs'.toList _ _ h4 k4 hal (room_in hu) j (by simpa using j1) (by simpa using j2) hj
        simpa using this
      · exact wpAny_truthy_bool hq
/-- the kind that the keys make, whatever tuples they are -/
def firstOf (v : Option Value) : Option Value := v
theorem firsts_any {M : Model} : ∀ (vs : List Value) (fs : List (Option Value)) {Q : List (Option Value) → Shared → Prop}, EachIs (fun v f => ∃ a o xs n, v = .ref a ∧ s.heap.get? a = some o ∧ o.cls = .type "tuple" ∧ o.data = .seq xs n ∧ xs[0]? = f) vs fs → Q fs s → wpAny M A (vs.mapM firstOfTuple') Q E s
  | [], _, _, .nil, h => by rw [List.mapM_nil]; exact wpAny_pure h
  | v :: vs, f :: fs, Q, .cons ⟨a, o, xs, n, e, ho, hc, hd, hf⟩ t, h => by
    subst e
    rw [List.mapM_cons]
    refine wpAny_bind ?_
    rw [kas_first_eq]
    refine wpAny_bind (Looks.here (show Looks M s.heap (typeOf (.ref a)) o.cls from (Looks.ld ho).andThen .now) ?_)
    rw [hc, if_neg (by first | decide | simp)]
    refine wpAny_bind (listItems_at ho hd (wpAny_pure ?_))
    rw [hf]
    exact wpAny_bind (firsts_any vs fs (Q := fun bs s' => wpAny M A (pure (f :: bs)) Q E s') t (wpAny_pure h))
theorem kind_any {M : Model} {vs : List Value} {fs : List (Option Value)} {Q : SortKind → Shared → Prop} (t : EachIs (fun v f => ∃ a o xs n, v = .ref a ∧ s.heap.get? a = some o ∧ o.cls = .type "tuple" ∧ o.data = .seq xs n ∧ xs[0]? = f) vs fs)
    (hne : (fs.toArray.all fun x => x.isSome) = false) (h : Q (if (fs.toArray[0]?.bind id).isSome = true then general' else oneType') s) (hv : 0 < vs.length) : wpAny M A (keyKind' vs.toArray) Q E s := by
  rw [kat_kind_eq, List.mapM_toArray, map_eq_pure_bind]
  refine wpAny_bind (wpAny_bind (firsts_any vs _ t (wpAny_pure ?_)))
  rw [if_neg (by rw [hne]; exact Bool.false_ne_true)]
  by_cases h0 : (fs.toArray[0]?.bind id).isSome = true
  · rw [if_pos h0] at h
    simp only [h0, if_true]
    exact wpAny_pure h
  · rw [if_neg h0] at h
    simp only [h0]
    obtain ⟨v₁, rest, rfl⟩ : ∃ v₁ rest, vs = v₁ :: rest := by
      match vs, hv with
      | v₁ :: rest, _ => exact ⟨v₁, rest, rfl⟩
    rw [oneTypeOnly'_eq, List.mapM_toArray, map_eq_pure_bind]
    refine wpAny_bind (wpAny_bind (wpAny_bind (kas_mapM (r := Value.type "tuple") _ (fun v hv Q' hq => ?_) (wpAny_pure ?_))))
    · obtain ⟨f, hf, a, o, xs, n, rfl, ho, hc, _⟩ := t.left v hv
      rw [← hc] at hq
      exact Looks.here (show Looks M s.heap (typeOf (.ref a)) o.cls from (Looks.ld ho).andThen .now) hq
    · have hall : ((List.map (fun _ => Value.type "tuple") (v₁ :: rest)).toArray.all fun x => x == Value.type "tuple") = true := by
        simp only [List.all_toArray, List.all_map, List.all_eq_true]
        intro _ _
        exact beq_self_eq_true _
      have h0' : (List.map (fun _ => Value.type "tuple") (v₁ :: rest)).toArray[0]? = some (Value.type "tuple") := by simp
      rw [h0']
      simp only [hall, if_true]
      exact wpAny_pure (wpAny_pure h)
/-- the datum of a tuple of ints -/
def tI (x : List Int) : PyData := .tuple (x.map .int)
theorem alike_tI (xs : List (List Int)) : AllAlike (xs.map tI) := AllAlike.of fun x y => alikeT x y
theorem each_firsts {h : Heap} : ∀ {vs : List Value} {xs : List (List Int)}, EachIs (fun v x => ∃ as, Reads h v (tI x) as) vs xs → ∃ fs : List (Option Value), EachIs (fun v f => ∃ a o ys n, v = .ref a ∧ h.get? a = some o ∧ o.cls = .type "tuple" ∧ o.data = .seq ys n ∧ ys[0]? = f) vs fs ∧ fs.map (fun f => f.isSome) = xs.map (fun x => !x.isEmpty)
  | _, _, .nil => ⟨[], .nil, rfl⟩
  | v :: vs, x :: xs, .cons ⟨as, r⟩ t => by
    obtain ⟨fs, h1, h2⟩ := each_firsts t
    cases r with
    | @tuple a o ys n _ _ ho hc hd hr =>
      refine ⟨ys[0]? :: fs, .cons ⟨a, o, ys, n, rfl, ho, hc, hd, rfl⟩ h1, ?_⟩
      have hl : ys.size = x.length := by simpa using SeqAt.ReadsAll.length _ _ _ hr
      rw [List.map_cons, List.map_cons, h2]
      congr 1
      cases x with
      | nil =>
        have hz : ys.size = 0 := by rw [hl]; rfl
        rw [Array.getElem?_eq_none (by omega)]
        rfl
      | cons c x =>
        have hz : 0 < ys.size := by rw [hl, List.length_cons]; omega
        rw [Array.getElem?_eq_getElem hz]
        rfl
/-- tuples of ints of any lengths can be sorted -/
theorem sortsTups {vs : List Value} {xs : List (List Int)} (e : EachIs (fun v x => ∃ as, Reads s.heap v (tI x) as) vs xs) (hu : A.units + 1 < cLine) : SortsAt prog w A s (dataKind s.heap (xs.map tI)) vs := by
  have e' : EachIs (fun v d => ∃ as, Reads s.heap v d as) vs (xs.map tI) := each_map (R := fun v d => ∃ as, Reads s.heap v d as) tI e
  have hd1 : ∀ d, d ∈ xs.map tI → A.units + d.depth < cLine := bound_map (enc := tI) (bs := xs) fun x _ => by rw [show (tI x).depth = 1 from depthT x]; exact hu
  by_cases hn : [] ∈ xs
  · refine ⟨fun v hv => ?_, ?_⟩
    · obtain ⟨d, hd, as, r⟩ := e'.left v hv
      exact ⟨_, dataKind_some (alike_tI xs) hd r⟩
    · obtain ⟨fs, h1, h2⟩ := each_firsts e
      have hall : (fs.toArray.all fun x => x.isSome) = false := by
        rw [List.all_toArray]
        have q : fs.all (fun x => x.isSome) = (fs.map (fun f => f.isSome)).all id := by rw [List.all_map]; rfl
        rw [q, h2, List.all_map]
        refine Bool.eq_false_iff.mpr fun c => ?_
        have z := (List.all_eq_true.mp c) [] hn
        exact absurd z (by decide)
      refine ⟨if (fs.toArray[0]?.bind id).isSome = true then general' else oneType', ?_, fun h2 E Q hq => kind_any h1 hall hq (by omega)⟩
      intro E x y a b Q ha hb hq
      obtain ⟨d, as, hd, ra, rfl⟩ := dataKind_inv ha
      obtain ⟨d', as', hd', rb, rfl⟩ := dataKind_inv hb
      obtain ⟨x1, hx1, rfl⟩ := List.mem_map.mp hd
      obtain ⟨x2, hx2, rfl⟩ := List.mem_map.mp hd'
      have hroom : A.units + min (tI x1).depth (tI x2).depth < cLine := by rw [show (tI x1).depth = 1 from depthT x1, show (tI x2).depth = 1 from depthT x2]; exact hu
      split
      · show wpAny _ _ (oneLt' false x y) _ _ _
        exact oneLt_alike (f := false) (fun z => nomatch z) ra rb (alikeT x1 x2) (fun z => nomatch z) hroom hq
      · rw [keyLt'_oneType]
        exact oneLt_tup ra rb (alike_ints x1 x2) hroom hq
  · exact SortsAt.data e' (alike_tI xs) (.inl fun d hd => by
      obtain ⟨x, hx, rfl⟩ := List.mem_map.mp hd
      match x, hx with
      | [], hx => exact absurd hx hn
      | c :: x, hx => exact ⟨_, _, rfl⟩) hd1
theorem each_mapF {β γ : Type} {R : Value → γ → Prop} (f : β → γ) : ∀ {vs : List Value} {bs : List β}, EachIs (fun v b => R v (f b)) vs bs → EachIs R vs (bs.map f)
  | _, _, .nil => .nil
  | _, _, .cons h1 t => .cons h1 (each_mapF f t)
theorem reads_ints {h : Heap} : ∀ {vs : List Value} {ns : List Int}, IntsAre vs ns → ReadsAll h vs (ns.map .int) []
  | _, _, .nil => .nil
  | _, _, .cons n t r => by
    have q := ReadsAll.cons (Reads.int (h := h) n t) (reads_ints r)
    exact q
theorem reads_tup {h : Heap} {v : Value} {ns : List Int} (x : TS.TupInts h v ns) : Reads h v (tI ns) [] := by
  obtain ⟨a, xs, rfl, ⟨o, ho, hc, n, hd⟩, i⟩ := x
  exact .tuple ho hc hd (reads_ints i)
/-- xs.sort() of tuples of ints of any lengths -/
theorem list_sort_tups {β : Type} {f : β → List Int} {R : Value → β → Prop} {bs : List β} {a : Addr} {vs : List Value} {n : Nat} {Q : Value → Shared → Prop} (ho : s.heap.get? a = some (seqObj "list" vs.toArray n)) (e : EachIs R vs bs) (er : EachIs (fun v b => ∃ as, Reads s.heap v (tI (f b)) as ∧ a ∉ as) vs bs) (hL : bs.length ≤ sizeLine)
    (hu : A.units + 2 < cLine) (h : ∀ out, out.length = bs.length → EachIs R out (bs.mergeSort (dataLe false fun b => tI (f b))) → Q .none { s with heap := sortedHeap s.heap a vs (List.toArray out) }) :
    wpAny (model prog w) A (call (.builtin "list.sort") [.ref a]) Q E s := by
  have hal : AllAlike (bs.map fun b => tI (f b)) := AllAlike.of fun x y => alikeT (f x) (f y)
  have er' : EachIs (fun v b => ∃ as, Reads (sortingHeap s.heap a vs) v (tI (f b)) as) vs bs := each_keepBut (enc := fun b => tI (f b)) (h' := sortingHeap s.heap a vs) (fun _ _ hb q => sortingHeap_old hb q) (fun o q => by rw [ho] at q; rw [← Option.some.inj q]) hal er
  have er2 : EachIs (fun v x => ∃ as, Reads (sortingHeap s.heap a vs) v (tI x) as) vs (bs.map f) := each_mapF (R := fun v x => ∃ as, Reads (sortingHeap s.heap a vs) v (tI x) as) f er'
  have em : (bs.map f).map tI = bs.map fun b => tI (f b) := by rw [List.map_map]; rfl
  have so := sortsTups (prog := prog) (w := w) (A := A.in1) (s := { s with heap := sortingHeap s.heap a vs }) er2 hu
  rw [em] at so
  refine wpAny_call_entry slot_list_sort ⟨_, ho, rfl⟩ entry_list_sort (list_sort_vals (κ := dataKind (sortingHeap s.heap a vs) (bs.map fun b => tI (f b))) ho so (by rw [e.length]; exact hL) ⟨.none, rfl, ?_⟩) (args_list_sort _)
  exact h _ (by rw [sortVals_length false rfl]; exact e.length) (sortVals_data false e er' hal)
theorem tI_le {β : Type} (x : β → List Int) : dataLe false (fun b => tI (x b)) = fun p q => decide (x p ≤ x q) := by
  have e := dataLe_rows x
  funext p q
  refine Eq.trans ?_ (congrFun (congrFun e p) q)
  show (!dataLt (.tuple ((x q).map .int)) (.tuple ((x p).map .int))) = (!dataLt (.list ((x q).map .int)) (.list ((x p).map .int)))
  rw [dataLt_tuple, dataLt_list]
end
end XTS
namespace L2
open PySem PySem.Spec PyProof.Rows PySem.Calls PySem.SeqAt
section
variable {P : Program} {w : World} {A : Around} {E : Value → Shared → Prop} {s : Shared}
theorem sorted_setV {a : Addr} {L : List (Addr × List Int)} {es : Array (Int × Value)} {ep : Nat} {t : SetTable} {Q : Value → Shared → Prop} (R : SetTR P w s.heap a L es ep t) (hh : A.handled = none)
    (hu : A.units + 3 < cLine)
    (hQ : ∀ s' p (out : Array Value) (c : Nat) (L' : List (Addr × List Int)), (∀ b o, s.heap.get? b = some o → s'.heap.get? b = some o) → s'.gens = s.gens → s'.os = s.os → s.heap.objs.size ≤ p →
      s'.heap.get? p = some (seqObj "list" out c) → out.toList = L'.map (fun q => Value.ref q.1) → L'.Perm L → L'.Pairwise (fun q r => q.2 ≤ r.2) → Q (.ref p) s') :
    wpAny (model P w) A (call (.builtin "sorted") [.ref a]) Q E s := by
  obtain ⟨o, ho, hex, hd⟩ := R.ob
  have hsz := R.size
  have hfew := R.few
  refine Calls.call_function_entry kind_sorted plain_sorted entry_sorted (args_sorted1 _) ?_
  unfold Builtin.«sorted»
  refine wpAny_bind (m := checkCount "sorted" 1 1 _) (wpAny_pure ?_)
  refine wpAny_bind (collect_set (A := A.in1) hh ⟨o, ho, hex.1, hd⟩ R.fits (by unfold scanBound; omega) R.tab.ris R.led fun s1 vs k1 hz g1 o1 pm => ?_)
  have hes : es.toList.map (·.2) = L.map fun q => Value.ref q.1 := by
    rw [R.rows]
    unfold rowsOf
    rw [List.map_map] <;> rfl
  rw [hes] at pm
  -- the values are the addresses of the rows, in some order
  have ord : ∀ vs : List Value, (∀ v ∈ vs, ∃ q ∈ L, v = Value.ref q.1) → ∃ L1 : List (Addr × List Int), vs = L1.map (fun q => Value.ref q.1) ∧ ∀ q ∈ L1, q ∈ L := by
    intro vs
    induction vs with
    | nil => intro _; exact ⟨[], rfl, fun q hq => (by cases hq)⟩
    | cons v vs ih =>
      intro hv
      obtain ⟨q, hq, e⟩ := hv v List.mem_cons_self
      obtain ⟨L1, e1, hs⟩ := ih fun u hu => hv u (List.mem_cons_of_mem _ hu)
      refine ⟨q :: L1, by rw [List.map_cons, e, e1], fun r hr => ?_⟩
      rcases List.mem_cons.mp hr with z | z
      · rw [z]; exact hq
      · exact hs r z
  -- an address has one key
  have one : ∀ q ∈ L, ∀ r ∈ L, q.1 = r.1 → q = r := fun q hq r hr e => by
    have a1 := R.tup q hq
    have a2 := R.tup r hr
    rw [e] at a1
    have e2 : q.2 = r.2 := a1.inj a2
    exact Prod.ext e e2
  have perm_of : ∀ L1 : List (Addr × List Int), (∀ q ∈ L1, q ∈ L) → (L1.map (fun q => Value.ref q.1)).Perm (L.map fun q => Value.ref q.1) → L1.Perm L := by
    intro L1 hs pm1
    have nL : L.Nodup := nodup_of_map R.nd
    have nref : (L.map fun q => Value.ref q.1).Nodup := by
      refine List.pairwise_map.mpr (List.Pairwise.imp_of_mem (fun {q r} hq hr hne e => ?_) nL)
      injection e with e
      exact hne (one q hq r hr e)
    have n1 : L1.Nodup := nodup_of_map (pm1.nodup_iff.mpr nref)
    refine (List.perm_ext_iff_of_nodup n1 nL).mpr fun q => ⟨hs q, fun hq => ?_⟩
    have hm : Value.ref q.1 ∈ L1.map (fun q => Value.ref q.1) := pm1.mem_iff.mpr (List.mem_map.mpr ⟨q, hq, rfl⟩)
    obtain ⟨r, hr, e⟩ := List.mem_map.mp hm
    injection e with e
    rw [← one r (hs r hr) q hq e]
    exact hr
  have hvl : vs.length < 64 := by rw [pm.length_eq, List.length_map]; exact hfew
  refine wpAny_bind (wpAny_newList ?_ (by rw [sizeLine_eq]; omega))
  have hoL : (s1.heap.push (seqObj "list" vs.toArray 0)).get? s1.heap.objs.size = some (seqObj "list" vs.toArray 0) := Heap.get?_push_size _ rfl
  have tk : ∀ q ∈ L, TS.TupInts (s1.heap.push (seqObj "list" vs.toArray 0)) (.ref q.1) q.2 := fun q hq => tupInts_of (P := P) (w := w) (isT_keep (R.tup q hq) fun b u e => Heap.get?_push_of_some _ (k1 b u e))
  obtain ⟨L1, e1, hs1⟩ := ord vs fun v hv => by
    obtain ⟨q, hq, e⟩ := List.mem_map.mp (pm.mem_iff.mp hv)
    exact ⟨q, hq, e.symm⟩
  have pL1 : L1.Perm L := perm_of L1 hs1 (by rw [← e1]; exact pm)
  have each1 : ∀ L1 : List (Addr × List Int), W.EachIs (fun v (q : Addr × List Int) => v = Value.ref q.1) (L1.map fun q => Value.ref q.1) L1 := by
    intro L1
    induction L1 with
    | nil => exact .nil
    | cons q L1 ih => exact .cons rfl ih
  have ee : W.EachIs (fun v (q : Addr × List Int) => v = Value.ref q.1) vs L1 := by rw [e1]; exact each1 L1
  have er : W.EachIs (fun v (q : Addr × List Int) => ∃ as, PySem.Reads (s1.heap.push (seqObj "list" vs.toArray 0)) v (XTS.tI q.2) as ∧ s1.heap.objs.size ∉ as) vs L1 := (W.each_mem ee).mono fun v q ⟨hv, hq⟩ => ⟨[], by rw [hv]; exact XTS.reads_tup (tk q (hs1 q hq)), fun z => nomatch z⟩
  refine wpAny_bind (wpAny_holding (XTS.list_sort_tups (f := fun q : Addr × List Int => q.2) (s := { s1 with heap := s1.heap.push (seqObj "list" vs.toArray 0) }) hoL ee er (by rw [← ee.length, sizeLine_eq]; omega) hu fun out a1 a2 => ?_))
  obtain ⟨c, hc⟩ := sortedHeap_at (vs := vs) (out := out.toArray) hoL
  have each2 : ∀ {o : List Value} {M : List (Addr × List Int)}, W.EachIs (fun v (q : Addr × List Int) => v = Value.ref q.1) o M → o = M.map fun q => Value.ref q.1 := by
    intro o M h
    induction h with
    | nil => rfl
    | cons h1 _ ih => rw [h1, ih]; rfl
  have pw : (L1.mergeSort (W.dataLe false fun q : Addr × List Int => XTS.tI q.2)).Pairwise (fun q r => q.2 ≤ r.2) := by
    rw [XTS.tI_le]
    exact (List.pairwise_mergeSort (le := fun p q : Addr × List Int => decide (p.2 ≤ q.2)) (fun a b c h1 h2 => by
      have h1 := of_decide_eq_true h1
      have h2 := of_decide_eq_true h2
      exact decide_eq_true (List.le_trans h1 h2)) (fun a b => by
      rcases List.le_total a.2 b.2 with h | h
      · simp [h]
      · simp [h]) L1).imp fun h => of_decide_eq_true h
  refine wpAny_pure ⟨_, rfl, hQ _ s1.heap.objs.size out.toArray c _ (fun b u e => ?_) g1 o1 hz hc (by rw [List.toList_toArray]; exact each2 a2) ((List.mergeSort_perm L1 _).trans pL1) pw⟩
  have q := k1 b u e
  have hlt := Heap.lt_size q
  show (sortedHeap (s1.heap.push (seqObj "list" vs.toArray 0)) s1.heap.objs.size vs out.toArray).get? b = some u
  rw [sortedHeap_old (Nat.ne_of_lt hlt) (by rw [size_push']; exact Nat.lt_succ_of_lt hlt)]
  exact Heap.get?_push_of_some _ q
end
section
variable {X : Cx}
/-- sorted(set), tuples of ints of any lengths -/
def rSortedV (K : PySem.W.Frag) (P : Program) (w : World) : List V → Hp → VK → Prop := fun vs H Q => ∃ (a : Addr) (L : List (Addr × List Int)), vs = [V.ref a] ∧ H a = some (SetTO P w a L) ∧ (∀ p ∈ L, SqT K H p.1 (p.2.map V.int)) ∧
  ∀ (L' : List (Addr × List Int)) (p : Addr), L'.Perm L → (L'.map (·.2)).Nodup → L'.length < 64 → L'.Pairwise (fun q r => q.2 ≤ r.2) → H p = none → Q (.ref p) (upd H p (.lst (L'.map fun q => V.ref q.1)))
theorem cr_sortedV (hc : X.calm = true) (hu : X.A.units + 64 < cLine) : CallR X (.builtin "sorted") (rSortedV X.K X.prog X.w) := by
  intro pins s σ H vs us Q I r h
  obtain ⟨a, L, rfl, ha, hk, q⟩ := h
  have R0 : SetT0 X.prog X.w s.heap a L := (I.hok a _ ha).1
  obtain ⟨es, ep, t, R⟩ := R0.full fun p hp => I.isT (hk p hp)
  rw [Vals.ref1 r]
  refine sorted_setV R (I.ok.hd hc) (by omega) fun s' p out c L' k g o hp hg hout pm pw => ?_
  have hfew : L'.length < 64 := by rw [pm.length_eq]; exact R.few
  have hlen : (L'.map fun q => V.ref q.1).length ≤ sizeLine := by rw [List.length_map, sizeLine_eq]; omega
  have hn : H p = none := I.hok.fresh hp
  have hv : Vals (L'.map fun q => V.ref q.1) out.toList := by rw [hout]; exact vals_of_refs L'
  have J : Inv X pins σ (upd H p (.lst (L'.map fun q => V.ref q.1))) { s with heap := s'.heap, gens := s'.gens, drawn := s'.drawn, toks := s'.toks } :=
    I.call (ch := []) (Un.laid k hp hn) (I.hok.laid k hp ⟨hlen, out.toList, c, hv, hg⟩) (by rw [g]; exact I.bare) (fun _ z => nomatch z)
  have e : s' = { s with heap := s'.heap, gens := s'.gens, drawn := s'.drawn, toks := s'.toks } := by
    cases s'
    cases s
    cases o
    rfl
  rw [e]
  exact ⟨.ref p, _, J, rfl, q L' p pm ((pm.map (·.2)).nodup_iff.mpr R.nd) hfew pw hn⟩
end
end L2
end
section
set_option maxRecDepth 100000
/-! dict comprehensions whose keys are tuples; list(d) of such a dict -/
namespace L2
open PySem PySem.Spec PyProof.Rows
/-- d[k] = v by a comprehension, k a tuple -/
theorem d_dictSetT {X : Cx} {pins : List (Addr × Obj)} {σ : St} {H : Hp} {s : Shared} {E : Value → Shared → Prop} {D b : Addr} {kvs : List (List Key × V)} {k : List Key} {v : V} {u r : Value} {Q : Unit → Shared → Prop} (hu : X.A.units + 1 < cLine) (I : Inv X pins σ H s) (hD : H D = some (.dT kvs)) (hb : H b = some (.tup (k.map kV))) (hz : kvs.length < sizeLine)
    (ry : RelV (V.ref b) u) (rv : RelV v r) (h : ∀ s', Inv X pins σ (upd H D (.dT (putK kvs k v))) s' → Q () s') : wpAny (model X.prog X.w) X.A (dictSet D u r) Q E s := by
  cases (show u = Value.ref b from ry)
  obtain ⟨z, hd, xs, rel, dd⟩ := dt_of I.hok hD
  have hzx : xs.length ≤ sizeLine := by rw [← Paired.length rel]; exact z
  have hl : (putK kvs k v).length ≤ sizeLine := by have := length_putK kvs k v; omega
  refine wpAny_dictSet_heap (hsz := hzx) (show (tupleKind (mixKind X.prog X.w)).room X.A from Nat.lt_of_succ_lt hu) (key_of I.hok hb) dd fun h' dd' hs => h _ ?_
  obtain ⟨q, es, ep, hq, h2, h3, h4, _, h5⟩ := dd'
  refine d_write I (by rw [hD]; exact True.intro) hs ⟨q, hq⟩ ⟨hl, hd, _, (rel.put k hb rv).keeps fun c ys ec => ?_, q, es, ep, hq, h2, h3, h4, h5⟩
  rw [upd_ne (ne_of ec hD (fun z => nomatch z))]
  exact ec
section
variable {X : Cx}
/-- {k: v for target in iter if ..}, keys tuples: D the new dict -/
def tDcT (wi : TI) (g : TG) (tt : TT) (tk tv : TE) (vs : List Nat) : TE := fun σ H Q => wi σ H fun J H1 => ∀ D, H1 D = none → ∃ W : Nat → Nat → Hp → Prop, (∃ m, W 0 m (upd H1 D (.dT []))) ∧ ∀ i m H, W i m H →
  (J.stop i H ∧ Q (.ref D) H) ∨ (J.go i H ∧ ∃ Nx : Hp → Prop, (∀ H', Nx H' → ∃ m', m' < m ∧ W (i + 1) m' H') ∧ ∀ x H', J.yld i H x H' → g x (wipe σ vs) H' fun σ2 H2 => wipe σ2 vs = wipe σ vs ∧ tt σ2 H2 fun b H3 =>
    if b = true then tk σ2 H3 fun y H4 => tv σ2 H4 fun z H5 => ∃ kvs k b, y = .ref b ∧ H5 b = some (.tup (k.map kV)) ∧ H5 D = some (.dT kvs) ∧ kvs.length < sizeLine ∧ Nx (upd H5 D (.dT (putK kvs k z))) else Nx H3)
theorem dc_coreT {pins : List (Addr × Obj)} {s : Shared} {σ : St} {H : Hp} {Q : VK} {kx vx tg iter : Expr} {ifs : List Expr} {scope : Scope} {own : List (Str × Nat)} {pos pos' : Pos} {wi : TI} {g : TG} {tt : TT} {tk tv : TE} {use : Option (Value → Sem Unit)} {Qf : Value → Shared → Prop}
    (hu : X.A.units + 1 < cLine) (hc : X.calm = true) (hN : X.N.Nodup) (I : Inv X pins σ H s) (hi : PI X tg iter wi) (ok : BlkOk X.N X.env.scope scope own)
    (hg : ∀ (s : Shared) (H : Hp) (C : Addr) (cl : List (Str × Addr)) (fp : List Addr), PG (X.blk s H scope (compEnvC scope cl C X.env) fp) tg g) (ht : ∀ (s : Shared) (H : Hp) (C : Addr) (cl : List (Str × Addr)) (fp : List Addr), PTs (X.blk s H scope (compEnvC scope cl C X.env) fp) ifs tt)
    (hk : ∀ (s : Shared) (H : Hp) (C : Addr) (cl : List (Str × Addr)) (fp : List Addr), PE (X.blk s H scope (compEnvC scope cl C X.env) fp) kx tk)
    (he : ∀ (s : Shared) (H : Hp) (C : Addr) (cl : List (Str × Addr)) (fp : List Addr), PE (X.blk s H scope (compEnvC scope cl C X.env) fp) vx tv) (hs : ∀ x, foldedSetIterable iter X.env x = pure x)
    (h : tDcT wi g tt tk tv (own.map (·.2)) σ H Q)
    (hRR : ∀ D C s' m H', Inv X pins σ H' s' → Q (.ref D) H' → s'.heap.Ns C m → FpOk X pins H' C → compPost (model X.prog X.w) X.A X.xe use Qf (.ref D) C (.ok .next) s') :
    wpAny (model X.prog X.w) X.A (comprehension (.DictComp kx vx [⟨tg, iter, ifs, 0⟩] scope pos) scope X.env pos' newDict false (eval iter X.env) use) Qf X.xe s := by
  have hfree : ∀ y ∈ scope.names, y.2 = .free → ∃ c, X.env.cells.lookup y.1 = some c := fun y hy e => by
    rcases ok.free y hy e with k | k
    · exact I.ok.has _ (.inl k)
    · exact I.ok.has _ (.inr k)
  refine wpAny_comprehension_free (use := use) rfl hs (closure_ok hfree) ok.kind (fun y hy e => by rw [ok.uniq y hy, e])
    (thn (hi.run pins s σ H _ I h) fun xv s1 hx => thn hx fun itv s2 h2 => ?_)
  obtain ⟨it, fp, tn, J, H2, e, I2, T, st2, f2, q⟩ := h2
  subst e
  refine wpAny_newObj_type (newEnv_comp ?_)
  generalize hD : s2.heap.objs.size = D
  have hDn : H2 D = none := I2.hok.fresh (Nat.le_of_eq hD)
  obtain ⟨W, ⟨m0, w0⟩, turn⟩ := q D hDn
  -- the new list
  generalize hs3 : ({ s2 with heap := s2.heap.push { cls := .type "dict", data := .dict #[] } } : Shared) = s3
  have I3 : Inv X pins σ (upd H2 D (.dT [])) s3 := by
    rw [← hs3]
    refine I2.laid (t' := s2.toks) (fun b o e => Heap.get?_push_of_some _ e) (Nat.le_of_eq hD) ?_
    rw [← hD]
    exact dt_empty s2.heap I2.big
  have h3 : s3.heap = s2.heap.push { cls := .type "dict", data := .dict #[] } := by rw [← hs3]
  have sz : ∀ b ∈ fp, b < s2.heap.objs.size := fun b hb => by
    obtain ⟨o, e, _⟩ := T.obj _ _ st2 b hb
    exact Heap.lt_size e
  have f3 : ∀ b ∈ fp, FpOk X pins (upd H2 D (.dT [])) b ∧ b < s3.heap.objs.size := fun b hb => by
    have hlt := sz b hb
    refine ⟨⟨?_, (f2 b hb).2⟩, by rw [h3, Heap.size_push]; exact Nat.lt_succ_of_lt hlt⟩
    rw [upd_ne (by rw [← hD]; exact Nat.ne_of_lt hlt)]
    exact (f2 b hb).1
  have st3 : tn 0 s3.heap := T.keep _ _ _ st2 fun b _ o e => by rw [h3]; exact Heap.get?_push_of_some _ e
  have I4 := block_start I3 ok hN f3
  have pg := hg s3 (upd H2 D (.dT [])) s3.heap.objs.size (cellsFrom (s3.heap.objs.size + 1) scope.names (cloFrom X.env.cells scope.names [])) fp
  have pt := ht s3 (upd H2 D (.dT [])) s3.heap.objs.size (cellsFrom (s3.heap.objs.size + 1) scope.names (cloFrom X.env.cells scope.names [])) fp
  have pk := hk s3 (upd H2 D (.dT [])) s3.heap.objs.size (cellsFrom (s3.heap.objs.size + 1) scope.names (cloFrom X.env.cells scope.names [])) fp
  have pe := he s3 (upd H2 D (.dT [])) s3.heap.objs.size (cellsFrom (s3.heap.objs.size + 1) scope.names (cloFrom X.env.cells scope.names [])) fp
  show codeAny _ _ (.compStart (.DictComp kx vx [⟨tg, iter, ifs, 0⟩] scope pos) 0 (.ref it) (.ref D) (compEnvC scope (cellsFrom (s3.heap.objs.size + 1) scope.names (cloFrom X.env.cells scope.names [])) s3.heap.objs.size X.env)) (compPost (model X.prog X.w) X.A X.xe use Qf (.ref D) s3.heap.objs.size) { s3 with heap := pushCells (s3.heap.push { cls := .type "dict", data := .dict #[] }) scope.names }
  have nfp : ∀ b ∈ fp, (upd H2 D (.dT [])) b = none := fun b hb => (f3 b hb).1.1
  generalize hce : compEnvC scope (cellsFrom (s3.heap.objs.size + 1) scope.names (cloFrom X.env.cells scope.names [])) s3.heap.objs.size X.env = ce at I4 pg pt pk pe ⊢
  have cL : ce.locals = s3.heap.objs.size := by subst hce; rfl
  generalize hH3 : upd H2 D (.dT []) = H3 at I3 I4 pg pt pk pe w0 nfp f3
  generalize hs4 : ({ s3 with heap := pushCells (s3.heap.push { cls := .type "dict", data := .dict #[] }) scope.names } : Shared) = s4 at I4 ⊢
  have st4 : tn 0 s4.heap := T.keep _ _ _ st3 fun b _ o e => by rw [← hs4]; exact pushCells_keeps _ _ _ _ (Heap.get?_push_of_some _ e)
  have stat : ∀ {σ' : St} {H' : Hp} {s' : Shared}, Inv (X.blk s3 H3 scope ce fp) [] σ' H' s' → (∀ b ∈ fp, H' b = none) → ∀ b ∈ fp, FpOk (X.blk s3 H3 scope ce fp) [] H' b := fun {σ' H' s'} I' hn b hb =>
    ⟨hn b hb, (I'.ok.exf b hb).1, I'.ok.exfs b hb, .inl hb, fun x c e => (I'.ok.exf b hb).2 x c e, fun p hp => absurd (show p ∈ ([] : List (Addr × Obj)) ++ [] from hp) (by simp)⟩
  have loop : codeAny (model X.prog X.w) X.A (.compLoop (.DictComp kx vx [⟨tg, iter, ifs, 0⟩] scope pos) 0 (.ref it) (.ref D) ce) (compPost (model X.prog X.w) X.A X.xe use Qf (.ref D) s3.heap.objs.size) s4 := by
    refine compLoop_anyD (fun n s' => ∃ i H', Inv (X.blk s3 H3 scope ce fp) [] (wipe σ (own.map (·.2))) H' s' ∧ tn i s'.heap ∧ (∀ b ∈ fp, H' b = none) ∧ W i n H') ?_ m0 ⟨0, H3, I4, st4, nfp, w0⟩
    rintro n s5 ⟨i, H5, I5, st5, n5, w5⟩
    rcases turn i n H5 w5 with ⟨stop, qq⟩ | ⟨go, Nx, hNx, step⟩
    · have td := T.done (X.blk s3 H3 scope ce fp) rfl rfl rfl hc i [] s5 _ H5 (fun _ _ => False) I5 (stat I5 n5) st5 stop
      refine thnF td fun r s6 ⟨hr, I6⟩ => ?_
      subst hr
      -- back in the def's context
      have I7 : Inv X pins σ H5 s6 := I3.call' (ch := fp) I6.os I6.base I6.hok I6.bare fun b hb => ⟨(f3 b hb).1.2.2.2.1, (f3 b hb).1.2.1, (f3 b hb).1.2.2.2.2.1, (f3 b hb).1.2.2.2.2.2⟩
      have nC : H5 s3.heap.objs.size = none := by
        have z : H5 ce.locals = none := I6.free
        rw [cL] at z
        exact z
      obtain ⟨m, hn, _⟩ := I6.loc
      have hn : s6.heap.Ns ce.locals m := hn
      rw [cL] at hn
      exact hRR D s3.heap.objs.size s6 m H5 I7 qq hn (I3.fpOk (Nat.le_refl _) nC)
    · have ti := T.item (X.blk s3 H3 scope ce fp) rfl rfl rfl hc i [] s5 _ H5 (fun _ _ => False) I5 (stat I5 n5) st5 go
      refine thnF ti fun r s6 ⟨u, hr, h6⟩ => ?_
      subst hr
      refine thnF h6 fun _ s7 ⟨x, H7, I7, r7, y7, st7, n7⟩ => ?_
      have I7' := I7.pinned (stat I7 n7) (T.obj _ _ st7)
      refine thnF (pg.run _ s7 _ H7 x u _ I7' r7 (step x H7 y7)) fun _ s8 ⟨σ8, H8, I8, hw8, q8⟩ => ?_
      refine thnF (pt.run _ s8 σ8 H8 _ I8 q8) fun b s9 ⟨H9, I9, q9⟩ => ?_
      -- the turn's end
      have fin : ∀ {s' : Shared} {H' : Hp}, Inv (X.blk s3 H3 scope ce fp) ([] ++ pinsAt fp s7.heap) σ8 H' s' → Nx H' → ∃ m, m < n ∧ ∃ i H', Inv (X.blk s3 H3 scope ce fp) [] (wipe σ (own.map (·.2))) H' s' ∧ tn i s'.heap ∧ (∀ b ∈ fp, H' b = none) ∧ W i m H' := fun {s' H'} I' nx => by
        obtain ⟨m', hm, w'⟩ := hNx H' nx
        have pin' : ∀ b ∈ fp, ∀ o, s7.heap.get? b = some o → s'.heap.get? b = some o ∧ H' b = none := fun b hb o e =>
          let z := I'.pin (b, o) (List.mem_append_right _ (List.mem_append_right _ (mem_pinsAt hb e)))
          ⟨z.1, z.2.1⟩
        have hl : (wipe σ (own.map (·.2))).length = σ8.length := by rw [← hw8, wipe_length]
        refine ⟨m', hm, i + 1, H', (I'.unpinned (pins := [])).weak hl (fun j v e => ?_), T.keep _ _ _ st7 fun b hb o e => (pin' b hb o e).1, fun b hb => ?_, w'⟩
        · rw [← hw8] at e
          exact (wipe_some e).1
        · obtain ⟨o, e, _⟩ := T.obj _ _ st7 b hb
          exact (pin' b hb o e).2
      cases b with
      | false =>
        simp only [Bool.false_eq_true, if_false] at q9 ⊢
        exact fin I9 q9
      | true =>
        simp only [if_true] at q9 ⊢
        refine thnF (pk.run _ s9 σ8 H9 _ I9 q9) fun z s10 ⟨yk, H10, I10, r10, q10⟩ => ?_
        refine thnF (pe.run _ s10 σ8 H10 _ I10 q10) fun z2 s11 ⟨yv, H11, I11, r11, kvs, k, kb, ek, hb11, hD11, hz11, nx⟩ => ?_
        subst ek
        exact d_dictSetT (X := X.blk s3 H3 scope ce fp) hu I11 hD11 hb11 hz11 r10 r11 fun s12 I12 => fin I12 nx
  exact codeAny_compStart_dict loop (T.self X.A 0 _ _ _ st4 loop)
/-- as a value -/
theorem pe_dcT {kx vx tg iter : Expr} {ifs : List Expr} {scope : Scope} {own : List (Str × Nat)} {pos : Pos} {wi : TI} {g : TG} {tt : TT} {tk tv : TE} (hu : X.A.units + 1 < cLine) (hc : X.calm = true) (hN : X.N.Nodup) (hi : PI X tg iter wi) (ok : BlkOk X.N X.env.scope scope own)
    (hg : ∀ (s : Shared) (H : Hp) (C : Addr) (cl : List (Str × Addr)) (fp : List Addr), PG (X.blk s H scope (compEnvC scope cl C X.env) fp) tg g) (ht : ∀ (s : Shared) (H : Hp) (C : Addr) (cl : List (Str × Addr)) (fp : List Addr), PTs (X.blk s H scope (compEnvC scope cl C X.env) fp) ifs tt)
    (hk : ∀ (s : Shared) (H : Hp) (C : Addr) (cl : List (Str × Addr)) (fp : List Addr), PE (X.blk s H scope (compEnvC scope cl C X.env) fp) kx tk)
    (he : ∀ (s : Shared) (H : Hp) (C : Addr) (cl : List (Str × Addr)) (fp : List Addr), PE (X.blk s H scope (compEnvC scope cl C X.env) fp) vx tv) (hs : ∀ x, foldedSetIterable iter X.env x = pure x := by intro _; rfl) :
    PE X (.DictComp kx vx [⟨tg, iter, ifs, 0⟩] scope pos) (tDcT wi g tt tk tv (own.map (·.2))) := by
  refine ⟨fun pins s σ H Q I h => ?_⟩
  rw [arm_eval_DictComp]
  refine dc_coreT hu hc hN I hi ok hg ht hk he hs h fun D C s' m H' I' q hn f => ⟨m, hn, fun h'' sb => ?_⟩
  obtain ⟨f0, f1, f2, f3, f4, f5⟩ := f
  exact ⟨.ref D, H', I'.turned (t' := s'.toks) (fun b o hb e => (sb.2 b hb).trans e) f0 f1 f3 f4 f5, rfl, q⟩
/-- over a list that stays -/
theorem dc_listT {K : PySem.W.Frag} {a : Addr} {xs : List V} {g : TG} {tt : TT} {tk tv : TE} {vs : List Nat} {σ : St} {H1 : Hp} {D : Addr} {Qd : Hp → Prop} (Pv : Nat → Hp → Prop) (h0 : Pv 0 (upd H1 D (.dT []))) (hl : ∀ i H, i ≤ xs.length → Pv i H → SqL K H a xs)
    (hs : ∀ i x H, xs[i]? = some x → Pv i H → g x (wipe σ vs) H fun σ2 H2 => wipe σ2 vs = wipe σ vs ∧ tt σ2 H2 fun b H3 =>
      if b = true then tk σ2 H3 fun y H4 => tv σ2 H4 fun z H5 => ∃ kvs k b, y = .ref b ∧ H5 b = some (.tup (k.map kV)) ∧ H5 D = some (.dT kvs) ∧ kvs.length < sizeLine ∧ Pv (i + 1) (upd H5 D (.dT (putK kvs k z))) else Pv (i + 1) H3) (hd : ∀ H, Pv xs.length H → Qd H) :
    ∃ W : Nat → Nat → Hp → Prop, (∃ m, W 0 m (upd H1 D (.dT []))) ∧ ∀ i m H, W i m H →
      ((Itl K a).stop i H ∧ Qd H) ∨ ((Itl K a).go i H ∧ ∃ Nx : Hp → Prop, (∀ H', Nx H' → ∃ m', m' < m ∧ W (i + 1) m' H') ∧ ∀ x H', (Itl K a).yld i H x H' → g x (wipe σ vs) H' fun σ2 H2 => wipe σ2 vs = wipe σ vs ∧ tt σ2 H2 fun b H3 =>
        if b = true then tk σ2 H3 fun y H4 => tv σ2 H4 fun z H5 => ∃ kvs k b, y = .ref b ∧ H5 b = some (.tup (k.map kV)) ∧ H5 D = some (.dT kvs) ∧ kvs.length < sizeLine ∧ Nx (upd H5 D (.dT (putK kvs k z))) else Nx H3) := by
  refine ⟨fun i m H => m = xs.length - i ∧ i ≤ xs.length ∧ Pv i H, ⟨xs.length, by simp, Nat.zero_le _, h0⟩, ?_⟩
  rintro i m H ⟨rfl, hi, p⟩
  have q := hl i H hi p
  by_cases hlt : i < xs.length
  · refine .inr ⟨⟨xs, xs[i], q, by simp [hlt]⟩, Pv (i + 1), fun H' p' => ⟨xs.length - (i + 1), by omega, rfl, hlt, p'⟩, fun x H' y => ?_⟩
    obtain ⟨e, y⟩ := y
    subst e
    exact hs i x _ (y xs q) p
  · have e : i = xs.length := by omega
    subst e
    exact .inl ⟨⟨xs, q, Nat.le_refl _⟩, hd H p⟩
theorem vals_of_refsD {β : Type} : ∀ (ks : List (Addr × β)), Vals (ks.map fun p => V.ref p.1) (ks.map fun p => Value.ref p.1)
  | [] => .nil
  | p :: ks => .cons rfl (vals_of_refsD ks)
theorem kt_keys {H : Hp} : ∀ {kvs : List (List Key × V)} {xs : List (List Key × Addr × Value)}, Paired (fun (p : List Key × V) (q : List Key × Addr × Value) => p.1 = q.1 ∧ H q.2.1 = some (.tup (p.1.map kV)) ∧ RelV p.2 q.2.2) kvs xs →
    (xs.map fun q => (q.2.1, q.1)).map (·.2) = kvs.map (·.1) ∧ ∀ p ∈ xs.map (fun q => (q.2.1, q.1)), H p.1 = some (.tup (p.2.map kV)) := by
  intro kvs xs r
  induction r with
  | nil => exact ⟨rfl, fun p hp => nomatch hp⟩
  | @cons p q ps qs hq t ih =>
    obtain ⟨e, ht⟩ := ih
    refine ⟨?_, fun z hz => ?_⟩
    · rw [List.map_cons, List.map_cons, List.map_cons, e, hq.1]
    · rw [List.map_cons] at hz
      rcases List.mem_cons.mp hz with rfl | hz
      · show H q.2.1 = some (.tup (q.1.map kV))
        rw [← hq.1]
        exact hq.2.1
      · exact ht z hz
/-- list(d): the keys, tuples -/
theorem call_listDT (hcalm : X.calm = true) : CallR X (.type "list") (fun xs H Q => ∃ (a : Addr) (kvs : List (List Key × V)), xs = [.ref a] ∧ H a = some (.dT kvs) ∧ ∀ (L : List (Addr × List Key)) (p : Addr), L.map (·.2) = kvs.map (·.1) → (∀ q ∈ L, H q.1 = some (.tup (q.2.map kV))) → H p = none → Q (.ref p) (upd H p (.lst (L.map fun q => V.ref q.1)))) := by
  intro pins s σ H xs us Q I r q
  obtain ⟨a, kvs, ex, hd, q⟩ := q
  subst ex
  obtain ⟨u, eu, rx⟩ := vals1 r
  subst eu
  cases rx
  obtain ⟨z, lo, xs, rel, dd⟩ := dt_of I.hok hd
  obtain ⟨o, es, ep, ho, hc, hdd, he, _, _⟩ := dd
  obtain ⟨k1, k2⟩ := kt_keys rel
  have hlx : xs.length = kvs.length := (Paired.length rel).symm
  have hes : es.size = xs.length := by rw [← Array.length_toList, he, List.length_map]
  refine PySem.W.kdl_call (PySem.KdlSrc.rawDict (es := es) (ep := ep) lo) (I.ok.hd hcalm) ⟨o, ho, hc, hdd⟩ (by rw [hes, hlx]; exact z) fun h' tk acc c' hk hD hacc => ?_
  have eacc : acc.toList = (xs.map fun q => (q.2.1, q.1)).map fun q => Value.ref q.1 := by
    refine List.ext_getElem? fun i => ?_
    by_cases hi : i < xs.length
    · have hia : i < acc.size := by rw [hacc.1, hes]; exact hi
      obtain ⟨hi2, hv⟩ := hacc.2 i acc[i] (Array.getElem?_eq_getElem hia)
      have e1 : es[i]? = (xs.map (entryOfKey (tupleKind (mixKind X.prog X.w))))[i]? := by rw [← he, Array.getElem?_toList]
      rw [Array.getElem?_eq_getElem hi2, List.getElem?_map, List.getElem?_eq_getElem hi] at e1
      have e2 : es[i] = entryOfKey (tupleKind (mixKind X.prog X.w)) xs[i] := Option.some.inj e1
      rw [Array.getElem?_toList, Array.getElem?_eq_getElem hia, hv, e2, List.getElem?_map, List.getElem?_map, List.getElem?_eq_getElem hi]
      rfl
    · rw [List.getElem?_eq_none (by rw [Array.length_toList, hacc.1, hes]; omega), List.getElem?_eq_none (by rw [List.length_map, List.length_map]; omega)]
  have hv : Vals ((xs.map fun q => (q.2.1, q.1)).map fun q => V.ref q.1) acc.toList := by
    rw [eacc]
    exact vals_of_refsD _
  refine ⟨.ref s.heap.objs.size, upd H s.heap.objs.size (.lst ((xs.map fun q => (q.2.1, q.1)).map fun q => V.ref q.1)), I.laid (t' := tk) hk (Nat.le_refl _)
    (show ObjOk X.prog X.w _ _ _ (.lst ((xs.map fun q => (q.2.1, q.1)).map fun q => V.ref q.1)) from ⟨by rw [List.length_map, List.length_map, hlx]; exact z, acc.toList, c', hv, by rw [Array.toArray_toList]; exact hD⟩), rfl, q _ _ k1 k2 (I.hok.fresh (Nat.le_refl _))⟩
end
end L2
end
section
set_option maxRecDepth 100000
set_option maxHeartbeats 2000000
/-! own errors whose context is None: made with or without values, where nothing is handled or in an except suite -/
namespace L2
open PySem PySem.Spec PyProof.Rows
section
variable {X : Cx} {e : Expr} {es : List Expr} {ta : TA} {p pos : Pos}
theorem pmk_oexN {CX : CXT} {x : Str} {C fI : Addr} {k : Nat} {fd : FuncData} {ps : List Str} {sp : Sp} {ds : List Value} {dvs : List V} (T : OexC X.K C) (iC : PySem.W.findIn X.K (.ref C) "__init__" = some (some (.ref fI))) (tI : PySem.W.typeIn X.K (.ref fI) = some (.type "function"))
    (F1 : FnOk X.prog X.w X.K X.mg X.base CX k fI fd ps sp) (hr : Room (k + 1) X.A) (hb : Binds X.K fd ps ds) (hd : Vals dvs ds) (hx : Passes CX X (fun _ _ _ => False)) (hg : Gl X x) (hm : X.mg x = some (.ref C)) (ha : PA X (e :: es) ta)
    (hdb : (x == ("__debug__" : Str)) = false := by decide) (he : starEach (e :: es) X.env = (false, eval e X.env) :: starEach es X.env := by rfl) (hpl : (backTo pos (starEach es X.env)).any (·.1) = false := by rfl) :
    L2N.PMk X (.Call (.Name x p) (e :: es) [] pos) (tMkO C sp dvs ta) := by
  intro pins s σ H Q I h
  obtain ⟨nm, q, N, bs, bm, sn, sub, ab, col, dd, k0, k1, k2, k3, k5, hC, hbm⟩ := T.cls
  refine wpAny_Call_Name_kw (ld_glob I hg hm ?_ hdb)
  refine PySem.W.callWith_K (h₀ := X.base) I.ok.mod.kin T.kC (thn (ha.run pos pins s σ H _ I h) fun us s1 ⟨vs, H1, I1, r1, hz, q1⟩ => ⟨I1.kIn, ?_⟩) he hpl
  show wpAny _ _ (call (.ref C) us) _ _ _
  obtain ⟨hp, g, dr, tk, os⟩ := s1
  have hsz : hp.objs.size ≤ hp.objs.size + 1 := Nat.le_succ _
  have hn : H1 (hp.objs.size + 1) = none := I1.hok.fresh hsz
  have hq := q1 (hp.objs.size + 1) hn
  have kk : ∀ b o, hp.get? b = some o → ((hp.push (PySem.W.kdv_tup us)).push (PySem.HandSPX.excO C hp.objs.size)).get? b = some o := fun b o e => Heap.get?_push_of_some _ (Heap.get?_push_of_some _ e)
  have hget : ((hp.push (PySem.W.kdv_tup us)).push (PySem.HandSPX.excO C hp.objs.size)).get? (hp.objs.size + 1) = some (PySem.HandSPX.excO C hp.objs.size) := by heap_get
  have I2 : Inv X pins σ (upd H1 (hp.objs.size + 1) (exo (hp.objs.size + 1) C none)) ⟨(hp.push (PySem.W.kdv_tup us)).push (PySem.HandSPX.excO C hp.objs.size), g, dr, tk, os⟩ :=
    I1.laid (t' := tk) (a := hp.objs.size + 1) (o := exo (hp.objs.size + 1) C none) (h' := (hp.push (PySem.W.kdv_tup us)).push (PySem.HandSPX.excO C hp.objs.size)) kk hsz (exo_ok hget)
  have r2 : Vals (V.ref (hp.objs.size + 1) :: (vs ++ dvs)) (Value.ref (hp.objs.size + 1) :: (us ++ ds)) := .cons rfl (r1.append hd)
  have hl : (Value.ref (hp.objs.size + 1) :: us ++ ds).length = ps.length := by
    have e := r2.length
    rw [F1.len _ _ _ _ hq] at e
    exact e.symm
  have hus : us.length ≤ sizeLine := by
    rw [← Paired.length r1, sizeLine_eq]
    omega
  refine wpAny_call (PySem.HandSPX.call_own F.excBase_ValueError (fun Y => PySem.HandSPX.refsVE_contains Y bm hbm) (I1.kIn _ _ hC) (PySem.W.looks_findIn I1.kIn iC) (fun self => PySem.W.bind_fn I1.kIn self tI) hus
    (codeAny_mono (F1.run _ X.stack _ _ ⟨Value.ref (hp.objs.size + 1) :: us, []⟩ (Value.ref (hp.objs.size + 1) :: (us ++ ds)) _ _ (fun _ _ _ => False) (hr.make C us []) (I2.env0.make C us []) (hb _ (Value.ref (hp.objs.size + 1) :: us) I2.kIn hl) r2 hq) fun r s' hq' => ?_))
  cases r with
  | error er => exact hx pins σ _ _ er s' I2 hq'
  | ok fl =>
    cases fl with
    | ret u =>
      obtain ⟨v, H2, os2, bare2, un2, hok2, rv, ev, d, fs, ea, ed, hd1, q2⟩ := hq'
      subst ev
      obtain ⟨h2, g2, d2, t2, os'⟩ := s'
      obtain ⟨t0, G, J, kG, ge, hoe, na⟩ := mk_end0 (d2 := d2) (t2 := t2) I1 hsz kk un2 hok2 os2 bare2 ea ed hd1
      refine ⟨rv, ⟨hp.objs.size + 1, _, _, ⟨G, g2, d2, t2, os'⟩, _, .ref C, some d, rfl, J, kG, ge, hoe, ⟨rfl, rfl, fun vs hv => ?_⟩, rfl, rfl, na, rfl, bare2, raises_own T.exC T.tyC, q2⟩⟩
      cases hv
      rfl
    | next => exact False.elim hq'
    | brk => exact False.elim hq'
    | cont => exact False.elim hq'
end
section
variable {X : Cx} {C : Addr} {bmB : List Value} {B newId initId : String}
/-- X(), an own error without __init__, wherever it stands -/
theorem pmk5_own0 {x : Str} {p pos : Pos} (F : ExcBaseFacts B newId initId bmB) (q : PySem.W.excIn X.K C bmB newId = true) (gC : X.mg x = some (.ref C)) (kC : PySem.W.keepIn X.K (.ref C) = true) (r : Raises X (.ref C)) (hg : Gl X x := by rfl)
    (hdb : (x == ("__debug__" : Str)) = false := by decide) : L2H.PMk5 X (.Call (.Name x p) [] [] pos) (fun _ H Q => Q (.ref C) none H) := by
  intro pins s σ H Q I h
  refine wpAny_Call_Name_kw (ld_glob I hg gC ?_ hdb)
  refine PySem.W.callWith_K0 I.kIn kC ?_
  show wpAny _ _ (call (.ref C) []) _ _ _
  obtain ⟨bm, N, nm, qn, bs, hdct, sn, sub, ab, col, dd, k0, k1, k2, k3, k5, mN, hC, hN, hni, T⟩ := exc_obj I.kIn q
  refine wpAny_call_exc_subT F T hC hN hni (fun h' e hm => ?_) (by show 0 ≤ sizeLine; omega)
  exact L2H.mk_of5 I hm r h (I.hok.gone hm.new)
end
/-- what may be let out under one sort of exceptions may be under a weaker one -/
theorem FnOk.weakCX {P : Program} {w : World} {K : PySem.W.Frag} {mg : Str → Option Value} {base : Heap} {CX CX' : CXT} {k : Nat} {f : Addr} {fd : FuncData} {ps : List Str} {sp : Sp} (F : FnOk P w K mg base CX k f fd ps sp) (h : ∀ outer H s E u s', CX outer H s E u s' → CX' outer H s E u s') : FnOk P w K mg base CX' k f fd ps sp :=
  ⟨F.len, fun A outer s H args us vs Q E hr he hb hv hs => codeAny_mono (F.run A outer s H args us vs Q E hr he hb hv hs) fun r s' z => by
    cases r with
    | error er => exact h _ _ _ _ _ _ z
    | ok fl => cases fl <;> exact z⟩
theorem cx_weak {P : Program} {w : World} : ∀ (outer : List Env) (H : Hp) (s : Shared) (E : XK) (u : Value) (s' : Shared), L2N.CX P w outer H s E u s' → L2.CX P w outer H s E u s' := by
  rintro outer H s E u s' ⟨a, B, H', cls, d, e, fl, h1, h2, h3, h4, h5, h6⟩
  exact ⟨a, B, H', cls, d, e, L2H.flyingZ_imp (fun o z => z.zc) fl, h1, h2, h3, h4, h5, h6⟩
end L2
end
section
set_option maxRecDepth 100000
/-! o.f, .. = values: a field as a target -/
namespace L2
open PySem PySem.Spec PyProof.Rows
def gFld (K : PySem.W.Frag) (ta : TE) (f : Str) : TG := fun y σ H Q => ta σ H fun x H2 => ∃ a C dx fs, x = .ref a ∧ H2 a = some (.ins C dx fs) ∧ Cls K C ∧ NoAttr K C f ∧ fs.length < 1000 ∧ Q σ (upd H2 a (.ins C dx (putF f y fs)))
theorem pg_fld {X : Cx} {o : Expr} {f : Str} {ta : TE} {pos : Pos} (ha : PE X o ta) : PG X (.Attribute o f pos) (gFld X.K ta f) := by
  refine ⟨fun pins s σ H y u Q I ry h => ?_⟩
  rw [arm_assign_Attribute]
  refine wpAny_bind (wpAny_holding (thn (ha.run pins s σ H _ I h) fun ov s2 ⟨x, H2, I2, rx, a, C, dx, fs, ex, ea, c, n, l, q2⟩ => ?_))
  subst ex
  obtain rfl : ov = Value.ref a := rx
  refine wpAny_bind (wpAny_standAt (wpAny_bind (wpAny_holding (setattr_ok I2 ea c n l ry fun s3 I3 => ?_))))
  exact wpAny_release ⟨σ, _, I3, q2⟩
end L2
end
section
set_option maxRecDepth 100000
set_option maxHeartbeats 4000000
/-! xs == [] for a list of anything -/
namespace XQs
open PySem PySem.Spec PyProof.Rows L2
def rEqE (K : PySem.W.Frag) : R2 := fun x y H Q => ∃ a b xs, x = .ref a ∧ y = .ref b ∧ SqL K H a xs ∧ SqL K H b [] ∧ Q (.bl xs.isEmpty) H
section
variable {X : Cx}
theorem op_eqE (hu : X.A.units < cLine) : OpR X (compareOp .Eq) (rEqE X.K) := by
  intro pins s σ H x y v u Q I rx ry h
  obtain ⟨a, b, xs, rfl, rfl, ha, hb, q⟩ := h
  obtain rfl : v = Value.ref a := rx
  obtain rfl : u = Value.ref b := ry
  obtain ⟨its, r, pl, hz⟩ := I.list ha
  obtain ⟨its2, r2, pl2, hz2⟩ := I.list hb
  have l1 := r.length
  cases r2
  cases xs with
  | nil =>
    cases r
    have := PySem.SeqAt.RcAt.lists (A := X.A) (s := s) pl.isList pl2.isList rfl hu (e := fun _ => true) (fun j j1 j2 => by simp at j1)
    exact this X.prog X.w _ _ ⟨.bl true, H, I, rfl, q⟩
  | cons x xs =>
    refine PySem.SeqAt.RcAt.lists_lengths (A := X.A) (s := s) pl.isList pl2.isList ?_ hu X.prog X.w _ _ ⟨.bl false, H, I, rfl, q⟩
    cases its with
    | nil => cases r
    | cons y ys => simp
end
end XQs
end
section
set_option maxRecDepth 100000
set_option maxHeartbeats 4000000
/-! tuple * int, also by one -/
namespace L2
open PySem PySem.Spec PyProof.Rows
theorem tuple_mul1 (l : Addr) (items : Array Value) (n : Nat) (dd : Option Addr) (sl : Array (Option Value)) (u : Tok) :
    Meets (Builtin.«tuple.__mul__» ⟨[.ref l, .int 1 u], []⟩) (fun _ R s => s.heap.get? l = some { cls := .type "tuple", dict := dd, data := .seq items n, slots := sl } ∧ R (.ok (.ret (Value.ref l))) s) :=
  .of_wp fun prog w A R s h => by
    obtain ⟨hp, g, d, tk, os⟩ := s
    obtain ⟨hl, h⟩ := h
    have f1 := AutoSeq1.idx_int
    have c0 : (decide ((1 : Int) < -(2 ^ 63)) || decide ((1 : Int) ≥ 2 ^ 63)) = false := by decide
    have c1 : (items.isEmpty || (1 : Int) == 1) = true := by rw [show ((1 : Int) == 1) = true from rfl, Bool.or_true]
    wp_walk using wpAny_loadPart' hl
    repeat (first
      | (refine wpAny_ite_false (decide_eq_false (by rw [c0]; exact Bool.false_ne_true)) ?_; wp_walk using wpAny_loadPart' hl)
      | (refine wpAny_ite_true (decide_eq_true c1) ?_; wp_walk using wpAny_loadPart' hl))
    exact ⟨_, rfl, h⟩
/-- k = 1: the tuple itself -/
def rRepTA (K : PySem.W.Frag) : R2 := fun x y H Q => (∃ l xs, x = .ref l ∧ y = .int 1 ∧ SqT K H l xs ∧ Q (.ref l) H) ∨ rRepT K x y H Q
theorem op_repTA {X : Cx} : OpR X (binaryOp .Mult) (rRepTA X.K) := by
  intro pins s σ H x y v u Q I rx ry h
  rcases h with ⟨l, xs, rfl, rfl, hT, q⟩ | h
  · cases rx
    obtain ⟨t, rfl⟩ := ry
    obtain ⟨its, r, ⟨⟨cls, dd, data, sl⟩, ho, hc, n, hd⟩, hs⟩ := I.tuple hT
    simp only at hc hd
    subst hc hd
    exact wpAny_binaryOp_repeat_ref (T := "tuple") (U := "int") (by decide) ⟨_, ho, rfl⟩ (fun s' => typeIs_int s' 1 t) noFill_tuple_mul F.fills_int_mul F.slot_int_rmul repeat_tuple F.slot_int_index.lookup
      (call_meets F.slot_int_rmul (typeIs_int s 1 t) F.entry_int_rmul (F.args_int_rmul_2 _ _) (int_rmul_tuple 1 t l its.toArray n dd sl)
        ⟨ho, rfl, ⟨_, ho, rfl⟩, call_meets F.slot_tuple_mul ⟨_, ho, rfl⟩ F.entry_tuple_mul (F.args_tuple_mul_2 _ _) (tuple_mul1 l its.toArray n dd sl t) ⟨ho, .ref l, H, I, rfl, q⟩⟩)
  · exact op_repT pins s σ H x y v u Q I rx ry h
end L2
end
section
set_option maxRecDepth 100000
set_option maxHeartbeats 4000000
/-! sorted(a list of tuples of ints of any lengths, the empty one too) -/
namespace L2
open PySem PySem.Spec PyProof.Rows PySem.Calls PySem.SeqAt
section
variable {P : Program} {w : World} {A : Around} {E : Value → Shared → Prop} {s : Shared}
theorem sorted_listV {l : Addr} {L : List (Addr × List Int)} {Q : Value → Shared → Prop} (hl : s.heap.IsList l (L.map fun q => Value.ref q.1).toArray) (hT : ∀ q ∈ L, IsT P w s.heap q.2 q.1) (h64 : L.length < 64) (hu : A.units + 3 < cLine)
    (hQ : ∀ s' p (out : Array Value) (c : Nat) (L' : List (Addr × List Int)), (∀ b o, s.heap.get? b = some o → s'.heap.get? b = some o) → s'.gens = s.gens → s'.os = s.os → s.heap.objs.size ≤ p →
      s'.heap.get? p = some (seqObj "list" out c) → out.toList = L'.map (fun q => Value.ref q.1) → L'.Perm L → L'.Pairwise (fun q r => q.2 ≤ r.2) → Q (.ref p) s') :
    wpAny (model P w) A (call (.builtin "sorted") [.ref l]) Q E s := by
  have hvl : (L.map fun q => Value.ref q.1).length < 64 := by rw [List.length_map]; exact h64
  have hvs : ∀ q ∈ L, Value.ref q.1 ∈ L.map fun q => Value.ref q.1 := fun q hq => List.mem_map.mpr ⟨q, hq, rfl⟩
  have each1 : ∀ L1 : List (Addr × List Int), W.EachIs (fun v (q : Addr × List Int) => v = Value.ref q.1) (L1.map fun q => Value.ref q.1) L1 := by
    intro L1
    induction L1 with
    | nil => exact .nil
    | cons q L1 ih => exact .cons rfl ih
  have ee := each1 L
  generalize (L.map fun q => Value.ref q.1) = vs at *
  refine Calls.call_function_entry kind_sorted plain_sorted entry_sorted (args_sorted1 _) ?_
  unfold Builtin.«sorted»
  refine wpAny_bind (m := checkCount "sorted" 1 1 _) (wpAny_pure ?_)
  refine wpAny_bind (collect_list hl ?_ (by rw [sizeLine_eq]; omega))
  refine wpAny_bind (wpAny_newList ?_ (by rw [sizeLine_eq]; omega))
  have hsz : ((s.heap.push (seqObj "list" #[] 0)).update s.heap.objs.size (Obj.mapSeq (· ++ vs.toArray))).objs.size = s.heap.objs.size + 1 := by
    rw [Heap.size_update, size_push']
  have hoL : (((s.heap.push (seqObj "list" #[] 0)).update s.heap.objs.size (Obj.mapSeq (· ++ vs.toArray))).push (seqObj "list" vs.toArray 0)).get? (s.heap.objs.size + 1) = some (seqObj "list" vs.toArray 0) := by
    rw [← hsz]; exact Heap.get?_push_size _ rfl
  have keep : ∀ b o, s.heap.get? b = some o → (((s.heap.push (seqObj "list" #[] 0)).update s.heap.objs.size (Obj.mapSeq (· ++ vs.toArray))).push (seqObj "list" vs.toArray 0)).get? b = some o := fun b o q => by
    have hlt : b < s.heap.objs.size := Heap.lt_size q
    rw [Heap.get?_push_ne _ _ _ (by rw [hsz]; exact Nat.ne_of_lt (Nat.lt_succ_of_lt hlt)), Heap.get?_update_ne _ _ _ _ (Nat.ne_of_lt hlt), Heap.get?_push_ne _ _ _ (Nat.ne_of_lt hlt)]
    exact q
  have hsz2 : (((s.heap.push (seqObj "list" #[] 0)).update s.heap.objs.size (Obj.mapSeq (· ++ vs.toArray))).push (seqObj "list" vs.toArray 0)).objs.size = s.heap.objs.size + 1 + 1 := by
    rw [size_push', hsz]
  show wpAny _ _ _ _ _ { s with heap := ((s.heap.push (seqObj "list" #[] 0)).update s.heap.objs.size (Obj.mapSeq (· ++ vs.toArray))).push (seqObj "list" vs.toArray 0) }
  rw [hsz]
  generalize ((s.heap.push (seqObj "list" #[] 0)).update s.heap.objs.size (Obj.mapSeq (· ++ vs.toArray))).push (seqObj "list" vs.toArray 0) = h1 at *
  have tk : ∀ q ∈ L, TS.TupInts h1 (.ref q.1) q.2 := fun q hq => tupInts_of (P := P) (w := w) (isT_keep (hT q hq) fun b u e => keep b u e)
  have er : W.EachIs (fun v (q : Addr × List Int) => ∃ as, PySem.Reads h1 v (XTS.tI q.2) as ∧ s.heap.objs.size + 1 ∉ as) vs L := (W.each_mem ee).mono fun v q ⟨hv, hq⟩ => ⟨[], by rw [hv]; exact XTS.reads_tup (tk q hq), fun z => nomatch z⟩
  refine wpAny_bind (wpAny_holding (XTS.list_sort_tups (f := fun q : Addr × List Int => q.2) (s := { s with heap := h1 }) hoL ee er (by rw [sizeLine_eq]; omega) (by show A.units + 1 + 2 < cLine; omega) fun out a1 a2 => ?_))
  obtain ⟨c, hc⟩ := sortedHeap_at (vs := vs) (out := out.toArray) hoL
  have each2 : ∀ {o : List Value} {M : List (Addr × List Int)}, W.EachIs (fun v (q : Addr × List Int) => v = Value.ref q.1) o M → o = M.map fun q => Value.ref q.1 := by
    intro o M h
    induction h with
    | nil => rfl
    | cons h1 _ ih => rw [h1, ih]; rfl
  have pw : (L.mergeSort (W.dataLe false fun q : Addr × List Int => XTS.tI q.2)).Pairwise (fun q r => q.2 ≤ r.2) := by
    rw [XTS.tI_le]
    exact (List.pairwise_mergeSort (le := fun p q : Addr × List Int => decide (p.2 ≤ q.2)) (fun a b c h1 h2 => by
      have h1 := of_decide_eq_true h1
      have h2 := of_decide_eq_true h2
      exact decide_eq_true (List.le_trans h1 h2)) (fun a b => by
      rcases List.le_total a.2 b.2 with h | h
      · simp [h]
      · simp [h]) L).imp fun h => of_decide_eq_true h
  refine wpAny_pure ⟨_, rfl, hQ _ (s.heap.objs.size + 1) out.toArray c _ (fun b u e => ?_) rfl rfl (Nat.le_succ _) hc (by rw [List.toList_toArray]; exact each2 a2) (List.mergeSort_perm L _) pw⟩
  have hlt := Heap.lt_size e
  show (sortedHeap h1 (s.heap.objs.size + 1) vs out.toArray).get? b = some u
  rw [sortedHeap_old (Nat.ne_of_lt (Nat.lt_succ_of_lt hlt)) (by rw [hsz2]; exact Nat.lt_succ_of_lt (Nat.lt_succ_of_lt hlt))]
  exact keep _ _ e
end
section
variable {X : Cx}
def rSortedLV (K : PySem.W.Frag) : List V → Hp → VK → Prop := fun vs H Q => ∃ (a : Addr) (L : List (Addr × List Int)), vs = [V.ref a] ∧ SqL K H a (L.map fun q => V.ref q.1) ∧ (∀ p ∈ L, SqT K H p.1 (p.2.map V.int)) ∧ L.length < 64 ∧
  ∀ (L' : List (Addr × List Int)) (p : Addr), L'.Perm L → L'.Pairwise (fun q r => q.2 ≤ r.2) → H p = none → Q (.ref p) (upd H p (.lst (L'.map fun q => V.ref q.1)))
theorem cr_sortedLV (hc : X.calm = true) (hu : X.A.units + 64 < cLine) : CallR X (.builtin "sorted") (rSortedLV X.K) := by
  intro pins s σ H vs us Q I r h
  obtain ⟨a, L, rfl, hs, hk, h64, q⟩ := h
  obtain ⟨its, rv, hl, hz⟩ := I.list hs
  obtain rfl := refs_of_vals rv
  rw [Vals.ref1 r]
  refine sorted_listV (P := X.prog) (w := X.w) hl.isList (fun p hp => I.isT (hk p hp)) h64 (by omega) fun s' p out c L' k g o hp hg hout pm pw => ?_
  have hlen : (L'.map fun q => V.ref q.1).length ≤ sizeLine := by rw [List.length_map, pm.length_eq, sizeLine_eq]; omega
  have hn : H p = none := I.hok.fresh hp
  have hv : Vals (L'.map fun q => V.ref q.1) out.toList := by rw [hout]; exact vals_of_refs L'
  have J : Inv X pins σ (upd H p (.lst (L'.map fun q => V.ref q.1))) { s with heap := s'.heap, gens := s'.gens, drawn := s'.drawn, toks := s'.toks } :=
    I.call (ch := []) (Un.laid k hp hn) (I.hok.laid k hp ⟨hlen, out.toList, c, hv, hg⟩) (by rw [g]; exact I.bare) (fun _ z => nomatch z)
  have e : s' = { s with heap := s'.heap, gens := s'.gens, drawn := s'.drawn, toks := s'.toks } := by
    cases s'
    cases s
    cases o
    rfl
  rw [e]
  exact ⟨.ref p, _, J, rfl, q L' p pm pw hn⟩
end
end L2
namespace L2
open PySem PySem.Spec PyProof.Rows
/-- where no raising is wished for, nothing is raised -/
theorem FnOk.noX {P : Program} {w : World} {K : PySem.W.Frag} {mg : Str → Option Value} {base : Heap} {k : Nat} {f : Addr} {fd : FuncData} {ps : List Str} {sp : Sp} (F : FnOk P w K mg base (L2.CX P w) k f fd ps sp) : FnOk P w K mg base CX0 k f fd ps (fun vs H Q _ => sp vs H Q (fun _ _ _ => False)) :=
  ⟨fun vs H Q _ h => F.len vs H Q _ h, fun A outer s H args us vs Q E hr he hb hv hs => codeAny_mono (F.run A outer s H args us vs Q (fun _ _ _ => False) hr he hb hv hs) fun r s' z => by
    cases r with
    | error er =>
      obtain ⟨_, _, _, _, _, _, _, _, _, _, _, _, h⟩ := z
      exact h.elim
    | ok fl => cases fl <;> exact z⟩
end L2
end
section
set_option maxRecDepth 100000
set_option maxHeartbeats 4000000
namespace MS
open PySem L2
/-! ### the class Heap: its making alone -/
abbrev s_H_init : Stmt := inClass (topS 74) 0
theorem sc_H_init : FnScope ["self", "paper"] ["self", "paper"] (defScope s_H_init) := ⟨rfl, rfl, rfl, by decide +kernel, rfl, by decide +kernel, by decide +kernel⟩
/-- what the text says of the class -/
structure HCls (K : PySem.W.Frag) (mg : Str → Option Value) (C : Addr) where
  mgC : mg "Heap" = some (.ref C)
  makes : PySem.W.makesIn K C = true
  kp : PySem.W.keepIn K (.ref C) = true
  DI : DefM K C "__init__" "Heap.__init__" s_H_init ["self", "paper"]
theorem HCls.mk' {K : PySem.W.Frag} {mg : Str → Option Value} {C : Addr} (V : HCls K mg C) : Mk K C V.DI.f := ⟨V.makes, V.DI.me.at_, V.DI.me.fn, V.kp⟩
end MS
end
section
set_option maxRecDepth 100000
set_option maxHeartbeats 4000000
namespace MS
open PySem L2
end MS
end
section
set_option maxRecDepth 100000
set_option maxHeartbeats 4000000
namespace MS
open PySem L2
open HeY
/-! ### defs that raise -/
theorem Def.okX {P : Program} {w : World} {K : PySem.W.Frag} {mg : Str → Option Value} {base : Heap} {x : Str} {st : Stmt} {ps N : List Str} {k : Nat} {sp : Sp} (D : Def K mg x st ps) (S : FnScope N ps (defScope st)) (len : ∀ vs H Q E, sp vs H Q E → vs.length = ps.length)
    (hbody : ∀ (cdv : Value) (A : Around) (outer : List Env) (s : Shared) (H : Hp) (vs : List V) (Q : VK) (E : XK), Room k (A.deeper (PyProof.Rows.envOfC x (defScope st) s.heap.objs.size D.f cdv)) → sp vs H Q E →
      ∃ t, PSs (cxOf (L2.CX P w) P w K mg base N x (defScope st) D.f cdv A outer s H E) (defBody st) t ∧ t { nx := fun _ H' => Q .non H', rt := Q } (start N vs) H) : FnOk P w K mg base (L2.CX P w) (k + 1) D.f D.fd ps sp := D.F.ok S len hbody
theorem pcallX {X : Cx} {x : Str} {st : Stmt} {ps : List Str} {k : Nat} {sp : Sp} {E : XK} {e : Expr} {es : List Expr} {t : TA} {p pos : Pos} (D : Def X.K X.mg x st ps) (G : FnOk X.prog X.w X.K X.mg X.base (L2.CX X.prog X.w) k D.f D.fd ps sp) (hr : Room k X.A) (hx : Passes (L2.CX X.prog X.w) X E)
    (ha : PA X (e :: es) t) (hg : Gl X x := by rfl) (hdb : (x == ("__debug__" : Str)) = false := by decide) (he : starEach (e :: es) X.env = (false, eval e X.env) :: starEach es X.env := by rfl) (hpl : (backTo pos (starEach es X.env)).any (·.1) = false := by rfl) : PE X (.Call (.Name x p) (e :: es) [] pos) (tCall sp [] E t) :=
  pe_call G hr hg D.g D.F.kp D.b .nil hx ha hdb he hpl
/-- an error with one number is let out -/
def Raised (C : Addr) (fld : Str) (n : Int) (H : Hp) (E : XK) : Prop := ∀ (d : Addr) (H' : Hp), H d = none → Same H H' → H' d = some (.xd [(fld, .int n)]) → E (.ref C) (some d) H'
theorem Raised.from {C : Addr} {fld : Str} {n : Int} {H H1 : Hp} {E : XK} (h : Raised C fld n H E) (s : Same H H1) : Raised C fld n H1 E := fun d H' hd s' e => h d H' (s.free hd) (s.trans s') e
def spInit1 (C : Addr) (fld : Str) : Sp := fun vs H Q _ => ∃ (a : Addr) (n : Int), vs = [.ref a, .int n] ∧ 0 ≤ n ∧ n < 1000 ∧ H a = some (exo a C none) ∧ ∀ dx, H dx = none → dx ≠ a → Q .non (upd (upd H dx (exd dx [(fld, .int n)])) a (exo a C (some dx)))
structure Rsr (P : Program) (w : World) (K : PySem.W.Frag) (mg : Str → Option Value) (base : Heap) (x par fld : Str) where
  C : Addr
  f : Addr
  fd : FuncData
  T : OexC K C
  init : PySem.W.findIn K (.ref C) "__init__" = some (some (.ref f))
  ty : PySem.W.typeIn K (.ref f) = some (.type "function")
  ok : FnOk P w K mg base CX0 1 f fd ["self", par] (spInit1 C fld)
  b : Binds K fd ["self", par] []
  g : mg x = some (.ref C)
theorem pmk_r {X : Cx} {x par fld : Str} {e : Expr} {te : TE} {p pos : Pos} (R : Rsr X.prog X.w X.K X.mg X.base x par fld) (hr : Room 2 X.A) (he : PE X e te) (hg : Gl X x := by rfl) (hdb : (x == ("__debug__" : Str)) = false := by decide)
    (h1 : starEach [e] X.env = (false, eval e X.env) :: starEach [] X.env := by rfl) (h2 : (backTo pos (starEach [] X.env)).any (·.1) = false := by rfl) : PMk X (.Call (.Name x p) [e] [] pos) (tMkO R.C (spInit1 R.C fld) [] (tCons te tNil)) :=
  pmk_oex R.T R.init R.ty R.ok hr R.b .nil pass0 hg R.g (pa_cons he pa_nil (hs := h1)) hdb h1 h2
theorem raised_of {C : Addr} {fld : Str} {n : Int} {H1 : Hp} {Q : XK} (h0 : 0 ≤ n) (h1 : n < 1000) (h : ∀ (d : Addr) (H' : Hp), H1 d = none → Same H1 H' → H' d = some (.xd [(fld, .int n)]) → Q (.ref C) (some d) H') : [V.int n].length ≤ 1000 ∧ ∀ a, H1 a = none → spInit1 C fld (.ref a :: ([.int n] ++ [])) (upd H1 a (exo a C none))
    (fun v H2 => v = .non ∧ ∃ (d : Addr) (fs : List (Str × V)), H2 a = some (exo a C (some d)) ∧ H2 d = some (exd d fs) ∧ H1 d = none ∧ Q (.ref C) (some d) (upd (L2.del H2 a) d (.xd fs))) (fun _ _ _ => False) := by
  refine ⟨by show 1 ≤ 1000; decide, fun a ha => ⟨a, n, rfl, h0, h1, upd_same, fun dx hdx hne => ⟨rfl, dx, [(fld, .int n)], upd_same, by rw [upd_ne hne, upd_same], ?_, ?_⟩⟩⟩
  · rw [upd_ne hne] at hdx
    exact hdx
  · rw [upd_ne hne] at hdx
    refine h dx _ hdx (fun b o e => ?_) upd_same
    have n1 : b ≠ a := ne_of_none e ha
    have n2 : b ≠ dx := ne_of_none e hdx
    rw [upd_ne n2, L2.del_ne n1, upd_ne n1, upd_ne n2, upd_ne n1]
    exact e
/-- raise X(e) -/
theorem ps_rs {X : Cx} {x par fld : Str} {e : Expr} {te : TE} {p pos pos' : Pos} {W : WX} (R : Rsr X.prog X.w X.K X.mg X.base x par fld) (hc : X.calm = true) (tk : L2.Takes X W) (hr : Room 2 X.A) (he : PE X e te) (hg : Gl X x := by rfl) (hdb : (x == ("__debug__" : Str)) = false := by decide)
    (h1 : starEach [e] X.env = (false, eval e X.env) :: starEach [] X.env := by rfl) (h2 : (backTo pos (starEach [] X.env)).any (·.1) = false := by rfl) : PS X (.Raise (some (.Call (.Name x p) [e] [] pos)) none pos') (fun _ σ H => tMkO R.C (spInit1 R.C fld) [] (tCons te tNil) σ H fun cls d H' => W cls d σ H') :=
  L2.ps_raise hc tk (pmk_r R hr he hg hdb h1 h2)
/-! ### the errors' __init__ -/
abbrev s_Work_init : Stmt := inClass (topS 4) 0
abbrev dWork : InD := ⟨"BadWork", "BadWork.__init__", defArgs s_Work_init, defBody s_Work_init, defScope s_Work_init⟩
theorem small_text {n : Int} (h0 : 0 ≤ n) (h1 : n < 1000) : n.natAbs.log2 < 1920 ∧ (Str.ofString (toString n)).length ≤ 4 := by
  have h2 : n.natAbs < 10 ^ 3 := by
    show n.natAbs < 1000
    omega
  refine ⟨?_, ?_⟩
  · by_cases z : n.natAbs = 0
    · rw [z]
      decide
    · exact Nat.lt_of_le_of_lt (Nat.log2_le_self _) (by omega)
  · rw [PySem.ofString_length]
    exact PySem.int_text_length_le10 (k := 3) (by decide) h2
section
variable {P : Program} {w : World} {K : PySem.W.Frag} {mg : Str → Option Value} {base : Heap}
theorem init_work (Y : SupX P K dWork) (hP : (P.main.scope.names.lookup ("super" : Str)).isSome = false) (msu : mg "super" = none) (hno : PySem.W.findIn K (.ref (He.ga K "BadWork")) "number" = some none) {fd : FuncData} (hfd : ∃ oc od osl, K.lookup (He.ma K (He.ga K "BadWork") "__init__") = some ⟨oc, od, .func fd, osl⟩) :
    FnOk P w K mg base CX0 1 (He.ma K (He.ga K "BadWork") "__init__") fd ["self", "number"] (spInit1 (He.ga K "BadWork") "number") := by
  refine XSU.fn_super (N := ["self", "number", "__class__"]) (k := 0) Y.c rfl hfd (NdefX.nscope_by (by decide +kernel)) rfl rfl msu rfl hP (fun vs H Q E h => ?_) (fun env => rfl) (fun env => rfl) (fun A outer s H vs Q E hr h => ?_)
  · obtain ⟨a, n, rfl, _⟩ := h
    rfl
  obtain ⟨a, n, rfl, h0, h1, ea, q⟩ := h
  obtain ⟨t1, t2⟩ := small_text h0 h1
  refine ⟨a, [.int n], _, _, rfl, pe_joined (.cons pe_str (.cons (pe_fmt (pv 1)) .nil)), pss_one (ps_ost (pv 0) (pv 1)), ea, ?_⟩
  refine ⟨_, rfl, by decide +kernel, _, rfl, .inr ⟨n, rfl, t1, _, rfl, ?_, ea, ?_⟩⟩
  · have e1 : (Str.empty ++ ("no work: step " : Str)).length = 14 := by decide +kernel
    have e2 : ((Str.empty ++ ("no work: step " : Str)) ++ Str.ofString (toString n)).length = (Str.empty ++ ("no work: step " : Str)).length + (Str.ofString (toString n)).length := Str.length_append _ _
    exact szN (by rw [e2, e1]; omega)
  · exact ⟨_, rfl, _, rfl, a, _, rfl, Y.c.T, hno, .inl ⟨ea, fun dx hdx hne => q dx hdx hne⟩⟩
end
/-! ### check_work with its refusal: an error whose context is None -/
theorem Def.okN {P : Program} {w : World} {K : PySem.W.Frag} {mg : Str → Option Value} {base : Heap} {x : Str} {st : Stmt} {ps N : List Str} {k : Nat} {sp : Sp} (D : Def K mg x st ps) (S : FnScope N ps (defScope st)) (len : ∀ vs H Q E, sp vs H Q E → vs.length = ps.length)
    (hbody : ∀ (cdv : Value) (A : Around) (outer : List Env) (s : Shared) (H : Hp) (vs : List V) (Q : VK) (E : XK), Room k (A.deeper (PyProof.Rows.envOfC x (defScope st) s.heap.objs.size D.f cdv)) → sp vs H Q E →
      ∃ t, PSs (cxOf (L2N.CX P w) P w K mg base N x (defScope st) D.f cdv A outer s H E) (defBody st) t ∧ t { nx := fun _ H' => Q .non H', rt := Q } (start N vs) H) : FnOk P w K mg base (L2N.CX P w) (k + 1) D.f D.fd ps sp := D.F.ok S len hbody
theorem pcallN {X : Cx} {x : Str} {st : Stmt} {ps : List Str} {k : Nat} {sp : Sp} {E : XK} {e : Expr} {es : List Expr} {t : TA} {p pos : Pos} (D : Def X.K X.mg x st ps) (G : FnOk X.prog X.w X.K X.mg X.base (L2N.CX X.prog X.w) k D.f D.fd ps sp) (hr : Room k X.A) (hx : Passes (L2N.CX X.prog X.w) X E)
    (ha : PA X (e :: es) t) (hg : Gl X x := by rfl) (hdb : (x == ("__debug__" : Str)) = false := by decide) (he : starEach (e :: es) X.env = (false, eval e X.env) :: starEach es X.env := by rfl) (hpl : (backTo pos (starEach es X.env)).any (·.1) = false := by rfl) : PE X (.Call (.Name x p) (e :: es) [] pos) (tCall sp [] E t) :=
  pe_call G hr hg D.g D.F.kp D.b .nil hx ha hdb he hpl
theorem pmk_rN {X : Cx} {x par fld : Str} {e : Expr} {te : TE} {p pos : Pos} (R : Rsr X.prog X.w X.K X.mg X.base x par fld) (hr : Room 2 X.A) (he : PE X e te) (hg : Gl X x := by rfl) (hdb : (x == ("__debug__" : Str)) = false := by decide)
    (h1 : starEach [e] X.env = (false, eval e X.env) :: starEach [] X.env := by rfl) (h2 : (backTo pos (starEach [] X.env)).any (·.1) = false := by rfl) : L2N.PMk X (.Call (.Name x p) [e] [] pos) (tMkO R.C (spInit1 R.C fld) [] (tCons te tNil)) :=
  pmk_oexN R.T R.init R.ty R.ok hr R.b .nil pass0 hg R.g (pa_cons he pa_nil (hs := h1)) hdb h1 h2
theorem ps_rsN {X : Cx} {x par fld : Str} {e : Expr} {te : TE} {p pos pos' : Pos} {W : WX} (R : Rsr X.prog X.w X.K X.mg X.base x par fld) (hc : X.calm = true) (tk : L2N.Takes X W) (hr : Room 2 X.A) (he : PE X e te) (hg : Gl X x := by rfl) (hdb : (x == ("__debug__" : Str)) = false := by decide)
    (h1 : starEach [e] X.env = (false, eval e X.env) :: starEach [] X.env := by rfl) (h2 : (backTo pos (starEach [] X.env)).any (·.1) = false := by rfl) : PS X (.Raise (some (.Call (.Name x p) [e] [] pos)) none pos') (fun _ σ H => tMkO R.C (spInit1 R.C fld) [] (tCons te tNil) σ H fun cls d H' => W cls d σ H') :=
  L2N.ps_raise hc tk (pmk_rN R hr he hg hdb h1 h2)
/-- an own error without __init__ -/
structure Rs0 (K : PySem.W.Frag) (mg : Str → Option Value) (x : Str) where
  C : Addr
  q : PySem.W.excIn K C [.type "ValueError", .type "Exception", .type "BaseException", .type "object"] "ValueError.__new__" = true
  g : mg x = some (.ref C)
  kC : PySem.W.keepIn K (.ref C) = true
  sb : PySem.W.subIn K (.ref C) (.type "BaseException") = some true
  ty : PySem.W.typeIn K (.ref C) = some (.type "type")
theorem pmk_weak {X : Cx} {e : Expr} {t : St → Hp → XK → Prop} (h : L2N.PMk X e t) : L2.PMk X e t := fun pins s σ H Q I q => thn (h pins s σ H Q I q) fun u s' ⟨a, oe, vs, sI, H', cls, d, e1, e2, e3, e4, e5, z, e6, e7, e8, e9, e10, e11, e12⟩ => ⟨a, oe, vs, sI, H', cls, d, e1, e2, e3, e4, e5, z.zc, e6, e7, e8, e9, e10, e11, e12⟩
theorem pmk5_r0 {X : Cx} {x : Str} {p pos : Pos} (R : Rs0 X.K X.mg x) (hg : Gl X x := by rfl) (hdb : (x == ("__debug__" : Str)) = false := by decide) : L2H.PMk5 X (.Call (.Name x p) [] [] pos) (fun _ H Q => Q (.ref R.C) none H) := pmk5_own0 PySem.F.excBase_ValueError R.q R.g R.kC (raises_own R.sb R.ty) hg hdb
theorem ps_r0 {X : Cx} {x : Str} {p pos pos' : Pos} {W : WX} (R : Rs0 X.K X.mg x) (hc : X.calm = true) (tk : L2.Takes X W) (hg : Gl X x := by rfl) (hdb : (x == ("__debug__" : Str)) = false := by decide) : PS X (.Raise (some (.Call (.Name x p) [] [] pos)) none pos') (fun _ σ H => W (.ref R.C) none σ H) :=
  L2.ps_raise hc tk (pmk_weak (pmk5_r0 R hg hdb).pmk)
def Raised0 (C : Addr) (H : Hp) (E : XK) : Prop := ∀ H', Same H H' → E (.ref C) none H'
def spCheckN (CW : Addr) : Sp := fun vs H Q E => ∃ (a : Addr) (ws : List StepT), vs = [.ref a] ∧ H a = some (.lst (stepsV ws)) ∧ (∀ p ∈ ws, IsStep p) ∧ ws.length ≤ 12 ∧
  (WorkFrom false ws → ∀ H', Same H H' → Q .non H') ∧ (¬ WorkFrom false ws → ∀ (d : Addr) (H' : Hp), H d = none → Same H H' → E (.ref CW) (some d) H')
section
variable {P : Program} {w : World} {K : PySem.W.Frag} {mg : Str → Option Value} {base : Heap}
abbrev Wr (P : Program) (w : World) (K : PySem.W.Frag) (mg : Str → Option Value) (base : Heap) := Rsr P w K mg base "BadWork" "number" "number"
theorem ok_check_workN (T : PTx w K mg) (RW : Wr P w K mg base) (D : Def K mg "check_work" s_check_work ["work"]) (DI : Def K mg "is_step" s_is_step ["thing"]) : FnOk P w K mg base (L2N.CX P w) 3 D.f D.fd ["work"] (spCheckN RW.C) := by
  have GI : FnOk P w K mg base CX0 1 DI.f DI.fd ["thing"] spIsStep := ok_is_step T DI
  obtain ⟨tw, gw⟩ := T.wrong
  obtain ⟨tc, gc⟩ := T.carried
  obtain ⟨tm, gm⟩ := T.mostSteps
  have nd := sc_check_work.nd
  refine D.okN sc_check_work (fun vs H Q E h => ?_) (fun cdv A outer s H vs Q E hr h => ?_)
  · obtain ⟨a, ws, rfl, _⟩ := h
    rfl
  obtain ⟨a, ws, rfl, ea, hall, hlen, q1, q2⟩ := h
  have r1 : Room 1 _ := hr.mono (by decide)
  have tk : L2N.Takes (cxOf (L2N.CX P w) P w K mg base ["work", "went_wrong", "number", "step"] "check_work" (defScope s_check_work) D.f cdv A outer s H E) (fun cls d _ H' => E cls d H') := L2N.takes_of rfl rfl rfl rfl
  refine ⟨_, pss_cons (ps_if (pt_not (pt_val (pe_callB call_isi rfl (T.free "isinstance" (by decide +kernel)) (by decide +kernel) (pa_cons (pv 0) (pa_cons (pe_bltn rfl (T.free "list" (by decide +kernel)) (by decide +kernel) (v := .ty "list") rfl) pa_nil))))) (pss_one ps_never) pss_nil)
    (pss_cons (ps_set (i := 1) nd rfl (Or.inl rfl) pe_bl)
    (pss_one (ps_for (L2.passes_of rfl) rfl (pi_enum rfl (T.free "enumerate" (by decide +kernel)) (pa_cons (pv 0) pa_nil)) (pg_tup (by rfl) (pgs_cons (pg_name (i := 2) nd rfl (Or.inl rfl)) (pgs_cons (pg_name (i := 3) nd rfl (Or.inl rfl)) pgs_nil)))
      (pss_cons (ps_if (PW.pt (pw_or (pt_cmpR op_eq (pv 2) (pe_glob rfl gm (v := .int 12) ⟨_, rfl⟩) (nomark _)) (pw_or1 (pt_not (pt_val (pcall DI GI r1 (pa_cons (pv 3) pa_nil))))))) (pss_one ps_never) pss_nil)
      (pss_cons (ps_if (PW.pt (pw_and (pt_cmpR op_eq (pe_ix ix_str (pv 3) pe_int (fun _ _ => rfl)) (pe_glob rfl gc (v := .str "c") ⟨_, rfl⟩) (nomark _)) (pw_and1 (pt_not (pt_val (pv 1)))))) (pss_one (ps_rsN RW rfl tk hr (pv 2))) pss_nil)
      (pss_one (ps_set (i := 1) nd rfl (Or.inl rfl) (pe_or (pv 1) (pe_one (pe_cmpR op_eq (pe_ix ix_str (pv 3) pe_int (fun _ _ => rfl)) (pe_glob rfl gw (v := .str "w") ⟨_, rfl⟩) (nomark _))))))))))), ?_⟩
  refine seq_if (b := false) (fun Q q => ⟨_, rfl, _, .ty "list", .type "list", .type "list", true, rfl, .ty _, .base (.lst ea), kit_ty (by decide +kernel), _, rfl, q⟩) (fun z => nomatch z) (fun _ => ?_)
  have lws : (stepsV ws).length = ws.length := List.length_map _
  refine ⟨_, rfl, a, _, rfl, SqL.of ea, for_it (walk_enum (K := K) (a := a) (xs := stepsV ws)) (fun i σ H' => ∃ v2 v3 : Option V, σ = [some (.ref a), some (.bl (anyWrong (ws.take i))), v2, v3] ∧ WorkFrom false (ws.take i) ∧ Same H H')
    ⟨none, none, rfl, trivial, Same.refl _⟩ (fun i σ H' _ ⟨_, _, _, _, sm⟩ => SqL.of (sm _ _ ea)) ?_ ?_⟩
  · rintro i x σ H1 H2 hi ⟨v2, v3, rfl, hwf, sm⟩ ⟨T1, x1, x2, rfl, hT1, rfl, ex1, ex2⟩
    obtain rfl : V.int ((i : Nat) : Int) = x1 := Option.some.inj ex1
    rw [lws] at hi
    have ep : ws[i]? = some (ws[i]'hi) := List.getElem?_eq_getElem hi
    obtain rfl : V.str (stepS (ws[i]'hi)) = x2 := Option.some.inj ((get_map (fun p => V.str (stepS p)) ws hi).symm.trans ex2)
    have hp : IsStep (ws[i]'hi) := hall _ (List.getElem_mem hi)
    obtain ⟨c1, e1, y1⟩ := hp.at1
    have sm1 : Same H (upd H1 T1 (.tup [.int ((i : Nat) : Int), .str (stepS (ws[i]'hi))])) := sm.trans (Same.new hT1)
    refine ⟨T1, _, rfl, SqT.of upd_same, rfl, _, _, rfl, _, _, rfl, rfl, ?_⟩
    refine ⟨_, rfl, rfl, _, rfl, ?_⟩
    have ne : decide (V.int ((i : Nat) : Int) = V.int 12) = false := decide_eq_false (fun z => by have := V.int.inj z; omega)
    rw [ne]
    refine iteF ⟨_, rfl, _, rfl, hp, fun H3 s3 => ⟨_, rfl, iteF ?_⟩⟩
    dsimp only [tNext]
    refine seq_if (b := (ws[i]'hi).2 == "c" && !anyWrong (ws.take i)) (ev_and (fun Q q => ⟨_, rfl, _, 1, c1, rfl, rfl, str_len2 hp.len, e1, rfl, _, rfl, by rw [y1, dec_str]; exact q⟩) (fun Q q => ⟨_, rfl, _, rfl, q⟩)) (fun z => ?_) (fun z0 => ?_)
    · rw [Bool.and_eq_true] at z
      have nw : ¬ WorkFrom false ws := fun hw => by
        have z1 := (hw.at ep).2 (eq_of_beq z.1)
        rw [Bool.false_or] at z1
        rw [z1] at z
        exact absurd z.2 (by decide)
      refine ⟨_, rfl, ?_⟩
      exact raised_of (by omega) (by omega) fun d H' hd s' e => q2 nw d H' ((sm1.trans s3).free hd) ((sm1.trans s3).trans s')
    · have hc : (ws[i]'hi).2 = "c" → (false || anyWrong (ws.take i)) = true := fun e => by
        cases h : anyWrong (ws.take i) with
        | true => rfl
        | false =>
          rw [e, h] at z0
          exact absurd z0 (by decide +kernel)
      have wf2 : WorkFrom false (ws.take (i + 1)) := by
        rw [List.take_succ_eq_append_getElem hi]
        exact hwf.snoc hp hc
      refine ⟨_, rfl, _, rfl, ?_⟩
      have tk : anyWrong (ws.take (i + 1)) = (anyWrong (ws.take i) || ((ws[i]'hi).2 == "w")) := by
        rw [List.take_succ_eq_append_getElem hi]
        unfold anyWrong
        rw [List.any_append]
        simp
      refine ite2 (fun z => ?_) (fun z => ?_)
      · exact ⟨_, _, by rw [tk, z]; rfl, wf2, (sm1.trans s3)⟩
      · refine ⟨_, rfl, _, 1, c1, rfl, rfl, str_len2 hp.len, e1, rfl, ?_⟩
        rw [y1]
        refine ⟨some (.int ((i : Nat) : Int)), some (.str (stepS (ws[i]'hi))), ?_, wf2, (sm1.trans s3)⟩
        rw [tk, Bool.eq_false_iff.mpr z, Bool.false_or, dec_str]
        rfl
  · rintro σ H1 ⟨v2, v3, rfl, hwf, sm⟩
    rw [lws, List.take_length] at hwf
    exact q1 hwf H1 sm
end
/-! ### with_step -/
end MS
end
section
set_option maxRecDepth 100000
set_option maxHeartbeats 4000000
namespace MS
open PySem L2
open HeY LamX
/-! ### what is told of a call -/
abbrev s_L_told : Stmt := topS 85
abbrev nmTold : List Str := ["_law_work", "e", "_law_kinds", "_law_word"]
theorem sc_L_told : FnScope nmTold ["_law_work"] (defScope s_L_told) := ⟨rfl, rfl, rfl, by decide +kernel, rfl, by decide +kernel, by decide +kernel⟩
def errNames : List Str := ["BadPaper", "BadWork", "BadStep", "BadCount", "NoWork", "BadText"]
def errNm (i : Nat) : Str := errNames.getD i ""
structure ErrF (K : PySem.W.Frag) (mg : Str → Option Value) where
  A : Nat → Addr
  CM : Addr
  gP : mg "BadPaper" = some (.ref (A 0))
  gW : mg "BadWork" = some (.ref (A 1))
  gS : mg "BadStep" = some (.ref (A 2))
  gC : mg "BadCount" = some (.ref (A 3))
  gN : mg "NoWork" = some (.ref (A 4))
  gT : mg "BadText" = some (.ref (A 5))
  gM : mg "MarkError" = some (.ref CM)
  ve : mg "ValueError" = none
  isi : mg "isinstance" = none
  ex : ∀ i, i < 6 → ExcC K (A i)
  kit : ∀ i j, i < 6 → j < 6 → PySem.W.kitOne K (.ref (A i)) (.ref (A j)) = some (decide (i = j))
  kv : ∀ i, i < 6 → PySem.W.kitOne K (.ref (A i)) (.type "ValueError") = some true
  exm : ∀ i, i < 6 → PySem.W.exmOne K (.ref (A i)) (.ref CM) = some true
  xf : ∀ i, i < 6 → XfC K (A i)
  no0 : PySem.W.findIn K (.ref (A 0)) "scheme" = some none
  no1 : PySem.W.findIn K (.ref (A 0)) "place" = some none
  no2 : PySem.W.findIn K (.ref (A 1)) "number" = some none
  no3 : PySem.W.findIn K (.ref (A 5)) "place" = some none
/-- what stands in the error -/
def Pay (i : Nat) (d : Option Addr) (H : Hp) (vals : List V) : Prop := match i with
  | 0 => ∃ dd fs v1 v2, d = some dd ∧ H dd = some (.xd fs) ∧ fs.lookup ("scheme" : Str) = some v1 ∧ fs.lookup ("place" : Str) = some v2 ∧ vals = [v1, v2]
  | 1 => ∃ dd fs v, d = some dd ∧ H dd = some (.xd fs) ∧ fs.lookup ("number" : Str) = some v ∧ vals = [v]
  | 5 => ∃ dd fs v, d = some dd ∧ H dd = some (.xd fs) ∧ fs.lookup ("place" : Str) = some v ∧ vals = [v]
  | _ => XEU.DictAt d H ∧ vals = [.int 0]
theorem Pay.dict {i : Nat} {d : Option Addr} {H : Hp} {vals : List V} (h : Pay i d H vals) : XEU.DictAt d H := by
  unfold Pay at h
  split at h
  · obtain ⟨dd, fs, v1, v2, e1, e2, _⟩ := h
    exact .inr ⟨dd, fs, e1, e2⟩
  · obtain ⟨dd, fs, v, e1, e2, _⟩ := h
    exact .inr ⟨dd, fs, e1, e2⟩
  · obtain ⟨dd, fs, v, e1, e2, _⟩ := h
    exact .inr ⟨dd, fs, e1, e2⟩
  · exact h.1
theorem dict_keep {d : Option Addr} {H H' : Hp} (h : XEU.DictAt d H) (s : Same H H') : XEU.DictAt d H' := by
  rcases h with h | ⟨dd, fs, e1, e2⟩
  · exact .inl h
  · exact .inr ⟨dd, fs, e1, s _ _ e2⟩
theorem Pay.keep {i : Nat} {d : Option Addr} {H H' : Hp} {vals : List V} (h : Pay i d H vals) (s : Same H H') : Pay i d H' vals := by
  unfold Pay at h ⊢
  split at h
  · obtain ⟨dd, fs, v1, v2, e1, e2, h⟩ := h
    exact ⟨dd, fs, v1, v2, e1, s _ _ e2, h⟩
  · obtain ⟨dd, fs, v, e1, e2, h⟩ := h
    exact ⟨dd, fs, v, e1, s _ _ e2, h⟩
  · obtain ⟨dd, fs, v, e1, e2, h⟩ := h
    exact ⟨dd, fs, v, e1, s _ _ e2, h⟩
  · exact ⟨dict_keep h.1 s, h.2⟩
section
variable {K : PySem.W.Frag} {mg : Str → Option Value}
def ToldE (F : ErrF K mg) (Q : VK) : XK := fun cls d H => ∃ (i : Nat) (vals : List V), i < 6 ∧ cls = .ref (F.A i) ∧ Pay i d H vals ∧ ∀ (t : Addr) (H' : Hp), Same H H' → H t = none → H' t = some (.tup (.str (errNm i) :: vals)) → Q (.ref t) H'
def TTd (F : ErrF K mg) : (XK → Hp → VK → Prop) → Hp → VK → Prop := fun tl H Q => tl (ToldE F Q) H Q
theorem cnt1 : ∀ i : Nat, i < 6 → (([decide (i = 0), decide (i = 1), decide (i = 2), decide (i = 3), decide (i = 4), decide (i = 5)].map V.bl).countP fun z => eqV z (.bl true)) = 1 := by decide
theorem idx1 : ∀ i : Nat, i < 6 → ([decide (i = 0), decide (i = 1), decide (i = 2), decide (i = 3), decide (i = 4), decide (i = 5)].map V.bl)[i]? = some (.bl true) ∧ ∀ m : Nat, m < i → ∀ z, ([decide (i = 0), decide (i = 1), decide (i = 2), decide (i = 3), decide (i = 4), decide (i = 5)].map V.bl)[m]? = some z → eqV z (.bl true) = false := by
  intro i hi
  have e : i = 0 ∨ i = 1 ∨ i = 2 ∨ i = 3 ∨ i = 4 ∨ i = 5 := by omega
  rcases e with rfl | rfl | rfl | rfl | rfl | rfl <;> refine ⟨rfl, fun m hm z hz => ?_⟩
  · omega
  · obtain rfl : m = 0 := by omega
    cases hz; rfl
  · have e : m = 0 ∨ m = 1 := by omega
    rcases e with rfl | rfl <;> (cases hz; rfl)
  · have e : m = 0 ∨ m = 1 ∨ m = 2 := by omega
    rcases e with rfl | rfl | rfl <;> (cases hz; rfl)
  · have e : m = 0 ∨ m = 1 ∨ m = 2 ∨ m = 3 := by omega
    rcases e with rfl | rfl | rfl | rfl <;> (cases hz; rfl)
  · have e : m = 0 ∨ m = 1 ∨ m = 2 ∨ m = 3 ∨ m = 4 := by omega
    rcases e with rfl | rfl | rfl | rfl | rfl <;> (cases hz; rfl)
theorem told_gives {X : Cx} {q : Str} {g : Addr} {cdg : Value} (F : ErrF X.K X.mg) : LamX.GivesTo X nmTold "_law_told" (defScope s_L_told) g cdg (defBody s_L_told) "_law_work" q (TTd F) := by
  intro f c' s H Q tl act hc h
  have nd := sc_L_told.nd
  let Z : Cx := (cxOf C8.CX0 X.prog X.w X.K X.mg X.base nmTold "_law_told" (defScope s_L_told) g cdg X.A X.stack s H C8.E0).nox
  refine ⟨_, pss_one (L2.ps_try_as (X := Z) (c := .ref F.CM) (i := 1) (Wout := fun _ _ _ _ => False)
      (tb := fun W D σ H => ∃ Ech : XK, (∀ cls d σ' H', σ'.length = 4 → Ech cls d H' → W cls d σ' H') ∧ σ[0]? = some (some (.ref f)) ∧ H c' = some (LamX.CodeO c' q) ∧ tl Ech H D.rt)
      rfl rfl nd rfl rfl ⟨rfl, by decide, .inl F.gM⟩ LamX.takes0 (fun W pn xe tk _ => ?_) (fun a oe cls d pn hz hf =>
        pss_cons (ps_set (i := 2) nd rfl (Or.inl rfl) (pe_lst (pa_cons (pe_callB (XEU.call_isE hz hf) rfl F.isi (by decide +kernel) (pa_cons (pv 1) (pa_cons (pe_glob rfl F.gP (v := .ref (F.A 0)) rfl) pa_nil))) (pa_cons (pe_callB (XEU.call_isE hz hf) rfl F.isi (by decide +kernel) (pa_cons (pv 1) (pa_cons (pe_glob rfl F.gW (v := .ref (F.A 1)) rfl) pa_nil)))
            (pa_cons (pe_callB (XEU.call_isE hz hf) rfl F.isi (by decide +kernel) (pa_cons (pv 1) (pa_cons (pe_glob rfl F.gS (v := .ref (F.A 2)) rfl) pa_nil))) (pa_cons (pe_callB (XEU.call_isE hz hf) rfl F.isi (by decide +kernel) (pa_cons (pv 1) (pa_cons (pe_glob rfl F.gC (v := .ref (F.A 3)) rfl) pa_nil))) pa_nil))))))
        (pss_cons (ps_set (i := 2) nd rfl (Or.inl rfl) (pe_op op_cat (pv 2) (pe_lst (pa_cons (pe_callB (XEU.call_isE hz hf) rfl F.isi (by decide +kernel) (pa_cons (pv 1) (pa_cons (pe_glob rfl F.gN (v := .ref (F.A 4)) rfl) pa_nil))) (pa_cons (pe_callB (XEU.call_isE hz hf) rfl F.isi (by decide +kernel) (pa_cons (pv 1) (pa_cons (pe_glob rfl F.gT (v := .ref (F.A 5)) rfl) pa_nil))) pa_nil)))))
        (pss_cons (ps_if (PW.pt (pw_or (pt_cmpR op_ne (show PE (Z.suite a ((a, oe) :: pn)) _ (tBM X.K "list" (XEU.rCountF X.K) (tVar 2) (tCons (tC (.bl true)) tNil)) from pe_bm PySem.F.plainAttrs_list PySem.F.slot_list_count PySem.F.type_list_count XEU.mt_countF (pv 2) (pa_cons pe_bl pa_nil)) pe_int (nomark _)) (pw_or1 (pt_not (pt_val (pe_callB (XEU.call_isE hz hf) rfl F.isi (by decide +kernel) (pa_cons (pv 1) (pa_cons (pe_bltn rfl F.ve (by decide +kernel) (v := .ty "ValueError") rfl) pa_nil)))))))) (pss_one (ps_ret (pe_tup (pa_cons pe_str (pa_cons pe_int pa_nil))))) pss_nil)
        (pss_cons (ps_set (i := 3) nd rfl (Or.inl rfl) (pe_ix (r := rIxL X.K) ix_list (pe_lst (pa_cons pe_str (pa_cons pe_str (pa_cons pe_str (pa_cons pe_str (pa_cons pe_str (pa_cons pe_str pa_nil))))))) (show PE (Z.suite a ((a, oe) :: pn)) _ (tBM X.K "list" (rIndex X.K) (tVar 2) (tCons (tC (.bl true)) tNil)) from pe_bm PySem.F.plainAttrs_list PySem.F.slot_list_index PySem.F.type_list_index mt_index (pv 2) (pa_cons pe_bl pa_nil)) (fun _ _ => rfl)))
        (pss_cons (ps_if (pt_cmpR op_eq (pv 3) pe_str (nomark _)) (pss_one (ps_ret (pe_tup (pa_cons (pv 3) (pa_cons (pe_xf (F.xf 0 (by decide)) F.no0 hz hf (pv 1)) (pa_cons (pe_xf (F.xf 0 (by decide)) F.no1 hz hf (pv 1)) pa_nil)))))) pss_nil)
        (pss_one (ps_ret (pe_tup (pa_cons (pv 3) (pa_cons (pe_ifExp (pt_cmpR op_eq (pv 3) pe_str (nomark _)) (pe_xf (F.xf 1 (by decide)) F.no2 hz hf (pv 1)) (pe_ifExp (pt_cmpR op_eq (pv 3) pe_str (nomark _)) (pe_xf (F.xf 5 (by decide)) F.no3 hz hf (pv 1)) pe_int)) pa_nil))))))))))), ?_⟩
  · refine ⟨fun pins s' σ H' D I h' => ?_⟩
    obtain ⟨Ech, hW, h1, h2, h3⟩ := h'
    have tk2 : L2.Takes (Z.tr pn xe) (fun cls d σ' H' => σ'.length = 4 → W cls d σ' H') := fun u s' ⟨a, B, sI, pins, σ, H, cls, d, e, I, nb, up, sky, na, os, ag, w⟩ => tk u s' ⟨a, B, sI, pins, σ, H, cls, d, e, I, nb, up, sky, na, os, ag, w I.len⟩
    exact (pss_one (ps_ret (act _ pn xe Ech _ _ tk2 (fun cls d σ' H' hE hl => hW cls d σ' H' hl hE)))).run pins s' σ H' D I ⟨h1, h2, h3⟩
  · refine ⟨ToldE F Q, fun cls d σ' H1 hl hE => ?_, rfl, hc, h⟩
    obtain ⟨i, vals, hi, rfl, hp, hq⟩ := hE
    refine ⟨true, F.exm i hi, fun _ a ha => ?_, fun z => nomatch z⟩
    obtain ⟨s0, s1, s2, s3, rfl⟩ : ∃ s0 s1 s2 s3, σ' = [s0, s1, s2, s3] := by
      match σ', hl with
      | [s0, s1, s2, s3], _ => exact ⟨s0, s1, s2, s3, rfl⟩
    have isE : ∀ {x2 x3 : Option V} {j : Nat} {H2 : Hp} {Q2 : VK}, j < 6 → Same H1 H2 → Q2 (.bl (decide (i = j))) H2 → tCB (XEU.rIsE X.K (.ref (F.A i)) d a) (tCons (tVar 1) (tCons (tC (.ref (F.A j))) tNil)) [s0, some (.ref a), x2, x3] H2 Q2 := fun {x2 x3 j H2 Q2} hj s2 q2 =>
      ⟨_, rfl, F.A i, .ref (F.A j), .ref (F.A j), _, rfl, F.ex i hi, rfl, fun u hu => hu, F.kit i j hi hj, dict_keep hp.dict s2, q2⟩
    refine isE (by decide) (Same.refl _) (isE (by decide) (Same.refl _) (isE (by decide) (Same.refl _) (isE (by decide) (Same.refl _) ⟨(by show 4 ≤ sizeLine; decide), fun L1 h1 => ?_⟩)))
    have k1 : Same H1 (upd H1 L1 (.lst [.bl (decide (i = 0)), .bl (decide (i = 1)), .bl (decide (i = 2)), .bl (decide (i = 3))])) := Same.new h1
    dsimp only [gName]
    refine ⟨_, rfl, isE (by decide) k1 (isE (by decide) k1 ⟨(by show 2 ≤ sizeLine; decide), fun L2 h2 => ?_⟩)⟩
    have k2 := k1.trans (Same.new (o := .lst [.bl (decide (i = 4)), .bl (decide (i = 5))]) h2)
    refine ⟨L1, L2, _, _, rfl, rfl, Same.new h2 _ _ upd_same, upd_same, (by show 6 ≤ sizeLine; decide), fun L3 h3 => ?_⟩
    let ks : List V := [decide (i = 0), decide (i = 1), decide (i = 2), decide (i = 3), decide (i = 4), decide (i = 5)].map V.bl
    have k3 := k2.trans (Same.new (o := .lst ks) h3)
    dsimp only [gName]
    have hflat : ks.all flatV = true := rfl
    refine seq_if (b := false || false) (ev_or (b := false) (c := false) (fun Q q => ⟨_, rfl, .inl ⟨rfl, _, SqL.of upd_same⟩, L3, ks, .bl true, rfl, rfl, SqL.of upd_same, rfl, hflat, rfl, _, rfl, ?_⟩) (fun Q q => ⟨_, rfl, F.A i, .ty "ValueError", .type "ValueError", true, rfl, F.ex i hi, rfl, fun u hu => hu, F.kv i hi, dict_keep hp.dict k3, _, rfl, q⟩)) (fun z => nomatch z) (fun _ => ?_)
    · have e : (ks.countP fun z => eqV z (.bl true)) = 1 := cnt1 i hi
      rw [e]
      exact q
    have p3 := hp.keep k3
    have hidx := idx1 i hi
    have hnm : atI (errNames.map V.str) (i : Int) = some (.str (errNm i)) := by
      have h1 : i < errNames.length := hi
      refine atI_nat ?_
      rw [List.getElem?_map, List.getElem?_eq_getElem h1]
      unfold errNm
      rw [List.getD_eq_getElem?_getD, List.getElem?_eq_getElem h1]
      rfl
    refine ⟨(by show 6 ≤ sizeLine; decide), fun L4 h4 => ?_⟩
    have k4 := k3.trans (Same.new (o := .lst (errNames.map V.str)) h4)
    refine ⟨_, rfl, .inl ⟨rfl, _, SqL.of (Same.new h4 _ _ upd_same)⟩, L3, ks, .bl true, i, .bl true, rfl, rfl, SqL.of (Same.new h4 _ _ upd_same), rfl, hflat, hidx.1, rfl, (fun m z h1 h2 => hidx.2 m h1 z h2), ?_⟩
    refine ⟨L4, _, _, _, rfl, rfl, SqL.of upd_same, hnm, ?_⟩
    dsimp only [gName]
    let H4 : Hp := upd (upd (upd (upd H1 L1 (.lst [.bl (decide (i = 0)), .bl (decide (i = 1)), .bl (decide (i = 2)), .bl (decide (i = 3))])) L2 (.lst [.bl (decide (i = 4)), .bl (decide (i = 5))])) L3 (.lst ks)) L4 (.lst (errNames.map V.str))
    have k4 : Same H1 H4 := k4
    have p4 : Pay i d H4 vals := hp.keep k4
    have fin : ∀ (t : Addr) (o : HO), H4 t = none → o = .tup (.str (errNm i) :: vals) → Q (.ref t) (upd H4 t o) := fun t o ht e => hq t _ (k4.trans (Same.new ht)) (k4.free ht) (by rw [upd_same, e])
    have ite : i = 0 ∨ i = 1 ∨ i = 5 ∨ (i = 2 ∨ i = 3 ∨ i = 4) := by omega
    rcases ite with rfl | rfl | rfl | i3
    · obtain ⟨dd, fs, v1, v2, rfl, e2, e3, e4, rfl⟩ := p4
      refine seq_if (b := true) (fun Q q => ⟨_, rfl, rfl, _, rfl, by rw [dec_str]; exact q⟩) (fun _ => ?_) (fun z => nomatch z)
      exact ⟨_, rfl, _, rfl, rfl, rfl, dd, fs, v1, rfl, e2, e3, _, rfl, rfl, rfl, dd, fs, v2, rfl, e2, e4, (by show 3 ≤ sizeLine; decide), fun t ht => fin t _ ht rfl⟩
    · obtain ⟨dd, fs, v, rfl, e2, e3, rfl⟩ := p4
      refine seq_if (b := false) (fun Q q => ⟨_, rfl, rfl, _, rfl, by rw [dec_str]; exact q⟩) (fun z => nomatch z) (fun _ => ?_)
      refine ⟨_, rfl, _, rfl, rfl, _, rfl, ?_⟩
      exact iteT ⟨_, rfl, rfl, rfl, dd, fs, v, rfl, e2, e3, (by show 2 ≤ sizeLine; decide), fun t ht => fin t _ ht rfl⟩
    · obtain ⟨dd, fs, v, rfl, e2, e3, rfl⟩ := p4
      refine seq_if (b := false) (fun Q q => ⟨_, rfl, rfl, _, rfl, by rw [dec_str]; exact q⟩) (fun z => nomatch z) (fun _ => ?_)
      refine ⟨_, rfl, _, rfl, rfl, _, rfl, ?_⟩
      refine iteF ⟨_, rfl, rfl, _, rfl, ?_⟩
      exact iteT ⟨_, rfl, rfl, rfl, dd, fs, v, rfl, e2, e3, (by show 2 ≤ sizeLine; decide), fun t ht => fin t _ ht rfl⟩
    · have hv : vals = [.int 0] := by
        rcases i3 with rfl | rfl | rfl <;> exact p4.2
      subst hv
      have n1 : (errNm i == "BadPaper") = false ∧ (errNm i == "BadWork") = false ∧ (errNm i == "BadText") = false := by
        rcases i3 with rfl | rfl | rfl <;> decide +kernel
      refine seq_if (b := false) (fun Q q => ⟨_, rfl, rfl, _, rfl, by rw [dec_str, n1.1]; exact q⟩) (fun z => nomatch z) (fun _ => ?_)
      refine ⟨_, rfl, _, rfl, rfl, _, rfl, ?_⟩
      rw [dec_str, n1.2.1]
      refine iteF ⟨_, rfl, rfl, _, rfl, ?_⟩
      rw [dec_str, n1.2.2]
      exact iteF ⟨(by show 2 ≤ sizeLine; decide), fun t ht => fin t _ ht rfl⟩
end
/-- what the def's code object is -/
def CodeAt (K : PySem.W.Frag) (f c : Addr) : Prop := ∀ oc od fd osl c', K.lookup f = some ⟨oc, od, .func fd, osl⟩ → fd.code = .ref c' → c' = c
section
variable {P : Program} {w : World} {K : PySem.W.Frag} {mg : Str → Option Value} {base : Heap}
theorem Def.okC {x : Str} {st : Stmt} {ps N : List Str} {k : Nat} {sp : Sp} {c : Addr} (D : Def K mg x st ps) (hc : CodeAt K D.f c) (S : FnScope N ps (defScope st)) (len : ∀ vs H Q E, sp vs H Q E → vs.length = ps.length)
    (hbody : ∀ (A : Around) (outer : List Env) (s : Shared) (H : Hp) (vs : List V) (Q : VK) (E : XK), Room k (A.deeper (PyProof.Rows.envOfC x (defScope st) s.heap.objs.size D.f (.ref c))) → sp vs H Q E →
      ∃ t, PSs (cxOf CX0 P w K mg base N x (defScope st) D.f (.ref c) A outer s H E).nox (defBody st) t ∧ t { nx := fun _ H' => Q .non H', rt := Q } (start N vs) H) : FnOk P w K mg base CX0 (k + 1) D.f D.fd ps sp := by
  obtain ⟨f, fd, F, g, b⟩ := D
  obtain ⟨oc, od, dV, kV, doc, pm, an, cdv, ct, osl, rfl, lk, hcd, _, _⟩ := F.ex
  obtain ⟨c', rfl⟩ := He.codeIn_ref hcd
  obtain rfl : c' = c := hc _ _ _ _ _ lk rfl
  exact fn_of lk hcd S len fun A outer s H vs Q E hr hsp => by
    obtain ⟨t, h, q⟩ := hbody A outer s H vs Q E hr hsp
    exact ⟨t, h.nox, q⟩
/-- told(lambda: body) -/
theorem pe_told {X : Cx} {T : List (Addr × Str)} {c P : Addr} {k : Nat} {params : Arguments} {body : Expr} {scope : Scope} {t : XK → TE} {p lpos pos : Pos} (F : ErrF X.K X.mg) (D : Def X.K X.mg "_law_told" s_L_told ["_law_work"]) (hg : Gl X "_law_told")
    (TB : TabB X.base X.mg c P) (hcode : X.env.code = .ref c) (hmT : (P, X.env.qual ++ "<lambda>") ∈ T) (hu : ∀ p ∈ T, p.1 = P → p.2 = X.env.qual ++ "<lambda>") (hr : Room (k + 2) X.A) (L : LamS X.env.scope scope) (hdef : defaultsOf params X.env = ([], []))
    (hbind : ∀ (q : Str) (cl : List (Str × Addr)) (pm cv ctv : Value), bindArgs (PySem.W.kla_fn "<lambda>" q params body scope cl pm cv ctv) ⟨[], []⟩ = pure [])
    (hbody : ∀ (A : Around) (outer : List Env) (s : Shared) (H : Hp) (E : XK) (f c' : Addr), Room k (A.deeper (lamEnv X scope s.heap.objs.size f c')) → PE (lamCx X A outer s H E scope f c') body (t E)) :
    PE X (.Call (.Name "_law_told" p) [.Lambda params body scope lpos] [] pos) (tLam T (TTd F) t) := by
  obtain ⟨f, fd, FD, g, b⟩ := D
  obtain ⟨oc, od, dV, kV, doc, pm, an, cdv, ct, osl, rfl, lk, hcd, _, _⟩ := FD.ex
  exact pe_lamcall hg g FD.kp lk hcd b sc_L_told rfl (Or.inl rfl) (told_gives F) TB hcode hmT hu hr L hdef hbind hbody
end
theorem lam_passes {X : Cx} {A : Around} {outer : List Env} {s : Shared} {H : Hp} {E : XK} {scope : Scope} {f c' : Addr} : Passes (L2.CX X.prog X.w) (lamCx X A outer s H E scope f c') E := L2.passes_call (L2.takes_of (X := lamCx X A outer s H E scope f c') rfl rfl rfl rfl) (fun _ _ _ _ h => h)
theorem pcall_lam {X : Cx} {A : Around} {outer : List Env} {s : Shared} {H : Hp} {E : XK} {scope : Scope} {f c' : Addr} {x : Str} {st : Stmt} {ps : List Str} {k : Nat} {sp : Sp} {e : Expr} {es : List Expr} {t : TA} {p pos : Pos} (D : Def X.K X.mg x st ps) (G : FnOk X.prog X.w X.K X.mg X.base (L2.CX X.prog X.w) k D.f D.fd ps sp)
    (hr : Room k (A.deeper (lamEnv X scope s.heap.objs.size f c'))) (ha : PA (lamCx X A outer s H E scope f c') (e :: es) t) (hg : scope.names.lookup x = some .globalImplicit) (hdb : (x == ("__debug__" : Str)) = false)
    (he : starEach (e :: es) (lamEnv X scope s.heap.objs.size f c') = (false, eval e (lamEnv X scope s.heap.objs.size f c')) :: starEach es (lamEnv X scope s.heap.objs.size f c')) (hpl : (backTo pos (starEach es (lamEnv X scope s.heap.objs.size f c'))).any (·.1) = false) :
    PE (lamCx X A outer s H E scope f c') (.Call (.Name x p) (e :: es) [] pos) (tCall sp [] E t) := pcallX (X := lamCx X A outer s H E scope f c') (E := E) D G hr (lam_passes (X := X) (A := A) (outer := outer) (s := s) (H := H) (E := E) (scope := scope) (f := f) (c' := c')) ha hg hdb he hpl
theorem pv_lam {X : Cx} {A : Around} {outer : List Env} {s : Shared} {H : Hp} {E : XK} {scope : Scope} {f c' : Addr} {x : Str} {i : Nat} {p : Pos} (hN : X.N[i]? = some x) (hv : scope.names.lookup x = some .free) (hd : (x == ("__debug__" : Str)) = false) (hcd : (x == ("__classdict__" : Str)) = false) : PE (lamCx X A outer s H E scope f c') (.Name x p) (tVar i) := pe_var (X := lamCx X A outer s H E scope f c') hN (.inr (.inr hv)) hd hcd
theorem tabs_keep {T : List (Addr × Str)} {H H' : Hp} {b l : Addr} (t : Tabs T H) (B : Box H b l) (k : Keep [b, l] H H') : Tabs T H' := fun p hp => by
  obtain ⟨_, ⟨n, e1⟩, ns, e2⟩ := B
  obtain ⟨ps, h1, h2, h3⟩ := t p hp
  have go : ∀ {a : Addr} {o : HO}, H a = some o → (∀ xs, o ≠ .lst xs) → H' a = some o := fun {a o} ha hn => k a o ha fun hm => by
    rcases List.mem_cons.mp hm with rfl | hm
    · rw [e1] at ha
      exact hn _ (Option.some.inj ha).symm
    · rw [List.mem_singleton.mp hm, e2] at ha
      exact hn _ (Option.some.inj ha).symm
  refine ⟨ps, go h1 (fun xs z => nomatch z), h2, fun pos cv hc => ?_⟩
  obtain ⟨c, e, h⟩ := h3 pos cv hc
  exact ⟨c, e, go h fun xs z => by unfold CodeO at z; cases z⟩
theorem box_ext {H H' : Hp} {b l : Addr} (B : Box H b l) (e : ExtN H H') : Box H' b l := by
  obtain ⟨ne, ⟨n, e1⟩, ns, e2⟩ := B
  exact ⟨ne, ⟨n, e _ _ e1 fun ps z => nomatch z⟩, ns, e _ _ e2 fun ps z => nomatch z⟩
end MS
end
section
set_option maxRecDepth 100000
set_option maxHeartbeats 4000000
namespace MS
open PySem L2
open LamX
/-! ### objects that stay just as they are -/
/-- the object at a is o -/
def PinO (a : Addr) (o : Obj) : HO := .ext fun h => h.get? a = some o
/-- these addresses are kept as they are -/
def pinL (cs : List Addr) (π : Addr → Obj) (H : Hp) : Hp := fun b => if b ∈ cs then some (PinO b (π b)) else H b
def unL (cs : List Addr) (H : Hp) : Hp := fun b => if b ∈ cs then none else H b
section
variable {cs : List Addr} {π : Addr → Obj} {H H' : Hp} {b : Addr}
theorem pin_in (h : b ∈ cs) : pinL cs π H b = some (PinO b (π b)) := if_pos h
theorem pin_out (h : b ∉ cs) : pinL cs π H b = H b := if_neg h
theorem un_in (h : b ∈ cs) : unL cs H b = none := if_pos h
theorem un_out (h : b ∉ cs) : unL cs H b = H b := if_neg h
end
def Pinned (cs : List Addr) (π : Addr → Obj) (H : Hp) : Prop := ∀ b ∈ cs, H b = some (PinO b (π b))
def Bare (cs : List Addr) (π : Addr → Obj) (H : Hp) (h : Heap) : Prop := ∀ b ∈ cs, H b = none ∧ h.get? b = some (π b)
section
variable {P : Program} {w : World} {cs : List Addr} {π : Addr → Obj} {H H' : Hp} {h h' B : Heap} {fs : List Addr}
theorem Bare.out {b : Addr} {o : HO} (n : Bare cs π H h) (e : H b = some o) : b ∉ cs := fun hm => by
  rw [(n b hm).1] at e
  cases e
theorem HOk.pin (ok : HOk P w H h) (n : Bare cs π H h) : HOk P w (pinL cs π H) h := fun b u e => by
  by_cases hb : b ∈ cs
  · rw [pin_in hb] at e
    cases e
    have g := (n b hb).2
    exact ⟨g, ⟨_, g⟩, fun h1 h2 p st => st _ p⟩
  · rw [pin_out hb] at e
    exact (ok b u e).stay (fun c v _ q => q) (fun c q => by rw [pin_out (n.out q)]; exact q) fun c xs q => by rw [pin_out (n.out q)]; exact q
theorem Pinned.get (p : Pinned cs π H) (ok : HOk P w H h) {b : Addr} (hb : b ∈ cs) : h.get? b = some (π b) := (ok b _ (p b hb)).1
theorem Pinned.out {b : Addr} {o : HO} (p : Pinned cs π H) (e : H b = some o) (n : o ≠ PinO b (π b)) : b ∉ cs := fun hm => by
  rw [p b hm] at e
  exact n (Option.some.inj e).symm
theorem HOk.unpin (ok : HOk P w H h) (p : Pinned cs π H) : HOk P w (unL cs H) h := fun b u e => by
  by_cases hb : b ∈ cs
  · rw [un_in hb] at e
    cases e
  · rw [un_out hb] at e
    exact (ok b u e).stay (fun c v _ q => q) (fun c q => by rw [un_out (p.out q fun z => nomatch z)]; exact q) fun c xs q => by rw [un_out (p.out q fun z => nomatch z)]; exact q
theorem Pinned.bare (p : Pinned cs π H) (ok : HOk P w H h) : Bare cs π (unL cs H) h := fun b hb => ⟨un_in hb, p.get ok hb⟩
theorem un_unpin (u : L2.Un fs [] (pinL cs π H) H' h h') (n : Bare cs π H h) (p : Pinned cs π H') (ok : HOk P w H' h') : L2.Un fs [] H (unL cs H') h h' := by
  have out : ∀ {b : Addr} {o : HO}, H b = some o → pinL cs π H b = some o ∧ b ∉ cs := fun {b o} e => ⟨by rw [pin_out (n.out e)]; exact e, n.out e⟩
  refine ⟨fun b o q e hb hx => ?_, fun b o q e hb hx => ?_, fun b o q e hx => ?_, u.there, fun b xs q => ?_, fun b o x q => ?_, fun b ps q => ?_⟩
  · by_cases hc : b ∈ cs
    · rw [p.get ok hc, ← q, (n b hc).2]
    · exact u.keep b o q (by rw [pin_out hc]; exact e) hb hx
  · by_cases hc : b ∈ cs
    · refine ⟨o.slots, ?_⟩
      rw [p.get ok hc]
      rw [(n b hc).2] at q
      cases q
      rfl
    · exact u.slot b o q (by rw [pin_out hc]; exact e) hb hx
  · by_cases hc : b ∈ cs
    · exact un_in hc
    · rw [un_out hc]
      exact u.free b o q (by rw [pin_out hc]; exact e) hx
  · rw [un_out (out q).2]
    exact u.tups b xs (out q).1
  · rw [un_out (out q).2]
    exact u.frzs b o x (out q).1
  · rw [un_out (out q).2]
    exact u.tbls b ps (out q).1
theorem un_repin (u : L2.Un fs [] (unL cs H) H' h h') (p : Pinned cs π H) (ok : HOk P w H h) (hf : ∀ b ∈ cs, b ∉ fs) : L2.Un fs [] H (pinL cs π H') h h' ∧ Bare cs π H' h' := by
  have g : Bare cs π H' h' := fun b hb => ⟨u.free b _ (p.get ok hb) (un_in hb) (by simp), u.keep b _ (p.get ok hb) (un_in hb) (hf b hb) (by simp)⟩
  have nin : ∀ {b : Addr}, H b = none → b ∉ cs := fun {b} e hm => by
    rw [p b hm] at e
    cases e
  refine ⟨⟨fun b o q e hb hx => u.keep b o q (by rw [un_out (nin e)]; exact e) hb hx, fun b o q e hb hx => u.slot b o q (by rw [un_out (nin e)]; exact e) hb hx, fun b o q e hx => ?_, u.there, fun b xs q => ?_, fun b o x q => ?_, fun b ps q => ?_⟩, g⟩
  · rw [pin_out (nin e)]
    exact u.free b o q (by rw [un_out (nin e)]; exact e) hx
  · have o1 : b ∉ cs := p.out q fun z => nomatch z
    rw [pin_out o1]
    exact u.tups b xs (by rw [un_out o1]; exact q)
  · have o1 : b ∉ cs := p.out q fun z => nomatch z
    rw [pin_out o1]
    exact u.frzs b o x (by rw [un_out o1]; exact q)
  · have o1 : b ∉ cs := p.out q fun z => nomatch z
    rw [pin_out o1]
    exact u.tbls b ps (by rw [un_out o1]; exact q)
theorem ub_repin (u : L2.UB fs (unL cs H) H' h B h') (p : Pinned cs π H) (ok : HOk P w H h) (hf : ∀ b ∈ cs, b ∉ fs) : L2.UB fs H (pinL cs π H') h B h' ∧ Bare cs π H' B := by
  have g : Bare cs π H' B := fun b hb => ⟨u.free b _ (p.get ok hb) (un_in hb), u.keep b _ (p.get ok hb) (un_in hb) (hf b hb)⟩
  have nin : ∀ {b : Addr}, H b = none → b ∉ cs := fun {b} e hm => by
    rw [p b hm] at e
    cases e
  refine ⟨⟨fun b o q e hb => u.keep b o q (by rw [un_out (nin e)]; exact e) hb, u.slot, fun b o q e => ?_, u.there, fun b xs q => ?_, fun b o x q => ?_, fun b ps q => ?_⟩, g⟩
  · rw [pin_out (nin e)]
    exact u.free b o q (by rw [un_out (nin e)]; exact e)
  · have o1 : b ∉ cs := p.out q fun z => nomatch z
    rw [pin_out o1]
    exact u.tups b xs (by rw [un_out o1]; exact q)
  · have o1 : b ∉ cs := p.out q fun z => nomatch z
    rw [pin_out o1]
    exact u.frzs b o x (by rw [un_out o1]; exact q)
  · have o1 : b ∉ cs := p.out q fun z => nomatch z
    rw [pin_out o1]
    exact u.tbls b ps (by rw [un_out o1]; exact q)
end
section
variable {P : Program} {w : World} {K : PySem.W.Frag} {mg : Str → Option Value} {base : Heap} {A : Around} {outer : List Env} {cs : List Addr} {π : Addr → Obj} {H : Hp} {s : Shared} {Q : VK} {E : XK}
theorem Env0.pin (e0 : Env0 P w K mg base A outer s H) (n : Bare cs π H s.heap) (hf : ∀ b ∈ cs, b ∉ frs outer) (hb : ∀ b ∈ cs, base.get? b = none) : Env0 P w K mg base A outer s (pinL cs π H) :=
  ⟨e0.frames, e0.mod, fun b o e => ⟨(e0.bs b o e).1, by rw [pin_out fun z => by rw [hb b z] at e; cases e]; exact (e0.bs b o e).2⟩, e0.bsz, e0.funs, fun b hm => by rw [pin_out fun z => hf b z hm]; exact e0.frf b hm, HOk.pin e0.hok n, e0.bare⟩
theorem Env0.unpin (e0 : Env0 P w K mg base A outer s H) (p : Pinned cs π H) : Env0 P w K mg base A outer s (unL cs H) :=
  ⟨e0.frames, e0.mod, fun b o e => ⟨(e0.bs b o e).1, by by_cases hc : b ∈ cs; exact un_in hc; rw [un_out hc]; exact (e0.bs b o e).2⟩, e0.bsz, e0.funs, fun b hm => by by_cases hc : b ∈ cs; exact un_in hc; rw [un_out hc]; exact e0.frf b hm, HOk.unpin e0.hok p, e0.bare⟩
/-- called with the pins, from the state without them -/
theorem cr_unpin (n : Bare cs π H s.heap) {r : Result} {s' : Shared} (h : CR C8.CX0 outer P w (pinL cs π H) s (fun v H' => Pinned cs π H' ∧ Q v (unL cs H')) E r s') : CR C8.CX0 outer P w H s Q E r s' := by
  cases r with
  | error e => exact (show False from h).elim
  | ok fl =>
    cases fl with
    | ret u =>
      obtain ⟨v, H', os, bare, un, ok, rv, p, q⟩ := h
      exact ⟨v, unL cs H', os, bare, un_unpin un n p ok, HOk.unpin ok p, rv, q⟩
    | next => exact h
    | brk => exact h
    | cont => exact h
/-- run without the pins, which are put back behind -/
theorem cr_repin (p : Pinned cs π H) (ok : HOk P w H s.heap) (hf : ∀ b ∈ cs, b ∉ frs outer) {r : Result} {s' : Shared} (h : CR (L2.CX P w) outer P w (unL cs H) s (fun v H' => (∀ b ∈ cs, H' b = none) → Q v (pinL cs π H')) (fun c d H' => (∀ b ∈ cs, H' b = none) → E c d (pinL cs π H')) r s') : CR (L2.CX P w) outer P w H s Q E r s' := by
  cases r with
  | error e =>
    obtain ⟨a, B, H', cls, d, ea, fl, okB, ub, na, os, bare, q⟩ := h
    obtain ⟨u2, g⟩ := ub_repin ub p ok hf
    refine ⟨a, B, pinL cs π H', cls, d, ea, fl, HOk.pin okB g, u2, ?_, os, bare, q fun b hb => (g b hb).1⟩
    have hB : B.get? a = none := fl.2.1
    rw [pin_out fun z => by rw [(g a z).2] at hB; cases hB]
    exact na
  | ok fl =>
    cases fl with
    | ret u =>
      obtain ⟨v, H', os, bare, un, ok', rv, q⟩ := h
      obtain ⟨u2, g⟩ := un_repin un p ok hf
      exact ⟨v, pinL cs π H', os, bare, u2, HOk.pin ok' g, rv, q fun b hb => (g b hb).1⟩
    | next => exact h
    | brk => exact h
    | cont => exact h
end
end MS
end
section
set_option maxRecDepth 100000
set_option maxHeartbeats 4000000
namespace MS
open PySem L2
open LamX
/-! ### a lambda kept as a value -/
abbrev lamObj (q : Str) (params : Arguments) (body : Expr) (scope : Scope) (cl : List (Str × Addr)) (dV doc pm : Value) (c' : Addr) (ctv : Value) : Obj := PySem.W.kdv_obj "<lambda>" q params (.expr body) scope cl dV doc pm c' ctv
/-- what the defaults' value is -/
def Dflt (H : Hp) : List V → Value → Prop
  | [], dV => dV = .none
  | d :: ds, dV => ∃ t, dV = .ref t ∧ H t = some (.tup (d :: ds))
/-- a lambda's function object stands at f -/
def LamAt (q : Str) (params : Arguments) (body : Expr) (scope : Scope) (cl : List (Str × Addr)) (ds : List V) (H : Hp) (f : Addr) : Prop :=
  ∃ (dV doc pm : Value) (c' : Addr) (ctv : Value), H f = some (PinO f (lamObj q params body scope cl dV doc pm c' ctv)) ∧ H c' = some (CodeO c' q) ∧ Dflt H ds dV
theorem PinO.ntbl {a : Addr} {o : Obj} (ps : Array Value) : PinO a o ≠ .tbl ps := fun z => nomatch z
theorem PinO.ntup {a : Addr} {o : Obj} (xs : List V) : PinO a o ≠ .tup xs := fun z => nomatch z
theorem Dflt.keep {H H' : Hp} {ds : List V} {dV : Value} (h : Dflt H ds dV) (e : ExtN H H') : Dflt H' ds dV := by
  cases ds with
  | nil => exact h
  | cons d ds =>
    obtain ⟨t, h1, h2⟩ := h
    exact ⟨t, h1, e _ _ h2 fun ps z => nomatch z⟩
section
variable {q : Str} {params : Arguments} {body : Expr} {scope : Scope} {cl : List (Str × Addr)} {ds : List V} {H H' : Hp} {f : Addr}
theorem LamAt.keep (h : LamAt q params body scope cl ds H f) (e : ExtN H H') : LamAt q params body scope cl ds H' f := by
  obtain ⟨dV, doc, pm, c', ctv, h1, h2, h3⟩ := h
  exact ⟨dV, doc, pm, c', ctv, e _ _ h1 PinO.ntbl, e _ _ h2 codeO_ne, h3.keep e⟩
end
section
variable {X : Cx} {pins : List (Addr × Obj)} {σ : L2.St} {H : Hp} {s : Shared}
/-- the function object is made, and tracked -/
theorem lam_tail {T : List (Addr × Str)} {c P : Addr} {params : Arguments} {body : Expr} {scope : Scope} {pos : Pos} {dV : Value} {ds : List V} {E : Value → Shared → Prop} {Q : Value → Shared → Prop} (I : Inv X pins σ H s) (TB : TabB X.base X.mg c P) (hcode : X.env.code = .ref c)
    (hm : (P, X.env.qual ++ "<lambda>") ∈ T) (hu : ∀ p ∈ T, p.1 = P → p.2 = X.env.qual ++ "<lambda>") (hT : Tabs T H) (hfree : ∀ y ∈ scope.names, y.2 = .free → ∃ c, X.env.cells.lookup y.1 = some c) (hd : Dflt H ds dV)
    (h : ∀ (f : Addr) (H1 : Hp) (s' : Shared), Inv X pins σ H1 s' → ExtN H H1 → Tabs T H1 → LamAt (X.env.qual ++ "<lambda>") params body scope (cloFrom X.env.cells scope.names []) ds H1 f → Q (.ref f) s') :
    wpAny (model X.prog X.w) X.A (makeTail "<lambda>" (X.env.qual ++ "<lambda>") params (.expr body) scope X.env dV .none none pos pos.line) Q E s := by
  obtain ⟨ps, hP, ht, ha⟩ := hT _ hm
  have bP : s.heap.BuiltinsAt X.mg P := TB.bm.keeps I.bk
  have hP' : s.heap.get? P = some { cls := .none, data := .fields ps } := I.hok P _ hP
  have put : ∀ {H1 : Hp} {h1 : Heap} {tk : Nat} {ob : Obj}, ob.isFreed = false → Inv X pins σ H1 { s with heap := h1, toks := tk } → Inv X pins σ (upd H1 h1.objs.size (PinO h1.objs.size ob)) { s with heap := h1.push ob, toks := tk } := fun {H1 h1 tk ob} fr J => by
    have g : (h1.push ob).get? h1.objs.size = some ob := Heap.get?_push_size _ fr
    exact J.laid (t' := tk) (fun b u e => Heap.get?_push_of_some _ e) (Nat.le_refl _) ⟨g, ⟨_, g⟩, fun h1 h2 p st => st _ p⟩
  cases hc : codeAmong pos ps.toList with
  | none =>
    refine PySem.W.kdv_makeTail (mg := X.mg) (c := c) (P := P) (ps := ps) (closure_ok hfree) I.ok.glob (I.mod.glob.keeps I.bk) hcode (TB.code.keeps I.bk) hP' ht hc TB.gP bP fun c' ctv doc h' tk hx hge hlt hrec htb => ?_
    obtain ⟨c2, oc, vs, t, e2, hoc, hdd, hv⟩ := hrec
    cases e2
    have nC : H c' = none := I.hok.fresh hge
    have I1 := inv_table (t' := tk) (more := #[rawInt pos.line, rawInt pos.col, .ref c']) (h' := h') I hP hx htb hge ⟨oc, vs, t, hoc, hdd, hv⟩
    have hE : ExtN H (upd (upd H P (.tbl (ps ++ #[rawInt pos.line, rawInt pos.col, .ref c']))) c' (CodeO c' (X.env.qual ++ "<lambda>"))) := fun b o e n => by
      rw [upd_ne (ne_of_none e nC), upd_ne (fun z => n ps (Option.some.inj (e.symm.trans (by rw [z]; exact hP))))]
      exact e
    have eL : (ps ++ #[rawInt pos.line, rawInt pos.col, .ref c']).toList = ps.toList ++ [rawInt pos.line, rawInt pos.col, .ref c'] := by simp
    have hT1 : Tabs T (upd (upd H P (.tbl (ps ++ #[rawInt pos.line, rawInt pos.col, .ref c']))) c' (CodeO c' (X.env.qual ++ "<lambda>"))) := fun p hp => by
      by_cases hb : p.1 = P
      · rw [hu p hp hb, hb]
        refine ⟨_, by rw [upd_ne (ne_of_none hP nC), upd_same], by rw [eL]; exact PySem.TriplesOk_snoc _ _ _ _ ht, fun p' cv hcv => ?_⟩
        rw [eL] at hcv
        rcases among_app _ ht hcv with z | z
        · obtain ⟨c0, e1, e2⟩ := ha p' cv z
          exact ⟨c0, e1, hE _ _ e2 codeO_ne⟩
        · exact ⟨c', z, upd_same⟩
      · obtain ⟨ps', a1, a2, a3⟩ := hT p hp
        refine ⟨ps', by rw [upd_ne (ne_of_none a1 nC), upd_ne hb]; exact a1, a2, fun p' cv hcv => ?_⟩
        obtain ⟨c0, e1, e2⟩ := a3 p' cv hcv
        exact ⟨c0, e1, hE _ _ e2 codeO_ne⟩
    have nf := I1.hok.fresh (Nat.le_refl h'.objs.size)
    have eN : ∀ b o, (upd (upd H P (.tbl (ps ++ #[rawInt pos.line, rawInt pos.col, .ref c']))) c' (CodeO c' (X.env.qual ++ "<lambda>"))) b = some o → (upd _ h'.objs.size (PinO h'.objs.size (lamObj (X.env.qual ++ "<lambda>") params body scope (cloFrom X.env.cells scope.names []) dV doc ((X.mg "__name__").getD .none) c' ctv))) b = some o := fun b o e => by rw [upd_ne (ne_of_none e nf)]; exact e
    exact h h'.objs.size _ _ (put rfl I1) (hE.trans (ExtN.of eN)) (hT1.ext eN) ⟨dV, doc, _, c', ctv, upd_same, eN _ _ upd_same, hd.keep (hE.trans (ExtN.of eN))⟩
  | some cv =>
    obtain ⟨c', e, hco⟩ := ha pos cv hc
    subst e
    refine PySem.W.kdv_makeTailHit (mg := X.mg) (c := c) (P := P) (ps := ps) (closure_ok hfree) I.ok.glob (I.mod.glob.keeps I.bk) hcode (TB.code.keeps I.bk) hP' ht hc bP fun ctv doc h' tk hx hsz => ?_
    have I1 : Inv X pins σ H { s with heap := h', toks := tk } := I.kept hx
    have nf := I1.hok.fresh (Nat.le_refl h'.objs.size)
    have eN : ∀ b o, H b = some o → (upd H h'.objs.size (PinO h'.objs.size (lamObj (X.env.qual ++ "<lambda>") params body scope (cloFrom X.env.cells scope.names []) dV doc ((X.mg "__name__").getD .none) c' ctv))) b = some o := fun b o e => by rw [upd_ne (ne_of_none e nf)]; exact e
    exact h h'.objs.size _ _ (put rfl I1) (ExtN.of eN) (hT.ext eN) ⟨dV, doc, _, c', ctv, upd_same, eN _ _ hco, hd.keep (ExtN.of eN)⟩
end
/-- lambda: .. as a value -/
def tLamV (T : List (Addr × Str)) (q : Str) (params : Arguments) (body : Expr) (scope : Scope) (cl : List (Str × Addr)) (ds : List V) : TE := fun _ H Q => Tabs T H ∧ ∀ (f : Addr) (H1 : Hp), ExtN H H1 → Tabs T H1 → LamAt q params body scope cl ds H1 f → Q (.ref f) H1
section
variable {X : Cx} {T : List (Addr × Str)} {c P : Addr} {params : Arguments} {body : Expr} {scope : Scope} {pos : Pos}
theorem pe_lam0 (TB : TabB X.base X.mg c P) (hcode : X.env.code = .ref c) (hm : (P, X.env.qual ++ "<lambda>") ∈ T) (hu : ∀ p ∈ T, p.1 = P → p.2 = X.env.qual ++ "<lambda>") (hfree : ∀ (ok : X.Ok), ∀ y ∈ scope.names, y.2 = .free → ∃ c, X.env.cells.lookup y.1 = some c)
    (hdef : defaultsOf params X.env = ([], [])) : PE X (.Lambda params body scope pos) (tLamV T (X.env.qual ++ "<lambda>") params body scope (cloFrom X.env.cells scope.names []) []) := by
  refine ⟨fun pins s σ H Q I hq => ?_⟩
  obtain ⟨hT, hq⟩ := hq
  refine PySem.W.kla_eval hdef ?_
  rw [PySem.makeFunction_eq]
  simp only [List.zip_nil_right, List.filterMap_nil, List.isEmpty_nil, if_true, pure_bind]
  refine lam_tail I TB hcode hm hu hT (hfree I.ok) (ds := []) rfl fun f H1 s' J e1 T1 hl => ?_
  obtain ⟨h1, g1, d1, t1, o1⟩ := s'
  exact ⟨.ref f, H1, J, rfl, hq f H1 e1 T1 hl⟩
/-- with one default -/
theorem pe_lam1 {d : Expr} {v : V} (TB : TabB X.base X.mg c P) (hcode : X.env.code = .ref c) (hm : (P, X.env.qual ++ "<lambda>") ∈ T) (hu : ∀ p ∈ T, p.1 = P → p.2 = X.env.qual ++ "<lambda>") (hfree : ∀ (ok : X.Ok), ∀ y ∈ scope.names, y.2 = .free → ∃ c, X.env.cells.lookup y.1 = some c)
    (hds : params.defaults = [d]) (hk0 : params.kw_defaults = []) (hd : PE X d (tC v)) : PE X (.Lambda params body scope pos) (tLamV T (X.env.qual ++ "<lambda>") params body scope (cloFrom X.env.cells scope.names []) [v]) := by
  refine ⟨fun pins s σ H Q I hq => ?_⟩
  obtain ⟨hT, hq⟩ := hq
  refine PySem.W.kdv_lam (by rw [hds]; rfl) hk0 ?_
  rw [hds]
  refine PySem.W.kdv_all1 (thn (hd.run pins s σ H (fun u H1 => u = v ∧ H1 = H) I ⟨rfl, rfl⟩) fun u s1 ⟨v1, H1, I1, r1, q1⟩ => ?_)
  obtain ⟨rfl, rfl⟩ := q1
  refine PySem.W.kdv_all0 ?_
  rw [PySem.makeFunction_eq]
  simp only [List.zip_nil_right, List.filterMap_nil, List.isEmpty_nil, if_true, pure_bind]
  refine wpAny_bind ?_
  refine wpAny_newTextTuple ?_
  have nt : H1 s1.heap.objs.size = none := I1.hok.fresh (Nat.le_refl _)
  have J : Inv X pins σ (upd H1 s1.heap.objs.size (.tup [v1])) { s1 with heap := s1.heap.push { cls := .type "tuple", data := .seq [u].toArray } } :=
    I1.laid (t' := s1.toks) (fun b w e => Heap.get?_push_of_some _ e) (Nat.le_refl _) ⟨by show 1 ≤ sizeLine; decide, [u], .cons r1 .nil, _, Heap.get?_push_size _ rfl, rfl, _, rfl⟩
  have eN : ∀ b o, H1 b = some o → (upd H1 s1.heap.objs.size (.tup [v1])) b = some o := fun b o e => by rw [upd_ne (ne_of_none e nt)]; exact e
  refine lam_tail J TB hcode hm hu (hT.ext eN) (hfree I.ok) (ds := [v1]) ⟨_, rfl, upd_same⟩ fun f H2 s' J2 e2 T2 hl => ?_
  exact ⟨.ref f, H2, J2, rfl, hq f H2 ((ExtN.of eN).trans e2) T2 hl⟩
end
end MS
end
section
set_option maxRecDepth 100000
set_option maxHeartbeats 4000000
namespace MS
open PySem L2
open LamX
/-! ### a kept lambda runs -/
/-- a lambda's names: its parameters, captured ones, globals -/
structure LamP (N : List Str) (sc scope : Scope) (ps : List Str) : Prop where
  kind : scope.kind = .function
  co : scope.isCoroutine = false
  gen : scope.isGenerator = false
  nocell : ∀ y ∈ scope.names, y.2 ≠ .cell
  loc : ∀ y ∈ scope.names, y.2 = .local → y.1 ∉ N
  free : ∀ y ∈ scope.names, y.2 = .free → sc.names.lookup y.1 = some .cell ∨ sc.names.lookup y.1 = some .free
  par : ∀ p ∈ ps, scope.names.lookup p = some .local
def lamPB (N : List Str) (sc scope : Scope) (ps : List Str) : Bool :=
  decide (scope.kind = .function) && !scope.isCoroutine && !scope.isGenerator && (scope.names.all fun y => !decide (y.2 = .cell) && (!decide (y.2 = .local) || !decide (y.1 ∈ N)) && (!decide (y.2 = .free) || decide (sc.names.lookup y.1 = some .cell) || decide (sc.names.lookup y.1 = some .free))) && ps.all fun p => decide (scope.names.lookup p = some .local)
theorem lamP_by {N : List Str} {sc scope : Scope} {ps : List Str} (h : lamPB N sc scope ps = true) : LamP N sc scope ps := by
  unfold lamPB at h
  simp only [Bool.and_eq_true, Bool.or_eq_true, Bool.not_eq_true', decide_eq_true_eq, decide_eq_false_iff_not, List.all_eq_true] at h
  obtain ⟨⟨⟨⟨h1, h2⟩, h3⟩, h4⟩, h5⟩ := h
  refine ⟨h1, h2, h3, fun y hy => (h4 y hy).1.1, fun y hy e => ?_, fun y hy e => ?_, h5⟩
  · rcases (h4 y hy).1.2 with z | z
    · exact absurd e z
    · exact z
  · rcases (h4 y hy).2 with (z | z) | z
    · exact absurd e z
    · exact .inl z
    · exact .inr z
/-- what the maker's cells hold -/
structure CellsAre (X : Cx) (σ : L2.St) (cs : List Addr) (π : Addr → Obj) : Prop where
  ok : X.Ok
  len : σ.length = X.N.length
  all : ∀ x c, X.env.cells.lookup x = some c → c ∈ cs ∧ ∃ v, (π c).data = .cell v
  val : ∀ (i : Nat) (x : Str) (v : V), X.N[i]? = some x → σ[i]? = some (some v) → (X.env.scope.names.lookup x = some .cell ∨ X.env.scope.names.lookup x = some .free) → ∃ c u, X.env.cells.lookup x = some c ∧ RelV v u ∧ (π c).data = .cell (some u)
section
variable {X : Cx} {σ : L2.St} {HZ : Hp} {s1 : Shared} {cs : List Addr} {π : Addr → Obj}
theorem LamP.has {N ps : List Str} {scope : Scope} (L : LamP N X.env.scope scope ps) (ok : X.Ok) : ∀ y ∈ scope.names, y.2 = .free → ∃ c, X.env.cells.lookup y.1 = some c := fun y hy e => by
  rcases L.free y hy e with k | k
  · exact ok.has _ (.inl k)
  · exact ok.has _ (.inr k)
theorem lam_start3 {A : Around} {outer : List Env} {E : XK} {scope : Scope} {ps : List Str} {f c' : Addr} {h₁ : Heap} {tk : Nat} {m : Str → Option Value} (C : CellsAre X σ cs π) (L : LamP X.N X.env.scope scope ps) (e0 : Env0 X.prog X.w X.K X.mg X.base A outer s1 HZ) (hd : A.handled = none)
    (n : Bare cs π HZ s1.heap) (hns : h₁.Ns s1.heap.objs.size m) (kp : ∀ b o, s1.heap.get? b = some o → h₁.get? b = some o) :
    Inv (lamCx X A outer s1 HZ E scope f c') [] σ HZ { s1 with heap := h₁, toks := tk } := by
  have hfree := L.has C.ok
  have cm : ∀ {y c}, (cloFrom X.env.cells scope.names []).lookup y = some c → X.env.cells.lookup y = some c := fun {y c} e => by
    rcases cloFrom_mem (PySem.mem_of_lookup e) with hm | ⟨h1, h2⟩
    · cases hm
    · obtain ⟨c1, hc⟩ := hfree _ h1 rfl
      have hc : X.env.cells.lookup y = some c1 := hc
      have e2 : c = c1 := by
        rw [h2, hc] <;> rfl
      rw [e2]
      exact hc
  have look : ∀ {y}, scope.names.lookup y = some .free → ∃ c, (cloFrom X.env.cells scope.names []).lookup y = some c := fun {y} hl => by
    have hy : (y, NameKind.free) ∈ scope.names := PySem.mem_of_lookup hl
    exact mem_lookup (cloFrom_has (cells := X.env.cells) (acc := []) hy)
  have cell1 : ∀ {y : Str} {c : Addr}, X.env.cells.lookup y = some c → HZ c = none ∧ h₁.get? c = some (π c) := fun {y c} e => ⟨(n c (C.all y c e).1).1, kp _ _ (n c (C.all y c e).1).2⟩
  have noA : ∀ b : Addr, b ∉ (lamCx X A outer s1 HZ E scope f c').ex := fun b z => absurd (show b ∈ ([] : List Addr) from z) (by simp)
  refine ⟨⟨e0.mod, L.kind, rfl, rfl, Nat.le_refl _, fun y z c e1 e2 => C.ok.inj y z c (cm e1) (cm e2), fun y hy => ?_, fun y c z _ => ?_, fun _ => hd, Around.frames_deeper e0.frames, .inr ⟨rfl, rfl⟩, fun b z => absurd z (noA b), e0.bs, e0.bsz, fun b _ _ => noA b,
      fun b z => absurd z (noA b), e0.funs, e0.frf⟩,
    rfl, e0.bare, Un.kept kp, ⟨_, hns, fun i y v e1 e2 e3 => ?_⟩, fun y c e => ?_, e0.hok.fresh (Nat.le_refl _), fun y c e => ?_, fun q hq => absurd (show q ∈ ([] : List (Addr × Obj)) ++ [] from hq) (by simp), e0.hok.kept kp, C.len⟩
  · have hy : scope.names.lookup y = some .cell ∨ scope.names.lookup y = some .free := hy
    rcases hy with hy | hy
    · exact absurd rfl (L.nocell _ (PySem.mem_of_lookup hy))
    · exact look hy
  · have z : false = true := z
    cases z
  · have e3 : Vis scope y := e3
    have e1 : X.N[i]? = some y := e1
    rcases e3 with k | k | k
    · exact absurd (List.mem_of_getElem? e1) (L.loc _ (PySem.mem_of_lookup k) rfl)
    · exact absurd rfl (L.nocell _ (PySem.mem_of_lookup k))
    · obtain ⟨c, u, h1, h2, h3⟩ := C.val i y v e1 e2 (L.free _ (PySem.mem_of_lookup k) rfl)
      obtain ⟨c2, h4⟩ := look k
      have c1 := cm h4
      rw [h1] at c1
      cases c1
      exact ⟨u, h2, .inr ⟨.inr k, c, h4, _, (cell1 h1).2, h3⟩⟩
  · obtain ⟨v, hv⟩ := (C.all y c (cm e)).2
    exact ⟨v, _, (cell1 (cm e)).2, hv⟩
  · exact (cell1 (cm e)).1
/-- how it binds nothing, or its one default -/
def BindsD (params : Arguments) (ps : List Str) : List V → Prop
  | [] => ps = [] ∧ ∀ (q : Str) (body : Expr) (scope : Scope) (cl : List (Str × Addr)) (doc pm cv ctv : Value), bindArgs (PySem.W.kdv_fn "<lambda>" q params (.expr body) scope cl .none doc pm cv ctv) ⟨[], []⟩ = pure []
  | [_] => ∃ p, ps = [p] ∧ ∀ (q : Str) (body : Expr) (scope : Scope) (cl : List (Str × Addr)) (doc pm cv ctv : Value) (t : Addr), ∃ k : Option (Array Value) → Sem (List (Str × Value)), bindArgs (PySem.W.kdv_fn "<lambda>" q params (.expr body) scope cl (.ref t) doc pm cv ctv) ⟨[], []⟩ = seqItems? (.ref t) >>= k ∧ ∀ u, k (some #[u]) = pure [(p, u)]
  | _ => False
/-- f() with the maker's cells as they were -/
theorem lam_run {A : Around} {outer : List Env} {s : Shared} {H : Hp} {Q : VK} {E : XK} {params : Arguments} {body : Expr} {scope : Scope} {ps : List Str} {ds : List V} {f : Addr} {k : Nat} {t : XK → TE} (C : CellsAre X σ cs π) (L : LamP X.N X.env.scope scope ps) (hb : BindsD params ps ds)
    (hbody : ∀ (A : Around) (outer : List Env) (s : Shared) (H : Hp) (E : XK) (f c' : Addr), Room k (A.deeper (lamEnv X scope s.heap.objs.size f c')) → PE (lamCx X A outer s H E scope f c') body (t E))
    (hr : Room (k + 1) A) (e0 : Env0 X.prog X.w X.K X.mg X.base A outer s H) (p : Pinned cs π H) (hf : LamAt (X.env.qual ++ "<lambda>") params body scope (cloFrom X.env.cells scope.names []) ds H f)
    (h : t (fun c d H' => (∀ b ∈ cs, H' b = none) → E c d (pinL cs π H')) σ (unL cs H) (fun v H' => (∀ b ∈ cs, H' b = none) → Q v (pinL cs π H'))) : codeAny (model X.prog X.w) A (.call (.ref f) ⟨[], []⟩) (CR (L2.CX X.prog X.w) outer X.prog X.w H s Q E) s := by
  obtain ⟨dV, doc, pm, c', ctv, hf, hc, hd⟩ := hf
  have frf : ∀ b ∈ cs, b ∉ frs outer := fun b hb z => by
    have z1 := e0.frf b z
    rw [p b hb] at z1
    cases z1
  refine codeAny_mono ?_ fun r s' hq => cr_repin p e0.hok frf hq
  have e1 := Env0.unpin e0 p
  have of : s.heap.get? f = some (lamObj (X.env.qual ++ "<lambda>") params body scope (cloFrom X.env.cells scope.names []) dV doc pm c' ctv) := (e0.hok f _ hf).1
  obtain ⟨⟨oc, vs, tq, hoc, hdc, hvc⟩, _, _⟩ := e0.hok c' _ hc
  have go : ∀ binds : List (Str × Value), (∀ y ∈ binds, scope.names.lookup y.1 = some .local) → BindsTo s (PySem.W.kdv_fn "<lambda>" (X.env.qual ++ "<lambda>") params (.expr body) scope (cloFrom X.env.cells scope.names []) dV doc pm (.ref c') ctv) ⟨[], []⟩ binds →
      codeAny (model X.prog X.w) A (.call (.ref f) ⟨[], []⟩) (CR (L2.CX X.prog X.w) outer X.prog X.w (unL cs H) s (fun v H' => (∀ b ∈ cs, H' b = none) → Q v (pinL cs π H')) (fun c d H' => (∀ b ∈ cs, H' b = none) → E c d (pinL cs π H'))) s := fun binds hl hbd => by
    refine PySem.W.kla_callFunE hr.depth of rfl L.co L.gen rfl ⟨c', oc, vs, tq, rfl, hoc, hdc, hvc⟩ (hbd _ _ _ _ ?_)
    refine wpAny_newFunctionEnv L.nocell hl (fun h₁ hns hsb => ⟨(e1.mod.nolimit.keeps fun b o e => (e1.bs b o e).1).fresh _ hsb, ?_⟩) L.kind
    show codeAny _ _ (.expr body (lamEnv X scope s.heap.objs.size f c')) _ _
    have kp : ∀ b o, s.heap.get? b = some o → h₁.get? b = some o := fun b o e => hsb.extBut b o (Nat.ne_of_lt (Heap.lt_size e)) (Heap.get?_push_of_some _ e)
    have J := lam_start3 (E := fun c d H' => (∀ b ∈ cs, H' b = none) → E c d (pinL cs π H')) (f := f) (c' := c') (tk := s.toks + binds.length) C L e1 hr.hd (p.bare e0.hok) hns kp
    refine PySem.W.kla_codeExpr (wpAny_mono ((hbody A outer s (unL cs H) _ f c' (hr.deeper _)).run [] _ _ _ _ J h) (fun v s' hq => ?_) fun e s' hq => hq)
    obtain ⟨w', H', J', rv, q⟩ := hq
    exact ⟨w', H', J'.os, J'.bare, J'.base, J'.hok, rv, q⟩
  cases ds with
  | nil =>
    obtain ⟨_, hbd⟩ := hb
    have hd : dV = .none := hd
    subst hd
    exact go [] (fun y hy => absurd hy (by simp)) (BindsTo.of_eq (hbd _ _ _ _ _ _ _ _))
  | cons d ds =>
    cases ds with
    | cons d2 ds => exact hb.elim
    | nil =>
      obtain ⟨pn, hp, hbd⟩ := hb
      obtain ⟨t0, e1, e2⟩ := hd
      subst e1
      obtain ⟨_, its, hv, o, ho, _, n, hdat⟩ := e0.hok t0 _ e2
      cases hv with
      | @cons _ u _ _ r1 rest =>
        cases rest
        obtain ⟨kk, b1, b2⟩ := hbd (X.env.qual ++ "<lambda>") body scope (cloFrom X.env.cells scope.names []) doc pm (.ref c') ctv t0
        refine go [(pn, u)] (fun y hy => ?_) (BindsTo.of_defaults rfl ho hdat b1 (b2 u))
        rw [List.mem_singleton.mp hy]
        exact L.par _ (by rw [hp]; exact List.mem_cons_self)
end
end MS
end
section
set_option maxRecDepth 100000
set_option maxHeartbeats 4000000
namespace MS
open PySem L2
open HeY LamX
/-! ### what is kept is called; a def called with the maker's cells as they are -/
def Runs (P : Program) (w : World) (K : PySem.W.Frag) (mg : Str → Option Value) (base : Heap) (k : Nat) (f : Addr) (H : Hp) (Q : VK) (E : XK) : Prop :=
  ∀ (A : Around) (outer : List Env) (s : Shared), Room k A → Env0 P w K mg base A outer s H → codeAny (model P w) A (.call (.ref f) ⟨[], []⟩) (CR (L2.CX P w) outer P w H s Q E) s
def IsLam (H : Hp) (f : Addr) : Prop := ∃ q params body scope cl ds, LamAt q params body scope cl ds H f
theorem pe_run {Z : Cx} {W : WX} {k i : Nat} {a : Str} {p1 p2 : Pos} {f : Addr} {E : XK} (tk : Takes Z W) (hr : Room k Z.A) (hN : Z.N[i]? = some a) (hv : Vis Z.env.scope a) (hW : ∀ cls d σ' H', E cls d H' → W cls d σ' H') (hd : (a == ("__debug__" : Str)) = false := by decide) (hcd : (a == ("__classdict__" : Str)) = false := by decide) :
    PE Z (.Call (.Name a p1) [] [] p2) (fun σ H Q => σ[i]? = some (some (.ref f)) ∧ IsLam H f ∧ Runs Z.prog Z.w Z.K Z.mg Z.base k f H Q E) := by
  refine ⟨fun pins s σ H Q I h => ?_⟩
  obtain ⟨hs, hl, hrun⟩ := h
  refine wpAny_Call_Name_kw (thn ((pe_var (pos := p1) (i := i) hN hv hd hcd).run pins s σ H (fun v H1 => v = .ref f ∧ H1 = H) I ⟨.ref f, hs, rfl, rfl⟩) fun u s1 ⟨v, H1, I1, r1, q1⟩ => ?_)
  obtain ⟨ev, eH⟩ := q1
  subst ev
  subst eH
  obtain rfl : u = Value.ref f := r1
  obtain ⟨q, params, body, scope, cl, ds, dV, doc, pm, c', ctv, hf, _⟩ := hl
  have of1 : s1.heap.get? f = some (lamObj q params body scope cl dV doc pm c' ctv) := (I1.hok f _ hf).1
  refine PySem.W.callWith_F0 ⟨_, _, _, _, of1⟩ ?_
  have hx : Passes (L2.CX Z.prog Z.w) Z E := passes_call tk hW
  refine wpAny_call (codeAny_mono (hrun Z.A Z.stack s1 hr I1.env0) fun r s' hq => ?_)
  cases r with
  | error e => exact hx pins σ _ s1 e s' I1 hq
  | ok fl =>
    cases fl with
    | ret u => exact I1.after hq
    | next => exact False.elim hq
    | brk => exact False.elim hq
    | cont => exact False.elim hq
section
variable {P : Program} {w : World} {K : PySem.W.Frag} {mg : Str → Option Value} {base : Heap}
/-- told(f) of a kept lambda -/
def spToldR (P : Program) (w : World) {K : PySem.W.Frag} {mg : Str → Option Value} (base : Heap) (k : Nat) (F : ErrF K mg) : Sp := fun vs H Q _ => ∃ f : Addr, vs = [.ref f] ∧ IsLam H f ∧ Runs P w K mg base k f H Q (ToldE F Q)
theorem ok_toldR {k : Nat} (F : ErrF K mg) (D : Def K mg "_law_told" s_L_told ["_law_work"]) : FnOk P w K mg base CX0 (k + 1) D.f D.fd ["_law_work"] (spToldR P w base k F) := by
  refine D.ok sc_L_told (fun vs H Q E h => ?_) (fun cdv A outer s H vs Q E hr h => ?_)
  · obtain ⟨f, rfl, _⟩ := h
    rfl
  obtain ⟨f, rfl, hl, hrun⟩ := h
  obtain ⟨q, params, body, scope, cl, ds, dV, doc, pm, c', ctv, hf, hc, hd⟩ := id hl
  let X0 : Cx := { prog := P, w := w, K := K, mg := mg, base := base, A := A, N := [], s_0 := s, H_0 := H, env := PyProof.Rows.envOfC "_law_told" (defScope s_L_told) s.heap.objs.size D.f cdv, outer := outer, stack := outer, ex := [], fn := fun _ => false, calm := true, pn := [], xe := fun _ _ => False }
  exact told_gives (X := X0) (q := q) (g := D.f) (cdg := cdv) F f c' s H Q (fun E' H' Q' => IsLam H' f ∧ Runs P w K mg base k f H' Q' E')
    (fun W pn xe E' p1 p2 tk hW => ⟨fun pins s' σ H' Q' I h' => (pe_run (Z := (cxOf C8.CX0 X0.prog X0.w X0.K X0.mg X0.base nmTold "_law_told" (defScope s_L_told) D.f cdv X0.A X0.stack s H C8.E0).tr pn xe) (k := k) (i := 0) (f := f) (E := E') tk hr rfl (.inl rfl) hW).run pins s' σ H' Q' I ⟨h'.1, h'.2.2.1, h'.2.2.2⟩⟩) hc ⟨hl, hrun⟩
end
section
variable {X : Cx}
/-- the maker's cells -/
def cellsOf (X : Cx) : List Addr := X.env.cells.filterMap fun p => X.env.cells.lookup p.1
/-- f(..) while the maker's cells stay as they are -/
def tCallP (X : Cx) (sp : Sp) (dvs : List V) (t : TA) : TE := fun σ H Q => t σ H fun vs H1 => ∀ π : Addr → Obj, CellsAre X σ (cellsOf X) π → (∀ b ∈ cellsOf X, H1 b = none) → sp (vs ++ dvs) (pinL (cellsOf X) π H1) (fun v H2 => Pinned (cellsOf X) π H2 ∧ Q v (unL (cellsOf X) H2)) C8.E0
theorem pe_callP {k : Nat} {f : Addr} {fd : FuncData} {ps : List Str} {sp : Sp} {dvs : List V} {ds : List Value} {x : Str} {p pos : Pos} {e : Expr} {es : List Expr} {t : TA} (F : FnOk X.prog X.w X.K X.mg X.base C8.CX0 k f fd ps sp) (hr : Room k X.A) (hg : Gl X x) (hm : X.mg x = some (.ref f)) (hk : PySem.W.keepIn X.K (.ref f) = true) (hb : Binds X.K fd ps ds) (hd : Vals dvs ds)
    (ha : PA X (e :: es) t) (hfn : ∀ y, X.fn y = true) (hst : X.stack = X.env :: X.outer ∧ X.env.frame = some X.env.locals) (hdb : (x == ("__debug__" : Str)) = false := by decide) (he : starEach (e :: es) X.env = (false, eval e X.env) :: starEach es X.env := by rfl) (hpl : (backTo pos (starEach es X.env)).any (·.1) = false := by rfl) :
    PE X (.Call (.Name x p) (e :: es) [] pos) (tCallP X sp dvs t) := by
  refine ⟨fun pins s σ H Q I h => ?_⟩
  refine wpAny_Call_Name_kw (ld_glob I hg hm ?_ hdb)
  refine PySem.W.callWith_K (h₀ := X.base) I.ok.mod.kin hk (thn (ha.run pos pins s σ H _ I h) fun us s1 ⟨vs, H1, I1, r, q⟩ => ⟨I1.kIn, ?_⟩) he hpl
  have look : ∀ {c : Addr}, c ∈ cellsOf X → ∃ y, X.env.cells.lookup y = some c := fun {c} hc => by
    obtain ⟨⟨y, c2⟩, _, hm⟩ := List.mem_filterMap.mp hc
    exact ⟨y, hm⟩
  let π : Addr → Obj := fun b => (s1.heap.get? b).getD { cls := .none, data := .fields #[] }
  have cell : ∀ {c : Addr}, c ∈ cellsOf X → H1 c = none ∧ s1.heap.get? c = some (π c) ∧ ∃ v, (π c).data = .cell v := fun {c} hc => by
    obtain ⟨y, hy⟩ := look hc
    obtain ⟨v, o, ho, hd⟩ := I1.cell y c hy
    have e : π c = o := by show (s1.heap.get? c).getD _ = o; rw [ho]; rfl
    exact ⟨I1.freeC y c hy, by rw [e]; exact ho, v, by rw [e]; exact hd⟩
  have n : Bare (cellsOf X) π H1 s1.heap := fun b hb => ⟨(cell hb).1, (cell hb).2.1⟩
  have low : ∀ c ∈ cellsOf X, X.s_0.heap.objs.size ≤ c := fun c hc => by
    obtain ⟨y, hy⟩ := look hc
    exact I1.ok.cab y c (hfn y) hy
  have frf : ∀ b ∈ cellsOf X, b ∉ frs X.stack := fun b hb z => by
    rw [hst.1] at z
    unfold frs at z
    rw [List.filterMap_cons, hst.2] at z
    rcases List.mem_cons.mp z with z | z
    · obtain ⟨y, hy⟩ := look hb
      exact I1.cne y b hy z
    · obtain ⟨_, o, ho, _⟩ := I1.ok.funs.mem z
      exact absurd (Nat.lt_of_lt_of_le (Heap.lt_size ho) (low b hb)) (Nat.lt_irrefl _)
  have hbs : ∀ b ∈ cellsOf X, X.base.get? b = none := fun b hb => by
    cases q : X.base.get? b with
    | none => rfl
    | some o => exact absurd (Nat.lt_of_lt_of_le (Heap.lt_size q) (Nat.le_trans I1.ok.bsz (low b hb))) (Nat.lt_irrefl _)
  have C : CellsAre X σ (cellsOf X) π := ⟨I1.ok, I1.len, fun y c hy => by
      have hm : c ∈ cellsOf X := List.mem_filterMap.mpr ⟨(y, c), PySem.mem_of_lookup hy, hy⟩
      exact ⟨hm, (cell hm).2.2⟩, fun i y v h1 h2 h3 => by
      obtain ⟨m, hn, hl⟩ := I1.loc
      obtain ⟨u, ru, lk⟩ := hl i y v h1 h2 (.inr h3)
      rcases lk with ⟨z, _⟩ | ⟨_, c, e, o, ho, hd⟩
      · have z : X.env.scope.names.lookup y = some .local := z
        rcases h3 with h3 | h3 <;> (rw [h3] at z; cases z)
      · refine ⟨c, u, e, ru, ?_⟩
        show ((s1.heap.get? c).getD _).data = _
        rw [ho]
        exact hd⟩
  have hsp := q π C (fun b hb => (cell hb).1)
  have r2 : Vals (vs ++ dvs) (us ++ ds) := r.append hd
  have hl : (us ++ ds).length = ps.length := by rw [← r2.length]; exact F.len _ _ _ _ hsp
  refine wpAny_call (codeAny_mono (F.run X.A X.stack s1 _ ⟨us, []⟩ (us ++ ds) (vs ++ dvs) _ C8.E0 hr (Env0.pin I1.env0 n frf hbs) (hb s1 us I1.kIn hl) r2 hsp) fun r s' hq => ?_)
  have hq := cr_unpin n hq
  cases r with
  | error e => exact (show False from hq).elim
  | ok fl =>
    cases fl with
    | ret u => exact I1.after hq
    | next => exact False.elim hq
    | brk => exact False.elim hq
    | cont => exact False.elim hq
end
end MS
end
section
set_option maxRecDepth 100000
set_option maxHeartbeats 4000000
namespace MS
open PySem L2
open HeY LamX XQs
/-! ### _law_all: all are refused alike -/
abbrev s_L_all : Stmt := topS 86
abbrev nmAll : List Str := ["_law_works", "_law_due", "_law_work"]
theorem sc_L_all : FnScope nmAll ["_law_works", "_law_due"] (defScope s_L_all) := ⟨rfl, rfl, rfl, by decide +kernel, rfl, by decide +kernel, by decide +kernel⟩
section
variable {P : Program} {w : World} {K : PySem.W.Frag} {mg : Str → Option Value} {base : Heap}
/-- f() is refused by the i-th error, whose values are as Du says -/
def RefOk (P : Program) (w : World) {K : PySem.W.Frag} {mg : Str → Option Value} (base : Heap) (F : ErrF K mg) (k : Nat) (f : Addr) (H : Hp) (i : Nat) (Du : Hp → List V → Prop) : Prop :=
  ∀ (H' : Hp) (E : XK), Same H H' → (∀ d H'' vals, Same H' H'' → Pay i d H'' vals → Du H'' vals → E (.ref (F.A i)) d H'') → Runs P w K mg base k f H' (fun _ _ => False) E
theorem Runs.mono {k : Nat} {f : Addr} {H : Hp} {Q Q' : VK} {E : XK} (h : Runs P w K mg base k f H Q E) (q : ∀ v H', Q v H' → Q' v H') : Runs P w K mg base k f H Q' E := fun A outer s hr e0 => codeAny_mono (h A outer s hr e0) fun r s' hq => by
  cases r with
  | error e => exact hq
  | ok fl =>
    cases fl with
    | ret u =>
      obtain ⟨v, H', a, b, c, d, e, f⟩ := hq
      exact ⟨v, H', a, b, c, d, e, q _ _ f⟩
    | next => exact hq
    | brk => exact hq
    | cont => exact hq
def spAllR (P : Program) (w : World) {K : PySem.W.Frag} {mg : Str → Option Value} (base : Heap) (k : Nat) (F : ErrF K mg) : Sp := fun vs H Q _ => ∃ (l d : Addr) (fs : List Addr) (i : Nat) (Du : Hp → List V → Prop), vs = [.ref l, .ref d] ∧ i < 6 ∧ H l = some (.lst (fs.map V.ref)) ∧ fs.length ≤ 50 ∧
  (∀ f ∈ fs, IsLam H f ∧ RefOk P w base F k f H i Du) ∧ (∀ (H' : Hp) (t : Addr) (vals : List V), Same H H' → Du H' vals → H' t = some (.tup (.str (errNm i) :: vals)) → Alk H' 2 (.ref t) (.ref d)) ∧ (∀ H H' vals, Same H H' → Du H vals → Du H' vals) ∧ ∀ H', Same H H' → Q (.bl true) H'
theorem IsLam.same {H H' : Hp} {f : Addr} (h : IsLam H f) (s : Same H H') : IsLam H' f := by
  obtain ⟨q, p, b, sc, cl, ds, h⟩ := h
  exact ⟨q, p, b, sc, cl, ds, h.keep (ExtN.of s)⟩
theorem ok_allR {k : Nat} (F : ErrF K mg) (DT : Def K mg "_law_told" s_L_told ["_law_work"]) (DA : Def K mg "_law_alike" s_L_alike psAlike) (GA : FnOk P w K mg base CX0 3 DA.f DA.fd psAlike (spAlike 2)) (D : Def K mg "_law_all" s_L_all ["_law_works", "_law_due"]) (hk : 3 ≤ k) : FnOk P w K mg base CX0 (k + 2) D.f D.fd ["_law_works", "_law_due"] (spAllR P w base k F) := by
  have GT : FnOk P w K mg base CX0 (k + 1) DT.f DT.fd ["_law_work"] (spToldR P w base k F) := ok_toldR F DT
  have nd := sc_L_all.nd
  refine D.ok sc_L_all (fun vs H Q E h => ?_) (fun cdv A outer s H vs Q E hr h => ?_)
  · obtain ⟨l, d, fs, i, Du, rfl, _⟩ := h
    rfl
  obtain ⟨l, d, fs, i, Du, rfl, hi, el, hfs, href, halk, hDu, q⟩ := h
  have r3 : Room 3 _ := hr.mono (by omega)
  refine ⟨_, pss_one (ps_ret (pe_cmpR (op_eqE (Nat.lt_of_le_of_lt (Nat.le_add_right _ 64) hr.units)) (pe_lc (own := [("_law_work", 2)]) (g := gName 2) (tt := tNot (tB (tCall (spAlike 2) [] E0 (tCons (tCall (spToldR P w base k F) [] E0 (tCons (tVar 2) tNil)) (tCons (tVar 1) tNil))))) (te := tVar 2) rfl nd (pi_list (pv 0)) (blkOk_by (N := nmAll) (sc := defScope s_L_all) (by decide +kernel)) (fun _ _ _ _ _ => pg_name (i := 2) nd rfl (Or.inl rfl))
      (fun _ _ _ _ _ => pts_one (pt_not (pt_val (pcall DA GA r3 (pa_cons (pcall DT GT hr (pa_cons (pv 2) pa_nil)) (pa_cons (pv 1) pa_nil)))))) (fun _ _ _ _ _ => pv 2)) (pe_lst pa_nil) (nomark _))), ?_⟩
  refine ⟨_, rfl, l, rfl, ⟨_, SqL.of el⟩, fun D hD => ?_⟩
  refine lc_list (K := K) (a := l) (xs := fs.map V.ref) (fun j H'' => H'' D = some (.lst []) ∧ Same H H'') ⟨upd_same, Same.new hD⟩ (fun j H'' _ ⟨_, sm⟩ => SqL.of (sm _ _ el)) ?_ ?_
  · rintro j x H'' hj ⟨eD, sm⟩
    rw [List.getElem?_map] at hj
    obtain ⟨f, ef, rfl⟩ := Option.map_eq_some_iff.mp hj
    have hf := href f (List.mem_of_getElem? ef)
    dsimp only [gName]
    refine ⟨rfl, ?_⟩
    refine ⟨_, rfl, f, rfl, hf.1.same sm, ?_⟩
    refine Runs.mono (hf.2 H'' _ sm fun d1 H3 vals s3 hp hd => ⟨i, vals, hi, rfl, hp, fun t H4 s4 ht et => ?_⟩) fun _ _ z => z.elim
    have s34 : Same H'' H4 := s3.trans s4
    refine ⟨_, rfl, _, _, rfl, halk H4 t vals (sm.trans s34) (hDu _ _ _ s4 hd) et, fun H5 s5 => ⟨_, rfl, ?_⟩⟩
    exact ⟨s5 _ _ (s34 _ _ eD), (sm.trans s34).trans s5⟩
  · rintro H'' ⟨eD, sm⟩
    refine ⟨by show 0 ≤ sizeLine; decide, fun e he => ⟨_, _, _, rfl, rfl, SqL.of (Same.new he _ _ eD), SqL.of upd_same, ?_⟩⟩
    exact q _ (sm.trans (Same.new he))
end
end MS
end
section
set_option maxRecDepth 100000
set_option maxHeartbeats 4000000
namespace MS
open PySem L2
open HeY LamX
theorem pmeth_lam {X : Cx} {A : Around} {outer : List Env} {s : Shared} {H : Hp} {E : XK} {scope : Scope} {f0 c' C : Addr} {m q : Str} {st : Stmt} {ps : List Str} {k : Nat} {sp : Sp} {o e : Expr} {es : List Expr} {to : TE} {t : TA} {apos pos : Pos} {pl : Sem Bool} (he : PE (lamCx X A outer s H E scope f0 c') o to) (cl : Cls X.K C) (D : DefM X.K C m q st ps) (G : FnOk X.prog X.w X.K X.mg X.base (L2.CX X.prog X.w) k D.f D.fd ps sp)
    (hr : Room k (A.deeper (lamEnv X scope s.heap.objs.size f0 c'))) (ha : PA (lamCx X A outer s H E scope f0 c') (e :: es) t)
    (hst : starEach (e :: es) (lamEnv X scope s.heap.objs.size f0 c') = (false, eval e (lamEnv X scope s.heap.objs.size f0 c')) :: starEach es (lamEnv X scope s.heap.objs.size f0 c')) (hpl : (backTo pos (starEach es (lamEnv X scope s.heap.objs.size f0 c'))).any (·.1) = false)
    (ht : eval (.Call (.Attribute o m apos) (e :: es) [] pos) (lamEnv X scope s.heap.objs.size f0 c') = (do
      let ov ← eval o (lamEnv X scope s.heap.objs.size f0 c')
      standAt apos.atName
      let (f, first) ← holding [ov] (getMethod ov m pl)
      callWith pos f first (backTo pos (starEach (e :: es) (lamEnv X scope s.heap.objs.size f0 c'))) (backToKw pos (keywordEach [] (lamEnv X scope s.heap.objs.size f0 c'))))) :
    PE (lamCx X A outer s H E scope f0 c') (.Call (.Attribute o m apos) (e :: es) [] pos) (tMeth C m sp [] E to t) :=
  pe_meth (X := lamCx X A outer s H E scope f0 c') (CX := L2.CX X.prog X.w) (E := E) he cl D.me G hr D.b .nil (lam_passes (X := X) (A := A) (outer := outer) (s := s) (H := H) (E := E) (scope := scope) (f := f0) (c' := c')) ha hst hpl ht
theorem tabs_keepS {T : List (Addr × Str)} {S : List Addr} {H H' : Hp} (t : Tabs T H) (k : Keep S H H') (hS : ∀ z ∈ S, (∃ xs, H z = some (.lst xs)) ∨ ∃ C dx fs, H z = some (.ins C dx fs)) : Tabs T H' := fun p hp => by
  obtain ⟨ps, h1, h2, h3⟩ := t p hp
  have go : ∀ {a : Addr} {o : HO}, H a = some o → (∀ xs, o ≠ .lst xs) → (∀ C dx fs, o ≠ .ins C dx fs) → H' a = some o := fun {a o} ha hn hi => k a o ha fun hm => by
    rcases hS a hm with ⟨xs, e⟩ | ⟨C, dx, fs, e⟩
    · rw [e] at ha
      exact hn _ (Option.some.inj ha).symm
    · rw [e] at ha
      exact hi _ _ _ (Option.some.inj ha).symm
  refine ⟨ps, go h1 (fun xs z => nomatch z) (fun _ _ _ z => nomatch z), h2, fun pos cv hc => ?_⟩
  obtain ⟨c, e, h⟩ := h3 pos cv hc
  exact ⟨c, e, go h (fun xs z => by unfold CodeO at z; cases z) (fun _ _ _ z => by unfold CodeO at z; cases z)⟩

/-- a kept lambda that is refused, whatever comes -/
def LamGood (X : Cx) (F : ErrF X.K X.mg) (σ : L2.St) (k : Nat) (H : Hp) (i : Nat) (Du : Hp → List V → Prop) (f : Addr) : Prop :=
  ∃ (params : Arguments) (body : Expr) (scope : Scope) (ps : List Str) (ds : List V) (t : XK → TE), LamP X.N X.env.scope scope ps ∧ BindsD params ps ds ∧
    (∀ (A : Around) (outer : List Env) (s : Shared) (H : Hp) (E : XK) (f c' : Addr), Room k (A.deeper (lamEnv X scope s.heap.objs.size f c')) → PE (lamCx X A outer s H E scope f c') body (t E)) ∧
    LamAt (X.env.qual ++ "<lambda>") params body scope (cloFrom X.env.cells scope.names []) ds H f ∧
    ∀ (Hu : Hp) (E' : XK) (Qf : VK), Same H Hu → (∀ d H'' vals, Same Hu H'' → Pay i d H'' vals → Du H'' vals → E' (.ref (F.A i)) d H'') → t E' σ Hu Qf
theorem all_ref {X : Cx} {F : ErrF X.K X.mg} {σ : L2.St} {k : Nat} {H1 : Hp} {i : Nat} {Du : Hp → List V → Prop} {l d : Addr} {fs : List Addr} {π : Addr → Obj} {Q : VK} {E : XK} (C : CellsAre X σ (cellsOf X) π) (hn : ∀ b ∈ cellsOf X, H1 b = none) (hi : i < 6) (el : H1 l = some (.lst (fs.map V.ref))) (hl : fs.length ≤ 50)
    (href : ∀ f ∈ fs, LamGood X F σ k H1 i Du f) (halk : ∀ (H' : Hp) (t : Addr) (vals : List V), Same H1 H' → Du H' vals → H' t = some (.tup (.str (errNm i) :: vals)) → Alk H' 2 (.ref t) (.ref d)) (hDu : ∀ H H' vals, Same H H' → Du H vals → Du H' vals) (q : ∀ H2, Same H1 H2 → Q (.bl true) H2) :
    spAllR X.prog X.w X.base (k + 1) F [.ref l, .ref d] (pinL (cellsOf X) π H1) (fun v H2 => Pinned (cellsOf X) π H2 ∧ Q v (unL (cellsOf X) H2)) E := by
  have out : ∀ {b : Addr} {o : HO}, H1 b = some o → b ∉ cellsOf X := fun {b o} e hm => by
    rw [hn b hm] at e
    cases e
  have s0 : Same H1 (pinL (cellsOf X) π H1) := fun b o e => by rw [pin_out (out e)]; exact e
  have pinned : ∀ {H' : Hp}, Same (pinL (cellsOf X) π H1) H' → Pinned (cellsOf X) π H' := fun {H'} s b hb => s _ _ (pin_in hb)
  have su : ∀ {H' : Hp}, Same (pinL (cellsOf X) π H1) H' → Same H1 (unL (cellsOf X) H') := fun {H'} s b o e => by
    rw [un_out (out e)]
    exact s _ _ (s0 _ _ e)
  refine ⟨l, d, fs, i, Du, rfl, hi, s0 _ _ el, hl, fun f hf => ?_, fun H' t vals s hd et => halk H' t vals (s0.trans s) hd et, hDu, fun H' s => ⟨pinned s, q _ (su s)⟩⟩
  obtain ⟨params, body, scope, ps, ds, t, L, hb, hbody, hat, ht⟩ := href f hf
  refine ⟨⟨_, _, _, _, _, _, hat.keep (ExtN.of s0)⟩, fun H' E' s hE A outer s1 hr e0 => ?_⟩
  refine lam_run C L hb hbody hr e0 (pinned s) (hat.keep (ExtN.of (s0.trans s))) ?_
  refine ht _ _ _ (su s) fun d' H'' vals s2 hp hd hnone => ?_
  have s3 : Same H'' (pinL (cellsOf X) π H'') := fun b o e => by
    rw [pin_out fun hm => by rw [hnone b hm] at e; cases e]
    exact e
  refine hE d' _ vals (fun b o e => ?_) (hp.keep s3) (hDu _ _ _ s3 hd)
  by_cases hc : b ∈ cellsOf X
  · have z := pinned s b hc
    rw [e] at z
    rw [pin_in hc, Option.some.inj z]
  · rw [pin_out hc]
    exact s2 _ _ (by rw [un_out hc]; exact e)
end MS
end
section
set_option maxRecDepth 100000
set_option maxHeartbeats 4000000
namespace MS
open PySem L2
open LamX
/-! ### a def that hands out lambdas over its own cells: the cells stay as they are behind it -/
/-- a body that ends by return e: the slots at the return are told too -/
structure PSr (X : Cx) (st : List Stmt) (t : (L2.St → VK) → L2.St → Hp → Prop) : Prop where
  run : ∀ (s : Shared) (σ : L2.St) (H : Hp) (R : L2.St → VK), Inv X [] σ H s → t R σ H → wpAny (model X.prog X.w) X.A (execs st X.env) (fun fl s' => ∃ u v σ' H', fl = .ret u ∧ Inv X [] σ' H' s' ∧ RelV v u ∧ R σ' v H') X.xe s
def tSeqR (t : TS) (u : (L2.St → VK) → L2.St → Hp → Prop) : (L2.St → VK) → L2.St → Hp → Prop := fun R σ H => t { nx := fun σ' H' => u R σ' H', rt := fun _ _ => False } σ H
def tRetR (te : TE) : (L2.St → VK) → L2.St → Hp → Prop := fun R σ H => te σ H (R σ)
theorem psr_cons {X : Cx} {st : Stmt} {rest : List Stmt} {t : TS} {u : (L2.St → VK) → L2.St → Hp → Prop} (h1 : PS X st t) (h2 : PSr X rest u) : PSr X (st :: rest) (tSeqR t u) := by
  refine ⟨fun s σ H R I h => ?_⟩
  refine wpAny_execs_cons (thn (h1.run [] s σ H _ I h) fun f s1 q => ?_)
  cases f with
  | next =>
    obtain ⟨σ', H', I', q⟩ := q
    exact h2.run s1 σ' H' R I' q
  | ret v =>
    obtain ⟨_, _, _, _, _, q⟩ := q
    exact False.elim q
  | brk =>
    obtain ⟨_, _, _, q⟩ := q
    exact False.elim q
  | cont =>
    obtain ⟨_, _, _, q⟩ := q
    exact False.elim q
theorem psr_ret {X : Cx} {e : Expr} {te : TE} {pos : Pos} (he : PE X e te) : PSr X [.Return (some e) pos] (tRetR te) := by
  refine ⟨fun s σ H R I h => ?_⟩
  refine wpAny_execs_cons (wpAny_Return_some (thn (he.run [] s σ H _ I h) fun v s1 ⟨x, H1, I1, r1, q1⟩ => ?_))
  exact ⟨v, x, σ, H1, rfl, I1, r1, q1⟩
theorem un_pin {fs : List Addr} {H H' : Hp} {h h' : Heap} {cs : List Addr} {π : Addr → Obj} (u : L2.Un fs [] H H' h h') (hn : ∀ b ∈ cs, H' b = none) (hl : ∀ b ∈ cs, h.objs.size ≤ b) : L2.Un fs [] H (pinL cs π H') h h' := by
  refine ⟨u.keep, u.slot, fun b o q e hx => ?_, u.there, fun b xs q => ?_, fun b o x q => ?_, fun b ps q => ?_⟩
  · rw [pin_out fun z => Nat.lt_irrefl _ (Nat.lt_of_lt_of_le (Heap.lt_size q) (hl b z))]
    exact u.free b o q e hx
  · have g := u.tups b xs q
    rw [pin_out fun z => by rw [hn b z] at g; cases g]
    exact g
  · have g := u.frzs b o x q
    rw [pin_out fun z => by rw [hn b z] at g; cases g]
    exact g
  · obtain ⟨ps', g⟩ := u.tbls b ps q
    exact ⟨ps', by rw [pin_out fun z => by rw [hn b z] at g; cases g]; exact g⟩
/-- what a def's return wants where its cells are pinned -/
def PinEnd (X : Cx) (Q : VK) : L2.St → VK := fun σ v H => ∀ π : Addr → Obj, CellsAre X σ (cellsOf X) π → (∀ b ∈ cellsOf X, H b = none) → Q v (pinL (cellsOf X) π H)
theorem Def.okP {P : Program} {w : World} {K : PySem.W.Frag} {mg : Str → Option Value} {base : Heap} {x : Str} {st : Stmt} {ps N : List Str} {k : Nat} {sp : Sp} {c : Addr} (D : Def K mg x st ps) (hc : CodeAt K D.f c) (S : FnScope N ps (defScope st)) (len : ∀ vs H Q E, sp vs H Q E → vs.length = ps.length)
    (hbody : ∀ (A : Around) (outer : List Env) (s : Shared) (H : Hp) (vs : List V) (Q : VK) (E : XK), Room k (A.deeper (PyProof.Rows.envOfC x (defScope st) s.heap.objs.size D.f (.ref c))) → sp vs H Q E →
      ∃ t, PSr (cxOf CX0 P w K mg base N x (defScope st) D.f (.ref c) A outer s H E) (defBody st) t ∧ t (PinEnd (cxOf CX0 P w K mg base N x (defScope st) D.f (.ref c) A outer s H E) Q) (start N vs) H) : FnOk P w K mg base CX0 (k + 1) D.f D.fd ps sp := by
  obtain ⟨f, fd, F, g, b⟩ := D
  obtain ⟨oc, od, dV, kV, doc, pm, an, cdv, ct, osl, rfl, lk, hcd, _, _⟩ := F.ex
  obtain ⟨c', rfl⟩ := He.codeIn_ref hcd
  obtain rfl : c' = c := hc _ _ _ _ _ lk rfl
  refine ⟨len, fun A outer s H args us vs Q E hr e0 hb r hsp => ?_⟩
  have hl := len vs H Q E hsp
  have KX : K.In s.heap := e0.mod.kin.keeps fun b o e => (e0.bs b o e).1
  have lim : s.heap.NoLimit := e0.mod.nolimit.keeps fun b o e => (e0.bs b o e).1
  have hkind : ∀ y ∈ ps.zip us, (defScope st).names.lookup y.1 = some .local ∨ ((defScope st).names.lookup y.1 = some .cell ∧ ((cellsFrom (s.heap.objs.size + 1) (defScope st).names []).lookup y.1).isSome = true) := fun ⟨n, v⟩ hy => by
    rcases S.par n (List.of_mem_zip hy).1 with q | q
    · exact .inl q
    · exact .inr ⟨q, PySem.W.cellsFrom_some _ _ _ (.inl q)⟩
  refine codeAny_call_function hr.depth (KX _ _ lk) rfl S.co S.gen rfl (PySem.W.codeRec_of KX hcd) (hb _ _ _ _ ?_)
  refine wpAny_newFunctionEnv_cells S.kind hkind fun env he s1 x => ?_
  subst he
  refine ⟨lim.keeps x.toInCall.keep, codeAny_func ?_⟩
  obtain ⟨t, ht, hq⟩ := hbody A outer s H vs Q E (hr.deeper _) hsp
  have I : Inv (cxOf CX0 P w K mg base N _ (defScope st) f (.ref c') A outer s H E) [] (L2.start N vs) H s1 := inv_start S hr.hd e0 hl r x
  refine wpAny_mono (ht.run s1 (L2.start N vs) H _ I hq) (fun fl s' hs => ?_) fun e s' hs => hs
  obtain ⟨u, v, σ', H', rfl, J, rv, q⟩ := hs
  generalize hX : cxOf CX0 P w K mg base N _ (defScope st) f (.ref c') A outer s H E = X at J q
  have hXs : X.s_0.heap = s.heap := by rw [← hX]; rfl
  have hfn : ∀ y, X.fn y = true := fun y => by rw [← hX]; rfl
  have J0 := J
  rw [← hX] at J0
  have look : ∀ {c : Addr}, c ∈ cellsOf X → ∃ y, X.env.cells.lookup y = some c := fun {c} hc => by
    obtain ⟨⟨y, c2⟩, _, hm⟩ := List.mem_filterMap.mp hc
    exact ⟨y, hm⟩
  let π : Addr → Obj := fun b => (s'.heap.get? b).getD { cls := .none, data := .fields #[] }
  have cell : ∀ {c : Addr}, c ∈ cellsOf X → H' c = none ∧ s'.heap.get? c = some (π c) ∧ ∃ v, (π c).data = .cell v := fun {c} hc => by
    obtain ⟨y, hy⟩ := look hc
    obtain ⟨v, o, ho, hd⟩ := J.cell y c hy
    have e : π c = o := by show (s'.heap.get? c).getD _ = o; rw [ho]; rfl
    exact ⟨J.freeC y c hy, by rw [e]; exact ho, v, by rw [e]; exact hd⟩
  have n : Bare (cellsOf X) π H' s'.heap := fun b hb => ⟨(cell hb).1, (cell hb).2.1⟩
  have low : ∀ c ∈ cellsOf X, s.heap.objs.size ≤ c := fun c hc => by
    obtain ⟨y, hy⟩ := look hc
    have := J.ok.cab y c (hfn y) hy
    rw [hXs] at this
    exact this
  have C : CellsAre X σ' (cellsOf X) π := ⟨J.ok, J.len, fun y c hy => by
      have hm : c ∈ cellsOf X := List.mem_filterMap.mpr ⟨(y, c), PySem.mem_of_lookup hy, hy⟩
      exact ⟨hm, (cell hm).2.2⟩, fun i y v h1 h2 h3 => by
      obtain ⟨m, hn, hl⟩ := J.loc
      obtain ⟨u, ru, lk⟩ := hl i y v h1 h2 (.inr h3)
      rcases lk with ⟨z, _⟩ | ⟨_, c, e, o, ho, hd⟩
      · have z : X.env.scope.names.lookup y = some .local := z
        rcases h3 with h3 | h3 <;> (rw [h3] at z; cases z)
      · refine ⟨c, u, e, ru, ?_⟩
        show ((s'.heap.get? c).getD _).data = _
        rw [ho]
        exact hd⟩
  subst hX
  exact ⟨v, pinL _ π H', J.os, J.bare, un_pin J.base (fun b hb => (cell hb).1) low, HOk.pin J.hok n, rv, q π C fun b hb => (cell hb).1⟩
end MS
end
section
set_option maxRecDepth 100000
set_option maxHeartbeats 4000000
namespace MS
open PySem L2
open HeY
/-! ### schemes that a text can tell -/
def Frm : Nat → Sch → Prop
  | 0, _ => False
  | _ + 1, .step w p => IsW w ∧ 0 ≤ p ∧ p ≤ 99
  | d + 1, .all k => k.length ≤ 99 ∧ ∀ s ∈ k, Frm d s
  | d + 1, .best k => k.length ≤ 99 ∧ ∀ s ∈ k, Frm d s
  | d + 1, .most n s => (0 ≤ n ∧ n ≤ 99) ∧ Frm d s
  | d + 1, .half s => Frm d s
  | d + 1, .seen w s => IsW w ∧ Frm d s
  | d + 1, .behind w s => IsW w ∧ Frm d s
  | d + 1, .carry s => Frm d s
  | d + 1, .fin w p s => (IsW w ∧ 0 ≤ p ∧ p ≤ 99) ∧ Frm d s
  | _ + 1, .use _ => True

/-- how the outermost part of a scheme stands; R: how what is within it does -/
def SAtB (H : Hp) (R : Sch → V → Prop) : Sch → V → Prop
  | .step w p, v => ∃ a, v = .ref a ∧ H a = some (.tup [.str "step", .str w, .int p])
  | .all k, v => ∃ a b vs, v = .ref a ∧ H a = some (.tup [.str "all", .ref b]) ∧ H b = some (.tup vs) ∧ Paired R k vs
  | .best k, v => ∃ a b vs, v = .ref a ∧ H a = some (.tup [.str "best", .ref b]) ∧ H b = some (.tup vs) ∧ Paired R k vs
  | .most n s, v => ∃ a u, v = .ref a ∧ H a = some (.tup [.str "most", .int n, u]) ∧ R s u
  | .half s, v => ∃ a u, v = .ref a ∧ H a = some (.tup [.str "half", u]) ∧ R s u
  | .seen w s, v => ∃ a u, v = .ref a ∧ H a = some (.tup [.str "seen", .str w, u]) ∧ R s u
  | .behind w s, v => ∃ a u, v = .ref a ∧ H a = some (.tup [.str "behind", .str w, u]) ∧ R s u
  | .carry s, v => ∃ a u, v = .ref a ∧ H a = some (.tup [.str "carry", u]) ∧ R s u
  | .fin w p s, v => ∃ a u, v = .ref a ∧ H a = some (.tup [.str "end", .str w, .int p, u]) ∧ R s u
  | .use n, v => ∃ a, v = .ref a ∧ H a = some (.tup [.str "use", .int (n : Int)])
theorem satB {H : Hp} {d : Nat} {s : Sch} {v : V} : SAt H (d + 1) s v ↔ SAtB H (SAt H d) s v := by
  cases s <;> exact Iff.rfl
theorem SAtB.keep {H H' : Hp} {R R' : Sch → V → Prop} {s : Sch} {v : V} (h : SAtB H R s v) (k : TupK H H') (r : ∀ s v, R s v → R' s v) : SAtB H' R' s v := by
  cases s with
  | step w p => obtain ⟨a, e, h⟩ := h; exact ⟨a, e, k _ _ h⟩
  | all l => obtain ⟨a, b, vs, e, h1, h2, h3⟩ := h; exact ⟨a, b, vs, e, k _ _ h1, k _ _ h2, paired_imp h3 r⟩
  | best l => obtain ⟨a, b, vs, e, h1, h2, h3⟩ := h; exact ⟨a, b, vs, e, k _ _ h1, k _ _ h2, paired_imp h3 r⟩
  | most n s => obtain ⟨a, u, e, h1, h2⟩ := h; exact ⟨a, u, e, k _ _ h1, r _ _ h2⟩
  | half s => obtain ⟨a, u, e, h1, h2⟩ := h; exact ⟨a, u, e, k _ _ h1, r _ _ h2⟩
  | seen w s => obtain ⟨a, u, e, h1, h2⟩ := h; exact ⟨a, u, e, k _ _ h1, r _ _ h2⟩
  | behind w s => obtain ⟨a, u, e, h1, h2⟩ := h; exact ⟨a, u, e, k _ _ h1, r _ _ h2⟩
  | carry s => obtain ⟨a, u, e, h1, h2⟩ := h; exact ⟨a, u, e, k _ _ h1, r _ _ h2⟩
  | fin w p s => obtain ⟨a, u, e, h1, h2⟩ := h; exact ⟨a, u, e, k _ _ h1, r _ _ h2⟩
  | use n => obtain ⟨a, e, h⟩ := h; exact ⟨a, e, k _ _ h⟩
theorem SAtB.tag {H : Hp} {R : Sch → V → Prop} {s : Sch} {v : V} (h : SAtB H R s v) : ∃ a nm rest, v = V.ref a ∧ H a = some (.tup (.str nm :: rest)) := by
  cases s with
  | step x p => obtain ⟨a, e, h⟩ := h; exact ⟨a, _, _, e, h⟩
  | all k => obtain ⟨a, b, vs, e, h, _⟩ := h; exact ⟨a, _, _, e, h⟩
  | best k => obtain ⟨a, b, vs, e, h, _⟩ := h; exact ⟨a, _, _, e, h⟩
  | most n s => obtain ⟨a, u, e, h, _⟩ := h; exact ⟨a, _, _, e, h⟩
  | half s => obtain ⟨a, u, e, h, _⟩ := h; exact ⟨a, _, _, e, h⟩
  | seen x s => obtain ⟨a, u, e, h, _⟩ := h; exact ⟨a, _, _, e, h⟩
  | behind x s => obtain ⟨a, u, e, h, _⟩ := h; exact ⟨a, _, _, e, h⟩
  | carry s => obtain ⟨a, u, e, h, _⟩ := h; exact ⟨a, _, _, e, h⟩
  | fin x p s => obtain ⟨a, u, e, h, _⟩ := h; exact ⟨a, _, _, e, h⟩
  | use n => obtain ⟨a, e, h⟩ := h; exact ⟨a, _, _, e, h⟩
/-- whether a scheme itself can be, in scheme i of M -/
def okOwn (i M : Nat) : Sch → Bool
  | .step _ p => decide (1 ≤ p ∧ p ≤ 9)
  | .all k => decide (1 ≤ k.length ∧ k.length ≤ 4)
  | .best k => decide (1 ≤ k.length ∧ k.length ≤ 4)
  | .most n _ => decide (0 ≤ n ∧ n ≤ 30)
  | .fin _ p _ => decide (1 ≤ p ∧ p ≤ 9)
  | .use n => decide (i < n ∧ n < M)
  | _ => true
def FitB (H : Hp) (i M : Nat) (p : V × Bool) (kind : Str) : Prop :=
  (kind = "word" ∧ ((∃ x, p.1 = .str x) ∨ p.1 = .non) ∧ p.2 = inV p.1 (wordsL.map V.str)) ∨ (kind = "points" ∧ ((∃ n : Int, p.1 = .int n ∧ p.2 = decide (1 ≤ n ∧ n ≤ 9)) ∨ ∃ b, p.1 = .bl b ∧ p.2 = false)) ∨
  (kind = "limit" ∧ ((∃ n : Int, p.1 = .int n ∧ p.2 = decide (0 ≤ n ∧ n ≤ 30)) ∨ (p.1 = .non ∧ p.2 = false))) ∨
  (kind = "schemes" ∧ ((∃ a vs, p.1 = .ref a ∧ H a = some (.tup vs) ∧ p.2 = decide (1 ≤ vs.length ∧ vs.length ≤ 4)) ∨ (∃ a g, p.1 = .ref a ∧ H a = some (.lst [.ref g]) ∧ p.2 = false) ∨ ∃ x, p.1 = .str x ∧ p.2 = false)) ∨
  (kind = "scheme" ∧ p.2 = true) ∨ (kind = "later" ∧ ∃ j : Int, p.1 = .int j ∧ p.2 = decide ((i : Int) < j ∧ j < (M : Int)))
/-- tuples stay, and such lists as are no scheme -/
def KO (H H' : Hp) : Prop := ∀ a o, H a = some o → ((∃ xs, o = .tup xs) ∨ (∃ x vs, o = .lst (.str x :: vs)) ∨ ∃ g, o = .lst [.ref g]) → H' a = some o
theorem Same.ko {H H' : Hp} (s : Same H H') : KO H H' := fun a o e _ => s a o e
theorem KO.tup {H H' : Hp} (k : KO H H') : TupK H H' := fun a xs e => k a _ e (.inl ⟨xs, rfl⟩)
theorem FitB.keepO {H H' : Hp} {i M : Nat} {p : V × Bool} {z : Str} (h : FitB H i M p z) (k : KO H H') : FitB H' i M p z := by
  rcases h with h | h | h | ⟨e, h⟩ | h | h
  · exact .inl h
  · exact .inr (.inl h)
  · exact .inr (.inr (.inl h))
  · refine .inr (.inr (.inr (.inl ⟨e, ?_⟩)))
    rcases h with ⟨b, vs, e1, e2, h1⟩ | ⟨b, vs, e1, e2, h1⟩ | h
    · exact .inl ⟨b, vs, e1, k _ _ e2 (.inl ⟨_, rfl⟩), h1⟩
    · exact .inr (.inl ⟨b, vs, e1, k _ _ e2 (.inr (.inr ⟨_, rfl⟩)), h1⟩)
    · exact .inr (.inr h)
  · exact .inr (.inr (.inr (.inr (.inl h))))
  · exact .inr (.inr (.inr (.inr (.inr h))))
theorem FitB.keep {H H' : Hp} {i M : Nat} {p : V × Bool} {z : Str} (h : FitB H i M p z) (k : Same H H') : FitB H' i M p z := h.keepO (Same.ko k)
/-- no scheme at all, whatever is within it -/
def Odd (H : Hp) (v : V) : Prop := (v = .non ∨ (∃ x, v = .str x) ∨ (∃ n, v = .int n) ∨ (∃ a x vs, v = .ref a ∧ H a = some (.lst (.str x :: vs)))) ∨ (∃ a, v = .ref a ∧ H a = some (.tup [])) ∨ (∃ a rest, v = .ref a ∧ H a = some (.tup (.str "Step" :: rest))) ∨
  (∃ (a : Addr) (nm : Str) (rest : List V) (kinds : List Str), v = .ref a ∧ H a = some (.tup (.str nm :: rest)) ∧ (nm, kinds) ∈ shapesL ∧ rest.length ≠ kinds.length ∧ rest.length ≤ 100) ∨
  ∃ (a : Addr) (nm : Str) (kinds : List Str) (prs : List (V × Bool)), v = .ref a ∧ H a = some (.tup (.str nm :: prs.map (·.1))) ∧ (nm, kinds) ∈ shapesL ∧ (∀ i M, Paired (FitB H i M) prs kinds) ∧ (prs.map (·.2)).all id = false
theorem Odd.keepO {H H' : Hp} {v : V} (h : Odd H v) (k : KO H H') : Odd H' v := by
  rcases h with (h | h | h | ⟨a, x, vs, e, h⟩) | ⟨a, e, h⟩ | ⟨a, rest, e, h⟩ | ⟨a, nm, rest, kinds, e, h, h2⟩ | ⟨a, nm, kinds, prs, e, h, h2, h3, h4⟩
  · exact .inl (.inl h)
  · exact .inl (.inr (.inl h))
  · exact .inl (.inr (.inr (.inl h)))
  · exact .inl (.inr (.inr (.inr ⟨a, x, vs, e, k _ _ h (.inr (.inl ⟨_, _, rfl⟩))⟩)))
  · exact .inr (.inl ⟨a, e, k.tup _ _ h⟩)
  · exact .inr (.inr (.inl ⟨a, rest, e, k.tup _ _ h⟩))
  · exact .inr (.inr (.inr (.inl ⟨a, nm, rest, kinds, e, k.tup _ _ h, h2⟩)))
  · exact .inr (.inr (.inr (.inr ⟨a, nm, kinds, prs, e, k.tup _ _ h, h2, fun i M => paired_imp (h3 i M) fun _ _ q => FitB.keepO q k, h4⟩)))
theorem Odd.keep {H H' : Hp} {v : V} (h : Odd H v) (k : Same H H') : Odd H' v := h.keepO (Same.ko k)
structure ShpX (H : Hp) (i M : Nat) (R : Sch → V → Prop) (sc : Sch) (nm : Str) (rest : List V) (kinds : List Str) (kv : List V) (prs : List (V × Bool)) : Prop where
  mem : (nm, kinds) ∈ shapesL
  fst : rest = prs.map (·.1)
  fit : Paired (FitB H i M) prs kinds
  all : (prs.map (·.2)).all id = okOwn i M sc
  at_ : Paired R (kidsOf sc) kv
  k1 : ∃ kl, atI (kinds.map V.str) (-1) = some (.str kl) ∧ ((kl = "schemes" ∧ ∃ b, atI (.str nm :: rest) (-1) = some (.ref b) ∧ H b = some (.tup kv)) ∨ (kl = "scheme" ∧ ∃ u, atI (.str nm :: rest) (-1) = some u ∧ kv = [u]) ∨ (kl ≠ "schemes" ∧ kl ≠ "scheme" ∧ kv = []))
theorem all2 (b : Bool) : (true && (b && true)) = b := by cases b <;> rfl
theorem all1 (b : Bool) : (b && true) = b := by cases b <;> rfl
theorem SAtB.shapeX {H : Hp} {i M d : Nat} {R : Sch → V → Prop} {sc : Sch} {a : Addr} {nm : Str} {rest : List V} (h : SAtB H R sc (.ref a)) (o : Frm (d + 1) sc) (ea : H a = some (.tup (.str nm :: rest))) : ∃ kinds kv prs, ShpX H i M R sc nm rest kinds kv prs := by
  have inj : ∀ {a' : Addr} {nm' : Str} {rest' : List V}, (V.ref a = V.ref a') → H a' = some (.tup (.str nm' :: rest')) → nm' = nm ∧ rest' = rest := fun e h => by
    cases e
    rw [ea] at h
    cases h
    exact ⟨rfl, rfl⟩
  have fw : ∀ {x : Str}, IsW x → FitB H i M (.str x, true) "word" := fun hx => .inl ⟨rfl, .inl ⟨_, rfl⟩, (inV_words hx).symm⟩
  have fp : ∀ {p : Int}, FitB H i M (.int p, decide (1 ≤ p ∧ p ≤ 9)) "points" := .inr (.inl ⟨rfl, .inl ⟨_, rfl, rfl⟩⟩)
  have fs : ∀ {u : V}, FitB H i M (u, true) "scheme" := .inr (.inr (.inr (.inr (.inl ⟨rfl, rfl⟩))))
  cases sc with
  | step x p =>
    obtain ⟨a', e, h⟩ := h
    obtain ⟨rfl, rfl⟩ := inj e h
    exact ⟨["word", "points"], [], [(.str x, true), (.int p, _)], by decide +kernel, rfl, .cons (fw o.1) (.cons fp .nil), all2 _, .nil, ⟨"points", rfl, .inr (.inr ⟨by decide +kernel, by decide +kernel, rfl⟩)⟩⟩
  | all k =>
    obtain ⟨a', b, vs, e, h, eb, hk⟩ := h
    obtain ⟨rfl, rfl⟩ := inj e h
    have := Paired.length hk
    exact ⟨["schemes"], vs, [(.ref b, decide (1 ≤ k.length ∧ k.length ≤ 4))], by decide +kernel, rfl, .cons (.inr (.inr (.inr (.inl ⟨rfl, .inl ⟨b, vs, rfl, eb, by rw [this]⟩⟩)))) .nil, all1 _, hk, ⟨"schemes", rfl, .inl ⟨rfl, b, rfl, eb⟩⟩⟩
  | best k =>
    obtain ⟨a', b, vs, e, h, eb, hk⟩ := h
    obtain ⟨rfl, rfl⟩ := inj e h
    have := Paired.length hk
    exact ⟨["schemes"], vs, [(.ref b, decide (1 ≤ k.length ∧ k.length ≤ 4))], by decide +kernel, rfl, .cons (.inr (.inr (.inr (.inl ⟨rfl, .inl ⟨b, vs, rfl, eb, by rw [this]⟩⟩)))) .nil, all1 _, hk, ⟨"schemes", rfl, .inl ⟨rfl, b, rfl, eb⟩⟩⟩
  | most n s =>
    obtain ⟨a', u, e, h, hs⟩ := h
    obtain ⟨rfl, rfl⟩ := inj e h
    exact ⟨["limit", "scheme"], [u], [(.int n, decide (0 ≤ n ∧ n ≤ 30)), (u, true)], by decide +kernel, rfl, .cons (.inr (.inr (.inl ⟨rfl, .inl ⟨n, rfl, rfl⟩⟩))) (.cons fs .nil), all1 _, .cons hs .nil, ⟨"scheme", rfl, .inr (.inl ⟨rfl, u, rfl, rfl⟩)⟩⟩
  | half s =>
    obtain ⟨a', u, e, h, hs⟩ := h
    obtain ⟨rfl, rfl⟩ := inj e h
    exact ⟨["scheme"], [u], [(u, true)], by decide +kernel, rfl, .cons fs .nil, rfl, .cons hs .nil, ⟨"scheme", rfl, .inr (.inl ⟨rfl, u, rfl, rfl⟩)⟩⟩
  | seen x s =>
    obtain ⟨a', u, e, h, hs⟩ := h
    obtain ⟨rfl, rfl⟩ := inj e h
    exact ⟨["word", "scheme"], [u], [(.str x, true), (u, true)], by decide +kernel, rfl, .cons (fw o.1) (.cons fs .nil), rfl, .cons hs .nil, ⟨"scheme", rfl, .inr (.inl ⟨rfl, u, rfl, rfl⟩)⟩⟩
  | behind x s =>
    obtain ⟨a', u, e, h, hs⟩ := h
    obtain ⟨rfl, rfl⟩ := inj e h
    exact ⟨["word", "scheme"], [u], [(.str x, true), (u, true)], by decide +kernel, rfl, .cons (fw o.1) (.cons fs .nil), rfl, .cons hs .nil, ⟨"scheme", rfl, .inr (.inl ⟨rfl, u, rfl, rfl⟩)⟩⟩
  | carry s =>
    obtain ⟨a', u, e, h, hs⟩ := h
    obtain ⟨rfl, rfl⟩ := inj e h
    exact ⟨["scheme"], [u], [(u, true)], by decide +kernel, rfl, .cons fs .nil, rfl, .cons hs .nil, ⟨"scheme", rfl, .inr (.inl ⟨rfl, u, rfl, rfl⟩)⟩⟩
  | fin x p s =>
    obtain ⟨a', u, e, h, hs⟩ := h
    obtain ⟨rfl, rfl⟩ := inj e h
    exact ⟨["word", "points", "scheme"], [u], [(.str x, true), (.int p, _), (u, true)], by decide +kernel, rfl, .cons (fw o.1.1) (.cons fp (.cons fs .nil)), all2 _, .cons hs .nil, ⟨"scheme", rfl, .inr (.inl ⟨rfl, u, rfl, rfl⟩)⟩⟩
  | use n =>
    obtain ⟨a', e, h⟩ := h
    obtain ⟨rfl, rfl⟩ := inj e h
    exact ⟨["later"], [], [(.int ((n : Nat) : Int), decide (i < n ∧ n < M))], by decide +kernel, rfl, .cons (.inr (.inr (.inr (.inr (.inr ⟨rfl, (n : Int), rfl, by rw [decide_eq_decide]; omega⟩))))) .nil, all1 _, .nil, ⟨"later", rfl, .inr (.inr ⟨by decide +kernel, by decide +kernel, rfl⟩)⟩⟩
theorem frm_kids {d : Nat} {s : Sch} (o : Frm (d + 1) s) : ∀ x ∈ kidsOf s, Frm d x := by
  cases s with
  | step w p => exact fun _ h => nomatch h
  | all k => exact o.2
  | best k => exact o.2
  | most n s => intro x h; rw [List.mem_singleton.mp h]; exact o.2
  | half s => intro x h; rw [List.mem_singleton.mp h]; exact o
  | seen w s => intro x h; rw [List.mem_singleton.mp h]; exact o.2
  | behind w s => intro x h; rw [List.mem_singleton.mp h]; exact o.2
  | carry s => intro x h; rw [List.mem_singleton.mp h]; exact o
  | fin w p s => intro x h; rw [List.mem_singleton.mp h]; exact o.2
  | use n => exact fun _ h => nomatch h
theorem frm_few {d : Nat} {s : Sch} (o : Frm (d + 1) s) : (kidsOf s).length ≤ 99 := by
  cases s with
  | all k => exact o.1
  | best k => exact o.1
  | _ => first | (show 0 ≤ 99; decide) | (show 1 ≤ 99; decide)
theorem own_few {i M : Nat} {s : Sch} (o : okOwn i M s = true) : (kidsOf s).length ≤ 4 := by
  cases s with
  | all k => exact (of_decide_eq_true o).2
  | best k => exact (of_decide_eq_true o).2
  | _ => first | (show 0 ≤ 4; decide) | (show 1 ≤ 4; decide)
def spNumW : Sp := fun vs H Q _ => ∃ v : V, vs = [v] ∧ ((∃ n : Int, v = .int n ∧ Q (.bl true) H) ∨ (∃ b : Bool, v = .bl b ∧ Q (.bl false) H) ∨ (v = .non ∧ Q (.bl false) H))
section
variable {P : Program} {w : World} {K : PySem.W.Frag} {mg : Str → Option Value} {base : Heap}
theorem ok_numW (T : PTx w K mg) (D : Def K mg "is_number" s_is_number ["thing"]) : FnOk P w K mg base CX0 1 D.f D.fd ["thing"] spNumW := by
  refine D.ok sc_is_number (fun vs H Q E h => ?_) (fun cdv A outer s H vs Q E hr h => ?_)
  · obtain ⟨i, rfl, _⟩ := h
    rfl
  obtain ⟨v, rfl, q⟩ := h
  refine ⟨_, pss_one (ps_ret (pe_and (pe_callB call_isi rfl (T.free "isinstance" (by decide +kernel)) (by decide +kernel) (pa_cons (pv 0) (pa_cons (pe_bltn rfl (T.free "int" (by decide +kernel)) (by decide +kernel) (v := .ty "int") rfl) pa_nil)))
    (pe_one (pe_not (pe_callB call_isi rfl (T.free "isinstance" (by decide +kernel)) (by decide +kernel) (pa_cons (pv 0) (pa_cons (pe_bltn rfl (T.free "bool" (by decide +kernel)) (by decide +kernel) (v := .ty "bool") rfl) pa_nil))))))), ?_⟩
  rcases q with ⟨n, rfl, q⟩ | ⟨b, rfl, q⟩ | ⟨rfl, q⟩
  · exact ⟨_, rfl, _, .ty "int", .type "int", .type "int", true, rfl, .ty _, .base (.int _), kit_ty (by decide +kernel), _, rfl, _, rfl, _, .ty "bool", .type "int", .type "bool", false, rfl, .ty _, .base (.int _), kit_ty (by decide +kernel), _, rfl, q⟩
  · exact ⟨_, rfl, _, .ty "int", .type "bool", .type "int", true, rfl, .ty _, .base (.bl _), kit_ty (by decide +kernel), _, rfl, _, rfl, _, .ty "bool", .type "bool", .type "bool", true, rfl, .ty _, .base (.bl _), kit_ty (by decide +kernel), _, rfl, q⟩
  · exact ⟨_, rfl, _, .ty "int", .type "NoneType", .type "int", false, rfl, .ty _, .base .non, kit_ty (by decide +kernel), _, rfl, q⟩
end
def spFitsX (i M : Nat) : Sp := fun vs H Q _ => ∃ (part : V) (kind : Str) (b : Bool), vs = [part, .str kind, .int ((i : Nat) : Int), .int ((M : Nat) : Int)] ∧ FitB H i M (part, b) kind ∧ Q (.bl b) H
def spCanBeX (i M : Nat) : Sp := fun vs H Q _ => ∃ (v : V), vs = [v, .int ((i : Nat) : Int), .int ((M : Nat) : Int)] ∧ ((∃ (sc : Sch) (d : Nat) (R : Sch → V → Prop), SAtB H R sc v ∧ Frm (d + 1) sc ∧ ∀ H', Same H H' → Q (.bl (okOwn i M sc)) H') ∨ (Odd H v ∧ ∀ H', Same H H' → Q (.bl false) H'))
def spWithinX : Sp := fun vs H Q _ => ∃ (v : V) (sc : Sch) (d : Nat) (R : Sch → V → Prop), vs = [v] ∧ SAtB H R sc v ∧ Frm (d + 1) sc ∧ ∀ (f : Addr) (kv : List V), H f = none → Paired R (kidsOf sc) kv → Q (.ref f) (upd H f (.lst kv))
theorem dec_and {a b : Prop} [Decidable a] [Decidable b] (h : a) : decide b = decide (a ∧ b) := by
  rw [decide_eq_decide]
  exact ⟨fun z => ⟨h, z⟩, fun z => z.2⟩
theorem dec_nand {a b : Prop} [Decidable a] [Decidable b] (h : ¬ a) : decide (a ∧ b) = false := decide_eq_false fun z => h z.1
theorem pr_get {α β : Type} {R : α → β → Prop} : ∀ {xs : List α} {ys : List β}, Paired R xs ys → ∀ {k : Nat} {y : β}, ys[k]? = some y → ∃ x, xs[k]? = some x ∧ R x y
  | _, _, .nil, _, _, h => by simp at h
  | _, _, .cons r t, 0, _, h => by
    simp at h
    subst h
    exact ⟨_, rfl, r⟩
  | _, _, .cons _ t, k + 1, y, h => by
    obtain ⟨x, e, r⟩ := pr_get t (k := k) (y := y) (by simpa using h)
    exact ⟨x, by simpa using e, r⟩
section
variable {P : Program} {w : World} {K : PySem.W.Frag} {mg : Str → Option Value} {base : Heap}
theorem ok_fitsX {i M : Nat} (T : PTx w K mg) (D : Def K mg "fits" s_fits psFits) (DN : Def K mg "is_number" s_is_number ["thing"]) : FnOk P w K mg base CX0 2 D.f D.fd psFits (spFitsX i M) := by
  have GN : FnOk P w K mg base CX0 1 DN.f DN.fd ["thing"] spNumW := ok_numW T DN
  obtain ⟨aW, gW, qW⟩ := T.words
  obtain ⟨tm, gm⟩ := T.mostWithin
  obtain ⟨aB, gB, t1, t2, kb1, qb1, kb2, qb2⟩ := T.bounds
  have nd := sc_fits.nd
  refine D.ok sc_fits (fun vs H Q E h => ?_) (fun cdv A outer s H vs Q E hr h => ?_)
  · obtain ⟨part, kind, b, rfl, _⟩ := h
    rfl
  obtain ⟨part, kind, b, rfl, hf, q⟩ := h
  refine ⟨_, pss_cons (ps_if (pt_cmpR op_eq (pv 1) pe_str (nomark _)) (pss_one (ps_ret (pe_cmpR op_in_seq (pv 0) (pe_glob rfl gW (v := .ref aW) rfl) (by rfl)))) pss_nil)
    (pss_cons (ps_if (pt_cmpR op_eq (pv 1) pe_str (nomark _)) (pss_one (ps_ret (pe_and (pe_callB call_isi rfl (T.free "isinstance" (by decide +kernel)) (by decide +kernel) (pa_cons (pv 0) (pa_cons (pe_bltn rfl (T.free "tuple" (by decide +kernel)) (by decide +kernel) (v := .ty "tuple") rfl) pa_nil)))
        (pe_one (pe_chain op_le op_le pe_int (pe_callB call_len_seq rfl (T.free "len" (by decide +kernel)) PySem.boot_len (pa_cons (pv 0) pa_nil)) (pe_glob rfl gm (v := .int 4) ⟨_, rfl⟩)))))) pss_nil)
    (pss_cons (ps_if (pt_cmpR op_eq (pv 1) pe_str (nomark _)) (pss_one (ps_ret pe_bl)) pss_nil)
    (pss_cons (ps_if (pt_cmpR op_eq (pv 1) pe_str (nomark _)) (pss_one (ps_ret (pe_and (pcall DN GN hr (pa_cons (pv 0) pa_nil)) (pe_one (pe_chain op_lt op_lt (pv 2) (pv 0) (pv 3)))))) pss_nil)
    (pss_cons (ps_asg (pe_ix ix_kdict (pe_glob rfl gB (v := .ref aB) rfl) (pv 1) (fun _ _ => rfl)) (pg_tup (by rfl) (pgs_cons (pg_name (i := 4) nd rfl (Or.inl rfl)) (pgs_cons (pg_name (i := 5) nd rfl (Or.inl rfl)) pgs_nil))))
    (pss_one (ps_ret (pe_and (pcall DN GN hr (pa_cons (pv 0) pa_nil)) (pe_one (pe_chain op_le op_le (pv 4) (pv 0) (pv 5)))))))))), ?_⟩
  have tst : ∀ {c : Str} {σ : St} {b : Bool}, σ[1]? = some (some (.str kind)) → (kind == c) = b → ∀ Q : Bool → Hp → Prop, Q b H → tTest (tOp rEq (tVar 1) (tC (.str c))) σ H Q := fun s1 e Q q => ⟨_, s1, rfl, _, rfl, by rw [dec_str, e]; exact q⟩
  rcases hf with ⟨rfl, hx, eb⟩ | ⟨rfl, ⟨p, ep, eb⟩ | ⟨b0, ep, eb⟩⟩ | ⟨rfl, ⟨p, ep, eb⟩ | ⟨ep, eb⟩⟩ | ⟨rfl, ⟨c, vs, ep, ec, eb⟩ | ⟨c, vs, ep, ec, eb⟩ | ⟨x, ep, eb⟩⟩ | ⟨rfl, eb⟩ | ⟨rfl, j, ep, eb⟩
  · obtain rfl : b = inV part (wordsL.map V.str) := eb
    refine seq_if (b := true) (tst rfl (by decide +kernel)) (fun _ => ?_) (fun z => nomatch z)
    have hfl : flatV part = true := by
      rcases hx with ⟨x, e⟩ | e
      · have e : part = .str x := e
        subst e
        rfl
      · have e : part = .non := e
        subst e
        rfl
    exact ⟨_, rfl, aW, _, rfl, .inr (qW _), hfl, by decide +kernel, q⟩
  · obtain rfl : part = _ := ep
    obtain rfl : b = _ := eb
    refine seq_if (b := false) (tst rfl (by decide +kernel)) (fun z => nomatch z) (fun _ => seq_if (b := false) (tst rfl (by decide +kernel)) (fun z => nomatch z) (fun _ => seq_if (b := false) (tst rfl (by decide +kernel)) (fun z => nomatch z) (fun _ => seq_if (b := false) (tst rfl (by decide +kernel)) (fun z => nomatch z) (fun _ => ?_))))
    refine ⟨_, rfl, aB, "points", .ref t1, rfl, rfl, kb1, t1, _, rfl, qb1 _, rfl, _, _, rfl, _, _, rfl, rfl, ?_⟩
    refine ⟨_, rfl, _, rfl, .inl ⟨p, rfl, _, rfl, ?_⟩⟩
    refine ⟨_, rfl, _, rfl, _, _, rfl, rfl, _, rfl, ?_⟩
    by_cases p1 : 1 ≤ p
    · rw [decide_eq_true p1]
      refine iteT ⟨_, rfl, _, _, rfl, rfl, ?_⟩
      show Q (V.bl (decide _)) H
      rw [dec_and p1]
      exact q
    · rw [decide_eq_false p1]
      rw [dec_nand p1] at q
      exact iteF q
  · obtain rfl : part = _ := ep
    obtain rfl : b = _ := eb
    refine seq_if (b := false) (tst rfl (by decide +kernel)) (fun z => nomatch z) (fun _ => seq_if (b := false) (tst rfl (by decide +kernel)) (fun z => nomatch z) (fun _ => seq_if (b := false) (tst rfl (by decide +kernel)) (fun z => nomatch z) (fun _ => seq_if (b := false) (tst rfl (by decide +kernel)) (fun z => nomatch z) (fun _ => ?_))))
    refine ⟨_, rfl, aB, "points", .ref t1, rfl, rfl, kb1, t1, _, rfl, qb1 _, rfl, _, _, rfl, _, _, rfl, rfl, ?_⟩
    exact ⟨_, rfl, _, rfl, .inr (.inl ⟨b0, rfl, _, rfl, iteF q⟩)⟩
  · obtain rfl : part = _ := ep
    obtain rfl : b = _ := eb
    refine seq_if (b := false) (tst rfl (by decide +kernel)) (fun z => nomatch z) (fun _ => seq_if (b := false) (tst rfl (by decide +kernel)) (fun z => nomatch z) (fun _ => seq_if (b := false) (tst rfl (by decide +kernel)) (fun z => nomatch z) (fun _ => seq_if (b := false) (tst rfl (by decide +kernel)) (fun z => nomatch z) (fun _ => ?_))))
    refine ⟨_, rfl, aB, "limit", .ref t2, rfl, rfl, kb2, t2, _, rfl, qb2 _, rfl, _, _, rfl, _, _, rfl, rfl, ?_⟩
    refine ⟨_, rfl, _, rfl, .inl ⟨p, rfl, _, rfl, ?_⟩⟩
    refine ⟨_, rfl, _, rfl, _, _, rfl, rfl, _, rfl, ?_⟩
    by_cases p1 : 0 ≤ p
    · rw [decide_eq_true p1]
      refine iteT ⟨_, rfl, _, _, rfl, rfl, ?_⟩
      show Q (V.bl (decide _)) H
      rw [dec_and p1]
      exact q
    · rw [decide_eq_false p1]
      rw [dec_nand p1] at q
      exact iteF q
  · obtain rfl : part = _ := ep
    obtain rfl : b = _ := eb
    refine seq_if (b := false) (tst rfl (by decide +kernel)) (fun z => nomatch z) (fun _ => seq_if (b := false) (tst rfl (by decide +kernel)) (fun z => nomatch z) (fun _ => seq_if (b := false) (tst rfl (by decide +kernel)) (fun z => nomatch z) (fun _ => seq_if (b := false) (tst rfl (by decide +kernel)) (fun z => nomatch z) (fun _ => ?_))))
    refine ⟨_, rfl, aB, "limit", .ref t2, rfl, rfl, kb2, t2, _, rfl, qb2 _, rfl, _, _, rfl, _, _, rfl, rfl, ?_⟩
    exact ⟨_, rfl, _, rfl, .inr (.inr ⟨rfl, _, rfl, iteF q⟩)⟩
  · obtain rfl : part = _ := ep
    obtain rfl : b = _ := eb
    refine seq_if (b := false) (tst rfl (by decide +kernel)) (fun z => nomatch z) (fun _ => seq_if (b := true) (tst rfl (by decide +kernel)) (fun _ => ?_) (fun z => nomatch z))
    refine ⟨_, rfl, _, .ty "tuple", .type "tuple", .type "tuple", true, rfl, .ty _, .base (.tup ec), kit_ty (by decide +kernel), _, rfl, ?_⟩
    refine iteT ⟨_, rfl, c, vs, rfl, .inr (SqT.of ec), _, _, rfl, rfl, _, rfl, ?_⟩
    by_cases p1 : 1 ≤ vs.length
    · rw [decide_eq_true (show (1 : Int) ≤ (vs.length : Int) by omega)]
      refine iteT ⟨_, _, rfl, rfl, ?_⟩
      show Q (V.bl (decide _)) H
      rw [show decide ((vs.length : Int) ≤ 4) = decide (1 ≤ vs.length ∧ vs.length ≤ 4) by rw [decide_eq_decide]; omega]
      exact q
    · rw [decide_eq_false (show ¬ (1 : Int) ≤ (vs.length : Int) by omega)]
      rw [dec_nand p1] at q
      exact iteF q
  · obtain rfl : part = _ := ep
    obtain rfl : b = _ := eb
    refine seq_if (b := false) (tst rfl (by decide +kernel)) (fun z => nomatch z) (fun _ => seq_if (b := true) (tst rfl (by decide +kernel)) (fun _ => ?_) (fun z => nomatch z))
    exact ⟨_, rfl, _, .ty "tuple", .type "list", .type "tuple", false, rfl, .ty _, .base (.lst ec), kit_ty (by decide +kernel), _, rfl, iteF q⟩
  · obtain rfl : part = _ := ep
    obtain rfl : b = _ := eb
    refine seq_if (b := false) (tst rfl (by decide +kernel)) (fun z => nomatch z) (fun _ => seq_if (b := true) (tst rfl (by decide +kernel)) (fun _ => ?_) (fun z => nomatch z))
    exact ⟨_, rfl, _, .ty "tuple", .type "str", .type "tuple", false, rfl, .ty _, .base (.str x), kit_ty (by decide +kernel), _, rfl, iteF q⟩
  · obtain rfl : b = _ := eb
    refine seq_if (b := false) (tst rfl (by decide +kernel)) (fun z => nomatch z) (fun _ => seq_if (b := false) (tst rfl (by decide +kernel)) (fun z => nomatch z) (fun _ => seq_if (b := true) (tst rfl (by decide +kernel)) (fun _ => q) (fun z => nomatch z)))
  · obtain rfl : part = _ := ep
    obtain rfl : b = _ := eb
    refine seq_if (b := false) (tst rfl (by decide +kernel)) (fun z => nomatch z) (fun _ => seq_if (b := false) (tst rfl (by decide +kernel)) (fun z => nomatch z) (fun _ => seq_if (b := false) (tst rfl (by decide +kernel)) (fun z => nomatch z) (fun _ => seq_if (b := true) (tst rfl (by decide +kernel)) (fun _ => ?_) (fun z => nomatch z))))
    refine ⟨_, rfl, _, rfl, .inl ⟨j, rfl, _, rfl, ?_⟩⟩
    refine iteT ⟨_, rfl, _, rfl, _, _, rfl, rfl, _, rfl, ?_⟩
    by_cases p1 : (i : Int) < j
    · rw [decide_eq_true p1]
      refine iteT ⟨_, rfl, _, _, rfl, rfl, ?_⟩
      show Q (V.bl (decide _)) H
      rw [show decide (j < ((M : Nat) : Int)) = decide ((i : Int) < j ∧ j < (M : Int)) from dec_and p1]
      exact q
    · rw [decide_eq_false p1]
      rw [dec_nand p1] at q
      exact iteF q
theorem ok_can_beX {i M : Nat} (T : PTx w K mg) (hms : ∀ a, mg "SHAPES" = some (.ref a) → KMiss K w a "Step") (D : Def K mg "can_be" s_can_be ["thing", "number", "many"]) (DF : Def K mg "fits" s_fits psFits) (DN : Def K mg "is_number" s_is_number ["thing"]) : FnOk P w K mg base CX0 3 D.f D.fd ["thing", "number", "many"] (spCanBeX i M) := by
  have GF : FnOk P w K mg base CX0 2 DF.f DF.fd psFits (spFitsX i M) := ok_fitsX T DF DN
  obtain ⟨aS, gS, low, hS⟩ := T.shapes
  have nd := sc_can_be.nd
  refine D.ok sc_can_be (fun vs H Q E h => ?_) (fun cdv A outer s H vs Q E hr h => ?_)
  · obtain ⟨v, rfl, _⟩ := h
    rfl
  obtain ⟨v, rfl, h⟩ := h
  refine ⟨_, pss_cons (ps_if (PW.pt (pw_or (pt_not (pt_val (pe_callB call_isi rfl (T.free "isinstance" (by decide +kernel)) (by decide +kernel) (pa_cons (pv 0) (pa_cons (pe_bltn rfl (T.free "tuple" (by decide +kernel)) (by decide +kernel) (v := .ty "tuple") rfl) pa_nil)))))
      (pw_or (pt_not (pt_truth (pv 0) (by intro _; rfl))) (pw_or1 (pt_not (pt_val (pe_callB call_isi rfl (T.free "isinstance" (by decide +kernel)) (by decide +kernel) (pa_cons (pe_ix ix_tup (pv 0) pe_int (fun _ _ => rfl)) (pa_cons (pe_bltn rfl (T.free "str" (by decide +kernel)) (by decide +kernel) (v := .ty "str") rfl) pa_nil))))))))) (pss_one (ps_ret pe_bl)) pss_nil)
    (pss_cons (ps_set (i := 3) nd rfl (Or.inl rfl) (pe_kget2 (pe_glob rfl gS (v := .ref aS) rfl) (pe_ix ix_tup (pv 0) pe_int (fun _ _ => rfl)) pe_non ⟨rfl, rfl, rfl, rfl⟩))
    (pss_cons (ps_if (PW.pt (pw_or (pt_cmpR op_isN (pv 3) pe_non (nomark _)) (pw_or1 (pt_cmpR op_ne (pe_callB call_len_seq rfl (T.free "len" (by decide +kernel)) PySem.boot_len (pa_cons (pv 0) pa_nil)) (pe_op op_add (pe_callB call_len_seq rfl (T.free "len" (by decide +kernel)) PySem.boot_len (pa_cons (pv 3) pa_nil)) pe_int) (nomark _))))) (pss_one (ps_ret pe_bl)) pss_nil)
    (pss_one (ps_ret (pe_callB (cr_all rfl) rfl (T.free "all" (by decide +kernel)) (by decide +kernel) (pa_cons
      (pe_lc (own := [("part", 4), ("kind", 5)]) (g := gTup K 2 (gCons (gName 4) (gCons (gName 5) gNil))) (tt := tYes) rfl nd (RZ.pi_zipA rfl (T.free "zip" (by decide +kernel)) (pa_cons (pe_slice sl_tupA (pv 0) (po_some pe_int) po_none) (pa_cons (pv 3) pa_nil))) (blkOk_by (N := nmCanBe) (sc := defScope s_can_be) (by decide +kernel))
        (fun _ _ _ _ _ => pg_tup rfl (pgs_cons (pg_name (i := 4) nd rfl (Or.inl rfl)) (pgs_cons (pg_name (i := 5) nd rfl (Or.inl rfl)) pgs_nil))) (fun _ _ _ _ _ => pts_nil)
        (fun _ _ _ _ _ => pcall DF GF hr (pa_cons (pv 4) (pa_cons (pv 5) (pa_cons (pv 1) (pa_cons (pv 2) pa_nil)))))) pa_nil)))))), ?_⟩
  have h' : (∃ t, TyX K H v t ∧ PySem.W.kitOne K t (.type "tuple") = some false ∧ ∀ H', Same H H' → Q (.bl false) H') ∨ (∃ a, v = .ref a ∧ H a = some (.tup []) ∧ ∀ H', Same H H' → Q (.bl false) H') ∨ (∃ a rest, v = .ref a ∧ H a = some (.tup (.str "Step" :: rest)) ∧ ∀ H', Same H H' → Q (.bl false) H') ∨
      (∃ (a : Addr) (nm : Str) (rest : List V) (kinds : List Str), v = .ref a ∧ H a = some (.tup (.str nm :: rest)) ∧ (nm, kinds) ∈ shapesL ∧ rest.length ≠ kinds.length ∧ rest.length ≤ 100 ∧ ∀ H', Same H H' → Q (.bl false) H') ∨
      ∃ (a : Addr) (nm : Str) (rest : List V) (kinds : List Str) (prs : List (V × Bool)), v = .ref a ∧ H a = some (.tup (.str nm :: rest)) ∧ (nm, kinds) ∈ shapesL ∧ rest = prs.map (·.1) ∧ Paired (FitB H i M) prs kinds ∧ ∀ H', Same H H' → Q (.bl ((prs.map (·.2)).all id)) H' := by
    rcases h with ⟨sc, d, R, hs, ho, q⟩ | ⟨h, q⟩
    · obtain ⟨a, nm, rest, rfl, ea⟩ := hs.tag
      obtain ⟨kinds, kv, prs, S⟩ := hs.shapeX (i := i) (M := M) ho ea
      exact .inr (.inr (.inr (.inr ⟨a, nm, rest, kinds, prs, rfl, ea, S.mem, S.fst, S.fit, by rw [S.all]; exact q⟩)))
    rcases h with (rfl | ⟨x, rfl⟩ | ⟨n, rfl⟩ | ⟨a, x, vs, rfl, h⟩) | ⟨a, rfl, h⟩ | ⟨a, rest, rfl, h⟩ | ⟨a, nm, rest, kinds, rfl, h, h2, h3, h4⟩ | ⟨a, nm, kinds, prs, rfl, h, h2, h3, h4⟩
    · exact .inl ⟨_, .base .non, kit_ty (by decide +kernel), q⟩
    · exact .inl ⟨_, .base (.str x), kit_ty (by decide +kernel), q⟩
    · exact .inl ⟨_, .base (.int n), kit_ty (by decide +kernel), q⟩
    · exact .inl ⟨_, .base (.lst h), kit_ty (by decide +kernel), q⟩
    · exact .inr (.inl ⟨a, rfl, h, q⟩)
    · exact .inr (.inr (.inl ⟨a, rest, rfl, h, q⟩))
    · exact .inr (.inr (.inr (.inl ⟨a, nm, rest, kinds, rfl, h, h2, h3, h4, q⟩)))
    · exact .inr (.inr (.inr (.inr ⟨a, nm, _, kinds, prs, rfl, h, h2, rfl, h3 i M, by rw [h4]; exact q⟩)))
  clear h
  rcases h' with ⟨t, ht, hk, q⟩ | ⟨a, rfl, ea, q⟩ | ⟨a, rest, rfl, ea, q⟩ | ⟨a, nm, rest, kinds, rfl, ea, hm, hne, hr9, q⟩ | ⟨a, nm, rest, kinds, prs, ev, ea, Smem, efst, Sfit, q⟩
  · exact seq_if (b := true) (fun Q q => ⟨_, rfl, _, .ty "tuple", t, .type "tuple", false, rfl, .ty _, ht, hk, _, rfl, iteT q⟩) (fun _ => q H (Same.refl _)) (fun z => nomatch z)
  · exact seq_if (b := true) (fun Q q => ⟨_, rfl, _, .ty "tuple", .type "tuple", .type "tuple", true, rfl, .ty _, .base (.tup ea), kit_ty (by decide +kernel), _, rfl, iteF ⟨_, rfl, false, .inr (.inl ⟨_, SqT.of ea, rfl⟩), iteT q⟩⟩) (fun _ => q H (Same.refl _)) (fun z => nomatch z)
  · refine seq_if (b := false || (false || false)) (ev_or (b := false) (c := false || false) (fun Q q => ⟨_, rfl, _, .ty "tuple", .type "tuple", .type "tuple", true, rfl, .ty _, .base (.tup ea), kit_ty (by decide +kernel), _, rfl, q⟩)
      (ev_or (b := false) (c := false) (fun Q q => ⟨_, rfl, true, .inr (.inl ⟨_, SqT.of ea, rfl⟩), q⟩) (fun Q q => ⟨_, rfl, a, _, 0, .str "Step", rfl, rfl, SqT.of ea, at0, _, .ty "str", .type "str", .type "str", true, rfl, .ty _, .base (.str "Step"), kit_ty (by decide +kernel), _, rfl, q⟩))) (fun z => nomatch z) (fun _ => ?_)
    obtain ⟨t, kd, qt⟩ := hS ("step", ["word", "points"]) (by decide +kernel)
    refine ⟨aS, rfl, low, ⟨_, _, kd⟩, _, rfl, a, _, 0, .str "Step", rfl, rfl, SqT.of ea, at0, "Step", rfl, .inr ⟨hms _ gS, ?_⟩⟩
    dsimp only [gName]
    exact seq_if (b := true) (fun Q q => ⟨_, rfl, rfl, _, rfl, iteT q⟩) (fun _ => q H (Same.refl _)) (fun z => nomatch z)
  · obtain ⟨t, kd, qt⟩ := hS _ hm
    refine seq_if (b := false || (false || false)) (ev_or (b := false) (c := false || false) (fun Q q => ⟨_, rfl, _, .ty "tuple", .type "tuple", .type "tuple", true, rfl, .ty _, .base (.tup ea), kit_ty (by decide +kernel), _, rfl, q⟩)
      (ev_or (b := false) (c := false) (fun Q q => ⟨_, rfl, true, .inr (.inl ⟨_, SqT.of ea, rfl⟩), q⟩) (fun Q q => ⟨_, rfl, a, _, 0, .str nm, rfl, rfl, SqT.of ea, at0, _, .ty "str", .type "str", .type "str", true, rfl, .ty _, .base (.str nm), kit_ty (by decide +kernel), _, rfl, q⟩))) (fun z => nomatch z) (fun _ => ?_)
    refine ⟨aS, rfl, low, ⟨_, _, kd⟩, _, rfl, a, _, 0, .str nm, rfl, rfl, SqT.of ea, at0, nm, rfl, .inl ⟨_, kd, ?_⟩⟩
    dsimp only [gName]
    refine seq_if (b := false || true) (ev_or (b := false) (c := true) (fun Q q => ⟨_, rfl, rfl, _, rfl, by rw [decide_eq_false (fun z => nomatch z)]; exact q⟩)
      (fun Q q => ⟨_, rfl, a, _, rfl, .inr (SqT.of ea), _, rfl, t, _, rfl, .inr (qt _), _, _, rfl, rfl, rfl, _, rfl, (by
        have e : ¬ V.int (((V.str nm :: rest).length : Nat) : Int) = V.int (((kinds.map V.str).length : Nat) + 1 : Int) := fun z => by
          have z := V.int.inj z
          rw [List.length_cons, List.length_map] at z
          omega
        rw [decide_eq_false e]
        exact q)⟩)) (fun _ => q H (Same.refl _)) (fun z => nomatch z)
  subst ev
  obtain ⟨t, kd, qt⟩ := hS _ Smem
  have lpk := Paired.length Sfit
  have lrk : rest.length = kinds.length := by rw [efst, List.length_map, lpk]
  have lk3 : kinds.length ≤ 3 := by
    have z : ∀ p ∈ shapesL, p.2.length ≤ 3 := by decide +kernel
    exact z _ Smem
  refine seq_if (b := false || (false || false)) (ev_or (b := false) (c := false || false) (fun Q q => ⟨_, rfl, _, .ty "tuple", .type "tuple", .type "tuple", true, rfl, .ty _, .base (.tup ea), kit_ty (by decide +kernel), _, rfl, q⟩)
    (ev_or (b := false) (c := false) (fun Q q => ⟨_, rfl, true, .inr (.inl ⟨_, SqT.of ea, rfl⟩), q⟩) (fun Q q => ⟨_, rfl, a, _, 0, .str nm, rfl, rfl, SqT.of ea, at0, _, .ty "str", .type "str", .type "str", true, rfl, .ty _, .base (.str nm), kit_ty (by decide +kernel), _, rfl, q⟩))) (fun z => nomatch z) (fun _ => ?_)
  refine ⟨aS, rfl, low, ⟨_, _, kd⟩, _, rfl, a, _, 0, .str nm, rfl, rfl, SqT.of ea, at0, nm, rfl, .inl ⟨_, kd, ?_⟩⟩
  dsimp only [gName]
  refine seq_if (b := false || false) (ev_or (b := false) (c := false) (fun Q q => ⟨_, rfl, rfl, _, rfl, by rw [decide_eq_false (fun z => nomatch z)]; exact q⟩)
    (fun Q q => ⟨_, rfl, a, _, rfl, .inr (SqT.of ea), _, rfl, t, _, rfl, .inr (qt _), _, _, rfl, rfl, rfl, _, rfl, (by
      have e : V.int (((V.str nm :: rest).length : Nat) : Int) = V.int (((kinds.map V.str).length : Nat) + 1 : Int) := by
        rw [List.length_cons, List.length_map, lrk]
        rfl
      rw [decide_eq_true e]
      exact q)⟩)) (fun z => nomatch z) (fun _ => ?_)
  refine ⟨_, rfl, 1, rfl, a, _, rfl, SqT.of ea, fun z => absurd z (not_whole (Nat.succ_pos _)), fun _ p hp => ?_⟩
  have s1 : Same H (upd H p (.tup (cutV (V.str nm :: rest) (some 1) none))) := Same.new hp
  have ec : cutV (V.str nm :: rest) (some 1) none = rest := cut_from (V.str nm :: rest) 1
  rw [ec] at s1 ⊢
  refine ⟨_, rfl, p, t, rest, kinds.map V.str, rfl, .inr ⟨SqT.of upd_same, qt _, fun Dd hD => ?_⟩⟩
  have s2 := s1.trans (Same.new (o := .lst []) hD)
  have ep : upd H p (.tup rest) p = some (.tup rest) := upd_same
  refine lc_it (walk_zipT (K := K) (a := p) (b := t) (xs := rest) (ys := kinds.map V.str) (n := rest.length) (by rw [List.length_map]; omega)) (fun j H'' => H'' Dd = some (.lst (((prs.take j).map (·.2)).map V.bl)) ∧ Same (upd H p (.tup rest)) H'') ⟨upd_same, Same.new hD⟩ (fun j H'' _ ⟨_, s3⟩ => ⟨SqT.of (s3 _ _ ep), qt _⟩) ?_ ?_
  · rintro j x H2 H3 hj ⟨eD, s3⟩ ⟨T1, x1, x2, rfl, hT1, rfl, ex1, ex2⟩
    obtain ⟨k', ek', rfl⟩ : ∃ k', kinds[j]? = some k' ∧ x2 = V.str k' := by
      have ex2 : (kinds.map V.str)[j]? = some x2 := ex2
      rw [List.getElem?_map] at ex2
      cases e : kinds[j]? with
      | none => rw [e] at ex2; cases ex2
      | some k' => rw [e] at ex2; exact ⟨k', rfl, (Option.some.inj ex2).symm⟩
    obtain ⟨⟨x', b'⟩, ex', hf⟩ := pr_get Sfit ek'
    have ex1 : rest[j]? = some x1 := ex1
    rw [efst, List.getElem?_map, ex'] at ex1
    obtain rfl : x' = x1 := Option.some.inj ex1
    have s4 := (s1.trans s3).trans (Same.new (o := .tup [x', .str k']) hT1)
    refine ⟨T1, _, rfl, SqT.of upd_same, rfl, _, _, rfl, _, _, rfl, rfl, rfl, _, rfl, _, rfl, _, rfl, _, rfl, x', k', b', rfl, hf.keep s4, _, Same.new hT1 _ _ eD, ?_, ?_, ?_⟩
    · rw [List.length_map, List.length_map, List.length_take]
      exact small1000 (by omega)
    · rw [upd_same, List.take_succ, ex', List.map_append, List.map_append]
      rfl
    · exact fun b o e => by
        rw [upd_ne (ne_of_none e hD)]
        exact (s3.trans (Same.new hT1)) b o e
  · rintro H'' ⟨eD, s3⟩
    rw [show prs.take rest.length = prs by rw [lrk, ← lpk, List.take_length]] at eD
    refine ⟨Dd, _, rfl, SqL.of eD, ?_⟩
    exact q _ (s1.trans s3)
theorem ok_withinX (T : PTx w K mg) (D : Def K mg "within" s_within ["scheme"]) : FnOk P w K mg base CX0 1 D.f D.fd ["scheme"] spWithinX := by
  obtain ⟨aS, gS, low, hS⟩ := T.shapes
  have nd := sc_within.nd
  refine D.ok sc_within (fun vs H Q E h => ?_) (fun cdv A outer s H vs Q E hr h => ?_)
  · obtain ⟨v, sc, d, R, rfl, _⟩ := h
    rfl
  obtain ⟨v, sc, d, R, rfl, hs, ho, q⟩ := h
  refine ⟨_, pss_cons (ps_set (i := 1) nd rfl (Or.inl rfl) (pe_ix ix_tup (pe_ix ix_kdict (pe_glob rfl gS (v := .ref aS) rfl) (pe_ix ix_tup (pv 0) pe_int (fun _ _ => rfl)) (fun _ _ => rfl)) (pe_un un_neg pe_int) (fun _ _ => rfl)))
    (pss_cons (ps_if (pt_cmpR op_eq (pv 1) pe_str (nomark _)) (pss_one (ps_ret (pe_callTy call_list_of rfl (T.free "list" (by decide +kernel)) (by decide +kernel) (pa_cons (pe_ix ix_tup (pv 0) (pe_un un_neg pe_int) (fun _ _ => rfl)) pa_nil)))) pss_nil)
    (pss_one (ps_ret (pe_ifExp (pt_cmpR op_eq (pv 1) pe_str (nomark _)) (pe_lst (pa_cons (pe_ix ix_tup (pv 0) (pe_un un_neg pe_int) (fun _ _ => rfl)) pa_nil)) (pe_lst pa_nil))))), ?_⟩
  obtain ⟨a, nm, rest, rfl, ea⟩ := hs.tag
  obtain ⟨kinds, kv, prs, S⟩ := hs.shapeX (i := 0) (M := 0) ho ea
  obtain ⟨t, kd, qt⟩ := hS _ S.mem
  obtain ⟨kl, hl, hk⟩ := S.k1
  refine ⟨_, rfl, a, _, 0, .str nm, rfl, rfl, SqT.of ea, at0, aS, nm, .ref t, rfl, rfl, kd, 1, rfl, t, _, -1, .str kl, rfl, rfl, qt _, hl, ?_⟩
  have S_at := S.at_
  rcases hk with ⟨e, b, e1, eb⟩ | ⟨e, u, e1, ek⟩ | ⟨n1, n2, ek⟩
  · refine seq_if (b := true) (is_word rfl (by rw [e]; decide +kernel)) (fun _ => ?_) (fun z => nomatch z)
    exact ⟨_, rfl, 1, rfl, a, _, -1, .ref b, rfl, rfl, SqT.of ea, e1, b, kv, rfl, .inr (SqT.of eb), fun l hl' => q l kv hl' S_at⟩
  · refine seq_if (b := false) (is_word rfl (by rw [e]; decide +kernel)) (fun z => nomatch z) (fun _ => ?_)
    refine is_word (b := true) rfl (by rw [e]; decide +kernel) _ (iteT ?_)
    exact ⟨_, rfl, 1, rfl, a, _, -1, u, rfl, rfl, SqT.of ea, e1, szN (by show 1 ≤ 1000; decide), fun l hl' => q l _ hl' (by rw [← ek]; exact S_at)⟩
  · refine seq_if (b := false) (is_word rfl (beq_eq_false_iff_ne.mpr n1)) (fun z => nomatch z) (fun _ => ?_)
    refine is_word (b := false) rfl (beq_eq_false_iff_ne.mpr n2) _ (iteF ?_)
    exact ⟨Nat.zero_le _, fun l hl' => q l _ hl' (by rw [← ek]; exact S_at)⟩
end
end MS
end
section
set_option maxRecDepth 100000
set_option maxHeartbeats 4000000
namespace MS
open PySem L2
open HeY XTup
/-! ### the error with two values -/
theorem small_text2 {n : Int} (h0 : 0 ≤ n) (h1 : n < 1900) : n.natAbs.log2 < 1920 ∧ (Str.ofString (toString n)).length ≤ 5 := by
  have h2 : n.natAbs < 10 ^ 4 := by
    show n.natAbs < 10000
    omega
  refine ⟨?_, ?_⟩
  · by_cases z : n.natAbs = 0
    · rw [z]
      decide
    · exact Nat.lt_of_le_of_lt (Nat.log2_le_self _) (by omega)
  · rw [PySem.ofString_length]
    exact PySem.int_text_length_le10 (k := 4) (by decide) h2
abbrev s_Paper_init : Stmt := inClass (topS 3) 0
abbrev dPaper : InD := ⟨"BadPaper", "BadPaper.__init__", defArgs s_Paper_init, defBody s_Paper_init, defScope s_Paper_init⟩
def RaisedP (C : Addr) (n : Nat) (wh : List Nat) (H : Hp) (E : XK) : Prop := ∀ (d q : Addr) (H' : Hp), H d = none → Same H H' → H' d = some (.xd [("place", .ref q), ("scheme", .int ((n : Nat) : Int))]) → H' q = some (.tup (natV wh)) → E (.ref C) (some d) H'
theorem RaisedP.from {C : Addr} {n : Nat} {wh : List Nat} {H H1 : Hp} {E : XK} (h : RaisedP C n wh H E) (s : Same H H1) : RaisedP C n wh H1 E := fun d q H' hd s' e e2 => h d q H' (s.free hd) (Same.trans s s') e e2
def spInit2 (C : Addr) : Sp := fun vs H Q _ => ∃ (a q : Addr) (n : Nat) (wh : List Nat), vs = [.ref a, .int ((n : Nat) : Int), .ref q] ∧ n < 1900 ∧ H a = some (exo a C none) ∧ H q = some (.tup (natV wh)) ∧ wh.length ≤ 100 ∧ (∀ x ∈ wh, x < 1000) ∧
  ∀ dx, H dx = none → dx ≠ a → Q .non (upd (upd (upd H dx (exd dx [("scheme", .int ((n : Nat) : Int))])) a (exo a C (some dx))) dx (exd dx [("place", .ref q), ("scheme", .int ((n : Nat) : Int))]))
structure Rsr2 (P : Program) (w : World) (K : PySem.W.Frag) (mg : Str → Option Value) (base : Heap) where
  C : Addr
  f : Addr
  fd : FuncData
  T : OexC K C
  init : PySem.W.findIn K (.ref C) "__init__" = some (some (.ref f))
  ty : PySem.W.typeIn K (.ref f) = some (.type "function")
  ok : FnOk P w K mg base CX0 1 f fd ["self", "scheme", "place"] (spInit2 C)
  b : Binds K fd ["self", "scheme", "place"] []
  g : mg "BadPaper" = some (.ref C)
theorem pmk_r2 {X : Cx} {e e' : Expr} {te te' : TE} {p pos : Pos} (R : Rsr2 X.prog X.w X.K X.mg X.base) (hr : Room 2 X.A) (he : PE X e te) (he' : PE X e' te') (hg : Gl X "BadPaper" := by rfl)
    (h0 : starEach [e'] X.env = (false, eval e' X.env) :: starEach [] X.env := by rfl) (h1 : starEach [e, e'] X.env = (false, eval e X.env) :: starEach [e'] X.env := by rfl) (h2 : (backTo pos (starEach [e'] X.env)).any (·.1) = false := by rfl) : PMk X (.Call (.Name "BadPaper" p) [e, e'] [] pos) (tMkO R.C (spInit2 R.C) [] (tCons te (tCons te' tNil))) :=
  pmk_oex R.T R.init R.ty R.ok hr R.b .nil pass0 hg R.g (pa_cons he (pa_cons he' pa_nil (hs := h0)) (hs := h1)) (by decide) h1 h2
theorem raised2_of {C q : Addr} {n : Nat} {wh : List Nat} {H1 : Hp} {Q : XK} (h1 : n < 1900) (hq : H1 q = some (.tup (natV wh))) (hl : wh.length ≤ 100) (hw : ∀ x ∈ wh, x < 1000)
    (h : ∀ (d : Addr) (H' : Hp), H1 d = none → Same H1 H' → H' d = some (.xd [("place", .ref q), ("scheme", .int ((n : Nat) : Int))]) → Q (.ref C) (some d) H') : [V.int ((n : Nat) : Int), .ref q].length ≤ 1000 ∧ ∀ a, H1 a = none → spInit2 C (.ref a :: ([.int ((n : Nat) : Int), .ref q] ++ [])) (upd H1 a (exo a C none))
    (fun v H2 => v = .non ∧ ∃ (d : Addr) (fs : List (Str × V)), H2 a = some (exo a C (some d)) ∧ H2 d = some (exd d fs) ∧ H1 d = none ∧ Q (.ref C) (some d) (upd (L2.del H2 a) d (.xd fs))) (fun _ _ _ => False) := by
  refine ⟨by show 2 ≤ 1000; decide, fun a ha => ⟨a, q, n, wh, rfl, h1, upd_same, by rw [upd_ne (ne_of_none hq ha)]; exact hq, hl, hw, fun dx hdx hne => ⟨rfl, dx, [("place", .ref q), ("scheme", .int ((n : Nat) : Int))], by rw [upd_ne hne.symm]; exact upd_same, upd_same, ?_, ?_⟩⟩⟩
  · rw [upd_ne hne] at hdx
    exact hdx
  · rw [upd_ne hne] at hdx
    refine h dx _ hdx (fun b o e => ?_) upd_same
    have n1 : b ≠ a := ne_of_none e ha
    have n2 : b ≠ dx := ne_of_none e hdx
    rw [upd_ne n2, L2.del_ne n1, upd_ne n2, upd_ne n1, upd_ne n2, upd_ne n1]
    exact e
/-- raise BadPaper(e, e') -/
theorem ps_rs2 {X : Cx} {e e' : Expr} {te te' : TE} {p pos pos' : Pos} {W : WX} (R : Rsr2 X.prog X.w X.K X.mg X.base) (hc : X.calm = true) (tk : L2.Takes X W) (hr : Room 2 X.A) (he : PE X e te) (he' : PE X e' te') (hg : Gl X "BadPaper" := by rfl)
    (h0 : starEach [e'] X.env = (false, eval e' X.env) :: starEach [] X.env := by rfl) (h1 : starEach [e, e'] X.env = (false, eval e X.env) :: starEach [e'] X.env := by rfl) (h2 : (backTo pos (starEach [e'] X.env)).any (·.1) = false := by rfl) :
    PS X (.Raise (some (.Call (.Name "BadPaper" p) [e, e'] [] pos)) none pos') (fun _ σ H => tMkO R.C (spInit2 R.C) [] (tCons te (tCons te' tNil)) σ H fun cls d H' => W cls d σ H') :=
  L2.ps_raise hc tk (pmk_r2 R hr he he' hg h0 h1 h2)
theorem natV_ints2 (wh : List Nat) : natV wh = (wh.map fun n => ((n : Nat) : Int)).map V.int := by
  unfold natV
  rw [List.map_map]
  rfl
section
variable {P : Program} {w : World} {K : PySem.W.Frag} {mg : Str → Option Value} {base : Heap}
theorem init_paper (Y : SupX P K dPaper) (hP : (P.main.scope.names.lookup ("super" : Str)).isSome = false) (msu : mg "super" = none) (hno1 : PySem.W.findIn K (.ref (He.ga K "BadPaper")) "scheme" = some none) (hno2 : PySem.W.findIn K (.ref (He.ga K "BadPaper")) "place" = some none) {fd : FuncData} (hfd : ∃ oc od osl, K.lookup (He.ma K (He.ga K "BadPaper") "__init__") = some ⟨oc, od, .func fd, osl⟩) :
    FnOk P w K mg base CX0 1 (He.ma K (He.ga K "BadPaper") "__init__") fd ["self", "scheme", "place"] (spInit2 (He.ga K "BadPaper")) := by
  refine XSU.fn_super (N := ["self", "scheme", "place", "__class__"]) (k := 0) Y.c rfl hfd (NdefX.nscope_by (by decide +kernel)) rfl rfl msu rfl hP (fun vs H Q E h => ?_) (fun env => rfl) (fun env => rfl) (fun A outer s H vs Q E hr h => ?_)
  · obtain ⟨a, q0, n, wh, rfl, _⟩ := h
    rfl
  obtain ⟨a, q0, n, wh, rfl, h1, ea, eq0, hl, hw, q⟩ := h
  obtain ⟨t1, t2⟩ := small_text2 (n := ((n : Nat) : Int)) (by omega) (by omega)
  refine ⟨a, [.int ((n : Nat) : Int), .ref q0], _, _, rfl, pe_joined (.cons pe_str (.cons (pe_fmt (pv 1)) (.cons pe_str (.cons (pe_fmtI hr (pv 2)) .nil)))), pss_cons (ps_ost (pv 0) (pv 1)) (pss_one (ps_ost (pv 0) (pv 2))), ea, ?_⟩
  have e0 : (Str.empty ++ ("no paper: scheme " : Str)).length = 17 := by decide +kernel
  have e1 : ∀ (x y : Str), (x ++ y).length = x.length + y.length := fun x y => Str.length_append _ _
  have e2 : (", place " : Str).length = 8 := by decide +kernel
  refine ⟨_, rfl, by decide +kernel, _, rfl, .inr ⟨_, rfl, t1, _, rfl, ?_, _, rfl, ?_, _, rfl, q0, wh.map fun n => ((n : Nat) : Int), rfl, ?_, ?_, by rw [List.length_map]; omega, fun m hm => ⟨_, rfl, ?_, ea, ?_⟩⟩⟩
  · exact szN (by rw [e1, e0]; omega)
  · exact szN (by rw [e1, e1, e0, e2]; omega)
  · rw [← natV_ints2]
    exact SqT.of eq0
  · intro i hi
    obtain ⟨x, hx, rfl⟩ := List.mem_map.mp hi
    have := hw x hx
    have e : (10 : Nat) ^ 4 = 10000 := by decide
    omega
  · rw [List.length_map] at hm
    exact szN (by rw [e1, e1, e1, e0, e2]; omega)
  · refine ⟨_, rfl, _, rfl, a, _, rfl, Y.c.T, hno1, .inl ⟨ea, fun dx hdx hne => ⟨_, rfl, _, rfl, a, _, rfl, Y.c.T, hno2, .inr ⟨dx, _, upd_same, by rw [upd_ne hne]; exact upd_same, by show 1 ≤ 900; decide, q dx hdx hne⟩⟩⟩⟩
end
/-! ### the first bad place, pure -/
def fbW (i M : Nat) : Nat → List (List Nat × Sch) → Option (List Nat)
  | _, [] => none
  | 0, x :: _ => some x.1
  | n + 1, x :: L => if x.1.length ≤ 4 ∧ okOwn i M x.2 = true then fbW i M n (waitsOf x.1 0 (kidsOf x.2) ++ L) else some x.1
theorem fbW_nil (i M n : Nat) : fbW i M n [] = none := by cases n <;> rfl
theorem fbW_zero (i M : Nat) (x : List Nat × Sch) (L : List (List Nat × Sch)) : fbW i M 0 (x :: L) = some x.1 := rfl
theorem fbW_succ (i M n : Nat) (x : List Nat × Sch) (L : List (List Nat × Sch)) : fbW i M (n + 1) (x :: L) = if x.1.length ≤ 4 ∧ okOwn i M x.2 = true then fbW i M n (waitsOf x.1 0 (kidsOf x.2) ++ L) else some x.1 := rfl
theorem waits_cons (wh : List Nat) (n : Nat) (s : Sch) (r : List Sch) : waitsOf wh n (s :: r) = (wh ++ [n], s) :: waitsOf wh (n + 1) r := by
  unfold waitsOf
  rw [List.zipIdx_cons, List.map_cons]
theorem waits_map {β : Type} (f : Nat → Sch → β) (wh : List Nat) : ∀ (ks : List Sch) (n : Nat), (waitsOf wh n ks).map (fun x => f x.1.length x.2) = ks.map (f (wh.length + 1))
  | [], _ => rfl
  | s :: r, n => by
    rw [waits_cons, List.map_cons, waits_map f wh r (n + 1), List.map_cons]
    show f (wh ++ [n]).length s :: _ = _
    rw [List.length_append, List.length_singleton]
theorem waits_mem {wh : List Nat} : ∀ {ks : List Sch} {n : Nat} {y : List Nat × Sch}, y ∈ waitsOf wh n ks → y.1.length = wh.length + 1 ∧ y.2 ∈ ks
  | [], _, _, h => nomatch h
  | s :: r, n, y, h => by
    rw [waits_cons] at h
    rcases List.mem_cons.mp h with rfl | h
    · exact ⟨by rw [List.length_append, List.length_singleton], List.mem_cons_self⟩
    · obtain ⟨h1, h2⟩ := waits_mem h
      exact ⟨h1, List.mem_cons_of_mem _ h2⟩
theorem waits_of {wh : List Nat} : ∀ {ks : List Sch} {n : Nat} {s : Sch}, s ∈ ks → ∃ y ∈ waitsOf wh n ks, y.1.length = wh.length + 1 ∧ y.2 = s
  | [], _, _, h => nomatch h
  | s0 :: r, n, s, h => by
    rw [waits_cons]
    rcases List.mem_cons.mp h with rfl | h
    · exact ⟨_, List.mem_cons_self, by rw [List.length_append, List.length_singleton], rfl⟩
    · obtain ⟨y, h1, h2, h3⟩ := waits_of (n := n + 1) h
      exact ⟨y, List.mem_cons_of_mem _ h1, h2, h3⟩
theorem waits_len (wh : List Nat) (n : Nat) (ks : List Sch) : (waitsOf wh n ks).length = ks.length := by
  unfold waitsOf
  rw [List.length_map, List.length_zipIdx]
theorem ok_up {i M d d0 : Nat} {s : Sch} (f : Frm (d0 + 1) s) (o : okOwn i M s = true) (k : ∀ x ∈ kidsOf s, OkS i M d x) : OkS i M (d + 1) s := by
  cases s with
  | step w p => exact ⟨f.1, (of_decide_eq_true o).1, (of_decide_eq_true o).2⟩
  | all l => exact ⟨(of_decide_eq_true o).1, (of_decide_eq_true o).2, k⟩
  | best l => exact ⟨(of_decide_eq_true o).1, (of_decide_eq_true o).2, k⟩
  | most n s => exact ⟨of_decide_eq_true o, k s List.mem_cons_self⟩
  | half s => exact k s List.mem_cons_self
  | seen w s => exact ⟨f.1, k s List.mem_cons_self⟩
  | behind w s => exact ⟨f.1, k s List.mem_cons_self⟩
  | carry s => exact k s List.mem_cons_self
  | fin w p s => exact ⟨⟨f.1.1, (of_decide_eq_true o).1, (of_decide_eq_true o).2⟩, k s List.mem_cons_self⟩
  | use n => exact (of_decide_eq_true o : i < n ∧ n < M)
theorem fb_ok {i M : Nat} : ∀ (n : Nat) (L : List (List Nat × Sch)), (∀ x ∈ L, ∃ d, Frm d x.2) → fbW i M n L = none → (∀ x ∈ L, OkS i M (5 - x.1.length) x.2) ∧ (L.map fun x => sz (5 - x.1.length) x.2).sum ≤ (n : Int)
  | n, [], _, _ => ⟨(fun _ h => nomatch h), by show (0 : Int) ≤ _; omega⟩
  | 0, _ :: _, _, h => by cases h
  | n + 1, x :: L, f, h => by
    rw [fbW_succ] at h
    by_cases c : x.1.length ≤ 4 ∧ okOwn i M x.2 = true
    · rw [if_pos c] at h
      obtain ⟨d0, fx⟩ := f x List.mem_cons_self
      cases d0 with
      | zero => cases fx
      | succ d0 =>
        have fk := frm_kids fx
        obtain ⟨ih1, ih2⟩ := fb_ok n _ (fun y hy => by
          rcases List.mem_append.mp hy with hy | hy
          · exact ⟨d0, fk _ (waits_mem hy).2⟩
          · exact f y (List.mem_cons_of_mem _ hy)) h
        obtain ⟨d, hd⟩ : ∃ d, 5 - x.1.length = d + 1 := ⟨4 - x.1.length, by omega⟩
        have hd1 : 5 - (x.1.length + 1) = d := by omega
        have ok1 : OkS i M (5 - x.1.length) x.2 := by
          rw [hd]
          refine ok_up fx c.2 fun s hs => ?_
          obtain ⟨y, hy, e1, e2⟩ := waits_of (wh := x.1) (n := 0) hs
          have := ih1 y (List.mem_append.mpr (.inl hy))
          rw [e1, e2, hd1] at this
          exact this
        refine ⟨fun y hy => ?_, ?_⟩
        · rcases List.mem_cons.mp hy with rfl | hy
          · exact ok1
          · exact ih1 y (List.mem_append.mpr (.inr hy))
        · rw [List.map_append, List.sum_append, waits_map (fun k s => sz (5 - k) s), hd1] at ih2
          rw [List.map_cons, List.sum_cons, hd, sz_kids]
          have ih3 : ((kidsOf x.2).map (sz d)).sum + (L.map fun x => sz (5 - x.1.length) x.2).sum ≤ (n : Int) := ih2
          omega
    · rw [if_neg c] at h
      cases h
/-- a whole scheme -/
theorem fb_one {i M d : Nat} {s : Sch} (f : Frm d s) (h : fbW i M 12 [([], s)] = none) : OkS i M 5 s ∧ sz 5 s ≤ 12 := by
  obtain ⟨h1, h2⟩ := fb_ok 12 [([], s)] (fun x hx => by rw [List.mem_singleton.mp hx]; exact ⟨d, f⟩) h
  refine ⟨h1 _ List.mem_cons_self, ?_⟩
  have h3 : sz 5 s + 0 ≤ 12 := h2
  omega
theorem at_okL {H : Hp} {i M d' d : Nat} (ih : ∀ (s : Sch) (v : V), OkS i M d' s → SAt H d s v → SAt H d' s v) : ∀ {k : List Sch} {vs : List V}, (∀ s ∈ k, OkS i M d' s) → Paired (SAt H d) k vs → Paired (SAt H d') k vs
  | _, _, _, .nil => .nil
  | _, _, o, .cons r t => .cons (ih _ _ (o _ List.mem_cons_self) r) (at_okL ih (fun s hs => o s (List.mem_cons_of_mem _ hs)) t)
/-- levels: what stands at some depth and can be at d stands at d -/
theorem at_ok {H : Hp} {i M : Nat} : ∀ (d' d : Nat) (s : Sch) (v : V), OkS i M d' s → SAt H d s v → SAt H d' s v
  | 0, _, _, _, o, _ => by cases o
  | _ + 1, 0, _, _, _, h => by cases h
  | d' + 1, d + 1, .step _ _, v, _, h => h
  | d' + 1, d + 1, .use _, v, _, h => h
  | d' + 1, d + 1, .all k, v, o, ⟨a, b, vs, e, h1, h2, h3⟩ => ⟨a, b, vs, e, h1, h2, at_okL (at_ok d' d) o.2.2 h3⟩
  | d' + 1, d + 1, .best k, v, o, ⟨a, b, vs, e, h1, h2, h3⟩ => ⟨a, b, vs, e, h1, h2, at_okL (at_ok d' d) o.2.2 h3⟩
  | d' + 1, d + 1, .most n s, v, o, ⟨a, u, e, h1, h2⟩ => ⟨a, u, e, h1, at_ok d' d s u o.2 h2⟩
  | d' + 1, d + 1, .half s, v, o, ⟨a, u, e, h1, h2⟩ => ⟨a, u, e, h1, at_ok d' d s u o h2⟩
  | d' + 1, d + 1, .seen w s, v, o, ⟨a, u, e, h1, h2⟩ => ⟨a, u, e, h1, at_ok d' d s u o.2 h2⟩
  | d' + 1, d + 1, .behind w s, v, o, ⟨a, u, e, h1, h2⟩ => ⟨a, u, e, h1, at_ok d' d s u o.2 h2⟩
  | d' + 1, d + 1, .carry s, v, o, ⟨a, u, e, h1, h2⟩ => ⟨a, u, e, h1, at_ok d' d s u o h2⟩
  | d' + 1, d + 1, .fin w p s, v, o, ⟨a, u, e, h1, h2⟩ => ⟨a, u, e, h1, at_ok d' d s u o.2 h2⟩
/-! ### counts, pure -/
def tot (E : Bool) (c : Nat → Int) (s : Sch) : Int := match E with
  | true => er c 5 s
  | false => wr c 5 s
theorem tot_congr {E : Bool} {j M : Nat} {c c' : Nat → Int} {s : Sch} (hc : ∀ n, j < n → c n = c' n) (o : OkS j M 5 s) : tot E c s = tot E c' s := by
  cases E
  · exact wr_congr (fun n h1 _ => hc n h1) 5 s o
  · exact er_congr (fun n h1 _ => hc n h1) 5 s o
def cnts (E : Bool) : Nat → List Sch → Nat → Int
  | _, [], _ => 0
  | i, s :: r, n => if n = i then tot E (cnts E (i + 1) r) s else cnts E (i + 1) r n
theorem cnts_eq {E : Bool} {M : Nat} : ∀ {ps : List Sch} {i j : Nat} {s : Sch}, (∀ (j : Nat) (s : Sch), ps[j]? = some s → OkS (i + j) M 5 s) → ps[j]? = some s → cnts E i ps (i + j) = tot E (cnts E i ps) s
  | [], _, _, _, _, h => by simp at h
  | s0 :: r, i, 0, s, o, h => by
    have h : some s0 = some s := h
    obtain rfl := Option.some.inj h
    have ok0 := o 0 s0 rfl
    show (if i + 0 = i then tot E (cnts E (i + 1) r) s0 else _) = _
    rw [if_pos (Nat.add_zero i)]
    refine tot_congr (fun n hn => ?_) ok0
    show _ = if n = i then _ else _
    rw [if_neg (by omega)]
  | s0 :: r, i, j + 1, s, o, h => by
    have h : r[j]? = some s := h
    have ok1 : OkS (i + (j + 1)) M 5 s := o (j + 1) s h
    have ih := cnts_eq (E := E) (M := M) (ps := r) (i := i + 1) (j := j) (s := s) (fun j s hs => by
      have := o (j + 1) s hs
      rw [show i + (j + 1) = i + 1 + j by omega] at this
      exact this) h
    show (if i + (j + 1) = i then _ else cnts E (i + 1) r (i + (j + 1))) = _
    rw [if_neg (by omega), show i + (j + 1) = i + 1 + j by omega, ih]
    rw [show i + (j + 1) = i + 1 + j by omega] at ok1
    refine tot_congr (fun n hn => ?_) ok1
    show _ = if n = i then _ else _
    rw [if_neg (by omega)]
/-- the first bad place of a paper's schemes -/
def fbL (M : Nat) : Nat → List Sch → Option (Nat × List Nat)
  | _, [] => none
  | i, s :: r => if i = 5 then some (5, []) else match fbW i M 12 [([], s)] with
    | some p => some (i, p)
    | none => fbL M (i + 1) r
/-- what is wrong with a paper -/
def badP (ps : List Sch) : Option (Nat × List Nat) := match fbL ps.length 0 ps with
  | some x => some x
  | none => if 7 < cnts true 0 ps 0 ∨ 3 < cnts false 0 ps 0 then some (ps.length, []) else none
/-! ### a scheme in which something may be no scheme: a use of the scheme 0 stands for it -/
def SAtO (H0 H : Hp) : Nat → Sch → V → Prop
  | 0, _, _ => False
  | d + 1, s, v => (s = .use 0 ∧ Odd H0 v) ∨ SAtB H (SAtO H0 H d) s v
theorem SAtO.keep {H0 H H' : Hp} (k : TupK H H') : ∀ (d : Nat) (s : Sch) (v : V), SAtO H0 H d s v → SAtO H0 H' d s v
  | 0, _, _, h => h
  | d + 1, s, v, h => by
    rcases h with ⟨e, h⟩ | h
    · exact .inl ⟨e, h⟩
    · exact .inr (h.keep k fun s v => SAtO.keep k d s v)
theorem SAtO.sameO {H0 H1 H : Hp} (k : KO H0 H1) : ∀ (d : Nat) (s : Sch) (v : V), SAtO H0 H d s v → SAtO H1 H d s v
  | 0, _, _, h => h
  | d + 1, s, v, h => by
    rcases h with ⟨e, h⟩ | h
    · exact .inl ⟨e, h.keepO k⟩
    · exact .inr (h.keep (TupK.refl _) fun s v => SAtO.sameO k d s v)
theorem SAtO.same {H0 H1 H : Hp} (k : Same H0 H1) (d : Nat) (s : Sch) (v : V) (h : SAtO H0 H d s v) : SAtO H1 H d s v := SAtO.sameO (Same.ko k) d s v h
theorem SAtO.of {H0 H : Hp} : ∀ (d : Nat) (s : Sch) (v : V), SAt H d s v → SAtO H0 H d s v
  | 0, _, _, h => h
  | d + 1, s, v, h => .inr ((satB.mp h).keep (TupK.refl _) fun s v => SAtO.of d s v)
theorem own0 (i M : Nat) : okOwn i M (.use 0) = false := by
  show decide (i < 0 ∧ 0 < M) = false
  exact decide_eq_false fun z => Nat.not_lt_zero _ z.1
theorem ato_okL {H0 H : Hp} {i M d' d : Nat} (ih : ∀ (s : Sch) (v : V), OkS i M d' s → SAtO H0 H d s v → SAt H d' s v) : ∀ {k : List Sch} {vs : List V}, (∀ s ∈ k, OkS i M d' s) → Paired (SAtO H0 H d) k vs → Paired (SAt H d') k vs
  | _, _, _, .nil => .nil
  | _, _, o, .cons r t => .cons (ih _ _ (o _ List.mem_cons_self) r) (ato_okL ih (fun s hs => o s (List.mem_cons_of_mem _ hs)) t)
theorem ato_ok {H0 H : Hp} {i M : Nat} : ∀ (d' d : Nat) (s : Sch) (v : V), OkS i M d' s → SAtO H0 H d s v → SAt H d' s v
  | 0, _, _, _, o, _ => by cases o
  | _ + 1, 0, _, _, _, h => by cases h
  | d' + 1, d + 1, s, v, o, h => by
    rcases h with ⟨rfl, _⟩ | h
    · exact absurd o.1 (Nat.not_lt_zero _)
    · cases s with
      | step _ _ => exact h
      | use _ => exact h
      | all k => obtain ⟨a, b, vs, e, h1, h2, h3⟩ := h; exact ⟨a, b, vs, e, h1, h2, ato_okL (ato_ok d' d) o.2.2 h3⟩
      | best k => obtain ⟨a, b, vs, e, h1, h2, h3⟩ := h; exact ⟨a, b, vs, e, h1, h2, ato_okL (ato_ok d' d) o.2.2 h3⟩
      | most n s => obtain ⟨a, u, e, h1, h2⟩ := h; exact ⟨a, u, e, h1, ato_ok d' d s u o.2 h2⟩
      | half s => obtain ⟨a, u, e, h1, h2⟩ := h; exact ⟨a, u, e, h1, ato_ok d' d s u o h2⟩
      | seen w s => obtain ⟨a, u, e, h1, h2⟩ := h; exact ⟨a, u, e, h1, ato_ok d' d s u o.2 h2⟩
      | behind w s => obtain ⟨a, u, e, h1, h2⟩ := h; exact ⟨a, u, e, h1, ato_ok d' d s u o.2 h2⟩
      | carry s => obtain ⟨a, u, e, h1, h2⟩ := h; exact ⟨a, u, e, h1, ato_ok d' d s u o h2⟩
      | fin w p s => obtain ⟨a, u, e, h1, h2⟩ := h; exact ⟨a, u, e, h1, ato_ok d' d s u o.2 h2⟩
end MS
end
section
set_option maxRecDepth 100000
set_option maxHeartbeats 4000000
namespace MS
open PySem L2
open HeY
/-! ### schemes_in, check_paper of any schemes that a text can tell -/
theorem fn_anyX {P : Program} {w : World} {K : PySem.W.Frag} {mg : Str → Option Value} {base : Heap} {CX : CXT} {ι : Type} {sp : ι → Sp} {k : Nat} {f : Addr} {fd : FuncData} {ps : List Str} (G : ∀ i, FnOk P w K mg base CX k f fd ps (sp i)) : FnOk P w K mg base CX k f fd ps (fun vs H Q E => ∃ i, sp i vs H Q E) :=
  ⟨fun vs H Q E ⟨i, h⟩ => (G i).1 vs H Q E h, fun A outer s H args us vs Q E a1 a2 a3 a4 ⟨i, h⟩ => (G i).2 A outer s H args us vs Q E a1 a2 a3 a4 h⟩
/-- a scheme that a text told stands -/
def FrmR (H0 H : Hp) (s : Sch) (v : V) : Prop := ∃ d, SAtO H0 H (d + 1) s v ∧ Frm (d + 1) s
theorem FrmR.keep {H0 H H' : Hp} {s : Sch} {v : V} (h : FrmR H0 H s v) (k : TupK H H') : FrmR H0 H' s v := by
  obtain ⟨d, h1, h2⟩ := h
  exact ⟨d, SAtO.keep k _ _ _ h1, h2⟩
theorem FrmR.same {H H' : Hp} {s : Sch} {v : V} (h : FrmR H H s v) (k : Same H H') : FrmR H' H' s v := by
  obtain ⟨d, h1, h2⟩ := h
  exact ⟨d, SAtO.same k _ _ _ (SAtO.keep (Same.tupK k) _ _ _ h1), h2⟩
def WaitX (H0 H : Hp) (x : List Nat × Sch) (v : V) : Prop := ∃ b q u, v = V.ref b ∧ H b = some (.tup [.ref q, u]) ∧ H q = some (.tup (natV x.1)) ∧ x.1.length ≤ 5 ∧ (∀ n ∈ x.1, n < 1000) ∧ FrmR H0 H x.2 u
theorem WaitX.keep {H0 H H' : Hp} {x : List Nat × Sch} {v : V} (h : WaitX H0 H x v) (k : TupK H H') : WaitX H0 H' x v := by
  obtain ⟨b, q, u, e, h1, h2, h3, h4, h5⟩ := h
  exact ⟨b, q, u, e, k _ _ h1, k _ _ h2, h3, h4, h5.keep k⟩
theorem waits_atX {H0 H : Hp} {d : Nat} {wh : List Nat} (hw : wh.length ≤ 4) (hn : ∀ n ∈ wh, n < 1000) : ∀ {ks : List Sch} {kv : List V} (n : Nat), n + ks.length ≤ 1000 → Paired (SAtO H0 H d) ks kv → (∀ s ∈ ks, Frm d s) → ∀ {pv : List V}, Paired (PlR H) ((kv.zipIdx n).map fun p => (wh ++ [p.2], p.1)) pv → Paired (WaitX H0 H) (waitsOf wh n ks) pv
  | _, _, n, _, .nil, _, _, .nil => .nil
  | s :: ks, v :: kv, n, hk, .cons h t, ok, pv, hp => by
    rw [List.zipIdx_cons, List.map_cons] at hp
    rw [List.length_cons] at hk
    cases hp with
    | @cons _ p0 _ pr h0 hr =>
      obtain ⟨b, q, e, h1, h2⟩ := h0
      have o := ok s List.mem_cons_self
      rw [waits_cons]
      refine .cons ⟨b, q, v, e, h1, h2, ?_, ?_, ?_⟩ (waits_atX hw hn (n + 1) (by omega) t (fun s hs => ok s (List.mem_cons_of_mem _ hs)) hr)
      · show (wh ++ [n]).length ≤ 5
        rw [List.length_append, List.length_singleton]
        omega
      · intro m hm
        rcases List.mem_append.mp hm with hm | hm
        · exact hn m hm
        · rw [List.mem_singleton.mp hm]
          omega
      · cases d with
        | zero => cases o
        | succ d => exact ⟨d, h, o⟩
theorem pre_ok {i M : Nat} : ∀ (d : Nat) (s : Sch), OkS i M d s → ∀ x ∈ pre d s, ∃ d', OkS i M (d' + 1) x
  | 0, _, o => by cases o
  | d + 1, s, o => by
    intro x hx
    rw [pre_succ] at hx
    rcases List.mem_cons.mp hx with rfl | hx
    · exact ⟨d, o⟩
    · obtain ⟨l, hl, hx⟩ := List.mem_flatten.mp hx
      obtain ⟨k, hk, rfl⟩ := List.mem_map.mp hl
      exact pre_ok d k (ok_kids o k hk) x hx
theorem found_of {H0 H : Hp} {i M : Nat} : ∀ {xs : List Sch} {vs : List V}, Paired (FrmR H0 H) xs vs → (∀ x ∈ xs, ∃ d', OkS i M (d' + 1) x) → Paired (FoundR H i M) xs vs
  | _, _, .nil, _ => .nil
  | _, _, .cons h t, o => by
    obtain ⟨d', o1⟩ := o _ List.mem_cons_self
    obtain ⟨d, h1, h2⟩ := h
    exact .cons ⟨d', ato_ok _ _ _ _ o1 h1, o1⟩ (found_of t fun x hx => o x (List.mem_cons_of_mem _ hx))
def SInX (i M : Nat) (s : Sch) (pa f : Addr) (H : Hp) (m : Nat) (σ : St) (H' : Hp) : Prop :=
  ∃ (wl : Addr) (done : List Sch) (L : List (List Nat × Sch)) (fv wv : List V) (v4 v5 : Option V), σ = [some (.ref pa), some (.int ((i : Nat) : Int)), some (.ref f), some (.ref wl), v4, v5] ∧ H' f = some (.lst fv) ∧ H' wl = some (.lst wv) ∧ wl ≠ f ∧
    Paired (FrmR H H') done fv ∧ Paired (WaitX H H') L wv ∧ done ++ restOf L = pre 5 s ∧ fbW i M (12 - done.length) L = fbW i M 12 [([], s)] ∧ done.length ≤ 12 ∧ L.length ≤ 1 + 4 * done.length ∧ m = 12 - done.length ∧ Same H H'
def spSchemesX (C : Addr) (ps : List Sch) (i : Nat) : Sp := fun vs H Q E => ∃ (pa : Addr) (pv : List V) (s : Sch), vs = [.ref pa, .int ((i : Nat) : Int)] ∧ H pa = some (.tup pv) ∧ Paired (FrmR H H) ps pv ∧ ps[i]? = some s ∧ i < 1900 ∧ ps.length ≤ 1900 ∧
  (∀ wh, fbW i ps.length 12 [([], s)] = some wh → RaisedP C i wh H E) ∧
  (fbW i ps.length 12 [([], s)] = none → ∀ (f : Addr) (fv : List V) (H' : Hp), Same H H' → H f = none → H' f = some (.lst fv) → Paired (FoundR H' i ps.length) (pre 5 s) fv → Q (.ref f) H')
section
variable {P : Program} {w : World} {K : PySem.W.Frag} {mg : Str → Option Value} {base : Heap}
theorem ok_schemes_inX {ps : List Sch} {i : Nat} (T : PTx w K mg) (hms : ∀ a, mg "SHAPES" = some (.ref a) → KMiss K w a "Step") (RP : Rsr2 P w K mg base) (D : Def K mg "schemes_in" s_schemes_in ["paper", "number"]) (DB : Def K mg "can_be" s_can_be ["thing", "number", "many"]) (DF : Def K mg "fits" s_fits psFits) (DN : Def K mg "is_number" s_is_number ["thing"])
    (DI : Def K mg "within" s_within ["scheme"]) (DP : Def K mg "placed" s_placed ["schemes", "place"]) : FnOk P w K mg base (L2.CX P w) 4 D.f D.fd ["paper", "number"] (spSchemesX RP.C ps i) := by
  have GB : FnOk P w K mg base CX0 3 DB.f DB.fd ["thing", "number", "many"] (spCanBeX i ps.length) := ok_can_beX T hms DB DF DN
  have GI : FnOk P w K mg base CX0 1 DI.f DI.fd ["scheme"] spWithinX := ok_withinX T DI
  have GP : FnOk P w K mg base CX0 1 DP.f DP.fd ["schemes", "place"] spPlaced := ok_placed T DP
  obtain ⟨tS, gS⟩ := T.mostInScheme
  obtain ⟨tL, gL⟩ := T.longest
  have nd := sc_schemes_in.nd
  refine D.okX sc_schemes_in (fun vs H Q E h => ?_) (fun cdv A outer s H vs Q E hr h => ?_)
  · obtain ⟨pa, pv, s, rfl, _⟩ := h
    rfl
  obtain ⟨pa, pv0, sc, rfl, epv, pp, es, hi9, hM9, q1, q2⟩ := h
  have hr1 : Room 1 _ := hr.mono (by decide)
  have hr2 : Room 2 _ := hr.mono (by decide)
  have tk : L2.Takes (cxOf (L2.CX P w) P w K mg base ["paper", "number", "found", "waiting", "place", "scheme"] "schemes_in" (defScope s_schemes_in) D.f cdv A outer s H E) (fun cls d _ H' => E cls d H') := L2.takes_of rfl rfl rfl rfl
  refine ⟨_, pss_cons (ps_set (i := 2) nd rfl (Or.inl rfl) (pe_lst pa_nil))
    (pss_cons (ps_set (i := 3) nd rfl (Or.inl rfl) (pe_lst (pa_cons (pe_tup (pa_cons (pe_tup pa_nil) (pa_cons (pe_ix ix_tup (pv 0) (pv 1) (fun _ _ => rfl)) pa_nil))) pa_nil)))
    (pss_cons (ps_while (L2.passes_of rfl) (pt_truth (pv 3) (by intro _; rfl))
      (pss_cons (ps_asg (pe_ix ix_list (pv 3) pe_int (fun _ _ => rfl)) (pg_tup (by rfl) (pgs_cons (pg_name (i := 4) nd rfl (Or.inl rfl)) (pgs_cons (pg_name (i := 5) nd rfl (Or.inl rfl)) pgs_nil))))
      (pss_cons (ps_if (PW.pt (pw_or (pt_cmpR op_eq (pe_callB call_len_seq rfl (T.free "len" (by decide +kernel)) PySem.boot_len (pa_cons (pv 2) pa_nil)) (pe_glob rfl gS (v := .int 12) ⟨_, rfl⟩) (nomark _)) (pw_or1 (pt_cmpR op_gt (pe_callB call_len_seq rfl (T.free "len" (by decide +kernel)) PySem.boot_len (pa_cons (pv 4) pa_nil)) (pe_glob rfl gL (v := .int 4) ⟨_, rfl⟩) (nomark _))))) (pss_one (ps_rs2 RP rfl tk hr2 (pv 1) (pv 4))) pss_nil)
      (pss_cons (ps_if (pt_not (pt_val (pcall DB GB hr (pa_cons (pv 5) (pa_cons (pv 1) (pa_cons (pe_callB call_len_seq rfl (T.free "len" (by decide +kernel)) PySem.boot_len (pa_cons (pv 0) pa_nil)) pa_nil)))))) (pss_one (ps_rs2 RP rfl tk hr2 (pv 1) (pv 4))) pss_nil)
      (pss_cons (ps_expr (pe_bm PySem.F.plainAttrs_list PySem.F.slot_list_append PySem.F.type_list_append mt_append (pv 2) (pa_cons (pv 5) pa_nil)))
      (pss_one (ps_set (i := 3) nd rfl (Or.inl rfl) (pe_op op_cat (pcall DP GP hr1 (pa_cons (pcall DI GI hr1 (pa_cons (pv 5) pa_nil)) (pa_cons (pv 4) pa_nil))) (pe_slice sl_list (pv 3) (po_some pe_int) po_none)))))))))
    (pss_one (ps_ret (pv 2))))), ?_⟩
  have hM := Paired.length pp
  obtain ⟨v0, ev0, hs0⟩ := paired_get2 pp es
  refine ⟨Nat.zero_le _, fun f hf => ?_⟩
  have s1 : Same H (upd H f (.lst [])) := Same.new hf
  dsimp only [gName]
  refine ⟨Nat.zero_le _, fun t0 ht0 => ?_⟩
  have s2 := s1.trans (Same.new (o := .tup []) ht0)
  refine ⟨_, rfl, _, rfl, pa, _, _, v0, rfl, rfl, SqT.of (s2 _ _ epv), atI_nat ev0, sz2, fun t1 ht1 => ?_⟩
  have s3 := s2.trans (Same.new (o := .tup [.ref t0, v0]) ht1)
  refine ⟨szN (by show 1 ≤ 1000; decide), fun wl hwl => ?_⟩
  have s4 := s3.trans (Same.new (o := .lst [.ref t1]) hwl)
  dsimp only [gName]
  have b1 := Same.new (o := .lst [V.ref t1]) hwl
  have b2 := (Same.new (o := .tup [.ref t0, v0]) ht1).trans b1
  have b3 := (Same.new (o := .tup []) ht0).trans b2
  have R0 : restOf [(([] : List Nat), sc)] = pre 5 sc := by show pre 5 sc ++ [] = _; rw [List.append_nil]
  have nwf : wl ≠ f := fun z => by
    have := b3 _ _ (upd_same : upd H f (.lst []) f = _)
    rw [← z] at this
    rw [upd_same] at this
    cases this
  refine ⟨fun m σ H' => SInX i ps.length sc pa f H m σ H', ⟨12, wl, [], [([], sc)], [], [.ref t1], none, none, rfl, b3 _ _ upd_same, upd_same, nwf, .nil, .cons ⟨t1, t0, v0, rfl, b1 _ _ upd_same, b2 _ _ upd_same, by show 0 ≤ 5; decide, (fun _ h => nomatch h), hs0.keep (Same.tupK s4)⟩ .nil, R0, rfl, by show 0 ≤ 12; decide, by show 1 ≤ 1; decide, rfl, s4⟩, ?_⟩
  rintro m σ H1 ⟨wl1, done, L, fv, wv, v4, v5, rfl, ef, ewl, nfw, pf, pw, eall, efb, h12, hL, em, sm⟩
  have lfv := Paired.length pf
  have lwv := Paired.length pw
  refine ⟨_, rfl, !wv.isEmpty, .inl ⟨_, SqL.of ewl, rfl⟩, ?_⟩
  cases pw with
  | nil =>
    rw [fbW_nil] at efb
    have e : done = pre 5 sc := by rw [← eall]; show done = done ++ []; rw [List.append_nil]
    obtain ⟨d0, _, f0⟩ := hs0
    have ok5 := (fb_one f0 efb.symm).1
    rw [e] at pf
    exact iteF ⟨_, rfl, q2 efb.symm f fv H1 sm hf ef (found_of pf (pre_ok 5 sc ok5))⟩
  | @cons x vb L' wr hx hrest =>
    obtain ⟨b, qa, u, rfl, eb, eqa, hx5, hxn, hfx⟩ := hx
    obtain ⟨wh, s'⟩ := x
    have hx5 : wh.length ≤ 5 := hx5
    have hxn : ∀ n ∈ wh, n < 1000 := hxn
    have hfx : FrmR H H1 s' u := hfx
    have bad : fbW i ps.length 12 [([], sc)] = some wh → ∀ σ' Hx, Same H1 Hx → σ'[1]? = some (some (.int ((i : Nat) : Int))) → σ'[4]? = some (some (.ref qa)) → tMkO RP.C (spInit2 RP.C) [] (tCons (tVar 1) (tCons (tVar 4) tNil)) σ' Hx fun cls d H' => E cls d H' := fun hb σ' Hx sx h1 h4 =>
      ⟨_, h1, _, h4, raised2_of hi9 (sx _ _ eqa) (by omega) hxn fun d H' hd s' e => ((q1 _ hb).from (sm.trans sx)) d qa H' hd s' e (s' _ _ (sx _ _ eqa))⟩
    refine iteT ⟨fun σ' H' => ∃ m', m' < m ∧ SInX i ps.length sc pa f H m' σ' H', fun _ _ z => z, ?_⟩
    refine ⟨_, rfl, wl1, _, 0, .ref b, rfl, rfl, SqL.of ewl, at0, b, _, rfl, SqT.of eb, rfl, _, _, rfl, _, _, rfl, rfl, ?_⟩
    dsimp only [gName]
    refine seq_if (b := decide (done.length = 12) || decide (4 < wh.length)) (ev_or (b := decide (done.length = 12)) (c := decide (4 < wh.length)) (fun Q q => ⟨_, rfl, f, _, rfl, .inl (SqL.of ef), rfl, _, rfl, by
        rw [show decide (V.int ((fv.length : Nat) : Int) = V.int 12) = decide (done.length = 12) by
          rw [decide_eq_decide]
          exact ⟨fun z => by have z2 := V.int.inj z; omega, fun z => by rw [← lfv, z]; rfl⟩]
        exact q⟩) (fun Q q => ⟨_, rfl, qa, _, rfl, .inr (SqT.of eqa), _, _, rfl, rfl, _, rfl, by
        rw [show decide ((4 : Int) < (((natV wh).length : Nat) : Int)) = decide (4 < wh.length) by rw [decide_eq_decide, natV_len]; omega]
        exact q⟩)) (fun z => ?_) (fun z => ?_)
    · refine bad ?_ _ H1 (Same.refl _) rfl rfl
      rw [← efb]
      by_cases c : done.length = 12
      · rw [c]
        rfl
      · rw [decide_eq_false c, Bool.false_or] at z
        obtain ⟨n, hn⟩ : ∃ n, 12 - done.length = n + 1 := ⟨11 - done.length, by omega⟩
        have z := of_decide_eq_true z
        rw [hn, fbW_succ, if_neg (fun y => by have y1 : wh.length ≤ 4 := y.1; omega)]
    have zc : done.length ≠ 12 ∧ wh.length ≤ 4 := by
      rw [Bool.or_eq_false_iff] at z
      exact ⟨of_decide_eq_false z.1, by have := of_decide_eq_false z.2; omega⟩
    obtain ⟨z1, z2⟩ := zc
    obtain ⟨n, hn⟩ : ∃ n, 12 - done.length = n + 1 := ⟨11 - done.length, by omega⟩
    rw [hn, fbW_succ] at efb
    obtain ⟨d0, hsx, hox⟩ := hfx
    have cb : ∀ {Q' : VK}, (∀ H', Same H1 H' → Q' (.bl (okOwn i ps.length s')) H') → ((∃ (sc : Sch) (d : Nat) (R : Sch → V → Prop), SAtB H1 R sc u ∧ Frm (d + 1) sc ∧ ∀ H', Same H1 H' → Q' (.bl (okOwn i ps.length sc)) H') ∨ (Odd H1 u ∧ ∀ H', Same H1 H' → Q' (.bl false) H')) := fun {Q'} q' => by
      rcases hsx with ⟨rfl, ho⟩ | hB
      · rw [own0] at q'
        exact .inr ⟨ho.keep sm, q'⟩
      · exact .inl ⟨s', d0, _, hB, hox, q'⟩
    refine seq_new (b := !okOwn i ps.length s') (fun Q q => ⟨_, rfl, _, rfl, _, rfl, pa, _, rfl, .inr (SqT.of (sm _ _ epv)), u, by rw [hM]; rfl, cb (Q' := fun x H1 => ∃ c, x = V.bl c ∧ (fun c H1 => Q (!c) H1) c H1) (fun H3 s3 => ⟨_, rfl, q H3 s3⟩)⟩) (fun z H3 s3 => ?_) (fun z H3 s3 => ?_)
    · refine bad ?_ _ H3 s3 rfl rfl
      rw [← efb, if_neg (fun y => by have y2 : okOwn i ps.length s' = true := y.2; rw [y2] at z; cases z)]
    have hown : okOwn i ps.length s' = true := by
      cases hb : okOwn i ps.length s' with
      | true => rfl
      | false => rw [hb] at z; cases z
    rw [if_pos ⟨z2, hown⟩] at efb
    have hB : SAtB H1 (SAtO H H1 d0) s' u := by
      rcases hsx with ⟨rfl, _⟩ | h
      · rw [own0] at hown
        cases hown
      · exact h
    obtain ⟨d, hd⟩ : ∃ d, 5 - wh.length = d + 1 := ⟨4 - wh.length, by omega⟩
    have eR : restOf ((wh, s') :: L') = s' :: (((kidsOf s').map (pre d)).flatten ++ restOf L') := by
      show pre (5 - wh.length) s' ++ restOf L' = _
      rw [hd, pre_succ]
      rfl
    rw [eR] at eall
    have lkf := own_few hown
    rw [List.length_cons] at hL
    have ef3 := s3 _ _ ef
    refine ⟨_, rfl, .inl ⟨rfl, _, SqL.of ef3⟩, _, rfl, f, _, _, rfl, rfl, ef3, small1000 (by omega), ?_⟩
    have t4 : TupK H1 (upd H3 f (.lst (fv ++ [u]))) := (Same.tupK s3).trans (TupK.put ef3)
    have ef4 : upd H3 f (.lst (fv ++ [u])) f = some (.lst (fv ++ [u])) := upd_same
    have ewl4 : upd H3 f (.lst (fv ++ [u])) wl1 = some (.lst (V.ref b :: wr)) := by rw [upd_ne nfw]; exact s3 _ _ ewl
    have sm4 : Same H (upd H3 f (.lst (fv ++ [u]))) := Same.newer (sm.trans s3) hf
    generalize hH4 : upd H3 f (.lst (fv ++ [u])) = H4 at t4 ef4 ewl4 sm4 ⊢
    refine ⟨_, rfl, u, s', d0, SAtO H H4 d0, rfl, hB.keep t4 (fun _ _ => SAtO.keep t4 _ _ _), hox, fun l kv hl at_ => ?_⟩
    have lkv := Paired.length at_
    have s5 := Same.new (o := .lst kv) hl
    have t5 := t4.trans (Same.tupK s5)
    refine ⟨_, rfl, l, qa, kv, wh, rfl, upd_same, t5 _ _ eqa, by omega, by omega, fun g pv' H6 s6 hg eg pp6 => ?_⟩
    have s56 := s5.trans s6
    refine ⟨_, rfl, 1, rfl, wl1, _, rfl, SqL.of (s56 _ _ ewl4), fun p hp => ?_⟩
    have ec : cutV (V.ref b :: wr) (some 1) none = wr := cut_from (V.ref b :: wr) 1
    rw [ec]
    have ngp : g ≠ p := ne_of_none eg hp
    have lpv := Paired.length pp6
    have lpl : (placedL wh kv).length = kv.length := by unfold placedL; rw [List.length_map, List.length_zipIdx]
    have lcat : pv'.length + wr.length ≤ 1000 := by
      have := Paired.length hrest
      omega
    refine ⟨g, p, _, _, rfl, rfl, by rw [upd_ne ngp]; exact eg, upd_same, szN lcat, fun r hr => ?_⟩
    have s7 := (s56.trans (Same.new (o := .lst wr) hp)).trans (Same.new (o := .lst (pv' ++ wr)) hr)
    have s67 := (s6.trans (Same.new (o := .lst wr) hp)).trans (Same.new (o := .lst (pv' ++ wr)) hr)
    have t6 := (Same.new (o := .lst wr) hp).trans (Same.new (o := .lst (pv' ++ wr)) hr)
    dsimp only [gName]
    have hd' : 5 - (wh.length + 1) = d := by omega
    have tk7 := t4.trans (Same.tupK s7)
    have nrf : r ≠ f := fun z => by
      have ef7 := (s56.trans (Same.new (o := .lst wr) hp)) _ _ ef4
      rw [← z, hr] at ef7
      cases ef7
    have ld : (done ++ [s']).length = done.length + 1 := by rw [List.length_append, List.length_singleton]
    refine ⟨12 - (done.length + 1), by omega, r, done ++ [s'], waitsOf wh 0 (kidsOf s') ++ L', fv ++ [u], pv' ++ wr, _, _, rfl, s7 _ _ ef4, upd_same, nrf, ?_, ?_, ?_, ?_, by omega, ?_, by rw [ld], sm4.trans s7⟩
    · exact paired_app (paired_imp pf fun _ _ h => FrmR.keep h tk7) (.cons ⟨d0, SAtO.keep tk7 _ _ _ hsx, hox⟩ .nil)
    · refine paired_app ?_ (paired_imp hrest fun _ _ h => WaitX.keep h tk7)
      exact waits_atX z2 hxn 0 (by omega) (paired_imp at_ fun _ _ h => SAtO.keep (Same.tupK (s5.trans s67)) _ _ _ h) (frm_kids hox) (paired_imp pp6 fun _ _ h => PlR.keep h (Same.tupK t6))
    · rw [rest_app, rest_waits hd', ← eall]
      simp
    · rw [ld, show 12 - (done.length + 1) = n by omega]
      exact efb
    · rw [List.length_append, waits_len, ld]
      omega
end
end MS
end
section
set_option maxRecDepth 100000
set_option maxHeartbeats 4000000
namespace MS
open PySem L2
open HeY
/-! ### check_paper of any schemes that a text can tell -/
theorem fbL_nil (M i : Nat) : fbL M i [] = none := rfl
theorem fbL_cons (M i : Nat) (s : Sch) (r : List Sch) : fbL M i (s :: r) = if i = 5 then some (5, []) else match fbW i M 12 [([], s)] with
    | some p => some (i, p)
    | none => fbL M (i + 1) r := rfl
def FrmP (s : Sch) : Prop := ∃ d, Frm (d + 1) s
/-- nothing bad in the parts: they can be, and are few -/
theorem fbL_ok {M : Nat} : ∀ {i : Nat} {r : List Sch}, i ≤ 5 → (∀ s ∈ r, FrmP s) → fbL M i r = none → i + r.length ≤ 5 ∧ ∀ j s, r[j]? = some s → OkS (i + j) M 5 s ∧ sz 5 s ≤ 12
  | i, [], hi, _, _ => ⟨hi, fun j s h => by simp at h⟩
  | i, s0 :: r, hi, f, h => by
    rw [fbL_cons] at h
    by_cases c : i = 5
    · rw [if_pos c] at h
      cases h
    · rw [if_neg c] at h
      cases e : fbW i M 12 [([], s0)] with
      | some p => rw [e] at h; cases h
      | none =>
        rw [e] at h
        obtain ⟨d, f0⟩ := f s0 List.mem_cons_self
        obtain ⟨h1, h2⟩ := fbL_ok (i := i + 1) (r := r) (by omega) (fun s hs => f s (List.mem_cons_of_mem _ hs)) h
        refine ⟨by rw [List.length_cons]; omega, fun j s hs => ?_⟩
        cases j with
        | zero =>
          have hs : some s0 = some s := hs
          obtain rfl := Option.some.inj hs
          exact fb_one f0 e
        | succ j =>
          have := h2 j s hs
          rw [show i + 1 + j = i + (j + 1) by omega] at this
          exact this
theorem pre_tot {M j : Nat} {E : Bool} {c : Nat → Int} {s : Sch} (o : OkS j M 5 s) : tot E c s = ((pre 5 s).map (own E c)).sum := by
  cases E
  · exact (pre_wr c 5 s o).symm
  · exact (pre_er c 5 s o).symm
theorem badP_of {ps : List Sch} {x : Nat × List Nat} (h : fbL ps.length 0 ps = some x) : badP ps = some x := by
  unfold badP
  rw [h]
theorem badP_cnt {ps : List Sch} (h : fbL ps.length 0 ps = none) : badP ps = if 7 < cnts true 0 ps 0 ∨ 3 < cnts false 0 ps 0 then some (ps.length, []) else none := by
  unfold badP
  rw [h]
def spCheckX (C : Addr) : Sp := fun vs H Q E => ∃ (pa : Addr) (ps : List Sch) (pv : List V), vs = [.ref pa] ∧ H pa = some (.tup pv) ∧ Paired (FrmR H H) ps pv ∧ 0 < ps.length ∧ ps.length ≤ 1800 ∧
  (∀ n wh, badP ps = some (n, wh) → RaisedP C n wh H E) ∧ (badP ps = none → ∀ H', Same H H' → Q .non H')
def spCheckX1 (C : Addr) (ps : List Sch) : Sp := fun vs H Q E => ∃ (pa : Addr) (pv : List V), vs = [.ref pa] ∧ H pa = some (.tup pv) ∧ Paired (FrmR H H) ps pv ∧ 0 < ps.length ∧ ps.length ≤ 1800 ∧
  (∀ n wh, badP ps = some (n, wh) → RaisedP C n wh H E) ∧ (badP ps = none → ∀ H', Same H H' → Q .non H')
theorem frm_all {H0 H : Hp} : ∀ {ps : List Sch} {pv : List V}, Paired (FrmR H0 H) ps pv → ∀ s ∈ ps, FrmP s
  | _, _, .nil, _, h => nomatch h
  | _, _, .cons h t, s, hs => by
    rcases List.mem_cons.mp hs with rfl | hs
    · obtain ⟨d, _, f⟩ := h
      exact ⟨d, f⟩
    · exact frm_all t s hs
section
variable {P : Program} {w : World} {K : PySem.W.Frag} {mg : Str → Option Value} {base : Heap}
theorem ok_check_paperX1 {ps : List Sch} (T : PTx w K mg) (hms : ∀ a, mg "SHAPES" = some (.ref a) → KMiss K w a "Step") (RP : Rsr2 P w K mg base) (D : DPaper K mg) : FnOk P w K mg base (L2.CX P w) 5 D.DC.f D.DC.fd ["paper"] (spCheckX1 RP.C ps) := by
  have GS : FnOk P w K mg base (L2.CX P w) 4 D.DS.f D.DS.fd ["paper", "number"] (fun vs H Q E => ∃ i, spSchemesX RP.C ps i vs H Q E) := fn_anyX fun i => ok_schemes_inX T hms RP D.DS D.DB D.DF D.DN D.DI D.DP
  have GE : FnOk P w K mg base CX0 1 D.DM.f D.DM.fd ["names", "parts"] (spMany K true ps (cnts true 0 ps)) := ok_many_of T D.DM
  have GW : FnOk P w K mg base CX0 1 D.DM.f D.DM.fd ["names", "parts"] (spMany K false ps (cnts false 0 ps)) := ok_many_of T D.DM
  obtain ⟨tP, gP⟩ := T.mostInPaper
  obtain ⟨tE, gE⟩ := T.mostE
  obtain ⟨tW, gW⟩ := T.mostW
  obtain ⟨aE, hE, qE⟩ := T.earners
  obtain ⟨aW, hW, qW⟩ := T.watchers
  have nd := sc_check_paper.nd
  refine D.DC.okX sc_check_paper (fun vs H Q E h => ?_) (fun cdv A outer s H vs Q E hr h => ?_)
  · obtain ⟨pa, pv, rfl, _⟩ := h
    rfl
  obtain ⟨pa, pv0, rfl, epv, pp, hPl, hP9, q1, q2⟩ := h
  have hr1 : Room 1 _ := hr.mono (by decide)
  have hr2 : Room 2 _ := hr.mono (by decide)
  have tk : L2.Takes (cxOf (L2.CX P w) P w K mg base ["paper", "parts", "number"] "check_paper" (defScope s_check_paper) D.DC.f cdv A outer s H E) (fun cls d _ H' => E cls d H') := L2.takes_of rfl rfl rfl rfl
  refine ⟨_, pss_cons (ps_if (PW.pt (pw_or (pt_not (pt_val (pe_callB call_isi rfl (T.free "isinstance" (by decide +kernel)) (by decide +kernel) (pa_cons (pv 0) (pa_cons (pe_bltn rfl (T.free "tuple" (by decide +kernel)) (by decide +kernel) (v := .ty "tuple") rfl) pa_nil)))))
      (pw_or1 (pt_not (pt_truth (pv 0) (by intro _; rfl)))))) (pss_one (ps_rs2 RP rfl tk hr2 pe_int (pe_tup pa_nil))) pss_nil)
    (pss_cons (ps_set (i := 1) nd rfl (Or.inl rfl) (pe_lst pa_nil))
    (pss_cons (ps_for (L2.passes_of rfl) rfl (pi_range1 rfl (T.free "range" (by decide +kernel)) (pa_cons (pe_callB call_len_seq rfl (T.free "len" (by decide +kernel)) PySem.boot_len (pa_cons (pv 0) pa_nil)) pa_nil)) (pg_name (i := 2) nd rfl (Or.inl rfl))
      (pss_cons (ps_if (pt_cmpR op_eq (pv 2) (pe_glob rfl gP (v := .int 5) ⟨_, rfl⟩) (nomark _)) (pss_one (ps_rs2 RP rfl tk hr2 (pv 2) (pe_tup pa_nil))) pss_nil)
      (pss_one (ps_expr (pe_bm PySem.F.plainAttrs_list PySem.F.slot_list_append PySem.F.type_list_append mt_append (pv 1) (pa_cons (pcallX (E := E) D.DS GS hr (L2.passes_call tk (fun _ _ _ _ h => h)) (pa_cons (pv 0) (pa_cons (pv 2) pa_nil))) pa_nil))))))
    (pss_one (ps_if (PW.pt (pw_or (pt_cmpR op_gt (pcall D.DM GE hr1 (pa_cons (pe_glob rfl hE (v := .ref aE) rfl) (pa_cons (pv 1) pa_nil))) (pe_glob rfl gE (v := .int 7) ⟨_, rfl⟩) (nomark _))
      (pw_or1 (pt_cmpR op_gt (pcall D.DM GW hr1 (pa_cons (pe_glob rfl hW (v := .ref aW) rfl) (pa_cons (pv 1) pa_nil))) (pe_glob rfl gW (v := .int 3) ⟨_, rfl⟩) (nomark _))))) (pss_one (ps_rs2 RP rfl tk hr2 (pe_callB call_len_seq rfl (T.free "len" (by decide +kernel)) PySem.boot_len (pa_cons (pv 0) pa_nil)) (pe_tup pa_nil))) pss_nil)))), ?_⟩
  have hM := Paired.length pp
  have hfall := frm_all pp
  refine seq_if (b := false || false) (ev_or (b := false) (c := false) (fun Q q => ⟨_, rfl, _, .ty "tuple", .type "tuple", .type "tuple", true, rfl, .ty _, .base (.tup epv), kit_ty (by decide +kernel), _, rfl, q⟩)
    (fun Q q => ⟨_, rfl, true, .inr (.inl ⟨_, SqT.of epv, by cases pp with
      | nil => exact absurd hPl (by simp)
      | cons _ _ => rfl⟩), q⟩)) (fun z => nomatch z) (fun _ => ?_)
  refine ⟨Nat.zero_le _, fun p hp => ?_⟩
  have s1 : Same H (upd H p (.lst [])) := Same.new hp
  dsimp only [gName]
  refine ⟨_, rfl, pa, _, rfl, .inr (SqT.of (s1 _ _ epv)), _, rfl, by omega, by omega, ?_⟩
  have hn : (((pv0.length : Nat) : Int)).toNat = ps.length := by omega
  have bad0 : ∀ (n : Nat) (te : TE) (σ' : St) (Hx : Hp), badP ps = some (n, []) → n < 1900 → Same H Hx → (∀ Q : VK, Q (.int ((n : Nat) : Int)) Hx → te σ' Hx Q) → tMkO RP.C (spInit2 RP.C) [] (tCons te (tCons (tTup tNil) tNil)) σ' Hx fun cls d H' => E cls d H' := fun n te σ' Hx hb h9 sx ht =>
    ht _ ⟨Nat.zero_le _, fun t ht' => raised2_of h9 (wh := []) upd_same (by decide) (fun _ h => nomatch h) fun d H' hd s' e => ((q1 _ _ hb).from (Same.trans sx (Same.new ht'))) d t H' hd s' e (s' _ _ upd_same)⟩
  refine for_range (lo := 0) (n := (((pv0.length : Nat) : Int)).toNat) (fun i σ H' => ∃ (plv : List V) (v : Option V), σ = [some (.ref pa), some (.ref p), v] ∧ H' p = some (.lst plv) ∧ plv.length = i ∧ i ≤ 5 ∧ fbL ps.length i (ps.drop i) = fbL ps.length 0 ps ∧
      (∀ j s, j < i → ps[j]? = some s → ∃ fj fv, plv[j]? = some (V.ref fj) ∧ fj ≠ p ∧ H' fj = some (.lst fv) ∧ Paired (FoundR H' j ps.length) (pre 5 s) fv) ∧ Same H H')
    ⟨[], none, rfl, upd_same, rfl, Nat.zero_le _, rfl, (fun _ _ h => by omega), s1⟩ ?_ ?_
  · rintro i σ H1 hi ⟨plv, v, rfl, ep, hl, h5, hfb, hparts, sm⟩
    rw [hn] at hi
    have ez : (0 : Int) + ((i : Nat) : Int) = ((i : Nat) : Int) := by omega
    dsimp only [gName]
    rw [ez]
    rw [List.drop_eq_getElem_cons hi, fbL_cons] at hfb
    refine seq_if (b := decide (i = 5)) (fun Q q => ⟨_, rfl, rfl, _, rfl, by
      rw [show decide (V.int ((i : Nat) : Int) = V.int 5) = decide (i = 5) by
        rw [decide_eq_decide]
        exact ⟨fun z => by have := V.int.inj z; omega, fun z => by rw [z]; rfl⟩]
      exact q⟩) (fun z => ?_) (fun z => ?_)
    · have z := of_decide_eq_true z
      rw [if_pos z] at hfb
      subst z
      exact bad0 5 _ _ H1 (badP_of hfb.symm) (by decide) sm fun Q q => ⟨_, rfl, q⟩
    have hi5 := of_decide_eq_false z
    rw [if_neg hi5] at hfb
    refine ⟨_, rfl, .inl ⟨rfl, _, SqL.of ep⟩, _, rfl, _, rfl, i, pa, pv0, _, rfl, sm _ _ epv, paired_imp pp fun _ _ h => FrmR.same h sm, List.getElem?_eq_getElem hi, by omega, by omega, fun wh hb => ?_, fun hb f fv H2 s2 hf ef pf => ?_⟩
    · rw [hb] at hfb
      exact (q1 _ _ (badP_of hfb.symm)).from sm
    rw [hb] at hfb
    have ep2 := s2 _ _ ep
    have nfp : f ≠ p := fun z => by rw [z, ep] at hf; cases hf
    have tk : TupK H2 (upd H2 p (.lst (plv ++ [.ref f]))) := TupK.put ep2
    refine ⟨p, _, _, rfl, rfl, ep2, small1000 (by omega), ?_⟩
    refine ⟨plv ++ [.ref f], _, rfl, upd_same, by rw [List.length_append, hl]; rfl, by omega, hfb, fun j s hj es => ?_, Same.newer (sm.trans s2) hp⟩
    by_cases e : j < i
    · obtain ⟨fj, fv', e1, e2, e3, e4⟩ := hparts j s e es
      exact ⟨fj, fv', by rw [List.getElem?_append_left (by omega)]; exact e1, e2, by rw [upd_ne e2]; exact s2 _ _ e3, paired_imp e4 fun _ _ h => FoundR.keep h ((Same.tupK s2).trans tk)⟩
    · have e : j = i := by omega
      subst e
      obtain rfl : ps[j] = s := Option.some.inj ((List.getElem?_eq_getElem hi).symm.trans es)
      refine ⟨f, fv, ?_, nfp, by rw [upd_ne nfp]; exact ef, paired_imp pf fun _ _ h => FoundR.keep h tk⟩
      rw [List.getElem?_append_right (by omega), hl, Nat.sub_self]
      rfl
  · rintro σ H1 ⟨plv, v, rfl, ep, hl, h5, hfb, hparts, sm⟩
    rw [hn] at hl hparts h5 hfb
    rw [List.drop_length, fbL_nil] at hfb
    have hbc := badP_cnt hfb.symm
    obtain ⟨_, hok⟩ := fbL_ok (Nat.zero_le _) hfall hfb.symm
    have hok1 : ∀ j s, ps[j]? = some s → OkS (0 + j) ps.length 5 s := fun j s es => (hok j s es).1
    have hPA : PartsAt H1 ps plv := fun j s es => by
      obtain ⟨fj, fv, e1, _, e3, e4⟩ := hparts j s (List.getElem?_eq_some_iff.mp es).1 es
      exact ⟨fj, fv, e1, e3, e4⟩
    have hcnt : ∀ E j s, ps[j]? = some s → cnts E 0 ps j = ((pre 5 s).map (own E (cnts E 0 ps))).sum := fun E j s es => by
      have := cnts_eq (E := E) (M := ps.length) hok1 es
      rw [Nat.zero_add] at this
      rw [this]
      exact pre_tot (hok1 j s es)
    dsimp only
    refine one_new (u := tNext) (b := decide (7 < cnts true 0 ps 0) || decide (3 < cnts false 0 ps 0)) (ev_or_new (b := decide (7 < cnts true 0 ps 0)) (c := decide (3 < cnts false 0 ps 0)) (fun Q q => ?_) (fun _ H2 s2 Q q => ?_)) (fun z H2 s2 => ?_) (fun z H2 s2 => ?_)
    · exact ⟨_, rfl, aE, p, plv, rfl, qE, ep, hl, hPl, h5, hPA, hcnt true, fun H2 s2 => ⟨_, _, rfl, rfl, _, rfl, q H2 s2⟩⟩
    · exact ⟨_, rfl, aW, p, plv, rfl, qW, s2 _ _ ep, hl, hPl, h5, hPA.keep s2, hcnt false, fun H3 s3 => ⟨_, _, rfl, rfl, _, rfl, q H3 s3⟩⟩
    · have z1 : 7 < cnts true 0 ps 0 ∨ 3 < cnts false 0 ps 0 := by
        rw [Bool.or_eq_true] at z
        rcases z with z | z
        · exact .inl (of_decide_eq_true z)
        · exact .inr (of_decide_eq_true z)
      rw [if_pos z1] at hbc
      refine bad0 ps.length _ _ H2 hbc (by omega) (sm.trans s2) fun Q q => ⟨_, rfl, pa, _, rfl, .inr (SqT.of (s2 _ _ (sm _ _ epv))), ?_⟩
      rw [← hM]
      exact q
    · have z1 : ¬ (7 < cnts true 0 ps 0 ∨ 3 < cnts false 0 ps 0) := by
        rw [Bool.or_eq_false_iff] at z
        exact fun y => y.elim (fun y => of_decide_eq_false z.1 y) (fun y => of_decide_eq_false z.2 y)
      rw [if_neg z1] at hbc
      exact q2 hbc H2 (sm.trans s2)
theorem ok_check_paperX (T : PTx w K mg) (hms : ∀ a, mg "SHAPES" = some (.ref a) → KMiss K w a "Step") (RP : Rsr2 P w K mg base) (D : DPaper K mg) : FnOk P w K mg base (L2.CX P w) 5 D.DC.f D.DC.fd ["paper"] (spCheckX RP.C) := by
  have G : FnOk P w K mg base (L2.CX P w) 5 D.DC.f D.DC.fd ["paper"] (fun vs H Q E => ∃ ps, spCheckX1 RP.C ps vs H Q E) := fn_anyX fun ps => ok_check_paperX1 T hms RP D
  have e : spCheckX RP.C = fun vs H Q E => ∃ ps, spCheckX1 RP.C ps vs H Q E := by
    funext vs H Q E
    refine propext ⟨fun h => ?_, fun h => ?_⟩
    · obtain ⟨pa, ps, pv, h⟩ := h
      exact ⟨ps, pa, pv, h⟩
    · obtain ⟨ps, pa, pv, h⟩ := h
      exact ⟨pa, ps, pv, h⟩
  rw [e]
  exact G
end
end MS
end
section
set_option maxRecDepth 100000
set_option maxHeartbeats 4000000
namespace MS
open PySem L2
open HeY XTup
/-! ### papers refused: pure -/
theorem frm_ok {i M : Nat} (hM : M ≤ 99) : ∀ (d : Nat) (s : Sch), OkS i M d s → Frm d s
  | 0, _, o => by cases o
  | d + 1, s, o => by
    cases s with
    | step w p => exact ⟨o.1, by have := o.2.1; omega, by have := o.2.2; omega⟩
    | all k => exact ⟨by have := o.2.1; omega, fun x hx => frm_ok hM d x (o.2.2 x hx)⟩
    | best k => exact ⟨by have := o.2.1; omega, fun x hx => frm_ok hM d x (o.2.2 x hx)⟩
    | most n s => exact ⟨⟨o.1.1, by have := o.1.2; omega⟩, frm_ok hM d s o.2⟩
    | half s => exact frm_ok hM d s o
    | seen w s => exact ⟨o.1, frm_ok hM d s o.2⟩
    | behind w s => exact ⟨o.1, frm_ok hM d s o.2⟩
    | carry s => exact frm_ok hM d s o
    | fin w p s => exact ⟨⟨o.1.1, by have := o.1.2.1; omega, by have := o.1.2.2; omega⟩, frm_ok hM d s o.2⟩
    | use n => exact True.intro
theorem ok_own {i M d : Nat} {s : Sch} (o : OkS i M (d + 1) s) : okOwn i M s = true := by
  cases s with
  | step w p => exact decide_eq_true o.2
  | all k => exact decide_eq_true ⟨o.1, o.2.1⟩
  | best k => exact decide_eq_true ⟨o.1, o.2.1⟩
  | most n s => exact decide_eq_true o.1
  | half s => rfl
  | seen w s => rfl
  | behind w s => rfl
  | carry s => rfl
  | fin w p s => exact decide_eq_true o.1.2
  | use n => exact decide_eq_true o
theorem sum_nn {f : Sch → Int} : ∀ (l : List Sch), (∀ x, 0 ≤ f x) → 0 ≤ (l.map f).sum
  | [], _ => Int.le_refl _
  | x :: l, h => by
    rw [List.map_cons, List.sum_cons]
    have := sum_nn l h
    have := h x
    omega
theorem sz_nn : ∀ (d : Nat) (s : Sch), 0 ≤ sz d s
  | 0, _ => Int.le_refl _
  | d + 1, s => by
    rw [sz_kids]
    have := sum_nn (kidsOf s) (fun x => sz_nn d x)
    omega
theorem fb_good {i M : Nat} : ∀ (n : Nat) (L : List (List Nat × Sch)), (∀ x ∈ L, OkS i M (5 - x.1.length) x.2) → (L.map fun x => sz (5 - x.1.length) x.2).sum ≤ (n : Int) → fbW i M n L = none
  | n, [], _, _ => fbW_nil _ _ _
  | n, x :: L, o, h => by
    have ox := o x List.mem_cons_self
    have h4 : x.1.length ≤ 4 := by
      by_cases c : x.1.length ≤ 4
      · exact c
      · rw [show 5 - x.1.length = 0 by omega] at ox
        cases ox
    obtain ⟨d, hd⟩ : ∃ d, 5 - x.1.length = d + 1 := ⟨4 - x.1.length, by omega⟩
    have hd1 : 5 - (x.1.length + 1) = d := by omega
    rw [List.map_cons, List.sum_cons, hd, sz_kids] at h
    rw [hd] at ox
    have nnL : 0 ≤ (L.map fun x => sz (5 - x.1.length) x.2).sum := by
      clear h o
      induction L with
      | nil => exact Int.le_refl _
      | cons y L ih =>
        rw [List.map_cons, List.sum_cons]
        have := sz_nn (5 - y.1.length) y.2
        omega
    have nnK := sum_nn (kidsOf x.2) (fun y => sz_nn d y)
    cases n with
    | zero => have h : _ ≤ (0 : Int) := h; omega
    | succ n =>
      rw [fbW_succ, if_pos ⟨h4, ok_own ox⟩]
      refine fb_good n _ (fun y hy => ?_) ?_
      · rcases List.mem_append.mp hy with hy | hy
        · obtain ⟨e1, e2⟩ := waits_mem hy
          rw [e1, hd1]
          exact ok_kids ox _ e2
        · exact o y (List.mem_cons_of_mem _ hy)
      · rw [List.map_append, List.sum_append, waits_map (fun k s => sz (5 - k) s), hd1]
        have h : 1 + ((kidsOf x.2).map (sz d)).sum + (L.map fun x => sz (5 - x.1.length) x.2).sum ≤ ((n + 1 : Nat) : Int) := h
        show ((kidsOf x.2).map (sz d)).sum + (L.map fun x => sz (5 - x.1.length) x.2).sum ≤ (n : Int)
        omega
theorem fb_good1 {i M : Nat} {s : Sch} (o : OkS i M 5 s) (h : sz 5 s ≤ 12) : fbW i M 12 [([], s)] = none :=
  fb_good 12 _ (fun x hx => by rw [List.mem_singleton.mp hx]; exact o) (by show sz 5 s + 0 ≤ 12; omega)
def GoodAt (i M : Nat) (s : Sch) : Prop := OkS i M 5 s ∧ sz 5 s ≤ 12
theorem fbL_at {M : Nat} {s : Sch} {wh : List Nat} : ∀ (k i : Nat) (r : List Sch), (∀ j t, j < k → r[j]? = some t → GoodAt (i + j) M t) → r[k]? = some s → i + k < 5 → fbW (i + k) M 12 [([], s)] = some wh → fbL M i r = some (i + k, wh)
  | _, _, [], _, h, _, _ => by simp at h
  | 0, i, t :: r, _, h, hi, hb => by
    have h : some t = some s := h
    obtain rfl := Option.some.inj h
    rw [Nat.add_zero] at hb hi ⊢
    rw [fbL_cons, if_neg (by omega), hb]
  | k + 1, i, t :: r, g, h, hi, hb => by
    have g0 := g 0 t (by omega) rfl
    rw [fbL_cons, if_neg (by omega), fb_good1 (i := i) g0.1 g0.2]
    have := fbL_at k (i + 1) r (fun j u hj hu => by
      have := g (j + 1) u (by omega) hu
      rw [show i + (j + 1) = i + 1 + j by omega] at this
      exact this) h (by omega) (by rw [show i + 1 + k = i + (k + 1) by omega]; exact hb)
    rw [show i + 1 + k = i + (k + 1) by omega] at this
    exact this
theorem fbL_none {M : Nat} : ∀ (i : Nat) (r : List Sch), (∀ j t, r[j]? = some t → GoodAt (i + j) M t) → i + r.length ≤ 5 → fbL M i r = none
  | _, [], _, _ => rfl
  | i, t :: r, g, hi => by
    rw [List.length_cons] at hi
    have g0 := g 0 t rfl
    rw [fbL_cons, if_neg (by omega), fb_good1 (i := i) g0.1 g0.2]
    exact fbL_none (i + 1) r (fun j u hu => by
      have := g (j + 1) u hu
      rw [show i + (j + 1) = i + 1 + j by omega] at this
      exact this) (by omega)
end MS
end
section
set_option maxRecDepth 100000
set_option maxHeartbeats 4000000
namespace MS
open PySem L2
/-! ### the first thing that can't be: pure -/
/-- it stands at the path; c: how many schemes may be met till then -/
def Bad1 (i M : Nat) : Nat → Sch → List Nat → Int → Prop
  | 0, _, _, _ => False
  | _ + 1, s, [], c => okOwn i M s = false ∧ 1 ≤ c
  | d + 1, s, k :: path, c => okOwn i M s = true ∧ ∃ pre kid post, kidsOf s = pre ++ kid :: post ∧ pre.length = k ∧ (∀ t ∈ pre, OkS i M d t) ∧ Bad1 i M d kid path (c - 1 - (pre.map (sz d)).sum)
theorem Bad1.mono {i M : Nat} : ∀ {d : Nat} {s : Sch} {path : List Nat} {c c' : Int}, c ≤ c' → Bad1 i M d s path c → Bad1 i M d s path c'
  | 0, _, _, _, _, _, h => h
  | _ + 1, _, [], _, _, hc, h => ⟨h.1, by have := h.2; omega⟩
  | d + 1, _, k :: path, c, c', hc, h => by
    obtain ⟨h1, pre, kid, post, h2, h3, h4, h5⟩ := h
    exact ⟨h1, pre, kid, post, h2, h3, h4, h5.mono (by omega)⟩
theorem waits_app (wh : List Nat) (n : Nat) (a b : List Sch) : waitsOf wh n (a ++ b) = waitsOf wh n a ++ waitsOf wh (n + a.length) b := by
  unfold waitsOf
  rw [List.zipIdx_append, List.map_append]
theorem fb_skip {i M : Nat} : ∀ (n : Nat) (L1 L2 : List (List Nat × Sch)), (∀ x ∈ L1, OkS i M (5 - x.1.length) x.2) → (L1.map fun x => sz (5 - x.1.length) x.2).sum ≤ (n : Int) →
    ∃ m : Nat, (m : Int) = n - (L1.map fun x => sz (5 - x.1.length) x.2).sum ∧ fbW i M n (L1 ++ L2) = fbW i M m L2
  | n, [], L2, _, _ => ⟨n, by simp, rfl⟩
  | n, x :: L, L2, o, h => by
    have ox := o x List.mem_cons_self
    have h4 : x.1.length ≤ 4 := by
      by_cases c : x.1.length ≤ 4
      · exact c
      · rw [show 5 - x.1.length = 0 by omega] at ox
        cases ox
    obtain ⟨d, hd⟩ : ∃ d, 5 - x.1.length = d + 1 := ⟨4 - x.1.length, by omega⟩
    have hd1 : 5 - (x.1.length + 1) = d := by omega
    rw [List.map_cons, List.sum_cons, hd, sz_kids] at h ⊢
    rw [hd] at ox
    have nnL : 0 ≤ (L.map fun x => sz (5 - x.1.length) x.2).sum := by
      clear h o
      induction L with
      | nil => exact Int.le_refl _
      | cons y L ih =>
        rw [List.map_cons, List.sum_cons]
        have := sz_nn (5 - y.1.length) y.2
        omega
    have nnK := sum_nn (kidsOf x.2) (fun y => sz_nn d y)
    cases n with
    | zero => have h : _ ≤ (0 : Int) := h; omega
    | succ n =>
      have e : fbW i M (n + 1) (x :: L ++ L2) = fbW i M n ((waitsOf x.1 0 (kidsOf x.2) ++ L) ++ L2) := by
        show fbW i M (n + 1) (x :: (L ++ L2)) = _
        rw [fbW_succ, if_pos ⟨h4, ok_own ox⟩, List.append_assoc]
      have es : ((waitsOf x.1 0 (kidsOf x.2) ++ L).map fun x => sz (5 - x.1.length) x.2).sum = ((kidsOf x.2).map (sz d)).sum + (L.map fun x => sz (5 - x.1.length) x.2).sum := by
        rw [List.map_append, List.sum_append, waits_map (fun k s => sz (5 - k) s), hd1]
      have h : 1 + ((kidsOf x.2).map (sz d)).sum + (L.map fun x => sz (5 - x.1.length) x.2).sum ≤ ((n + 1 : Nat) : Int) := h
      obtain ⟨m, hm, em⟩ := fb_skip n (waitsOf x.1 0 (kidsOf x.2) ++ L) L2 (fun y hy => by
        rcases List.mem_append.mp hy with hy | hy
        · obtain ⟨e1, e2⟩ := waits_mem hy
          rw [e1, hd1]
          exact ok_kids ox _ e2
        · exact o y (List.mem_cons_of_mem _ hy)) (by rw [es]; omega)
      rw [es] at hm
      exact ⟨m, by omega, by rw [e]; exact em⟩
theorem fb_bad {i M : Nat} : ∀ (path wh : List Nat) (n : Nat) (L : List (List Nat × Sch)) (s : Sch) (c : Int), Bad1 i M (5 - wh.length) s path c → c ≤ (n : Int) → fbW i M n ((wh, s) :: L) = some (wh ++ path)
  | [], wh, n, L, s, c, h, hc => by
    cases hd : 5 - wh.length with
    | zero => rw [hd] at h; exact h.elim
    | succ d =>
      rw [hd] at h
      obtain ⟨h1, h2⟩ := h
      cases n with
      | zero => have hc : c ≤ (0 : Int) := hc; omega
      | succ n =>
        rw [fbW_succ, if_neg (fun z => by rw [z.2] at h1; cases h1), List.append_nil]
  | k :: path, wh, n, L, s, c, h, hc => by
    cases hd : 5 - wh.length with
    | zero => rw [hd] at h; exact h.elim
    | succ d =>
      rw [hd] at h
      obtain ⟨h1, pre, kid, post, h2, h3, h4, h5⟩ := h
      have hd1 : 5 - (wh.length + 1) = d := by omega
      have hpos : ∀ {d : Nat} {s : Sch} {path : List Nat} {c : Int}, Bad1 i M d s path c → 1 ≤ c := by
        intro d
        induction d with
        | zero => intro s path c h; exact h.elim
        | succ d ih =>
          intro s path c h
          cases path with
          | nil => exact h.2
          | cons k path =>
            obtain ⟨_, pre, kid, post, _, _, _, h5⟩ := h
            have := ih h5
            have := sum_nn pre (fun y => sz_nn d y)
            omega
      have p5 := hpos h5
      have nnP := sum_nn pre (fun y => sz_nn d y)
      cases n with
      | zero => have hc : c ≤ (0 : Int) := hc; omega
      | succ n =>
        rw [fbW_succ, if_pos ⟨show wh.length ≤ 4 by omega, h1⟩]
        show fbW i M n (waitsOf wh 0 (kidsOf s) ++ L) = _
        rw [h2, waits_app, Nat.zero_add, List.append_assoc, waits_cons]
        have es : ((waitsOf wh 0 pre).map fun x => sz (5 - x.1.length) x.2).sum = (pre.map (sz d)).sum := by
          rw [waits_map (fun k s => sz (5 - k) s), hd1]
        obtain ⟨m, hm, em⟩ := fb_skip (i := i) (M := M) n (waitsOf wh 0 pre) (((wh ++ [pre.length], kid) :: waitsOf wh (pre.length + 1) post) ++ L) (fun y hy => by
          obtain ⟨e1, e2⟩ := waits_mem hy
          rw [e1, hd1]
          exact h4 _ e2) (by rw [es]; omega)
        rw [em]
        rw [es] at hm
        have hl : 5 - (wh ++ [pre.length]).length = d := by rw [List.length_append, List.length_singleton]; exact hd1
        have := fb_bad path (wh ++ [pre.length]) m (waitsOf wh (pre.length + 1) post ++ L) kid (c - 1 - (pre.map (sz d)).sum) (by rw [hl]; exact h5) (by omega)
        rw [List.cons_append, this, List.append_assoc, h3]
        rfl
/-- a paper, one scheme of which is bad at a path, good ones ahead -/
theorem badP_at {ps : List Sch} {n : Nat} {s : Sch} {path : List Nat} (h : ps[n]? = some s) (hn : n < 5) (g : ∀ j t, j < n → ps[j]? = some t → GoodAt j ps.length t) (b : Bad1 n ps.length 5 s path 12) : badP ps = some (n, path) := by
  refine badP_of ?_
  have := fbL_at (M := ps.length) (s := s) (wh := path) n 0 ps (fun j t hj ht => by rw [Nat.zero_add]; exact g j t hj ht) h (by omega) (by
    rw [Nat.zero_add]
    have := fb_bad (i := n) (M := ps.length) path [] 12 [] s 12 b (by decide)
    rw [List.nil_append] at this
    exact this)
  rw [Nat.zero_add] at this
  exact this
end MS
end
section
set_option maxRecDepth 100000
set_option maxHeartbeats 4000000
namespace MS
open PySem L2
open LamX XQs XLs
/-! ### the law's _law_odd -/
/-- draws: the box goes on, all else stays -/
def BK (b l : Addr) (H H' : Hp) : Prop := Box H' b l ∧ Keep [b, l] H H'
theorem BK.refl {b l : Addr} {H : Hp} (B : Box H b l) : BK b l H H := ⟨B, Keep.refl _ _⟩
theorem Box.same {H H' : Hp} {b l : Addr} (B : Box H b l) (s : Same H H') : Box H' b l := by
  obtain ⟨ne, ⟨n, e1⟩, ns, e2⟩ := B
  exact ⟨ne, ⟨n, s _ _ e1⟩, ns, s _ _ e2⟩
theorem BK.same {b l : Addr} {H H1 H2 : Hp} (k : BK b l H H1) (s : Same H1 H2) : BK b l H H2 := ⟨k.1.same s, k.2.trans (Same.keep s)⟩
theorem BK.trans {b l : Addr} {H H1 H2 : Hp} (k : BK b l H H1) (k2 : BK b l H1 H2) : BK b l H H2 := ⟨k2.1, k.2.trans k2.2⟩
theorem BK.tup {b l : Addr} {H H' : Hp} (B : Box H b l) (k : BK b l H H') : TupK H H' := k.2.tup fun a ha => by
  obtain ⟨ne, ⟨n, e1⟩, ns, e2⟩ := B
  rcases List.mem_cons.mp ha with rfl | ha
  · exact ⟨_, e1⟩
  · rw [List.mem_singleton.mp ha]
    exact ⟨_, e2⟩
theorem take_ev {σ : St} {H : Hp} {b l : Addr} {m : Int} (s0 : σ[0]? = some (some (.ref b))) (B : Box H b l) (m0 : 0 < m) (m1 : m < 1073741824) : ∀ Q : VK, (∀ (r : Int) (H' : Hp), 0 ≤ r → r < m → BK b l H H' → Q (.int r) H') → tCall spTake [] E0 (tCons (tVar 0) (tCons (tC (.int m)) tNil)) σ H Q :=
  fun Q q => ⟨_, s0, b, l, m, rfl, m0, m1, B, fun r H' a0 a1 B1 k1 => q r H' a0 a1 ⟨B1, k1⟩⟩
def spTakeW : Sp := fun vs H Q _ => ∃ (b l : Addr) (m : Int), vs = [.ref b, .int m] ∧ 0 < m ∧ m.natAbs.log2 < 9000 ∧ Box H b l ∧
  ∀ (r : Int) (H' : Hp), 0 ≤ r → r < m → Box H' b l → Keep [b, l] H H' → Q (.int r) H'
section
variable {P : Program} {w : World} {K : PySem.W.Frag} {mg : Str → Option Value} {base : Heap}
theorem ok_takeW (D : Def K mg "_law_take" s_L_take ["_law_box", "_law_many"]) : FnOk P w K mg base CX0 1 D.f D.fd ["_law_box", "_law_many"] spTakeW := by
  refine D.ok sc_L_take (fun vs H Q E h => ?_) (fun cdv A outer s H vs Q E hr h => ?_)
  · obtain ⟨b, l, m, rfl, _⟩ := h
    rfl
  obtain ⟨b, l, m, rfl, m0, m1, ⟨nbl, ⟨n, eb⟩, ns, el⟩, q⟩ := h
  refine ⟨_, pss_cons (ps_if (pt_cmpR (op_eqD hr.units) (pe_ix ix_list (pv 0) pe_int (fun _ _ => rfl)) (pe_lst pa_nil) (nomark _))
      (pss_cons (ps_asg (pe_op op_mod (pe_op op_mul (pe_ix ix_list (pv 0) pe_int (fun _ _ => rfl)) pe_int) pe_int) (pg_sub (pv 0) pe_int set_list))
        (pss_one (ps_ret (pe_op op_mod (pe_op op_fdiv (pe_ix ix_list (pv 0) pe_int (fun _ _ => rfl)) pe_int) (pv 1))))) pss_nil)
    (pss_cons (ps_set (i := 2) sc_L_take.nd rfl (Or.inl rfl) (pe_ix ix_list (pe_ix ix_list (pv 0) pe_int (fun _ _ => rfl)) pe_int (fun _ _ => rfl)))
    (pss_cons (ps_asg (pe_op op_fdivW (pv 2) (pv 1)) (pg_sub (pe_ix ix_list (pv 0) pe_int (fun _ _ => rfl)) pe_int set_list))
    (pss_cons (ps_if (PW.pt (pw_or (pt_cmpR op_eq (pe_ix ix_list (pe_ix ix_list (pv 0) pe_int (fun _ _ => rfl)) pe_int (fun _ _ => rfl)) pe_int (nomark _))
        (pw_or1 (pt_cmpR op_eq (pe_ix ix_list (pe_ix ix_list (pv 0) pe_int (fun _ _ => rfl)) pe_int (fun _ _ => rfl)) (pe_un un_neg pe_int) (nomark _)))))
        (pss_one (ps_expr (pe_bm PySem.F.plainAttrs_list PySem.F.slot_list_pop PySem.F.type_list_pop mt_popAt (pe_ix ix_list (pv 0) pe_int (fun _ _ => rfl)) (pa_cons pe_int pa_nil)))) pss_nil)
    (pss_one (ps_ret (pe_op op_mod (pv 2) (pv 1))))))), ?_⟩
  refine ⟨_, rfl, b, _, 0, .ref l, rfl, rfl, SqL.of eb, rfl, ?_⟩
  refine ⟨Nat.zero_le _, fun p hp => ?_⟩
  have nlp : l ≠ p := ne_of_none el hp
  have nbp : b ≠ p := ne_of_none eb hp
  have eb1 : upd H p (.lst []) b = some (.lst [.ref l, .int n]) := by rw [upd_ne nbp]; exact eb
  have el1 : upd H p (.lst []) l = some (.lst (ns.map V.int)) := by rw [upd_ne nlp]; exact el
  have k1 : Keep [b, l] H (upd H p (.lst [])) := Keep.new hp
  refine ⟨.list (ns.map PyData.int), .list [], .lst (SqL.of el1) (dp_ints ns), .lst (SqL.of upd_same) .nil, ?_, rfl, ?_⟩
  · exact (ShN.lst (sh_ints 0 ns)).ok (by decide)
  refine ⟨_, rfl, ?_⟩
  refine ite2 (fun c => ?_) (fun c => ?_)
  · refine ⟨_, rfl, b, _, 1, .int n, rfl, rfl, SqL.of eb1, rfl, _, _, rfl, rfl, .inr ⟨by decide, by decide⟩, _, _, rfl, rfl, (by show (0 : Int) < 2147483647; decide), ?_⟩
    refine ⟨_, rfl, b, _, 1, 1, rfl, rfl, eb1, rfl, ?_⟩
    refine ⟨_, rfl, b, _, 1, _, rfl, rfl, SqL.of upd_same, rfl, _, _, rfl, rfl, ⟨by decide, by decide⟩, _, rfl, _, _, rfl, rfl, m0, ?_⟩
    refine q _ _ (Int.emod_nonneg _ (by omega)) (Int.emod_lt_of_pos _ m0) ⟨nbl, ⟨_, upd_same⟩, ns, ?_⟩ (k1.trans (Keep.put (by simp)))
    rw [upd_ne nbl.symm]
    exact el1
  · have hne : ns ≠ [] := fun z => c (by rw [z]; rfl)
    obtain ⟨z, r, rfl⟩ : ∃ z r, ns = z :: r := by
      cases ns with
      | nil => exact absurd rfl hne
      | cons z r => exact ⟨z, r, rfl⟩
    refine ⟨_, rfl, b, _, 0, .ref l, rfl, rfl, SqL.of eb1, rfl, l, _, 0, .int z, rfl, rfl, SqL.of el1, at0, ?_⟩
    refine ⟨_, rfl, _, rfl, _, _, rfl, rfl, ⟨m0, m1⟩, _, rfl, b, _, 0, .ref l, rfl, rfl, SqL.of eb1, rfl, l, _, 0, 0, rfl, rfl, el1, ix0, ?_⟩
    have eb2 : ∀ o, upd (upd H p (.lst [])) l o b = some (.lst [.ref l, .int n]) := fun o => by rw [upd_ne nbl]; exact eb1
    refine ⟨_, rfl, b, _, 0, .ref l, rfl, rfl, SqL.of (eb2 _), rfl, l, _, 0, .int (z / m), rfl, rfl, SqL.of upd_same, at0, rfl, _, rfl, ?_⟩
    have fin : ∀ (H' : Hp), Box H' b l → Keep [b, l] H H' → Q (.int (z % m)) H' := fun H' B k => q _ _ (Int.emod_nonneg _ (by omega)) (Int.emod_lt_of_pos _ m0) B k
    have k2 : ∀ o, Keep [b, l] H (upd (upd H p (.lst [])) l o) := fun o => k1.trans (Keep.put (by simp))
    refine ite2 (fun c2 => ?_) (fun c2 => ?_)
    · refine iteT ⟨_, rfl, b, _, 0, .ref l, rfl, rfl, SqL.of (eb2 _), rfl, .inl ⟨rfl, _, SqL.of upd_same⟩, l, _, 0, 0, _, rfl, rfl, upd_same, by decide, by decide, seq0, rfl, ?_⟩
      refine ⟨_, rfl, _, rfl, _, _, rfl, rfl, m0, fin _ ⟨nbl, ⟨n, by rw [upd_ne nbl]; exact eb2 _⟩, r, upd_same⟩ ((k2 _).trans (Keep.put (by simp)))⟩
    · refine ⟨_, rfl, b, _, 0, .ref l, rfl, rfl, SqL.of (eb2 _), rfl, l, _, 0, .int (z / m), rfl, rfl, SqL.of upd_same, at0, _, rfl, rfl, _, rfl, ?_⟩
      by_cases c3 : decide (V.int (z / m) = V.int (-1)) = true
      · show (if decide (V.int (z / m) = V.int (-1)) = true then _ else _)
        rw [if_pos c3]
        refine ⟨_, rfl, b, _, 0, .ref l, rfl, rfl, SqL.of (eb2 _), rfl, .inl ⟨rfl, _, SqL.of upd_same⟩, l, _, 0, 0, _, rfl, rfl, upd_same, by decide, by decide, seq0, rfl, ?_⟩
        refine ⟨_, rfl, _, rfl, _, _, rfl, rfl, m0, fin _ ⟨nbl, ⟨n, by rw [upd_ne nbl]; exact eb2 _⟩, r, upd_same⟩ ((k2 _).trans (Keep.put (by simp)))⟩
      · show (if decide (V.int (z / m) = V.int (-1)) = true then _ else _)
        rw [if_neg c3]
        refine ⟨_, rfl, _, rfl, _, _, rfl, rfl, m0, fin _ ⟨nbl, ⟨n, eb2 _⟩, (z / m) :: r, upd_same⟩ (k2 _)⟩
end
/-- what is no scheme of scheme i of M -/
def OddV (i M : Nat) (H : Hp) (v : V) : Prop := ∃ s, SAtO H H 1 s v ∧ Frm 1 s ∧ okOwn i M s = false
theorem OddV.same {i M : Nat} {H H' : Hp} {v : V} (h : OddV i M H v) (k : Same H H') : OddV i M H' v := by
  obtain ⟨s, h1, h2, h3⟩ := h
  exact ⟨s, SAtO.same k _ _ _ (SAtO.keep (Same.tupK k) _ _ _ h1), h2, h3⟩
theorem Box.ko {H H' : Hp} {b l : Addr} (B : Box H b l) (k : Keep [b, l] H H') : KO H H' := fun a o e h => k a o e fun hm => by
  obtain ⟨_, ⟨n, e1⟩, ns, e2⟩ := B
  rcases List.mem_cons.mp hm with rfl | hm
  · rw [e1] at e
    obtain rfl := Option.some.inj e
    rcases h with ⟨_, z⟩ | ⟨_, _, z⟩ | ⟨_, z⟩ <;> cases z
  · rw [List.mem_singleton.mp hm, e2] at e
    obtain rfl := Option.some.inj e
    cases ns with
    | nil => rcases h with ⟨_, z⟩ | ⟨_, _, z⟩ | ⟨_, z⟩ <;> cases z
    | cons _ _ => rcases h with ⟨_, z⟩ | ⟨_, _, z⟩ | ⟨_, z⟩ <;> cases z
theorem OddV.keepO {i M : Nat} {H H' : Hp} {v : V} (h : OddV i M H v) (k : KO H H') : OddV i M H' v := by
  obtain ⟨s, h1, h2, h3⟩ := h
  exact ⟨s, SAtO.sameO k _ _ _ (SAtO.keep k.tup _ _ _ h1), h2, h3⟩
theorem OddV.of {i M : Nat} {H : Hp} {v : V} (h : Odd H v) : OddV i M H v := ⟨.use 0, .inl ⟨rfl, h⟩, True.intro, own0 i M⟩
def OddE (i M : Nat) (H0 : Hp) (σ : St) (te : TE) : Prop := ∀ (H : Hp) (Q : VK), Same H0 H → (∀ v H', Same H H' → OddV i M H' v → Q v H') → te σ H Q
def OddEs (i M : Nat) (H0 : Hp) (σ : St) (n : Nat) (ts : TA) : Prop := ∀ (H : Hp) (Q : List V → Hp → Prop), Same H0 H → (∀ vs H', Same H H' → (∀ v ∈ vs, OddV i M H' v) → vs.length = n → Q vs H') → ts σ H Q
theorem oddEs_nil {i M : Nat} {H0 : Hp} {σ : St} : OddEs i M H0 σ 0 tNil := fun H Q _ q => q [] H (Same.refl _) (fun _ h => nomatch h) rfl
theorem oddEs_cons {i M n : Nat} {H0 : Hp} {σ : St} {te : TE} {ts : TA} (h : OddE i M H0 σ te) (hs : OddEs i M H0 σ n ts) : OddEs i M H0 σ (n + 1) (tCons te ts) := fun H Q s q =>
  h H _ s fun v H1 s1 o => hs H1 _ (s.trans s1) fun vs H2 s2 os l => q (v :: vs) H2 (s1.trans s2) (fun x hx => by
    rcases List.mem_cons.mp hx with rfl | hx
    · exact o.same s2
    · exact os x hx) (by rw [List.length_cons, l])
theorem odd_lst {i M n : Nat} {σ : St} {H : Hp} {ts : TA} {Q : VK} (hn : n ≤ 100) (he : OddEs i M H σ n ts) (q : ∀ r ys H', H r = none → Same H H' → H' r = some (.lst ys) → (∀ v ∈ ys, OddV i M H' v) → ys.length = n → Q (.ref r) H') : tLst ts σ H Q :=
  he H _ (Same.refl _) fun vs H1 s1 o1 l1 => ⟨szN (by omega), fun p hp => q p vs _ (s1.free hp) (s1.trans (Same.new hp)) upd_same (fun v hv => (o1 v hv).same (Same.new hp)) l1⟩
theorem odd_cat {i M n : Nat} {σ : St} {H : Hp} {l : Addr} {xs : List V} {ts : TA} {Q : VK} (s5 : σ[5]? = some (some (.ref l))) (el : H l = some (.lst xs)) (ax : ∀ v ∈ xs, OddV i M H v) (hl : xs.length ≤ 100) (hn : n ≤ 100) (he : OddEs i M H σ n ts)
    (q : ∀ r ys H', H r = none → Same H H' → H' r = some (.lst ys) → (∀ v ∈ ys, OddV i M H' v) → ys.length = xs.length + n → Q (.ref r) H') : tOp rCat (tVar 5) (tLst ts) σ H Q := by
  refine ⟨_, s5, odd_lst hn he fun p vs H1 _ s1 ep o1 l1 => ⟨l, p, xs, vs, rfl, rfl, s1 _ _ el, ep, szN (by omega), fun r hr => ?_⟩⟩
  have s2 := Same.new (o := .lst (xs ++ vs)) hr
  exact q r _ _ (s1.free hr) (s1.trans s2) upd_same (fun v hv => by
    rcases List.mem_append.mp hv with hv | hv
    · exact ((ax v hv).same s1).same s2
    · exact (o1 v hv).same s2) (by rw [List.length_append, l1])
/-- what the elements read -/
structure OddF (H0 : Hp) (σ : St) (i M : Nat) (far : Int) (g : Addr) : Prop where
  s1 : σ[1]? = some (some (.int ((i : Nat) : Int)))
  s2 : σ[2]? = some (some (.int ((M : Nat) : Int)))
  s3 : σ[3]? = some (some (.int far))
  s4 : σ[4]? = some (some (.ref g))
  eg : H0 g = some (.tup [.str "step", .str "a", .int 1])
  f0 : 0 ≤ far
theorem odd_fit {H : Hp} {a : Addr} {nm : Str} {kinds : List Str} (prs : List (V × Bool)) (e : H a = some (.tup (.str nm :: prs.map (·.1)))) (hm : (nm, kinds) ∈ shapesL) (hf : ∀ i M, Paired (FitB H i M) prs kinds) (hb : (prs.map (·.2)).all id = false) : Odd H (.ref a) :=
  .inr (.inr (.inr (.inr ⟨a, nm, kinds, prs, rfl, e, hm, hf, hb⟩)))
theorem odd_len {H : Hp} {a : Addr} {nm : Str} {rest : List V} (kinds : List Str) (e : H a = some (.tup (.str nm :: rest))) (hm : (nm, kinds) ∈ shapesL) (h1 : rest.length ≠ kinds.length) (h2 : rest.length ≤ 100) : Odd H (.ref a) :=
  .inr (.inr (.inr (.inl ⟨a, nm, rest, kinds, rfl, e, hm, h1, h2⟩)))
theorem fbW_ {H : Hp} {i M : Nat} {x : Str} {b : Bool} (e : inV (.str x) (wordsL.map V.str) = b) : FitB H i M (.str x, b) "word" := .inl ⟨rfl, .inl ⟨x, rfl⟩, e.symm⟩
theorem fbP_ {H : Hp} {i M : Nat} {n : Int} {b : Bool} (e : decide (1 ≤ n ∧ n ≤ 9) = b) : FitB H i M (.int n, b) "points" := .inr (.inl ⟨rfl, .inl ⟨n, rfl, e.symm⟩⟩)
theorem fbL_ {H : Hp} {i M : Nat} {n : Int} {b : Bool} (e : decide (0 ≤ n ∧ n ≤ 30) = b) : FitB H i M (.int n, b) "limit" := .inr (.inr (.inl ⟨rfl, .inl ⟨n, rfl, e.symm⟩⟩))
theorem fbS_ {H : Hp} {i M : Nat} {u : V} : FitB H i M (u, true) "scheme" := .inr (.inr (.inr (.inr (.inl ⟨rfl, rfl⟩))))
section
variable {H0 : Hp} {σ : St} {i M : Nat} {far : Int} {g : Addr} {K : PySem.W.Frag}
theorem odd1 (F : OddF H0 σ i M far g) : OddE i M H0 σ ((tTup (tCons (tC (.str "step")) (tCons (tC (.str "i")) (tCons (tC (.int 1)) tNil))))) := fun H Q s q => ⟨(by show 3 ≤ sizeLine; decide), fun p hp => q _ _ (Same.new hp) (.of (odd_fit [(.str "i", false), (.int 1, true)] upd_same (kinds := ["word", "points"]) (by decide +kernel) (fun _ _ => (.cons (fbW_ (by decide +kernel)) (.cons (fbP_ rfl) .nil))) rfl))⟩
theorem odd2 (F : OddF H0 σ i M far g) : OddE i M H0 σ ((tTup (tCons (tC (.str "step")) (tCons (tC (.str "a")) (tCons (tC (.int 0)) tNil))))) := fun H Q s q => ⟨(by show 3 ≤ sizeLine; decide), fun p hp => q _ _ (Same.new hp) (.of (odd_fit [(.str "a", true), (.int 0, false)] upd_same (kinds := ["word", "points"]) (by decide +kernel) (fun _ _ => (.cons (fbW_ (by decide +kernel)) (.cons (fbP_ rfl) .nil))) rfl))⟩
theorem odd3 (F : OddF H0 σ i M far g) : OddE i M H0 σ ((tTup (tCons (tC (.str "step")) (tCons (tC (.str "a")) (tCons (tOp (rI0 fun i j => .int (i + j)) (tC (.int 10)) (tVar 3)) tNil))))) := fun H Q s q => ⟨_, F.s3, _, _, rfl, rfl, (by show 3 ≤ sizeLine; decide), fun p hp => q _ _ (Same.new hp) (.of (odd_fit [(.str "a", true), (.int (10 + far), false)] upd_same (kinds := ["word", "points"]) (by decide +kernel) (fun _ _ => (.cons (fbW_ (by decide +kernel)) (.cons (fbP_ (decide_eq_false fun z => by have := F.f0; omega)) .nil))) rfl))⟩
theorem odd4 (F : OddF H0 σ i M far g) : OddE i M H0 σ ((tTup (tCons (tC (.str "step")) (tCons (tC (.str "a")) tNil)))) := fun H Q s q => ⟨sz2, fun p hp => q _ _ (Same.new hp) (.of (odd_len ["word", "points"] upd_same (by decide +kernel) (by decide) (by decide)))⟩
theorem odd5 (F : OddF H0 σ i M far g) : OddE i M H0 σ ((tTup (tCons (tC (.str "step")) (tCons (tC (.str "a")) (tCons (tC (.int 1)) (tCons (tC (.int 1)) tNil)))))) := fun H Q s q => ⟨(by show 4 ≤ sizeLine; decide), fun p hp => q _ _ (Same.new hp) (.of (odd_len ["word", "points"] upd_same (by decide +kernel) (by decide) (by decide)))⟩
theorem odd6 (F : OddF H0 σ i M far g) : OddE i M H0 σ ((tTup (tCons (tC (.str "Step")) (tCons (tC (.str "a")) (tCons (tC (.int 1)) tNil))))) := fun H Q s q => ⟨(by show 3 ≤ sizeLine; decide), fun p hp => q _ _ (Same.new hp) (.of (.inr (.inr (.inl ⟨_, _, rfl, upd_same⟩))))⟩
theorem odd7 (F : OddF H0 σ i M far g) : OddE i M H0 σ ((tTup (tCons (tC (.str "all")) (tCons (tTup tNil) tNil)))) := fun H Q s q => ⟨Nat.zero_le _, fun p0 h0 => ⟨sz2, fun p hp => q _ _ ((Same.new h0).trans (Same.new hp)) (.of (odd_fit [(.ref p0, false)] upd_same (kinds := ["schemes"]) (by decide +kernel) (fun _ _ => .cons (.inr (.inr (.inr (.inl ⟨rfl, .inl ⟨p0, [], rfl, Same.new hp _ _ upd_same, rfl⟩⟩)))) .nil) rfl))⟩⟩
theorem odd8 (F : OddF H0 σ i M far g) : OddE i M H0 σ ((tTup (tCons (tC (.str "all")) (tCons (tOp (rRepT K) (tTup (tCons (tVar 4) tNil)) (tC (.int 5))) tNil)))) := fun H Q s q => ⟨_, F.s4, (by show 1 ≤ sizeLine; decide), fun p0 h0 => ⟨p0, 5, _, rfl, rfl, SqT.of upd_same, (fun z => nomatch z), by decide, by decide, by show 1 ≤ 1000; decide, fun p1 h1 => ⟨sz2, fun p hp => q _ _ (((Same.new h0).trans (Same.new h1)).trans (Same.new hp)) (.of (odd_fit [(.ref p1, false)] upd_same (kinds := ["schemes"]) (by decide +kernel) (fun _ _ => .cons (.inr (.inr (.inr (.inl ⟨rfl, .inl ⟨p1, _, rfl, Same.new hp _ _ upd_same, rfl⟩⟩)))) .nil) rfl))⟩⟩⟩
theorem odd9 (F : OddF H0 σ i M far g) : OddE i M H0 σ ((tTup (tCons (tC (.str "best")) (tCons (tLst (tCons (tVar 4) tNil)) tNil)))) := fun H Q s q => ⟨_, F.s4, (by show 1 ≤ sizeLine; decide), fun p0 h0 => ⟨sz2, fun p hp => q _ _ ((Same.new h0).trans (Same.new hp)) (.of (odd_fit [(.ref p0, false)] upd_same (kinds := ["schemes"]) (by decide +kernel) (fun _ _ => .cons (.inr (.inr (.inr (.inl ⟨rfl, .inr (.inl ⟨p0, _, rfl, Same.new hp _ _ upd_same, rfl⟩)⟩)))) .nil) rfl))⟩⟩
theorem odd10 (F : OddF H0 σ i M far g) : OddE i M H0 σ ((tTup (tCons (tC (.str "most")) (tCons (tOp (rI0 fun i j => .int (i + j)) (tC (.int 31)) (tVar 3)) (tCons (tVar 4) tNil))))) := fun H Q s q => ⟨_, F.s3, _, _, rfl, rfl, _, F.s4, (by show 3 ≤ sizeLine; decide), fun p hp => q _ _ (Same.new hp) (.of (odd_fit [(.int (31 + far), false), (.ref g, true)] upd_same (kinds := ["limit", "scheme"]) (by decide +kernel) (fun _ _ => (.cons (fbL_ (decide_eq_false fun z => by have := F.f0; omega)) (.cons fbS_ .nil))) rfl))⟩
theorem odd11 (F : OddF H0 σ i M far g) : OddE i M H0 σ ((tTup (tCons (tC (.str "most")) (tCons (tOp (rI0 fun i j => .int (i - j)) (tUn (rU fun i => .int (-i)) (tC (.int 1))) (tVar 3)) (tCons (tVar 4) tNil))))) := fun H Q s q => ⟨1, rfl, _, F.s3, _, _, rfl, rfl, _, F.s4, (by show 3 ≤ sizeLine; decide), fun p hp => q _ _ (Same.new hp) (.of (odd_fit [(.int (-1 - far), false), (.ref g, true)] upd_same (kinds := ["limit", "scheme"]) (by decide +kernel) (fun _ _ => (.cons (fbL_ (decide_eq_false fun z => by have := F.f0; omega)) (.cons fbS_ .nil))) rfl))⟩
theorem odd12 (F : OddF H0 σ i M far g) : OddE i M H0 σ ((tTup (tCons (tC (.str "half")) tNil))) := fun H Q s q => ⟨(by show 1 ≤ sizeLine; decide), fun p hp => q _ _ (Same.new hp) (.of (odd_len ["scheme"] upd_same (by decide +kernel) (by decide) (by decide)))⟩
theorem odd13 (F : OddF H0 σ i M far g) : OddE i M H0 σ ((tTup (tCons (tC (.str "half")) (tCons (tVar 4) (tCons (tVar 4) tNil))))) := fun H Q s q => ⟨_, F.s4, _, F.s4, (by show 3 ≤ sizeLine; decide), fun p hp => q _ _ (Same.new hp) (.of (odd_len ["scheme"] upd_same (by decide +kernel) (by show 2 ≠ 1; decide) (by show 2 ≤ 100; decide)))⟩
theorem odd14 (F : OddF H0 σ i M far g) : OddE i M H0 σ ((tTup (tCons (tC (.str "seen")) (tCons (tC (.str "ab")) (tCons (tVar 4) tNil))))) := fun H Q s q => ⟨_, F.s4, (by show 3 ≤ sizeLine; decide), fun p hp => q _ _ (Same.new hp) (.of (odd_fit [(.str "ab", false), (.ref g, true)] upd_same (kinds := ["word", "scheme"]) (by decide +kernel) (fun _ _ => (.cons (fbW_ (by decide +kernel)) (.cons fbS_ .nil))) rfl))⟩
theorem odd15 (F : OddF H0 σ i M far g) : OddE i M H0 σ ((tTup (tCons (tC (.str "carry")) tNil))) := fun H Q s q => ⟨(by show 1 ≤ sizeLine; decide), fun p hp => q _ _ (Same.new hp) (.of (odd_len ["scheme"] upd_same (by decide +kernel) (by decide) (by decide)))⟩
theorem odd16 (F : OddF H0 σ i M far g) : OddE i M H0 σ ((tTup tNil)) := fun H Q s q => ⟨Nat.zero_le _, fun p hp => q _ _ (Same.new hp) (.of (.inr (.inl ⟨_, rfl, upd_same⟩)))⟩
theorem odd17 (F : OddF H0 σ i M far g) : OddE i M H0 σ ((tTup (tCons (tC (.str "behind")) (tCons (tC (.str "")) (tCons (tVar 4) tNil))))) := fun H Q s q => ⟨_, F.s4, (by show 3 ≤ sizeLine; decide), fun p hp => q _ _ (Same.new hp) (.of (odd_fit [(.str "", false), (.ref g, true)] upd_same (kinds := ["word", "scheme"]) (by decide +kernel) (fun _ _ => (.cons (fbW_ (by decide +kernel)) (.cons fbS_ .nil))) rfl))⟩
theorem odd18 (F : OddF H0 σ i M far g) : OddE i M H0 σ (tC .non) := fun H Q s q => q _ _ (Same.refl _) (.of (.inl (.inl rfl)))
theorem odd19 (F : OddF H0 σ i M far g) : OddE i M H0 σ (tC (.str "step")) := fun H Q s q => q _ _ (Same.refl _) (.of (.inl (.inr (.inl ⟨_, rfl⟩))))
theorem odd20 (F : OddF H0 σ i M far g) : OddE i M H0 σ ((tTup (tCons (tC (.str "end")) (tCons (tC (.str "a")) (tCons (tC (.int 0)) (tCons (tVar 4) tNil)))))) := fun H Q s q => ⟨_, F.s4, (by show 4 ≤ sizeLine; decide), fun p hp => q _ _ (Same.new hp) (.of (odd_fit [(.str "a", true), (.int 0, false), (.ref g, true)] upd_same (kinds := ["word", "points", "scheme"]) (by decide +kernel) (fun _ _ => (.cons (fbW_ (by decide +kernel)) (.cons (fbP_ rfl) (.cons fbS_ .nil)))) rfl))⟩
theorem odd21 (F : OddF H0 σ i M far g) : OddE i M H0 σ ((tTup (tCons (tC (.str "end")) (tCons (tC (.str "a")) (tCons (tVar 4) tNil))))) := fun H Q s q => ⟨_, F.s4, (by show 3 ≤ sizeLine; decide), fun p hp => q _ _ (Same.new hp) (.of (odd_len ["word", "points", "scheme"] upd_same (by decide +kernel) (by show 2 ≠ 3; decide) (by show 2 ≤ 100; decide)))⟩
theorem odd22 (F : OddF H0 σ i M far g) : OddE i M H0 σ ((tTup (tCons (tC (.str "use")) (tCons (tVar 1) tNil)))) := fun H Q s q => ⟨_, F.s1, sz2, fun p hp => q _ _ (Same.new hp) ⟨.use i, .inr ⟨p, rfl, upd_same⟩, True.intro, decide_eq_false fun z => by omega⟩⟩
theorem odd23 (F : OddF H0 σ i M far g) : OddE i M H0 σ ((tTup (tCons (tC (.str "use")) (tCons (tOp (rI0 fun i j => .int (i + j)) (tVar 2) (tVar 3)) tNil)))) := fun H Q s q => ⟨_, F.s2, _, F.s3, _, _, rfl, rfl, sz2, fun p hp => q _ _ (Same.new hp) ⟨.use (M + far.toNat), .inr ⟨p, rfl, by rw [show (((M + far.toNat : Nat)) : Int) = (M : Int) + far by have := F.f0; omega]; exact upd_same⟩, True.intro, decide_eq_false fun z => by omega⟩⟩
theorem odd24 (F : OddF H0 σ i M far g) : OddE i M H0 σ ((tTup (tCons (tC (.str "use")) (tCons (tOp (rI0 fun i j => .int (i - j)) (tUn (rU fun i => .int (-i)) (tC (.int 1))) (tVar 3)) tNil)))) := fun H Q s q => ⟨1, rfl, _, F.s3, _, _, rfl, rfl, sz2, fun p hp => q _ _ (Same.new hp) (.of (odd_fit [(.int (-1 - far), false)] upd_same (kinds := ["later"]) (by decide +kernel) (fun _ _ => .cons (.inr (.inr (.inr (.inr (.inr ⟨rfl, _, rfl, (decide_eq_false fun z => by have := F.f0; omega).symm⟩))))) .nil) rfl))⟩
theorem odd25 (F : OddF H0 σ i M far g) : OddE i M H0 σ ((tTup (tCons (tC (.str "step")) (tCons (tC (.str "a")) (tCons (tC (.bl true)) tNil))))) := fun H Q s q => ⟨(by show 3 ≤ sizeLine; decide), fun p hp => q _ _ (Same.new hp) (.of (odd_fit [(.str "a", true), (.bl true, false)] upd_same (kinds := ["word", "points"]) (by decide +kernel) (fun _ _ => (.cons (fbW_ (by decide +kernel)) (.cons (.inr (.inl ⟨rfl, .inr ⟨true, rfl, rfl⟩⟩)) .nil))) rfl))⟩
theorem odd26 (F : OddF H0 σ i M far g) : OddE i M H0 σ ((tTup (tCons (tC (.str "step")) (tCons (tC .non) (tCons (tC (.int 1)) tNil))))) := fun H Q s q => ⟨(by show 3 ≤ sizeLine; decide), fun p hp => q _ _ (Same.new hp) (.of (odd_fit [(.non, false), (.int 1, true)] upd_same (kinds := ["word", "points"]) (by decide +kernel) (fun _ _ => (.cons (.inl ⟨rfl, .inr rfl, by decide +kernel⟩) (.cons (fbP_ rfl) .nil))) rfl))⟩
theorem odd27 (F : OddF H0 σ i M far g) : OddE i M H0 σ ((tLst (tCons (tC (.str "step")) (tCons (tC (.str "a")) (tCons (tC (.int 1)) tNil))))) := fun H Q s q => ⟨(by show 3 ≤ sizeLine; decide), fun p hp => q _ _ (Same.new hp) (.of (.inl (.inr (.inr (.inr ⟨_, _, _, rfl, upd_same⟩)))))⟩
theorem odd28 (F : OddF H0 σ i M far g) : OddE i M H0 σ ((tTup (tCons (tC (.str "most")) (tCons (tC .non) (tCons (tVar 4) tNil))))) := fun H Q s q => ⟨_, F.s4, (by show 3 ≤ sizeLine; decide), fun p hp => q _ _ (Same.new hp) (.of (odd_fit [(.non, false), (.ref g, true)] upd_same (kinds := ["limit", "scheme"]) (by decide +kernel) (fun _ _ => (.cons (.inr (.inr (.inl ⟨rfl, .inr ⟨rfl, rfl⟩⟩))) (.cons fbS_ .nil))) rfl))⟩
theorem odd29 (F : OddF H0 σ i M far g) : OddE i M H0 σ (tC (.int 7)) := fun H Q s q => q _ _ (Same.refl _) (.of (.inl (.inr (.inr (.inl ⟨_, rfl⟩)))))
theorem odd30 (F : OddF H0 σ i M far g) : OddE i M H0 σ ((tTup (tCons (tC (.str "all")) (tCons (tOp (rIxT K) (tVar 4) (tC (.int 1))) tNil)))) := fun H Q s q => ⟨_, F.s4, g, _, 1, .str "a", rfl, rfl, SqT.of (s _ _ F.eg), at1, sz2, fun p hp => q _ _ (Same.new hp) (.of (odd_fit [(.str "a", false)] upd_same (kinds := ["schemes"]) (by decide +kernel) (fun _ _ => .cons (.inr (.inr (.inr (.inl ⟨rfl, .inr (.inr ⟨_, rfl, rfl⟩)⟩)))) .nil) rfl))⟩
end
end MS
end
section
set_option maxRecDepth 100000
set_option maxHeartbeats 4000000
namespace MS
open PySem L2
open LamX XQs XLs
abbrev s_L_odd : Stmt := topS 91
abbrev nmOdd : List Str := ["_law_box", "_law_number", "_law_many", "_law_far", "_law_good", "_law_some"]
theorem sc_L_odd : FnScope nmOdd ["_law_box", "_law_number", "_law_many"] (defScope s_L_odd) := ⟨rfl, rfl, rfl, by decide +kernel, rfl, by decide +kernel, by decide +kernel⟩
def spOdd (i M : Nat) : Sp := fun vs H Q _ => ∃ (b l : Addr), vs = [.ref b, .int ((i : Nat) : Int), .int ((M : Nat) : Int)] ∧ Box H b l ∧ ∀ v H', OddV i M H' v → BK b l H H' → Q v H'
theorem OddF.same {H0 H1 : Hp} {σ : St} {i M : Nat} {far : Int} {g : Addr} (F : OddF H0 σ i M far g) (s : Same H0 H1) (v : Option V) : OddF H1 (σ.set 5 v) i M far g :=
  ⟨by rw [List.getElem?_set_ne (by decide)]; exact F.s1, by rw [List.getElem?_set_ne (by decide)]; exact F.s2, by rw [List.getElem?_set_ne (by decide)]; exact F.s3, by rw [List.getElem?_set_ne (by decide)]; exact F.s4, s _ _ F.eg, F.f0⟩
theorem seq_asg {te : TE} {g : TG} {u : TS} {D : Ends} {σ : St} {H : Hp} (h : te σ H fun v H' => g v σ H' fun σ2 H2 => u D σ2 H2) : tSeq (tAsg te g) u D σ H := h
section
variable {P : Program} {w : World} {K : PySem.W.Frag} {mg : Str → Option Value} {base : Heap}
theorem ok_odd {i M : Nat} (DT : Def K mg "_law_take" s_L_take ["_law_box", "_law_many"]) (D : Def K mg "_law_odd" s_L_odd ["_law_box", "_law_number", "_law_many"]) : FnOk P w K mg base CX0 2 D.f D.fd ["_law_box", "_law_number", "_law_many"] (spOdd i M) := by
  have GTW : FnOk P w K mg base CX0 1 DT.f DT.fd ["_law_box", "_law_many"] spTakeW := ok_takeW DT
  have nd := sc_L_odd.nd
  refine D.ok sc_L_odd (fun vs H Q E h => ?_) (fun cdv A outer s H vs Q E hr h => ?_)
  · obtain ⟨b, l, rfl, _⟩ := h
    rfl
  obtain ⟨b, l, rfl, B, q⟩ := h
  have hr1 : Room 1 _ := hr.mono (by omega)
  have two : ∀ r : Int, 0 ≤ r → r < 2 → ∃ m : Int, atI [V.int 2, .int ((10 : Int) ^ (18 : Int).toNat)] r = some (.int m) ∧ 0 < m ∧ m.natAbs.log2 < 9000 := fun r h0 h2 => by
    have e : r = 0 ∨ r = 1 := by omega
    rcases e with rfl | rfl
    · exact ⟨_, rfl, by decide, by decide⟩
    · exact ⟨_, rfl, by decide, by decide +kernel⟩
  refine ⟨_, pss_cons (ps_par (i := 3) (j := 4) (by rfl) nd rfl rfl (by decide) rfl rfl (pa_cons (pcall DT GTW hr1 (pa_cons (pv 0) (pa_cons (pe_ix (r := rIxL K) ix_list (pe_lst (pa_cons pe_int (pa_cons (pe_op op_pow pe_int pe_int) pa_nil))) (pcall DT GTW hr1 (pa_cons (pv 0) (pa_cons pe_int pa_nil))) (fun _ _ => rfl)) pa_nil))) (pa_cons (pe_tup (pa_cons pe_str (pa_cons pe_str (pa_cons pe_int pa_nil)))) pa_nil)) (by rfl))
    (pss_cons (ps_set (i := 5) nd rfl (Or.inl rfl) (pe_lst (pa_cons (pe_tup (pa_cons pe_str (pa_cons pe_str (pa_cons pe_int pa_nil)))) (pa_cons (pe_tup (pa_cons pe_str (pa_cons pe_str (pa_cons pe_int pa_nil)))) (pa_cons (pe_tup (pa_cons pe_str (pa_cons pe_str (pa_cons (pe_op op_add pe_int (pv 3)) pa_nil)))) (pa_cons (pe_tup (pa_cons pe_str (pa_cons pe_str pa_nil))) (pa_cons (pe_tup (pa_cons pe_str (pa_cons pe_str (pa_cons pe_int (pa_cons pe_int pa_nil))))) pa_nil)))))))
    (pss_cons (ps_set (i := 5) nd rfl (Or.inl rfl) (pe_op op_cat (pv 5) (pe_lst (pa_cons (pe_tup (pa_cons pe_str (pa_cons pe_str (pa_cons pe_int pa_nil)))) (pa_cons (pe_tup (pa_cons pe_str (pa_cons (pe_tup pa_nil) pa_nil))) (pa_cons (pe_tup (pa_cons pe_str (pa_cons (pe_op op_repT (pe_tup (pa_cons (pv 4) pa_nil)) pe_int) pa_nil))) (pa_cons (pe_tup (pa_cons pe_str (pa_cons (pe_lst (pa_cons (pv 4) pa_nil)) pa_nil))) (pa_cons (pe_tup (pa_cons pe_str (pa_cons (pe_op op_add pe_int (pv 3)) (pa_cons (pv 4) pa_nil)))) pa_nil))))))))
    (pss_cons (ps_set (i := 5) nd rfl (Or.inl rfl) (pe_op op_cat (pv 5) (pe_lst (pa_cons (pe_tup (pa_cons pe_str (pa_cons (pe_op op_sub (pe_un un_neg pe_int) (pv 3)) (pa_cons (pv 4) pa_nil)))) (pa_cons (pe_tup (pa_cons pe_str pa_nil)) (pa_cons (pe_tup (pa_cons pe_str (pa_cons (pv 4) (pa_cons (pv 4) pa_nil)))) (pa_cons (pe_tup (pa_cons pe_str (pa_cons pe_str (pa_cons (pv 4) pa_nil)))) (pa_cons (pe_tup (pa_cons pe_str pa_nil)) (pa_cons (pe_tup pa_nil) pa_nil)))))))))
    (pss_cons (ps_set (i := 5) nd rfl (Or.inl rfl) (pe_op op_cat (pv 5) (pe_lst (pa_cons (pe_tup (pa_cons pe_str (pa_cons pe_str (pa_cons (pv 4) pa_nil)))) (pa_cons pe_non (pa_cons pe_str pa_nil))))))
    (pss_cons (ps_set (i := 5) nd rfl (Or.inl rfl) (pe_op op_cat (pv 5) (pe_lst (pa_cons (pe_tup (pa_cons pe_str (pa_cons pe_str (pa_cons pe_int (pa_cons (pv 4) pa_nil))))) (pa_cons (pe_tup (pa_cons pe_str (pa_cons pe_str (pa_cons (pv 4) pa_nil)))) (pa_cons (pe_tup (pa_cons pe_str (pa_cons (pv 1) pa_nil))) (pa_cons (pe_tup (pa_cons pe_str (pa_cons (pe_op op_add (pv 2) (pv 3)) pa_nil))) (pa_cons (pe_tup (pa_cons pe_str (pa_cons (pe_op op_sub (pe_un un_neg pe_int) (pv 3)) pa_nil))) pa_nil))))))))
    (pss_cons (ps_set (i := 5) nd rfl (Or.inl rfl) (pe_op op_cat (pv 5) (pe_lst (pa_cons (pe_tup (pa_cons pe_str (pa_cons pe_str (pa_cons pe_bl pa_nil)))) (pa_cons (pe_tup (pa_cons pe_str (pa_cons pe_non (pa_cons pe_int pa_nil)))) (pa_cons (pe_lst (pa_cons pe_str (pa_cons pe_str (pa_cons pe_int pa_nil)))) (pa_cons (pe_tup (pa_cons pe_str (pa_cons pe_non (pa_cons (pv 4) pa_nil)))) (pa_cons pe_int (pa_cons (pe_tup (pa_cons pe_str (pa_cons (pe_ix (r := rIxT K) ix_tup (pv 4) pe_int (fun _ _ => rfl)) pa_nil))) pa_nil)))))))))
    (pss_one (ps_ret (pe_ix (r := rIxL K) ix_list (pv 5) (pcall DT GTW hr1 (pa_cons (pv 0) (pa_cons pe_int pa_nil))) (fun _ _ => rfl)))))))))), ?_⟩
  refine ⟨_, rfl, _, _, rfl, rfl, ⟨by decide, by decide, by decide⟩, (by show 2 ≤ sizeLine; decide), fun p1 hp1 => ?_⟩
  have k1 := (BK.refl B).same (Same.new (o := .lst [.int 2, .int ((10 : Int) ^ (18 : Int).toNat)]) hp1)
  have np1 : p1 ∉ [b, l] := B.nin hp1
  refine ⟨_, rfl, b, l, _, rfl, by decide, by decide, k1.1, fun r0 H2 h0 h2 B2 kk2 => ?_⟩
  obtain ⟨m, em, hm0, hm9⟩ := two r0 h0 h2
  have k2 := k1.trans ⟨B2, kk2⟩
  refine ⟨p1, _, r0, _, rfl, rfl, SqL.of (kk2 _ _ upd_same np1), em, b, l, m, rfl, hm0, hm9, B2, fun far H3 hf0 hf1 B3 kk3 => ?_⟩
  have k3 := k2.trans ⟨B3, kk3⟩
  refine ⟨(by show 3 ≤ sizeLine; decide), fun g hg => ?_⟩
  have k4 := k3.same (Same.new (o := .tup [.str "step", .str "a", .int 1]) hg)
  have eg : upd H3 g (.tup [.str "step", .str "a", .int 1]) g = some (.tup [.str "step", .str "a", .int 1]) := upd_same
  generalize upd H3 g (.tup [.str "step", .str "a", .int 1]) = H4 at k4 eg
  have F : OddF H4 [some (.ref b), some (.int ((i : Nat) : Int)), some (.int ((M : Nat) : Int)), some (.int far), some (.ref g), none] i M far g := ⟨rfl, rfl, rfl, rfl, eg, hf0⟩
  refine ⟨_, _, rfl, ?_⟩
  dsimp only [gName]
  rw [show ((List.set (L2.start nmOdd [V.ref b, V.int ((i : Nat) : Int), V.int ((M : Nat) : Int)]) 3 (some (V.int far))).set 4 (some (V.ref g))) = [some (.ref b), some (.int ((i : Nat) : Int)), some (.int ((M : Nat) : Int)), some (.int far), some (.ref g), none] from rfl]
  refine seq_asg ?_
  have E1 := (oddEs_cons (odd1 F) (oddEs_cons (odd2 F) (oddEs_cons (odd3 F) (oddEs_cons (odd4 F) (oddEs_cons (odd5 F) oddEs_nil)))))
  refine odd_lst (n := 5) (by decide) E1 fun l1 y1 H5 f1 s1 e1 a1 n1 => ?_
  have k5 := k4.same s1
  dsimp only [gName]
  refine seq_asg ?_
  have F1 := F.same s1 (some (.ref l1))
  have E1c := (oddEs_cons (odd6 F1) (oddEs_cons (odd7 F1) (oddEs_cons (odd8 (K := K) F1) (oddEs_cons (odd9 F1) (oddEs_cons (odd10 F1) oddEs_nil)))))
  refine odd_cat (n := 5) rfl e1 a1 (by omega) (by decide) E1c fun l2 y2 H6 f2 s2 e2 a2 n2 => ?_
  have k6 := k5.same s2
  dsimp only [gName]
  refine seq_asg ?_
  have F2 := F1.same s2 (some (.ref l2))
  have E2c := (oddEs_cons (odd11 F2) (oddEs_cons (odd12 F2) (oddEs_cons (odd13 F2) (oddEs_cons (odd14 F2) (oddEs_cons (odd15 F2) (oddEs_cons (odd16 F2) oddEs_nil))))))
  refine odd_cat (n := 6) rfl e2 a2 (by omega) (by decide) E2c fun l3 y3 H7 f3 s3 e3 a3 n3 => ?_
  have k7 := k6.same s3
  dsimp only [gName]
  refine seq_asg ?_
  have F3 := F2.same s3 (some (.ref l3))
  have E3c := (oddEs_cons (odd17 F3) (oddEs_cons (odd18 F3) (oddEs_cons (odd19 F3) oddEs_nil)))
  refine odd_cat (n := 3) rfl e3 a3 (by omega) (by decide) E3c fun l4 y4 H8 f4 s4 e4 a4 n4 => ?_
  have k8 := k7.same s4
  dsimp only [gName]
  refine seq_asg ?_
  have F4 := F3.same s4 (some (.ref l4))
  have E4c := (oddEs_cons (odd20 F4) (oddEs_cons (odd21 F4) (oddEs_cons (odd22 F4) (oddEs_cons (odd23 F4) (oddEs_cons (odd24 F4) oddEs_nil)))))
  refine odd_cat (n := 5) rfl e4 a4 (by omega) (by decide) E4c fun l5 y5 H9 f5 s5 e5 a5 n5 => ?_
  have k9 := k8.same s5
  dsimp only [gName]
  refine seq_asg ?_
  have F5 := F4.same s5 (some (.ref l5))
  have E5c := (oddEs_cons (odd25 F5) (oddEs_cons (odd26 F5) (oddEs_cons (odd27 F5) (oddEs_cons (odd28 F5) (oddEs_cons (odd29 F5) (oddEs_cons (odd30 (K := K) F5) oddEs_nil))))))
  refine odd_cat (n := 6) rfl e5 a5 (by omega) (by decide) E5c fun l6 y6 H10 f6 s6 e6 a6 n6 => ?_
  have k10 := k9.same s6
  dsimp only [gName]
  refine ⟨_, rfl, _, rfl, b, l, 30, rfl, by decide, by decide, k10.1, fun r H11 r0 r1 B11 kk11 => ?_⟩
  obtain ⟨v, ev, hv⟩ : ∃ v, atI y6 r = some v ∧ v ∈ y6 := by
    obtain ⟨j, rfl⟩ : ∃ j : Nat, r = (j : Int) := ⟨r.toNat, by omega⟩
    have hj : j < y6.length := by omega
    exact ⟨y6[j], atI_nat (List.getElem?_eq_getElem hj), List.getElem_mem hj⟩
  have nl6 : l6 ∉ [b, l] := k9.1.nin f6
  exact ⟨l6, y6, r, v, rfl, rfl, SqL.of (kk11 _ _ e6 nl6), ev, q v H11 ((a6 v hv).keepO (k10.1.ko kk11)) (k10.trans ⟨B11, kk11⟩)⟩
end
end MS
end
section
set_option maxRecDepth 100000
set_option maxHeartbeats 4000000
namespace MS
open PySem L2
open LamX XQs XLs
def setL {α : Type} (xs : List α) (n : Nat) (y : α) : List α := xs.take n ++ [y] ++ xs.drop (n + 1)
theorem setL_len {α : Type} {xs : List α} {n : Nat} {y : α} (h : n < xs.length) : (setL xs n y).length = xs.length := by
  unfold setL
  rw [List.length_append, List.length_append, List.length_take, List.length_drop, List.length_singleton]
  omega
theorem setL_mem {α : Type} {xs : List α} {n : Nat} {y q : α} (h : q ∈ setL xs n y) : q ∈ xs ∨ q = y := by
  unfold setL at h
  rcases List.mem_append.mp h with h | h
  · rcases List.mem_append.mp h with h | h
    · exact .inl (List.mem_of_mem_take h)
    · exact .inr (List.mem_singleton.mp h)
  · exact .inl (List.mem_of_mem_drop h)
theorem paired_takeN {α β : Type} {R : α → β → Prop} : ∀ {xs : List α} {ys : List β}, Paired R xs ys → ∀ n, Paired R (xs.take n) (ys.take n)
  | _, _, .nil, n => by rw [List.take_nil, List.take_nil]; exact .nil
  | _, _, .cons h t, 0 => .nil
  | _, _, .cons h t, n + 1 => .cons h (paired_takeN t n)
theorem paired_dropN {α β : Type} {R : α → β → Prop} : ∀ {xs : List α} {ys : List β}, Paired R xs ys → ∀ n, Paired R (xs.drop n) (ys.drop n)
  | _, _, .nil, n => by rw [List.drop_nil, List.drop_nil]; exact .nil
  | _, _, .cons h t, 0 => .cons h t
  | _, _, .cons h t, n + 1 => paired_dropN t n
theorem paired_app2 {α β : Type} {R : α → β → Prop} : ∀ {xs : List α} {ys : List β} {xs' : List α} {ys' : List β}, Paired R xs ys → Paired R xs' ys' → Paired R (xs ++ xs') (ys ++ ys')
  | _, _, _, _, .nil, h => h
  | _, _, _, _, .cons h t, h' => .cons h (paired_app2 t h')
theorem paired_setL {α β : Type} {R : α → β → Prop} {xs : List α} {ys : List β} {x : α} {y : β} (h : Paired R xs ys) (n : Nat) (r : R x y) : Paired R (setL xs n x) (setL ys n y) :=
  paired_app2 (paired_app2 (paired_takeN h n) (.cons r .nil)) (paired_dropN h (n + 1))
theorem setL_get {α : Type} {xs : List α} {n : Nat} {y : α} (h : n < xs.length) : ∀ j, (setL xs n y)[j]? = if j = n then some y else xs[j]? := by
  intro j
  unfold setL
  have lt : (xs.take n).length = n := by rw [List.length_take]; omega
  by_cases c : j < n
  · rw [if_neg (by omega), List.append_assoc, List.getElem?_append_left (by omega), List.getElem?_take_of_lt c]
  · by_cases c2 : j = n
    · rw [if_pos c2, c2, List.append_assoc, List.getElem?_append_right (by omega), lt, Nat.sub_self]
      rfl
    · rw [if_neg c2, List.append_assoc, List.getElem?_append_right (by omega), lt]
      obtain ⟨m, hm⟩ : ∃ m, j - n = m + 1 := ⟨j - n - 1, by omega⟩
      rw [hm]
      show (xs.drop (n + 1))[m]? = _
      rw [List.getElem?_drop]
      congr 1
      omega
theorem cut_whole {xs : List V} {lo hi : Option Int} (h : HT.sIx xs.length 0 lo = 0 ∧ HT.sIx xs.length xs.length hi = xs.length) : cutV xs lo hi = xs := by
  unfold cutV
  rw [h.1, h.2]
  simp
theorem sl_any {K : PySem.W.Frag} {H : Hp} {a : Addr} {xs : List V} {lo hi : Option Int} {Q : VK} (ea : H a = some (.tup xs)) (q : ∀ (p : Addr) (H' : Hp), Same H H' → H' p = some (.tup (cutV xs lo hi)) → Q (.ref p) H') : rSlA K (.ref a) lo hi H Q :=
  ⟨a, xs, rfl, SqT.of ea, fun h => q a H (Same.refl _) (by rw [cut_whole h]; exact ea), fun _ p hp => q p _ (Same.new hp) upd_same⟩
theorem cat_any {K : PySem.W.Frag} {H : Hp} {a b : Addr} {xs ys : List V} {Q : VK} (ea : H a = some (.tup xs)) (eb : H b = some (.tup ys)) (hl : xs.length + ys.length ≤ 1000) (q : ∀ (p : Addr) (H' : Hp), Same H H' → H' p = some (.tup (xs ++ ys)) → Q (.ref p) H') : rCatA K (.ref a) (.ref b) H Q :=
  ⟨a, b, xs, ys, rfl, rfl, SqT.of ea, SqT.of eb, szN hl, fun h => q b H (Same.refl _) (by rw [h]; exact eb), fun _ h => q a H (Same.refl _) (by rw [h, List.append_nil]; exact ea), fun _ _ p hp => q p _ (Same.new hp) upd_same⟩
theorem last_at {nm : Str} {u : V} : ∀ {pre : List V}, pre.length ≤ 2 → atI (V.str nm :: (pre ++ [u])) (-1) = some u
  | [], _ => rfl
  | [_], _ => rfl
  | [_, _], _ => rfl
  | _ :: _ :: _ :: _, h => absurd h (by simp)
theorem cut_last {nm : Str} {u : V} : ∀ {pre : List V}, pre.length ≤ 2 → cutV (V.str nm :: (pre ++ [u])) none (some (-1)) = V.str nm :: pre
  | [], _ => rfl
  | [_], _ => rfl
  | [_, _], _ => rfl
  | _ :: _ :: _ :: _, h => absurd h (by simp)
/-- a test of the first word -/
theorem in2_ev {K : PySem.W.Frag} {σ : St} {H : Hp} {a : Addr} {nm x y : Str} {rest : List V} (s1 : σ[1]? = some (some (.ref a))) (ea : H a = some (.tup (.str nm :: rest))) :
    ∀ Q : Bool → Hp → Prop, (∀ H', Same H H' → Q (nm == x || nm == y) H') → tTest (tOp (rIn K false) (tOp (rIxT K) (tVar 1) (tC (.int 0))) (tTup (tCons (tC (.str x)) (tCons (tC (.str y)) tNil)))) σ H Q := fun Q q => by
  refine ⟨_, s1, a, _, 0, .str nm, rfl, rfl, SqT.of ea, at0, sz2, fun t1 h1 => ⟨t1, _, rfl, .inr (SqT.of upd_same), rfl, rfl, _, rfl, ?_⟩⟩
  have e : inV (.str nm) [.str x, .str y] = (nm == x || nm == y) := by
    show (eqV (.str x) (.str nm) || (eqV (.str y) (.str nm) || false)) = _
    rw [Bool.or_false]
    have es : ∀ z : Str, eqV (.str z) (.str nm) = (z == nm) := fun z => rfl
    rw [es, es]
    have sw : ∀ z : Str, (z == nm) = (nm == z) := fun z => by
      by_cases h : z = nm
      · rw [h]
      · rw [beq_false_of_ne h, beq_false_of_ne (fun e => h e.symm)]
    rw [sw, sw]
  show Q (inV (.str nm) [.str x, .str y]) _
  rw [e]
  exact q _ (Same.new h1)
theorem in2 {K : PySem.W.Frag} {σ : St} {H : Hp} {a : Addr} {nm x y : Str} {rest : List V} {bb : Bool} (s1 : σ[1]? = some (some (.ref a))) (ea : H a = some (.tup (.str nm :: rest))) (e : (nm == x || nm == y) = bb) :
    ∀ Q : Bool → Hp → Prop, (∀ H', Same H H' → Q bb H') → tTest (tOp (rIn K false) (tOp (rIxT K) (tVar 1) (tC (.int 0))) (tTup (tCons (tC (.str x)) (tCons (tC (.str y)) tNil)))) σ H Q := by
  subst e
  exact in2_ev s1 ea
theorem cond_ev {K : PySem.W.Frag} {σ : St} {H : Hp} {a b l : Addr} {nm : Str} {rest : List V} (s0 : σ[0]? = some (some (.ref b))) (s1 : σ[1]? = some (some (.ref a))) (ea : H a = some (.tup (.str nm :: rest))) (B : Box H b l) :
    ∀ Q : Bool → Hp → Prop, (∀ (bb : Bool) (H' : Hp), BK b l H H' → (bb = false → (nm == "step" || nm == "use") = false) → Q bb H') →
    tOr (tTest (tOp (rIn K false) (tOp (rIxT K) (tVar 1) (tC (.int 0))) (tTup (tCons (tC (.str "step")) (tCons (tC (.str "use")) tNil))))) (tTest (tOp rEq (tCall spTake [] E0 (tCons (tVar 0) (tCons (tC (.int 4)) tNil))) (tC (.int 0)))) σ H Q := fun Q q => by
  refine in2_ev s1 ea _ fun H1 s => ?_
  cases h : (nm == ("step" : Str) || nm == ("use" : Str)) with
  | true => exact iteT (q true H1 ((BK.refl B).same s) fun z => nomatch z)
  | false => exact iteF (take_ev s0 (B.same s) (by decide) (by decide) _ fun r H2 a0 a1 k => ⟨rfl, _, rfl, q _ H2 (((BK.refl B).same s).trans k) fun _ => h⟩)
/-! ### the law's _law_spoilt -/
abbrev s_L_spoilt : Stmt := topS 92
abbrev nmSpoilt : List Str := ["_law_box", "_law_scheme_here", "_law_place", "_law_number", "_law_many", "_law_kids", "_law_k", "_law_kid", "_law_there"]
abbrev psSpoilt : List Str := ["_law_box", "_law_scheme_here", "_law_place", "_law_number", "_law_many"]
theorem sc_L_spoilt : FnScope nmSpoilt psSpoilt (defScope s_L_spoilt) := ⟨rfl, rfl, rfl, by decide +kernel, rfl, by decide +kernel, by decide +kernel⟩
def spSpoilt (i M d : Nat) : Sp := fun vs H Q _ => ∃ (b l pa : Addr) (v : V) (s : Sch) (wh : List Nat), vs = [.ref b, v, .ref pa, .int ((i : Nat) : Int), .int ((M : Nat) : Int)] ∧ Box H b l ∧ H pa = some (.tup (natV wh)) ∧ wh.length + d ≤ 5 ∧ (∀ n ∈ wh, n < 1000) ∧ SAt H d s v ∧ OkS i M d s ∧
  ∀ (r q : Addr) (u : V) (s' : Sch) (path : List Nat) (H' : Hp), H' r = some (.tup [u, .ref q]) → H' q = some (.tup (natV (wh ++ path))) → SAtO H' H' d s' u → Frm d s' → Bad1 i M d s' path (sz d s) → wh.length + path.length ≤ 4 → (∀ n ∈ wh ++ path, n < 1000) → BK b l H H' → Q (.ref r) H'
theorem SAtO.up {H0 H : Hp} {d : Nat} {s : Sch} {v : V} (h : SAtO H0 H 1 s v) : SAtO H0 H (d + 1) s v := by
  rcases h with h | h
  · exact .inl h
  · exact .inr (h.keep (TupK.refl _) fun _ _ z => z.elim)
theorem Frm.up {d : Nat} {s : Sch} (h : Frm 1 s) : Frm (d + 1) s := by
  cases s with
  | step w p => exact h
  | all k => exact ⟨h.1, fun s hs => (h.2 s hs).elim⟩
  | best k => exact ⟨h.1, fun s hs => (h.2 s hs).elim⟩
  | most n s => exact h.2.elim
  | half s => exact h.elim
  | seen w s => exact h.2.elim
  | behind w s => exact h.2.elim
  | carry s => exact h.elim
  | fin w p s => exact h.2.elim
  | use n => exact h
/-- a scheme with one scheme within, told as its last part -/
structure WrapO (H : Hp) (i M d : Nat) (sc : Sch) (a : Addr) (nm : Str) (pre : List V) (u : V) (s1 : Sch) (mk : Sch → Sch) : Prop where
  at_ : H a = some (.tup (.str nm :: (pre ++ [u])))
  kid : SAt H d s1 u
  ok : OkS i M d s1
  ab : (nm == "all" || nm == "best") = false
  su : (nm == "step" || nm == "use") = false
  pl : pre.length ≤ 2
  own : ∀ s', okOwn i M (mk s') = true
  kids : ∀ s', kidsOf (mk s') = [s']
  size : sz (d + 1) sc = 1 + sz d s1
  frm : ∀ s', Frm d s' → Frm (d + 1) (mk s')
  new : ∀ (H' : Hp) (a' : Addr) (u' : V) (s' : Sch), H' a' = some (.tup (.str nm :: (pre ++ [u']))) → SAtO H' H' d s' u' → SAtO H' H' (d + 1) (mk s') (.ref a')
theorem spo_view {H : Hp} {i M d : Nat} {sc : Sch} {v : V} (hs : SAt H (d + 1) sc v) (ho : OkS i M (d + 1) sc) :
    (∃ x p, sc = .step x p) ∨ (∃ n, sc = .use n) ∨ (∃ ks, sc = .all ks ∨ sc = .best ks) ∨ ∃ a nm pre u s1 mk, v = .ref a ∧ WrapO H i M d sc a nm pre u s1 mk := by
  cases sc with
  | step x p => exact .inl ⟨x, p, rfl⟩
  | use n => exact .inr (.inl ⟨n, rfl⟩)
  | all ks => exact .inr (.inr (.inl ⟨ks, .inl rfl⟩))
  | best ks => exact .inr (.inr (.inl ⟨ks, .inr rfl⟩))
  | most n s =>
    obtain ⟨a, u, rfl, ea, hk⟩ := hs
    exact .inr (.inr (.inr ⟨a, "most", [.int n], u, s, .most n, rfl, ⟨ea, hk, ho.2, by decide +kernel, by decide +kernel, Nat.le_of_ble_eq_true rfl, fun _ => decide_eq_true ho.1, fun _ => rfl, rfl, fun s' h => ⟨⟨ho.1.1, by have := ho.1.2; omega⟩, h⟩, fun H' a' u' s' e h => .inr ⟨a', u', rfl, e, h⟩⟩⟩))
  | half s =>
    obtain ⟨a, u, rfl, ea, hk⟩ := hs
    exact .inr (.inr (.inr ⟨a, "half", [], u, s, .half, rfl, ⟨ea, hk, ho, by decide +kernel, by decide +kernel, Nat.le_of_ble_eq_true rfl, fun _ => rfl, fun _ => rfl, rfl, fun s' h => h, fun H' a' u' s' e h => .inr ⟨a', u', rfl, e, h⟩⟩⟩))
  | carry s =>
    obtain ⟨a, u, rfl, ea, hk⟩ := hs
    exact .inr (.inr (.inr ⟨a, "carry", [], u, s, .carry, rfl, ⟨ea, hk, ho, by decide +kernel, by decide +kernel, Nat.le_of_ble_eq_true rfl, fun _ => rfl, fun _ => rfl, rfl, fun s' h => h, fun H' a' u' s' e h => .inr ⟨a', u', rfl, e, h⟩⟩⟩))
  | seen x s =>
    obtain ⟨a, u, rfl, ea, hk⟩ := hs
    exact .inr (.inr (.inr ⟨a, "seen", [.str x], u, s, .seen x, rfl, ⟨ea, hk, ho.2, by decide +kernel, by decide +kernel, Nat.le_of_ble_eq_true rfl, fun _ => rfl, fun _ => rfl, rfl, fun s' h => ⟨ho.1, h⟩, fun H' a' u' s' e h => .inr ⟨a', u', rfl, e, h⟩⟩⟩))
  | behind x s =>
    obtain ⟨a, u, rfl, ea, hk⟩ := hs
    exact .inr (.inr (.inr ⟨a, "behind", [.str x], u, s, .behind x, rfl, ⟨ea, hk, ho.2, by decide +kernel, by decide +kernel, Nat.le_of_ble_eq_true rfl, fun _ => rfl, fun _ => rfl, rfl, fun s' h => ⟨ho.1, h⟩, fun H' a' u' s' e h => .inr ⟨a', u', rfl, e, h⟩⟩⟩))
  | fin x p s =>
    obtain ⟨a, u, rfl, ea, hk⟩ := hs
    exact .inr (.inr (.inr ⟨a, "end", [.str x, .int p], u, s, .fin x p, rfl, ⟨ea, hk, ho.2, by decide +kernel, by decide +kernel, Nat.le_of_ble_eq_true rfl, fun _ => decide_eq_true ho.1.2, fun _ => rfl, rfl, fun s' h => ⟨⟨ho.1.1, by have := ho.1.2.1; omega, by have := ho.1.2.2; omega⟩, h⟩, fun H' a' u' s' e h => .inr ⟨a', u', rfl, e, h⟩⟩⟩))
theorem OkS.frm {i M : Nat} : ∀ {d : Nat} {s : Sch}, OkS i M d s → Frm d s
  | 0, _, o => by cases o
  | d + 1, s, o => by
    cases s with
    | step w p => exact ⟨o.1, by have := o.2.1; omega, by have := o.2.2; omega⟩
    | all k => exact ⟨by have := o.2.1; omega, fun x hx => OkS.frm (o.2.2 x hx)⟩
    | best k => exact ⟨by have := o.2.1; omega, fun x hx => OkS.frm (o.2.2 x hx)⟩
    | most n s => exact ⟨⟨o.1.1, by have := o.1.2; omega⟩, OkS.frm o.2⟩
    | half s => exact OkS.frm (d := d) (s := s) o
    | seen w s => exact ⟨o.1, OkS.frm o.2⟩
    | behind w s => exact ⟨o.1, OkS.frm o.2⟩
    | carry s => exact OkS.frm (d := d) (s := s) o
    | fin w p s => exact ⟨⟨o.1.1, by have := o.1.2.1; omega, by have := o.1.2.2; omega⟩, OkS.frm o.2⟩
    | use n => exact True.intro
theorem sum_at {f : Sch → Int} {ks : List Sch} {j : Nat} {k : Sch} (h : ks[j]? = some k) (hf : ∀ x, 0 ≤ f x) : ((ks.take j).map f).sum + f k ≤ (ks.map f).sum := by
  have hn := (List.getElem?_eq_some_iff.mp h).1
  have hk : ks[j] = k := (List.getElem?_eq_some_iff.mp h).2
  have e2 : ks = ks.take j ++ (k :: ks.drop (j + 1)) := by
    rw [← hk, ← List.drop_eq_getElem_cons hn, List.take_append_drop]
  conv => rhs; rw [e2]
  rw [List.map_append, List.sum_append, List.map_cons, List.sum_cons]
  have := sum_nn (ks.drop (j + 1)) hf
  omega
section
variable {P : Program} {w : World} {K : PySem.W.Frag} {mg : Str → Option Value} {base : Heap}
theorem spoilt_turn {i M d : Nat} (ml : mg "len" = none) (mli : mg "list" = none) (D : Def K mg "_law_spoilt" s_L_spoilt psSpoilt) (DO : Def K mg "_law_odd" s_L_odd ["_law_box", "_law_number", "_law_many"]) (DT : Def K mg "_law_take" s_L_take ["_law_box", "_law_many"]) (G : FnOk P w K mg base CX0 (d + 2) D.f D.fd psSpoilt (spSpoilt i M d)) :
    FnOk P w K mg base CX0 (d + 3) D.f D.fd psSpoilt (spSpoilt i M (d + 1)) := by
  have GT : FnOk P w K mg base CX0 1 DT.f DT.fd ["_law_box", "_law_many"] spTake := ok_take DT
  have GO : FnOk P w K mg base CX0 2 DO.f DO.fd ["_law_box", "_law_number", "_law_many"] (spOdd i M) := ok_odd DT DO
  have nd := sc_L_spoilt.nd
  refine D.ok sc_L_spoilt (fun vs H Q E h => ?_) (fun cdv A outer s H vs Q E hr h => ?_)
  · obtain ⟨b, l, pa, v, s, wh, rfl, _⟩ := h
    rfl
  obtain ⟨b, l, pa, v, sc, wh, rfl, B, epa, hwd, hwn, hs, ho, q⟩ := h
  have hr1 : Room 1 _ := hr.mono (by omega)
  have hr2 : Room 2 _ := hr.mono (by omega)
  refine ⟨_, pss_cons (ps_set (i := 5) nd rfl (Or.inl rfl) (pe_ifExp (pt_cmpR op_in_seq (pe_ix (r := rIxT K) ix_tup (pv 1) pe_int (fun _ _ => rfl)) (pe_tup (pa_cons pe_str (pa_cons pe_str pa_nil))) (by rfl)) (pe_callTy call_list_of rfl mli (by decide +kernel) (pa_cons (pe_ix (r := rIxT K) ix_tup (pv 1) pe_int (fun _ _ => rfl)) pa_nil)) (pe_lst (pa_cons (pe_ix (r := rIxT K) ix_tup (pv 1) (pe_un un_neg pe_int) (fun _ _ => rfl)) pa_nil))))
    (pss_cons (ps_if (PW.pt (pw_or (pt_cmpR op_in_seq (pe_ix (r := rIxT K) ix_tup (pv 1) pe_int (fun _ _ => rfl)) (pe_tup (pa_cons pe_str (pa_cons pe_str pa_nil))) (by rfl)) (pw_or1 (pt_cmpR op_eq (pcall DT GT hr1 (pa_cons (pv 0) (pa_cons pe_int pa_nil))) pe_int (nomark _))))) (pss_one (ps_ret (pe_tup (pa_cons (pcall DO GO hr2 (pa_cons (pv 0) (pa_cons (pv 3) (pa_cons (pv 4) pa_nil)))) (pa_cons (pv 2) pa_nil))))) pss_nil)
    (pss_cons (ps_set (i := 6) nd rfl (Or.inl rfl) (pcall DT GT hr1 (pa_cons (pv 0) (pa_cons (pe_callB call_len_seq rfl ml PySem.boot_len (pa_cons (pv 5) pa_nil)) pa_nil))))
    (pss_cons (ps_asg (pcall D G hr (pa_cons (pv 0) (pa_cons (pe_ix (r := rIxL K) ix_list (pv 5) (pv 6) (fun _ _ => rfl)) (pa_cons (pe_op op_catA (pv 2) (pe_tup (pa_cons (pv 6) pa_nil))) (pa_cons (pv 3) (pa_cons (pv 4) pa_nil)))))) (pg_tup (by rfl) (pgs_cons (pg_name (i := 7) nd rfl (Or.inl rfl)) (pgs_cons (pg_name (i := 8) nd rfl (Or.inl rfl)) pgs_nil))))
    (pss_cons (ps_if (pt_cmpR op_in_seq (pe_ix (r := rIxT K) ix_tup (pv 1) pe_int (fun _ _ => rfl)) (pe_tup (pa_cons pe_str (pa_cons pe_str pa_nil))) (by rfl)) (pss_one (ps_ret (pe_tup (pa_cons (pe_tup (pa_cons (pe_ix (r := rIxT K) ix_tup (pv 1) pe_int (fun _ _ => rfl)) (pa_cons (pe_op op_catA (pe_op op_catA (pe_slice sl_tupA (pe_ix (r := rIxT K) ix_tup (pv 1) pe_int (fun _ _ => rfl)) po_none (po_some (pv 6))) (pe_tup (pa_cons (pv 7) pa_nil))) (pe_slice sl_tupA (pe_ix (r := rIxT K) ix_tup (pv 1) pe_int (fun _ _ => rfl)) (po_some (pe_op op_add (pv 6) pe_int)) po_none)) pa_nil))) (pa_cons (pv 8) pa_nil))))) pss_nil)
    (pss_one (ps_ret (pe_tup (pa_cons (pe_op op_catA (pe_slice sl_tupA (pv 1) po_none (po_some (pe_un un_neg pe_int))) (pe_tup (pa_cons (pv 7) pa_nil))) (pa_cons (pv 8) pa_nil))))))))), ?_⟩
  have sz1 : 1 ≤ sz (d + 1) sc := by
    rw [sz_kids]
    have := sum_nn (kidsOf sc) (fun y => sz_nn d y)
    omega
  -- an odd thing is told here
  have here : ∀ (H1 : Hp) (kd : V), BK b l H H1 → tRet (tTup (tCons (tCall (spOdd i M) [] E0 (tCons (tVar 0) (tCons (tVar 3) (tCons (tVar 4) tNil)))) (tCons (tVar 2) tNil))) { nx := fun _ _ => False, rt := Q } [some (.ref b), some v, some (.ref pa), some (.int ((i : Nat) : Int)), some (.int ((M : Nat) : Int)), some kd, none, none, none] H1 := fun H1 kd k1 => by
    refine ⟨_, rfl, _, rfl, _, rfl, b, l, rfl, k1.1, fun u H2 hu k2 => ⟨_, rfl, sz2, fun r hr' => ?_⟩⟩
    have k12 := k1.trans k2
    have s3 := Same.new (o := .tup [u, .ref pa]) hr'
    have k3 := k12.same s3
    obtain ⟨s', h1, h2, h3⟩ := hu.same s3
    exact q r pa u s' [] _ upd_same (by rw [List.append_nil]; exact k3.tup B _ _ epa) h1.up h2.up ⟨h3, sz1⟩ (by show wh.length + 0 ≤ 4; omega) (by rw [List.append_nil]; exact hwn) k3
  rcases spo_view hs ho with ⟨x, p, rfl⟩ | ⟨n, rfl⟩ | ⟨ks, hg⟩ | ⟨a, nm, pre, u, sk, mk, rfl, W⟩
  · obtain ⟨a, rfl, ea⟩ := hs
    refine in2 (K := K) (bb := false) rfl ea (by decide +kernel) _ fun H1 s1 => iteF ⟨_, rfl, 1, rfl, a, _, -1, .int p, rfl, rfl, SqT.of (s1 _ _ ea), rfl, (by show 1 ≤ sizeLine; decide), fun kd hkd => ?_⟩
    have k1 : BK b l H _ := (BK.refl B).same (s1.trans (Same.new (o := .lst [.int p]) hkd))
    dsimp only [gName]
    refine cond_ev (K := K) rfl rfl (k1.tup B _ _ ea) k1.1 _ fun bb H2 k2 hb => ?_
    cases bb with
    | false => exact absurd (hb rfl) (by decide +kernel)
    | true => exact iteT (here H2 _ (k1.trans k2))
  · obtain ⟨a, rfl, ea⟩ := hs
    refine in2 (K := K) (bb := false) rfl ea (by decide +kernel) _ fun H1 s1 => iteF ⟨_, rfl, 1, rfl, a, _, -1, .int ((n : Nat) : Int), rfl, rfl, SqT.of (s1 _ _ ea), rfl, (by show 1 ≤ sizeLine; decide), fun kd hkd => ?_⟩
    have k1 : BK b l H _ := (BK.refl B).same (s1.trans (Same.new (o := .lst [.int ((n : Nat) : Int)]) hkd))
    dsimp only [gName]
    refine cond_ev (K := K) rfl rfl (k1.tup B _ _ ea) k1.1 _ fun bb H2 k2 hb => ?_
    cases bb with
    | false => exact absurd (hb rfl) (by decide +kernel)
    | true => exact iteT (here H2 _ (k1.trans k2))
  · obtain ⟨a, nm, gb, gv, rfl, hnm, ea, egb, pg⟩ : ∃ (a : Addr) (nm : Str) (gb : Addr) (gv : List V), v = .ref a ∧ ((nm = "all" ∧ sc = .all ks) ∨ (nm = "best" ∧ sc = .best ks)) ∧ H a = some (.tup [.str nm, .ref gb]) ∧ H gb = some (.tup gv) ∧ Paired (SAt H d) ks gv := by
      rcases hg with rfl | rfl
      · obtain ⟨a, gb, gv, e, h1, h2, h3⟩ := hs
        exact ⟨a, "all", gb, gv, e, .inl ⟨rfl, rfl⟩, h1, h2, h3⟩
      · obtain ⟨a, gb, gv, e, h1, h2, h3⟩ := hs
        exact ⟨a, "best", gb, gv, e, .inr ⟨rfl, rfl⟩, h1, h2, h3⟩
    have hko : 0 < ks.length ∧ ks.length ≤ 4 ∧ ∀ s ∈ ks, OkS i M d s := by
      rcases hnm with ⟨_, rfl⟩ | ⟨_, rfl⟩ <;> exact ho
    have hsz : sz (d + 1) sc = 1 + (ks.map (sz d)).sum := by
      rcases hnm with ⟨_, rfl⟩ | ⟨_, rfl⟩ <;> rfl
    have n1 : (nm == "all" || nm == "best") = true := by rcases hnm with ⟨rfl, _⟩ | ⟨rfl, _⟩ <;> decide +kernel
    have n2 : (nm == "step" || nm == "use") = false := by rcases hnm with ⟨rfl, _⟩ | ⟨rfl, _⟩ <;> decide +kernel
    have lg := Paired.length pg
    refine in2 (K := K) (bb := true) rfl ea n1 _ fun H1 s1 => iteT ⟨_, rfl, a, _, 1, .ref gb, rfl, rfl, SqT.of (s1 _ _ ea), at1, gb, gv, rfl, .inr (SqT.of (s1 _ _ egb)), fun kd hkd => ?_⟩
    have k1 : BK b l H _ := (BK.refl B).same (s1.trans (Same.new (o := .lst gv) hkd))
    have hkdb : kd ∉ [b, l] := (B.same s1).nin hkd
    have ekd : upd H1 kd (.lst gv) kd = some (.lst gv) := upd_same
    generalize upd H1 kd (.lst gv) = H1' at *
    dsimp only [gName]
    refine cond_ev (K := K) rfl rfl (k1.tup B _ _ ea) k1.1 _ fun bb H2 k2 hb => ?_
    have k12 := k1.trans k2
    cases bb with
    | true => exact iteT (here H2 _ k12)
    | false =>
      refine iteF ?_
      dsimp only [tNext]
      have ekd2 := k2.2 _ _ ekd hkdb
      refine ⟨_, rfl, _, rfl, kd, _, rfl, .inl (SqL.of ekd2), b, l, _, rfl, by omega, by omega, k2.1, fun r H3 r0 r1 B3 kk3 => ?_⟩
      have k3 : BK b l H H3 := k12.trans ⟨B3, kk3⟩
      obtain ⟨j, rfl⟩ : ∃ j : Nat, r = (j : Int) := ⟨r.toNat, by omega⟩
      have hj : j < ks.length := by omega
      obtain ⟨u, eu, hu⟩ := paired_get2 pg (List.getElem?_eq_getElem hj)
      have hku : OkS i M d ks[j] := hko.2.2 _ (List.getElem_mem hj)
      dsimp only [gName]
      refine ⟨_, rfl, _, rfl, _, rfl, kd, gv, _, u, rfl, rfl, SqL.of (kk3 _ _ ekd2 hkdb), atI_nat eu, _, rfl, _, rfl, (by show 1 ≤ sizeLine; decide), fun t ht => cat_any (Same.new ht _ _ (k3.tup B _ _ epa)) upd_same ?_ fun pq H4 s4 epq => ?_⟩
      · show (natV wh).length + 1 ≤ 1000
        rw [natV_len]
        omega
      have k4 := (k3.same (Same.new (o := .tup [.int ((j : Nat) : Int)]) ht)).same s4
      rw [natV_snoc] at epq
      refine ⟨_, rfl, _, rfl, b, l, pq, u, ks[j], wh ++ [j], rfl, k4.1, epq, by rw [List.length_append, List.length_singleton]; omega, (fun n hn => by
        rcases List.mem_append.mp hn with hn | hn
        · exact hwn n hn
        · rw [List.mem_singleton.mp hn]; omega), SAt.keep (k4.tup B) _ _ _ hu, hku, fun r q' u' s' path H5 er eq' hS hF hB hl hn k5 => ?_⟩
      have k5' := k4.trans k5
      refine ⟨r, _, rfl, SqT.of er, rfl, _, _, rfl, _, _, rfl, rfl, ?_⟩
      dsimp only [gName]
      rw [List.append_assoc] at eq' hn
      have hl' : wh.length + (j :: path).length ≤ 4 := by rw [List.length_append, List.length_singleton] at hl; rw [List.length_cons]; omega
      refine in2 (K := K) (bb := true) rfl (k5'.tup B _ _ ea) n1 _ fun H6 s6 => iteT ?_
      have k6 := k5'.same s6
      refine ⟨_, rfl, a, _, 0, .str nm, rfl, rfl, SqT.of (k6.tup B _ _ ea), at0, _, rfl, a, _, 1, .ref gb, rfl, rfl, SqT.of (k6.tup B _ _ ea), at1, _, rfl, ((j : Nat) : Int), rfl, sl_any (k6.tup B _ _ egb) fun p1 H7 s7 e7 => ⟨_, rfl, (by show 1 ≤ sizeLine; decide), fun t1 ht1 => cat_any (Same.new ht1 _ _ e7) upd_same ?_ fun p2 H8 s8 e8 => ?_⟩⟩
      · rw [cut_to, List.length_take]
        show min j gv.length + 1 ≤ 1000
        omega
      have s68 := (s6.trans s7).trans ((Same.new (o := .tup [u']) ht1).trans s8)
      have k8 := k5'.same s68
      refine ⟨_, rfl, a, _, 1, .ref gb, rfl, rfl, SqT.of (k8.tup B _ _ ea), at1, _, rfl, _, _, rfl, rfl, _, rfl, ?_⟩
      dsimp only [tNoPart]
      refine sl_any (k8.tup B _ _ egb) fun p3 H9 s9 e9 => cat_any (s9 _ _ e8) e9 ?_ fun p4 H10 s10 e10 => ⟨sz2, fun t hh => ⟨_, rfl, sz2, fun tt htt => ?_⟩⟩
      · rw [cut_to, show ((j : Nat) : Int) + 1 = ((j + 1 : Nat) : Int) by omega, cut_from, List.length_append, List.length_take, List.length_drop, List.length_singleton]
        omega
      rw [cut_to, show ((j : Nat) : Int) + 1 = ((j + 1 : Nat) : Int) by omega, cut_from] at e10
      have e10 : H10 p4 = some (.tup (setL gv j u')) := e10
      have sA := (Same.new (o := .tup [.str nm, .ref p4]) hh).trans (Same.new (o := .tup [.ref t, .ref q']) htt)
      have sB := ((s68.trans s9).trans s10).trans sA
      have kB := k5'.same sB
      have et := Same.new (o := .tup [.ref t, .ref q']) htt _ _ (upd_same : upd H10 t (.tup [.str nm, .ref p4]) t = _)
      have hS' := SAtO.same sB _ _ _ (SAtO.keep (Same.tupK sB) _ _ _ hS)
      have pgB := paired_setL (paired_imp pg fun _ _ h => SAtO.of _ _ _ (SAt.keep (kB.tup B) _ _ _ h)) j hS'
      have okl : (setL ks j s').length = ks.length := setL_len hj
      have hfk : ∀ x ∈ setL ks j s', Frm d x := fun x hx => by
        rcases setL_mem hx with z | rfl
        · exact OkS.frm (hko.2.2 x z)
        · exact hF
      have hbad : ∀ mk : List Sch → Sch, (∀ k, kidsOf (mk k) = k) → (∀ k, okOwn i M (mk k) = decide (1 ≤ k.length ∧ k.length ≤ 4)) → Bad1 i M (d + 1) (mk (setL ks j s')) (j :: path) (sz (d + 1) sc) := fun mk h1 h2 =>
        ⟨by rw [h2, okl]; exact decide_eq_true ⟨hko.1, hko.2.1⟩, ks.take j, s', ks.drop (j + 1), by rw [h1]; unfold setL; rw [List.append_assoc]; rfl, by rw [List.length_take]; omega, fun x hx => hko.2.2 x (List.mem_of_mem_take hx), hB.mono (by
          have := sum_at (List.getElem?_eq_getElem hj) (fun x => sz_nn d x)
          omega)⟩
      rcases hnm with ⟨rfl, rfl⟩ | ⟨rfl, rfl⟩
      · exact q tt q' (.ref t) (.all (setL ks j s')) (j :: path) _ upd_same (sB _ _ eq') (.inr ⟨t, p4, _, rfl, et, sA _ _ e10, pgB⟩) ⟨by rw [okl]; omega, hfk⟩ (hbad _ (fun _ => rfl) fun _ => rfl) hl' hn kB
      · exact q tt q' (.ref t) (.best (setL ks j s')) (j :: path) _ upd_same (sB _ _ eq') (.inr ⟨t, p4, _, rfl, et, sA _ _ e10, pgB⟩) ⟨by rw [okl]; omega, hfk⟩ (hbad _ (fun _ => rfl) fun _ => rfl) hl' hn kB
  · have ea := W.at_
    refine in2 (K := K) (bb := false) rfl ea W.ab _ fun H1 s1 => iteF ⟨_, rfl, 1, rfl, a, _, -1, u, rfl, rfl, SqT.of (s1 _ _ ea), last_at W.pl, (by show 1 ≤ sizeLine; decide), fun kd hkd => ?_⟩
    have k1 : BK b l H _ := (BK.refl B).same (s1.trans (Same.new (o := .lst [u]) hkd))
    have hkdb : kd ∉ [b, l] := (B.same s1).nin hkd
    have ekd : upd H1 kd (.lst [u]) kd = some (.lst [u]) := upd_same
    generalize upd H1 kd (.lst [u]) = H1' at *
    dsimp only [gName]
    refine cond_ev (K := K) rfl rfl (k1.tup B _ _ ea) k1.1 _ fun bb H2 k2 hb => ?_
    have k12 := k1.trans k2
    cases bb with
    | true => exact iteT (here H2 _ k12)
    | false =>
      refine iteF ?_
      dsimp only [tNext]
      have ekd2 := k2.2 _ _ ekd hkdb
      refine ⟨_, rfl, _, rfl, kd, _, rfl, .inl (SqL.of ekd2), b, l, _, rfl, (by show (0 : Int) < 1; decide), (by show (1 : Int) < 1073741824; decide), k2.1, fun r H3 r0 r1 B3 kk3 => ?_⟩
      have k3 : BK b l H H3 := k12.trans ⟨B3, kk3⟩
      obtain rfl : r = 0 := by
        have : r < 1 := r1
        omega
      dsimp only [gName]
      refine ⟨_, rfl, _, rfl, _, rfl, kd, [u], _, u, rfl, rfl, SqL.of (kk3 _ _ ekd2 hkdb), at0, _, rfl, _, rfl, (by show 1 ≤ sizeLine; decide), fun t ht => cat_any (Same.new ht _ _ (k3.tup B _ _ epa)) upd_same ?_ fun pq H4 s4 epq => ?_⟩
      · show (natV wh).length + 1 ≤ 1000
        rw [natV_len]
        omega
      have k4 := (k3.same (Same.new (o := .tup [.int 0]) ht)).same s4
      have epq : H4 pq = some (.tup (natV wh ++ [.int ((0 : Nat) : Int)])) := epq
      rw [natV_snoc] at epq
      refine ⟨_, rfl, _, rfl, b, l, pq, u, sk, wh ++ [0], rfl, k4.1, epq, by rw [List.length_append, List.length_singleton]; omega, (fun n hn => by
        rcases List.mem_append.mp hn with hn | hn
        · exact hwn n hn
        · rw [List.mem_singleton.mp hn]; decide), SAt.keep (k4.tup B) _ _ _ W.kid, W.ok, fun r q' u' s' path H5 er eq' hS hF hB hl hn k5 => ?_⟩
      have k5' := k4.trans k5
      refine ⟨r, _, rfl, SqT.of er, rfl, _, _, rfl, _, _, rfl, rfl, ?_⟩
      dsimp only [gName]
      rw [List.append_assoc] at eq' hn
      have hl' : wh.length + (0 :: path).length ≤ 4 := by rw [List.length_append, List.length_singleton] at hl; rw [List.length_cons]; omega
      refine in2 (K := K) (bb := false) rfl (k5'.tup B _ _ ea) W.ab _ fun H6 s6 => iteF ?_
      have k6 := k5'.same s6
      dsimp only [tNext]
      refine ⟨_, rfl, 1, rfl, -1, rfl, sl_any (k6.tup B _ _ ea) fun p1 H7 s7 e7 => ⟨_, rfl, (by show 1 ≤ sizeLine; decide), fun t1 ht1 => cat_any (Same.new ht1 _ _ e7) upd_same ?_ fun p2 H8 s8 e8 => ⟨_, rfl, sz2, fun tt htt => ?_⟩⟩⟩
      · rw [cut_last W.pl]
        have := W.pl
        show pre.length + 1 + 1 ≤ 1000
        omega
      rw [cut_last W.pl] at e8
      have sA := Same.new (o := .tup [.ref p2, .ref q']) htt
      have sB := ((s6.trans s7).trans ((Same.new (o := .tup [u']) ht1).trans s8)).trans sA
      have kB := k5'.same sB
      have hS' := SAtO.same sB _ _ _ (SAtO.keep (Same.tupK sB) _ _ _ hS)
      exact q tt q' (.ref p2) (mk s') (0 :: path) _ upd_same (sB _ _ eq') (W.new _ p2 u' s' (sA _ _ e8) hS') (W.frm s' hF) ⟨W.own s', [], s', [], W.kids s', rfl, (fun _ h => nomatch h), hB.mono (by rw [W.size]; show sz d sk ≤ 1 + sz d sk - 1 - 0; omega)⟩ hl' hn kB
theorem ok_spoilt {i M : Nat} (ml : mg "len" = none) (mli : mg "list" = none) (D : Def K mg "_law_spoilt" s_L_spoilt psSpoilt) (DO : Def K mg "_law_odd" s_L_odd ["_law_box", "_law_number", "_law_many"]) (DT : Def K mg "_law_take" s_L_take ["_law_box", "_law_many"]) : ∀ d, FnOk P w K mg base CX0 (d + 2) D.f D.fd psSpoilt (spSpoilt i M d)
  | 0 => ⟨fun vs H Q E h => by
      obtain ⟨b, l, pa, v, s, wh, rfl, _⟩ := h
      rfl, fun A outer s H args us vs Q E hr e0 hb r h => by
      obtain ⟨b, l, pa, v, s, wh, _, _, _, _, _, hs, _⟩ := h
      cases hs⟩
  | d + 1 => spoilt_turn ml mli D DO DT (ok_spoilt ml mli D DO DT d)
end
end MS
end
section
set_option maxRecDepth 100000
set_option maxHeartbeats 4000000
namespace MS
open PySem L2
open LamX XQs XLs
/-! ### papers that are too great: pure -/
theorem OkS.more {i M M' : Nat} (hM : M ≤ M') : ∀ {d : Nat} {s : Sch}, OkS i M d s → OkS i M' d s
  | 0, _, o => by cases o
  | d + 1, s, o => by
    cases s with
    | step w p => exact o
    | all k => exact ⟨o.1, o.2.1, fun x hx => OkS.more hM (o.2.2 x hx)⟩
    | best k => exact ⟨o.1, o.2.1, fun x hx => OkS.more hM (o.2.2 x hx)⟩
    | most n s => exact ⟨o.1, OkS.more hM o.2⟩
    | half s => exact OkS.more hM (d := d) (s := s) o
    | seen w s => exact ⟨o.1, OkS.more hM o.2⟩
    | behind w s => exact ⟨o.1, OkS.more hM o.2⟩
    | carry s => exact OkS.more hM (d := d) (s := s) o
    | fin w p s => exact ⟨o.1, OkS.more hM o.2⟩
    | use n => exact ⟨o.1, Nat.lt_of_lt_of_le o.2 hM⟩
def sA : Sch := .step "a" 1
theorem ok_a {i M d : Nat} : OkS i M (d + 1) sA := ⟨by show ("a" : Str) ∈ wordsL; decide +kernel, by decide, by decide⟩
theorem good_a {i M : Nat} : GoodAt i M sA := ⟨ok_a, by show (1 : Int) ≤ 12; decide⟩
theorem fbL_six {M : Nat} : ∀ (i : Nat) (r : List Sch), (∀ j t, i + j < 5 → r[j]? = some t → GoodAt (i + j) M t) → i ≤ 5 → 5 < i + r.length → fbL M i r = some (5, [])
  | i, [], _, hi, h => by
    rw [List.length_nil] at h
    omega
  | i, t :: r, g, hi, h => by
    rw [fbL_cons]
    by_cases c : i = 5
    · rw [if_pos c]
    · have g0 := g 0 t (by omega) rfl
      rw [if_neg c, fb_good1 (i := i) g0.1 g0.2]
      exact fbL_six (i + 1) r (fun j u hj hu => by
        have := g (j + 1) u (by omega) hu
        rw [show i + (j + 1) = i + 1 + j by omega] at this
        exact this) (by omega) (by rw [List.length_cons] at h; omega)
theorem badP_six {ps : List Sch} (h : 5 < ps.length) (g : ∀ j t, j < 5 → ps[j]? = some t → GoodAt j ps.length t) : badP ps = some (5, []) :=
  badP_of (fbL_six 0 ps (fun j t hj ht => by rw [Nat.zero_add]; exact g j t (by omega) ht) (by decide) (by omega))
/-- what a paper's scheme is good for -/
theorem good_of {ps : List Sch} (h : PaperOk ps) : ∀ j t, ps[j]? = some t → GoodAt j ps.length t := fun j t e => by
  obtain ⟨h0, h5, ce, cw, ht⟩ := h
  obtain ⟨o1, _, _, o2, _⟩ := ht j t e
  rw [Nat.zero_add] at o1
  exact ⟨o1, o2⟩
theorem badP_rep {ps : List Sch} {n : Nat} (h : PaperOk ps) (h5 : ps.length = 5) (hn : 6 ≤ n) (hn' : n ≤ 30) : badP (((List.replicate 6 ps).flatten).take n) = some (5, []) := by
  have hl : ((List.replicate 6 ps).flatten).length = 30 := by
    rw [PyProof.Rows.lm_len_rep_flat, h5]
  have hl2 : (((List.replicate 6 ps).flatten).take n).length = n := by
    rw [List.length_take, hl]
    omega
  refine badP_six (by omega) fun j t hj e => ?_
  rw [hl2]
  rw [List.getElem?_take_of_lt (by omega)] at e
  have e2 : ps[j]? = some t := by
    have : (List.replicate 6 ps).flatten = ps ++ (List.replicate 5 ps).flatten := rfl
    rw [this, List.getElem?_append_left (by omega)] at e
    exact e
  have g := good_of h j t e2
  exact ⟨g.1.more (by omega), g.2⟩
theorem badP_steps {n : Nat} (hn : 6 ≤ n) : badP (List.replicate n sA) = some (5, []) :=
  badP_six (by rw [List.length_replicate]; omega) fun j t _ e => by
    rw [List.getElem?_replicate] at e
    by_cases c : j < n
    · rw [if_pos c] at e
      obtain rfl := Option.some.inj e
      exact good_a
    · rw [if_neg c] at e
      cases e
/-- a paper with a scheme told otherwise: the others are good -/
theorem badP_set {ps : List Sch} {n : Nat} {s : Sch} {path : List Nat} (h : PaperOk ps) (hn : n < ps.length) (b : fbW n ps.length 12 [([], s)] = some path) : badP (setL ps n s) = some (n, path) := by
  have h5 := h.2.1
  refine badP_of ?_
  have hl : (setL ps n s).length = ps.length := setL_len hn
  rw [hl]
  have := fbL_at (M := ps.length) (s := s) (wh := path) n 0 (setL ps n s) (fun j t hj ht' => by
    rw [setL_get hn, if_neg (by omega)] at ht'
    rw [Nat.zero_add]
    exact good_of h j t ht') (by rw [setL_get hn, if_pos rfl]) (by omega) (by rw [Nat.zero_add]; exact b)
  rw [Nat.zero_add] at this
  exact this
def halves : Nat → Sch → Sch
  | 0, s => s
  | n + 1, s => .half (halves n s)
theorem fb_deep {i M : Nat} {s : Sch} : fbW i M 12 [([], .half (.half (.half (.half (.half s)))))] = some [0, 0, 0, 0, 0] := rfl
theorem halves_in {s : Sch} : ∀ n, halves (n + 1) s = halves n (.half s)
  | 0 => rfl
  | n + 1 => by
    show Sch.half (halves (n + 1) s) = Sch.half (halves n (.half s))
    rw [halves_in n]
theorem fb_halves {i M : Nat} {s : Sch} {n : Nat} (hn : 5 ≤ n) : fbW i M 12 [([], halves n s)] = some [0, 0, 0, 0, 0] := by
  obtain ⟨m, rfl⟩ : ∃ m, n = m + 5 := ⟨n - 5, by omega⟩
  exact fb_deep
def qS : Sch := .all [sA, sA, sA, sA]
def wide2 (more : Nat) : Sch := .all [qS, qS, sA, .all (List.replicate more sA)]
theorem fb_wide {i M more : Nat} : fbW i M 12 [([], wide2 more)] = some [3] := rfl
theorem badP_count {ps : List Sch} {s : Sch} (h : PaperOk ps) (hs : GoodAt 0 ps.length s) (hc : (∀ c : Nat → Int, 7 < er c 5 s) ∨ (∀ c : Nat → Int, 3 < wr c 5 s)) : badP (setL ps 0 s) = some (ps.length, []) := by
  have h0 := h.1
  have h5 := h.2.1
  have hl : (setL ps 0 s).length = ps.length := setL_len h0
  have g : ∀ j t, (setL ps 0 s)[j]? = some t → GoodAt (0 + j) ps.length t := fun j t e => by
    rw [setL_get h0] at e
    rw [Nat.zero_add]
    by_cases c : j = 0
    · rw [if_pos c] at e
      obtain rfl := Option.some.inj e
      rw [c]
      exact hs
    · rw [if_neg c] at e
      exact good_of h j t e
  have n1 : fbL (setL ps 0 s).length 0 (setL ps 0 s) = none := by
    rw [hl]
    exact fbL_none 0 _ g (by omega)
  rw [badP_cnt n1, hl, if_pos]
  have e : ∀ E, cnts E 0 (setL ps 0 s) 0 = tot E (cnts E 0 (setL ps 0 s)) s := fun E => by
    have e := cnts_eq (E := E) (M := ps.length) (ps := setL ps 0 s) (i := 0) (j := 0) (s := s) (fun j s hs => (g j s hs).1) (by rw [setL_get h0, if_pos rfl])
    rw [Nat.zero_add] at e
    exact e
  rw [e, e]
  rcases hc with hc | hc
  · exact .inl (hc _)
  · exact .inr (hc _)
theorem all_mem4 {p : Sch → Prop} {a b c d : Sch} (h1 : p a) (h2 : p b) (h3 : p c) (h4 : p d) : ∀ s ∈ [a, b, c, d], p s := fun s hs => by
  simp only [List.mem_cons, List.not_mem_nil, or_false] at hs
  rcases hs with rfl | rfl | rfl | rfl
  · exact h1
  · exact h2
  · exact h3
  · exact h4
theorem ok_q {i M d : Nat} : OkS i M (d + 2) qS := ⟨by decide, by decide, all_mem4 ok_a ok_a ok_a ok_a⟩
def wideS : Sch := .all [qS, qS]
theorem good_wide {i M : Nat} : GoodAt i M wideS := ⟨⟨by decide, by decide, fun s hs => by
  have e : s = qS := by
    simp only [List.mem_cons, List.not_mem_nil, or_false, or_self] at hs
    exact hs
  rw [e]
  exact ok_q⟩, by show (11 : Int) ≤ 12; decide⟩
def gateS : Sch := .all [.seen "b" sA, .behind "b" sA, .seen "a" sA, .behind "a" sA]
theorem wa : IsW "a" := by show ("a" : Str) ∈ wordsL; decide +kernel
theorem wb : IsW "b" := by show ("b" : Str) ∈ wordsL; decide +kernel
theorem good_gate {i M : Nat} : GoodAt i M gateS := ⟨⟨by decide, by decide, all_mem4 ⟨wb, ok_a⟩ ⟨wb, ok_a⟩ ⟨wa, ok_a⟩ ⟨wa, ok_a⟩⟩, by show (9 : Int) ≤ 12; decide⟩
theorem badP_wide {ps : List Sch} (h : PaperOk ps) : badP (setL ps 0 wideS) = some (ps.length, []) := badP_count h good_wide (.inl fun c => by show (7 : Int) < 8; decide)
theorem badP_gate {ps : List Sch} (h : PaperOk ps) : badP (setL ps 0 gateS) = some (ps.length, []) := badP_count h good_gate (.inr fun c => by show (3 : Int) < 4; decide)
def twiceS : Sch := .all [.use 1, .use 1]
def gatesS : Sch := .seen "a" (.behind "b" sA)
theorem badP_twice1 : badP [twiceS, qS] = some (2, []) := by
  have n1 : fbL 2 0 [twiceS, qS] = none := rfl
  rw [badP_cnt (ps := [twiceS, qS]) n1, if_pos (.inl (by show (7 : Int) < 8; decide))]
  rfl
theorem badP_twice2 : badP [twiceS, gatesS] = some (2, []) := by
  have n1 : fbL 2 0 [twiceS, gatesS] = none := rfl
  rw [badP_cnt (ps := [twiceS, gatesS]) n1, if_pos (.inr (by show (3 : Int) < 4; decide))]
  rfl
/-! ### what is handed in as a paper, and is none -/
def NotP (H : Hp) (x : V) : Prop := x = .non ∨ (∃ z, x = .str z) ∨ (∃ n, x = .int n) ∨ (∃ a vs, x = .ref a ∧ H a = some (.lst vs)) ∨ ∃ a, x = .ref a ∧ H a = some (.tup [])
def BadT (H : Hp) (x : V) (n : Nat) (path : List Nat) : Prop := (∃ pa ps pv, x = .ref pa ∧ H pa = some (.tup pv) ∧ Paired (FrmR H H) ps pv ∧ 0 < ps.length ∧ ps.length ≤ 1800 ∧ badP ps = some (n, path)) ∨ (NotP H x ∧ n = 0 ∧ path = [])
theorem BadT.same {H H' : Hp} {x : V} {n : Nat} {path : List Nat} (h : BadT H x n path) (s : Same H H') : BadT H' x n path := by
  rcases h with ⟨pa, ps, pv, e, h1, h2, h3⟩ | ⟨h, e⟩
  · exact .inl ⟨pa, ps, pv, e, s _ _ h1, paired_imp h2 fun _ _ z => FrmR.same z s, h3⟩
  · refine .inr ⟨?_, e⟩
    rcases h with h | h | h | ⟨a, vs, h1, h2⟩ | ⟨a, h1, h2⟩
    · exact .inl h
    · exact .inr (.inl h)
    · exact .inr (.inr (.inl h))
    · exact .inr (.inr (.inr (.inl ⟨a, vs, h1, s _ _ h2⟩)))
    · exact .inr (.inr (.inr (.inr ⟨a, h1, s _ _ h2⟩)))
/-- check_paper refuses it -/
def spBad (C : Addr) : Sp := fun vs H _ E => ∃ x n path, vs = [x] ∧ BadT H x n path ∧ RaisedP C n path H E
theorem fn_or {P : Program} {w : World} {K : PySem.W.Frag} {mg : Str → Option Value} {base : Heap} {CX : CXT} {sp sp' : Sp} {k : Nat} {f : Addr} {fd : FuncData} {ps : List Str} (G : FnOk P w K mg base CX k f fd ps sp) (G' : FnOk P w K mg base CX k f fd ps sp') : FnOk P w K mg base CX k f fd ps (fun vs H Q E => sp vs H Q E ∨ sp' vs H Q E) :=
  ⟨fun vs H Q E h => h.elim (G.1 vs H Q E) (G'.1 vs H Q E), fun A outer s H args us vs Q E a1 a2 a3 a4 h => h.elim (G.2 A outer s H args us vs Q E a1 a2 a3 a4) (G'.2 A outer s H args us vs Q E a1 a2 a3 a4)⟩
section
variable {P : Program} {w : World} {K : PySem.W.Frag} {mg : Str → Option Value} {base : Heap}
theorem ok_check_notP (T : PTx w K mg) (RP : Rsr2 P w K mg base) (D : DPaper K mg) : FnOk P w K mg base (L2.CX P w) 5 D.DC.f D.DC.fd ["paper"] (fun vs H _ E => ∃ x, vs = [x] ∧ NotP H x ∧ RaisedP RP.C 0 [] H E) := by
  have nd := sc_check_paper.nd
  refine D.DC.okX sc_check_paper (fun vs H Q E h => ?_) (fun cdv A outer s H vs Q E hr h => ?_)
  · obtain ⟨x, rfl, _⟩ := h
    rfl
  obtain ⟨x, rfl, hx, q1⟩ := h
  have hr2 : Room 2 _ := hr.mono (by decide)
  have tk : L2.Takes (cxOf (L2.CX P w) P w K mg base ["paper", "parts", "number"] "check_paper" (defScope s_check_paper) D.DC.f cdv A outer s H E) (fun cls d _ H' => E cls d H') := L2.takes_of rfl rfl rfl rfl
  refine ⟨_, pss_cons (ps_if (PW.pt (pw_or (pt_not (pt_val (pe_callB call_isi rfl (T.free "isinstance" (by decide +kernel)) (by decide +kernel) (pa_cons (pv 0) (pa_cons (pe_bltn rfl (T.free "tuple" (by decide +kernel)) (by decide +kernel) (v := .ty "tuple") rfl) pa_nil)))))
      (pw_or1 (pt_not (pt_truth (pv 0) (by intro _; rfl)))))) (pss_one (ps_rs2 RP rfl tk hr2 pe_int (pe_tup pa_nil))) pss_nil) pss_never, ?_⟩
  have bad0 : ∀ (σ' : St), tMkO RP.C (spInit2 RP.C) [] (tCons (tC (.int 0)) (tCons (tTup tNil) tNil)) σ' H fun cls d H' => E cls d H' := fun σ' =>
    ⟨Nat.zero_le _, fun t ht' => raised2_of (n := 0) (by decide) (wh := []) upd_same (by decide) (fun _ h => nomatch h) fun d H' hd s' e => (q1.from (Same.new ht')) d t H' hd s' e (s' _ _ upd_same)⟩
  rcases hx with rfl | ⟨z, rfl⟩ | ⟨n, rfl⟩ | ⟨a, vs, rfl, h⟩ | ⟨a, rfl, h⟩
  · exact seq_if (b := true) (fun Q q => ⟨_, rfl, _, .ty "tuple", .type "NoneType", .type "tuple", false, rfl, .ty _, .base .non, kit_ty (by decide +kernel), _, rfl, iteT q⟩) (fun _ => bad0 _) (fun z => nomatch z)
  · exact seq_if (b := true) (fun Q q => ⟨_, rfl, _, .ty "tuple", .type "str", .type "tuple", false, rfl, .ty _, .base (.str z), kit_ty (by decide +kernel), _, rfl, iteT q⟩) (fun _ => bad0 _) (fun z => nomatch z)
  · exact seq_if (b := true) (fun Q q => ⟨_, rfl, _, .ty "tuple", .type "int", .type "tuple", false, rfl, .ty _, .base (.int n), kit_ty (by decide +kernel), _, rfl, iteT q⟩) (fun _ => bad0 _) (fun z => nomatch z)
  · exact seq_if (b := true) (fun Q q => ⟨_, rfl, _, .ty "tuple", .type "list", .type "tuple", false, rfl, .ty _, .base (.lst h), kit_ty (by decide +kernel), _, rfl, iteT q⟩) (fun _ => bad0 _) (fun z => nomatch z)
  · exact seq_if (b := true) (fun Q q => ⟨_, rfl, _, .ty "tuple", .type "tuple", .type "tuple", true, rfl, .ty _, .base (.tup h), kit_ty (by decide +kernel), _, rfl, iteF ⟨_, rfl, false, .inr (.inl ⟨_, SqT.of h, rfl⟩), q⟩⟩) (fun _ => bad0 _) (fun z => nomatch z)
theorem ok_check_bad (T : PTx w K mg) (hms : ∀ a, mg "SHAPES" = some (.ref a) → KMiss K w a "Step") (RP : Rsr2 P w K mg base) (D : DPaper K mg) : FnOk P w K mg base (L2.CX P w) 5 D.DC.f D.DC.fd ["paper"] (spBad RP.C) :=
  (fn_or (ok_check_paperX T hms RP D) (ok_check_notP T RP D)).imp fun vs H Q E h => by
    obtain ⟨x, n, path, rfl, hb, hr⟩ := h
    rcases hb with ⟨pa, ps, pv, rfl, h1, h2, h3, h4, h5⟩ | ⟨h, rfl, rfl⟩
    · refine .inl ⟨pa, ps, pv, rfl, h1, h2, h3, h4, fun n' wh e => ?_, fun e => ?_⟩
      · rw [h5] at e
        cases e
        exact hr
      · rw [h5] at e
        cases e
    · exact .inr ⟨x, rfl, h, hr⟩
end
end MS
end
section
set_option maxRecDepth 100000
set_option maxHeartbeats 4000000
namespace MS
open PySem L2
open LamX XQs XLs
/-! ### the law's _law_great -/
abbrev s_L_great : Stmt := topS 93
abbrev nmGreat : List Str := ["_law_box", "_law_paper_here", "_law_step", "_law_many", "_law_way", "_law_number", "_law_deep", "_law_turn", "_law_more", "_law_wide", "_law_twice", "_law_gates", "_law_gate"]
theorem sc_L_great : FnScope nmGreat ["_law_box", "_law_paper_here"] (defScope s_L_great) := ⟨rfl, rfl, rfl, by decide +kernel, rfl, by decide +kernel, by decide +kernel⟩
def spGreat : Sp := fun vs H Q _ => ∃ (b l pa : Addr) (ps : List Sch) (pvs : List V), vs = [.ref b, .ref pa] ∧ Box H b l ∧ H pa = some (.tup pvs) ∧ Paired (SAt H 5) ps pvs ∧ PaperOk ps ∧
  ∀ (r q p : Addr) (x : V) (n : Nat) (path : List Nat) (H' : Hp), H' r = some (.tup [x, .ref q]) → H' q = some (.tup [.int ((n : Nat) : Int), .ref p]) → H' p = some (.tup (natV path)) → path.length ≤ 5 → (∀ k ∈ path, k < 1000) → n < 1000 → BadT H' x n path → BK b l H H' → Q (.ref r) H'
theorem dec_intV (a b : Int) : decide (V.int a = V.int b) = decide (a = b) := by
  rw [decide_eq_decide]
  exact ⟨fun z => V.int.inj z, fun z => by rw [z]⟩
theorem frm_list {H : Hp} {ps : List Sch} {pvs : List V} (pp : Paired (SAt H 5) ps pvs) (hg : ∀ s ∈ ps, ∃ i M, OkS i M 5 s) : Paired (FrmR H H) ps pvs := by
  induction pp with
  | nil => exact .nil
  | cons r t ih =>
    obtain ⟨i, M, o⟩ := hg _ List.mem_cons_self
    exact .cons ⟨4, SAtO.of 5 _ _ r, OkS.frm o⟩ (ih fun s hs => hg s (List.mem_cons_of_mem _ hs))
theorem ok_mem {ps : List Sch} (h : PaperOk ps) : ∀ s ∈ ps, ∃ i M, OkS i M 5 s := fun s hs => by
  obtain ⟨j, hj⟩ := List.mem_iff_getElem?.mp hs
  exact ⟨j, _, (good_of h j s hj).1⟩
theorem paired_flat {α β : Type} {R : α → β → Prop} {xs : List α} {ys : List β} (r : Paired R xs ys) : ∀ n, Paired R (List.replicate n xs).flatten (List.replicate n ys).flatten
  | 0 => .nil
  | n + 1 => paired_app2 r (paired_flat r n)
theorem rep_flat1 (v : V) : ∀ n, (List.replicate n [v]).flatten = List.replicate n v
  | 0 => rfl
  | n + 1 => by
    show [v] ++ (List.replicate n [v]).flatten = _
    rw [rep_flat1 v n]
    rfl
theorem FrmR.new {H : Hp} {s : Sch} {v : V} (d : Nat) (h : SAt H (d + 1) s v) (f : Frm (d + 1) s) : FrmR H H s v := ⟨d, SAtO.of _ _ _ h, f⟩
section
variable {P : Program} {w : World} {K : PySem.W.Frag} {mg : Str → Option Value} {base : Heap}
theorem ok_great (ml : mg "len" = none) (mli : mg "list" = none) (mr : mg "range" = none) (mt : mg "tuple" = none) (DT : Def K mg "_law_take" s_L_take ["_law_box", "_law_many"]) (D : Def K mg "_law_great" s_L_great ["_law_box", "_law_paper_here"]) : FnOk P w K mg base CX0 2 D.f D.fd ["_law_box", "_law_paper_here"] spGreat := by
  have GT : FnOk P w K mg base CX0 1 DT.f DT.fd ["_law_box", "_law_many"] spTake := ok_take DT
  have nd := sc_L_great.nd
  refine D.ok sc_L_great (fun vs H Q E h => ?_) (fun cdv A outer s H vs Q E hr h => ?_)
  · obtain ⟨b, l, pa, ps, pvs, rfl, _⟩ := h
    rfl
  obtain ⟨b, l, pa, ps, pvs, rfl, B, epa, pp, hP, q⟩ := h
  have hr1 : Room 1 _ := hr.mono (by omega)
  have lpv := Paired.length pp
  have h0 := hP.1
  have h5 := hP.2.1
  refine ⟨_, (pss_cons (ps_par3 (i := 2) (j := 3) (l := 4) (by rfl) nd rfl rfl rfl (by decide) (by decide) (by decide) rfl rfl rfl (pa_cons (pe_tup (pa_cons pe_str (pa_cons pe_str (pa_cons pe_int pa_nil)))) (pa_cons (pe_callB call_len_seq rfl ml PySem.boot_len (pa_cons (pv 1) pa_nil)) (pa_cons (pcall DT GT hr1 (pa_cons (pv 0) (pa_cons pe_int pa_nil))) pa_nil))) (by rfl))
      (pss_cons (ps_set (i := 5) nd rfl (Or.inl rfl) (pcall DT GT hr1 (pa_cons (pv 0) (pa_cons (pv 3) pa_nil))))
      (pss_cons (ps_if (pt_cmpR op_eq (pv 4) pe_int (nomark _)) (pss_one (ps_ret (pe_tup (pa_cons (pe_ifExp (pt_cmpR op_eq (pv 3) pe_int (nomark _)) (pe_slice sl_tupA (pe_op op_repT (pv 1) pe_int) po_none (po_some (pe_op op_add pe_int (pcall DT GT hr1 (pa_cons (pv 0) (pa_cons pe_int pa_nil)))))) (pe_op op_repT (pe_tup (pa_cons (pv 2) pa_nil)) (pe_op op_add pe_int (pcall DT GT hr1 (pa_cons (pv 0) (pa_cons pe_int pa_nil)))))) (pa_cons (pe_tup (pa_cons pe_int (pa_cons (pe_tup pa_nil) pa_nil))) pa_nil))))) pss_nil)
      (pss_cons (ps_if (pt_cmpR op_eq (pv 4) pe_int (nomark _)) (pss_cons (ps_set (i := 6) nd rfl (Or.inl rfl) (pv 2))
      (pss_cons (ps_for PassesOwn.never rfl (pi_range1 rfl mr (pa_cons (pe_op op_add pe_int (pcall DT GT hr1 (pa_cons (pv 0) (pa_cons pe_int pa_nil)))) pa_nil)) (pg_name (i := 7) nd rfl (Or.inl rfl)) (pss_one (ps_set (i := 6) nd rfl (Or.inl rfl) (pe_tup (pa_cons pe_str (pa_cons (pv 6) pa_nil))))))
      (pss_one (ps_ret (pe_tup (pa_cons (pe_op op_catA (pe_op op_catA (pe_slice sl_tupA (pv 1) po_none (po_some (pv 5))) (pe_tup (pa_cons (pv 6) pa_nil))) (pe_slice sl_tupA (pv 1) (po_some (pe_op op_add (pv 5) pe_int)) po_none)) (pa_cons (pe_tup (pa_cons (pv 5) (pa_cons (pe_op op_repT (pe_tup (pa_cons pe_int pa_nil)) pe_int) pa_nil))) pa_nil))))))) pss_nil)
      (pss_cons (ps_if (pt_cmpR op_eq (pv 4) pe_int (nomark _)) (pss_cons (ps_set (i := 8) nd rfl (Or.inl rfl) (pe_op op_add pe_int (pcall DT GT hr1 (pa_cons (pv 0) (pa_cons pe_int pa_nil)))))
      (pss_cons (ps_set (i := 9) nd rfl (Or.inl rfl) (pe_tup (pa_cons pe_str (pa_cons (pe_tup (pa_cons (pe_tup (pa_cons pe_str (pa_cons (pe_op op_repT (pe_tup (pa_cons (pv 2) pa_nil)) pe_int) pa_nil))) (pa_cons (pe_tup (pa_cons pe_str (pa_cons (pe_op op_repT (pe_tup (pa_cons (pv 2) pa_nil)) pe_int) pa_nil))) (pa_cons (pv 2) (pa_cons (pe_tup (pa_cons pe_str (pa_cons (pe_op op_repTA (pe_tup (pa_cons (pv 2) pa_nil)) (pv 8)) pa_nil))) pa_nil))))) pa_nil))))
      (pss_one (ps_ret (pe_tup (pa_cons (pe_op op_catA (pe_op op_catA (pe_slice sl_tupA (pv 1) po_none (po_some (pv 5))) (pe_tup (pa_cons (pv 9) pa_nil))) (pe_slice sl_tupA (pv 1) (po_some (pe_op op_add (pv 5) pe_int)) po_none)) (pa_cons (pe_tup (pa_cons (pv 5) (pa_cons (pe_tup (pa_cons pe_int pa_nil)) pa_nil))) pa_nil))))))) pss_nil)
      (pss_cons (ps_if (PW.pt (pw_and (pt_cmpR op_eq (pv 4) pe_int (nomark _)) (pw_and1 (pt_cmpR op_eq (pcall DT GT hr1 (pa_cons (pv 0) (pa_cons pe_int pa_nil))) pe_int (nomark _))))) (pss_cons (ps_par (i := 10) (j := 11) (by rfl) nd rfl rfl (by decide) rfl rfl (pa_cons (pe_tup (pa_cons pe_str (pa_cons (pe_tup (pa_cons (pe_tup (pa_cons pe_str (pa_cons pe_int pa_nil))) (pa_cons (pe_tup (pa_cons pe_str (pa_cons pe_int pa_nil))) pa_nil))) pa_nil))) (pa_cons (pe_tup (pa_cons pe_str (pa_cons pe_str (pa_cons (pe_tup (pa_cons pe_str (pa_cons pe_str (pa_cons (pv 2) pa_nil)))) pa_nil)))) pa_nil)) (by rfl))
      (pss_one (ps_ret (pe_tup (pa_cons (pe_tup (pa_cons (pv 10) (pa_cons (pe_ix (r := rIxL K) ix_list (pe_lst (pa_cons (pe_tup (pa_cons pe_str (pa_cons (pe_op op_repT (pe_tup (pa_cons (pv 2) pa_nil)) pe_int) pa_nil))) (pa_cons (pv 11) pa_nil))) (pcall DT GT hr1 (pa_cons (pv 0) (pa_cons pe_int pa_nil))) (fun _ _ => rfl)) pa_nil))) (pa_cons (pe_tup (pa_cons pe_int (pa_cons (pe_tup pa_nil) pa_nil))) pa_nil)))))) pss_nil)
      (pss_cons (ps_if (pt_cmpR op_eq (pv 4) pe_int (nomark _)) (pss_one (ps_ret (pe_tup (pa_cons (pe_op op_catA (pe_tup (pa_cons (pe_tup (pa_cons pe_str (pa_cons (pe_op op_repT (pe_tup (pa_cons (pe_tup (pa_cons pe_str (pa_cons (pe_op op_repT (pe_tup (pa_cons (pv 2) pa_nil)) pe_int) pa_nil))) pa_nil)) pe_int) pa_nil))) pa_nil)) (pe_slice sl_tupA (pv 1) (po_some pe_int) po_none)) (pa_cons (pe_tup (pa_cons (pv 3) (pa_cons (pe_tup pa_nil) pa_nil))) pa_nil))))) pss_nil)
      (pss_cons (ps_if (pt_cmpR op_eq (pv 4) pe_int (nomark _)) (pss_cons (ps_set (i := 12) nd rfl (Or.inl rfl) (pe_tup (pa_cons pe_str (pa_cons (pe_callTy call_tuple_of rfl mt (by decide +kernel) (pa_cons (pe_lst (pa_cons (pe_tup (pa_cons pe_str (pa_cons pe_str (pa_cons (pv 2) pa_nil)))) (pa_cons (pe_tup (pa_cons pe_str (pa_cons pe_str (pa_cons (pv 2) pa_nil)))) (pa_cons (pe_tup (pa_cons pe_str (pa_cons pe_str (pa_cons (pv 2) pa_nil)))) (pa_cons (pe_tup (pa_cons pe_str (pa_cons pe_str (pa_cons (pv 2) pa_nil)))) pa_nil))))) pa_nil)) pa_nil))))
      (pss_one (ps_ret (pe_tup (pa_cons (pe_op op_catA (pe_tup (pa_cons (pv 12) pa_nil)) (pe_slice sl_tupA (pv 1) (po_some pe_int) po_none)) (pa_cons (pe_tup (pa_cons (pv 3) (pa_cons (pe_tup pa_nil) pa_nil))) pa_nil)))))) pss_nil)
      (pss_one (ps_ret (pe_tup (pa_cons (pe_ix (r := rIxL K) ix_list (pe_lst (pa_cons (pe_tup pa_nil) (pa_cons pe_non (pa_cons (pe_callTy call_list_of rfl mli (by decide +kernel) (pa_cons (pv 1) pa_nil)) (pa_cons pe_str (pa_cons pe_int pa_nil)))))) (pcall DT GT hr1 (pa_cons (pv 0) (pa_cons pe_int pa_nil))) (fun _ _ => rfl)) (pa_cons (pe_tup (pa_cons pe_int (pa_cons (pe_tup pa_nil) pa_nil))) pa_nil))))))))))))), ?_⟩
  -- the end: (x, (n, ()))
  have fin : ∀ (te : TE) (n : Nat) (x : V) (σ : St) (H1 : Hp), (∀ Q' : VK, Q' (.int ((n : Nat) : Int)) H1 → te σ H1 Q') → n < 1000 → BadT H1 x n [] → BK b l H H1 → tTup (tCons te (tCons (tTup tNil) tNil)) σ H1 (fun y H2 => [x, y].length ≤ sizeLine ∧ ∀ p, H2 p = none → Q (.ref p) (upd H2 p (.tup [x, y]))) := fun te n x σ H1 ht hn hb k => by
    refine ht _ ⟨Nat.zero_le _, fun p0 h0 => ⟨sz2, fun q0 hq0 => ⟨sz2, fun r hr => ?_⟩⟩⟩
    have s1 := Same.new (o := .tup []) h0
    have s2 := Same.new (o := .tup [.int ((n : Nat) : Int), .ref p0]) hq0
    have s3 := Same.new (o := .tup [x, .ref q0]) hr
    have s := (s1.trans s2).trans s3
    exact q r q0 p0 x n [] _ upd_same (s3 _ _ upd_same) ((s2.trans s3) _ _ upd_same) (by show 0 ≤ 5; decide) (fun _ h => nomatch h) hn (hb.same s) (k.same s)
  refine ⟨(by show 3 ≤ sizeLine; decide), fun g hg => ?_⟩
  have k1 := (BK.refl B).same (Same.new (o := .tup [.str "step", .str "a", .int 1]) hg)
  have eg : upd H g (.tup [.str "step", .str "a", .int 1]) g = some (.tup [.str "step", .str "a", .int 1]) := upd_same
  have ngb : g ∉ [b, l] := B.nin hg
  generalize upd H g (.tup [.str "step", .str "a", .int 1]) = H1 at k1 eg
  refine ⟨_, rfl, pa, pvs, rfl, .inr (SqT.of (k1.tup B _ _ epa)), _, rfl, b, l, 6, rfl, by decide, by decide, k1.1, fun wy H2 w0 w1 B2 kk2 => ⟨_, _, _, rfl, ?_⟩⟩
  have k2 := k1.trans ⟨B2, kk2⟩
  have eg2 := kk2 _ _ eg ngb
  dsimp only [gName]
  refine ⟨_, rfl, _, rfl, b, l, _, rfl, by omega, by omega, B2, fun nu H3 n0 n1 B3 kk3 => ?_⟩
  have k3 := k2.trans ⟨B3, kk3⟩
  have eg3 := kk3 _ _ eg2 ngb
  obtain ⟨j, rfl⟩ : ∃ j : Nat, nu = (j : Int) := ⟨nu.toNat, by omega⟩
  have hj : j < ps.length := by omega
  dsimp only [gName]
  have wys : wy = 0 ∨ wy = 1 ∨ wy = 2 ∨ wy = 3 ∨ wy = 4 ∨ wy = 5 := by omega
  have step : ∀ {H' : Hp} {d : Nat}, H' g = some (.tup [.str "step", .str "a", .int 1]) → SAt H' (d + 1) sA (.ref g) := fun e => ⟨g, rfl, e⟩
  clear w0 w1
  have all4 : ∀ {H1 : Hp} {p1 p2 t : Addr}, H1 p1 = none → (upd H1 p1 (.tup [.ref g])) p2 = none → (upd (upd H1 p1 (.tup [.ref g])) p2 (.tup (List.replicate (4 : Int).toNat [V.ref g]).flatten)) t = none → H1 g = some (.tup [.str "step", .str "a", .int 1]) →
      Same H1 (upd (upd (upd H1 p1 (.tup [.ref g])) p2 (.tup (List.replicate (4 : Int).toNat [V.ref g]).flatten)) t (.tup [.str "all", .ref p2])) ∧ SAt (upd (upd (upd H1 p1 (.tup [.ref g])) p2 (.tup (List.replicate (4 : Int).toNat [V.ref g]).flatten)) t (.tup [.str "all", .ref p2])) 2 qS (.ref t) := fun {H1 p1 p2 t} h1 h2 ht e => by
    have s1 := Same.new (o := .tup [.ref g]) h1
    have s2 := Same.new (o := .tup (List.replicate (4 : Int).toNat [V.ref g]).flatten) h2
    have s3 := Same.new (o := .tup [.str "all", .ref p2]) ht
    have sm := (s1.trans s2).trans s3
    have eg' := step (d := 0) (sm _ _ e)
    exact ⟨sm, ⟨t, p2, [.ref g, .ref g, .ref g, .ref g], rfl, upd_same, s3 _ _ upd_same, .cons eg' (.cons eg' (.cons eg' (.cons eg' .nil)))⟩⟩
  rcases wys with rfl | rfl | rfl | rfl | rfl | rfl
  · refine seq_if (b := true) (fun Q q => ⟨_, rfl, rfl, _, rfl, by rw [dec_intV]; exact q⟩) (fun _ => ?_) (fun z => nomatch z)
    by_cases c : ps.length = 5
    · refine ⟨_, rfl, rfl, _, rfl, ?_⟩
      rw [dec_intV, show decide (((pvs.length : Nat) : Int) = 5) = true from decide_eq_true (by omega)]
      refine iteT ⟨_, rfl, pa, 6, pvs, rfl, rfl, SqT.of (k3.tup B _ _ epa), (fun z => by rw [z, List.length_nil] at lpv; omega), by decide, by decide, by omega, fun p1 hp1 => ?_⟩
      have s4 := Same.new (o := .tup (List.replicate (6 : Int).toNat pvs).flatten) hp1
      have np1 : p1 ∉ [b, l] := k3.1.nin hp1
      refine ⟨_, rfl, b, l, 3, rfl, by decide, by decide, k3.1.same s4, fun r H5 r0 r1 B5 kk5 => ⟨_, _, rfl, rfl, _, rfl, ?_⟩⟩
      have k5 := (k3.same s4).trans ⟨B5, kk5⟩
      have e5 := kk5 _ _ upd_same np1
      obtain ⟨m, rfl⟩ : ∃ m : Nat, r = (m : Int) := ⟨r.toNat, by omega⟩
      refine sl_any e5 fun p2 H6 s6 e6 => fin (tC (.int 5)) 5 (.ref p2) _ H6 (fun _ z => z) (by decide) ?_ (k5.same s6)
      rw [show (6 : Int) + (m : Int) = ((6 + m : Nat) : Int) by omega, cut_to] at e6
      have k6 := k5.same s6
      exact .inl ⟨p2, ((List.replicate 6 ps).flatten).take (6 + m), _, rfl, e6, paired_takeN (paired_flat (frm_list (paired_imp pp fun _ _ h => SAt.keep (k6.tup B) _ _ _ h) (ok_mem hP)) 6) _, by
        rw [List.length_take, PyProof.Rows.lm_len_rep_flat]; omega, by rw [List.length_take]; omega, badP_rep hP c (by omega) (by omega)⟩
    · refine ⟨_, rfl, rfl, _, rfl, ?_⟩
      rw [dec_intV, show decide (((pvs.length : Nat) : Int) = 5) = false from decide_eq_false (by omega)]
      refine iteF ⟨_, rfl, (by show 1 ≤ sizeLine; decide), fun p1 hp1 => ?_⟩
      have s4 := Same.new (o := .tup [.ref g]) hp1
      have np1 : p1 ∉ [b, l] := k3.1.nin hp1
      refine ⟨_, rfl, b, l, 3, rfl, by decide, by decide, k3.1.same s4, fun r H5 r0 r1 B5 kk5 => ⟨_, _, rfl, rfl, p1, _, [.ref g], rfl, rfl, SqT.of (kk5 _ _ upd_same np1), (fun z => nomatch z), by omega, by omega, (by show 1 ≤ 1000; decide), fun p2 hp2 => ?_⟩⟩
      have k5 := (k3.same s4).trans ⟨B5, kk5⟩
      have eg5 := kk5 _ _ (s4 _ _ eg3) ngb
      obtain ⟨m, hm⟩ : ∃ m : Nat, (6 + r).toNat = m := ⟨_, rfl⟩
      rw [hm, rep_flat1]
      have s6 := Same.new (o := .tup (List.replicate m (.ref g))) hp2
      refine fin (tC (.int 5)) 5 (.ref p2) _ _ (fun _ z => z) (by decide) ?_ (k5.same s6)
      exact .inl ⟨p2, List.replicate m sA, _, rfl, upd_same, paired_rep (FrmR.new 0 (step (s6 _ _ eg5)) (OkS.frm (i := 0) (M := 0) ok_a)) m, by rw [List.length_replicate]; omega, by rw [List.length_replicate]; omega, badP_steps (by omega)⟩
  · refine seq_if (b := false) (fun Q q => ⟨_, rfl, rfl, _, rfl, by rw [dec_intV]; exact q⟩) (fun z => nomatch z) (fun _ => ?_)
    refine seq_if (b := true) (fun Q q => ⟨_, rfl, rfl, _, rfl, by rw [dec_intV]; exact q⟩) (fun _ => ?_) (fun z => nomatch z)
    refine ⟨_, rfl, ?_⟩
    dsimp only [gName]
    refine ⟨_, rfl, b, l, 3, rfl, by decide, by decide, k3.1, fun r H4 r0 r1 B4 kk4 => ⟨_, _, rfl, rfl, _, rfl, by omega, by omega, ?_⟩⟩
    have k4 := k3.trans ⟨B4, kk4⟩
    have eg4 := kk4 _ _ eg3 ngb
    refine for_range (lo := 0) (n := (5 + r).toNat) (fun i σ H' => ∃ (v7 : Option V) (dp : Addr), σ = [some (.ref b), some (.ref pa), some (.ref g), some (.int ((pvs.length : Nat) : Int)), some (.int 1), some (.int ((j : Nat) : Int)), some (.ref dp), v7, none, none, none, none, none] ∧ SAt H' (i + 1) (halves i sA) (.ref dp) ∧ Frm (i + 1) (halves i sA) ∧ Same H4 H')
      ⟨none, g, rfl, step eg4, OkS.frm (i := 0) (M := 0) ok_a, Same.refl _⟩ ?_ ?_
    · rintro i σ H5 hi ⟨v7, dp, rfl, hs5, hf5, sm⟩
      dsimp only [gName]
      refine ⟨_, rfl, sz2, fun t ht => ⟨_, t, rfl, ⟨t, _, rfl, upd_same, SAt.keep (TupK.new ht) _ _ _ hs5⟩, hf5, sm.trans (Same.new ht)⟩⟩
    · rintro σ H5 ⟨v7, dp, rfl, hs5, hf5, sm⟩
      have k5 := k4.same sm
      refine ⟨_, rfl, _, rfl, ((j : Nat) : Int), rfl, sl_any (k5.tup B _ _ epa) fun p1 Ha sa ea => ⟨_, rfl, (by show 1 ≤ sizeLine; decide), fun t1 ht1 => cat_any (Same.new ht1 _ _ ea) upd_same ?_ fun p2 Hb sb eb => ?_⟩⟩
      · rw [cut_to, List.length_take]
        show min j pvs.length + 1 ≤ 1000
        omega
      have sab := sa.trans ((Same.new ht1).trans sb)
      refine ⟨_, rfl, _, rfl, _, _, rfl, rfl, _, rfl, ?_⟩
      dsimp only [tNoPart]
      refine sl_any (sab _ _ (k5.tup B _ _ epa)) fun p3 Hc sc ec => cat_any (sc _ _ eb) ec ?_ fun p4 Hd sd ed => ?_
      · rw [cut_to, show ((j : Nat) : Int) + 1 = ((j + 1 : Nat) : Int) by omega, cut_from, List.length_append, List.length_take, List.length_drop, List.length_singleton]
        omega
      rw [cut_to, show ((j : Nat) : Int) + 1 = ((j + 1 : Nat) : Int) by omega, cut_from] at ed
      have sad := (sab.trans sc).trans sd
      refine ⟨_, rfl, (by show 1 ≤ sizeLine; decide), fun z1 hz1 => ⟨z1, 5, [.int 0], rfl, rfl, SqT.of upd_same, (fun z => nomatch z), by decide, by decide, (by show 1 ≤ 1000; decide), fun z2 hz2 => ⟨sz2, fun q0 hq0 => ⟨sz2, fun rr hrr => ?_⟩⟩⟩⟩
      have se := ((Same.new (o := .tup [.int 0]) hz1).trans (Same.new hz2)).trans ((Same.new (o := .tup [.int ((j : Nat) : Int), .ref z2]) hq0).trans (Same.new (o := .tup [.ref p4, .ref q0]) hrr))
      have kf := (k5.same sad).same se
      have sall := sad.trans se
      refine q rr q0 z2 (.ref p4) j [0, 0, 0, 0, 0] _ upd_same (Same.new hrr _ _ upd_same) (((Same.new hq0).trans (Same.new hrr)) _ _ upd_same) (by decide) (by decide) (by omega) (.inl ⟨p4, setL ps j (halves (5 + r).toNat sA), _, rfl, se _ _ ed, ?_, ?_, ?_, badP_set hP hj (fb_halves (by omega))⟩) kf
      · exact paired_setL (frm_list (paired_imp pp fun _ _ h => SAt.keep (kf.tup B) _ _ _ h) (ok_mem hP)) j (FrmR.new _ (SAt.keep (Same.tupK sall) _ _ _ hs5) hf5)
      · rw [setL_len hj]; exact h0
      · rw [setL_len hj]; omega
  · refine seq_if (b := false) (fun Q q => ⟨_, rfl, rfl, _, rfl, by rw [dec_intV]; exact q⟩) (fun z => nomatch z) (fun _ => ?_)
    refine seq_if (b := false) (fun Q q => ⟨_, rfl, rfl, _, rfl, by rw [dec_intV]; exact q⟩) (fun z => nomatch z) (fun _ => ?_)
    refine seq_if (b := true) (fun Q q => ⟨_, rfl, rfl, _, rfl, by rw [dec_intV]; exact q⟩) (fun _ => ?_) (fun z => nomatch z)
    refine ⟨_, rfl, b, l, 4, rfl, by decide, by decide, k3.1, fun r H4 r0 r1 B4 kk4 => ⟨_, _, rfl, rfl, ?_⟩⟩
    have k4 := k3.trans ⟨B4, kk4⟩
    have eg4 := kk4 _ _ eg3 ngb
    dsimp only [gName]
    obtain ⟨m, hm⟩ : ∃ m : Nat, (1 + r).toNat = m := ⟨_, rfl⟩
    have frm_w : Frm 3 (wide2 m) := ⟨by show 4 ≤ 99; decide, all_mem4 (OkS.frm (i := 0) (M := 0) ok_q) (OkS.frm (i := 0) (M := 0) ok_q) (OkS.frm (i := 0) (M := 0) ok_a) ⟨by rw [List.length_replicate]; omega, fun s hs => by rw [List.eq_of_mem_replicate hs]; exact OkS.frm (i := 0) (M := 0) ok_a⟩⟩
    have rep1 : ∀ {H1 : Hp} {p1 : Addr} {Q' : VK}, H1 p1 = none → (∀ p H', Same H1 H' → H' p = some (.tup (List.replicate m (.ref g))) → Q' (.ref p) H') → rRepTA K (.ref p1) (.int (1 + r)) (upd H1 p1 (.tup [.ref g])) Q' := fun {H1 p1 Q'} h1 q' => by
      by_cases c : r = 0
      · left
        refine ⟨p1, [.ref g], rfl, by rw [c]; rfl, SqT.of upd_same, q' p1 _ (Same.new h1) ?_⟩
        rw [show m = 1 by omega]
        exact upd_same
      · right
        exact ⟨p1, 1 + r, [.ref g], rfl, rfl, SqT.of upd_same, (fun z => nomatch z), by omega, by omega, (by show 1 ≤ 1000; decide), fun p2 h2 => by
          rw [hm, rep_flat1]
          exact q' p2 _ ((Same.new h1).trans (Same.new h2)) upd_same⟩
    refine ⟨_, rfl, (by show 1 ≤ sizeLine; decide), fun pA1 hA1 => ⟨pA1, 4, [.ref g], rfl, rfl, SqT.of upd_same, (fun z => nomatch z), by decide, by decide, (by show 1 ≤ 1000; decide), fun pB1 hB1 => ⟨sz2, fun t1 hC1 => ?_⟩⟩⟩
    obtain ⟨s5, a1⟩ := all4 hA1 hB1 hC1 eg4
    generalize upd (upd (upd H4 pA1 (.tup [.ref g])) pB1 (.tup (List.replicate (4 : Int).toNat [V.ref g]).flatten)) t1 (.tup [.str "all", .ref pB1]) = H5 at s5 a1
    refine ⟨_, rfl, (by show 1 ≤ sizeLine; decide), fun pA2 hA2 => ⟨pA2, 4, [.ref g], rfl, rfl, SqT.of upd_same, (fun z => nomatch z), by decide, by decide, (by show 1 ≤ 1000; decide), fun pB2 hB2 => ⟨sz2, fun t2 hC2 => ?_⟩⟩⟩
    obtain ⟨s6, a2⟩ := all4 hA2 hB2 hC2 (s5 _ _ eg4)
    generalize upd (upd (upd H5 pA2 (.tup [.ref g])) pB2 (.tup (List.replicate (4 : Int).toNat [V.ref g]).flatten)) t2 (.tup [.str "all", .ref pB2]) = H6 at s6 a2
    refine ⟨_, rfl, _, rfl, (by show 1 ≤ sizeLine; decide), fun x0 hx0 => ⟨_, rfl, ?_⟩⟩
    refine rep1 hx0 fun x1 H7 s7 e7 => ?_
    refine ⟨sz2, fun t4 ht4 => ⟨(by show 4 ≤ sizeLine; decide), fun pin hpin => ⟨sz2, fun pw hpw => ?_⟩⟩⟩
    have z1 := Same.new (o := .tup [.str "all", .ref x1]) ht4
    have z2 := Same.new (o := .tup [.ref t1, .ref t2, .ref g, .ref t4]) hpin
    have z3 := Same.new (o := .tup [.str "all", .ref pin]) hpw
    have z := (z1.trans z2).trans z3
    have sw := ((s5.trans s6).trans s7).trans z
    have hw : SAt (upd (upd (upd H7 t4 (.tup [.str "all", .ref x1])) pin (.tup [.ref t1, .ref t2, .ref g, .ref t4])) pw (.tup [.str "all", .ref pin])) 3 (wide2 m) (.ref pw) :=
      ⟨pw, pin, _, rfl, upd_same, z3 _ _ upd_same, .cons (SAt.keep (Same.tupK ((s6.trans s7).trans z)) _ _ _ a1) (.cons (SAt.keep (Same.tupK (s7.trans z)) _ _ _ a2) (.cons (step (sw _ _ eg4)) (.cons ⟨t4, x1, _, rfl, (z2.trans z3) _ _ upd_same, z _ _ e7, paired_rep (step (sw _ _ eg4)) m⟩ .nil)))⟩
    have k5 := k4.same sw
    generalize upd (upd (upd H7 t4 (.tup [.str "all", .ref x1])) pin (.tup [.ref t1, .ref t2, .ref g, .ref t4])) pw (.tup [.str "all", .ref pin]) = H5' at hw k5
    dsimp only [gName]
    refine ⟨_, rfl, _, rfl, ((j : Nat) : Int), rfl, sl_any (k5.tup B _ _ epa) fun p1 Ha sa ea => ⟨_, rfl, (by show 1 ≤ sizeLine; decide), fun t1 ht1 => cat_any (Same.new ht1 _ _ ea) upd_same ?_ fun p2 Hb sb eb => ?_⟩⟩
    · rw [cut_to, List.length_take]
      show min j pvs.length + 1 ≤ 1000
      omega
    have sab := sa.trans ((Same.new ht1).trans sb)
    refine ⟨_, rfl, _, rfl, _, _, rfl, rfl, _, rfl, ?_⟩
    dsimp only [tNoPart]
    refine sl_any (sab _ _ (k5.tup B _ _ epa)) fun p3 Hc sc ec => cat_any (sc _ _ eb) ec ?_ fun p4 Hd sd ed => ?_
    · rw [cut_to, show ((j : Nat) : Int) + 1 = ((j + 1 : Nat) : Int) by omega, cut_from, List.length_append, List.length_take, List.length_drop, List.length_singleton]
      omega
    rw [cut_to, show ((j : Nat) : Int) + 1 = ((j + 1 : Nat) : Int) by omega, cut_from] at ed
    have sad := (sab.trans sc).trans sd
    refine ⟨_, rfl, (by show 1 ≤ sizeLine; decide), fun z2 hz2 => ⟨sz2, fun q0 hq0 => ⟨sz2, fun rr hrr => ?_⟩⟩⟩
    have se := (Same.new (o := .tup [.int 3]) hz2).trans ((Same.new (o := .tup [.int ((j : Nat) : Int), .ref z2]) hq0).trans (Same.new (o := .tup [.ref p4, .ref q0]) hrr))
    have kf := (k5.same sad).same se
    have sall := sad.trans se
    refine q rr q0 z2 (.ref p4) j [3] _ upd_same (Same.new hrr _ _ upd_same) (((Same.new hq0).trans (Same.new hrr)) _ _ upd_same) (by decide) (by decide) (by omega) (.inl ⟨p4, setL ps j (wide2 m), _, rfl, se _ _ ed, ?_, ?_, ?_, badP_set hP hj fb_wide⟩) kf
    · exact paired_setL (frm_list (paired_imp pp fun _ _ h => SAt.keep (kf.tup B) _ _ _ h) (ok_mem hP)) j (FrmR.new 2 (SAt.keep (Same.tupK sall) _ _ _ hw) frm_w)
    · rw [setL_len hj]; exact h0
    · rw [setL_len hj]; omega
  · refine seq_if (b := false) (fun Q q => ⟨_, rfl, rfl, _, rfl, by rw [dec_intV]; exact q⟩) (fun z => nomatch z) (fun _ => ?_)
    refine seq_if (b := false) (fun Q q => ⟨_, rfl, rfl, _, rfl, by rw [dec_intV]; exact q⟩) (fun z => nomatch z) (fun _ => ?_)
    refine seq_if (b := false) (fun Q q => ⟨_, rfl, rfl, _, rfl, by rw [dec_intV]; exact q⟩) (fun z => nomatch z) (fun _ => ?_)
    refine ⟨_, rfl, rfl, _, rfl, ?_⟩
    rw [dec_intV, show decide ((3 : Int) = 3) = true from rfl]
    refine iteT ⟨_, rfl, b, l, 2, rfl, by decide, by decide, k3.1, fun r H4 r0 r1 B4 kk4 => ⟨rfl, _, rfl, ?_⟩⟩
    have k4 := k3.trans ⟨B4, kk4⟩
    have eg4 := kk4 _ _ eg3 ngb
    rw [dec_intV]
    by_cases c : r = 0
    · rw [decide_eq_true c]
      refine iteT ⟨sz2, fun u1 h1 => ⟨sz2, fun u2 h2 => ⟨sz2, fun up hup => ⟨sz2, fun tw htw => ⟨_, rfl, (by show 3 ≤ sizeLine; decide), fun bh hbh => ⟨(by show 3 ≤ sizeLine; decide), fun sg hsg => ⟨_, _, rfl, ?_⟩⟩⟩⟩⟩⟩⟩
      have s1 := Same.new (o := .tup [.str "use", .int 1]) h1
      have s2 := Same.new (o := .tup [.str "use", .int 1]) h2
      have s3 := Same.new (o := .tup [.ref u1, .ref u2]) hup
      have s4 := Same.new (o := .tup [.str "all", .ref up]) htw
      have s5 := Same.new (o := .tup [.str "behind", .str "b", .ref g]) hbh
      have s6 := Same.new (o := .tup [.str "seen", .str "a", .ref bh]) hsg
      have s46 := (s4.trans s5).trans s6
      have sA := (((s1.trans s2).trans s3).trans s46)
      have hT := (⟨tw, up, [.ref u1, .ref u2], rfl, (s5.trans s6) _ _ upd_same, s46 _ _ upd_same, .cons ⟨u1, rfl, ((s2.trans s3).trans s46) _ _ upd_same⟩ (.cons ⟨u2, rfl, (s3.trans s46) _ _ upd_same⟩ .nil)⟩ : SAt _ 2 twiceS (.ref tw))
      have hG := (⟨sg, _, rfl, upd_same, ⟨bh, _, rfl, s6 _ _ upd_same, step (sA _ _ eg4)⟩⟩ : SAt _ 3 gatesS (.ref sg))
      have eg5 := sA _ _ eg4
      have k5 := k4.same sA
      generalize upd (upd (upd (upd (upd (upd H4 u1 _) u2 _) up _) tw _) bh _) sg _ = H5 at hT hG eg5 k5
      dsimp only [gName]
      refine ⟨_, rfl, ?_⟩
      refine ⟨_, rfl, (by show 1 ≤ sizeLine; decide), fun pA3 hA3 => ⟨pA3, 4, [.ref g], rfl, rfl, SqT.of upd_same, (fun z => nomatch z), by decide, by decide, (by show 1 ≤ 1000; decide), fun pB3 hB3 => ⟨sz2, fun t4 hC3 => ?_⟩⟩⟩
      obtain ⟨s7, a4⟩ := all4 hA3 hB3 hC3 eg5
      generalize upd (upd (upd H5 pA3 (.tup [.ref g])) pB3 (.tup (List.replicate (4 : Int).toNat [V.ref g]).flatten)) t4 (.tup [.str "all", .ref pB3]) = H6 at s7 a4
      refine ⟨_, rfl, sz2, fun L hL => ?_⟩
      have s8 := Same.new (o := .lst [.ref t4, .ref sg]) hL
      have k6 := k5.same (s7.trans s8)
      have nL : L ∉ [b, l] := (k5.same s7).1.nin hL
      refine ⟨_, rfl, b, l, 2, rfl, by decide, by decide, k6.1, fun r2 H7 q0 q1 B7 kk7 => ?_⟩
      have k7 := k6.trans ⟨B7, kk7⟩
      have tk7 : TupK H5 H7 := (Same.tupK (s7.trans s8)).trans (BK.tup k6.1 ⟨B7, kk7⟩)
      have eL := kk7 _ _ upd_same nL
      have hr2 : r2 = 0 ∨ r2 = 1 := by omega
      have a47 : SAt H7 2 qS (.ref t4) := SAt.keep ((Same.tupK s8).trans (BK.tup k6.1 ⟨B7, kk7⟩)) _ _ _ a4
      have fT : Frm 2 twiceS := ⟨by show 2 ≤ 99; decide, fun s hs => by
        have e : s = .use 1 := by
          simp only [List.mem_cons, List.not_mem_nil, or_false, or_self] at hs
          exact hs
        rw [e]; exact True.intro⟩
      rcases hr2 with rfl | rfl
      · refine ⟨L, _, 0, .ref t4, rfl, rfl, SqL.of eL, at0, sz2, fun pp' hp' => ?_⟩
        have s9 := Same.new (o := .tup [.ref tw, .ref t4]) hp'
        refine fin (tC (.int 2)) 2 (.ref pp') _ _ (fun _ z => z) (by decide) (.inl ⟨pp', [twiceS, qS], _, rfl, upd_same, .cons (FrmR.new 1 (SAt.keep (tk7.trans (Same.tupK s9)) _ _ _ hT) fT) (.cons (FrmR.new 1 (SAt.keep (Same.tupK s9) _ _ _ a47) (OkS.frm (i := 0) (M := 0) ok_q)) .nil), by decide, by decide, badP_twice1⟩) (k7.same s9)
      · refine ⟨L, _, 1, .ref sg, rfl, rfl, SqL.of eL, at1, sz2, fun pp' hp' => ?_⟩
        have s9 := Same.new (o := .tup [.ref tw, .ref sg]) hp'
        refine fin (tC (.int 2)) 2 (.ref pp') _ _ (fun _ z => z) (by decide) (.inl ⟨pp', [twiceS, gatesS], _, rfl, upd_same, .cons (FrmR.new 1 (SAt.keep (tk7.trans (Same.tupK s9)) _ _ _ hT) fT) (.cons (FrmR.new 2 (SAt.keep (tk7.trans (Same.tupK s9)) _ _ _ hG) ⟨wa, wb, OkS.frm (i := 0) (M := 0) ok_a⟩) .nil), by decide, by decide, badP_twice2⟩) (k7.same s9)
    · rw [decide_eq_false c]
      refine iteF ?_
      dsimp only [tNext]
      refine seq_if (b := true) (fun Q q => ⟨_, rfl, rfl, _, rfl, by rw [dec_intV]; exact q⟩) (fun _ => ?_) (fun z => nomatch z)
      refine ⟨_, rfl, (by show 1 ≤ sizeLine; decide), fun pA4 hA4 => ⟨pA4, 4, [.ref g], rfl, rfl, SqT.of upd_same, (fun z => nomatch z), by decide, by decide, (by show 1 ≤ 1000; decide), fun pB4 hB4 => ⟨sz2, fun t4 hC4 => ?_⟩⟩⟩
      obtain ⟨s5, a4⟩ := all4 hA4 hB4 hC4 eg4
      generalize upd (upd (upd H4 pA4 (.tup [.ref g])) pB4 (.tup (List.replicate (4 : Int).toNat [V.ref g]).flatten)) t4 (.tup [.str "all", .ref pB4]) = H5 at s5 a4
      refine ⟨(by show 1 ≤ sizeLine; decide), fun p1 h1 => ⟨p1, 2, [.ref t4], rfl, rfl, SqT.of upd_same, (fun z => nomatch z), by decide, by decide, (by show 1 ≤ 1000; decide), fun p2 h2 => ⟨sz2, fun w hw => ⟨(by show 1 ≤ sizeLine; decide), fun x1 hx1 => ⟨_, rfl, 1, rfl, ?_⟩⟩⟩⟩⟩
      have s6 := Same.new (o := .tup [.ref t4]) h1
      have s7 := Same.new (o := .tup (List.replicate (2 : Int).toNat [V.ref t4]).flatten) h2
      have s8 := Same.new (o := .tup [.str "all", .ref p2]) hw
      have s9 := Same.new (o := .tup [.ref w]) hx1
      have s69 := ((s6.trans s7).trans s8).trans s9
      have a49 := SAt.keep (Same.tupK s69) _ _ _ a4
      have hS := (⟨w, p2, [.ref t4, .ref t4], rfl, s9 _ _ upd_same, (s8.trans s9) _ _ upd_same, .cons a49 (.cons a49 .nil)⟩ : SAt _ 3 wideS (.ref w))
      have k5 := (k4.same s5).same s69
      have ex : upd (upd (upd (upd H5 p1 (.tup [.ref t4])) p2 (.tup (List.replicate (2 : Int).toNat [V.ref t4]).flatten)) w (.tup [.str "all", .ref p2])) x1 (.tup [.ref w]) x1 = some (.tup [.ref w]) := upd_same
      generalize upd (upd (upd (upd H5 p1 (.tup [.ref t4])) p2 (.tup (List.replicate (2 : Int).toNat [V.ref t4]).flatten)) w (.tup [.str "all", .ref p2])) x1 (.tup [.ref w]) = H6 at hS k5 ex
      dsimp only [tNoPart]
      refine sl_any (k5.tup B _ _ epa) fun p3 Ha sa ea => cat_any (sa _ _ ex) ea ?_ fun p4 Hb sb eb => ?_
      · rw [show (1 : Int) = ((1 : Nat) : Int) from rfl, cut_from, List.length_drop]
        show 1 + (pvs.length - 1) ≤ 1000
        omega
      rw [show (1 : Int) = ((1 : Nat) : Int) from rfl, cut_from] at eb
      have eb : Hb p4 = some (.tup (setL pvs 0 (.ref w))) := eb
      have kf := (k5.same sa).same sb
      refine fin (tVar 3) pvs.length (.ref p4) _ Hb (fun _ z => ⟨_, rfl, z⟩) (by omega) (.inl ⟨p4, setL ps 0 wideS, _, rfl, eb, ?_, ?_, ?_, by rw [← lpv]; exact badP_wide hP⟩) kf
      · exact paired_setL (frm_list (paired_imp pp fun _ _ h => SAt.keep (kf.tup B) _ _ _ h) (ok_mem hP)) 0 (FrmR.new _ (SAt.keep (Same.tupK (sa.trans sb)) _ _ _ hS) ⟨by show 2 ≤ 99; decide, fun s hs => by
        have e : s = qS := by
          simp only [List.mem_cons, List.not_mem_nil, or_false, or_self] at hs
          exact hs
        rw [e]; exact OkS.frm (i := 0) (M := 0) ok_q⟩)
      · rw [setL_len h0]; exact h0
      · rw [setL_len h0]; omega
  · refine seq_if (b := false) (fun Q q => ⟨_, rfl, rfl, _, rfl, by rw [dec_intV]; exact q⟩) (fun z => nomatch z) (fun _ => ?_)
    refine seq_if (b := false) (fun Q q => ⟨_, rfl, rfl, _, rfl, by rw [dec_intV]; exact q⟩) (fun z => nomatch z) (fun _ => ?_)
    refine seq_if (b := false) (fun Q q => ⟨_, rfl, rfl, _, rfl, by rw [dec_intV]; exact q⟩) (fun z => nomatch z) (fun _ => ?_)
    refine seq_if (b := false) (fun Q q => ⟨_, rfl, rfl, _, rfl, by rw [dec_intV]; exact iteF q⟩) (fun z => nomatch z) (fun _ => ?_)
    refine seq_if (b := false) (fun Q q => ⟨_, rfl, rfl, _, rfl, by rw [dec_intV]; exact q⟩) (fun z => nomatch z) (fun _ => ?_)
    refine seq_if (b := true) (fun Q q => ⟨_, rfl, rfl, _, rfl, by rw [dec_intV]; exact q⟩) (fun _ => ?_) (fun z => nomatch z)
    refine ⟨_, rfl, (by show 3 ≤ sizeLine; decide), fun e1 h1 => ⟨_, rfl, (by show 3 ≤ sizeLine; decide), fun e2 h2 => ⟨_, rfl, (by show 3 ≤ sizeLine; decide), fun e3 h3 => ⟨_, rfl, (by show 3 ≤ sizeLine; decide), fun e4 h4 => ⟨(by show 4 ≤ sizeLine; decide), fun L hL => ⟨L, _, rfl, .inl ⟨SqL.of upd_same, fun T hT => ⟨sz2, fun w hw => ?_⟩⟩⟩⟩⟩⟩⟩⟩
    have s1 := Same.new (o := .tup [.str "seen", .str "b", .ref g]) h1
    have s2 := Same.new (o := .tup [.str "behind", .str "b", .ref g]) h2
    have s3 := Same.new (o := .tup [.str "seen", .str "a", .ref g]) h3
    have s4 := Same.new (o := .tup [.str "behind", .str "a", .ref g]) h4
    have s5 := Same.new (o := .lst [.ref e1, .ref e2, .ref e3, .ref e4]) hL
    have s6 := Same.new (o := .tup [.ref e1, .ref e2, .ref e3, .ref e4]) hT
    have s7 := Same.new (o := .tup [.str "all", .ref T]) hw
    have s47 := ((s5.trans s6).trans s7)
    have sA := (((s1.trans s2).trans s3).trans s4).trans s47
    have st := step (d := 1) (sA _ _ eg3)
    have hS0 := (⟨w, T, [.ref e1, .ref e2, .ref e3, .ref e4], rfl, upd_same, s7 _ _ upd_same, .cons ⟨e1, _, rfl, (((s2.trans s3).trans s4).trans s47) _ _ upd_same, st⟩ (.cons ⟨e2, _, rfl, ((s3.trans s4).trans s47) _ _ upd_same, st⟩ (.cons ⟨e3, _, rfl, (s4.trans s47) _ _ upd_same, st⟩ (.cons ⟨e4, _, rfl, s47 _ _ upd_same, st⟩ .nil)))⟩ : SAt _ 4 gateS (.ref w))
    have k4 := k3.same sA
    generalize upd (upd (upd (upd (upd (upd (upd H3 e1 _) e2 _) e3 _) e4 _) L _) T _) w _ = H6' at hS0 k4
    dsimp only [gName]
    refine ⟨_, rfl, (by show 1 ≤ sizeLine; decide), fun x1 hx1 => ⟨_, rfl, 1, rfl, ?_⟩⟩
    have s9 := Same.new (o := .tup [.ref w]) hx1
    have hS := SAt.keep (Same.tupK s9) 4 gateS (.ref w) hS0
    have k5 := k4.same s9
    have ex : upd H6' x1 (.tup [.ref w]) x1 = some (.tup [.ref w]) := upd_same
    generalize upd H6' x1 (.tup [.ref w]) = H6 at hS k5 ex
    dsimp only [tNoPart]
    refine sl_any (k5.tup B _ _ epa) fun p3 Ha sa ea => cat_any (sa _ _ ex) ea ?_ fun p4 Hb sb eb => ?_
    · rw [show (1 : Int) = ((1 : Nat) : Int) from rfl, cut_from, List.length_drop]
      show 1 + (pvs.length - 1) ≤ 1000
      omega
    rw [show (1 : Int) = ((1 : Nat) : Int) from rfl, cut_from] at eb
    have eb : Hb p4 = some (.tup (setL pvs 0 (.ref w))) := eb
    have kf := (k5.same sa).same sb
    refine fin (tVar 3) pvs.length (.ref p4) _ Hb (fun _ z => ⟨_, rfl, z⟩) (by omega) (.inl ⟨p4, setL ps 0 gateS, _, rfl, eb, ?_, ?_, ?_, by rw [← lpv]; exact badP_gate hP⟩) kf
    · exact paired_setL (frm_list (paired_imp pp fun _ _ h => SAt.keep (kf.tup B) _ _ _ h) (ok_mem hP)) 0 (FrmR.new _ (SAt.keep (Same.tupK (sa.trans sb)) _ _ _ hS) ⟨by show 4 ≤ 99; decide, all_mem4 ⟨wb, OkS.frm (i := 0) (M := 0) ok_a⟩ ⟨wb, OkS.frm (i := 0) (M := 0) ok_a⟩ ⟨wa, OkS.frm (i := 0) (M := 0) ok_a⟩ ⟨wa, OkS.frm (i := 0) (M := 0) ok_a⟩⟩)
    · rw [setL_len h0]; exact h0
    · rw [setL_len h0]; omega
  · refine seq_if (b := false) (fun Q q => ⟨_, rfl, rfl, _, rfl, by rw [dec_intV]; exact q⟩) (fun z => nomatch z) (fun _ => ?_)
    refine seq_if (b := false) (fun Q q => ⟨_, rfl, rfl, _, rfl, by rw [dec_intV]; exact q⟩) (fun z => nomatch z) (fun _ => ?_)
    refine seq_if (b := false) (fun Q q => ⟨_, rfl, rfl, _, rfl, by rw [dec_intV]; exact q⟩) (fun z => nomatch z) (fun _ => ?_)
    refine seq_if (b := false) (fun Q q => ⟨_, rfl, rfl, _, rfl, by rw [dec_intV]; exact iteF q⟩) (fun z => nomatch z) (fun _ => ?_)
    refine seq_if (b := false) (fun Q q => ⟨_, rfl, rfl, _, rfl, by rw [dec_intV]; exact q⟩) (fun z => nomatch z) (fun _ => ?_)
    refine seq_if (b := false) (fun Q q => ⟨_, rfl, rfl, _, rfl, by rw [dec_intV]; exact q⟩) (fun z => nomatch z) (fun _ => ?_)
    refine ⟨Nat.zero_le _, fun e0 he0 => ⟨_, rfl, pa, pvs, rfl, .inr (SqT.of ((Same.tupK (Same.new he0)) _ _ (k3.tup B _ _ epa))), fun ls hls => ⟨(by show 5 ≤ sizeLine; decide), fun L hL => ?_⟩⟩⟩
    have s1 := Same.new (o := .tup []) he0
    have s2 := Same.new (o := .lst pvs) hls
    have s3 := Same.new (o := .lst [.ref e0, .non, .ref ls, .str "paper", .int 5]) hL
    have k4 := k3.same ((s1.trans s2).trans s3)
    have nL : L ∉ [b, l] := (k3.same (s1.trans s2)).1.nin hL
    have nls : ls ∉ [b, l] := (k3.same s1).1.nin hls
    refine ⟨_, rfl, b, l, 5, rfl, by decide, by decide, k4.1, fun r H5 q0 q1 B5 kk5 => ?_⟩
    have k5 := k4.trans ⟨B5, kk5⟩
    have eL := kk5 _ _ upd_same nL
    have e0' : H5 e0 = some (.tup []) := BK.tup k4.1 ⟨B5, kk5⟩ _ _ ((s2.trans s3) _ _ upd_same)
    have els : H5 ls = some (.lst pvs) := kk5 _ _ (s3 _ _ upd_same) nls
    have rs : r = 0 ∨ r = 1 ∨ r = 2 ∨ r = 3 ∨ r = 4 := by omega
    rcases rs with rfl | rfl | rfl | rfl | rfl
    · exact ⟨L, _, 0, .ref e0, rfl, rfl, SqL.of eL, rfl, fin (tC (.int 0)) 0 _ _ H5 (fun _ z => z) (by decide) (.inr ⟨.inr (.inr (.inr (.inr ⟨e0, rfl, e0'⟩))), rfl, rfl⟩) k5⟩
    · exact ⟨L, _, 1, .non, rfl, rfl, SqL.of eL, rfl, fin (tC (.int 0)) 0 _ _ H5 (fun _ z => z) (by decide) (.inr ⟨.inl rfl, rfl, rfl⟩) k5⟩
    · exact ⟨L, _, 2, .ref ls, rfl, rfl, SqL.of eL, rfl, fin (tC (.int 0)) 0 _ _ H5 (fun _ z => z) (by decide) (.inr ⟨.inr (.inr (.inr (.inl ⟨ls, _, rfl, els⟩))), rfl, rfl⟩) k5⟩
    · exact ⟨L, _, 3, .str "paper", rfl, rfl, SqL.of eL, rfl, fin (tC (.int 0)) 0 _ _ H5 (fun _ z => z) (by decide) (.inr ⟨.inr (.inl ⟨_, rfl⟩), rfl, rfl⟩) k5⟩
    · exact ⟨L, _, 4, .int 5, rfl, rfl, SqL.of eL, rfl, fin (tC (.int 0)) 0 _ _ H5 (fun _ z => z) (by decide) (.inr ⟨.inr (.inr (.inl ⟨_, rfl⟩)), rfl, rfl⟩) k5⟩
end
end MS
end
section
set_option maxRecDepth 100000
set_option maxHeartbeats 4000000
namespace MS
open PySem L2
open LamX XQs XLs
/-! ### all that is handed a paper refuses it -/
abbrev s_made : Stmt := topS 77
abbrev nm_made : List Str := ["paper", "words", "spare", "leads", "nexts", "points", "classes", "marks", "table", "number", "state", "step", "later"]
theorem sc_made : FnScope nm_made ["paper"] (defScope s_made) := ⟨rfl, rfl, rfl, by decide +kernel, rfl, by decide +kernel, by decide +kernel⟩
abbrev s_parted : Stmt := topS 68
abbrev nm_parted : List Str := ["one", "other", "leads", "nexts", "other_leads", "other_nexts", "both", "points"]
theorem sc_parted : FnScope nm_parted ["one", "other"] (defScope s_parted) := ⟨rfl, rfl, rfl, by decide +kernel, rfl, by decide +kernel, by decide +kernel⟩
abbrev s_span : Stmt := topS 69
abbrev nm_span : List Str := ["paper", "work", "leads", "nexts", "points", "least", "most"]
theorem sc_span : FnScope nm_span ["paper", "work"] (defScope s_span) := ⟨rfl, rfl, rfl, by decide +kernel, rfl, by decide +kernel, by decide +kernel⟩
abbrev s_earnable : Stmt := topS 71
abbrev nm_earnable : List Str := ["paper", "leads", "nexts", "firsts", "lead", "place", "points", "where", "wheres"]
theorem sc_earnable : FnScope nm_earnable ["paper"] (defScope s_earnable) := ⟨rfl, rfl, rfl, by decide +kernel, rfl, by decide +kernel, by decide +kernel⟩
abbrev s_written : Stmt := topS 80
abbrev nm_written : List Str := ["paper", "scheme"]
theorem sc_written : FnScope nm_written ["paper"] (defScope s_written) := ⟨rfl, rfl, rfl, by decide +kernel, rfl, by decide +kernel, by decide +kernel⟩
def spBad2 (C : Addr) : Sp := fun vs H _ E => ∃ x y n path, vs = [x, y] ∧ BadT H x n path ∧ RaisedP C n path H E
/-- the other one of two is bad -/
def spBadO (C : Addr) : Sp := fun vs H _ E => ∃ a v x n path, vs = [.ref a, x] ∧ H a = some (.tup [v]) ∧ SAt H 1 sA v ∧ BadT H x n path ∧ RaisedP C n path H E
theorem badP_one : badP [sA] = none := by
  have n1 : fbL 1 0 [sA] = none := rfl
  rw [badP_cnt (ps := [sA]) n1, if_neg (by
    have e1 : cnts true 0 [sA] 0 = 1 := rfl
    have e2 : cnts false 0 [sA] 0 = 0 := rfl
    rw [e1, e2]
    decide)]
section
variable {P : Program} {w : World} {K : PySem.W.Frag} {mg : Str → Option Value} {base : Heap}
theorem bad_words_of (T : PTx w K mg) (hms : ∀ a, mg "SHAPES" = some (.ref a) → KMiss K w a "Step") (RP : Rsr2 P w K mg base) (DP : DPaper K mg) (D : Def K mg "words_of" s_words_of ["paper"]) : FnOk P w K mg base (L2.CX P w) 6 D.f D.fd ["paper"] (spBad RP.C) := by
  have GC := ok_check_bad T hms RP DP
  refine D.okX sc_words_of (fun vs H Q E h => ?_) (fun cdv A outer s H vs Q E hr h => ?_)
  · obtain ⟨x, n, path, rfl, hb, hr'⟩ := h
    rfl
  obtain ⟨x, n, path, rfl, hb, hr'⟩ := h
  have tk : L2.Takes (cxOf (L2.CX P w) P w K mg base ["paper"] "words_of" (defScope s_words_of) D.f cdv A outer s H E) (fun cls d _ H' => E cls d H') := L2.takes_of rfl rfl rfl rfl
  refine ⟨_, pss_cons (ps_expr (pcallX (E := E) DP.DC GC hr (L2.passes_call tk (fun _ _ _ _ h => h)) (pa_cons (pv 0) pa_nil))) pss_never, ?_⟩
  exact ⟨_, rfl, x, n, path, rfl, hb, hr'⟩
theorem bad_earnable (T : PTx w K mg) (hms : ∀ a, mg "SHAPES" = some (.ref a) → KMiss K w a "Step") (RP : Rsr2 P w K mg base) (DP : DPaper K mg) (D : Def K mg "earnable" s_earnable ["paper"]) : FnOk P w K mg base (L2.CX P w) 6 D.f D.fd ["paper"] (spBad RP.C) := by
  have GC := ok_check_bad T hms RP DP
  refine D.okX sc_earnable (fun vs H Q E h => ?_) (fun cdv A outer s H vs Q E hr h => ?_)
  · obtain ⟨x, n, path, rfl, hb, hr'⟩ := h
    rfl
  obtain ⟨x, n, path, rfl, hb, hr'⟩ := h
  have tk : L2.Takes (cxOf (L2.CX P w) P w K mg base nm_earnable "earnable" (defScope s_earnable) D.f cdv A outer s H E) (fun cls d _ H' => E cls d H') := L2.takes_of rfl rfl rfl rfl
  refine ⟨_, pss_cons (ps_expr (pcallX (E := E) DP.DC GC hr (L2.passes_call tk (fun _ _ _ _ h => h)) (pa_cons (pv 0) pa_nil))) pss_never, ?_⟩
  exact ⟨_, rfl, x, n, path, rfl, hb, hr'⟩
theorem bad_written (T : PTx w K mg) (hms : ∀ a, mg "SHAPES" = some (.ref a) → KMiss K w a "Step") (RP : Rsr2 P w K mg base) (DP : DPaper K mg) (D : Def K mg "written" s_written ["paper"]) : FnOk P w K mg base (L2.CX P w) 6 D.f D.fd ["paper"] (spBad RP.C) := by
  have GC := ok_check_bad T hms RP DP
  refine D.okX sc_written (fun vs H Q E h => ?_) (fun cdv A outer s H vs Q E hr h => ?_)
  · obtain ⟨x, n, path, rfl, hb, hr'⟩ := h
    rfl
  obtain ⟨x, n, path, rfl, hb, hr'⟩ := h
  have tk : L2.Takes (cxOf (L2.CX P w) P w K mg base nm_written "written" (defScope s_written) D.f cdv A outer s H E) (fun cls d _ H' => E cls d H') := L2.takes_of rfl rfl rfl rfl
  refine ⟨_, pss_cons (ps_expr (pcallX (E := E) DP.DC GC hr (L2.passes_call tk (fun _ _ _ _ h => h)) (pa_cons (pv 0) pa_nil))) pss_never, ?_⟩
  exact ⟨_, rfl, x, n, path, rfl, hb, hr'⟩
theorem bad_earned (T : PTx w K mg) (hms : ∀ a, mg "SHAPES" = some (.ref a) → KMiss K w a "Step") (RP : Rsr2 P w K mg base) (DP : DPaper K mg) (D : Def K mg "earned" s_earned ["paper", "work"]) : FnOk P w K mg base (L2.CX P w) 6 D.f D.fd ["paper", "work"] (spBad2 RP.C) := by
  have GC := ok_check_bad T hms RP DP
  refine D.okX sc_earned (fun vs H Q E h => ?_) (fun cdv A outer s H vs Q E hr h => ?_)
  · obtain ⟨x, y, n, path, rfl, hb, hr'⟩ := h
    rfl
  obtain ⟨x, y, n, path, rfl, hb, hr'⟩ := h
  have tk : L2.Takes (cxOf (L2.CX P w) P w K mg base ["paper", "work"] "earned" (defScope s_earned) D.f cdv A outer s H E) (fun cls d _ H' => E cls d H') := L2.takes_of rfl rfl rfl rfl
  refine ⟨_, pss_cons (ps_expr (pcallX (E := E) DP.DC GC hr (L2.passes_call tk (fun _ _ _ _ h => h)) (pa_cons (pv 0) pa_nil))) pss_never, ?_⟩
  exact ⟨_, rfl, x, n, path, rfl, hb, hr'⟩
theorem bad_span (T : PTx w K mg) (hms : ∀ a, mg "SHAPES" = some (.ref a) → KMiss K w a "Step") (RP : Rsr2 P w K mg base) (DP : DPaper K mg) (D : Def K mg "span" s_span ["paper", "work"]) : FnOk P w K mg base (L2.CX P w) 6 D.f D.fd ["paper", "work"] (spBad2 RP.C) := by
  have GC := ok_check_bad T hms RP DP
  refine D.okX sc_span (fun vs H Q E h => ?_) (fun cdv A outer s H vs Q E hr h => ?_)
  · obtain ⟨x, y, n, path, rfl, hb, hr'⟩ := h
    rfl
  obtain ⟨x, y, n, path, rfl, hb, hr'⟩ := h
  have tk : L2.Takes (cxOf (L2.CX P w) P w K mg base nm_span "span" (defScope s_span) D.f cdv A outer s H E) (fun cls d _ H' => E cls d H') := L2.takes_of rfl rfl rfl rfl
  refine ⟨_, pss_cons (ps_expr (pcallX (E := E) DP.DC GC hr (L2.passes_call tk (fun _ _ _ _ h => h)) (pa_cons (pv 0) pa_nil))) pss_never, ?_⟩
  exact ⟨_, rfl, x, n, path, rfl, hb, hr'⟩
theorem bad_parted (T : PTx w K mg) (hms : ∀ a, mg "SHAPES" = some (.ref a) → KMiss K w a "Step") (RP : Rsr2 P w K mg base) (DP : DPaper K mg) (D : Def K mg "parted" s_parted ["one", "other"]) : FnOk P w K mg base (L2.CX P w) 6 D.f D.fd ["one", "other"] (spBad2 RP.C) := by
  have GC := ok_check_bad T hms RP DP
  refine D.okX sc_parted (fun vs H Q E h => ?_) (fun cdv A outer s H vs Q E hr h => ?_)
  · obtain ⟨x, y, n, path, rfl, hb, hr'⟩ := h
    rfl
  obtain ⟨x, y, n, path, rfl, hb, hr'⟩ := h
  have tk : L2.Takes (cxOf (L2.CX P w) P w K mg base nm_parted "parted" (defScope s_parted) D.f cdv A outer s H E) (fun cls d _ H' => E cls d H') := L2.takes_of rfl rfl rfl rfl
  refine ⟨_, pss_cons (ps_expr (pcallX (E := E) DP.DC GC hr (L2.passes_call tk (fun _ _ _ _ h => h)) (pa_cons (pv 0) pa_nil))) pss_never, ?_⟩
  exact ⟨_, rfl, x, n, path, rfl, hb, hr'⟩
theorem DefM.okX {P : Program} {w : World} {K : PySem.W.Frag} {mg : Str → Option Value} {base : Heap} {C : Addr} {m x : Str} {st : Stmt} {ps N : List Str} {k : Nat} {sp : Sp} (D : DefM K C m x st ps) (S : FnScope N ps (defScope st)) (len : ∀ vs H Q E, sp vs H Q E → vs.length = ps.length)
    (hbody : ∀ (cdv : Value) (A : Around) (outer : List Env) (s : Shared) (H : Hp) (vs : List V) (Q : VK) (E : XK), Room k (A.deeper (PyProof.Rows.envOfC x (defScope st) s.heap.objs.size D.f cdv)) → sp vs H Q E →
      ∃ t, PSs (cxOf (L2.CX P w) P w K mg base N x (defScope st) D.f cdv A outer s H E) (defBody st) t ∧ t { nx := fun _ H' => Q .non H', rt := Q } (start N vs) H) : FnOk P w K mg base (L2.CX P w) (k + 1) D.f D.fd ps sp := D.F.ok S len hbody
theorem bad_partedO (T : PTx w K mg) (hms : ∀ a, mg "SHAPES" = some (.ref a) → KMiss K w a "Step") (RP : Rsr2 P w K mg base) (DP : DPaper K mg) (D : Def K mg "parted" s_parted ["one", "other"]) : FnOk P w K mg base (L2.CX P w) 6 D.f D.fd ["one", "other"] (spBadO RP.C) := by
  have GC := fn_or (ok_check_bad T hms RP DP) (ok_check_paperX T hms RP DP)
  refine D.okX sc_parted (fun vs H Q E h => ?_) (fun cdv A outer s H vs Q E hr h => ?_)
  · obtain ⟨a, v, x, n, path, rfl, _⟩ := h
    rfl
  obtain ⟨a, v, x, n, path, rfl, ea, hv, hb, hr'⟩ := h
  have tk : L2.Takes (cxOf (L2.CX P w) P w K mg base nm_parted "parted" (defScope s_parted) D.f cdv A outer s H E) (fun cls d _ H' => E cls d H') := L2.takes_of rfl rfl rfl rfl
  refine ⟨_, pss_cons (ps_expr (pcallX (E := E) DP.DC GC hr (L2.passes_call tk (fun _ _ _ _ h => h)) (pa_cons (pv 0) pa_nil))) (pss_cons (ps_expr (pcallX (E := E) DP.DC GC hr (L2.passes_call tk (fun _ _ _ _ h => h)) (pa_cons (pv 1) pa_nil))) pss_never), ?_⟩
  refine ⟨_, rfl, .inr ⟨a, [sA], [v], rfl, ea, .cons (FrmR.new 0 hv (OkS.frm (i := 0) (M := 0) ok_a)) .nil, by decide, by decide, fun n wh e => ?_, fun _ H' s => ?_⟩⟩
  · rw [badP_one] at e
    cases e
  · exact ⟨_, rfl, .inl ⟨x, n, path, rfl, hb.same s, hr'.from s⟩⟩
theorem bad_marked (T : PTx w K mg) (hms : ∀ a, mg "SHAPES" = some (.ref a) → KMiss K w a "Step") (RP : Rsr2 P w K mg base) (DP : DPaper K mg) (DE : Def K mg "earned" s_earned ["paper", "work"]) (DPt : Def K mg "points_of" s_points_of ["rows"]) (D : Def K mg "marked" s_marked ["paper", "work"]) : FnOk P w K mg base (L2.CX P w) 7 D.f D.fd ["paper", "work"] (spBad2 RP.C) := by
  have GE := bad_earned T hms RP DP DE
  have GPt : FnOk P w K mg base CX0 1 DPt.f DPt.fd ["rows"] spPoints := ok_points_of T DPt
  refine D.okX sc_marked (fun vs H Q E h => ?_) (fun cdv A outer s H vs Q E hr h => ?_)
  · obtain ⟨x, y, n, path, rfl, hb, hr'⟩ := h
    rfl
  obtain ⟨x, y, n, path, rfl, hb, hr'⟩ := h
  have hr1 : Room 1 _ := hr.mono (by decide)
  have tk : L2.Takes (cxOf (L2.CX P w) P w K mg base ["paper", "work"] "marked" (defScope s_marked) D.f cdv A outer s H E) (fun cls d _ H' => E cls d H') := L2.takes_of rfl rfl rfl rfl
  refine ⟨_, pss_one (ps_ret (pcall DPt GPt hr1 (pa_cons (pcallX (E := E) DE GE hr (L2.passes_call tk (fun _ _ _ _ h => h)) (pa_cons (pv 0) (pa_cons (pv 1) pa_nil))) pa_nil))), ?_⟩
  exact ⟨_, rfl, _, rfl, x, y, n, path, rfl, hb, hr'⟩
theorem bad_made (T : PTx w K mg) (hms : ∀ a, mg "SHAPES" = some (.ref a) → KMiss K w a "Step") (RP : Rsr2 P w K mg base) (DP : DPaper K mg) (DW : Def K mg "words_of" s_words_of ["paper"]) (D : Def K mg "made" s_made ["paper"]) : FnOk P w K mg base (L2.CX P w) 7 D.f D.fd ["paper"] (spBad RP.C) := by
  have GW := bad_words_of T hms RP DP DW
  have nd := sc_made.nd
  refine D.okX sc_made (fun vs H Q E h => ?_) (fun cdv A outer s H vs Q E hr h => ?_)
  · obtain ⟨x, n, path, rfl, hb, hr'⟩ := h
    rfl
  obtain ⟨x, n, path, rfl, hb, hr'⟩ := h
  have tk : L2.Takes (cxOf (L2.CX P w) P w K mg base nm_made "made" (defScope s_made) D.f cdv A outer s H E) (fun cls d _ H' => E cls d H') := L2.takes_of rfl rfl rfl rfl
  refine ⟨_, pss_cons (ps_set (i := 1) nd rfl (Or.inl rfl) (pe_join pe_str (pcallX (E := E) DW GW hr (L2.passes_call tk (fun _ _ _ _ h => h)) (pa_cons (pv 0) pa_nil)))) pss_never, ?_⟩
  exact ⟨⟨_, rfl⟩, _, rfl, x, n, path, rfl, hb, hr'⟩
def spHBad (C : Addr) : Sp := fun vs H _ E => ∃ a x n path, vs = [.ref a, x] ∧ BadT H x n path ∧ RaisedP C n path H E
theorem bad_hinit {C : Addr} (T : PTx w K mg) (hms : ∀ a, mg "SHAPES" = some (.ref a) → KMiss K w a "Step") (RP : Rsr2 P w K mg base) (DP : DPaper K mg) (Y : HCls K mg C) : FnOk P w K mg base (L2.CX P w) 6 Y.DI.f Y.DI.fd ["self", "paper"] (spHBad RP.C) := by
  have GC := ok_check_bad T hms RP DP
  refine Y.DI.okX sc_H_init (fun vs H Q E h => ?_) (fun cdv A outer s H vs Q E hr h => ?_)
  · obtain ⟨a, x, n, path, rfl, hb, hr'⟩ := h
    rfl
  obtain ⟨a, x, n, path, rfl, hb, hr'⟩ := h
  have tk : L2.Takes (cxOf (L2.CX P w) P w K mg base ["self", "paper"] "Heap.__init__" (defScope s_H_init) Y.DI.f cdv A outer s H E) (fun cls d _ H' => E cls d H') := L2.takes_of rfl rfl rfl rfl
  refine ⟨_, pss_cons (ps_expr (pcallX (E := E) DP.DC GC hr (L2.passes_call tk (fun _ _ _ _ h => h)) (pa_cons (pv 1) pa_nil))) pss_never, ?_⟩
  exact ⟨_, rfl, x, n, path, rfl, hb, hr'⟩
end
end MS
end
section
set_option maxRecDepth 100000
set_option maxHeartbeats 4000000
namespace MS
open PySem L2
open HeY LamX XQs XLs
/-! ### the law's _law_doors: all that is handed a paper, kept as lambdas -/
theorem LamGood.same {X : Cx} {F : ErrF X.K X.mg} {σ : L2.St} {k : Nat} {H H' : Hp} {i : Nat} {Du : Hp → List V → Prop} {f : Addr} (h : LamGood X F σ k H i Du f) (s : Same H H') : LamGood X F σ k H' i Du f := by
  obtain ⟨params, body, scope, ps, ds, t, h1, h2, h3, h4, h5⟩ := h
  exact ⟨params, body, scope, ps, ds, t, h1, h2, h3, h4.keep (ExtN.of s), fun Hu E' Qf sH hE => h5 Hu E' Qf (s.trans sH) hE⟩
theorem lg_mk {X : Cx} {F : ErrF X.K X.mg} {σ : L2.St} {k : Nat} {H : Hp} {i : Nat} {Du : Hp → List V → Prop} {f : Addr} {params : Arguments} {body : Expr} {scope : Scope} {ds : List V} (l : LamAt (X.env.qual ++ "<lambda>") params body scope (cloFrom X.env.cells scope.names []) ds H f) (ps : List Str) (t : XK → TE) (L : LamP X.N X.env.scope scope ps) (hb : BindsD params ps ds)
    (hbody : ∀ (A : Around) (outer : List Env) (s : Shared) (H : Hp) (E : XK) (f c' : Addr), Room k (A.deeper (lamEnv X scope s.heap.objs.size f c')) → PE (lamCx X A outer s H E scope f c') body (t E))
    (ht : ∀ (Hu : Hp) (E' : XK) (Qf : VK), Same H Hu → (∀ d H'' vals, Same Hu H'' → Pay i d H'' vals → Du H'' vals → E' (.ref (F.A i)) d H'') → t E' σ Hu Qf) : LamGood X F σ k H i Du f := ⟨params, body, scope, ps, ds, t, L, hb, hbody, l, ht⟩
def DuQ (n : Nat) (path : List Nat) : Hp → List V → Prop := fun H vals => ∃ q, vals = [.int ((n : Nat) : Int), .ref q] ∧ H q = some (.tup (natV path))
theorem DuQ.keep {n : Nat} {path : List Nat} : ∀ (H H' : Hp) (vals : List V), Same H H' → DuQ n path H vals → DuQ n path H' vals := fun _ _ _ s ⟨q, e, h⟩ => ⟨q, e, s _ _ h⟩
theorem n_ps : (("place" : Str) == "scheme") = false ∧ (("scheme" : Str) == "place") = false := by decide +kernel
theorem raisedQ_due {K : PySem.W.Frag} {mg : Str → Option Value} {F : ErrF K mg} {Cc : Addr} {n : Nat} {path : List Nat} {Hu : Hp} {E' : XK} (hC : Cc = F.A 0) (hE : ∀ d H'' vals, Same Hu H'' → Pay 0 d H'' vals → DuQ n path H'' vals → E' (.ref (F.A 0)) d H'') : RaisedP Cc n path Hu E' := fun d q H' hd s e eq => by
  rw [hC]
  refine hE (some d) H' [.int ((n : Nat) : Int), .ref q] s ⟨d, _, .int ((n : Nat) : Int), .ref q, rfl, e, ?_, rfl, rfl⟩ ⟨q, rfl, eq⟩
  rw [List.lookup_cons, n_ps.2]
  rfl
/-- a lambda over pinned cells is refused from then on -/
theorem pin_ref {X : Cx} {F : ErrF X.K X.mg} {σ : L2.St} {k : Nat} {H1 : Hp} {i : Nat} {Du : Hp → List V → Prop} {f : Addr} {π : Addr → Obj} (C : CellsAre X σ (cellsOf X) π) (hn : ∀ b ∈ cellsOf X, H1 b = none) (hDu : ∀ H H' vals, Same H H' → Du H vals → Du H' vals)
    (hf : LamGood X F σ k H1 i Du f) : IsLam (pinL (cellsOf X) π H1) f ∧ RefOk X.prog X.w X.base F (k + 1) f (pinL (cellsOf X) π H1) i Du := by
  have out : ∀ {b : Addr} {o : HO}, H1 b = some o → b ∉ cellsOf X := fun {b o} e hm => by
    rw [hn b hm] at e
    cases e
  have s0 : Same H1 (pinL (cellsOf X) π H1) := fun b o e => by rw [pin_out (out e)]; exact e
  have pinned : ∀ {H' : Hp}, Same (pinL (cellsOf X) π H1) H' → Pinned (cellsOf X) π H' := fun {H'} s b hb => s _ _ (pin_in hb)
  have su : ∀ {H' : Hp}, Same (pinL (cellsOf X) π H1) H' → Same H1 (unL (cellsOf X) H') := fun {H'} s b o e => by
    rw [un_out (out e)]
    exact s _ _ (s0 _ _ e)
  obtain ⟨params, body, scope, ps, ds, t, L, hb, hbody, hat, ht⟩ := hf
  refine ⟨⟨_, _, _, _, _, _, hat.keep (ExtN.of s0)⟩, fun H' E' s hE A outer s1 hr e0 => ?_⟩
  refine lam_run C L hb hbody hr e0 (pinned s) (hat.keep (ExtN.of (s0.trans s))) ?_
  refine ht _ _ _ (su s) fun d' H'' vals s2 hp hd hnone => ?_
  have s3 : Same H'' (pinL (cellsOf X) π H'') := fun b o e => by
    rw [pin_out fun hm => by rw [hnone b hm] at e; cases e]
    exact e
  refine hE d' _ vals (fun b o e => ?_) (hp.keep s3) (hDu _ _ _ s3 hd)
  by_cases hc : b ∈ cellsOf X
  · have z := pinned s b hc
    rw [e] at z
    rw [pin_in hc, Option.some.inj z]
  · rw [pin_out hc]
    exact s2 _ _ (by rw [un_out hc]; exact e)
abbrev s_L_doors : Stmt := topS 94
abbrev nmDoors : List Str := ["_law_bad", "_law_works"]
theorem sc_L_doors : FnScope nmDoors ["_law_bad"] (defScope s_L_doors) := ⟨rfl, rfl, rfl, by decide +kernel, rfl, by decide +kernel, by decide +kernel⟩
def dT (Pt : Addr) : List (Addr × Str) := [(Pt, "_law_doors.<locals>.<lambda>")]
/-- the defs that the doors lead to -/
structure DDoors (K : PySem.W.Frag) (mg : Str → Option Value) where
  DWo : Def K mg "words_of" s_words_of ["paper"]
  DEa : Def K mg "earned" s_earned ["paper", "work"]
  DMa : Def K mg "marked" s_marked ["paper", "work"]
  DMd : Def K mg "made" s_made ["paper"]
  DPd : Def K mg "parted" s_parted ["one", "other"]
  DSn : Def K mg "span" s_span ["paper", "work"]
  DEb : Def K mg "earnable" s_earnable ["paper"]
  DWr : Def K mg "written" s_written ["paper"]
  DPs : Def K mg "points_of" s_points_of ["rows"]
theorem ext_put {H J H1 : Hp} {l : Addr} {o : HO} (e0 : ExtN H J) (n : J l = none) (e : ExtN H H1) : ExtN H (upd H1 l o) := fun b u h t => by
  rw [upd_ne (ne_of_none (e0 b u h t) n)]
  exact e b u h t
theorem LamAt.put {q : Str} {params : Arguments} {body : Expr} {scope : Scope} {cl : List (Str × Addr)} {ds : List V} {H : Hp} {f l : Addr} {xs : List V} {o : HO} (h : LamAt q params body scope cl ds H f) (el : H l = some (.lst xs)) : LamAt q params body scope cl ds (upd H l o) f := by
  obtain ⟨dV, doc, pm, c', ctv, h1, h2, h3⟩ := h
  refine ⟨dV, doc, pm, c', ctv, by rw [upd_ne (ne_of h1 el fun z => nomatch z)]; exact h1, by rw [upd_ne (ne_of h2 el fun z => by unfold CodeO at z; cases z)]; exact h2, ?_⟩
  cases ds with
  | nil => exact h3
  | cons d ds =>
    obtain ⟨t, e1, e2⟩ := h3
    exact ⟨t, e1, by rw [upd_ne (ne_of e2 el fun z => nomatch z)]; exact e2⟩
theorem Tabs.put {T : List (Addr × Str)} {H : Hp} {l : Addr} {xs : List V} {o : HO} (t : Tabs T H) (el : H l = some (.lst xs)) : Tabs T (upd H l o) := fun p hp => by
  obtain ⟨ps, h1, h2, h3⟩ := t p hp
  refine ⟨ps, by rw [upd_ne (ne_of h1 el fun z => nomatch z)]; exact h1, h2, fun pos cv hc => ?_⟩
  obtain ⟨c, e, h⟩ := h3 pos cv hc
  exact ⟨c, e, by rw [upd_ne (ne_of h el fun z => by unfold CodeO at z; cases z)]; exact h⟩
theorem BadT.ext {H H' : Hp} {x : V} {n : Nat} {path : List Nat} (h : BadT H x n path) (s : ExtN H H') : BadT H' x n path := by
  have ko : KO H H' := fun a o e z => s a o e fun ps y => by
    rcases z with ⟨_, z⟩ | ⟨_, _, z⟩ | ⟨_, z⟩ <;> (rw [z] at y; cases y)
  rcases h with ⟨pa, ps, pv, e, h1, h2, h3⟩ | ⟨h, e⟩
  · refine .inl ⟨pa, ps, pv, e, s _ _ h1 (fun ps z => nomatch z), paired_imp h2 fun _ _ z => ?_, h3⟩
    obtain ⟨d, z1, z2⟩ := z
    exact ⟨d, SAtO.sameO ko _ _ _ (SAtO.keep ko.tup _ _ _ z1), z2⟩
  · refine .inr ⟨?_, e⟩
    rcases h with h | h | h | ⟨a, vs, h1, h2⟩ | ⟨a, h1, h2⟩
    · exact .inl h
    · exact .inr (.inl h)
    · exact .inr (.inr (.inl h))
    · exact .inr (.inr (.inr (.inl ⟨a, vs, h1, s _ _ h2 fun ps z => nomatch z⟩)))
    · exact .inr (.inr (.inr (.inr ⟨a, h1, s _ _ h2 fun ps z => nomatch z⟩)))
def spDoors (P : Program) (w : World) {K : PySem.W.Frag} {mg : Str → Option Value} (base : Heap) (F : ErrF K mg) (Pt : Addr) : Sp := fun vs H Q _ => ∃ x n path, vs = [x] ∧ BadT H x n path ∧ Tabs (dT Pt) H ∧
  ∀ (L : Addr) (fs : List Addr) (H' : Hp), ExtN H H' → Tabs (dT Pt) H' → H' L = some (.lst (fs.map V.ref)) → fs.length ≤ 50 → (∀ f ∈ fs, IsLam H' f ∧ RefOk P w base F 8 f H' 0 (DuQ n path)) → Q (.ref L) H'
section
variable {P : Program} {w : World} {K : PySem.W.Frag} {mg : Str → Option Value} {base : Heap} {C : Addr}
theorem ok_doors (T : PTx w K mg) (hms : ∀ a, mg "SHAPES" = some (.ref a) → KMiss K w a "Step") (F : ErrF K mg) (RP : Rsr2 P w K mg base) (hP : RP.C = F.A 0) (DP : DPaper K mg) (DD : DDoors K mg) (Y : HCls K mg C) (D : Def K mg "_law_doors" s_L_doors ["_law_bad"]) {c Pt : Addr} (TB : TabB base mg c Pt) (hc : CodeAt K D.f c) :
    FnOk P w K mg base CX0 1 D.f D.fd ["_law_bad"] (spDoors P w base F Pt) := by
  have G1 := bad_words_of T hms RP DP DD.DWo
  have G2 := bad_earned T hms RP DP DD.DEa
  have G3 := bad_marked T hms RP DP DD.DEa DD.DPs DD.DMa
  have G4 := bad_made T hms RP DP DD.DWo DD.DMd
  have G5 := bad_parted T hms RP DP DD.DPd
  have G6 := bad_partedO T hms RP DP DD.DPd
  have G7 := bad_span T hms RP DP DD.DSn
  have G8 := bad_earnable T hms RP DP DD.DEb
  have G9 := bad_hinit T hms RP DP Y
  have G10 := bad_written T hms RP DP DD.DWr
  have nd := sc_L_doors.nd
  refine Def.okP D hc sc_L_doors (fun vs H Q E h => ?_) (fun A outer s H vs Q E hr h => ?_)
  · obtain ⟨x, n, path, rfl, _⟩ := h
    rfl
  obtain ⟨x, n, path, rfl, hx, hT, q⟩ := h
  refine ⟨_, psr_cons (ps_set (i := 1) nd rfl (Or.inl rfl) (pe_lst (pa_cons (pe_lam0 (T := dT Pt) (c := c) (P := Pt) TB rfl List.mem_cons_self (fun p hp _ => by rw [List.mem_singleton.mp hp]; rfl) (fun ok => LamP.has (N := nmDoors) (ps := []) (show LamP nmDoors (defScope s_L_doors) _ [] from lamP_by (by decide +kernel)) ok) rfl) (pa_cons (pe_lam1 (T := dT Pt) (c := c) (P := Pt) TB rfl List.mem_cons_self (fun p hp _ => by rw [List.mem_singleton.mp hp]; rfl) (fun ok => LamP.has (N := nmDoors) (ps := []) (show LamP nmDoors (defScope s_L_doors) _ [] from lamP_by (by decide +kernel)) ok) rfl rfl pe_int) (pa_cons (pe_lam1 (T := dT Pt) (c := c) (P := Pt) TB rfl List.mem_cons_self (fun p hp _ => by rw [List.mem_singleton.mp hp]; rfl) (fun ok => LamP.has (N := nmDoors) (ps := []) (show LamP nmDoors (defScope s_L_doors) _ [] from lamP_by (by decide +kernel)) ok) rfl rfl pe_int) (pa_cons (pe_lam1 (T := dT Pt) (c := c) (P := Pt) TB rfl List.mem_cons_self (fun p hp _ => by rw [List.mem_singleton.mp hp]; rfl) (fun ok => LamP.has (N := nmDoors) (ps := []) (show LamP nmDoors (defScope s_L_doors) _ [] from lamP_by (by decide +kernel)) ok) rfl rfl pe_int) pa_nil))))))
    (psr_cons (ps_set (i := 1) nd rfl (Or.inl rfl) (pe_op op_cat (pv 1) (pe_lst (pa_cons (pe_lam1 (T := dT Pt) (c := c) (P := Pt) TB rfl List.mem_cons_self (fun p hp _ => by rw [List.mem_singleton.mp hp]; rfl) (fun ok => LamP.has (N := nmDoors) (ps := []) (show LamP nmDoors (defScope s_L_doors) _ [] from lamP_by (by decide +kernel)) ok) rfl rfl pe_int) (pa_cons (pe_lam1 (T := dT Pt) (c := c) (P := Pt) TB rfl List.mem_cons_self (fun p hp _ => by rw [List.mem_singleton.mp hp]; rfl) (fun ok => LamP.has (N := nmDoors) (ps := []) (show LamP nmDoors (defScope s_L_doors) _ [] from lamP_by (by decide +kernel)) ok) rfl rfl pe_int) pa_nil)))))
    (psr_cons (ps_expr (pe_bm PySem.F.plainAttrs_list PySem.F.slot_list_append PySem.F.type_list_append mt_append (pv 1) (pa_cons (pe_lam1 (T := dT Pt) (c := c) (P := Pt) TB rfl List.mem_cons_self (fun p hp _ => by rw [List.mem_singleton.mp hp]; rfl) (fun ok => LamP.has (N := nmDoors) (ps := []) (show LamP nmDoors (defScope s_L_doors) _ [] from lamP_by (by decide +kernel)) ok) rfl rfl pe_int) pa_nil)))
    (psr_ret (pe_op op_cat (pv 1) (pe_lst (pa_cons (pe_lam1 (T := dT Pt) (c := c) (P := Pt) TB rfl List.mem_cons_self (fun p hp _ => by rw [List.mem_singleton.mp hp]; rfl) (fun ok => LamP.has (N := nmDoors) (ps := []) (show LamP nmDoors (defScope s_L_doors) _ [] from lamP_by (by decide +kernel)) ok) rfl rfl pe_int) (pa_cons (pe_lam1 (T := dT Pt) (c := c) (P := Pt) TB rfl List.mem_cons_self (fun p hp _ => by rw [List.mem_singleton.mp hp]; rfl) (fun ok => LamP.has (N := nmDoors) (ps := []) (show LamP nmDoors (defScope s_L_doors) _ [] from lamP_by (by decide +kernel)) ok) rfl rfl pe_int) (pa_cons (pe_lam1 (T := dT Pt) (c := c) (P := Pt) TB rfl List.mem_cons_self (fun p hp _ => by rw [List.mem_singleton.mp hp]; rfl) (fun ok => LamP.has (N := nmDoors) (ps := []) (show LamP nmDoors (defScope s_L_doors) _ [] from lamP_by (by decide +kernel)) ok) rfl rfl pe_int) pa_nil)))))))), ?_⟩
  refine ⟨hT, fun f1 H1 e1 t1 l1 => ⟨t1, fun f2 H2 e2 t2 l2 => ⟨t2, fun f3 H3 e3 t3 l3 => ⟨t3, fun f4 H4 e4 t4 l4 => ⟨(by show 4 ≤ sizeLine; decide), fun p1 hp1 => ?_⟩⟩⟩⟩⟩
  have s4 := Same.new (o := .lst [.ref f1, .ref f2, .ref f3, .ref f4]) hp1
  have a4 : ExtN H (upd H4 p1 (.lst [.ref f1, .ref f2, .ref f3, .ref f4])) := (((e1.trans e2).trans e3).trans e4).trans (ExtN.of s4)
  have b1 := l1.keep (((e2.trans e3).trans e4).trans (ExtN.of s4))
  have b2 := l2.keep ((e3.trans e4).trans (ExtN.of s4))
  have b3 := l3.keep (e4.trans (ExtN.of s4))
  have b4 := l4.keep (ExtN.of s4)
  have t4' := t4.ext s4
  have el1 : upd H4 p1 (.lst [.ref f1, .ref f2, .ref f3, .ref f4]) p1 = some (.lst [.ref f1, .ref f2, .ref f3, .ref f4]) := upd_same
  generalize upd H4 p1 (.lst [.ref f1, .ref f2, .ref f3, .ref f4]) = J4 at a4 b1 b2 b3 b4 t4' el1
  dsimp only [gName]
  refine ⟨_, rfl, t4', fun f5 H5 e5 t5 l5 => ⟨t5, fun f6 H6 e6 t6 l6 => ⟨sz2, fun p2 hp2 => ⟨p1, p2, [.ref f1, .ref f2, .ref f3, .ref f4], [.ref f5, .ref f6], rfl, rfl, ?_, upd_same, ?_, fun p3 hp3 => ?_⟩⟩⟩⟩
  · exact Same.new hp2 _ _ ((e5.trans e6) _ _ el1 fun ps z => nomatch z)
  · show 4 + 2 ≤ sizeLine
    decide
  have s6 := Same.new (o := .lst [.ref f5, .ref f6]) hp2
  have aJ : ExtN H (upd H6 p2 (.lst [.ref f5, .ref f6])) := ((a4.trans e5).trans e6).trans (ExtN.of s6)
  have s7 := Same.new (o := .lst [.ref f1, .ref f2, .ref f3, .ref f4, .ref f5, .ref f6]) hp3
  have e57 : ExtN J4 (upd (upd H6 p2 (.lst [.ref f5, .ref f6])) p3 (.lst [.ref f1, .ref f2, .ref f3, .ref f4, .ref f5, .ref f6])) := ((e5.trans e6).trans (ExtN.of s6)).trans (ExtN.of s7)
  have b1 := b1.keep e57
  have b2 := b2.keep e57
  have b3 := b3.keep e57
  have b4 := b4.keep e57
  have b5 := l5.keep ((e6.trans (ExtN.of s6)).trans (ExtN.of s7))
  have b6 := l6.keep ((ExtN.of s6).trans (ExtN.of s7))
  have a7 := a4.trans e57
  have t7' := (t6.ext s6).ext s7
  have el3 : (upd (upd H6 p2 (.lst [.ref f5, .ref f6])) p3 (.lst [.ref f1, .ref f2, .ref f3, .ref f4, .ref f5, .ref f6])) p3 = some (.lst [.ref f1, .ref f2, .ref f3, .ref f4, .ref f5, .ref f6]) := upd_same
  generalize hJ7 : upd (upd H6 p2 (.lst [.ref f5, .ref f6])) p3 (.lst [.ref f1, .ref f2, .ref f3, .ref f4, .ref f5, .ref f6]) = J7 at b1 b2 b3 b4 b5 b6 a7 t7' el3
  have hJ7' : upd (upd H6 p2 (.lst [.ref f5, .ref f6])) p3 (.lst ([.ref f1, .ref f2, .ref f3, .ref f4] ++ [.ref f5, .ref f6])) = J7 := hJ7
  rw [hJ7']
  dsimp only [gName]
  refine ⟨_, rfl, .inl ⟨rfl, _, SqL.of el3⟩, t7', fun f7 H7 e7 t7 l7 => ?_⟩
  have el4 := e7 _ _ el3 fun ps z => nomatch z
  refine ⟨p3, [.ref f1, .ref f2, .ref f3, .ref f4, .ref f5, .ref f6], _, rfl, rfl, el4, by show 6 < sizeLine; decide, ?_⟩
  have b1 := (b1.keep e7).put (o := .lst [.ref f1, .ref f2, .ref f3, .ref f4, .ref f5, .ref f6, .ref f7]) el4
  have b2 := (b2.keep e7).put (o := .lst [.ref f1, .ref f2, .ref f3, .ref f4, .ref f5, .ref f6, .ref f7]) el4
  have b3 := (b3.keep e7).put (o := .lst [.ref f1, .ref f2, .ref f3, .ref f4, .ref f5, .ref f6, .ref f7]) el4
  have b4 := (b4.keep e7).put (o := .lst [.ref f1, .ref f2, .ref f3, .ref f4, .ref f5, .ref f6, .ref f7]) el4
  have b5 := (b5.keep e7).put (o := .lst [.ref f1, .ref f2, .ref f3, .ref f4, .ref f5, .ref f6, .ref f7]) el4
  have b6 := (b6.keep e7).put (o := .lst [.ref f1, .ref f2, .ref f3, .ref f4, .ref f5, .ref f6, .ref f7]) el4
  have b7 := l7.put (o := .lst [.ref f1, .ref f2, .ref f3, .ref f4, .ref f5, .ref f6, .ref f7]) el4
  have t8' := Tabs.put (o := .lst [.ref f1, .ref f2, .ref f3, .ref f4, .ref f5, .ref f6, .ref f7]) t7 el4
  have a8 : ExtN H (upd H7 p3 (.lst [.ref f1, .ref f2, .ref f3, .ref f4, .ref f5, .ref f6, .ref f7])) := ext_put aJ hp3 (a7.trans e7)
  have el5 : upd H7 p3 (.lst [.ref f1, .ref f2, .ref f3, .ref f4, .ref f5, .ref f6, .ref f7]) p3 = some (.lst [.ref f1, .ref f2, .ref f3, .ref f4, .ref f5, .ref f6, .ref f7]) := upd_same
  generalize hJ8 : upd H7 p3 (.lst [.ref f1, .ref f2, .ref f3, .ref f4, .ref f5, .ref f6, .ref f7]) = J8 at b1 b2 b3 b4 b5 b6 b7 a8 t8' el5
  have hJ8' : upd H7 p3 (.lst ([.ref f1, .ref f2, .ref f3, .ref f4, .ref f5, .ref f6] ++ [.ref f7])) = J8 := hJ8
  rw [hJ8']
  dsimp only [tNext]
  refine ⟨_, rfl, t8', fun f8 H8 e8 t8 l8 => ⟨t8, fun f9 H9 e9 t9 l9 => ⟨t9, fun f10 H10 e10 t10 l10 => ⟨(by show 3 ≤ sizeLine; decide), fun p4 hp4 => ⟨p3, p4, [.ref f1, .ref f2, .ref f3, .ref f4, .ref f5, .ref f6, .ref f7], [.ref f8, .ref f9, .ref f10], rfl, rfl, Same.new hp4 _ _ (((e8.trans e9).trans e10) _ _ el5 fun ps z => nomatch z), upd_same, ?_, fun p5 hp5 => ?_⟩⟩⟩⟩⟩
  · show 7 + 3 ≤ sizeLine
    decide
  have s9 := (Same.new (o := .lst [.ref f8, .ref f9, .ref f10]) hp4).trans (Same.new (o := .lst [.ref f1, .ref f2, .ref f3, .ref f4, .ref f5, .ref f6, .ref f7, .ref f8, .ref f9, .ref f10]) hp5)
  have e89 := ((e8.trans e9).trans e10).trans (ExtN.of s9)
  have b1 := b1.keep e89
  have b2 := b2.keep e89
  have b3 := b3.keep e89
  have b4 := b4.keep e89
  have b5 := b5.keep e89
  have b6 := b6.keep e89
  have b7 := b7.keep e89
  have b8 := l8.keep ((e9.trans e10).trans (ExtN.of s9))
  have b9 := l9.keep (e10.trans (ExtN.of s9))
  have b10 := l10.keep (ExtN.of s9)
  have a9 := a8.trans e89
  have t9' := t10.ext s9
  have el6 : (upd (upd H10 p4 (.lst [.ref f8, .ref f9, .ref f10])) p5 (.lst [.ref f1, .ref f2, .ref f3, .ref f4, .ref f5, .ref f6, .ref f7, .ref f8, .ref f9, .ref f10])) p5 = some (.lst [.ref f1, .ref f2, .ref f3, .ref f4, .ref f5, .ref f6, .ref f7, .ref f8, .ref f9, .ref f10]) := upd_same
  generalize hJ9 : upd (upd H10 p4 (.lst [.ref f8, .ref f9, .ref f10])) p5 (.lst [.ref f1, .ref f2, .ref f3, .ref f4, .ref f5, .ref f6, .ref f7, .ref f8, .ref f9, .ref f10]) = J9 at b1 b2 b3 b4 b5 b6 b7 b8 b9 b10 a9 t9' el6
  have hJ9' : upd (upd H10 p4 (.lst [.ref f8, .ref f9, .ref f10])) p5 (.lst ([.ref f1, .ref f2, .ref f3, .ref f4, .ref f5, .ref f6, .ref f7] ++ [.ref f8, .ref f9, .ref f10])) = J9 := hJ9
  rw [hJ9']
  intro π Cc hn
  have hx9 : ∀ {Hu : Hp}, Same J9 Hu → BadT Hu x n path := fun {Hu} s => (hx.ext a9).same s
  have s0 : Same J9 (pinL _ π J9) := fun b o e => by rw [pin_out fun hm => by rw [hn b hm] at e; cases e]; exact e
  refine q p5 [f1, f2, f3, f4, f5, f6, f7, f8, f9, f10] _ (a9.trans (ExtN.of s0)) (t9'.ext s0) (s0 _ _ el6) (by show 10 ≤ 50; decide) fun f hf => pin_ref Cc hn DuQ.keep ?_
  simp only [List.mem_cons, List.not_mem_nil, or_false] at hf
  rcases hf with rfl | rfl | rfl | rfl | rfl | rfl | rfl | rfl | rfl | rfl
  · refine lg_mk b1 [] (fun E => tCall (spBad RP.C) [] E (tCons (tVar 0) tNil)) (show LamP nmDoors (defScope s_L_doors) _ [] from lamP_by (by decide +kernel)) ⟨rfl, fun _ _ _ _ _ _ _ _ => rfl⟩
      (fun A outer s H E f c' hr2 => pcall_lam DD.DWo G1 (hr2.mono (by decide)) (pa_cons (pv_lam (i := 0) rfl rfl (by decide) (by decide)) pa_nil) rfl (by decide) rfl rfl) (fun Hu E' Qf sH hE => ?_)
    exact ⟨_, rfl, x, n, path, rfl, hx9 sH, raisedQ_due hP hE⟩
  · refine lg_mk b2 ["_law_a"] (fun E => tCall (spBad2 RP.C) [] E (tCons (tVar 0) (tCons (tC .non) tNil))) (show LamP nmDoors (defScope s_L_doors) _ ["_law_a"] from lamP_by (by decide +kernel)) ⟨_, rfl, fun _ _ _ _ _ _ _ _ _ => ⟨_, rfl, fun _ => rfl⟩⟩
      (fun A outer s H E f c' hr2 => pcall_lam DD.DEa G2 (hr2.mono (by decide)) (pa_cons (pv_lam (i := 0) rfl rfl (by decide) (by decide)) (pa_cons pe_non pa_nil)) rfl (by decide) rfl rfl) (fun Hu E' Qf sH hE => ?_)
    exact ⟨_, rfl, x, _, n, path, rfl, hx9 sH, raisedQ_due hP hE⟩
  · refine lg_mk b3 ["_law_b"] (fun E => tCall (spBad2 RP.C) [] E (tCons (tVar 0) (tCons (tC .non) tNil))) (show LamP nmDoors (defScope s_L_doors) _ ["_law_b"] from lamP_by (by decide +kernel)) ⟨_, rfl, fun _ _ _ _ _ _ _ _ _ => ⟨_, rfl, fun _ => rfl⟩⟩
      (fun A outer s H E f c' hr2 => pcall_lam DD.DMa G3 (hr2.mono (by decide)) (pa_cons (pv_lam (i := 0) rfl rfl (by decide) (by decide)) (pa_cons pe_non pa_nil)) rfl (by decide) rfl rfl) (fun Hu E' Qf sH hE => ?_)
    exact ⟨_, rfl, x, _, n, path, rfl, hx9 sH, raisedQ_due hP hE⟩
  · refine lg_mk b4 ["_law_c"] (fun E => tCall (spBad RP.C) [] E (tCons (tVar 0) tNil)) (show LamP nmDoors (defScope s_L_doors) _ ["_law_c"] from lamP_by (by decide +kernel)) ⟨_, rfl, fun _ _ _ _ _ _ _ _ _ => ⟨_, rfl, fun _ => rfl⟩⟩
      (fun A outer s H E f c' hr2 => pcall_lam DD.DMd G4 (hr2.mono (by decide)) (pa_cons (pv_lam (i := 0) rfl rfl (by decide) (by decide)) pa_nil) rfl (by decide) rfl rfl) (fun Hu E' Qf sH hE => ?_)
    exact ⟨_, rfl, x, n, path, rfl, hx9 sH, raisedQ_due hP hE⟩
  · refine lg_mk b5 ["_law_d"] (fun E => tCall (spBad2 RP.C) [] E (tCons (tVar 0) (tCons (tTup tNil) tNil))) (show LamP nmDoors (defScope s_L_doors) _ ["_law_d"] from lamP_by (by decide +kernel)) ⟨_, rfl, fun _ _ _ _ _ _ _ _ _ => ⟨_, rfl, fun _ => rfl⟩⟩
      (fun A outer s H E f c' hr2 => pcall_lam DD.DPd G5 (hr2.mono (by decide)) (pa_cons (pv_lam (i := 0) rfl rfl (by decide) (by decide)) (pa_cons (pe_tup pa_nil) pa_nil)) rfl (by decide) rfl rfl) (fun Hu E' Qf sH hE => ?_)
    exact ⟨_, rfl, Nat.zero_le _, fun z hz => ⟨x, _, n, path, rfl, hx9 (sH.trans (Same.new hz)), (raisedQ_due hP hE).from (Same.new hz)⟩⟩
  · refine lg_mk b6 ["_law_f"] (fun E => tCall (spBadO RP.C) [] E (tCons (tTup (tCons (tTup (tCons (tC (.str "step")) (tCons (tC (.str "a")) (tCons (tC (.int 1)) tNil)))) tNil)) (tCons (tVar 0) tNil))) (show LamP nmDoors (defScope s_L_doors) _ ["_law_f"] from lamP_by (by decide +kernel)) ⟨_, rfl, fun _ _ _ _ _ _ _ _ _ => ⟨_, rfl, fun _ => rfl⟩⟩
      (fun A outer s H E f c' hr2 => pcall_lam DD.DPd G6 (hr2.mono (by decide)) (pa_cons (pe_tup (pa_cons (pe_tup (pa_cons pe_str (pa_cons pe_str (pa_cons pe_int pa_nil)))) pa_nil)) (pa_cons (pv_lam (i := 0) rfl rfl (by decide) (by decide)) pa_nil)) rfl (by decide) rfl rfl) (fun Hu E' Qf sH hE => ?_)
    exact ⟨(by show 3 ≤ sizeLine; decide), fun z1 hz1 => ⟨(by show 1 ≤ sizeLine; decide), fun z2 hz2 => ⟨_, rfl, z2, .ref z1, x, n, path, rfl, upd_same, ⟨z1, rfl, Same.new hz2 _ _ upd_same⟩, hx9 (sH.trans ((Same.new hz1).trans (Same.new hz2))), (raisedQ_due hP hE).from ((Same.new hz1).trans (Same.new hz2))⟩⟩⟩
  · refine lg_mk b7 ["_law_g"] (fun E => tCall (spBad2 RP.C) [] E (tCons (tVar 0) (tCons (tC .non) tNil))) (show LamP nmDoors (defScope s_L_doors) _ ["_law_g"] from lamP_by (by decide +kernel)) ⟨_, rfl, fun _ _ _ _ _ _ _ _ _ => ⟨_, rfl, fun _ => rfl⟩⟩
      (fun A outer s H E f c' hr2 => pcall_lam DD.DSn G7 (hr2.mono (by decide)) (pa_cons (pv_lam (i := 0) rfl rfl (by decide) (by decide)) (pa_cons pe_non pa_nil)) rfl (by decide) rfl rfl) (fun Hu E' Qf sH hE => ?_)
    exact ⟨_, rfl, x, _, n, path, rfl, hx9 sH, raisedQ_due hP hE⟩
  · refine lg_mk b8 ["_law_h"] (fun E => tCall (spBad RP.C) [] E (tCons (tVar 0) tNil)) (show LamP nmDoors (defScope s_L_doors) _ ["_law_h"] from lamP_by (by decide +kernel)) ⟨_, rfl, fun _ _ _ _ _ _ _ _ _ => ⟨_, rfl, fun _ => rfl⟩⟩
      (fun A outer s H E f c' hr2 => pcall_lam DD.DEb G8 (hr2.mono (by decide)) (pa_cons (pv_lam (i := 0) rfl rfl (by decide) (by decide)) pa_nil) rfl (by decide) rfl rfl) (fun Hu E' Qf sH hE => ?_)
    exact ⟨_, rfl, x, n, path, rfl, hx9 sH, raisedQ_due hP hE⟩
  · refine lg_mk b9 ["_law_i"] (fun E => tMake C (spHBad RP.C) [] E (tCons (tVar 0) tNil)) (show LamP nmDoors (defScope s_L_doors) _ ["_law_i"] from lamP_by (by decide +kernel)) ⟨_, rfl, fun _ _ _ _ _ _ _ _ _ => ⟨_, rfl, fun _ => rfl⟩⟩
      (fun A outer s H E f c' hr2 => pe_make (X := lamCx _ A outer s H E _ f c') Y.mk' G9 (hr2.mono (by decide)) rfl Y.mgC Y.DI.b .nil (lam_passes (X := _) (A := A) (outer := outer) (s := s) (H := H) (E := E) (f := f) (c' := c')) (pa_cons (pv_lam (i := 0) rfl rfl (by decide) (by decide)) pa_nil) (by decide) rfl rfl) (fun Hu E' Qf sH hE => ?_)
    exact ⟨_, rfl, fun a dx h1 h2 hne => by
      have sm := (Same.new (o := .own a) h2).trans (Same.new (H := upd Hu dx (.own a)) (o := .ins C dx []) (by rw [upd_ne hne.symm]; exact h1))
      exact ⟨a, x, n, path, rfl, hx9 (sH.trans sm), (raisedQ_due hP hE).from sm⟩⟩
  · refine lg_mk b10 ["_law_j"] (fun E => tCall (spBad RP.C) [] E (tCons (tVar 0) tNil)) (show LamP nmDoors (defScope s_L_doors) _ ["_law_j"] from lamP_by (by decide +kernel)) ⟨_, rfl, fun _ _ _ _ _ _ _ _ _ => ⟨_, rfl, fun _ => rfl⟩⟩
      (fun A outer s H E f c' hr2 => pcall_lam DD.DWr G10 (hr2.mono (by decide)) (pa_cons (pv_lam (i := 0) rfl rfl (by decide) (by decide)) pa_nil) rfl (by decide) rfl rfl) (fun Hu E' Qf sH hE => ?_)
    exact ⟨_, rfl, x, n, path, rfl, hx9 sH, raisedQ_due hP hE⟩
end
end MS
end
section
set_option maxRecDepth 100000
set_option maxHeartbeats 4000000
namespace MS
open PySem L2
open HeY LamX XQs XLs
/-! ### the law -/
abbrev s_law : Stmt := topS 95
abbrev nmLaw : List Str := ["_law_script", "_law_box", "_law_turn", "_law_paper_here", "_law_number", "_law_bad", "_law_place", "_law_rows", "_law_great_here", "_law_due"]
theorem sc_law : FnScope nmLaw ["_law_script"] (defScope s_law) := ⟨rfl, rfl, rfl, by decide +kernel, rfl, by decide +kernel, by decide +kernel⟩
theorem seq_rel {R : Hp → Prop} {tc : TT} {t r : TS} {D : Ends} {σ : St} {H : Hp} {b : Bool} (h : ∀ Q : Bool → Hp → Prop, (∀ H', R H' → Q b H') → tc σ H Q) (k1 : b = true → ∀ H', R H' → t { D with nx := r D } σ H') (k2 : b = false → ∀ H', R H' → r D σ H') : tSeq (tIfS tc t tNext) r D σ H := h _ fun H' s => by
  cases b with
  | true => exact iteT (k1 rfl H' s)
  | false => exact iteF (k2 rfl H' s)
theorem one_rel {R : Hp → Prop} {tc : TT} {t : TS} {D : Ends} {σ : St} {H : Hp} {b : Bool} (h : ∀ Q : Bool → Hp → Prop, (∀ H', R H' → Q b H') → tc σ H Q) (k1 : b = true → ∀ H', R H' → t D σ H') (k2 : b = false → ∀ H', R H' → D.nx σ H') : tIfS tc t tNext D σ H := h _ fun H' s => by
  cases b with
  | true => exact iteT (k1 rfl H' s)
  | false => exact iteF (k2 rfl H' s)
theorem seq_cut {c : TT} {t r : TS} {D : Ends} {σ : St} {H : Hp} (R : St → Hp → Prop) (k : ∀ G : St → Hp → Prop, (∀ σ' H', R σ' H' → G σ' H') → tSeq (tIfS c t tNext) (fun _ => G) D σ H) (rest : ∀ σ' H', R σ' H' → r D σ' H') : tSeq (tIfS c t tNext) r D σ H := k (r D) rest
theorem ExtN.tup {H H' : Hp} (e : ExtN H H') : TupK H H' := fun a xs h => e a _ h fun ps z => nomatch z
theorem setL_setL {α : Type} {xs : List α} {n : Nat} {y z : α} (h : n + 1 < xs.length) : setL (setL xs n y) (xs.length - 1) z = (setL xs n y).take ((setL xs n y).length - 1) ++ [z] := by
  have hl : (setL xs n y).length = xs.length := setL_len (by omega)
  show (setL xs n y).take (xs.length - 1) ++ [z] ++ (setL xs n y).drop (xs.length - 1 + 1) = _
  rw [hl, List.drop_of_length_le (by rw [hl]; omega), List.append_nil]
theorem cut_init (xs : List V) (h : 0 < xs.length) : cutV xs none (some (-1)) = xs.take (xs.length - 1) := by
  unfold cutV
  rw [HT.sIx_none]
  have e : HT.sIx xs.length xs.length (some (-1)) = xs.length - 1 := by
    show (if (-1 : Int) < 0 then ((-1 : Int) + (xs.length : Int)).toNat else min (-1 : Int).toNat xs.length) = _
    rw [if_pos (by decide)]
    omega
  rw [e, List.drop_zero, Nat.sub_zero]
theorem RefOk.same {P : Program} {w : World} {K : PySem.W.Frag} {mg : Str → Option Value} {base : Heap} {F : ErrF K mg} {k : Nat} {f : Addr} {H H' : Hp} {i : Nat} {Du : Hp → List V → Prop} (h : RefOk P w base F k f H i Du) (s : Same H H') : RefOk P w base F k f H' i Du := fun H2 E s2 hE => h H2 E (s.trans s2) hE
theorem alk_nat {H : Hp} {n : Nat} : ∀ (l : List Nat), Paired (Alk H n) (natV l) (natV l)
  | [] => .nil
  | x :: l => .cons (by
      have : Alk H 0 (.int ((x : Nat) : Int)) (.int ((x : Nat) : Int)) := .inl ⟨_, rfl, rfl⟩
      clear l
      induction n with
      | zero => exact this
      | succ n ih => exact .inl ih) (alk_nat l)
theorem alkQ {H : Hp} {t d q q' : Addr} {n : Nat} {path : List Nat} (et : H t = some (.tup [.str "BadPaper", .int ((n : Nat) : Int), .ref q])) (ed : H d = some (.tup [.str "BadPaper", .int ((n : Nat) : Int), .ref q'])) (e1 : H q = some (.tup (natV path))) (e2 : H q' = some (.tup (natV path))) (hl : path.length ≤ 900) : Alk H 2 (.ref t) (.ref d) :=
  .inr ⟨t, d, _, _, rfl, rfl, .inr ⟨et, ed⟩, by show 3 ≤ 1000; decide, .cons (.inl (.inr ⟨_, rfl, rfl⟩)) (.cons (.inl (.inl ⟨_, rfl, rfl⟩)) (.cons (.inr ⟨q, q', _, _, rfl, rfl, .inr ⟨e1, e2⟩, by rw [natV_len]; omega, alk_nat path⟩) .nil))⟩
structure D01 (K : PySem.W.Frag) (mg : Str → Option Value) where
  DBg : Def K mg "_law_begun" s_L_begun ["_law_script"]
  DT : Def K mg "_law_take" s_L_take ["_law_box", "_law_many"]
  DAk : Def K mg "_law_alike" s_L_alike psAlike
  DTo : Def K mg "_law_told" s_L_told ["_law_work"]
  DAl : Def K mg "_law_all" s_L_all ["_law_works", "_law_due"]
  DLe : Def K mg "_law_letters" s_L_letters ["_law_box"]
  DSc : Def K mg "_law_scheme" s_L_scheme psScheme
  DCo : Def K mg "_law_counted" s_L_counted psCounted
  DPa : Def K mg "_law_paper" s_L_paper ["_law_box", "_law_letters_here"]
  DOd : Def K mg "_law_odd" s_L_odd ["_law_box", "_law_number", "_law_many"]
  DSp : Def K mg "_law_spoilt" s_L_spoilt psSpoilt
  DGr : Def K mg "_law_great" s_L_great ["_law_box", "_law_paper_here"]
  DDo : Def K mg "_law_doors" s_L_doors ["_law_bad"]
def spLaw (K : PySem.W.Frag) (Pt : Addr) : Sp := fun vs H Q _ => ∃ (a : Addr) (ns : List Int), vs = [.ref a] ∧ SqL K H a (ns.map V.int) ∧ ns.length ≤ 63 ∧ H Pt = some (.tbl #[]) ∧ ∀ H', Q (.bl true) H'
section
variable {P : Program} {w : World} {K : PySem.W.Frag} {mg : Str → Option Value} {base : Heap} {C : Addr}
theorem fn_anyS {CX : CXT} {ι : Type} {sp : ι → Sp} {k : Nat} {f : Addr} {fd : FuncData} {ps : List Str} (G : ∀ i, FnOk P w K mg base CX k f fd ps (sp i)) : FnOk P w K mg base CX k f fd ps (fun vs H Q E => ∃ i, sp i vs H Q E) := fn_anyX G
theorem ok_law (T : PTx w K mg) (hms : ∀ a, mg "SHAPES" = some (.ref a) → KMiss K w a "Step") (F : ErrF K mg) (RP : Rsr2 P w K mg base) (hP : RP.C = F.A 0) (DP : DPaper K mg) (DD : DDoors K mg) (Y : HCls K mg C) (D : D01 K mg) {c Pt : Addr} (TB : TabB base mg c Pt) (hc : CodeAt K D.DDo.f c) (DW : Def K mg "law" s_law ["_law_script"]) : FnOk P w K mg base CX0 11 DW.f DW.fd ["_law_script"] (spLaw K Pt) := by
  have ml : mg "len" = none := T.free "len" (by decide +kernel)
  have mli : mg "list" = none := T.free "list" (by decide +kernel)
  have mi : mg "int" = none := T.free "int" (by decide +kernel)
  have mr : mg "range" = none := T.free "range" (by decide +kernel)
  have mt : mg "tuple" = none := T.free "tuple" (by decide +kernel)
  have mis : mg "isinstance" = none := T.free "isinstance" (by decide +kernel)
  have mb : mg "bool" = none := T.free "bool" (by decide +kernel)
  have ms : mg "str" = none := T.free "str" (by decide +kernel)
  have GBg : FnOk P w K mg base CX0 1 D.DBg.f D.DBg.fd ["_law_script"] (spBegun K) := ok_begun D.DBg ml mli mi
  have GT : FnOk P w K mg base CX0 1 D.DT.f D.DT.fd ["_law_box", "_law_many"] spTake := ok_take D.DT
  have GLe : FnOk P w K mg base CX0 2 D.DLe.f D.DLe.fd ["_law_box"] spLetters := ok_letters D.DLe D.DT ml mli mr
  have GPa : FnOk P w K mg base CX0 7 D.DPa.f D.DPa.fd ["_law_box", "_law_letters_here"] spPaper := ok_paper D.DPa D.DT D.DSc D.DCo ml mr mt mi mis mli
  have GAk : FnOk P w K mg base CX0 3 D.DAk.f D.DAk.fd psAlike (spAlike 2) := ok_alike D.DAk mis mb mi ms mt mli ml mr 2
  have GAl : FnOk P w K mg base CX0 10 D.DAl.f D.DAl.fd ["_law_works", "_law_due"] (spAllR P w base 8 F) := ok_allR (k := 8) F D.DTo D.DAk GAk D.DAl (by decide)
  have GSp : FnOk P w K mg base CX0 7 D.DSp.f D.DSp.fd psSpoilt (fun vs H Q E => ∃ im : Nat × Nat, spSpoilt im.1 im.2 5 vs H Q E) := fn_anyX fun im => ok_spoilt ml mli D.DSp D.DOd D.DT 5
  have GGr : FnOk P w K mg base CX0 2 D.DGr.f D.DGr.fd ["_law_box", "_law_paper_here"] spGreat := ok_great ml mli mr mt D.DT D.DGr
  have GDo : FnOk P w K mg base CX0 1 D.DDo.f D.DDo.fd ["_law_bad"] (spDoors P w base F Pt) := ok_doors T hms F RP hP DP DD Y D.DDo TB hc
  have nd := sc_law.nd
  refine DW.ok sc_law (fun vs H Q E h => ?_) (fun cdv A outer s H vs Q E hr h => ?_)
  · obtain ⟨a, ns, rfl, _⟩ := h
    rfl
  obtain ⟨a, ns, rfl, hS0, hlen, hPt, q⟩ := h
  have r1 : Room 1 _ := hr.mono (by decide)
  have r2 : Room 2 _ := hr.mono (by decide)
  have r7 : Room 7 _ := hr.mono (by decide)
  refine ⟨_, (pss_cons (ps_set (i := 1) nd rfl (Or.inl rfl) (pcall D.DBg GBg r1 (pa_cons (pv 0) pa_nil)))
      (pss_cons (ps_for PassesOwn.never rfl (pi_range1 rfl mr (pa_cons pe_int pa_nil)) (pg_name (i := 2) nd rfl (Or.inl rfl)) (pss_cons (ps_set (i := 3) nd rfl (Or.inl rfl) (pcall D.DPa GPa r7 (pa_cons (pv 1) (pa_cons (pcall D.DLe GLe r2 (pa_cons (pv 1) pa_nil)) pa_nil))))
      (pss_cons (ps_set (i := 4) nd rfl (Or.inl rfl) (pcall D.DT GT r1 (pa_cons (pv 1) (pa_cons (pe_callB call_len_seq rfl ml PySem.boot_len (pa_cons (pv 3) pa_nil)) pa_nil))))
      (pss_cons (ps_asg (pcall D.DSp GSp r7 (pa_cons (pv 1) (pa_cons (pe_ix (r := rIxT K) ix_tup (pv 3) (pv 4) (fun _ _ => rfl)) (pa_cons (pe_tup pa_nil) (pa_cons (pv 4) (pa_cons (pe_callB call_len_seq rfl ml PySem.boot_len (pa_cons (pv 3) pa_nil)) pa_nil)))))) (pg_tup (by rfl) (pgs_cons (pg_name (i := 5) nd rfl (Or.inl rfl)) (pgs_cons (pg_name (i := 6) nd rfl (Or.inl rfl)) pgs_nil))))
      (pss_cons (ps_set (i := 7) nd rfl (Or.inl rfl) (pe_op op_catA (pe_op op_catA (pe_slice sl_tupA (pv 3) po_none (po_some (pv 4))) (pe_tup (pa_cons (pv 5) pa_nil))) (pe_slice sl_tupA (pv 3) (po_some (pe_op op_add (pv 4) pe_int)) po_none)))
      (pss_cons (ps_if (PW.pt (pw_and (pt_cmpR op_lt (pe_op op_add (pv 4) pe_int) (pe_callB call_len_seq rfl ml PySem.boot_len (pa_cons (pv 3) pa_nil)) (nomark _)) (pw_and1 (pt_cmpR op_eq (pcall D.DT GT r1 (pa_cons (pv 1) (pa_cons pe_int pa_nil))) pe_int (nomark _))))) (pss_one (ps_set (i := 7) nd rfl (Or.inl rfl) (pe_op op_catA (pe_slice sl_tupA (pv 7) po_none (po_some (pe_un un_neg pe_int))) (pe_tup (pa_cons pe_non pa_nil))))) pss_nil)
      (pss_cons (ps_if (pt_not (pt_val (pcall D.DAl GAl hr (pa_cons (pcall D.DDo GDo r1 (pa_cons (pv 7) pa_nil)) (pa_cons (pe_tup (pa_cons pe_str (pa_cons (pv 4) (pa_cons (pv 6) pa_nil)))) pa_nil))))) (pss_one (ps_ret pe_bl)) pss_nil)
      (pss_cons (ps_asg (pcall D.DGr GGr r2 (pa_cons (pv 1) (pa_cons (pv 3) pa_nil))) (pg_tup (by rfl) (pgs_cons (pg_name (i := 8) nd rfl (Or.inl rfl)) (pgs_cons (pg_name (i := 9) nd rfl (Or.inl rfl)) pgs_nil))))
      (pss_one (ps_if (pt_not (pt_val (pcall D.DAl GAl hr (pa_cons (pcall D.DDo GDo r1 (pa_cons (pv 8) pa_nil)) (pa_cons (pe_tup (pa_cons pe_str (pa_cons (pe_ix (r := rIxT K) ix_tup (pv 9) pe_int (fun _ _ => rfl)) (pa_cons (pe_ix (r := rIxT K) ix_tup (pv 9) pe_int (fun _ _ => rfl)) pa_nil)))) pa_nil))))) (pss_one (ps_ret pe_bl)) pss_nil))))))))))
      (pss_one (ps_ret pe_bl)))), ?_⟩
  refine ⟨_, rfl, a, ns, rfl, hS0, hlen, fun b l H1 hb hl B1 s1 => ?_⟩
  dsimp only [gName]
  have T1 : Tabs (dT Pt) H1 := fun p hp => by
    obtain rfl := List.mem_singleton.mp hp
    exact TabS.nil (s1 _ _ hPt)
  refine ⟨3, rfl, by decide, by decide, for_range (lo := 0) (n := 3) (fun i σ H' => ∃ v2 v3 v4 v5 v6 v7 v8 v9 : Option V, σ = [some (.ref a), some (.ref b), v2, v3, v4, v5, v6, v7, v8, v9] ∧ Box H' b l ∧ Tabs (dT Pt) H') ⟨none, none, none, none, none, none, none, none, rfl, B1, T1⟩ ?_ (fun σ H' _ => q H')⟩
  rintro i σ H2 hi ⟨v2, v3, v4, v5, v6, v7, v8, v9, rfl, B2, T2⟩
  dsimp only [gName]
  -- the paper
  refine ⟨_, rfl, _, rfl, b, l, rfl, B2, fun L FL H3 hL eL w1 l0 l1 B3 k3 => ?_⟩
  have nLi : L ∉ [b, l] := B2.nin hL
  refine ⟨b, l, L, FL, rfl, B3, (fun z => nLi (by rw [z]; simp)), (fun z => nLi (by rw [z]; simp)), eL, w1, l0, l1, fun v ps H4 hpa hPok B4 k4 => ?_⟩
  have T4 := tabs_keep (tabs_keep T2 B2 k3) B3 k4
  obtain ⟨pa, pvs, rfl, epa, pp⟩ := hpa
  have lpv := Paired.length pp
  have h0 := hPok.1
  have h5 := hPok.2.1
  dsimp only [gName]
  -- the number
  refine ⟨_, rfl, _, rfl, pa, pvs, rfl, .inr (SqT.of epa), b, l, _, rfl, by omega, by omega, B4, fun r H5 r0 r1' B5 k5 => ?_⟩
  obtain ⟨n, rfl⟩ : ∃ n : Nat, r = (n : Int) := ⟨r.toNat, by omega⟩
  have hn : n < ps.length := by omega
  have K5 : BK b l H4 H5 := ⟨B5, k5⟩
  have T5 := tabs_keep T4 B4 k5
  dsimp only [gName]
  have epa5 := K5.tup B4 _ _ epa
  obtain ⟨u, eu, hu⟩ := paired_get2 pp (List.getElem?_eq_getElem hn)
  obtain ⟨ho, hsz⟩ := good_of hPok n _ (List.getElem?_eq_getElem hn)
  -- spoilt
  refine ⟨_, rfl, _, rfl, _, rfl, pa, pvs, ((n : Nat) : Int), u, rfl, rfl, SqT.of epa5, atI_nat eu, Nat.zero_le _, fun pl hpl => ⟨_, rfl, _, rfl, pa, pvs, rfl, .inr (SqT.of (Same.new hpl _ _ epa5)), ?_⟩⟩
  have K6 := K5.same (Same.new (o := .tup []) hpl)
  have T6 := T5.ext (Same.new (o := .tup []) hpl)
  have epl : upd H5 pl (.tup []) pl = some (.tup (natV [])) := upd_same
  refine ⟨(n, pvs.length), b, l, pl, u, ps[n], [], rfl, K6.1, epl, by decide, (fun _ h => nomatch h), SAt.keep (K6.tup B4) _ _ _ hu, by rw [← lpv]; exact ho, fun rr pq u' s' path H7 er epq hS hF hB hl hpn K7 => ?_⟩
  rw [List.nil_append] at epq hpn
  have hl : path.length ≤ 4 := by rw [List.length_nil] at hl; omega
  have K7' := K6.trans K7
  have T7 := tabs_keep T6 K6.1 K7.2
  rw [← lpv] at hB
  dsimp only at hB
  refine ⟨rr, _, rfl, SqT.of er, rfl, _, _, rfl, _, _, rfl, rfl, ?_⟩
  dsimp only [gName]
  have epa7 := K7'.tup B4 _ _ epa
  -- the rows
  refine ⟨_, rfl, _, rfl, ((n : Nat) : Int), rfl, sl_any epa7 fun p1 Ha sa ea => ⟨_, rfl, (by show 1 ≤ sizeLine; decide), fun t1 ht1 => cat_any (Same.new ht1 _ _ ea) upd_same ?_ fun p2 Hb sb eb => ?_⟩⟩
  · rw [cut_to, List.length_take]
    show min n pvs.length + 1 ≤ 1000
    omega
  have sab := sa.trans ((Same.new ht1).trans sb)
  refine ⟨_, rfl, _, rfl, _, _, rfl, rfl, _, rfl, ?_⟩
  dsimp only [tNoPart]
  refine sl_any (sab _ _ epa7) fun p3 Hc sc ec => cat_any (sc _ _ eb) ec ?_ fun p4 Hd sd ed => ?_
  · rw [cut_to, show ((n : Nat) : Int) + 1 = ((n + 1 : Nat) : Int) by omega, cut_from, List.length_append, List.length_take, List.length_drop, List.length_singleton]
    omega
  rw [cut_to, show ((n : Nat) : Int) + 1 = ((n + 1 : Nat) : Int) by omega, cut_from] at ed
  have ed : Hd p4 = some (.tup (setL pvs n u')) := ed
  have sad := (sab.trans sc).trans sd
  have K8 := K7'.same sad
  have T8 := T7.ext sad
  have epq8 := sad _ _ epq
  have hS8 := SAtO.same sad _ _ _ (SAtO.keep (Same.tupK sad) _ _ _ hS)
  have hln : (setL ps n s').length = ps.length := setL_len hn
  have hlv : (setL pvs n u').length = pvs.length := setL_len (by omega)
  have pr8 : ∀ {H' : Hp}, TupK H4 H' → SAtO H' H' 5 s' u' → Paired (FrmR H' H') (setL ps n s') (setL pvs n u') := fun k hS => paired_setL (frm_list (paired_imp pp fun _ _ h => SAt.keep k _ _ _ h) (ok_mem hPok)) n ⟨4, hS, hF⟩
  have hb12 := hB.mono (c' := 12) hsz
  have hbad : badP (setL ps n s') = some (n, path) := badP_at (by rw [setL_get hn, if_pos rfl]) (by omega) (fun j t hj e => by
    rw [hln]
    rw [setL_get hn, if_neg (by omega)] at e
    exact good_of hPok j t e) (by rw [hln]; exact hb12)
  dsimp only [gName]
  refine seq_cut (fun σ' H' => ∃ pr : Addr, σ' = [some (.ref a), some (.ref b), some (.int (0 + (i : Nat))), some (.ref pa), some (.int ((n : Nat) : Int)), some u', some (.ref pq), some (.ref pr), v8, v9] ∧ Box H' b l ∧ Tabs (dT Pt) H' ∧ TupK H4 H' ∧ H' pq = some (.tup (natV path)) ∧ BadT H' (.ref pr) n path) (fun G hG => ?_) ?_
  · have base8 : ∀ {H' : Hp}, BK b l Hd H' → G [some (.ref a), some (.ref b), some (.int (0 + (i : Nat))), some (.ref pa), some (.int ((n : Nat) : Int)), some u', some (.ref pq), some (.ref p4), v8, v9] H' := fun {H'} k => by
      have kk := K8.trans k
      have ko := K8.1.ko k.2
      exact hG _ _ ⟨p4, rfl, kk.1, tabs_keep T8 K8.1 k.2, kk.tup B4, k.tup K8.1 _ _ epq8, .inl ⟨p4, _, _, rfl, k.tup K8.1 _ _ ed, pr8 (kk.tup B4) (SAtO.sameO ko _ _ _ (SAtO.keep ko.tup _ _ _ hS8)), by rw [hln]; exact h0, by rw [hln]; omega, hbad⟩⟩
    refine ⟨_, rfl, _, _, rfl, rfl, _, rfl, pa, pvs, rfl, .inr (SqT.of (K8.tup B4 _ _ epa)), _, _, rfl, rfl, _, rfl, ?_⟩
    by_cases c : n + 1 < pvs.length
    · rw [decide_eq_true (show ((n : Nat) : Int) + 1 < ((pvs.length : Nat) : Int) by omega)]
      refine iteT ⟨_, rfl, b, l, 3, rfl, by decide, by decide, K8.1, fun r2 H9 q0 q1 B9 k9 => ⟨rfl, _, rfl, ?_⟩⟩
      have K9 : BK b l Hd H9 := ⟨B9, k9⟩
      rw [dec_intV]
      by_cases c2 : r2 = 0
      · rw [decide_eq_true c2]
        have ed9 := K9.tup K8.1 _ _ ed
        refine iteT ⟨_, rfl, 1, rfl, -1, rfl, sl_any ed9 fun p5 He se ee => ⟨(by show 1 ≤ sizeLine; decide), fun t5 ht5 => cat_any (Same.new ht5 _ _ ee) upd_same ?_ fun p6 Hf sf ef => ?_⟩⟩
        · rw [cut_init _ (by rw [hlv]; omega), List.length_take, hlv]
          show min (pvs.length - 1) pvs.length + 1 ≤ 1000
          omega
        rw [cut_init _ (by rw [hlv]; omega)] at ef
        have sg := se.trans ((Same.new (o := .tup [.non]) ht5).trans sf)
        have K10 := K9.same sg
        have kk := K8.trans K10
        have ko := K8.1.ko K10.2
        have hlast : setL (setL pvs n u') (pvs.length - 1) .non = (setL pvs n u').take ((setL pvs n u').length - 1) ++ [.non] := setL_setL c
        rw [← hlast] at ef
        have hln2 : (setL (setL ps n s') (ps.length - 1) (.use 0)).length = ps.length := by rw [setL_len (by rw [hln]; omega), hln]
        refine hG _ _ ⟨p6, rfl, kk.1, tabs_keep T8 K8.1 K10.2, kk.tup B4, K10.tup K8.1 _ _ epq8, .inl ⟨p6, setL (setL ps n s') (ps.length - 1) (.use 0), _, rfl, ef, ?_, by rw [hln2]; exact h0, by rw [hln2]; omega, ?_⟩⟩
        · rw [lpv]
          exact paired_setL (pr8 (kk.tup B4) (SAtO.sameO ko _ _ _ (SAtO.keep ko.tup _ _ _ hS8))) _ ⟨0, .inl ⟨rfl, .inl (.inl rfl)⟩, True.intro⟩
        · refine badP_at (by rw [setL_get (by rw [hln]; omega), if_neg (by omega), setL_get hn, if_pos rfl]) (by omega) (fun j t hj e => ?_) (by rw [hln2]; exact hb12)
          rw [hln2]
          rw [setL_get (by rw [hln]; omega), if_neg (by omega), setL_get hn, if_neg (by omega)] at e
          exact good_of hPok j t e
      · rw [decide_eq_false c2]
        exact iteF (base8 K9)
    · rw [decide_eq_false (show ¬ ((n : Nat) : Int) + 1 < ((pvs.length : Nat) : Int) by omega)]
      exact iteF (iteF (base8 (BK.refl K8.1)))
  rintro σ H9 ⟨pr, rfl, B9, T9, k9, epq9, hb9⟩
  -- all doors refuse the rows
  refine seq_rel (R := fun H' => Box H' b l ∧ Tabs (dT Pt) H' ∧ TupK H4 H') (b := false) (fun Q q => ⟨_, rfl, _, n, path, rfl, hb9, T9, fun Ld fs H10 e10 t10 eL10 hl10 href => ⟨_, rfl, _, rfl, (by show 3 ≤ sizeLine; decide), fun d hd => ?_⟩⟩) (fun z => nomatch z) (fun _ H10 R10 => ?_)
  · have sd := Same.new (o := .tup [.str "BadPaper", .int ((n : Nat) : Int), .ref pq]) hd
    have epq10 := ExtN.tup e10 _ _ epq9
    refine ⟨Ld, d, fs, 0, DuQ n path, rfl, by decide, sd _ _ eL10, hl10, fun f hf => ⟨(href f hf).1.same sd, (href f hf).2.same sd⟩, fun H' t vals s hdu et => ?_, DuQ.keep, fun H11 s11 => ⟨_, rfl, q H11 ⟨(box_ext B9 e10).same (sd.trans s11), t10.ext (sd.trans s11), (k9.trans (ExtN.tup e10)).trans (Same.tupK (sd.trans s11))⟩⟩⟩
    obtain ⟨qq, rfl, eqq⟩ := hdu
    exact alkQ et (s _ _ upd_same) eqq (s _ _ (sd _ _ epq10)) (by omega)
  obtain ⟨B10, T10, k10⟩ := R10
  -- great
  refine ⟨_, rfl, _, rfl, b, l, pa, ps, pvs, rfl, B10, k10 _ _ epa, paired_imp pp fun _ _ h => SAt.keep k10 _ _ _ h, hPok, fun rg qg pg x n2 path2 H11 eg1 eg2 eg3 hl2 hpn2 hn2 hb2 K11 => ⟨rg, _, rfl, SqT.of eg1, rfl, _, _, rfl, _, _, rfl, rfl, ?_⟩⟩
  have T11 := tabs_keep T10 B10 K11.2
  dsimp only [gName]
  refine one_rel (R := fun H' => Box H' b l ∧ Tabs (dT Pt) H') (b := false) (fun Q q => ⟨_, rfl, _, n2, path2, rfl, hb2, T11, fun Ld fs H12 e12 t12 eL12 hl12 href => ⟨_, rfl, qg, _, 0, _, rfl, rfl, SqT.of (ExtN.tup e12 _ _ eg2), at0, _, rfl, qg, _, 1, _, rfl, rfl, SqT.of (ExtN.tup e12 _ _ eg2), at1, (by show 3 ≤ sizeLine; decide), fun d hd => ?_⟩⟩) (fun z => nomatch z) (fun _ H12 R12 => ⟨_, _, _, _, _, _, _, _, rfl, R12⟩)
  have sd := Same.new (o := .tup [.str "BadPaper", .int ((n2 : Nat) : Int), .ref pg]) hd
  have epg12 := ExtN.tup e12 _ _ eg3
  refine ⟨Ld, d, fs, 0, DuQ n2 path2, rfl, by decide, sd _ _ eL12, hl12, fun f hf => ⟨(href f hf).1.same sd, (href f hf).2.same sd⟩, fun H' t vals s hdu et => ?_, DuQ.keep, fun H13 s13 => ⟨_, rfl, q H13 ⟨(box_ext K11.1 e12).same (sd.trans s13), t12.ext (sd.trans s13)⟩⟩⟩
  obtain ⟨qq, rfl, eqq⟩ := hdu
  exact alkQ et (s _ _ upd_same) eqq (s _ _ (sd _ _ epg12)) (by omega)
end
end MS
end
section
set_option maxRecDepth 100000
set_option maxHeartbeats 4000000
namespace MS
open PySem L2
/-! ### the head: what the top has left -/
section
variable {w : World} {K : PySem.W.Frag} {h : Heap} {mg : Str → Option Value}
theorem fa_glo (c : He.SaysD K3H.fa K3H.fn K) {x : Str} (hx : x ∈ K3H.gloL) : (He.Fa.glo x).ok K = true := c.facts (List.mem_append_left _ (List.mem_map_of_mem hx))
theorem fa_free (c : He.SaysD K3H.fa K3H.fn K) {x : Str} (hx : x ∈ K3H.freeL) : (He.Fa.free x).ok K = true := c.facts (List.mem_append_right _ (List.mem_append_left _ (List.mem_map_of_mem hx)))
theorem fa_rest (c : He.SaysD K3H.fa K3H.fn K) (i : Nat) {f : He.Fa} (hi : K3H.restF[i]? = some f := by rfl) : f.ok K = true := c.facts (List.mem_append_right _ (List.mem_append_right _ (List.mem_append_left _ (List.mem_of_getElem? hi))))
theorem fa_err (c : He.SaysD K3H.fa K3H.fn K) {x : Str} (hx : x ∈ K3H.errL) : (He.Fa.exm x "MarkError" true).ok K = true := c.facts (List.mem_append_right _ (List.mem_append_right _ (List.mem_append_right _ (List.mem_map_of_mem (f := fun x => He.Fa.exm x "MarkError" true) hx))))
theorem fn_0 (c : He.SaysD K3H.fa K3H.fn K) (i : Nat) {d : He.DefD} (hi : K3H.fn0[i]? = some d := by rfl) : ∃ fd, FunD K d.name d.qual d.params d.body d.scope (d.dvs K) (d.kws K) (He.fAd K d.at_) fd := c.defs (List.mem_append_left _ (List.mem_of_getElem? hi))
theorem fn_1 (c : He.SaysD K3H.fa K3H.fn K) (i : Nat) {d : He.DefD} (hi : K3H.fn1[i]? = some d := by rfl) : ∃ fd, FunD K d.name d.qual d.params d.body d.scope (d.dvs K) (d.kws K) (He.fAd K d.at_) fd := c.defs (List.mem_append_right _ (List.mem_append_left _ (List.mem_of_getElem? hi)))
theorem fn_2 (c : He.SaysD K3H.fa K3H.fn K) (i : Nat) {d : He.DefD} (hi : K3H.fn2[i]? = some d := by rfl) : ∃ fd, FunD K d.name d.qual d.params d.body d.scope (d.dvs K) (d.kws K) (He.fAd K d.at_) fd := c.defs (List.mem_append_right _ (List.mem_append_right _ (List.mem_of_getElem? hi)))
noncomputable def mkDef (X : K.In h) (G : h.Ns mainGlobals mg) (x : Str) (st : Stmt) (ps : List Str) (hg : (He.Fa.glo x).ok K = true) (hd : ∃ fd, FnP K x st (He.ga K x) fd) (hb : ∀ fd, FnP K x st (He.ga K x) fd → Binds K fd ps []) : Def K mg x st ps :=
  ⟨He.ga K x, hd.choose, hd.choose_spec, He.glo_ok X G hg, hb _ hd.choose_spec⟩
end
theorem tupAt_ok {K : PySem.W.Frag} {a : Addr} {vs : List V} (h : K3H.tupAt K a vs = true) (H : Hp) : SqT K H a vs := by
  unfold K3H.tupAt at h
  cases q : K.lookup a with
  | none =>
    rw [q] at h
    cases h
  | some o =>
    obtain ⟨oc, od, dt, osl⟩ := o
    rw [q] at h
    cases oc with
    | type c =>
      cases dt with
      | seq its n =>
        obtain ⟨g1, g2⟩ := He.ba (show (decide (c = "tuple") && (decide (its.size ≤ sizeLine) && He.relAll vs its.toList)) = true from h)
        obtain ⟨g3, g4⟩ := He.ba g2
        exact .inr ⟨_, its, n, q, congrArg Value.type (of_decide_eq_true g1), rfl, of_decide_eq_true g3, He.relAll_ok g4⟩
      | _ => cases h
    | _ => cases dt <;> cases h
theorem ent_ok {w : World} {K : PySem.W.Frag} {x k : Str} {vs : List V} (hd : ∃ es n, KDict K w (He.ga K x) es n) (h : K3H.entB x k vs K = true) : ∃ t, KDct K w (He.ga K x) k (.ref t) ∧ ∀ H, SqT K H t vs := by
  obtain ⟨h1, h2⟩ := He.ba h
  obtain ⟨es, n, l, kl, _⟩ := hd
  exact ⟨K3H.inD x k K, ⟨es, n, _, l, kl, He.eqO_ok h1, rfl⟩, fun H => tupAt_ok h2 H⟩
section
variable {w : World} {K : PySem.W.Frag} {h : Heap} {mg : Str → Option Value}
theorem excCB_ok {D : Addr} (h : K3H.excCB K D = true) : ExcC K D := by
  obtain ⟨h1, h⟩ := He.ba h
  obtain ⟨h2, h⟩ := He.ba h
  obtain ⟨h3, h⟩ := He.ba h
  obtain ⟨h4, h⟩ := He.ba h
  obtain ⟨h5, h⟩ := He.ba h
  obtain ⟨h6, h⟩ := He.ba h
  obtain ⟨h7, h8⟩ := He.ba h
  exact ⟨He.eqO_ok h1, He.eqO_ok h2, of_decide_eq_true h3, h4, He.eqO_ok h5, He.eqO_ok h6, of_decide_eq_true h7, of_decide_eq_true h8⟩
theorem ptx (X : K.In h) (G : h.Ns mainGlobals mg) (c : He.SaysT K3H.fa K3H.fn K3H.ts w K) (e : K3H.exT K = true) : PTx w K mg := by
  have d := c.d
  obtain ⟨_, e⟩ := He.ba e
  obtain ⟨e1, e⟩ := He.ba e
  obtain ⟨e2, e⟩ := He.ba e
  obtain ⟨e3, e⟩ := He.ba e
  obtain ⟨e4, e5⟩ := He.ba e
  have tS := c.tab 0 (t := (fun K => He.ga K "SHAPES", K3H.shapesV.map (·.1))) rfl
  have tB := c.tab 1 (t := (fun K => He.ga K "BOUNDS", K3H.boundsV.map (·.1))) rfl
  have bS : ∀ p ∈ K3H.boundsV, ∃ t, KDct K w (He.ga K "BOUNDS") p.1 (.ref t) ∧ ∀ H, SqT K H t p.2 := fun p hp => ent_ok tB (List.all_eq_true.mp e5 p hp)
  obtain ⟨t1, k1, q1⟩ := bS ("points", [.int 1, .int 9]) List.mem_cons_self
  obtain ⟨t2, k2, q2⟩ := bS ("limit", [.int 0, .int 30]) (List.mem_cons_of_mem _ List.mem_cons_self)
  have hSh : ∀ p ∈ shapesL, ∃ t, KDct K w (He.ga K "SHAPES") p.1 (.ref t) ∧ ∀ H, SqT K H t (p.2.map V.str) := fun p hp => by
    have hm : (p.1, p.2.map V.str) ∈ K3H.shapesV := by
      have hp' : (p.1, p.2.map V.str) ∈ shapesL.map fun p => (p.1, p.2.map V.str) := List.mem_map_of_mem (f := fun p : Str × List Str => (p.1, p.2.map V.str)) hp
      exact hp'
    exact ent_ok (x := "SHAPES") (k := p.1) (vs := p.2.map V.str) tS (List.all_eq_true.mp e4 _ hm)
  exact {
    words := ⟨_, He.glo_ok X G (fa_glo d (x := "WORDS") (by decide +kernel)), fun H => He.tupB_ok e1 H⟩
    right := He.str_ok X G (fa_rest d 0)
    wrong := He.str_ok X G (fa_rest d 1)
    carried := He.str_ok X G (fa_rest d 2)
    mostSteps := He.int_ok X G (fa_rest d 3)
    mostWithin := He.int_ok X G (fa_rest d 4)
    mostInPaper := He.int_ok X G (fa_rest d 5)
    mostInScheme := He.int_ok X G (fa_rest d 6)
    longest := He.int_ok X G (fa_rest d 7)
    mostE := He.int_ok X G (fa_rest d 8)
    mostW := He.int_ok X G (fa_rest d 9)
    earners := ⟨_, He.glo_ok X G (fa_glo d (x := "EARNERS") (by decide +kernel)), fun H => He.tupB_ok e2 H⟩
    watchers := ⟨_, He.glo_ok X G (fa_glo d (x := "WATCHERS") (by decide +kernel)), fun H => He.tupB_ok e3 H⟩
    shapes := ⟨_, He.glo_ok X G (fa_glo d (x := "SHAPES") (by decide +kernel)), by
      obtain ⟨_, _, _, _, z⟩ := tS
      exact z, hSh⟩
    bounds := ⟨_, He.glo_ok X G (fa_glo d (x := "BOUNDS") (by decide +kernel)), t1, t2, k1, q1, k2, q2⟩
    free := fun x hx => He.free_ok X G (fa_free d (show x ∈ K3H.freeL from (List.mem_append_left (["super", "ValueError"] : List Str) hx : x ∈ freeL ++ (["super", "ValueError"] : List Str)))) }
noncomputable def errF (X : K.In h) (G : h.Ns mainGlobals mg) (d : He.SaysD K3H.fa K3H.fn K) (e : K3H.ex K = true) : ErrF K mg := 
  have e1 := (He.ba (He.ba e).2).1
  have er : ∀ i, i < 6 → K3H.errB K i = true := fun i hi => List.all_eq_true.mp e1 i (List.mem_range.mpr hi)
  have parts : ∀ i, i < 6 → K3H.excCB K (He.ga K (errNm i)) = true ∧ K3H.kitB K i = true ∧ PySem.W.kitOne K (.ref (He.ga K (errNm i))) (.type "ValueError") = some true ∧ xfB K (He.ga K (errNm i)) = true := fun i hi => by
    obtain ⟨h1, h⟩ := He.ba (er i hi)
    obtain ⟨h2, h⟩ := He.ba h
    obtain ⟨h3, h4⟩ := He.ba h
    exact ⟨h1, h2, of_decide_eq_true h3, h4⟩
  { A := fun i => He.ga K (errNm i)
    CM := He.ga K "MarkError"
    gP := He.glo_ok X G (fa_glo d (x := "BadPaper") (by decide +kernel))
    gW := He.glo_ok X G (fa_glo d (x := "BadWork") (by decide +kernel))
    gS := He.glo_ok X G (fa_glo d (x := "BadStep") (by decide +kernel))
    gC := He.glo_ok X G (fa_glo d (x := "BadCount") (by decide +kernel))
    gN := He.glo_ok X G (fa_glo d (x := "NoWork") (by decide +kernel))
    gT := He.glo_ok X G (fa_glo d (x := "BadText") (by decide +kernel))
    gM := He.glo_ok X G (fa_glo d (x := "MarkError") (by decide +kernel))
    ve := He.free_ok X G (fa_free d (x := "ValueError") (by decide +kernel))
    isi := He.free_ok X G (fa_free d (x := "isinstance") (by decide +kernel))
    ex := fun i hi => excCB_ok (parts i hi).1
    kit := fun i j hi hj => of_decide_eq_true (List.all_eq_true.mp (parts i hi).2.1 j (List.mem_range.mpr hj))
    kv := fun i hi => (parts i hi).2.2.1
    exm := fun i hi => by
      have hm : errNm i ∈ K3H.errL := by
        have key : ∀ i, i < 6 → errNm i ∈ K3H.errL := by decide +kernel
        exact key i hi
      exact He.exm_ok (fa_err d hm)
    xf := fun i hi => xfB_ok (parts i hi).2.2.2
    no0 := He.noat_ok (fa_rest d 10)
    no1 := He.noat_ok (fa_rest d 11)
    no2 := He.noat_ok (fa_rest d 12)
    no3 := He.noat_ok (fa_rest d 13) }
noncomputable def mkDefM (C m q : Str) (st : Stmt) (ps : List Str) (hm : (He.Fa.meth C m).ok K = true) (hd : ∃ fd, FunD K m q (defArgs st) (defBody st) (defScope st) [] [] (He.ma K (He.ga K C) m) fd) (hb : ∀ fd, FunD K m q (defArgs st) (defBody st) (defScope st) [] [] (He.ma K (He.ga K C) m) fd → Binds K fd ps []) : DefM K (He.ga K C) m q st ps :=
  ⟨He.ma K (He.ga K C) m, hd.choose, hd.choose_spec, He.meth_ok hm, hb _ hd.choose_spec⟩
theorem init_fd {P : Program} {dd : HeY.InD} (Y : HeY.SupX P K dd) (hn : K3H.noDfl K (He.ma K (He.ga K dd.cls) "__init__") = true) : ∃ (oc : Value) (od : Option Addr) (osl : Array (Option Value)) (kV doc pm : Value) (an : Option Addr) (ct : Value), K.lookup (He.ma K (He.ga K dd.cls) "__init__") = some ⟨oc, od, .func (PySem.W.ksFn "__init__" dd.qual dd.params dd.body dd.scope .none kV doc pm an (.ref (HeY.cdOf K (He.ma K (He.ga K dd.cls) "__init__"))) ct (HeY.ccOf K (He.ma K (He.ga K dd.cls) "__init__"))), osl⟩ := by
  obtain ⟨oc, od, osl, dV, kV, doc, pm, an, ct, lk⟩ := Y.c.fn
  unfold K3H.noDfl at hn
  rw [lk] at hn
  obtain rfl : dV = .none := of_decide_eq_true hn
  exact ⟨oc, od, osl, kV, doc, pm, an, ct, lk⟩
theorem step_miss (G : h.Ns mainGlobals mg) (X : K.In h) (c : He.SaysT K3H.fa K3H.fn K3H.ts w K) (e : K3H.exT K = true) : ∀ a, mg "SHAPES" = some (.ref a) → KMiss K w a "Step" := fun a ha => by
  have d := c.d
  obtain ⟨e0, _⟩ := He.ba e
  have tS := c.tab 0 (t := (fun K => He.ga K "SHAPES", K3H.shapesV.map (·.1))) rfl
  have g := He.glo_ok X G (fa_glo d (x := "SHAPES") (by decide +kernel))
  rw [g] at ha
  cases ha
  obtain ⟨es, n, l, kl, low⟩ := tS
  exact ⟨es, n, l, kl, low, He.eqO_ok e0⟩
end
end MS
end
section
set_option maxRecDepth 100000
set_option maxHeartbeats 4000000
namespace MS
open PySem L2
section
set_option maxHeartbeats 0
theorem facts {P : Program} {w : World} {K : PySem.W.Frag} {h : Heap} {mg : Str → Option Value} {f : Addr} (hfile : P.main.file = K3H.file) (hsup : (P.main.scope.names.lookup ("super" : Str)).isSome = false) (X : K.In h) (G : h.Ns mainGlobals mg) (hfa : mg ("law" : Str) = some (.ref f)) (c : HeY.SaysY K3H.fa K3H.fn K3H.ts K3H.tf K3H.xs K3H.ex w h K) :
    ∃ fd : FuncData, (∀ (s : Shared) (v : Value), BindsTo s fd ⟨[v], []⟩ [("_law_script", v)]) ∧ ∀ base : Heap, K.In base → base.Ns mainGlobals mg → LamX.TabB base mg (He.cT K ("_law_doors", none)).1 (He.cT K ("_law_doors", none)).2 → FnOk P w K mg base CX0 11 f fd ["_law_script"] (spLaw K (He.cT K ("_law_doors", none)).2) := by
  have d := c.x.t.d
  obtain ⟨e1, e⟩ := He.ba c.x.more
  have T := ptx (w := w) X G c.x.t e1
  let F := errF X G d c.x.more
  have hms := step_miss (w := w) G X c.x.t e1
  obtain ⟨e2, ep⟩ := He.ba e
  obtain ⟨epa, epb⟩ := He.ba ep
  have i0 : HeY.fnY K dPaper.cls = dPaper.val := by
    have := c.inits
    exact (List.cons.inj this).1
  have YP : HeY.SupX P K dPaper := HeY.supB_ok i0 epa hfile
  have msu : mg "super" = none := He.free_ok X G (fa_free d (x := "super") (by decide +kernel))
  obtain ⟨oc2, od2, osl2, kV2, doc2, pm2, an2, ct2, lk2⟩ := init_fd YP epb
  let DP : DPaper K mg := {
    DN := (mkDef X G "is_number" s_is_number ["thing"] (fa_glo d (by decide +kernel)) (fn_0 d 0 (d := K3H.dG "is_number" s_is_number)) fun fd F => F.bindsN fun _ _ _ _ _ _ us hl => match us, hl with | [_], _ => rfl)
    DF := (mkDef X G "fits" s_fits ["part", "kind", "number", "many"] (fa_glo d (by decide +kernel)) (fn_0 d 1 (d := K3H.dG "fits" s_fits)) fun fd F => F.bindsN fun _ _ _ _ _ _ us hl => match us, hl with | [_, _, _, _], _ => rfl)
    DB := (mkDef X G "can_be" s_can_be ["thing", "number", "many"] (fa_glo d (by decide +kernel)) (fn_0 d 2 (d := K3H.dG "can_be" s_can_be)) fun fd F => F.bindsN fun _ _ _ _ _ _ us hl => match us, hl with | [_, _, _], _ => rfl)
    DW := (mkDef X G "word_in" s_word_in ["scheme"] (fa_glo d (by decide +kernel)) (fn_0 d 3 (d := K3H.dG "word_in" s_word_in)) fun fd F => F.bindsN fun _ _ _ _ _ _ us hl => match us, hl with | [_], _ => rfl)
    DI := (mkDef X G "within" s_within ["scheme"] (fa_glo d (by decide +kernel)) (fn_0 d 4 (d := K3H.dG "within" s_within)) fun fd F => F.bindsN fun _ _ _ _ _ _ us hl => match us, hl with | [_], _ => rfl)
    DP := (mkDef X G "placed" s_placed ["schemes", "place"] (fa_glo d (by decide +kernel)) (fn_0 d 5 (d := K3H.dG "placed" s_placed)) fun fd F => F.bindsN fun _ _ _ _ _ _ us hl => match us, hl with | [_, _], _ => rfl)
    DS := (mkDef X G "schemes_in" s_schemes_in ["paper", "number"] (fa_glo d (by decide +kernel)) (fn_0 d 6 (d := K3H.dG "schemes_in" s_schemes_in)) fun fd F => F.bindsN fun _ _ _ _ _ _ us hl => match us, hl with | [_, _], _ => rfl)
    DM := (mkDef X G "many_of" s_many_of ["names", "parts"] (fa_glo d (by decide +kernel)) (fn_0 d 7 (d := K3H.dG "many_of" s_many_of)) fun fd F => F.bindsN fun _ _ _ _ _ _ us hl => match us, hl with | [_, _], _ => rfl)
    DC := (mkDef X G "check_paper" s_check_paper ["paper"] (fa_glo d (by decide +kernel)) (fn_0 d 8 (d := K3H.dG "check_paper" s_check_paper)) fun fd F => F.bindsN fun _ _ _ _ _ _ us hl => match us, hl with | [_], _ => rfl)
    DO := (mkDef X G "parts_of" s_parts_of ["paper", "scheme"] (fa_glo d (by decide +kernel)) (fn_0 d 9 (d := K3H.dG "parts_of" s_parts_of)) fun fd F => F.bindsN fun _ _ _ _ _ _ us hl => match us, hl with | [_, _], _ => rfl)
    DX := (mkDef X G "words_in" s_words_in ["paper", "scheme"] (fa_glo d (by decide +kernel)) (fn_0 d 10 (d := K3H.dG "words_in" s_words_in)) fun fd F => F.bindsN fun _ _ _ _ _ _ us hl => match us, hl with | [_, _], _ => rfl)
    DZ := (mkDef X G "words_of" s_words_of ["paper"] (fa_glo d (by decide +kernel)) (fn_0 d 11 (d := K3H.dG "words_of" s_words_of)) fun fd F => F.bindsN fun _ _ _ _ _ _ us hl => match us, hl with | [_], _ => rfl) }
  let DD : DDoors K mg := {
    DWo := (mkDef X G "words_of" s_words_of ["paper"] (fa_glo d (by decide +kernel)) (fn_0 d 11 (d := K3H.dG "words_of" s_words_of)) fun fd F => F.bindsN fun _ _ _ _ _ _ us hl => match us, hl with | [_], _ => rfl)
    DEa := (mkDef X G "earned" s_earned ["paper", "work"] (fa_glo d (by decide +kernel)) (fn_0 d 13 (d := K3H.dG "earned" s_earned)) fun fd F => F.bindsN fun _ _ _ _ _ _ us hl => match us, hl with | [_, _], _ => rfl)
    DMa := (mkDef X G "marked" s_marked ["paper", "work"] (fa_glo d (by decide +kernel)) (fn_0 d 14 (d := K3H.dG "marked" s_marked)) fun fd F => F.bindsN fun _ _ _ _ _ _ us hl => match us, hl with | [_, _], _ => rfl)
    DMd := (mkDef X G "made" s_made ["paper"] (fa_glo d (by decide +kernel)) (fn_1 d 0 (d := K3H.dG "made" s_made)) fun fd F => F.bindsN fun _ _ _ _ _ _ us hl => match us, hl with | [_], _ => rfl)
    DPd := (mkDef X G "parted" s_parted ["one", "other"] (fa_glo d (by decide +kernel)) (fn_0 d 15 (d := K3H.dG "parted" s_parted)) fun fd F => F.bindsN fun _ _ _ _ _ _ us hl => match us, hl with | [_, _], _ => rfl)
    DSn := (mkDef X G "span" s_span ["paper", "work"] (fa_glo d (by decide +kernel)) (fn_0 d 16 (d := K3H.dG "span" s_span)) fun fd F => F.bindsN fun _ _ _ _ _ _ us hl => match us, hl with | [_, _], _ => rfl)
    DEb := (mkDef X G "earnable" s_earnable ["paper"] (fa_glo d (by decide +kernel)) (fn_0 d 17 (d := K3H.dG "earnable" s_earnable)) fun fd F => F.bindsN fun _ _ _ _ _ _ us hl => match us, hl with | [_], _ => rfl)
    DWr := (mkDef X G "written" s_written ["paper"] (fa_glo d (by decide +kernel)) (fn_1 d 1 (d := K3H.dG "written" s_written)) fun fd F => F.bindsN fun _ _ _ _ _ _ us hl => match us, hl with | [_], _ => rfl)
    DPs := (mkDef X G "points_of" s_points_of ["rows"] (fa_glo d (by decide +kernel)) (fn_0 d 12 (d := K3H.dG "points_of" s_points_of)) fun fd F => F.bindsN fun _ _ _ _ _ _ us hl => match us, hl with | [_], _ => rfl) }
  let D : D01 K mg := {
    DBg := (mkDef X G "_law_begun" s_L_begun ["_law_script"] (fa_glo d (by decide +kernel)) (fn_1 d 2 (d := K3H.dG "_law_begun" s_L_begun)) fun fd F => F.bindsN fun _ _ _ _ _ _ us hl => match us, hl with | [_], _ => rfl)
    DT := (mkDef X G "_law_take" s_L_take ["_law_box", "_law_many"] (fa_glo d (by decide +kernel)) (fn_1 d 3 (d := K3H.dG "_law_take" s_L_take)) fun fd F => F.bindsN fun _ _ _ _ _ _ us hl => match us, hl with | [_, _], _ => rfl)
    DAk := (mkDef X G "_law_alike" s_L_alike ["_law_found", "_law_due"] (fa_glo d (by decide +kernel)) (fn_1 d 4 (d := K3H.dG "_law_alike" s_L_alike)) fun fd F => F.bindsN fun _ _ _ _ _ _ us hl => match us, hl with | [_, _], _ => rfl)
    DTo := (mkDef X G "_law_told" s_L_told ["_law_work"] (fa_glo d (by decide +kernel)) (fn_1 d 5 (d := K3H.dG "_law_told" s_L_told)) fun fd F => F.bindsN fun _ _ _ _ _ _ us hl => match us, hl with | [_], _ => rfl)
    DAl := (mkDef X G "_law_all" s_L_all ["_law_works", "_law_due"] (fa_glo d (by decide +kernel)) (fn_1 d 6 (d := K3H.dG "_law_all" s_L_all)) fun fd F => F.bindsN fun _ _ _ _ _ _ us hl => match us, hl with | [_, _], _ => rfl)
    DLe := (mkDef X G "_law_letters" s_L_letters ["_law_box"] (fa_glo d (by decide +kernel)) (fn_1 d 7 (d := K3H.dG "_law_letters" s_L_letters)) fun fd F => F.bindsN fun _ _ _ _ _ _ us hl => match us, hl with | [_], _ => rfl)
    DSc := (mkDef X G "_law_scheme" s_L_scheme ["_law_box", "_law_letters_here", "_law_left", "_law_deep", "_law_uses"] (fa_glo d (by decide +kernel)) (fn_1 d 8 (d := K3H.dG "_law_scheme" s_L_scheme)) fun fd F => F.bindsN fun _ _ _ _ _ _ us hl => match us, hl with | [_, _, _, _, _], _ => rfl)
    DCo := (mkDef X G "_law_counted" s_L_counted ["_law_scheme_here", "_law_uses"] (fa_glo d (by decide +kernel)) (fn_1 d 9 (d := K3H.dG "_law_counted" s_L_counted)) fun fd F => F.bindsN fun _ _ _ _ _ _ us hl => match us, hl with | [_, _], _ => rfl)
    DPa := (mkDef X G "_law_paper" s_L_paper ["_law_box", "_law_letters_here"] (fa_glo d (by decide +kernel)) (fn_1 d 10 (d := K3H.dG "_law_paper" s_L_paper)) fun fd F => F.bindsN fun _ _ _ _ _ _ us hl => match us, hl with | [_, _], _ => rfl)
    DOd := (mkDef X G "_law_odd" s_L_odd ["_law_box", "_law_number", "_law_many"] (fa_glo d (by decide +kernel)) (fn_1 d 11 (d := K3H.dG "_law_odd" s_L_odd)) fun fd F => F.bindsN fun _ _ _ _ _ _ us hl => match us, hl with | [_, _, _], _ => rfl)
    DSp := (mkDef X G "_law_spoilt" s_L_spoilt ["_law_box", "_law_scheme_here", "_law_place", "_law_number", "_law_many"] (fa_glo d (by decide +kernel)) (fn_1 d 12 (d := K3H.dG "_law_spoilt" s_L_spoilt)) fun fd F => F.bindsN fun _ _ _ _ _ _ us hl => match us, hl with | [_, _, _, _, _], _ => rfl)
    DGr := (mkDef X G "_law_great" s_L_great ["_law_box", "_law_paper_here"] (fa_glo d (by decide +kernel)) (fn_1 d 13 (d := K3H.dG "_law_great" s_L_great)) fun fd F => F.bindsN fun _ _ _ _ _ _ us hl => match us, hl with | [_, _], _ => rfl)
    DDo := (mkDef X G "_law_doors" s_L_doors ["_law_bad"] (fa_glo d (by decide +kernel)) (fn_1 d 14 (d := K3H.dG "_law_doors" s_L_doors)) fun fd F => F.bindsN fun _ _ _ _ _ _ us hl => match us, hl with | [_], _ => rfl) }
  let Y : HCls K mg (He.ga K "Heap") := {
    mgC := He.glo_ok X G (fa_glo d (x := "Heap") (by decide +kernel))
    makes := (He.mkr_ok (fa_rest d 14)).makes
    kp := (He.mkr_ok (fa_rest d 14)).kp
    DI := mkDefM "Heap" "__init__" "Heap.__init__" s_H_init ["self", "paper"] (fa_rest d 15) (fn_2 d 0 (d := K3H.dM "Heap" "__init__" "Heap.__init__" s_H_init)) fun fd F => F.bindsN fun _ _ _ _ _ _ us hl => match us, hl with | [_, _], _ => rfl }
  let DW : Def K mg "law" s_law ["_law_script"] := (mkDef X G "law" s_law ["_law_script"] (fa_glo d (by decide +kernel)) (fn_1 d 15 (d := K3H.dG "law" s_law)) fun fd F => F.bindsN fun _ _ _ _ _ _ us hl => match us, hl with | [_], _ => rfl)
  have e : f = DW.f := by
    have e := hfa.symm.trans DW.g
    cases e
    rfl
  subst e
  have hc : CodeAt K D.DDo.f (He.cT K ("_law_doors", none)).1 := fun oc od fd osl c' lk ec => (He.codeOf_eq (p := ("_law_doors", none)) lk ec).symm
  refine ⟨DW.fd, fun s v => FunD.bindsA (ps := ["_law_script"]) DW.F (fun _ _ _ _ _ _ us hl => match us, hl with | [_], _ => rfl) s [v] rfl, fun base _ _ TB => ?_⟩
  let RP : Rsr2 P w K mg base := ⟨He.ga K "BadPaper", _, _, YP.c.T, YP.init, YP.ty, init_paper YP hsup msu (He.noat_ok (fa_rest d 10)) (He.noat_ok (fa_rest d 11)) ⟨oc2, od2, osl2, lk2⟩, .all fun us hl => (match us, hl with | [_, _, _], _ => rfl), He.glo_ok X G (fa_glo d (x := "BadPaper") (by decide +kernel))⟩
  exact ok_law T hms F RP rfl DP DD Y D TB hc DW
end
end MS
end
set_option Elab.async false
open PySem PySem.W PySem.Calls PyProof.Rows
set_option maxRecDepth 100000 in
set_option maxHeartbeats 0 in
theorem PySem.Challenge.cw_markscript_k01_papers_refused_holds : PySem.Challenge.rw_markscript_k01_papers_refused.Holds := by
  w_on; o_law
  refine HandSHeadRun.head_any (r := OpenLaw.row PySem.Challenge.rw_markscript_k01_papers_refused) (q := view (OpenLaw.row PySem.Challenge.rw_markscript_k01_papers_refused).prog [95]) (H := K3H.hk) (ob := K3H.ob) (M := 6000) (loose := K3H.names) (d := HandSHeadRun.topDef (OpenLaw.row PySem.Challenge.rw_markscript_k01_papers_refused).prog 95) (kwd := []) K3H.ob_eq
    (by kernel_rfl) (fun s => by kernel_rfl) K3H.run (by kernel_rfl) (by kernel_rfl) (by kernel_rfl) (by rfl) (by first | assumption | decide +kernel) (by decide +kernel) ⟨rfl, rfl, rfl, rfl, rfl, by decide +kernel⟩ ?hw ?hc
  case hw => w_witness2
  case hc =>
    refine LamX.walk_ofTsE (l := PySem.Challenge.rw_markscript_k01_papers_refused) (n := 63) (k := 11) (x := "_law_script") (CX := fun _ => L2.CX0) rfl (by decide) (by kernel_rfl) ⟨rfl, by decide, by decide⟩ ?F (fun _ _ _ _ _ z => z)
    intro w mg fa h Y G hmg0
    obtain ⟨K, KX, c⟩ := Y
    have hmg : mg ("law" : PySem.Str) = some (.ref fa) := by
      have e : (HandSHeadRun.topDef (OpenLaw.row PySem.Challenge.rw_markscript_k01_papers_refused).prog 95).name = ("law" : PySem.Str) := by kernel_rfl
      rw [← e]
      exact hmg0
    obtain ⟨fd, hb, hF⟩ := MS.facts (P := (PySem.Challenge.rw_markscript_k01_papers_refused).prog) (w := w) (by kernel_rfl) (by kernel_rfl) KX G hmg c
    have hm : (("_law_doors", none) : He.Defn) ∈ K3H.tf := List.mem_cons_self
    have one : ∀ p ∈ [He.cT K ("_law_doors", none)], p = He.cT K ("_law_doors", none) := fun p hp => List.mem_singleton.mp hp
    exact ⟨K, KX, fd, [He.cT K ("_law_doors", none)], MS.spLaw K (He.cT K ("_law_doors", none)).2, fun p hp => by rw [one p hp]; exact c.x.empty _ hm, fun p hp => by rw [one p hp]; exact c.x.out _ hm, fun p hp => by rw [one p hp]; exact PySem.W.codeHd_of_K KX (c.x.hd _ hm), hb,
      fun H a ns hl _ hT hS => ⟨a, ns, rfl, hS, hl, hT _ List.mem_cons_self, fun _ => rfl⟩, fun base KB GB hTB => hF base KB GB (hTB _ List.mem_cons_self)⟩
