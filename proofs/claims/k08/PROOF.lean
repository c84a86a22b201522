import PyProof.Rows.All
import Wide.All
import OpenK.AllK
import Wide.FinOn
import PySem.Challenge.RW_lanescroll_k08_leaves_that_fit
import HandS.ForMost
import HandS.ForExc
import HandS.IsInst
import HandS.TupLe
import HandS.Wide
import HandS.Defaults
import HandS.ExcIs
import HandS.Style
import HandS.Walk
import KE.KCallOwn
import KE.KSuper
import HandS.FStr
import HandS.MakeKwOnly
import HandS.Star
import PyProof.CollectIter
import PyProof.WalksMore
import HandS.CallLocal
import HandS.ExcOwn
set_option Elab.async false
set_option linter.all false
set_option maxRecDepth 100000
set_option maxHeartbeats 4000000
namespace LK
open PySem PySem.Spec PyProof.Rows L2
/-! ### a def whose first row is super().__init__(..) -/
structure ScS (N ps : List Str) (sc : Scope) : Prop where
  kind : sc.kind = .function
  co : sc.isCoroutine = false
  gen : sc.isGenerator = false
  nd : N.Nodup
  pre : N.take ps.length = ps
  par : ∀ x ∈ ps, sc.names.lookup x = some .local
  cls : sc.names.lookup ("__class__" : Str) = some .free
  own : ∀ y ∈ sc.names, y.2 = .free → y.1 = ("__class__" : Str)
  nocell : ∀ y ∈ sc.names, y.2 ≠ .cell
  sup : sc.names.lookup ("super" : Str) = some .globalImplicit
def cxS (CT : CXT) (P : Program) (w : World) (K : PySem.W.Frag) (mg : Str → Option Value) (base : Heap) (N : List Str) (qual : Str) (scope : Scope) (f : Addr) (cd : Value) (cc : Addr) (A : Around) (outer : List Env) (s : Shared) (H : Hp) (E : XK) : Cx where
  prog := P
  w := w
  K := K
  mg := mg
  base := base
  A := A.deeper (PySem.W.ksEnv qual scope s.heap.objs.size f cd cc)
  N := N
  s_0 := s
  H_0 := H
  env := PySem.W.ksEnv qual scope s.heap.objs.size f cd cc
  outer := outer
  stack := PySem.W.ksEnv qual scope s.heap.objs.size f cd cc :: outer
  ex := []
  calm := true
  fn := fun x => decide (x ≠ ("__class__" : Str))
  pn := []
  xe := fun e s' => wpAny (model P w) (A.deeper (PySem.W.ksEnv qual scope s.heap.objs.size f cd cc)) (leaving (PySem.W.ksEnv qual scope s.heap.objs.size f cd cc) e) (fun _ s'' => CT outer H s E e s'') (fun e' s'' => CT outer H s E e' s'') s'
section
variable {P : Program} {w : World} {K : PySem.W.Frag} {mg : Str → Option Value} {base : Heap} {N ps : List Str} {qual : Str} {scope : Scope} {f cc D : Addr} {cd : Value} {A : Around} {outer : List Env} {s : Shared} {H : Hp} {E : XK} {us : List Value} {vs : List V} {cl : Value} {cld : Option Addr} {csl : Array (Option Value)}
theorem lookup_mem {k : Str} {v : Value} : ∀ {l : List (Str × Value)}, (l.map (·.1)).Nodup → (k, v) ∈ l → l.lookup k = some v
  | [], _, m => nomatch m
  | (a, b) :: r, nd, m => by
    rw [List.map_cons, List.nodup_cons] at nd
    rw [List.lookup_cons]
    rcases List.mem_cons.mp m with e | m2
    · cases e
      rw [beq_self_eq_true]
    · have ne : (k == a) = false := by
        refine beq_eq_false_iff_ne.mpr fun e => ?_
        subst e
        exact nd.1 (List.mem_map.mpr ⟨_, m2, rfl⟩)
      rw [ne]
      exact lookup_mem nd.2 m2
theorem class_cell {x : Str} {c : Addr} (h : ([(("__class__" : Str), cc)] : List (Str × Addr)).lookup x = some c) : x = ("__class__" : Str) ∧ c = cc := by
  rw [List.lookup_cons] at h
  split at h
  · rename_i e
    exact ⟨by simpa using e, (Option.some.inj h).symm⟩
  · cases h
theorem invS {tk : Nat} {h0 : Heap} (S : ScS N ps scope) (hd : A.handled = none) (e0 : Env0 P w K mg base A outer s H) (hl : vs.length = ps.length) (r : Vals vs us) (cell : K.lookup cc = some ⟨cl, cld, .cell (some (.ref D)), csl⟩)
    (hns : h0.Ns s.heap.objs.size (fun x => (ps.zip us).reverse.lookup x)) (hk : ∀ b o, s.heap.get? b = some o → h0.get? b = some o) :
    Inv (cxS CX0 P w K mg base N qual scope f cd cc A outer s H E) [] (L2.start N vs) H { s with heap := h0, toks := tk } := by
  have hcb := e0.mod.kin _ _ cell
  have hcs := e0.bs _ _ hcb
  refine ⟨⟨e0.mod, S.kind, rfl, rfl, Nat.le_refl _, fun y z c h1 h2 => ?_, fun y hy => ?_, fun y c hf h => ?_, fun _ => hd, Around.frames_deeper e0.frames, .inr ⟨rfl, rfl⟩, fun b z => ?_, e0.bs, e0.bsz, fun b _ _ z => ?_, fun b z => ?_, e0.funs, e0.frf⟩,
    rfl, e0.bare, Un.kept hk, ⟨_, hns, fun i y v h1 h2 h3 => ?_⟩, fun y c h => ?_, e0.hok.fresh (Nat.le_refl _), fun y c h => ?_, fun p hp => ?_, e0.hok.kept hk, ?_⟩
  · rw [(class_cell h1).1, (class_cell h2).1]
  · have hy : scope.names.lookup y = some .cell ∨ scope.names.lookup y = some .free := hy
    rcases hy with hy | hy
    · exact absurd rfl (S.nocell _ (PySem.mem_of_lookup hy))
    · have e := S.own _ (PySem.mem_of_lookup hy) rfl
      have e : y = ("__class__" : Str) := e
      subst e
      exact ⟨cc, show List.lookup _ [(_, cc)] = some cc by rw [List.lookup_cons, beq_self_eq_true]⟩
  · have := (class_cell h).1
    exact absurd this (of_decide_eq_true hf)
  · cases z
  · cases z
  · cases z
  · have hi : i < vs.length := by
      refine Nat.lt_of_not_le fun le => ?_
      unfold L2.start at h2
      rw [List.getElem?_append_right (by simpa using le), List.getElem?_replicate] at h2
      split at h2 <;> cases h2
    have ha : vs[i]? = some v := by
      unfold L2.start at h2
      rw [List.getElem?_append_left (by simpa using hi), List.getElem?_map] at h2
      obtain ⟨a, e, e2⟩ := Option.map_eq_some_iff.mp h2
      cases e2
      exact e
    obtain ⟨u, hu, rv⟩ := r.get ha
    have hp : ps[i]? = some y := by
      rw [← S.pre, List.getElem?_take_of_lt (by omega)]
      exact h1
    have nd : ps.Nodup := by
      rw [← S.pre]
      exact S.nd.sublist (List.take_sublist _ _)
    refine ⟨u, rv, .inl ⟨S.par y (List.mem_of_getElem? hp), ?_⟩⟩
    refine lookup_mem ?_ (List.mem_reverse.mpr (List.mem_of_getElem? (i := i) ?_))
    · rw [List.map_reverse]
      rw [List.map_fst_zip (by rw [← r.length]; omega)]
      exact List.pairwise_reverse.mpr (nd.imp fun h => h.symm)
    · rw [List.getElem?_zip_eq_some]
      exact ⟨hp, hu⟩
  · rw [(class_cell h).2]
    exact ⟨_, _, hk _ _ hcs.1, rfl⟩
  · rw [(class_cell h).2]
    exact hcs.2
  · cases hp
  · unfold L2.start
    show _ = N.length
    have := congrArg List.length S.pre
    rw [List.length_take] at this
    rw [List.length_append, List.length_map, List.length_replicate]
    omega
end
/-- what stands behind the top of a def that says super().__init__(..): D its class, f2 the __init__ that is meant -/
structure Sup (P : Program) (K : PySem.W.Frag) (name qual : Str) (params : Arguments) (body : List Stmt) (scope : Scope) (p0 : Str) (f D f2 cc cda : Addr) (fd : FuncData) : Prop where
  ex : ∃ (oc : Value) (od : Option Addr) (kV doc pm ct : Value) (an : Option Addr) (osl : Array (Option Value)), fd = PySem.W.ksFn name qual params body scope .none kV doc pm an (.ref cda) ct cc ∧ K.lookup f = some ⟨oc, od, .func fd, osl⟩
  code : PySem.W.codeIn K (.ref cda) qual = true
  file : ∃ (ccl : Value) (cdd : Option Addr) (vs : Array Value) (ccs : Array (Option Value)) (fl : Str) (tf : Tok), K.lookup cda = some ⟨ccl, cdd, .fields vs, ccs⟩ ∧ vs[2]? = some (.str fl tf) ∧ ((P.main.file : Str) == fl) = true
  cell : ∃ (cl : Value) (cld : Option Addr) (csl : Array (Option Value)), K.lookup cc = some ⟨cl, cld, .cell (some (.ref D)), csl⟩
  cls : ∃ cdD, PySem.W.clsIn K D = some cdD
  sub : PySem.W.mroIn K D (.ref D) = some true
  glob : PySem.W.nsIn K mainGlobals "super" = some none
  top : (P.main.scope.names.lookup ("super" : Str)).isSome = false
  meth : PySem.W.ks_superIn K D D "__init__" = some (some (.ref f2))
  fty : PySem.W.typeIn K (.ref f2) = some (.type "function")
  fin : PySem.W.fnIn K f2 = true
  opq : PySem.W.nsIn K cStatics "thirdparty.any" = some none
  par : ∃ ar, (params.posonlyargs ++ params.args).head? = some ar ∧ ar.arg = p0
section
variable {P : Program} {w : World} {K : PySem.W.Frag} {mg : Str → Option Value} {base : Heap} {N ps : List Str} {name qual p0 : Str} {params : Arguments} {scope : Scope} {f D f2 cc cda : Addr} {fd fd0 : FuncData} {ps0 : List Str} {sp sp0 : Sp} {k : Nat} {rest : List Stmt} {e : Expr} {es : List Expr} {q0 q1 ap cp ep : Pos} {pl : Sem Bool}
theorem fn_super (T : Sup P K name qual params (.Expr (.Call (.Attribute (.Call (.Name "super" q0) [] [] q1) "__init__" ap) (e :: es) [] cp) ep :: rest) scope p0 f D f2 cc cda fd) (S : ScS N ps scope) (hp0 : ps.head? = some p0) (len : ∀ vs H Q E, sp vs H Q E → vs.length = ps.length)
    (F0 : FnOk P w K mg base CX0 k f2 fd0 ps0 sp0) (hb0 : Binds K fd0 ps0 [])
    (he : ∀ env : Env, eval (.Call (.Attribute (.Call (.Name "super" q0) [] [] q1) "__init__" ap) (e :: es) [] cp) env = (do
      let ov ← attributeBase (.Call (.Name "super" q0) [] [] q1) "__init__" env (eval (.Call (.Name "super" q0) [] [] q1) env)
      standAt ap.atName
      let (g, first) ← holding [ov] (getMethod ov "__init__" pl)
      callWith cp g first (backTo cp (starEach (e :: es) env)) []))
    (hsw : ∀ env : Env, swapsWith (.Call (.Attribute (.Call (.Name "super" q0) [] [] q1) "__init__" ap) (e :: es) [] cp) none ep.line env = pure false)
    (hst : ∀ env : Env, starEach (e :: es) env = (false, eval e env) :: starEach es env) (hpl : ∀ env : Env, (backTo cp (starEach es env)).any (·.1) = false)
    (hbody : ∀ (A : Around) (outer : List Env) (s : Shared) (H : Hp) (vs : List V) (Q : VK) (E : XK), Room k (A.deeper (PySem.W.ksEnv qual scope s.heap.objs.size f (.ref cda) cc)) → sp vs H Q E →
      ∃ (o d : Addr) (fs : List (Str × V)) (ta : TA) (t : TS), vs.head? = some (.ref o) ∧ H o = some (.ins D d fs) ∧ PA (cxS CX0 P w K mg base N qual scope f (.ref cda) cc A outer s H E) (e :: es) ta ∧ PSs (cxS CX0 P w K mg base N qual scope f (.ref cda) cc A outer s H E) rest t ∧
        ta (L2.start N vs) H fun as H1 => sp0 (.ref o :: as) H1 (fun _ H2 => t { nx := fun _ H' => Q .non H', rt := Q } (L2.start N vs) H2) E0) :
    FnOk P w K mg base CX0 (k + 1) f fd ps sp := by
  refine ⟨len, fun A outer s H args us vs Q E hr e0 hb r hsp => ?_⟩
  obtain ⟨oc, od, kV, doc, pm, ct, an, osl, rfl, lk⟩ := T.ex
  obtain ⟨ccl, cdd, cvs, ccs, fl, tf, hcode, hvs, hfile⟩ := T.file
  obtain ⟨cl, cld, csl, hcell⟩ := T.cell
  obtain ⟨cdD, hD⟩ := T.cls
  obtain ⟨ar, hpar, rfl⟩ := T.par
  have hl := len _ _ _ _ hsp
  have KX : K.In s.heap := e0.mod.kin.keeps fun b o e => (e0.bs b o e).1
  have lim : s.heap.NoLimit := e0.mod.nolimit.keeps fun b o e => (e0.bs b o e).1
  refine PySem.ks_codeAny_call_defAt (binds := ps.zip us) hr.depth (KX _ _ lk) rfl lim (PySem.W.codeRec_of KX T.code) rfl hb S.nocell (fun y hy => S.par _ (List.of_mem_zip hy).1) (fun h0 hns hk0 => ?_) S.co S.gen S.kind
  obtain ⟨o, d, fs, ta, t, hv0, ho, pa, pss, q⟩ := hbody A outer s H vs Q E (hr.deeper _) hsp
  have J : Inv (cxS CX0 P w K mg base N qual scope f (.ref cda) cc A outer s H E) [] (L2.start N vs) H { s with heap := h0, toks := s.toks + (ps.zip us).length } := invS S hr.hd e0 hl r hcell hns hk0
  show _root_.PySem.wpAt (model P w) (A.deeper (PySem.W.ksEnv qual scope s.heap.objs.size f (.ref cda) cc)) _ (execs _ (PySem.W.ksEnv qual scope s.heap.objs.size f (.ref cda) cc)) _ _ _
  refine PySem.ks_wpAt_execs_cons (PySem.ks_wpAt_Expr_any ?_ (by unfold interactive; simp [S.kind]) (hsw _))
  refine PySem.ks_wpAt_MethodCall (pl := pl) ?_ (he _)
  have X0 : K.In h0 := KX.keeps hk0
  obtain ⟨mA, O, _⟩ := ins_get J.hok ho
  obtain ⟨odx, I, _⟩ := O.look
  obtain ⟨oD, hD1, hD2⟩ : ∃ oD, h0.get? D = some oD ∧ oD.data = .cls cdD := by
    have hD' := hD
    unfold PySem.W.clsIn at hD'
    split at hD'
    · rename_i _ _ _ _ hod
      cases hD'
      exact ⟨_, X0 _ _ hod, rfl⟩
    · cases hD'
  refine PySem.ks_wpAt_super_base (env := PySem.W.ksEnv qual scope s.heap.objs.size f (.ref cda) cc) S.sup S.cls (by decide) rfl (X0 _ _ lk) rfl hpar rfl (X0 _ _ hcode) rfl hvs hfile T.top ?_
  obtain ⟨mb, hbn, hboot⟩ := e0.mod.blt
  refine PySem.W.ks_loadName_global S.kind S.sup (PySem.Calls.loadGlobal_builtin (env := PySem.W.ksEnv qual scope s.heap.objs.size f (.ref cda) cc) (e0.mod.glob.keeps J.bk) (PySem.W.mg_none_of e0.mod.kin e0.mod.glob T.glob) (hbn.keeps J.bk) ((hboot "super" (by decide)).trans (show bootBuiltins "super" = some (.type "super") by decide +kernel)) ⟨rfl, ?_⟩)
  refine wpAny_loadName_free (c := cc) S.kind S.cls (show List.lookup _ [(_, cc)] = some cc by rw [List.lookup_cons, beq_self_eq_true]) ⟨_, X0 _ _ hcell, rfl⟩ ?_
  have hN0 : N[0]? = some ar.arg := by
    rw [List.head?_eq_getElem?] at hp0
    have hlt : 0 < ps.length := (List.getElem?_eq_some_iff.mp hp0).1
    rw [← S.pre, List.getElem?_take_of_lt hlt] at hp0
    exact hp0
  have hpm : ar.arg ∈ ps := List.mem_of_mem_head? hp0
  have hs0 : (L2.start N vs)[0]? = some (some (.ref o)) := by
    rw [List.head?_eq_getElem?] at hv0
    have hlt : 0 < vs.length := (List.getElem?_eq_some_iff.mp hv0).1
    unfold L2.start
    rw [List.getElem?_append_left (by simpa using hlt), List.getElem?_map, hv0]; rfl
  obtain ⟨m, hn, hlk⟩ := J.loc
  obtain ⟨u0, ru0, look⟩ := hlk 0 ar.arg (.ref o) hN0 hs0 (.inl (S.par _ hpm))
  cases ru0
  have hm0 : m ar.arg = some (.ref o) := by
    rcases look with ⟨_, h⟩ | ⟨h | h, _⟩
    · exact h
    · have h : scope.names.lookup ar.arg = some .cell := h
      rw [S.par _ hpm] at h
      cases h
    · have h : scope.names.lookup ar.arg = some .free := h
      rw [S.par _ hpm] at h
      cases h
  refine wpAny_loadName_local S.kind (S.par _ hpm) hn hm0 ?_
  refine PySem.ks_wpAny_isType_cls hD1 hD2 ⟨rfl, ?_⟩
  refine PySem.ks_wpAny_call_super hD1 hD2 I.at_ I.cls (fun c z => ?_) (PySem.W.looks_mroIn X0 T.sub) (fun h' hso hk' => ?_)
  · have no := I.no
    unfold PySem.W.notCls at no
    rw [z] at no
    exact Bool.noConfusion no
  have X1 : K.In h' := X0.keeps hk'
  obtain ⟨of, hof, hofc⟩ : ∃ of, h'.get? f2 = some of ∧ of.cls = .type "function" := by
    have ht : (K.lookup f2).map (·.cls) = some (.type "function") := T.fty
    obtain ⟨of, z, hc⟩ := Option.map_eq_some_iff.mp ht
    exact ⟨of, X1 _ _ z, hc⟩
  have hm2 := T.meth
  unfold PySem.W.ks_superIn at hm2
  rw [hD] at hm2
  refine PySem.ks_wpAny_getMethod_super hso (PySem.W.looks_opaque X1 T.opq) (l₀ := cdD.mro) (fun A' Q' E' s' kk qq => wpAny_bind ((PySem.W.looks_clsIn X1 hD) A' _ E' s' kk (wpAny_pure qq))) rfl X1 hm2 hof hofc (PySem.W.ks_ne X0 I hD) (by decide) ?_
  show wpAny (model P w) _ (callWith cp (.ref h'.objs.size) [] (backTo cp (starEach (e :: es) (PySem.W.ksEnv qual scope s.heap.objs.size f (.ref cda) cc))) []) _ _ _
  have J1 : Inv (cxS CX0 P w K mg base N qual scope f (.ref cda) cc A outer s H E) [] (L2.start N vs) H { s with heap := h', toks := s.toks + (ps.zip us).length } := J.kept hk'
  have J2 : Inv (cxS CX0 P w K mg base N qual scope f (.ref cda) cc A outer s H E) [] (L2.start N vs) H { s with heap := h'.push { cls := .type "method", data := .fields #[.ref f2, .ref o] }, toks := s.toks + (ps.zip us).length + 1 } := J1.kept fun b u z => Heap.get?_push_of_some _ z
  have J3 : Inv (cxS CX0 P w K mg base N qual scope f (.ref cda) cc A outer s H E) [(h'.objs.size, PySem.W.methodObj (.ref f2) (.ref o))] (L2.start N vs) H { s with heap := h'.push { cls := .type "method", data := .fields #[.ref f2, .ref o] }, toks := s.toks + (ps.zip us).length + 1 } := by
    refine ⟨J2.ok, J2.os, J2.bare, J2.base, J2.loc, J2.cell, J2.free, J2.freeC, fun p hp => ?_, J2.hok, J2.len⟩
    have hp : p ∈ [(h'.objs.size, PySem.W.methodObj (.ref f2) (.ref o))] := hp
    rw [List.mem_singleton.mp hp]
    exact ⟨Heap.get?_push_at rfl rfl, J1.fresh, Nat.ne_of_gt J1.lt, J1.nofs (Nat.le_refl _), fun v z => by cases z⟩
  have run := pa.run cp [(h'.objs.size, PySem.W.methodObj (.ref f2) (.ref o))] _ _ H _ J3 q
  have run : wpAny (model P w) (A.deeper (PySem.W.ksEnv qual scope s.heap.objs.size f (.ref cda) cc)) (spliced (backTo cp (starEach (e :: es) (PySem.W.ksEnv qual scope s.heap.objs.size f (.ref cda) cc)))) _ _ _ := run
  rw [hst] at run ⊢
  refine PySem.W.callWith_of (by show ((false || (backTo cp (starEach es _)).any (·.1)) || false) = false; rw [hpl]; rfl) (PySem.W.keeps_M (K := K) (q := h'.objs.size) (self := .ref o) T.fin) (PySem.Calls.evalArgs_plain (wpAny_mono run (fun as s2 z => ?_) (fun _ _ z => z)))
  obtain ⟨was, H1, I1, ra, q1⟩ := z
  have hq := (I1.pin _ (List.mem_append.mpr (.inr List.mem_cons_self))).1
  refine ⟨⟨hq, I1.kIn⟩, ?_⟩
  have r0 : Vals (V.ref o :: was) (Value.ref o :: as) := .cons rfl ra
  have hl0 : (Value.ref o :: as).length = ps0.length := by rw [← r0.length]; exact F0.len _ _ _ _ q1
  have b0 := hb0 s2 (.ref o :: as) I1.kIn (by rw [List.append_nil]; exact hl0)
  rw [List.append_nil] at b0
  have hr2 : Room k (A.deeper (PySem.W.ksEnv qual scope s.heap.objs.size f (.ref cda) cc)) := hr.deeper _
  refine wpAny_call (PySem.ks_codeAny_call_bound hq (codeAny_mono (F0.run _ _ s2 H1 ⟨.ref o :: as, []⟩ (.ref o :: as) _ _ E0 hr2 I1.env0 b0 r0 q1) fun rr s3 hcr => ?_))
  cases rr with
  | error e => exact hcr.elim
  | ok fl =>
    cases fl with
    | ret u =>
      obtain ⟨v3, H3, I3, rv3, q3⟩ := I1.after hcr
      refine wpAt_of_wpAny (wpAny_mono (pss.run _ s3 _ H3 _ I3 q3) (fun fl s4 z => ?_) (fun _ _ z => z))
      cases fl with
      | ret u => obtain ⟨v6, u6, G6, J6, r6, q6⟩ := z; exact ⟨v6, G6, J6.os, J6.bare, J6.base, J6.hok, r6, q6⟩
      | next => obtain ⟨u6, G6, J6, q6⟩ := z; exact ⟨.non, G6, J6.os, J6.bare, J6.base, J6.hok, rfl, q6⟩
      | brk => obtain ⟨_, _, _, q6⟩ := z; exact q6.elim
      | cont => obtain ⟨_, _, _, q6⟩ := z; exact q6.elim
    | next => exact hcr.elim
    | brk => exact hcr.elim
    | cont => exact hcr.elim
end
def topS (i : Nat) : Stmt := PySem.Challenge.pw_lanescroll_k08_leaves_that_fit.main.body.getD i (.Pass ⟨0, 0, 0, 0⟩)
abbrev s_is_number : Stmt := topS 6
abbrev N_is_number : List Str := ["thing"]
theorem sc_is_number : FnScope N_is_number ["thing"] (defScope s_is_number) := ⟨rfl, rfl, rfl, by decide +kernel, rfl, by decide +kernel, by decide +kernel⟩
abbrev s_is_whole : Stmt := topS 7
abbrev N_is_whole : List Str := ["thing", "low", "high"]
theorem sc_is_whole : FnScope N_is_whole ["thing", "low", "high"] (defScope s_is_whole) := ⟨rfl, rfl, rfl, by decide +kernel, rfl, by decide +kernel, by decide +kernel⟩
abbrev s_Rule_told : Stmt := inClass (topS 12) 0
abbrev N_Rule_told : List Str := ["self"]
theorem sc_Rule_told : FnScope N_Rule_told ["self"] (defScope s_Rule_told) := ⟨rfl, rfl, rfl, by decide +kernel, rfl, by decide +kernel, by decide +kernel⟩
abbrev s_Rule_needs : Stmt := inClass (topS 12) 1
abbrev N_Rule_needs : List Str := ["self"]
theorem sc_Rule_needs : FnScope N_Rule_needs ["self"] (defScope s_Rule_needs) := ⟨rfl, rfl, rfl, by decide +kernel, rfl, by decide +kernel, by decide +kernel⟩
abbrev s_Rule_value : Stmt := inClass (topS 12) 2
abbrev N_Rule_value : List Str := ["self", "found"]
theorem sc_Rule_value : FnScope N_Rule_value ["self", "found"] (defScope s_Rule_value) := ⟨rfl, rfl, rfl, by decide +kernel, rfl, by decide +kernel, by decide +kernel⟩
abbrev s_Plain_init : Stmt := inClass (topS 13) 0
abbrev N_Plain_init : List Str := ["self", "value"]
theorem sc_Plain_init : FnScope N_Plain_init ["self", "value"] (defScope s_Plain_init) := ⟨rfl, rfl, rfl, by decide +kernel, rfl, by decide +kernel, by decide +kernel⟩
abbrev s_Plain_str : Stmt := inClass (topS 13) 1
abbrev N_Plain_str : List Str := ["self"]
theorem sc_Plain_str : FnScope N_Plain_str ["self"] (defScope s_Plain_str) := ⟨rfl, rfl, rfl, by decide +kernel, rfl, by decide +kernel, by decide +kernel⟩
abbrev s_Plain_told : Stmt := inClass (topS 13) 2
abbrev N_Plain_told : List Str := ["self"]
theorem sc_Plain_told : FnScope N_Plain_told ["self"] (defScope s_Plain_told) := ⟨rfl, rfl, rfl, by decide +kernel, rfl, by decide +kernel, by decide +kernel⟩
abbrev s_Plain_needs : Stmt := inClass (topS 13) 3
abbrev N_Plain_needs : List Str := ["self"]
theorem sc_Plain_needs : FnScope N_Plain_needs ["self"] (defScope s_Plain_needs) := ⟨rfl, rfl, rfl, by decide +kernel, rfl, by decide +kernel, by decide +kernel⟩
abbrev s_Plain_value : Stmt := inClass (topS 13) 4
abbrev N_Plain_value : List Str := ["self", "found"]
theorem sc_Plain_value : FnScope N_Plain_value ["self", "found"] (defScope s_Plain_value) := ⟨rfl, rfl, rfl, by decide +kernel, rfl, by decide +kernel, by decide +kernel⟩
abbrev s_Moved_init : Stmt := inClass (topS 14) 0
abbrev N_Moved_init : List Str := ["self", "back", "cell", "add"]
theorem sc_Moved_init : FnScope N_Moved_init ["self", "back", "cell", "add"] (defScope s_Moved_init) := ⟨rfl, rfl, rfl, by decide +kernel, rfl, by decide +kernel, by decide +kernel⟩
abbrev s_Moved_str : Stmt := inClass (topS 14) 1
abbrev N_Moved_str : List Str := ["self"]
theorem sc_Moved_str : FnScope N_Moved_str ["self"] (defScope s_Moved_str) := ⟨rfl, rfl, rfl, by decide +kernel, rfl, by decide +kernel, by decide +kernel⟩
abbrev s_Moved_told : Stmt := inClass (topS 14) 2
abbrev N_Moved_told : List Str := ["self"]
theorem sc_Moved_told : FnScope N_Moved_told ["self"] (defScope s_Moved_told) := ⟨rfl, rfl, rfl, by decide +kernel, rfl, by decide +kernel, by decide +kernel⟩
abbrev s_Moved_needs : Stmt := inClass (topS 14) 3
abbrev N_Moved_needs : List Str := ["self"]
theorem sc_Moved_needs : FnScope N_Moved_needs ["self"] (defScope s_Moved_needs) := ⟨rfl, rfl, rfl, by decide +kernel, rfl, by decide +kernel, by decide +kernel⟩
abbrev s_Moved_value : Stmt := inClass (topS 14) 4
abbrev N_Moved_value : List Str := ["self", "found"]
theorem sc_Moved_value : FnScope N_Moved_value ["self", "found"] (defScope s_Moved_value) := ⟨rfl, rfl, rfl, by decide +kernel, rfl, by decide +kernel, by decide +kernel⟩
abbrev s_Mixed_init : Stmt := inClass (topS 15) 0
abbrev N_Mixed_init : List Str := ["self", "back", "cell", "other_back", "other_cell"]
theorem sc_Mixed_init : FnScope N_Mixed_init ["self", "back", "cell", "other_back", "other_cell"] (defScope s_Mixed_init) := ⟨rfl, rfl, rfl, by decide +kernel, rfl, by decide +kernel, by decide +kernel⟩
abbrev s_Mixed_str : Stmt := inClass (topS 15) 1
abbrev N_Mixed_str : List Str := ["self"]
theorem sc_Mixed_str : FnScope N_Mixed_str ["self"] (defScope s_Mixed_str) := ⟨rfl, rfl, rfl, by decide +kernel, rfl, by decide +kernel, by decide +kernel⟩
abbrev s_Mixed_told : Stmt := inClass (topS 15) 2
abbrev N_Mixed_told : List Str := ["self"]
theorem sc_Mixed_told : FnScope N_Mixed_told ["self"] (defScope s_Mixed_told) := ⟨rfl, rfl, rfl, by decide +kernel, rfl, by decide +kernel, by decide +kernel⟩
abbrev s_Mixed_needs : Stmt := inClass (topS 15) 3
abbrev N_Mixed_needs : List Str := ["self"]
theorem sc_Mixed_needs : FnScope N_Mixed_needs ["self"] (defScope s_Mixed_needs) := ⟨rfl, rfl, rfl, by decide +kernel, rfl, by decide +kernel, by decide +kernel⟩
abbrev s_Mixed_value : Stmt := inClass (topS 15) 4
abbrev N_Mixed_value : List Str := ["self", "found"]
theorem sc_Mixed_value : FnScope N_Mixed_value ["self", "found"] (defScope s_Mixed_value) := ⟨rfl, rfl, rfl, by decide +kernel, rfl, by decide +kernel, by decide +kernel⟩
abbrev s_is_value : Stmt := topS 16
abbrev N_is_value : List Str := ["thing"]
theorem sc_is_value : FnScope N_is_value ["thing"] (defScope s_is_value) := ⟨rfl, rfl, rfl, by decide +kernel, rfl, by decide +kernel, by decide +kernel⟩
abbrev s_is_back : Stmt := topS 17
abbrev N_is_back : List Str := ["thing"]
theorem sc_is_back : FnScope N_is_back ["thing"] (defScope s_is_back) := ⟨rfl, rfl, rfl, by decide +kernel, rfl, by decide +kernel, by decide +kernel⟩
abbrev s_is_cell : Stmt := topS 18
abbrev N_is_cell : List Str := ["thing"]
theorem sc_is_cell : FnScope N_is_cell ["thing"] (defScope s_is_cell) := ⟨rfl, rfl, rfl, by decide +kernel, rfl, by decide +kernel, by decide +kernel⟩
abbrev s_is_rule : Stmt := topS 19
abbrev N_is_rule : List Str := ["thing", "kind"]
theorem sc_is_rule : FnScope N_is_rule ["thing"] (defScope s_is_rule) := ⟨rfl, rfl, rfl, by decide +kernel, rfl, by decide +kernel, by decide +kernel⟩
abbrev s_rule_of : Stmt := topS 20
abbrev N_rule_of : List Str := ["told", "kind", "numbers"]
theorem sc_rule_of : FnScope N_rule_of ["told"] (defScope s_rule_of) := ⟨rfl, rfl, rfl, by decide +kernel, rfl, by decide +kernel, by decide +kernel⟩
abbrev s_Leaf_init : Stmt := inClass (topS 24) 0
abbrev N_Leaf_init : List Str := ["self", "begin", "span"]
theorem sc_Leaf_init : FnScope N_Leaf_init ["self", "begin", "span"] (defScope s_Leaf_init) := ⟨rfl, rfl, rfl, by decide +kernel, rfl, by decide +kernel, by decide +kernel⟩
abbrev s_Leaf_told : Stmt := inClass (topS 24) 1
abbrev N_Leaf_told : List Str := ["self"]
theorem sc_Leaf_told : FnScope N_Leaf_told ["self"] (defScope s_Leaf_told) := ⟨rfl, rfl, rfl, by decide +kernel, rfl, by decide +kernel, by decide +kernel⟩
abbrev s_Leaf_cells : Stmt := inClass (topS 24) 2
abbrev N_Leaf_cells : List Str := ["self"]
theorem sc_Leaf_cells : FnScope N_Leaf_cells ["self"] (defScope s_Leaf_cells) := ⟨rfl, rfl, rfl, by decide +kernel, rfl, by decide +kernel, by decide +kernel⟩
abbrev s_Leaf_rule : Stmt := inClass (topS 24) 3
abbrev N_Leaf_rule : List Str := ["self", "cell"]
theorem sc_Leaf_rule : FnScope N_Leaf_rule ["self", "cell"] (defScope s_Leaf_rule) := ⟨rfl, rfl, rfl, by decide +kernel, rfl, by decide +kernel, by decide +kernel⟩
abbrev s_Full_init : Stmt := inClass (topS 25) 0
abbrev N_Full_init : List Str := ["self", "begin", "span", "values"]
theorem sc_Full_init : ScS N_Full_init ["self", "begin", "span", "values"] (defScope s_Full_init) := ⟨rfl, rfl, rfl, by decide +kernel, rfl, by decide +kernel, by decide +kernel, by decide +kernel, by decide +kernel, by decide +kernel⟩
abbrev s_Full_told : Stmt := inClass (topS 25) 1
abbrev N_Full_told : List Str := ["self"]
theorem sc_Full_told : FnScope N_Full_told ["self"] (defScope s_Full_told) := ⟨rfl, rfl, rfl, by decide +kernel, rfl, by decide +kernel, by decide +kernel⟩
abbrev s_Full_cells : Stmt := inClass (topS 25) 2
abbrev N_Full_cells : List Str := ["self"]
theorem sc_Full_cells : FnScope N_Full_cells ["self"] (defScope s_Full_cells) := ⟨rfl, rfl, rfl, by decide +kernel, rfl, by decide +kernel, by decide +kernel⟩
abbrev s_Full_rule : Stmt := inClass (topS 25) 3
abbrev N_Full_rule : List Str := ["self", "cell"]
theorem sc_Full_rule : FnScope N_Full_rule ["self", "cell"] (defScope s_Full_rule) := ⟨rfl, rfl, rfl, by decide +kernel, rfl, by decide +kernel, by decide +kernel⟩
abbrev s_Still_init : Stmt := inClass (topS 26) 0
abbrev N_Still_init : List Str := ["self", "begin", "span", "back"]
theorem sc_Still_init : ScS N_Still_init ["self", "begin", "span", "back"] (defScope s_Still_init) := ⟨rfl, rfl, rfl, by decide +kernel, rfl, by decide +kernel, by decide +kernel, by decide +kernel, by decide +kernel, by decide +kernel⟩
abbrev s_Still_told : Stmt := inClass (topS 26) 1
abbrev N_Still_told : List Str := ["self"]
theorem sc_Still_told : FnScope N_Still_told ["self"] (defScope s_Still_told) := ⟨rfl, rfl, rfl, by decide +kernel, rfl, by decide +kernel, by decide +kernel⟩
abbrev s_Still_cells : Stmt := inClass (topS 26) 2
abbrev N_Still_cells : List Str := ["self"]
theorem sc_Still_cells : FnScope N_Still_cells ["self"] (defScope s_Still_cells) := ⟨rfl, rfl, rfl, by decide +kernel, rfl, by decide +kernel, by decide +kernel⟩
abbrev s_Still_rule : Stmt := inClass (topS 26) 3
abbrev N_Still_rule : List Str := ["self", "cell"]
theorem sc_Still_rule : FnScope N_Still_rule ["self", "cell"] (defScope s_Still_rule) := ⟨rfl, rfl, rfl, by decide +kernel, rfl, by decide +kernel, by decide +kernel⟩
abbrev s_Woven_init : Stmt := inClass (topS 27) 0
abbrev N_Woven_init : List Str := ["self", "begin", "span", "rules", "told"]
theorem sc_Woven_init : ScS N_Woven_init ["self", "begin", "span", "rules"] (defScope s_Woven_init) := ⟨rfl, rfl, rfl, by decide +kernel, rfl, by decide +kernel, by decide +kernel, by decide +kernel, by decide +kernel, by decide +kernel⟩
abbrev s_Woven_told : Stmt := inClass (topS 27) 1
abbrev N_Woven_told : List Str := ["self", "rule"]
theorem sc_Woven_told : FnScope N_Woven_told ["self"] (defScope s_Woven_told) := ⟨rfl, rfl, rfl, by decide +kernel, rfl, by decide +kernel, by decide +kernel⟩
abbrev s_Woven_cells : Stmt := inClass (topS 27) 2
abbrev N_Woven_cells : List Str := ["self"]
theorem sc_Woven_cells : FnScope N_Woven_cells ["self"] (defScope s_Woven_cells) := ⟨rfl, rfl, rfl, by decide +kernel, rfl, by decide +kernel, by decide +kernel⟩
abbrev s_Woven_rule : Stmt := inClass (topS 27) 3
abbrev N_Woven_rule : List Str := ["self", "cell"]
theorem sc_Woven_rule : FnScope N_Woven_rule ["self", "cell"] (defScope s_Woven_rule) := ⟨rfl, rfl, rfl, by decide +kernel, rfl, by decide +kernel, by decide +kernel⟩
abbrev s_refuse_no_cell : Stmt := topS 28
abbrev N_refuse_no_cell : List Str := ["cell", "many"]
theorem sc_refuse_no_cell : FnScope N_refuse_no_cell ["cell", "many"] (defScope s_refuse_no_cell) := ⟨rfl, rfl, rfl, by decide +kernel, rfl, by decide +kernel, by decide +kernel⟩
abbrev s_is_row_of_cells : Stmt := topS 29
abbrev N_is_row_of_cells : List Str := ["thing"]
theorem sc_is_row_of_cells : FnScope N_is_row_of_cells ["thing"] (defScope s_is_row_of_cells) := ⟨rfl, rfl, rfl, by decide +kernel, rfl, by decide +kernel, by decide +kernel⟩
abbrev s_is_leaf : Stmt := topS 30
abbrev N_is_leaf : List Str := ["thing", "kind", "begin", "span", "held", "value", "rule"]
theorem sc_is_leaf : FnScope N_is_leaf ["thing"] (defScope s_is_leaf) := ⟨rfl, rfl, rfl, by decide +kernel, rfl, by decide +kernel, by decide +kernel⟩
abbrev s_leaf_of : Stmt := topS 31
abbrev N_leaf_of : List Str := ["told", "kind", "begin", "span", "held"]
theorem sc_leaf_of : FnScope N_leaf_of ["told"] (defScope s_leaf_of) := ⟨rfl, rfl, rfl, by decide +kernel, rfl, by decide +kernel, by decide +kernel⟩
abbrev s_fits : Stmt := topS 32
abbrev N_fits : List Str := ["leaf", "number", "wide", "many", "cell", "back", "needed_cell"]
theorem sc_fits : FnScope N_fits ["leaf", "number", "wide"] (defScope s_fits) := ⟨rfl, rfl, rfl, by decide +kernel, rfl, by decide +kernel, by decide +kernel⟩
abbrev s_l_cell_at : Stmt := topS 34
abbrev N_l_cell_at : List Str := ["_law_script", "_law_k"]
theorem sc_l_cell_at : FnScope N_l_cell_at ["_law_script", "_law_k"] (defScope s_l_cell_at) := ⟨rfl, rfl, rfl, by decide +kernel, rfl, by decide +kernel, by decide +kernel⟩
abbrev s_l_well : Stmt := topS 35
abbrev N_l_well : List Str := ["_law_script", "_law_k", "_law_cell"]
theorem sc_l_well : FnScope N_l_well ["_law_script", "_law_k"] (defScope s_l_well) := ⟨rfl, rfl, rfl, by decide +kernel, rfl, by decide +kernel, by decide +kernel⟩
abbrev s_l_draw : Stmt := topS 36
abbrev N_l_draw : List Str := ["_law_well_here", "_law_many", "_law_found", "_law_number"]
theorem sc_l_draw : FnScope N_l_draw ["_law_well_here", "_law_many"] (defScope s_l_draw) := ⟨rfl, rfl, rfl, by decide +kernel, rfl, by decide +kernel, by decide +kernel⟩
abbrev s_l_near : Stmt := topS 37
abbrev N_l_near : List Str := ["_law_well_here", "_law_low", "_law_high", "_law_middle", "_law_way"]
theorem sc_l_near : FnScope N_l_near ["_law_well_here", "_law_low", "_law_high", "_law_middle"] (defScope s_l_near) := ⟨rfl, rfl, rfl, by decide +kernel, rfl, by decide +kernel, by decide +kernel⟩
abbrev s_l_rule : Stmt := topS 38
abbrev N_l_rule : List Str := ["_law_well_here", "_law_number", "_law_wide", "_law_good", "_law_way", "_law_first", "_law_there"]
theorem sc_l_rule : FnScope N_l_rule ["_law_well_here", "_law_number", "_law_wide", "_law_good"] (defScope s_l_rule) := ⟨rfl, rfl, rfl, by decide +kernel, rfl, by decide +kernel, by decide +kernel⟩
abbrev s_l_leaf : Stmt := topS 39
abbrev N_l_leaf : List Str := ["_law_well_here", "_law_number", "_law_wide", "_law_way", "_law_bad", "_law_cells", "_law_k"]
theorem sc_l_leaf : FnScope N_l_leaf ["_law_well_here", "_law_number", "_law_wide"] (defScope s_l_leaf) := ⟨rfl, rfl, rfl, by decide +kernel, rfl, by decide +kernel, by decide +kernel⟩
abbrev s_l_need_fits : Stmt := topS 40
abbrev N_l_need_fits : List Str := ["_law_first", "_law_there", "_law_number", "_law_wide"]
theorem sc_l_need_fits : FnScope N_l_need_fits ["_law_first", "_law_there", "_law_number", "_law_wide"] (defScope s_l_need_fits) := ⟨rfl, rfl, rfl, by decide +kernel, rfl, by decide +kernel, by decide +kernel⟩
abbrev s_l_rule_fits : Stmt := topS 41
abbrev N_l_rule_fits : List Str := ["_law_rule_here", "_law_number", "_law_wide"]
theorem sc_l_rule_fits : FnScope N_l_rule_fits ["_law_rule_here", "_law_number", "_law_wide"] (defScope s_l_rule_fits) := ⟨rfl, rfl, rfl, by decide +kernel, rfl, by decide +kernel, by decide +kernel⟩
abbrev s_l_leaf_fits : Stmt := topS 42
abbrev N_l_leaf_fits : List Str := ["_law_row", "_law_number", "_law_wide", "_law_rule_here"]
theorem sc_l_leaf_fits : FnScope N_l_leaf_fits ["_law_row", "_law_number", "_law_wide"] (defScope s_l_leaf_fits) := ⟨rfl, rfl, rfl, by decide +kernel, rfl, by decide +kernel, by decide +kernel⟩
abbrev s_law : Stmt := topS 43
abbrev N_law : List Str := ["_law_script", "_law_well_here", "_law_number", "_law_wide", "_law_row", "_law_leaf_here", "_law_at", "_law_cells", "_law_found"]
theorem sc_law : FnScope N_law ["_law_script"] (defScope s_law) := ⟨rfl, rfl, rfl, by decide +kernel, rfl, by decide +kernel, by decide +kernel⟩

structure TxtP (P : Program) (K : PySem.W.Frag) (mg : Str → Option Value) : Type where
  a_is_number : Addr
  d_is_number : FuncData
  F_is_number : Fun K "is_number" "is_number" s_is_number a_is_number d_is_number
  g_is_number : mg "is_number" = some (.ref a_is_number)
  b_is_number : Binds K d_is_number ["thing"] []
  a_is_whole : Addr
  d_is_whole : FuncData
  F_is_whole : Fun K "is_whole" "is_whole" s_is_whole a_is_whole d_is_whole
  g_is_whole : mg "is_whole" = some (.ref a_is_whole)
  b_is_whole : Binds K d_is_whole ["thing", "low", "high"] []
  a_Rule_told : Addr
  d_Rule_told : FuncData
  F_Rule_told : Fun K "told" "Rule.told" s_Rule_told a_Rule_told d_Rule_told
  b_Rule_told : Binds K d_Rule_told ["self"] []
  a_Rule_needs : Addr
  d_Rule_needs : FuncData
  F_Rule_needs : Fun K "needs" "Rule.needs" s_Rule_needs a_Rule_needs d_Rule_needs
  b_Rule_needs : Binds K d_Rule_needs ["self"] []
  a_Rule_value : Addr
  d_Rule_value : FuncData
  F_Rule_value : Fun K "value" "Rule.value" s_Rule_value a_Rule_value d_Rule_value
  b_Rule_value : Binds K d_Rule_value ["self", "found"] []
  a_Plain_init : Addr
  d_Plain_init : FuncData
  F_Plain_init : Fun K "__init__" "Plain.__init__" s_Plain_init a_Plain_init d_Plain_init
  b_Plain_init : Binds K d_Plain_init ["self", "value"] []
  a_Plain_str : Addr
  d_Plain_str : FuncData
  F_Plain_str : Fun K "__str__" "Plain.__str__" s_Plain_str a_Plain_str d_Plain_str
  b_Plain_str : Binds K d_Plain_str ["self"] []
  a_Plain_told : Addr
  d_Plain_told : FuncData
  F_Plain_told : Fun K "told" "Plain.told" s_Plain_told a_Plain_told d_Plain_told
  b_Plain_told : Binds K d_Plain_told ["self"] []
  a_Plain_needs : Addr
  d_Plain_needs : FuncData
  F_Plain_needs : Fun K "needs" "Plain.needs" s_Plain_needs a_Plain_needs d_Plain_needs
  b_Plain_needs : Binds K d_Plain_needs ["self"] []
  a_Plain_value : Addr
  d_Plain_value : FuncData
  F_Plain_value : Fun K "value" "Plain.value" s_Plain_value a_Plain_value d_Plain_value
  b_Plain_value : Binds K d_Plain_value ["self", "found"] []
  a_Moved_init : Addr
  d_Moved_init : FuncData
  F_Moved_init : Fun K "__init__" "Moved.__init__" s_Moved_init a_Moved_init d_Moved_init
  b_Moved_init : Binds K d_Moved_init ["self", "back", "cell", "add"] []
  a_Moved_str : Addr
  d_Moved_str : FuncData
  F_Moved_str : Fun K "__str__" "Moved.__str__" s_Moved_str a_Moved_str d_Moved_str
  b_Moved_str : Binds K d_Moved_str ["self"] []
  a_Moved_told : Addr
  d_Moved_told : FuncData
  F_Moved_told : Fun K "told" "Moved.told" s_Moved_told a_Moved_told d_Moved_told
  b_Moved_told : Binds K d_Moved_told ["self"] []
  a_Moved_needs : Addr
  d_Moved_needs : FuncData
  F_Moved_needs : Fun K "needs" "Moved.needs" s_Moved_needs a_Moved_needs d_Moved_needs
  b_Moved_needs : Binds K d_Moved_needs ["self"] []
  a_Moved_value : Addr
  d_Moved_value : FuncData
  F_Moved_value : Fun K "value" "Moved.value" s_Moved_value a_Moved_value d_Moved_value
  b_Moved_value : Binds K d_Moved_value ["self", "found"] []
  a_Mixed_init : Addr
  d_Mixed_init : FuncData
  F_Mixed_init : Fun K "__init__" "Mixed.__init__" s_Mixed_init a_Mixed_init d_Mixed_init
  b_Mixed_init : Binds K d_Mixed_init ["self", "back", "cell", "other_back", "other_cell"] []
  a_Mixed_str : Addr
  d_Mixed_str : FuncData
  F_Mixed_str : Fun K "__str__" "Mixed.__str__" s_Mixed_str a_Mixed_str d_Mixed_str
  b_Mixed_str : Binds K d_Mixed_str ["self"] []
  a_Mixed_told : Addr
  d_Mixed_told : FuncData
  F_Mixed_told : Fun K "told" "Mixed.told" s_Mixed_told a_Mixed_told d_Mixed_told
  b_Mixed_told : Binds K d_Mixed_told ["self"] []
  a_Mixed_needs : Addr
  d_Mixed_needs : FuncData
  F_Mixed_needs : Fun K "needs" "Mixed.needs" s_Mixed_needs a_Mixed_needs d_Mixed_needs
  b_Mixed_needs : Binds K d_Mixed_needs ["self"] []
  a_Mixed_value : Addr
  d_Mixed_value : FuncData
  F_Mixed_value : Fun K "value" "Mixed.value" s_Mixed_value a_Mixed_value d_Mixed_value
  b_Mixed_value : Binds K d_Mixed_value ["self", "found"] []
  a_is_value : Addr
  d_is_value : FuncData
  F_is_value : Fun K "is_value" "is_value" s_is_value a_is_value d_is_value
  g_is_value : mg "is_value" = some (.ref a_is_value)
  b_is_value : Binds K d_is_value ["thing"] []
  a_is_back : Addr
  d_is_back : FuncData
  F_is_back : Fun K "is_back" "is_back" s_is_back a_is_back d_is_back
  g_is_back : mg "is_back" = some (.ref a_is_back)
  b_is_back : Binds K d_is_back ["thing"] []
  a_is_cell : Addr
  d_is_cell : FuncData
  F_is_cell : Fun K "is_cell" "is_cell" s_is_cell a_is_cell d_is_cell
  g_is_cell : mg "is_cell" = some (.ref a_is_cell)
  b_is_cell : Binds K d_is_cell ["thing"] []
  a_is_rule : Addr
  d_is_rule : FuncData
  F_is_rule : Fun K "is_rule" "is_rule" s_is_rule a_is_rule d_is_rule
  g_is_rule : mg "is_rule" = some (.ref a_is_rule)
  b_is_rule : Binds K d_is_rule ["thing"] []
  a_rule_of : Addr
  d_rule_of : FuncData
  F_rule_of : Fun K "rule_of" "rule_of" s_rule_of a_rule_of d_rule_of
  g_rule_of : mg "rule_of" = some (.ref a_rule_of)
  b_rule_of : Binds K d_rule_of ["told"] []
  a_Leaf_init : Addr
  d_Leaf_init : FuncData
  F_Leaf_init : Fun K "__init__" "Leaf.__init__" s_Leaf_init a_Leaf_init d_Leaf_init
  b_Leaf_init : Binds K d_Leaf_init ["self", "begin", "span"] []
  a_Leaf_told : Addr
  d_Leaf_told : FuncData
  F_Leaf_told : Fun K "told" "Leaf.told" s_Leaf_told a_Leaf_told d_Leaf_told
  b_Leaf_told : Binds K d_Leaf_told ["self"] []
  a_Leaf_cells : Addr
  d_Leaf_cells : FuncData
  F_Leaf_cells : Fun K "cells" "Leaf.cells" s_Leaf_cells a_Leaf_cells d_Leaf_cells
  b_Leaf_cells : Binds K d_Leaf_cells ["self"] []
  a_Leaf_rule : Addr
  d_Leaf_rule : FuncData
  F_Leaf_rule : Fun K "rule" "Leaf.rule" s_Leaf_rule a_Leaf_rule d_Leaf_rule
  b_Leaf_rule : Binds K d_Leaf_rule ["self", "cell"] []
  a_Full_init : Addr
  d_Full_init : FuncData
  cc_Full_init : Addr
  co_Full_init : Addr
  cD_Full_init : Addr
  S_Full_init : Sup P K "__init__" "Full.__init__" (defArgs s_Full_init) (defBody s_Full_init) (defScope s_Full_init) "self" a_Full_init cD_Full_init a_Leaf_init cc_Full_init co_Full_init d_Full_init
  b_Full_init : Binds K d_Full_init ["self", "begin", "span", "values"] []
  a_Full_told : Addr
  d_Full_told : FuncData
  F_Full_told : Fun K "told" "Full.told" s_Full_told a_Full_told d_Full_told
  b_Full_told : Binds K d_Full_told ["self"] []
  a_Full_cells : Addr
  d_Full_cells : FuncData
  F_Full_cells : Fun K "cells" "Full.cells" s_Full_cells a_Full_cells d_Full_cells
  b_Full_cells : Binds K d_Full_cells ["self"] []
  a_Full_rule : Addr
  d_Full_rule : FuncData
  F_Full_rule : Fun K "rule" "Full.rule" s_Full_rule a_Full_rule d_Full_rule
  b_Full_rule : Binds K d_Full_rule ["self", "cell"] []
  a_Still_init : Addr
  d_Still_init : FuncData
  cc_Still_init : Addr
  co_Still_init : Addr
  cD_Still_init : Addr
  S_Still_init : Sup P K "__init__" "Still.__init__" (defArgs s_Still_init) (defBody s_Still_init) (defScope s_Still_init) "self" a_Still_init cD_Still_init a_Leaf_init cc_Still_init co_Still_init d_Still_init
  b_Still_init : Binds K d_Still_init ["self", "begin", "span", "back"] []
  a_Still_told : Addr
  d_Still_told : FuncData
  F_Still_told : Fun K "told" "Still.told" s_Still_told a_Still_told d_Still_told
  b_Still_told : Binds K d_Still_told ["self"] []
  a_Still_cells : Addr
  d_Still_cells : FuncData
  F_Still_cells : Fun K "cells" "Still.cells" s_Still_cells a_Still_cells d_Still_cells
  b_Still_cells : Binds K d_Still_cells ["self"] []
  a_Still_rule : Addr
  d_Still_rule : FuncData
  F_Still_rule : Fun K "rule" "Still.rule" s_Still_rule a_Still_rule d_Still_rule
  b_Still_rule : Binds K d_Still_rule ["self", "cell"] []
  a_Woven_init : Addr
  d_Woven_init : FuncData
  cc_Woven_init : Addr
  co_Woven_init : Addr
  cD_Woven_init : Addr
  S_Woven_init : Sup P K "__init__" "Woven.__init__" (defArgs s_Woven_init) (defBody s_Woven_init) (defScope s_Woven_init) "self" a_Woven_init cD_Woven_init a_Leaf_init cc_Woven_init co_Woven_init d_Woven_init
  b_Woven_init : Binds K d_Woven_init ["self", "begin", "span", "rules"] []
  a_Woven_told : Addr
  d_Woven_told : FuncData
  F_Woven_told : Fun K "told" "Woven.told" s_Woven_told a_Woven_told d_Woven_told
  b_Woven_told : Binds K d_Woven_told ["self"] []
  a_Woven_cells : Addr
  d_Woven_cells : FuncData
  F_Woven_cells : Fun K "cells" "Woven.cells" s_Woven_cells a_Woven_cells d_Woven_cells
  b_Woven_cells : Binds K d_Woven_cells ["self"] []
  a_Woven_rule : Addr
  d_Woven_rule : FuncData
  F_Woven_rule : Fun K "rule" "Woven.rule" s_Woven_rule a_Woven_rule d_Woven_rule
  b_Woven_rule : Binds K d_Woven_rule ["self", "cell"] []
  a_refuse_no_cell : Addr
  d_refuse_no_cell : FuncData
  F_refuse_no_cell : Fun K "refuse_no_cell" "refuse_no_cell" s_refuse_no_cell a_refuse_no_cell d_refuse_no_cell
  g_refuse_no_cell : mg "refuse_no_cell" = some (.ref a_refuse_no_cell)
  b_refuse_no_cell : Binds K d_refuse_no_cell ["cell", "many"] []
  a_is_row_of_cells : Addr
  d_is_row_of_cells : FuncData
  F_is_row_of_cells : Fun K "is_row_of_cells" "is_row_of_cells" s_is_row_of_cells a_is_row_of_cells d_is_row_of_cells
  g_is_row_of_cells : mg "is_row_of_cells" = some (.ref a_is_row_of_cells)
  b_is_row_of_cells : Binds K d_is_row_of_cells ["thing"] []
  a_is_leaf : Addr
  d_is_leaf : FuncData
  F_is_leaf : Fun K "is_leaf" "is_leaf" s_is_leaf a_is_leaf d_is_leaf
  g_is_leaf : mg "is_leaf" = some (.ref a_is_leaf)
  b_is_leaf : Binds K d_is_leaf ["thing"] []
  a_leaf_of : Addr
  d_leaf_of : FuncData
  F_leaf_of : Fun K "leaf_of" "leaf_of" s_leaf_of a_leaf_of d_leaf_of
  g_leaf_of : mg "leaf_of" = some (.ref a_leaf_of)
  b_leaf_of : Binds K d_leaf_of ["told"] []
  a_fits : Addr
  d_fits : FuncData
  F_fits : Fun K "fits" "fits" s_fits a_fits d_fits
  g_fits : mg "fits" = some (.ref a_fits)
  b_fits : Binds K d_fits ["leaf", "number", "wide"] []
  a_l_cell_at : Addr
  d_l_cell_at : FuncData
  F_l_cell_at : Fun K "_law_cell_at" "_law_cell_at" s_l_cell_at a_l_cell_at d_l_cell_at
  g_l_cell_at : mg "_law_cell_at" = some (.ref a_l_cell_at)
  b_l_cell_at : Binds K d_l_cell_at ["_law_script", "_law_k"] []
  a_l_well : Addr
  d_l_well : FuncData
  F_l_well : Fun K "_law_well" "_law_well" s_l_well a_l_well d_l_well
  g_l_well : mg "_law_well" = some (.ref a_l_well)
  b_l_well : Binds K d_l_well ["_law_script", "_law_k"] []
  a_l_draw : Addr
  d_l_draw : FuncData
  F_l_draw : Fun K "_law_draw" "_law_draw" s_l_draw a_l_draw d_l_draw
  g_l_draw : mg "_law_draw" = some (.ref a_l_draw)
  b_l_draw : Binds K d_l_draw ["_law_well_here", "_law_many"] []
  a_l_near : Addr
  d_l_near : FuncData
  F_l_near : Fun K "_law_near" "_law_near" s_l_near a_l_near d_l_near
  g_l_near : mg "_law_near" = some (.ref a_l_near)
  b_l_near : Binds K d_l_near ["_law_well_here", "_law_low", "_law_high", "_law_middle"] []
  a_l_rule : Addr
  d_l_rule : FuncData
  F_l_rule : Fun K "_law_rule" "_law_rule" s_l_rule a_l_rule d_l_rule
  g_l_rule : mg "_law_rule" = some (.ref a_l_rule)
  b_l_rule : Binds K d_l_rule ["_law_well_here", "_law_number", "_law_wide", "_law_good"] []
  a_l_leaf : Addr
  d_l_leaf : FuncData
  F_l_leaf : Fun K "_law_leaf" "_law_leaf" s_l_leaf a_l_leaf d_l_leaf
  g_l_leaf : mg "_law_leaf" = some (.ref a_l_leaf)
  b_l_leaf : Binds K d_l_leaf ["_law_well_here", "_law_number", "_law_wide"] []
  a_l_need_fits : Addr
  d_l_need_fits : FuncData
  F_l_need_fits : Fun K "_law_need_fits" "_law_need_fits" s_l_need_fits a_l_need_fits d_l_need_fits
  g_l_need_fits : mg "_law_need_fits" = some (.ref a_l_need_fits)
  b_l_need_fits : Binds K d_l_need_fits ["_law_first", "_law_there", "_law_number", "_law_wide"] []
  a_l_rule_fits : Addr
  d_l_rule_fits : FuncData
  F_l_rule_fits : Fun K "_law_rule_fits" "_law_rule_fits" s_l_rule_fits a_l_rule_fits d_l_rule_fits
  g_l_rule_fits : mg "_law_rule_fits" = some (.ref a_l_rule_fits)
  b_l_rule_fits : Binds K d_l_rule_fits ["_law_rule_here", "_law_number", "_law_wide"] []
  a_l_leaf_fits : Addr
  d_l_leaf_fits : FuncData
  F_l_leaf_fits : Fun K "_law_leaf_fits" "_law_leaf_fits" s_l_leaf_fits a_l_leaf_fits d_l_leaf_fits
  g_l_leaf_fits : mg "_law_leaf_fits" = some (.ref a_l_leaf_fits)
  b_l_leaf_fits : Binds K d_l_leaf_fits ["_law_row", "_law_number", "_law_wide"] []
  a_law : Addr
  d_law : FuncData
  F_law : Fun K "law" "law" s_law a_law d_law
  g_law : mg "law" = some (.ref a_law)
  b_law : Binds K d_law ["_law_script"] []
  m_all : mg "all" = none
  m_bool : mg "bool" = none
  m_int : mg "int" = none
  m_isinstance : mg "isinstance" = none
  m_len : mg "len" = none
  m_max : mg "max" = none
  m_min : mg "min" = none
  m_range : mg "range" = none
  m_str : mg "str" = none
  m_tuple : mg "tuple" = none
  c_ScrollError : Addr
  g_ScrollError : mg "ScrollError" = some (.ref c_ScrollError)
  c_NoRule : Addr
  g_NoRule : mg "NoRule" = some (.ref c_NoRule)
  c_NoLeaf : Addr
  g_NoLeaf : mg "NoLeaf" = some (.ref c_NoLeaf)
  c_NoCell : Addr
  g_NoCell : mg "NoCell" = some (.ref c_NoCell)
  c_Rule : Addr
  g_Rule : mg "Rule" = some (.ref c_Rule)
  c_Plain : Addr
  g_Plain : mg "Plain" = some (.ref c_Plain)
  c_Moved : Addr
  g_Moved : mg "Moved" = some (.ref c_Moved)
  c_Mixed : Addr
  g_Mixed : mg "Mixed" = some (.ref c_Mixed)
  c_Leaf : Addr
  g_Leaf : mg "Leaf" = some (.ref c_Leaf)
  c_Full : Addr
  g_Full : mg "Full" = some (.ref c_Full)
  c_Still : Addr
  g_Still : mg "Still" = some (.ref c_Still)
  c_Woven : Addr
  g_Woven : mg "Woven" = some (.ref c_Woven)
  ct_GREATEST_VALUE : Tok
  g_GREATEST_VALUE : mg "GREATEST_VALUE" = some (.int 255 ct_GREATEST_VALUE)
  ct_GREATEST_BACK : Tok
  g_GREATEST_BACK : mg "GREATEST_BACK" = some (.int 200 ct_GREATEST_BACK)
  ct_LAST_CELL : Tok
  g_LAST_CELL : mg "LAST_CELL" = some (.int 15 ct_LAST_CELL)
  ct_GREATEST_TIME : Tok
  g_GREATEST_TIME : mg "GREATEST_TIME" = some (.int 1000000000 ct_GREATEST_TIME)
  ct_MOST_CELLS : Tok
  g_MOST_CELLS : mg "MOST_CELLS" = some (.int 16 ct_MOST_CELLS)
  cl_Rule : Cls K c_Rule
  mkk_Rule : PySem.W.makesIn K c_Rule = true
  na_Rule_worth : NoAttr K c_Rule "worth"
  na_Rule_back : NoAttr K c_Rule "back"
  na_Rule_cell : NoAttr K c_Rule "cell"
  na_Rule_added : NoAttr K c_Rule "added"
  na_Rule_other_back : NoAttr K c_Rule "other_back"
  na_Rule_other_cell : NoAttr K c_Rule "other_cell"
  na_Rule_begin : NoAttr K c_Rule "begin"
  na_Rule_span : NoAttr K c_Rule "span"
  na_Rule_worths : NoAttr K c_Rule "worths"
  na_Rule_rules : NoAttr K c_Rule "rules"
  na_Rule_cells : NoAttr K c_Rule "cells"
  na_Rule_rule : NoAttr K c_Rule "rule"
  mt_Rule_told : Meth K c_Rule "told" a_Rule_told
  mt_Rule_needs : Meth K c_Rule "needs" a_Rule_needs
  mt_Rule_value : Meth K c_Rule "value" a_Rule_value
  cl_Plain : Cls K c_Plain
  mkk_Plain : PySem.W.makesIn K c_Plain = true
  na_Plain_worth : NoAttr K c_Plain "worth"
  na_Plain_back : NoAttr K c_Plain "back"
  na_Plain_cell : NoAttr K c_Plain "cell"
  na_Plain_added : NoAttr K c_Plain "added"
  na_Plain_other_back : NoAttr K c_Plain "other_back"
  na_Plain_other_cell : NoAttr K c_Plain "other_cell"
  na_Plain_begin : NoAttr K c_Plain "begin"
  na_Plain_span : NoAttr K c_Plain "span"
  na_Plain_worths : NoAttr K c_Plain "worths"
  na_Plain_rules : NoAttr K c_Plain "rules"
  na_Plain_cells : NoAttr K c_Plain "cells"
  na_Plain_rule : NoAttr K c_Plain "rule"
  mk_Plain : Mk K c_Plain a_Plain_init
  mt_Plain_str : Meth K c_Plain "__str__" a_Plain_str
  mt_Plain_told : Meth K c_Plain "told" a_Plain_told
  mt_Plain_needs : Meth K c_Plain "needs" a_Plain_needs
  mt_Plain_value : Meth K c_Plain "value" a_Plain_value
  cl_Moved : Cls K c_Moved
  mkk_Moved : PySem.W.makesIn K c_Moved = true
  na_Moved_worth : NoAttr K c_Moved "worth"
  na_Moved_back : NoAttr K c_Moved "back"
  na_Moved_cell : NoAttr K c_Moved "cell"
  na_Moved_added : NoAttr K c_Moved "added"
  na_Moved_other_back : NoAttr K c_Moved "other_back"
  na_Moved_other_cell : NoAttr K c_Moved "other_cell"
  na_Moved_begin : NoAttr K c_Moved "begin"
  na_Moved_span : NoAttr K c_Moved "span"
  na_Moved_worths : NoAttr K c_Moved "worths"
  na_Moved_rules : NoAttr K c_Moved "rules"
  na_Moved_cells : NoAttr K c_Moved "cells"
  na_Moved_rule : NoAttr K c_Moved "rule"
  mk_Moved : Mk K c_Moved a_Moved_init
  mt_Moved_str : Meth K c_Moved "__str__" a_Moved_str
  mt_Moved_told : Meth K c_Moved "told" a_Moved_told
  mt_Moved_needs : Meth K c_Moved "needs" a_Moved_needs
  mt_Moved_value : Meth K c_Moved "value" a_Moved_value
  cl_Mixed : Cls K c_Mixed
  mkk_Mixed : PySem.W.makesIn K c_Mixed = true
  na_Mixed_worth : NoAttr K c_Mixed "worth"
  na_Mixed_back : NoAttr K c_Mixed "back"
  na_Mixed_cell : NoAttr K c_Mixed "cell"
  na_Mixed_added : NoAttr K c_Mixed "added"
  na_Mixed_other_back : NoAttr K c_Mixed "other_back"
  na_Mixed_other_cell : NoAttr K c_Mixed "other_cell"
  na_Mixed_begin : NoAttr K c_Mixed "begin"
  na_Mixed_span : NoAttr K c_Mixed "span"
  na_Mixed_worths : NoAttr K c_Mixed "worths"
  na_Mixed_rules : NoAttr K c_Mixed "rules"
  na_Mixed_cells : NoAttr K c_Mixed "cells"
  na_Mixed_rule : NoAttr K c_Mixed "rule"
  mk_Mixed : Mk K c_Mixed a_Mixed_init
  mt_Mixed_str : Meth K c_Mixed "__str__" a_Mixed_str
  mt_Mixed_told : Meth K c_Mixed "told" a_Mixed_told
  mt_Mixed_needs : Meth K c_Mixed "needs" a_Mixed_needs
  mt_Mixed_value : Meth K c_Mixed "value" a_Mixed_value
  cl_Leaf : Cls K c_Leaf
  mkk_Leaf : PySem.W.makesIn K c_Leaf = true
  na_Leaf_worth : NoAttr K c_Leaf "worth"
  na_Leaf_back : NoAttr K c_Leaf "back"
  na_Leaf_cell : NoAttr K c_Leaf "cell"
  na_Leaf_added : NoAttr K c_Leaf "added"
  na_Leaf_other_back : NoAttr K c_Leaf "other_back"
  na_Leaf_other_cell : NoAttr K c_Leaf "other_cell"
  na_Leaf_begin : NoAttr K c_Leaf "begin"
  na_Leaf_span : NoAttr K c_Leaf "span"
  na_Leaf_worths : NoAttr K c_Leaf "worths"
  na_Leaf_rules : NoAttr K c_Leaf "rules"
  na_Leaf_needs : NoAttr K c_Leaf "needs"
  mk_Leaf : Mk K c_Leaf a_Leaf_init
  mt_Leaf_told : Meth K c_Leaf "told" a_Leaf_told
  mt_Leaf_cells : Meth K c_Leaf "cells" a_Leaf_cells
  mt_Leaf_rule : Meth K c_Leaf "rule" a_Leaf_rule
  cl_Full : Cls K c_Full
  mkk_Full : PySem.W.makesIn K c_Full = true
  na_Full_worth : NoAttr K c_Full "worth"
  na_Full_back : NoAttr K c_Full "back"
  na_Full_cell : NoAttr K c_Full "cell"
  na_Full_added : NoAttr K c_Full "added"
  na_Full_other_back : NoAttr K c_Full "other_back"
  na_Full_other_cell : NoAttr K c_Full "other_cell"
  na_Full_begin : NoAttr K c_Full "begin"
  na_Full_span : NoAttr K c_Full "span"
  na_Full_worths : NoAttr K c_Full "worths"
  na_Full_rules : NoAttr K c_Full "rules"
  na_Full_needs : NoAttr K c_Full "needs"
  mk_Full : Mk K c_Full a_Full_init
  mt_Full_told : Meth K c_Full "told" a_Full_told
  mt_Full_cells : Meth K c_Full "cells" a_Full_cells
  mt_Full_rule : Meth K c_Full "rule" a_Full_rule
  cl_Still : Cls K c_Still
  mkk_Still : PySem.W.makesIn K c_Still = true
  na_Still_worth : NoAttr K c_Still "worth"
  na_Still_back : NoAttr K c_Still "back"
  na_Still_cell : NoAttr K c_Still "cell"
  na_Still_added : NoAttr K c_Still "added"
  na_Still_other_back : NoAttr K c_Still "other_back"
  na_Still_other_cell : NoAttr K c_Still "other_cell"
  na_Still_begin : NoAttr K c_Still "begin"
  na_Still_span : NoAttr K c_Still "span"
  na_Still_worths : NoAttr K c_Still "worths"
  na_Still_rules : NoAttr K c_Still "rules"
  na_Still_needs : NoAttr K c_Still "needs"
  mk_Still : Mk K c_Still a_Still_init
  mt_Still_told : Meth K c_Still "told" a_Still_told
  mt_Still_cells : Meth K c_Still "cells" a_Still_cells
  mt_Still_rule : Meth K c_Still "rule" a_Still_rule
  cl_Woven : Cls K c_Woven
  mkk_Woven : PySem.W.makesIn K c_Woven = true
  na_Woven_worth : NoAttr K c_Woven "worth"
  na_Woven_back : NoAttr K c_Woven "back"
  na_Woven_cell : NoAttr K c_Woven "cell"
  na_Woven_added : NoAttr K c_Woven "added"
  na_Woven_other_back : NoAttr K c_Woven "other_back"
  na_Woven_other_cell : NoAttr K c_Woven "other_cell"
  na_Woven_begin : NoAttr K c_Woven "begin"
  na_Woven_span : NoAttr K c_Woven "span"
  na_Woven_worths : NoAttr K c_Woven "worths"
  na_Woven_rules : NoAttr K c_Woven "rules"
  na_Woven_needs : NoAttr K c_Woven "needs"
  mk_Woven : Mk K c_Woven a_Woven_init
  mt_Woven_told : Meth K c_Woven "told" a_Woven_told
  mt_Woven_cells : Meth K c_Woven "cells" a_Woven_cells
  mt_Woven_rule : Meth K c_Woven "rule" a_Woven_rule
  x_NoRule : PySem.W.excIn K c_NoRule [.type "ValueError", .type "Exception", .type "BaseException", .type "object"] "ValueError.__new__" = true
  k_NoRule : PySem.W.keepIn K (.ref c_NoRule) = true
  bb_NoRule : PySem.W.subIn K (.ref c_NoRule) (.type "BaseException") = some true
  t_NoRule : PySem.W.typeIn K (.ref c_NoRule) = some (.type "type")
  xc_NoRule : ExcC K c_NoRule
  x_NoLeaf : PySem.W.excIn K c_NoLeaf [.type "ValueError", .type "Exception", .type "BaseException", .type "object"] "ValueError.__new__" = true
  k_NoLeaf : PySem.W.keepIn K (.ref c_NoLeaf) = true
  bb_NoLeaf : PySem.W.subIn K (.ref c_NoLeaf) (.type "BaseException") = some true
  t_NoLeaf : PySem.W.typeIn K (.ref c_NoLeaf) = some (.type "type")
  xc_NoLeaf : ExcC K c_NoLeaf
  x_NoCell : PySem.W.excIn K c_NoCell [.type "ValueError", .type "Exception", .type "BaseException", .type "object"] "ValueError.__new__" = true
  k_NoCell : PySem.W.keepIn K (.ref c_NoCell) = true
  bb_NoCell : PySem.W.subIn K (.ref c_NoCell) (.type "BaseException") = some true
  t_NoCell : PySem.W.typeIn K (.ref c_NoCell) = some (.type "type")
  xc_NoCell : ExcC K c_NoCell
  eD_Full_init : cD_Full_init = c_Full
  eD_Still_init : cD_Still_init = c_Still
  eD_Woven_init : cD_Woven_init = c_Woven
/-! ### heaps -/
/-- all but what stands at p is as it was -/
def Frm (p : Addr) (H H' : Hp) : Prop := ∀ b o, b ≠ p → H b = some o → H' b = some o
theorem Frm.get {p q : Addr} {H H' : Hp} {o : HO} (f : Frm p H H') (n : q ≠ p) (h : H q = some o) : H' q = some o := f q o n h
theorem Frm.refl {p : Addr} {H : Hp} : Frm p H H := fun _ _ _ h => h
theorem Frm.trans {p : Addr} {H H1 H2 : Hp} (a : Frm p H H1) (b : Frm p H1 H2) : Frm p H H2 := fun c o n h => b c o n (a c o n h)
theorem Frm.upd {p : Addr} {H : Hp} {o : HO} : Frm p H (upd H p o) := fun c u n h => by rw [upd_ne n]; exact h
theorem upd_old {H : Hp} {a q : Addr} {o o' : HO} (na : H a = none) (h : H q = some o) : upd H a o' q = some o := by
  rw [upd_ne (ne_of_none h na)]; exact h
theorem upd_oth {H : Hp} {a q : Addr} {o o' : HO} (na : q ≠ a) (h : H q = some o) : upd H a o' q = some o := by
  rw [upd_ne na]; exact h
theorem Frm.new {p a : Addr} {H H' : Hp} {o : HO} (f : Frm p H H') (na : H' a = none) : Frm p H (L2.upd H' a o) := fun c u n h => upd_old na (f c u n h)
theorem Frm.upd2 {p : Addr} {H H' : Hp} {o : HO} (f : Frm p H H') : Frm p H (L2.upd H' p o) := f.trans .upd
theorem Frm.own {p a : Addr} {H H' : Hp} {o : HO} (f : Frm p H H') (na : H a = none) : Frm p H (L2.upd H' a o) := fun c u n h => upd_oth (ne_of_none h na) (f c u n h)
theorem Frm.new2 {p a : Addr} {H H' : Hp} {o o2 : HO} (f : Frm p H H') (na : H' a = none) : Frm p H (L2.upd (L2.upd H' a o2) a o) := by rw [upd_upd]; exact f.new na
theorem upd_old2 {H : Hp} {a q : Addr} {o o' o2 : HO} (na : H a = none) (h : H q = some o) : upd (upd H a o2) a o' q = some o := by rw [upd_upd]; exact upd_old na h
theorem new_ne {H : Hp} {a q : Addr} {o : HO} (na : H a = none) (h : H q = some o) : a ≠ q := fun e => by subst e; rw [na] at h; cases h
theorem Same.get {q : Addr} {H H' : Hp} {o : HO} (f : Same H H') (h : H q = some o) : H' q = some o := f q o h
theorem Same.new {a : Addr} {H H' : Hp} {o : HO} (f : Same H H') (na : H' a = none) : Same H (L2.upd H' a o) := fun c u h => upd_old na (f c u h)
theorem Same.new2 {a : Addr} {H H' : Hp} {o o2 : HO} (f : Same H H') (na : H' a = none) : Same H (L2.upd (L2.upd H' a o2) a o) := by rw [upd_upd]; exact Same.new f na
theorem Same.own {a : Addr} {H H' : Hp} {o : HO} (f : Same H H') (na : H a = none) : Same H (L2.upd H' a o) := fun c u h => upd_oth (ne_of_none h na) (f c u h)
theorem Same.frm {p : Addr} {H H' : Hp} (f : Same H H') : Frm p H H' := fun c u _ h => f c u h
/-- what is new to an elder heap and stands apart is no matter -/
theorem Frm.same {p : Addr} {H H' : Hp} (f : Frm p H H') (n : H p = none) : Same H H' := fun c u h => f c u (ne_of_none h n) h
theorem Same.byFrm {p : Addr} {H H1 H2 : Hp} (f : Same H H1) (g : Frm p H1 H2) (n : H p = none) : Same H H2 := fun c u h => g c u (ne_of_none h n) (f c u h)
theorem Frm.none {p q : Addr} {H H' : Hp} (f : Frm p H H') (n : q ≠ p) (h : H' q = none) : H q = none := by
  cases e : H q with
  | none => rfl
  | some o => rw [f q o n e] at h; cases h
theorem Same.none {q : Addr} {H H' : Hp} (f : Same H H') (h : H' q = none) : H q = none := by
  cases e : H q with
  | none => rfl
  | some o => rw [f q o e] at h; cases h
/-! ### sizes, ifs -/
theorem szb {n : Nat} (h : n ≤ 16000000) : n ≤ sizeLine := Nat.le_trans h (by decide)
theorem szbl {n : Nat} (h : n ≤ 16000000) : n < sizeLine := Nat.lt_of_le_of_lt h (by decide)
theorem sz {n : Nat} (h : Nat.ble n 1000 = true) : n ≤ sizeLine := Nat.le_trans (Nat.le_of_ble_eq_true h) (by decide)
theorem szl {n : Nat} (h : Nat.ble n 1000 = true) : n < sizeLine := Nat.lt_of_le_of_lt (Nat.le_of_ble_eq_true h) (by decide)
theorem szn {n : Nat} (h : n ≤ 1000) : n ≤ sizeLine := Nat.le_trans h (by decide)
theorem sznl {n : Nat} (h : n ≤ 1000) : n < sizeLine := Nat.lt_of_le_of_lt h (by decide)
theorem ifT {c : Bool} {A B : Prop} (h : c = true) (a : A) : if c = true then A else B := by rw [if_pos h]; exact a
theorem ifF {c : Bool} {A B : Prop} (h : c = false) (b : B) : if c = true then A else B := by rw [h, if_neg Bool.false_ne_true]; exact b
theorem ifC {c : Bool} {A B : Prop} (a : c = true → A) (b : c = false → B) : if c = true then A else B := by
  cases c with
  | true => exact ifT rfl (a rfl)
  | false => exact ifF rfl (b rfl)
theorem ifAnd {k1 k2 : Bool} {A : Prop} {Q : VK} {H : Hp} (a : Q (.bl k2) H → A) (h : Q (.bl (k1 && k2)) H) : if k1 = true then A else Q (.bl false) H := by
  cases k1 with
  | true => exact ifT rfl (a h)
  | false => exact ifF rfl h
/-! ### items at a drawn place -/
theorem at_nn {α : Type} {xs : List α} {d : Int} (h0 : 0 ≤ d) (h1 : d < xs.length) : ∃ v, atI xs d = some v ∧ v ∈ xs ∧ xs[d.toNat]? = some v := by
  have h2 : d.toNat < xs.length := by omega
  have e : (d.toNat : Int) = d := by omega
  have k := atI_nat (List.getElem?_eq_getElem h2)
  rw [e] at k
  exact ⟨xs[d.toNat], k, List.getElem_mem h2, List.getElem?_eq_getElem h2⟩
theorem ixP {K : PySem.W.Frag} {H : Hp} {Q : VK} {p : Addr} {xs : List V} {d : Int} (R : V → Prop) (hp : SqL K H p xs) (h0 : 0 ≤ d) (h1 : d < xs.length) (all : ∀ v ∈ xs, R v) (k : ∀ v, R v → Q v H) : rIxL K (.ref p) (.int d) H Q := by
  obtain ⟨v, e, m, _⟩ := at_nn h0 h1
  exact ⟨_, _, _, _, rfl, rfl, hp, e, k v (all v m)⟩
theorem ixG {K : PySem.W.Frag} {H : Hp} {Q : VK} {p : Addr} {xs : List V} {d : Int} (hp : SqL K H p xs) (h0 : 0 ≤ d) (h1 : d < xs.length) (k : ∀ v, xs[d.toNat]? = some v → Q v H) : rIxL K (.ref p) (.int d) H Q := by
  obtain ⟨v, e, _, m⟩ := at_nn h0 h1
  exact ⟨_, _, _, _, rfl, rfl, hp, e, k v m⟩
def isI : V → Bool
  | .int _ => true
  | _ => false
theorem ixI {K : PySem.W.Frag} {H : Hp} {Q : VK} {p : Addr} {xs : List V} {d : Int} (hp : SqL K H p xs) (h0 : 0 ≤ d) (h1 : d < xs.length) (all : xs.all isI = true) (k : ∀ i, V.int i ∈ xs → Q (.int i) H) : rIxL K (.ref p) (.int d) H Q := by
  refine ixP (fun v => (∃ i, v = .int i) ∧ v ∈ xs) hp h0 h1 (fun v hv => ⟨?_, hv⟩) (fun v ⟨⟨i, e⟩, m⟩ => ?_)
  · have := List.all_eq_true.mp all v hv
    cases v <;> first | exact ⟨_, rfl⟩ | cases this
  · subst e; exact k i m
/-! ### a call with keywords alone -/
section
variable {X : Cx} {CX : CXT} {k : Nat} {f : Addr} {fd : FuncData} {ps ks : List Str} {sp : Sp} {E : XK} {x : Str} {p pos : Pos} {kws : List Keyword} {tk : TA} {g : List Value → List Value → List Value} {gV : List V → List V → List V}
theorem pe_callN0 (F : FnOk X.prog X.w X.K X.mg X.base CX k f fd ps sp) (hr : Room k X.A) (hg : Gl X x) (hm : X.mg x = some (.ref f)) (hk : PySem.W.keepIn X.K (.ref f) = true) (hb : KBn X.K fd ps 0 ks g gV) (hx : Passes CX X E)
    (hkw : PK X kws tk) (hall : (backToKw pos (keywordEach kws X.env)).all (·.1.isSome) = true := by rfl) (hks : (backToKw pos (keywordEach kws X.env)).filterMap (·.1) = ks := by rfl)
    (hdb : (x == ("__debug__" : Str)) = false := by decide)
    (hpl : ((backTo pos (starEach [] X.env)).any (·.1) || (backToKw pos (keywordEach kws X.env)).any (·.1.isNone)) = false := by rfl) :
    PE X (.Call (.Name x p) [] kws pos) (tCallN 0 ks.length sp gV E tNil tk) := by
  refine ⟨fun pins s σ H Q I h => ?_⟩
  refine wpAny_Call_Name_kw (ld_glob I hg hm ?_ hdb)
  refine PySem.W.callWith_KW0 (h₀ := X.base) I.ok.mod.kin hk hall (thn (hkw.run pos pins s σ H _ I h) fun ws s2 ⟨zs, H2, I2, rz, l1, l2, q2⟩ => ⟨I2.kIn, ?_⟩) hpl
  rw [hks]
  exact run_fnN F hr hb hx I2 .nil rz rfl l2 q2
end
section
variable {K : PySem.W.Frag} {x qual : Str} {st : Stmt} {f : Addr} {fd : FuncData} {ps ks : List Str} {n : Nat}
theorem kbAll {F : Fun K x qual st f fd} {g : {α : Type} → List α → List α → List α} (h : ∀ (kV doc pm : Value) (an : Option Addr) (cdv ct : Value) (us ws : List Value), us.length = n → ws.length = ks.length →
    bindArgs (PySem.W.fnOf x qual (defArgs st) (defBody st) (defScope st) .none kV doc pm an cdv ct) ⟨us, ks.zip ws⟩ = pure (ps.zip (g us ws)))
    (hrel : ∀ {vs : List V} {us : List Value} {zs : List V} {ws : List Value}, Vals vs us → Vals zs ws → Vals (g vs zs) (g us ws)) : KBn K fd ps n ks (fun us ws => g us ws) (fun us ws => g us ws) := by
  obtain ⟨oc, od, kV, doc, pm, an, cdv, ct, osl, rfl, lk, hcd⟩ := F.ex
  exact ⟨fun s us ws _ h1 h2 => .of_eq (h kV doc pm an cdv ct us ws h1 h2), fun r1 r2 => hrel r1 r2⟩
variable {params : Arguments} {body : List Stmt} {scope : Scope} {dvs : List V}
theorem bindsAll {F : FunD K x qual params body scope dvs [] f fd}
    (h : ∀ (T : Addr) (kV doc pm : Value) (an : Option Addr) (cdv ct : Value) (us its : List Value), us.length = ps.length → its.length = dvs.length →
      ∃ k, bindArgs (PySem.W.fnOf x qual params body scope (.ref T) kV doc pm an cdv ct) ⟨us, []⟩ = seqItems? (.ref T) >>= k ∧ k (some its.toArray) = pure (ps.zip us)) (hd : dvs ≠ []) : Binds K fd ps [] := by
  obtain ⟨ds, hv, hb⟩ := F.binds1 (ps := ps) ps.length dvs.length hd (by omega) (fun T kV doc pm an cdv ct us its h1 h2 => by
    obtain ⟨k, e1, e2⟩ := h T kV doc pm an cdv ct us its h1 h2
    refine ⟨k, e1, ?_⟩
    rw [e2, ← h2, List.drop_length, List.append_nil])
  rw [List.drop_length] at hv
  cases hv
  exact hb
theorem kbAllD {F : FunD K x qual params body scope dvs [] f fd} {g : {α : Type} → List α → List α → List α}
    (h : ∀ (T : Addr) (kV doc pm : Value) (an : Option Addr) (cdv ct : Value) (us its ws : List Value), us.length = n → its.length = dvs.length → ws.length = ks.length →
      ∃ k, bindArgs (PySem.W.fnOf x qual params body scope (.ref T) kV doc pm an cdv ct) ⟨us, ks.zip ws⟩ = seqItems? (.ref T) >>= k ∧ k (some its.toArray) = pure (ps.zip (g us ws))) (hd : dvs ≠ [])
    (hrel : ∀ {vs : List V} {us : List Value} {zs : List V} {ws : List Value}, Vals vs us → Vals zs ws → Vals (g vs zs) (g us ws)) : KBn K fd ps n ks (fun us ws => g us ws) (fun us ws => g us ws) := by
  obtain ⟨oc, od, dV, kV, doc, pm, an, cdv, ct, osl, rfl, lk, hcd, hD, hK⟩ := F.ex
  rcases hD with ⟨e, _⟩ | ⟨_, T, o, its, m, rfl, lT, oT, rT⟩
  · exact absurd e hd
  · refine ⟨fun s us ws X l1 l2 => ?_, fun r1 r2 => hrel r1 r2⟩
    obtain ⟨k, e1, e2⟩ := h T kV doc pm an cdv ct us its ws l1 rT.length.symm l2
    refine BindsTo.of_looks fun M => ?_
    rw [e1]
    exact looks_items X lT oT (.of_pure e2)
theorem exm_by {K : PySem.W.Frag} {C S : Addr} {b : Bool} (h1 : PySem.W.subIn K (.ref S) (.type "BaseException") = some true) (h2 : PySem.W.isClsIn K S = true) (h3 : PySem.W.typeIn K (.ref S) = some (.type "type")) (h4 : PySem.W.subIn K (.ref C) (.ref S) = some b) :
    PySem.W.exmOne K (.ref C) (.ref S) = some b := by
  have e1 : (PySem.W.subIn K (.ref S) (.type "BaseException") == some true) = true := by rw [h1] <;> rfl
  have e2 : ((PySem.W.clsIn K S).isSome && PySem.W.typeIn K (.ref S) == some (.type "type")) = true := by
    have h2' : (PySem.W.clsIn K S).isSome = true := h2
    rw [h2', h3] <;> rfl
  show (if (PySem.W.subIn K (.ref S) (.type "BaseException") == some true) = true then (if ((PySem.W.clsIn K S).isSome && PySem.W.typeIn K (.ref S) == some (.type "type")) = true then PySem.W.subIn K (.ref C) (.ref S) else none) else none) = some b
  rw [if_pos e1, if_pos e2]
  exact h4
end
/-! ### a < b < c of whole numbers, as one answer -/
def MonoE (t : TE) : Prop := ∀ (σ : L2.St) (H : Hp) (Q Q' : VK), (∀ v H', Q v H' → Q' v H') → t σ H Q → t σ H Q'
theorem mn_var {i : Nat} : MonoE (tVar i) := fun _ _ _ _ k ⟨v, e, q⟩ => ⟨v, e, k _ _ q⟩
theorem mn_c {v : V} : MonoE (tC v) := fun _ _ _ _ k q => k _ _ q
theorem mn_I0 {g : Int → Int → V} {ta tb : TE} (a : MonoE ta) (b : MonoE tb) : MonoE (tOp (rI0 g) ta tb) := fun σ H Q Q' k h =>
  a σ H _ _ (fun _ H1 h1 => b σ H1 _ _ (fun _ _ ⟨i, j, e1, e2, q⟩ => ⟨i, j, e1, e2, k _ _ q⟩) h1) h
theorem mn_I {C : Int → Int → Prop} {g : Int → Int → V} {ta tb : TE} (a : MonoE ta) (b : MonoE tb) : MonoE (tOp (rI C g) ta tb) := fun σ H Q Q' k h =>
  a σ H _ _ (fun _ H1 h1 => b σ H1 _ _ (fun _ _ ⟨i, j, e1, e2, c, q⟩ => ⟨i, j, e1, e2, c, k _ _ q⟩) h1) h
theorem mn_ixL {K : PySem.W.Frag} {ta tb : TE} (a : MonoE ta) (b : MonoE tb) : MonoE (tOp (rIxL K) ta tb) := fun σ H Q Q' k h =>
  a σ H _ _ (fun _ H1 h1 => b σ H1 _ _ (fun _ _ ⟨p, xs, i, v, e1, e2, s, e, q⟩ => ⟨p, xs, i, v, e1, e2, s, e, k _ _ q⟩) h1) h
theorem mn_ixT {K : PySem.W.Frag} {ta tb : TE} (a : MonoE ta) (b : MonoE tb) : MonoE (tOp (rIxT K) ta tb) := fun σ H Q Q' k h =>
  a σ H _ _ (fun _ H1 h1 => b σ H1 _ _ (fun _ _ ⟨p, xs, i, v, e1, e2, s, e, q⟩ => ⟨p, xs, i, v, e1, e2, s, e, k _ _ q⟩) h1) h
theorem mn_len {r : List V → Hp → VK → Prop} {ta : TE} (a : MonoE ta) (hr : ∀ vs H (Q Q' : VK), (∀ v H', Q v H' → Q' v H') → r vs H Q → r vs H Q') : MonoE (tCB r (tCons ta tNil)) := fun σ H Q Q' k h =>
  a σ H _ _ (fun _ H1 h1 => hr _ _ _ _ k h1) h
def tChI (g g' : Int → Int → Bool) (ta tb tc : TE) : TE := fun σ H Q => ta σ H fun x H1 => tb σ H1 fun y H2 => tc σ H2 fun z H3 => ∃ i j l : Int, x = .int i ∧ y = .int j ∧ z = .int l ∧ H3 = H2 ∧ Q (.bl (g i j && g' j l)) H2
/-- what c's reading tells is told at once: c changes nothing -/
theorem tChI_to {g g' : Int → Int → Bool} {ta tb tc : TE} (ma : MonoE ta) (mb : MonoE tb) (mc : MonoE tc) {σ : L2.St} {H : Hp} {Q : VK} (cx : ∀ (σ : L2.St) (H : Hp) (Q : V → Hp → Prop), tc σ H Q → ∃ v H', Q v H') (h : tChI g g' ta tb tc σ H Q) :
    tChain (rI0 fun i j => .bl (g i j)) (rI0 fun i j => .bl (g' i j)) ta tb tc σ H Q := by
  refine ma σ H _ _ (fun x H1 h1 => mb σ H1 _ _ (fun y H2 h2 => ?_) h1) h
  obtain ⟨_, _, i, j, l, ex, ey, _, _, q⟩ := cx _ _ _ h2
  refine ⟨i, j, ex, ey, _, rfl, ?_⟩
  cases e : g i j with
  | true =>
    refine ifT rfl (mc σ H2 _ _ (fun z H3 h3 => ?_) h2)
    obtain ⟨i', j', l', ex', ey', ez, e3, q'⟩ := h3
    have e1 : i' = i := V.int.inj (ex'.symm.trans ex)
    have e2 : j' = j := V.int.inj (ey'.symm.trans ey)
    subst e1 e2 ez e3
    rw [e, Bool.true_and] at q'
    exact ⟨j', l', ey, rfl, q'⟩
  | false =>
    rw [e, Bool.false_and] at q
    exact ifF rfl q
def ShowsE (t : TE) : Prop := ∀ (σ : L2.St) (H : Hp) (Q : V → Hp → Prop), t σ H Q → ∃ v H', Q v H'
theorem sh_var {i : Nat} : ShowsE (tVar i) := fun _ _ _ ⟨v, _, q⟩ => ⟨v, _, q⟩
theorem sh_c {v : V} : ShowsE (tC v) := fun _ _ _ q => ⟨_, _, q⟩
theorem sh_I0 {g : Int → Int → V} {ta tb : TE} (a : ShowsE ta) (b : ShowsE tb) : ShowsE (tOp (rI0 g) ta tb) := fun σ H Q h => by
  obtain ⟨x, H1, h1⟩ := a _ _ _ h
  obtain ⟨y, H2, h2⟩ := b _ _ _ h1
  obtain ⟨i, j, _, _, q⟩ := h2
  exact ⟨_, _, q⟩
theorem sh_I {C : Int → Int → Prop} {g : Int → Int → V} {ta tb : TE} (a : ShowsE ta) (b : ShowsE tb) : ShowsE (tOp (rI C g) ta tb) := fun σ H Q h => by
  obtain ⟨x, H1, h1⟩ := a _ _ _ h
  obtain ⟨y, H2, h2⟩ := b _ _ _ h1
  obtain ⟨i, j, _, _, _, q⟩ := h2
  exact ⟨_, _, q⟩
theorem sh_ixL {K : PySem.W.Frag} {ta tb : TE} (a : ShowsE ta) (b : ShowsE tb) : ShowsE (tOp (rIxL K) ta tb) := fun σ H Q h => by
  obtain ⟨x, H1, h1⟩ := a _ _ _ h
  obtain ⟨y, H2, h2⟩ := b _ _ _ h1
  obtain ⟨_, _, _, _, _, _, _, _, q⟩ := h2
  exact ⟨_, _, q⟩
theorem sh_ixT {K : PySem.W.Frag} {ta tb : TE} (a : ShowsE ta) (b : ShowsE tb) : ShowsE (tOp (rIxT K) ta tb) := fun σ H Q h => by
  obtain ⟨x, H1, h1⟩ := a _ _ _ h
  obtain ⟨y, H2, h2⟩ := b _ _ _ h1
  obtain ⟨_, _, _, _, _, _, _, _, q⟩ := h2
  exact ⟨_, _, q⟩
theorem PE.weak {X : Cx} {e : Expr} {t t' : TE} (h : PE X e t) (w : ∀ σ H Q, t' σ H Q → t σ H Q) : PE X e t' := ⟨fun pins s σ H Q I q => h.run pins s σ H Q I (w _ _ _ q)⟩
theorem pe_chainI {X : Cx} {op op' : CmpOp} {g g' : Int → Int → Bool} {a b c : Expr} {ta tb tc : TE} {pos : Pos} (ho : OpR X (compareOp op) (rI0 fun i j => .bl (g i j))) (ho' : OpR X (compareOp op') (rI0 fun i j => .bl (g' i j)))
    (ha : PE X a ta) (hb : PE X b tb) (hc : PE X c tc) (ma : MonoE ta) (mb : MonoE tb) (mc : MonoE tc) (sc : ShowsE tc) (hm : lastMarks [op, op'] [b, c] = false := by rfl) : PE X (.Compare a [op, op'] [b, c] pos) (tChI g g' ta tb tc) :=
  PE.weak (pe_chain ho ho' ha hb hc hm) (fun _ _ _ h => tChI_to ma mb mc sc h)
/-! ### rules within a comprehension: the written part by its own name -/
section
variable {X : Cx} {K : PySem.W.Frag}
theorem ix_listK (h : X.K = K) : IxR X (rIxL K) := h ▸ ix_list
theorem ix_tupK (h : X.K = K) : IxR X (rIxT K) := h ▸ ix_tup
theorem sl_listK (h : X.K = K) : SlR X (rSlL K) := h ▸ sl_list
theorem call_len_seqK (h : X.K = K) : CallR X (.builtin "len") (fun xs H Q => ∃ p ys, xs = [.ref p] ∧ (SqL K H p ys ∨ SqT K H p ys) ∧ Q (.int ys.length) H) := h ▸ call_len_seq
end
section
variable {X : Cx} {K : PySem.W.Frag}
theorem call_isiB (h : X.K = K) : CallR X (.builtin "isinstance") (rIsi K) := h ▸ call_isi
end
/-! ### comprehensions and loops whose invariants speak of the heap at their begin -/
theorem lcL {K : PySem.W.Frag} {a : Addr} {xs : List V} {g : TG} {tt : TT} {te : TE} {vs : List Nat} {σ : L2.St} {H1 : Hp} {D : Addr} {Qd : Hp → Prop} (Pv : Hp → Nat → Hp → Prop) (h0 : Pv H1 0 (upd H1 D (.lst []))) (hl : ∀ i H, i ≤ xs.length → Pv H1 i H → SqL K H a xs)
    (hs : ∀ i x H, xs[i]? = some x → Pv H1 i H → g x (wipe σ vs) H fun σ2 H2 => wipe σ2 vs = wipe σ vs ∧ tt σ2 H2 fun b H3 =>
      if b = true then te σ2 H3 fun y H4 => ∃ acc, H4 D = some (.lst acc) ∧ acc.length < sizeLine ∧ Pv H1 (i + 1) (upd H4 D (.lst (acc ++ [y]))) else Pv H1 (i + 1) H3) (hd : ∀ H, Pv H1 xs.length H → Qd H) :
    ∃ W : Nat → Nat → Hp → Prop, (∃ m, W 0 m (upd H1 D (.lst []))) ∧ ∀ i m H, W i m H →
      ((Itl K a).stop i H ∧ Qd H) ∨ ((Itl K a).go i H ∧ ∃ Nx : Hp → Prop, (∀ H', Nx H' → ∃ m', m' < m ∧ W (i + 1) m' H') ∧ ∀ x H', (Itl K a).yld i H x H' → g x (wipe σ vs) H' fun σ2 H2 => wipe σ2 vs = wipe σ vs ∧ tt σ2 H2 fun b H3 =>
        if b = true then te σ2 H3 fun y H4 => ∃ acc, H4 D = some (.lst acc) ∧ acc.length < sizeLine ∧ Nx (upd H4 D (.lst (acc ++ [y]))) else Nx H3) := lc_list (Pv H1) h0 hl hs hd
theorem lcR {lo : Int} {n : Nat} {g : TG} {tt : TT} {te : TE} {vs : List Nat} {σ : L2.St} {H1 : Hp} {D : Addr} {Qd : Hp → Prop} (Pv : Hp → Nat → Hp → Prop) (h0 : Pv H1 0 (upd H1 D (.lst [])))
    (hs : ∀ i H, i < n → Pv H1 i H → g (.int (lo + i)) (wipe σ vs) H fun σ2 H2 => wipe σ2 vs = wipe σ vs ∧ tt σ2 H2 fun b H3 =>
      if b = true then te σ2 H3 fun y H4 => ∃ acc, H4 D = some (.lst acc) ∧ acc.length < sizeLine ∧ Pv H1 (i + 1) (upd H4 D (.lst (acc ++ [y]))) else Pv H1 (i + 1) H3) (hd : ∀ H, Pv H1 n H → Qd H) :
    ∃ W : Nat → Nat → Hp → Prop, (∃ m, W 0 m (upd H1 D (.lst []))) ∧ ∀ i m H, W i m H →
      ((Itr lo n).stop i H ∧ Qd H) ∨ ((Itr lo n).go i H ∧ ∃ Nx : Hp → Prop, (∀ H', Nx H' → ∃ m', m' < m ∧ W (i + 1) m' H') ∧ ∀ x H', (Itr lo n).yld i H x H' → g x (wipe σ vs) H' fun σ2 H2 => wipe σ2 vs = wipe σ vs ∧ tt σ2 H2 fun b H3 =>
        if b = true then te σ2 H3 fun y H4 => ∃ acc, H4 D = some (.lst acc) ∧ acc.length < sizeLine ∧ Nx (upd H4 D (.lst (acc ++ [y]))) else Nx H3) := lc_range (Pv H1) h0 hs hd
theorem forL {K : PySem.W.Frag} {a : Addr} {xs : List V} {g : TG} {tb : TS} {D : Ends} {σ : L2.St} {H : Hp} (Pv : Hp → Nat → L2.St → Hp → Prop) (h0 : Pv H 0 σ H) (hl : ∀ i σ H', i ≤ xs.length → Pv H i σ H' → SqL K H' a xs)
    (hs : ∀ i x σ H', xs[i]? = some x → Pv H i σ H' → g x σ H' fun σ2 H2 => tb { D with nx := Pv H (i + 1), ct := Pv H (i + 1), bk := D.nx } σ2 H2) (hd : ∀ σ H', Pv H xs.length σ H' → D.nx σ H') :
    ∃ W : Nat → Nat → L2.St → Hp → Prop, (∃ m, W 0 m σ H) ∧ ∀ i m σ H, W i m σ H →
      ((Itl K a).stop i H ∧ D.nx σ H) ∨ ((Itl K a).go i H ∧ ∃ N : L2.St → Hp → Prop, (∀ σ' H', N σ' H' → ∃ m', m' < m ∧ W (i + 1) m' σ' H') ∧ ∀ x H', (Itl K a).yld i H x H' → g x σ H' fun σ2 H2 => tb { D with nx := N, ct := N, bk := D.nx } σ2 H2) := for_list (Pv H) h0 hl hs hd
theorem forR {lo : Int} {n : Nat} {g : TG} {tb : TS} {D : Ends} {σ : L2.St} {H : Hp} (Pv : Hp → Nat → L2.St → Hp → Prop) (h0 : Pv H 0 σ H)
    (hs : ∀ i σ H', i < n → Pv H i σ H' → g (.int (lo + i)) σ H' fun σ2 H2 => tb { D with nx := Pv H (i + 1), ct := Pv H (i + 1), bk := D.nx } σ2 H2) (hd : ∀ σ H', Pv H n σ H' → D.nx σ H') :
    ∃ W : Nat → Nat → L2.St → Hp → Prop, (∃ m, W 0 m σ H) ∧ ∀ i m σ H, W i m σ H →
      ((Itr lo n).stop i H ∧ D.nx σ H) ∨ ((Itr lo n).go i H ∧ ∃ N : L2.St → Hp → Prop, (∀ σ' H', N σ' H' → ∃ m', m' < m ∧ W (i + 1) m' σ' H') ∧ ∀ x H', (Itr lo n).yld i H x H' → g x σ H' fun σ2 H2 => tb { D with nx := N, ct := N, bk := D.nx } σ2 H2) := for_range (Pv H) h0 hs hd
/-- a call's answer when nothing but it matters: the heap by a name -/
theorem name_heap {P : Hp → Prop} {H : Hp} (h : ∀ H', H' = H → P H') : P H := h H rfl
/-! ### a, *b = a tuple -/
theorem Walks.later {prog : Program} {w : World} {A : Around} {I : Addr} {fp wr : List Addr} {n : Nat} {P : Nat → Value → Prop} {St : Nat → Heap → Prop} (W : Walks prog w A I fp wr (n + 1) P St) :
    Walks prog w A I fp wr n (fun i => P (i + 1)) (fun i => St (i + 1)) where
  sub := W.sub
  frame i := W.frame (i + 1)
  item i s Q E hi st hQ := W.item (i + 1) s Q E (by omega) st hQ
  done s Q E st hQ := W.done s Q E st hQ
  self i := W.self (i + 1)
theorem unpack_star {prog : Program} {w : World} {A : Around} {E : Value → Shared → Prop} {s : Shared} {t : Addr} {x : Value} {xs : List Value} {Q : List Value → Shared → Prop} (hh : A.handled = none) (ht : IsTup s.heap t (x :: xs).toArray) (hz : xs.length ≤ sizeLine)
    (hQ : ∀ (h' : Heap) (tk : Nat), (∀ b o, s.heap.get? b = some o → h'.get? b = some o) → Q [x, .ref h'.objs.size] { s with heap := h'.push { cls := .type "list", data := .seq xs.toArray }, toks := tk }) :
    wpAny (model prog w) A (unpackItems (.ref t) 2 (some 1)) Q E s := by
  have hlt : t ≠ s.heap.objs.size := by
    obtain ⟨o, ho, _⟩ := ht
    exact Nat.ne_of_lt (Heap.lt_size ho)
  unfold unpackItems
  refine wpAny_bind ?_
  unfold notIterableAtAll
  refine wpAny_bind (wpAny_specialOf ht.typeIs slot_tuple_iter.lookup (wpAny_pure ?_))
  simp only [Bool.false_eq_true, if_false]
  refine wpAny_bind (wpAny_holding (iter_tuple ht (wpAny_bind (wpAny_holding (draw_tuple hlt 1 0 _ _ ⟨_, Heap.get?_push_size _ rfl, rfl, rfl⟩ (ht.push _) (by simp) fun h1 it1 same1 => ?_)))))
  have ht1 : IsTup h1 t (x :: xs).toArray := (ht.push _).extBut same1.extBut hlt
  have e1 : List.take 1 (List.drop 0 (x :: xs).toArray.toList) = [x] := rfl
  rw [e1, if_neg (by simp)]
  refine wpAny_bind (wpAny_holding ?_)
  have W := (Walks.later (Walks.tuple (prog := prog) (w := w) (A := A.in1) hh s.heap.objs.size t hlt (x :: xs).toArray)).toS
  have hbig : s.heap.objs.size < h1.objs.size := by
    obtain ⟨o, ho, _⟩ := it1
    exact Heap.lt_size ho
  refine wpAny_collect_iter (T := "tuple_iterator") (.inr (.inr (.inr rfl))) W (fun i s' st => st.1.typeIs) ⟨it1, ht1⟩ (fun b hb => ?_) (by simp) (fun s' acc mv items => ?_) hz
  · simp only [List.mem_cons, List.not_mem_nil, or_false] at hb
    obtain ⟨o, ho, _⟩ := id ht1
    rcases hb with rfl | rfl
    · exact hbig
    · exact Heap.lt_size ho
  · have el : acc.toList = xs := by
      refine List.ext_getElem (by simpa using items.1) fun j h2 h3 => ?_
      have := items.2 j acc.toList[j] (by simp)
      simpa [List.getElem?_eq_getElem h3] using this.symm
    rw [el, if_neg (by omega)]
    refine wpAny_bind (wpAny_newList ?_ )
    have em : List.take (xs.length - (2 - 1 - 1)) xs = xs := List.take_of_length_le (by omega)
    have ed : List.drop (xs.length - (2 - 1 - 1)) xs = [] := List.drop_of_length_le (by omega)
    rw [em, ed, Moved.eq_with mv]
    refine wpAny_pure (hQ s'.heap s'.toks fun b o e => ?_)
    have nb : b ≠ s.heap.objs.size := Nat.ne_of_lt (Heap.lt_size e)
    exact mv.heap b o (by simpa using nb) (same1.extBut b o nb (Heap.get?_push_of_some _ e))
def gStar (K : PySem.W.Frag) (g0 g1 : TG) : TG := fun v σ H Q => ∃ a x xs, v = .ref a ∧ SqT K H a (x :: xs) ∧ ∀ l, H l = none → g0 x σ (upd H l (.lst xs)) fun σ1 H1 => g1 (.ref l) σ1 H1 Q
theorem pg_star {X : Cx} {e0 e1 : Expr} {p pos : Pos} {k : Nat} {g0 g1 : TG} (hc : X.calm = true) (h0 : PG X e0 g0) (h1 : PG X e1 g1) (he : assignEach [e0, .Starred e1 p] X.env = [(false, assign e0 X.env), (true, assign e1 X.env)] := by rfl) :
    PG X (.Tuple [e0, .Starred e1 p] k pos) (gStar X.K g0 g1) := by
  constructor
  rintro pins s σ H v u Q I r ⟨a, x, xs, rfl, hq, hw⟩
  cases r
  obtain ⟨its, rv, ht, hz⟩ := I.tuple hq
  cases rv with
  | @cons _ y _ ys ry rys =>
    rw [assign_Tuple]
    refine wpAny_bind (wpAny_standAt ?_)
    unfold unpack
    rw [he]
    refine wpAny_bind (wpAny_holding (unpack_star (I.ok.hd hc) ht (by rw [← rys.length]; simp only [List.length] at hz; omega) fun h' tk kp => ?_))
    have I1 : Inv X pins σ H { s with heap := h', toks := tk } := I.kept kp
    have I2 := I1.lnew (t' := tk) rys (by simp only [List.length] at hz; omega)
    refine assignInOrder_cons (thn (h0.run pins _ σ _ _ _ _ I2 ry (hw _ I1.fresh)) fun _ s1 z => ?_)
    obtain ⟨σ1, H1, I3, q1⟩ := z
    refine assignInOrder_cons (thn (h1.run pins s1 σ1 H1 (.ref h'.objs.size) _ Q I3 rfl q1) fun _ s2 z => ?_)
    exact assignInOrder_nil z
/-! ### a class made of the things of a list -/
def tMakeS (K : PySem.W.Frag) (C : Addr) (sp : Sp) (E : XK) (te : TE) : TE := fun u G Q => te u G fun y G1 => ∃ a xs, y = .ref a ∧ (SqT K G1 a xs ∨ SqL K G1 a xs) ∧
  ∀ o d, G1 o = none → G1 d = none → d ≠ o → sp (.ref o :: xs) (upd (upd G1 d (.own o)) o (.ins C d [])) (fun v G2 => v = .non ∧ Q (.ref o) G2) E
theorem pe_makeS {X : Cx} {CT : CXT} {k : Nat} {f C : Addr} {fd : FuncData} {ps : List Str} {sp : Sp} {E : XK} {x : Str} {p q pos : Pos} {e : Expr} {te : TE} (M : Mk X.K C f) (F : FnOk X.prog X.w X.K X.mg X.base CT k f fd ps sp) (hr : Room (k + 1) X.A) (hg : Gl X x) (hm : X.mg x = some (.ref C)) (hb : Binds X.K fd ps []) (hx : Passes CT X E) (he : PE X e te)
    (nd : (x == ("__debug__" : Str)) = false := by decide) (hs : starEach [.Starred e q] X.env = [(true, eval e X.env)] := by rfl) : PE X (.Call (.Name x p) [.Starred e q] [] pos) (tMakeS X.K C sp E te) := by
  constructor
  intro pins s u G Q I h
  refine wpAny_Call_Name_kw (ld_glob I hg hm (PySem.W.callWith_S (h₀ := X.base) I.ok.mod.kin M.kp (thn (he.run pins s u G _ I h) ?_) hs) nd)
  rintro v s1 ⟨y, G1, I1, ry, a, xs, rfl, hxs, q⟩
  cases ry
  refine StX.star_any I1 hxs fun us s2 I2 rv => ⟨I2.kIn, ?_⟩
  refine run_make (dvs := []) M F hr hb .nil hx I2 rv fun o d h1 h2 h3 => ?_
  rw [List.append_nil]
  exact q o d h1 h2 h3
/-! ### a method of an object whose class is one of several -/
theorem pe_either {X : Cx} {e : Expr} {t u : TE} (h : PE X e t) (k : PE X e u) : PE X e (fun σ H Q => t σ H Q ∨ u σ H Q) := ⟨fun pins s σ H Q I q => q.elim (h.run pins s σ H Q I) (k.run pins s σ H Q I)⟩
/-! ### lists of whole numbers as data -/
theorem dpInts {K : PySem.W.Frag} {H : Hp} : ∀ ns : List Int, DpAll K H (ns.map V.int) (ns.map PyData.int)
  | [] => .nil
  | n :: ns => .cons (.int n) (dpInts ns)
theorem layInts : ∀ ns : List Int, PyData.canLayAll0 (ns.map PyData.int) = true
  | [] => rfl
  | n :: ns => by simp [PyData.canLayAll0, PyData.canLay0, layInts ns]
theorem depInts : ∀ ns : List Int, PyData.depthAll (ns.map PyData.int) = 0
  | [] => rfl
  | n :: ns => by simp [PyData.depthAll, PyData.depth, depInts ns]
theorem shapedL (ns : List Int) : SeqAt.shaped (.list (ns.map PyData.int)) = true := by
  show (PyData.canLayAll0 (ns.map PyData.int) && decide (PyData.depthAll (ns.map PyData.int) + 1 ≤ 64)) = true
  rw [layInts, depInts]; rfl
theorem shapedT (ns : List Int) : SeqAt.shaped (.tuple (ns.map PyData.int)) = true := by
  show (PyData.canLayAll0 (ns.map PyData.int) && decide (PyData.depthAll (ns.map PyData.int) + 1 ≤ 64)) = true
  rw [layInts, depInts]; rfl
theorem neqInts {K : PySem.W.Frag} {H : Hp} {Q : VK} {p q : Addr} {ns ms : List Int} (h1 : SqL K H p (ns.map V.int)) (h2 : SqL K H q (ms.map V.int)) (k : Q (.bl (!decide (ns = ms))) H) : rNeD K (.ref p) (.ref q) H Q := by
  refine ⟨_, _, .lst h1 (dpInts ns), .lst h2 (dpInts ms), shapedL ns, shapedL ms, ?_⟩
  have e : PyData.eqv (.list (ns.map PyData.int)) (.list (ms.map PyData.int)) = decide (ns = ms) := by
    rw [PyData.eqv]; exact PySem.W.ked_eqvAll ns ms
  rw [e]; exact k
theorem eqInts {K : PySem.W.Frag} {H : Hp} {Q : VK} {p q : Addr} {ns ms : List Int} (h1 : SqL K H p (ns.map V.int)) (h2 : SqL K H q (ms.map V.int)) (k : Q (.bl (decide (ns = ms))) H) : rEqD K (.ref p) (.ref q) H Q := by
  refine ⟨_, _, .lst h1 (dpInts ns), .lst h2 (dpInts ms), shapedL ns, shapedL ms, ?_⟩
  have e : PyData.eqv (.list (ns.map PyData.int)) (.list (ms.map PyData.int)) = decide (ns = ms) := by
    rw [PyData.eqv]; exact PySem.W.ked_eqvAll ns ms
  rw [e]; exact k
theorem neqIntsT {K : PySem.W.Frag} {H : Hp} {Q : VK} {p q : Addr} {ns ms : List Int} (h1 : SqT K H p (ns.map V.int)) (h2 : SqT K H q (ms.map V.int)) (k : Q (.bl (!decide (ns = ms))) H) : rNeD K (.ref p) (.ref q) H Q := by
  refine ⟨_, _, .tup h1 (dpInts ns), .tup h2 (dpInts ms), shapedT ns, shapedT ms, ?_⟩
  have e : PyData.eqv (.tuple (ns.map PyData.int)) (.tuple (ms.map PyData.int)) = decide (ns = ms) := by
    rw [PyData.eqv]; exact PySem.W.ked_eqvAll ns ms
  rw [e]; exact k
theorem eqIntsT {K : PySem.W.Frag} {H : Hp} {Q : VK} {p q : Addr} {ns ms : List Int} (h1 : SqT K H p (ns.map V.int)) (h2 : SqT K H q (ms.map V.int)) (k : Q (.bl (decide (ns = ms))) H) : rEqD K (.ref p) (.ref q) H Q := by
  refine ⟨_, _, .tup h1 (dpInts ns), .tup h2 (dpInts ms), shapedT ns, shapedT ms, ?_⟩
  have e : PyData.eqv (.tuple (ns.map PyData.int)) (.tuple (ms.map PyData.int)) = decide (ns = ms) := by
    rw [PyData.eqv]; exact PySem.W.ked_eqvAll ns ms
  rw [e]; exact k
/-! ### slices -/
theorem cutV_mem {xs : List V} {lo hi : Option Int} {v : V} (h : v ∈ cutV xs lo hi) : v ∈ xs := List.mem_of_mem_drop (List.mem_of_mem_take h)
theorem cutV_lo {xs : List V} {n : Int} (h0 : 0 ≤ n) (h1 : n ≤ xs.length) : cutV xs (some n) none = xs.drop n.toNat := by
  have e : HT.sIx xs.length 0 (some n) = n.toNat := by
    have q : n = ((n.toNat : Nat) : Int) := by omega
    rw [q, HT.sIx_nat]
    omega
  unfold cutV
  rw [e, HT.sIx_none]
  exact List.take_of_length_le (by rw [List.length_drop]; exact Nat.le_refl _)
theorem cutV_hi {xs : List V} {n : Int} (h0 : 0 ≤ n) (h1 : n ≤ xs.length) : cutV xs none (some n) = xs.take n.toNat := by
  have e : HT.sIx xs.length xs.length (some n) = n.toNat := by
    have q : n = ((n.toNat : Nat) : Int) := by omega
    rw [q, HT.sIx_nat]
    omega
  unfold cutV
  rw [e, HT.sIx_none]
  rfl
/-! ### what a thing is, as far as it matters: a whole number or of one of the other kinds -/
def others : List String := ["bool", "NoneType", "str", "tuple", "list", "dict"]
inductive Thing (K : PySem.W.Frag) (H : Hp) : V → Prop where
  | int (i : Int) : Thing K H (.int i)
  | odd {v : V} {t : String} (ty : TyX K H v (.type t)) (m : t ∈ others) (n : isI v = false) : Thing K H v
def spNumber (K : PySem.W.Frag) : Sp := fun vs H Q _ => ∃ v, vs = [v] ∧ Thing K H v ∧ Q (.bl (isI v)) H
/-! ### what a thing is stays so -/
theorem TyX.keep {K : PySem.W.Frag} {H H' : Hp} {v : V} {t : Value} (f : ∀ b o, v = .ref b → H b = some o → H' b = some o) (h : TyX K H v t) : TyX K H' v t := by
  cases h with
  | base b =>
    refine .base ?_
    cases b with
    | non => exact .non
    | bl x => exact .bl x
    | int i => exact .int i
    | str x => exact .str x
    | flt x => exact .flt x
    | lst e => exact .lst (f _ _ rfl e)
    | frz e => exact .frz (f _ _ rfl e)
    | tup e => exact .tup (f _ _ rfl e)
    | dK e => exact .dK (f _ _ rfl e)
    | dT e => exact .dT (f _ _ rfl e)
    | ins e a b c d g => exact .ins (f _ _ rfl e) a b c d g
  | byt b => exact .byt b
  | set e => exact .set (f _ _ rfl e)
  | kList e c => exact .kList e c
  | kTuple e c => exact .kTuple e c
  | kDict e c => exact .kDict e c
  | fTuple e => exact .fTuple (f _ _ rfl e)
  | fDict e => exact .fDict (f _ _ rfl e)
theorem Thing.keep {K : PySem.W.Frag} {H H' : Hp} {v : V} (f : ∀ b o, v = .ref b → H b = some o → H' b = some o) (h : Thing K H v) : Thing K H' v := by
  cases h with
  | int i => exact .int i
  | odd ty m n => exact .odd (TyX.keep f ty) m n
local macro_rules | `(tactic| walk_at "sm") => `(tactic| first
  | assumption
  | exact (show Sm 64 _ by unfold Sm; decide)
  | (refine' Sm.mul ?m1 ?m2; (case m1 => walk_at "sm"); (case m2 => walk_at "sm"))
  | (refine' Sm.add ?m1 ?m2; (case m1 => walk_at "sm"); (case m2 => walk_at "sm"))
  | (refine' Sm.sub ?m1 ?m2; (case m1 => walk_at "sm"); (case m2 => walk_at "sm"))
  | (refine' Sm.neg ?m1; (case m1 => walk_at "sm"))
  | fail)
local macro_rules | `(tactic| walk_at "ne") => `(tactic| first
  | assumption
  | exact Ne.symm (by assumption)
  | (refine' new_ne ?n1 ?n2; (case n1 => assumption); (case n2 => walk_at "hp"))
  | (refine' Ne.symm (new_ne ?n1 ?n2); (case n1 => assumption); (case n2 => walk_at "hp"))
  | fail)
local macro_rules | `(tactic| walk_at "hp") => `(tactic| first
  | assumption
  | exact upd_same
  | (refine' upd_old ?na ?ho; (case na => assumption); (case ho => walk_at "hp"))
  | (refine' upd_old2 ?na ?ho; (case na => assumption); (case ho => walk_at "hp"))
  | (refine' upd_oth ?na ?ho; (case na => walk_at "ne"); (case ho => walk_at "hp"))
  | (refine' Same.get ?na ?ho; (case na => assumption); (case ho => walk_at "hp"))
  | (refine' Frm.get ?na ?nb ?ho; (case na => assumption); (case nb => walk_at "ne"); (case ho => walk_at "hp"))
  | fail)
local macro_rules | `(tactic| walk_at "fr") => `(tactic| first
  | assumption
  | exact Frm.refl
  | exact Same.refl _
  | (refine' Frm.upd2 ?f; (case f => walk_at "fr"))
  | (refine' Frm.new ?f ?n; (case n => assumption); (case f => walk_at "fr"))
  | (refine' Frm.new2 ?f ?n; (case n => assumption); (case f => walk_at "fr"))
  | (refine' Frm.own ?f ?n; (case n => assumption); (case f => walk_at "fr"))
  | (refine' Frm.trans ?f ?g; (case g => first | assumption | exact Same.frm (by assumption)); (case f => walk_at "fr"))
  | (refine' Same.new ?f ?n; (case n => assumption); (case f => walk_at "fr"))
  | (refine' Same.new2 ?f ?n; (case n => assumption); (case f => walk_at "fr"))
  | (refine' Same.own ?f ?n; (case n => assumption); (case f => walk_at "fr"))
  | (refine' Same.trans ?f ?g; (case g => assumption); (case f => walk_at "fr"))
  | (refine' Same.byFrm ?f ?g ?n; (case g => assumption); (case n => assumption); (case f => walk_at "fr"))
  | fail)
/-- one step of a reading, where its form alone tells it -/
local macro_rules | `(tactic| walk_at "g") => `(tactic| first
  | refine ⟨_, rfl, ?_⟩
  | refine ⟨_, _, rfl, rfl, ?_⟩
  | refine ⟨rfl, ?_⟩
  | refine ⟨sz rfl, fun _ _ => ?_⟩
  | refine ⟨.inl ⟨rfl, _, SqL.of (by walk_at "hp")⟩, ?_⟩
  | refine ⟨_, _, rfl, .inl (SqL.of (by walk_at "hp")), ?_⟩
  | refine ⟨_, _, rfl, .inr (SqT.of (by walk_at "hp")), ?_⟩
  | refine ⟨_, _, rfl, SqL.of (by walk_at "hp"), fun _ _ => ?_⟩
  | refine ⟨_, _, _, _, rfl, rfl, SqL.of (by walk_at "hp"), rfl, ?_⟩
  | refine ⟨_, _, _, _, rfl, rfl, SqT.of (by walk_at "hp"), rfl, ?_⟩
  | refine ⟨(show (0 : Int) < _ by first | decide | assumption), ?_⟩
  | refine ⟨⟨(show (0 : Int) < _ by first | decide | assumption), by first | decide | assumption⟩, ?_⟩
  | refine ⟨⟨(show (0 : Int) ≤ _ by decide), by decide, by decide⟩, ?_⟩
  | refine ⟨_, _, _, _, rfl, rfl, by walk_at "hp", by walk_at "hp", sz rfl, ?_⟩
  | refine ⟨_, _, _, _, rfl, rfl, by walk_at "hp", rfl, ?_⟩
  | refine ⟨(show CMul _ _ by first | exact .inl ⟨by decide, by decide⟩ | exact .inr ⟨by decide, by decide⟩ | exact .inl ⟨by omega, by omega⟩ | exact .inr ⟨by omega, by omega⟩), ?_⟩
  | refine ⟨(show CMulW _ _ from Sm.mulok (by walk_at "sm") (by walk_at "sm") (by decide) (by decide)), ?_⟩
  | refine ⟨(show CDivZ _ _ from ⟨by first | assumption | omega, Sm.mono (by walk_at "sm") (by decide)⟩), ?_⟩
  | fail)
/-- a drawn figure: a call of digit -/
local macro_rules | `(tactic| walk_at "dg") => `(tactic| (refine ⟨_, _, _, rfl, by walk_at "hp", by assumption, by first | decide | omega, by first | decide | omega, fun _ _ _ _ _ _ _ _ => ?_⟩))
/-- a list's item at a drawn place -/
local macro_rules | `(tactic| walk_at "ixI") => `(tactic| (refine' ixI (SqL.of ?h) ?h0 ?h1 ?al (fun _ _ => ?k); (case h => walk_at "hp"); (case al => rfl); (case h0 => first | assumption | omega); (case h1 => first | assumption | (simp only [List.length]; omega))))

/-! ### rules -/
def inB (lo hi : Int) : V → Bool
  | .int i => decide (lo ≤ i) && decide (i ≤ hi)
  | _ => false
theorem inB_odd {lo hi : Int} {v : V} (h : isI v = false) : inB lo hi v = false := by
  cases v <;> first | rfl | cases h
theorem inB_int {lo hi : Int} {v : V} (h : inB lo hi v = true) : ∃ n, v = .int n ∧ lo ≤ n ∧ n ≤ hi := by
  cases v with
  | int i =>
    have h2 : (decide (lo ≤ i) && decide (i ≤ hi)) = true := h
    rw [Bool.and_eq_true] at h2
    exact ⟨i, rfl, of_decide_eq_true h2.1, of_decide_eq_true h2.2⟩
  | _ => cases h
theorem int_inB {lo hi n : Int} (h0 : lo ≤ n) (h1 : n ≤ hi) : inB lo hi (.int n) = true := by
  show (decide (lo ≤ n) && decide (n ≤ hi)) = true
  rw [decide_eq_true h0, decide_eq_true h1]; rfl
def plainB : List V → Bool
  | [a] => inB 0 255 a
  | _ => false
def movedB : List V → Bool
  | [a, b, c] => inB 1 200 a && (inB 0 15 b && inB 0 255 c)
  | _ => false
def mixedB : List V → Bool
  | [a, b, c, d] => inB 1 200 a && (inB 0 15 b && (inB 1 200 c && inB 0 15 d))
  | _ => false
def kindB (v : V) (r : List V) : Bool := if decide (v = .str "plain") = true then plainB r else if decide (v = .str "moved") = true then movedB r else if decide (v = .str "mixed") = true then mixedB r else false
def ruleB : List V → Bool
  | v :: r => kindB v r
  | [] => false
inductive RuleL : List V → Prop where
  | plain (a : Int) (h0 : 0 ≤ a) (h1 : a ≤ 255) : RuleL [.str "plain", .int a]
  | moved (a b c : Int) (h0 : 1 ≤ a) (h1 : a ≤ 200) (h2 : 0 ≤ b) (h3 : b ≤ 15) (h4 : 0 ≤ c) (h5 : c ≤ 255) : RuleL [.str "moved", .int a, .int b, .int c]
  | mixed (a b c d : Int) (h0 : 1 ≤ a) (h1 : a ≤ 200) (h2 : 0 ≤ b) (h3 : b ≤ 15) (h4 : 1 ≤ c) (h5 : c ≤ 200) (h6 : 0 ≤ d) (h7 : d ≤ 15) : RuleL [.str "mixed", .int a, .int b, .int c, .int d]
theorem RuleL.of {xs : List V} (h : ruleB xs = true) : RuleL xs := by
  cases xs with
  | nil => cases h
  | cons v r =>
    have h2 : (if decide (v = .str "plain") = true then plainB r else if decide (v = .str "moved") = true then movedB r else if decide (v = .str "mixed") = true then mixedB r else false) = true := h
    split at h2
    · rename_i c
      have c := of_decide_eq_true c
      subst c
      rcases r with _ | ⟨a, _ | ⟨b, r⟩⟩
      · cases h2
      · obtain ⟨n, rfl, n0, n1⟩ := inB_int h2
        exact .plain n n0 n1
      · cases h2
    · split at h2
      · rename_i c
        have c := of_decide_eq_true c
        subst c
        rcases r with _ | ⟨a, _ | ⟨b, _ | ⟨c, _ | ⟨d, r⟩⟩⟩⟩
        · cases h2
        · cases h2
        · cases h2
        · have h3 : (inB 1 200 a && (inB 0 15 b && inB 0 255 c)) = true := h2
          rw [Bool.and_eq_true, Bool.and_eq_true] at h3
          obtain ⟨x, rfl, x0, x1⟩ := inB_int h3.1
          obtain ⟨y, rfl, y0, y1⟩ := inB_int h3.2.1
          obtain ⟨z, rfl, z0, z1⟩ := inB_int h3.2.2
          exact .moved x y z x0 x1 y0 y1 z0 z1
        · cases h2
      · split at h2
        · rename_i c
          have c := of_decide_eq_true c
          subst c
          rcases r with _ | ⟨a, _ | ⟨b, _ | ⟨c, _ | ⟨d, _ | ⟨e, r⟩⟩⟩⟩⟩
          · cases h2
          · cases h2
          · cases h2
          · cases h2
          · have h3 : (inB 1 200 a && (inB 0 15 b && (inB 1 200 c && inB 0 15 d))) = true := h2
            rw [Bool.and_eq_true, Bool.and_eq_true, Bool.and_eq_true] at h3
            obtain ⟨x, rfl, x0, x1⟩ := inB_int h3.1
            obtain ⟨y, rfl, y0, y1⟩ := inB_int h3.2.1
            obtain ⟨z, rfl, z0, z1⟩ := inB_int h3.2.2.1
            obtain ⟨u, rfl, u0, u1⟩ := inB_int h3.2.2.2
            exact .mixed x y z u x0 x1 y0 y1 z0 z1 u0 u1
          · cases h2
        · cases h2
theorem RuleL.is {xs : List V} (h : RuleL xs) : ruleB xs = true := by
  cases h with
  | plain a h0 h1 => exact int_inB h0 h1
  | moved a b c h0 h1 h2 h3 h4 h5 =>
    show (inB 1 200 (.int a) && (inB 0 15 (.int b) && inB 0 255 (.int c))) = true
    rw [int_inB h0 h1, int_inB h2 h3, int_inB h4 h5]; rfl
  | mixed a b c d h0 h1 h2 h3 h4 h5 h6 h7 =>
    show (inB 1 200 (.int a) && (inB 0 15 (.int b) && (inB 1 200 (.int c) && inB 0 15 (.int d)))) = true
    rw [int_inB h0 h1, int_inB h2 h3, int_inB h4 h5, int_inB h6 h7]; rfl
theorem RuleL.data {xs : List V} (h : RuleL xs) : ∃ (s : Str) (ns : List Int), xs = .str s :: ns.map V.int ∧ PyData.canLay0 (.str s) = true := by
  cases h with
  | plain a => exact ⟨"plain", [a], rfl, by decide +kernel⟩
  | moved a b c => exact ⟨"moved", [a, b, c], rfl, by decide +kernel⟩
  | mixed a b c d => exact ⟨"mixed", [a, b, c, d], rfl, by decide +kernel⟩
theorem evSelf (s : Str) (ns : List Int) : PyData.eqvAll (.str s :: ns.map PyData.int) (.str s :: ns.map PyData.int) = true := by
  show (PyData.eqv (.str s) (.str s) && PyData.eqvAll (ns.map PyData.int) (ns.map PyData.int)) = true
  rw [show PyData.eqvAll (ns.map PyData.int) (ns.map PyData.int) = true from (PySem.W.ked_eqvAll ns ns).trans (decide_eq_true rfl)]
  simp [PyData.eqv]
theorem shSelf {s : Str} (ns : List Int) (hs : PyData.canLay0 (.str s) = true) : (PyData.canLayAll0 (.str s :: ns.map PyData.int) && decide (PyData.depthAll (.str s :: ns.map PyData.int) + 1 ≤ 64)) = true := by
  have e1 : PyData.canLayAll0 (.str s :: ns.map PyData.int) = true := by simp [PyData.canLayAll0, hs, layInts]
  rw [e1, Bool.true_and]
  refine decide_eq_true ?_
  simp only [PyData.depthAll, PyData.depth, depInts]
  omega
theorem eqRuleT {K : PySem.W.Frag} {H : Hp} {Q : VK} {p q : Addr} {xs : List V} (r : RuleL xs) (h1 : SqT K H p xs) (h2 : SqT K H q xs) (k : Q (.bl true) H) : rEqD K (.ref p) (.ref q) H Q := by
  obtain ⟨s, ns, rfl, hs⟩ := r.data
  refine ⟨.tuple (.str s :: ns.map PyData.int), .tuple (.str s :: ns.map PyData.int), .tup h1 (.cons (.str _) (dpInts ns)), .tup h2 (.cons (.str _) (dpInts ns)), shSelf ns hs, shSelf ns hs, ?_⟩
  rw [show PyData.eqv (.tuple (.str s :: ns.map PyData.int)) (.tuple (.str s :: ns.map PyData.int)) = true from by rw [PyData.eqv]; exact evSelf s ns]
  exact k
theorem eqRuleL {K : PySem.W.Frag} {H : Hp} {Q : VK} {p q : Addr} {xs : List V} (r : RuleL xs) (h1 : SqL K H p xs) (h2 : SqL K H q xs) (k : Q (.bl true) H) : rEqD K (.ref p) (.ref q) H Q := by
  obtain ⟨s, ns, rfl, hs⟩ := r.data
  refine ⟨.list (.str s :: ns.map PyData.int), .list (.str s :: ns.map PyData.int), .lst h1 (.cons (.str _) (dpInts ns)), .lst h2 (.cons (.str _) (dpInts ns)), shSelf ns hs, shSelf ns hs, ?_⟩
  rw [show PyData.eqv (.list (.str s :: ns.map PyData.int)) (.list (.str s :: ns.map PyData.int)) = true from by rw [PyData.eqv]; exact evSelf s ns]
  exact k
/-! ### is it a text -/
theorem tyx_str {K : PySem.W.Frag} {H : Hp} {v : V} {u : Value} (ty : TyX K H v u) (e : u = .type "str") : ∃ s, v = .str s := by
  cases ty with
  | base b => cases b <;> first | exact ⟨_, rfl⟩ | (cases e; done) | (injection e with e; exact absurd e (by decide))
  | byt b => injection e with e; exact absurd e (by decide)
  | set _ => injection e with e; exact absurd e (by decide)
  | kList _ _ => injection e with e; exact absurd e (by decide)
  | kTuple _ _ => injection e with e; exact absurd e (by decide)
  | kDict _ _ => injection e with e; exact absurd e (by decide)
  | fTuple _ => injection e with e; exact absurd e (by decide)
  | fDict _ => injection e with e; exact absurd e (by decide)
theorem thing_str {K : PySem.W.Frag} {H : Hp} {v : V} (h : Thing K H v) : (∃ s, v = .str s) ∨ ((∀ s, v ≠ .str s) ∧ ∃ t, TyX K H v (.type t) ∧ kitB t "str" = some false) := by
  cases h with
  | int i => exact .inr ⟨(fun s z => nomatch z), _, .base (.int i), by decide +kernel⟩
  | @odd _ t ty m n =>
    simp only [others, List.mem_cons, List.not_mem_nil, or_false] at m
    have key : ∀ s, v = .str s → t = "str" := by
      rintro s rfl
      cases ty with
      | base b => cases b; rfl
    rcases m with rfl | rfl | rfl | rfl | rfl | rfl
    · exact .inr ⟨(fun s z => absurd (key s z) (by decide)), _, ty, by decide +kernel⟩
    · exact .inr ⟨(fun s z => absurd (key s z) (by decide)), _, ty, by decide +kernel⟩
    · exact .inl (tyx_str ty rfl)
    · exact .inr ⟨(fun s z => absurd (key s z) (by decide)), _, ty, by decide +kernel⟩
    · exact .inr ⟨(fun s z => absurd (key s z) (by decide)), _, ty, by decide +kernel⟩
    · exact .inr ⟨(fun s z => absurd (key s z) (by decide)), _, ty, by decide +kernel⟩
theorem ruleB_nostr {v : V} {r : List V} (h : ∀ s, v ≠ .str s) : ruleB (v :: r) = false := by
  show (if decide (v = .str "plain") = true then plainB r else if decide (v = .str "moved") = true then movedB r else if decide (v = .str "mixed") = true then mixedB r else false) = false
  rw [decide_eq_false (h _), decide_eq_false (h _), decide_eq_false (h _)]
  rfl
def notuple : List String := ["bool", "NoneType", "str", "list", "dict", "int"]
/-- a thing that may be handed in as a rule, or none -/
inductive Told (K : PySem.W.Frag) (H : Hp) : V → Bool → Prop where
  | tup {p : Addr} {xs : List V} (e : H p = some (.tup xs)) (t : ∀ x ∈ xs, Thing K H x) : Told K H (.ref p) (ruleB xs)
  | odd {v : V} {t : String} (ty : TyX K H v (.type t)) (m : t ∈ notuple) : Told K H v false
theorem Told.same {K : PySem.W.Frag} {H H' : Hp} {v : V} {b : Bool} (f : Same H H') (h : Told K H v b) : Told K H' v b := by
  cases h with
  | tup e t => exact .tup (f _ _ e) (fun x hx => (t x hx).keep fun b o _ h => f b o h)
  | odd ty m => exact .odd (TyX.keep (fun b o _ h => f b o h) ty) m
/-! ### promises -/
def spWhole (K : PySem.W.Frag) : Sp := fun vs H Q _ => ∃ v lo hi, vs = [v, .int lo, .int hi] ∧ Thing K H v ∧ Q (.bl (inB lo hi v)) H
def spIn (K : PySem.W.Frag) (lo hi : Int) : Sp := fun vs H Q _ => ∃ v, vs = [v] ∧ Thing K H v ∧ Q (.bl (inB lo hi v)) H
def spInit1 (C : Addr) : Sp := fun vs H Q _ => ∃ (o d : Addr) (v1 : V), vs = [.ref o, v1] ∧ H o = some (.ins C d []) ∧ Q .non (upd H o (.ins C d [("worth", v1)]))
def spInit3 (C : Addr) : Sp := fun vs H Q _ => ∃ (o d : Addr) (v1 v2 v3 : V), vs = [.ref o, v1, v2, v3] ∧ H o = some (.ins C d []) ∧ Q .non (upd H o (.ins C d [("back", v1), ("cell", v2), ("added", v3)]))
def spInit4 (C : Addr) : Sp := fun vs H Q _ => ∃ (o d : Addr) (v1 v2 v3 v4 : V), vs = [.ref o, v1, v2, v3, v4] ∧ H o = some (.ins C d []) ∧ Q .non (upd H o (.ins C d [("back", v1), ("cell", v2), ("other_back", v3), ("other_cell", v4)]))
def spTold1 (C : Addr) : Sp := fun vs H Q _ => ∃ (o d : Addr) (v1 : V), vs = [.ref o] ∧ H o = some (.ins C d [("worth", v1)]) ∧ ∀ n, H n = none → Q (.ref n) (upd H n (.tup [.str "plain", v1]))
def spTold3 (C : Addr) : Sp := fun vs H Q _ => ∃ (o d : Addr) (v1 v2 v3 : V), vs = [.ref o] ∧ H o = some (.ins C d [("back", v1), ("cell", v2), ("added", v3)]) ∧ ∀ n, H n = none → Q (.ref n) (upd H n (.tup [.str "moved", v1, v2, v3]))
def spTold4 (C : Addr) : Sp := fun vs H Q _ => ∃ (o d : Addr) (v1 v2 v3 v4 : V), vs = [.ref o] ∧ H o = some (.ins C d [("back", v1), ("cell", v2), ("other_back", v3), ("other_cell", v4)]) ∧ ∀ n, H n = none → Q (.ref n) (upd H n (.tup [.str "mixed", v1, v2, v3, v4]))
/-- a rule that is told as xs stands at o -/
inductive RuleAt (cP cM cX : Addr) (H : Hp) (o : Addr) : List V → Prop where
  | plain {d : Addr} {a : V} (e : H o = some (.ins cP d [("worth", a)])) : RuleAt cP cM cX H o [.str "plain", a]
  | moved {d : Addr} {a b c : V} (e : H o = some (.ins cM d [("back", a), ("cell", b), ("added", c)])) : RuleAt cP cM cX H o [.str "moved", a, b, c]
  | mixed {d : Addr} {a b c x : V} (e : H o = some (.ins cX d [("back", a), ("cell", b), ("other_back", c), ("other_cell", x)])) : RuleAt cP cM cX H o [.str "mixed", a, b, c, x]
theorem RuleAt.keep {cP cM cX : Addr} {H H' : Hp} {o : Addr} {xs : List V} (f : ∀ u, H o = some u → H' o = some u) (h : RuleAt cP cM cX H o xs) : RuleAt cP cM cX H' o xs := by
  cases h with
  | plain e => exact .plain (f _ e)
  | moved e => exact .moved (f _ e)
  | mixed e => exact .mixed (f _ e)
def spIsRule (K : PySem.W.Frag) : Sp := fun vs H Q _ => ∃ v b, vs = [v] ∧ Told K H v b ∧ Q (.bl b) H
def spRuleOf (K : PySem.W.Frag) (C cP cM cX : Addr) : Sp := fun vs H Q E => ∃ v b, vs = [v] ∧ Told K H v b ∧
  (b = true → ∀ p xs, v = .ref p → H p = some (.tup xs) → RuleL xs → ∀ H' o, Same H H' → H o = none → RuleAt cP cM cX H' o xs → Q (.ref o) H') ∧ (b = false → E (.ref C) none H)
/-! ### what rules need -/
def needL : List V → List (List V)
  | [_, _] => []
  | [_, a, b, _] => [[a, b]]
  | [_, a, b, c, d] => [[a, b], [c, d]]
  | _ => []
/-- a list of tuples -/
def TupsAt (H : Hp) (l : Addr) (nl : List (List V)) : Prop := ∃ ts : List Addr, H l = some (.lst (ts.map V.ref)) ∧ Paired (fun t xs => H t = some (.tup xs)) ts nl
theorem TupsAt.keep {H H' : Hp} {l : Addr} {nl : List (List V)} (f : ∀ b o, H b = some o → H' b = some o) (h : TupsAt H l nl) : TupsAt H' l nl := by
  obtain ⟨ts, e, p⟩ := h
  exact ⟨ts, f _ _ e, Paired.mono (fun a b h => f _ _ h) p⟩
def spNeeds1 (C : Addr) : Sp := fun vs H Q _ => ∃ (o d : Addr) (v1 : V), vs = [.ref o] ∧ H o = some (.ins C d [("worth", v1)]) ∧ ∀ H' l, Same H H' → H l = none → TupsAt H' l [] → Q (.ref l) H'
def spNeeds3 (C : Addr) : Sp := fun vs H Q _ => ∃ (o d : Addr) (v1 v2 v3 : V), vs = [.ref o] ∧ H o = some (.ins C d [("back", v1), ("cell", v2), ("added", v3)]) ∧ ∀ H' l, Same H H' → H l = none → TupsAt H' l [[v1, v2]] → Q (.ref l) H'
def spNeeds4 (C : Addr) : Sp := fun vs H Q _ => ∃ (o d : Addr) (v1 v2 v3 v4 : V), vs = [.ref o] ∧ H o = some (.ins C d [("back", v1), ("cell", v2), ("other_back", v3), ("other_cell", v4)]) ∧ ∀ H' l, Same H H' → H l = none → TupsAt H' l [[v1, v2], [v3, v4]] → Q (.ref l) H'
def spValue1 (K : PySem.W.Frag) (C : Addr) : Sp := fun vs H Q _ => ∃ (o d : Addr) (v1 f : V), vs = [.ref o, f] ∧ H o = some (.ins C d [("worth", v1)]) ∧ Q v1 H
def spValue3 (K : PySem.W.Frag) (C : Addr) : Sp := fun vs H Q _ => ∃ (o d l : Addr) (v1 v2 : V) (c x : Int) (r : List V), vs = [.ref o, .ref l] ∧ H o = some (.ins C d [("back", v1), ("cell", v2), ("added", .int c)]) ∧ H l = some (.lst (.int x :: r)) ∧ Q (.int ((x + c) % 256)) H
def spValue4 (K : PySem.W.Frag) (C : Addr) : Sp := fun vs H Q _ => ∃ (o d l : Addr) (v1 v2 v3 v4 : V) (x y : Int) (r : List V), vs = [.ref o, .ref l] ∧ H o = some (.ins C d [("back", v1), ("cell", v2), ("other_back", v3), ("other_cell", v4)]) ∧ H l = some (.lst (.int x :: .int y :: r)) ∧ Q (.int ((x + y) / 2)) H
theorem empty_app (a : Str) : Str.empty ++ a = a := by
  show Str.append Str.empty a = a
  simp [Str.append, Str.empty]
def tx (a : Int) : Str := Str.ofString (toString a)
theorem tx_fin : ∀ n : Fin 256, (Str.ofString (toString ((n.val : Nat) : Int))).length ≤ 3 := by decide +kernel
theorem tx_len {a : Int} (h0 : 0 ≤ a) (h1 : a ≤ 255) : (tx a).length ≤ 3 := by
  have h := tx_fin ⟨a.toNat, by omega⟩
  have e : (((⟨a.toNat, by omega⟩ : Fin 256).val : Nat) : Int) = a := by
    show ((a.toNat : Nat) : Int) = a
    omega
  rw [e] at h
  exact h
theorem log_b {a : Int} (h0 : 0 ≤ a) (h1 : a ≤ 255) : a.natAbs.log2 < 1920 := by
  have h : a.natAbs < 2 ^ 10 := by omega
  exact Nat.lt_of_lt_of_le (PySem.Flt.log2_lt_of (by decide) h) (by decide)
def word : List V → Str
  | [_, .int a] => tx a
  | [_, .int a, .int b, .int c] => tx a ++ ":" ++ tx b ++ "+" ++ tx c
  | [_, .int a, .int b, .int c, .int d] => tx a ++ ":" ++ tx b ++ "/" ++ tx c ++ ":" ++ tx d
  | _ => Str.empty
def spStr1 (C : Addr) : Sp := fun vs H Q _ => ∃ (o d : Addr) (a : Int), vs = [.ref o] ∧ H o = some (.ins C d [("worth", .int a)]) ∧ 0 ≤ a ∧ a ≤ 255 ∧ Q (.str (tx a)) H
def spStr3 (C : Addr) : Sp := fun vs H Q _ => ∃ (o d : Addr) (a b c : Int), vs = [.ref o] ∧ H o = some (.ins C d [("back", .int a), ("cell", .int b), ("added", .int c)]) ∧ 0 ≤ a ∧ a ≤ 255 ∧ 0 ≤ b ∧ b ≤ 255 ∧ 0 ≤ c ∧ c ≤ 255 ∧ Q (.str (tx a ++ ":" ++ tx b ++ "+" ++ tx c)) H
def spStr4 (C : Addr) : Sp := fun vs H Q _ => ∃ (o d : Addr) (a b c x : Int), vs = [.ref o] ∧ H o = some (.ins C d [("back", .int a), ("cell", .int b), ("other_back", .int c), ("other_cell", .int x)]) ∧ 0 ≤ a ∧ a ≤ 255 ∧ 0 ≤ b ∧ b ≤ 255 ∧ 0 ≤ c ∧ c ≤ 255 ∧ 0 ≤ x ∧ x ≤ 255 ∧ Q (.str (tx a ++ ":" ++ tx b ++ "/" ++ tx c ++ ":" ++ tx x)) H
/-! ### leaves -/
def spLeafInit (C : Addr) : Sp := fun vs H Q _ => ∃ (o d : Addr) (v1 v2 : V), vs = [.ref o, v1, v2] ∧ H o = some (.ins C d []) ∧ Q .non (upd H o (.ins C d [("begin", v1), ("span", v2)]))
def spFullInit (K : PySem.W.Frag) (C : Addr) : Sp := fun vs H Q _ => ∃ (o d t : Addr) (v1 v2 : V) (zs : List V), vs = [.ref o, v1, v2, .ref t] ∧ H o = some (.ins C d []) ∧ H t = some (.tup zs) ∧ t ≠ o ∧ Q .non (upd H o (.ins C d [("begin", v1), ("span", v2), ("worths", .ref t)]))
def spStillInit (C : Addr) : Sp := fun vs H Q _ => ∃ (o d : Addr) (v1 v2 v3 : V), vs = [.ref o, v1, v2, v3] ∧ H o = some (.ins C d []) ∧ Q .non (upd H o (.ins C d [("begin", v1), ("span", v2), ("back", v3)]))
/-- a list of rules that are told as zss -/
def RulesAt (cP cM cX : Addr) (H : Hp) (l : Addr) (zss : List (List V)) : Prop := ∃ os : List Addr, H l = some (.lst (os.map V.ref)) ∧ Paired (fun o zs => RuleAt cP cM cX H o zs) os zss
/-- a tuple of tuples -/
def TupTups (H : Hp) (t : Addr) (zss : List (List V)) : Prop := ∃ ts : List Addr, H t = some (.tup (ts.map V.ref)) ∧ Paired (fun u zs => H u = some (.tup zs)) ts zss
def spWovenInit (C cP cM cX : Addr) : Sp := fun vs H Q _ => ∃ (o d t : Addr) (v1 v2 : V) (zss : List (List V)), vs = [.ref o, v1, v2, .ref t] ∧ H o = some (.ins C d []) ∧ TupTups H t zss ∧ (∀ zs ∈ zss, RuleL zs) ∧ zss.length ≤ 16 ∧
  ∀ H' l, (∀ b u, b ≠ o → H b = some u → H' b = some u) → H' o = some (.ins C d [("begin", v1), ("span", v2), ("rules", .ref l)]) → RulesAt cP cM cX H' l zss → Q .non H'
theorem RuleAt.apart {cP cM cX : Addr} {H : Hp} {r D : Addr} {zs xs : List V} (h : RuleAt cP cM cX H r zs) (hD : H D = some (.lst xs)) : r ≠ D := by
  cases h with
  | plain e => exact ne_of e hD (fun z => nomatch z)
  | moved e => exact ne_of e hD (fun z => nomatch z)
  | mixed e => exact ne_of e hD (fun z => nomatch z)
def spRefuseCell : Sp := fun vs H Q _ => ∃ c m : Int, vs = [.int c, .int m] ∧ 0 ≤ c ∧ c < m ∧ Q .non H
def spCellsF (C : Addr) : Sp := fun vs H Q _ => ∃ (o d t : Addr) (b s : V) (zs : List V), vs = [.ref o] ∧ H o = some (.ins C d [("begin", b), ("span", s), ("worths", .ref t)]) ∧ H t = some (.tup zs) ∧ Q (.int zs.length) H
def spCellsS (C : Addr) : Sp := fun vs H Q _ => ∃ (o : Addr), vs = [.ref o] ∧ Q .non H
def spCellsW (C : Addr) : Sp := fun vs H Q _ => ∃ (o d l : Addr) (b s : V) (zs : List V), vs = [.ref o] ∧ H o = some (.ins C d [("begin", b), ("span", s), ("rules", .ref l)]) ∧ H l = some (.lst zs) ∧ Q (.int zs.length) H
/-- a new rule, or one that stood there -/
def spRuleF (C cP cM cX : Addr) : Sp := fun vs H Q _ => ∃ (o d t : Addr) (b s : V) (zs : List V) (c : Nat) (v : V), vs = [.ref o, .int c] ∧ H o = some (.ins C d [("begin", b), ("span", s), ("worths", .ref t)]) ∧ H t = some (.tup zs) ∧ zs[c]? = some v ∧ ∀ H' r, Same H H' → RuleAt cP cM cX H' r [.str "plain", v] → Q (.ref r) H'
def spRuleS (C cP cM cX : Addr) : Sp := fun vs H Q _ => ∃ (o d : Addr) (b s k : V) (c : Nat), vs = [.ref o, .int c] ∧ H o = some (.ins C d [("begin", b), ("span", s), ("back", k)]) ∧ c < 16 ∧ ∀ H' r, Same H H' → RuleAt cP cM cX H' r [.str "moved", k, .int c, .int 0] → Q (.ref r) H'
def spRuleW (C cP cM cX : Addr) : Sp := fun vs H Q _ => ∃ (o d l : Addr) (b s : V) (zss : List (List V)) (c : Nat) (zs : List V), vs = [.ref o, .int c] ∧ H o = some (.ins C d [("begin", b), ("span", s), ("rules", .ref l)]) ∧ RulesAt cP cM cX H l zss ∧ zss[c]? = some zs ∧ ∀ r, RuleAt cP cM cX H r zs → Q (.ref r) H
section
variable {P : Program} {w : World} {K : PySem.W.Frag} {mg : Str → Option Value} {base : Heap}
theorem ok_is_number (T : TxtP P K mg) : FnOk P w K mg base CX0 1 T.a_is_number T.d_is_number ["thing"] (spNumber K) := by
  refine T.F_is_number.ok sc_is_number (fun vs H Q E h => ?_) (fun cdv A outer s H vs Q E hr h => ?_)
  · obtain ⟨v, rfl, _⟩ := h
    rfl
  · obtain ⟨v, rfl, hv, q⟩ := h
    refine ⟨_, (pss_one (ps_ret (pe_and (pe_callB call_isi (by rfl) T.m_isinstance (by decide +kernel) (pa_cons (pv 0) (pa_cons (pe_bltn (v := .ty "int") (by rfl) T.m_int (by decide +kernel) rfl) pa_nil))) (pe_one (pe_not (pe_callB call_isi (by rfl) T.m_isinstance (by decide +kernel) (pa_cons (pv 0) (pa_cons (pe_bltn (v := .ty "bool") (by rfl) T.m_bool (by decide +kernel) rfl) pa_nil)))))))), ?_⟩
    repeat' walk_at "g"
    cases hv with
    | int i =>
      refine ⟨_, _, _, _, true, rfl, .ty _, .base (.int i), kit_ty (by decide +kernel), _, rfl, ifT rfl ?_⟩
      repeat' walk_at "g"
      exact ⟨_, _, _, _, false, rfl, .ty _, .base (.int i), kit_ty (by decide +kernel), _, rfl, q⟩
    | @odd _ t ty m n =>
      rw [n] at q
      simp only [others, List.mem_cons, List.not_mem_nil, or_false] at m
      rcases m with rfl | rfl | rfl | rfl | rfl | rfl
      · refine ⟨_, _, _, _, true, rfl, .ty _, ty, kit_ty (by decide +kernel), _, rfl, ifT rfl ?_⟩
        repeat' walk_at "g"
        exact ⟨_, _, _, _, true, rfl, .ty _, ty, kit_ty (by decide +kernel), _, rfl, q⟩
      all_goals exact ⟨_, _, _, _, false, rfl, .ty _, ty, kit_ty (by decide +kernel), _, rfl, ifF rfl q⟩
theorem ok_is_whole (T : TxtP P K mg) : FnOk P w K mg base CX0 2 T.a_is_whole T.d_is_whole ["thing", "low", "high"] (spWhole K) := by
  refine T.F_is_whole.ok sc_is_whole (fun vs H Q E h => ?_) (fun cdv A outer s H vs Q E hr h => ?_)
  · obtain ⟨v, lo, hi, rfl, _⟩ := h
    rfl
  · obtain ⟨v, lo, hi, rfl, hv, q⟩ := h
    refine ⟨_, (pss_one (ps_ret (pe_and (pe_call (ok_is_number T) (hr.mono (by decide)) (by rfl) T.g_is_number T.F_is_number.kp T.b_is_number .nil pass0 (pa_cons (pv 0) pa_nil)) (pe_one (pe_chainI op_le op_le (pv 1) (pv 0) (pv 2) mn_var mn_var mn_var sh_var))))), ?_⟩
    refine ⟨_, rfl, v, rfl, hv, _, rfl, ?_⟩
    cases hv with
    | int i =>
      refine ifT rfl ?_
      repeat' walk_at "g"
      exact ⟨_, _, _, rfl, rfl, rfl, rfl, q⟩
    | odd ty m n =>
      rw [inB_odd n] at q
      exact ifF n q
theorem ok_is_value (T : TxtP P K mg) : FnOk P w K mg base CX0 3 T.a_is_value T.d_is_value ["thing"] (spIn K 0 255) := by
  refine T.F_is_value.ok sc_is_value (fun vs H Q E h => ?_) (fun cdv A outer s H vs Q E hr h => ?_)
  · obtain ⟨v, rfl, _⟩ := h
    rfl
  · obtain ⟨v, rfl, hv, q⟩ := h
    exact ⟨_, (pss_one (ps_ret (pe_call (ok_is_whole T) (hr.mono (by decide)) (by rfl) T.g_is_whole T.F_is_whole.kp T.b_is_whole .nil pass0 (pa_cons (pv 0) (pa_cons pe_int (pa_cons (pe_glob (v := .int 255) (by rfl) T.g_GREATEST_VALUE ⟨_, rfl⟩) pa_nil)))))), _, rfl, _, _, _, rfl, hv, q⟩
theorem ok_is_back (T : TxtP P K mg) : FnOk P w K mg base CX0 3 T.a_is_back T.d_is_back ["thing"] (spIn K 1 200) := by
  refine T.F_is_back.ok sc_is_back (fun vs H Q E h => ?_) (fun cdv A outer s H vs Q E hr h => ?_)
  · obtain ⟨v, rfl, _⟩ := h
    rfl
  · obtain ⟨v, rfl, hv, q⟩ := h
    exact ⟨_, (pss_one (ps_ret (pe_call (ok_is_whole T) (hr.mono (by decide)) (by rfl) T.g_is_whole T.F_is_whole.kp T.b_is_whole .nil pass0 (pa_cons (pv 0) (pa_cons pe_int (pa_cons (pe_glob (v := .int 200) (by rfl) T.g_GREATEST_BACK ⟨_, rfl⟩) pa_nil)))))), _, rfl, _, _, _, rfl, hv, q⟩
theorem ok_is_cell (T : TxtP P K mg) : FnOk P w K mg base CX0 3 T.a_is_cell T.d_is_cell ["thing"] (spIn K 0 15) := by
  refine T.F_is_cell.ok sc_is_cell (fun vs H Q E h => ?_) (fun cdv A outer s H vs Q E hr h => ?_)
  · obtain ⟨v, rfl, _⟩ := h
    rfl
  · obtain ⟨v, rfl, hv, q⟩ := h
    exact ⟨_, (pss_one (ps_ret (pe_call (ok_is_whole T) (hr.mono (by decide)) (by rfl) T.g_is_whole T.F_is_whole.kp T.b_is_whole .nil pass0 (pa_cons (pv 0) (pa_cons pe_int (pa_cons (pe_glob (v := .int 15) (by rfl) T.g_LAST_CELL ⟨_, rfl⟩) pa_nil)))))), _, rfl, _, _, _, rfl, hv, q⟩
theorem ok_Plain_init (T : TxtP P K mg) : FnOk P w K mg base CX0 1 T.a_Plain_init T.d_Plain_init ["self", "value"] (spInit1 T.c_Plain) := by
  refine T.F_Plain_init.ok sc_Plain_init (fun vs H Q E h => ?_) (fun cdv A outer s H vs Q E hr h => ?_)
  · obtain ⟨o, d, v1, rfl, _⟩ := h
    rfl
  · obtain ⟨o, d, v1, rfl, ho, q⟩ := h
    refine ⟨_, (pss_one (ps_fld (pv 0) (pv 1) rfl)), ?_⟩
    repeat' walk_at "g"
    refine ⟨_, _, _, _, rfl, ho, T.cl_Plain, T.na_Plain_worth, Nat.le_of_ble_eq_true rfl, ?_⟩
    exact q
theorem ok_Plain_told (T : TxtP P K mg) : FnOk P w K mg base CX0 1 T.a_Plain_told T.d_Plain_told ["self"] (spTold1 T.c_Plain) := by
  refine T.F_Plain_told.ok sc_Plain_told (fun vs H Q E h => ?_) (fun cdv A outer s H vs Q E hr h => ?_)
  · obtain ⟨o, d, v1, rfl, _⟩ := h
    rfl
  · obtain ⟨o, d, v1, rfl, ho, q⟩ := h
    refine ⟨_, (pss_one (ps_ret (pe_tup (pa_cons pe_str (pa_cons (pe_fld (pv 0) rfl) pa_nil))))), ?_⟩
    repeat' walk_at "g"
    refine ⟨_, _, _, _, _, rfl, ho, T.cl_Plain, T.na_Plain_worth, rfl, ?_⟩
    exact ⟨sz rfl, q⟩
theorem ok_Moved_init (T : TxtP P K mg) : FnOk P w K mg base CX0 1 T.a_Moved_init T.d_Moved_init ["self", "back", "cell", "add"] (spInit3 T.c_Moved) := by
  refine T.F_Moved_init.ok sc_Moved_init (fun vs H Q E h => ?_) (fun cdv A outer s H vs Q E hr h => ?_)
  · obtain ⟨o, d, v1, v2, v3, rfl, _⟩ := h
    rfl
  · obtain ⟨o, d, v1, v2, v3, rfl, ho, q⟩ := h
    refine ⟨_, (pss_cons (ps_fld (pv 0) (pv 1) rfl)
      (pss_cons (ps_fld (pv 0) (pv 2) rfl)
      (pss_one (ps_fld (pv 0) (pv 3) rfl)))), ?_⟩
    repeat' walk_at "g"
    refine ⟨_, _, _, _, rfl, ho, T.cl_Moved, T.na_Moved_back, Nat.le_of_ble_eq_true rfl, ?_⟩
    repeat' walk_at "g"
    refine ⟨_, _, _, _, rfl, upd_same, T.cl_Moved, T.na_Moved_cell, Nat.le_of_ble_eq_true rfl, ?_⟩
    repeat' walk_at "g"
    refine ⟨_, _, _, _, rfl, upd_same, T.cl_Moved, T.na_Moved_added, Nat.le_of_ble_eq_true rfl, ?_⟩
    simp only [upd_upd]
    exact q
theorem ok_Moved_told (T : TxtP P K mg) : FnOk P w K mg base CX0 1 T.a_Moved_told T.d_Moved_told ["self"] (spTold3 T.c_Moved) := by
  refine T.F_Moved_told.ok sc_Moved_told (fun vs H Q E h => ?_) (fun cdv A outer s H vs Q E hr h => ?_)
  · obtain ⟨o, d, v1, v2, v3, rfl, _⟩ := h
    rfl
  · obtain ⟨o, d, v1, v2, v3, rfl, ho, q⟩ := h
    refine ⟨_, (pss_one (ps_ret (pe_tup (pa_cons pe_str (pa_cons (pe_fld (pv 0) rfl) (pa_cons (pe_fld (pv 0) rfl) (pa_cons (pe_fld (pv 0) rfl) pa_nil))))))), ?_⟩
    repeat' walk_at "g"
    refine ⟨_, _, _, _, _, rfl, ho, T.cl_Moved, T.na_Moved_back, rfl, ?_⟩
    repeat' walk_at "g"
    refine ⟨_, _, _, _, _, rfl, ho, T.cl_Moved, T.na_Moved_cell, rfl, ?_⟩
    repeat' walk_at "g"
    refine ⟨_, _, _, _, _, rfl, ho, T.cl_Moved, T.na_Moved_added, rfl, ?_⟩
    exact ⟨sz rfl, q⟩
theorem ok_Mixed_init (T : TxtP P K mg) : FnOk P w K mg base CX0 1 T.a_Mixed_init T.d_Mixed_init ["self", "back", "cell", "other_back", "other_cell"] (spInit4 T.c_Mixed) := by
  refine T.F_Mixed_init.ok sc_Mixed_init (fun vs H Q E h => ?_) (fun cdv A outer s H vs Q E hr h => ?_)
  · obtain ⟨o, d, v1, v2, v3, v4, rfl, _⟩ := h
    rfl
  · obtain ⟨o, d, v1, v2, v3, v4, rfl, ho, q⟩ := h
    refine ⟨_, (pss_cons (ps_fld (pv 0) (pv 1) rfl)
      (pss_cons (ps_fld (pv 0) (pv 2) rfl)
      (pss_cons (ps_fld (pv 0) (pv 3) rfl)
      (pss_one (ps_fld (pv 0) (pv 4) rfl))))), ?_⟩
    repeat' walk_at "g"
    refine ⟨_, _, _, _, rfl, ho, T.cl_Mixed, T.na_Mixed_back, Nat.le_of_ble_eq_true rfl, ?_⟩
    repeat' walk_at "g"
    refine ⟨_, _, _, _, rfl, upd_same, T.cl_Mixed, T.na_Mixed_cell, Nat.le_of_ble_eq_true rfl, ?_⟩
    repeat' walk_at "g"
    refine ⟨_, _, _, _, rfl, upd_same, T.cl_Mixed, T.na_Mixed_other_back, Nat.le_of_ble_eq_true rfl, ?_⟩
    repeat' walk_at "g"
    refine ⟨_, _, _, _, rfl, upd_same, T.cl_Mixed, T.na_Mixed_other_cell, Nat.le_of_ble_eq_true rfl, ?_⟩
    simp only [upd_upd]
    exact q
theorem ok_Mixed_told (T : TxtP P K mg) : FnOk P w K mg base CX0 1 T.a_Mixed_told T.d_Mixed_told ["self"] (spTold4 T.c_Mixed) := by
  refine T.F_Mixed_told.ok sc_Mixed_told (fun vs H Q E h => ?_) (fun cdv A outer s H vs Q E hr h => ?_)
  · obtain ⟨o, d, v1, v2, v3, v4, rfl, _⟩ := h
    rfl
  · obtain ⟨o, d, v1, v2, v3, v4, rfl, ho, q⟩ := h
    refine ⟨_, (pss_one (ps_ret (pe_tup (pa_cons pe_str (pa_cons (pe_fld (pv 0) rfl) (pa_cons (pe_fld (pv 0) rfl) (pa_cons (pe_fld (pv 0) rfl) (pa_cons (pe_fld (pv 0) rfl) pa_nil)))))))), ?_⟩
    repeat' walk_at "g"
    refine ⟨_, _, _, _, _, rfl, ho, T.cl_Mixed, T.na_Mixed_back, rfl, ?_⟩
    repeat' walk_at "g"
    refine ⟨_, _, _, _, _, rfl, ho, T.cl_Mixed, T.na_Mixed_cell, rfl, ?_⟩
    repeat' walk_at "g"
    refine ⟨_, _, _, _, _, rfl, ho, T.cl_Mixed, T.na_Mixed_other_back, rfl, ?_⟩
    repeat' walk_at "g"
    refine ⟨_, _, _, _, _, rfl, ho, T.cl_Mixed, T.na_Mixed_other_cell, rfl, ?_⟩
    exact ⟨sz rfl, q⟩
theorem ok_is_rule (T : TxtP P K mg) : FnOk P w K mg base CX0 4 T.a_is_rule T.d_is_rule ["thing"] (spIsRule K) := by
  refine T.F_is_rule.ok sc_is_rule (fun vs H Q E h => ?_) (fun cdv A outer s H vs Q E hr h => ?_)
  · obtain ⟨v, b, rfl, _⟩ := h
    rfl
  · obtain ⟨v, b, rfl, h, q⟩ := h
    refine ⟨_, (pss_cons (ps_if (PW.pt (pw_or (pt_not (pt_val (pe_callB call_isi (by rfl) T.m_isinstance (by decide +kernel) (pa_cons (pv 0) (pa_cons (pe_bltn (v := .ty "tuple") (by rfl) T.m_tuple (by decide +kernel) rfl) pa_nil))))) (pw_or (pt_cmpR op_lt (pe_callB call_len_seq (by rfl) T.m_len (by decide +kernel) (pa_cons (pv 0) pa_nil)) pe_int (nomark _)) (pw_or1 (pt_not (pt_val (pe_callB call_isi (by rfl) T.m_isinstance (by decide +kernel) (pa_cons (pe_ix ix_tup (pv 0) pe_int (fun _ _ => rfl)) (pa_cons (pe_bltn (v := .ty "str") (by rfl) T.m_str (by decide +kernel) rfl) pa_nil))))))))) (pss_one (ps_ret pe_bl)) pss_nil)
      (pss_cons (ps_set (i := 1) sc_is_rule.nd rfl (Or.inl rfl) (pe_ix ix_tup (pv 0) pe_int (fun _ _ => rfl)))
      (pss_cons (ps_if (pt_cmpR op_eq (pv 1) pe_str (nomark _)) (pss_one (ps_ret (pe_and (pe_cmpR op_eq (pe_callB call_len_seq (by rfl) T.m_len (by decide +kernel) (pa_cons (pv 0) pa_nil)) pe_int (nomark _)) (pe_one (pe_call (ok_is_value T) (hr.mono (by decide)) (by rfl) T.g_is_value T.F_is_value.kp T.b_is_value .nil pass0 (pa_cons (pe_ix ix_tup (pv 0) pe_int (fun _ _ => rfl)) pa_nil)))))) pss_nil)
      (pss_cons (ps_if (pt_cmpR op_eq (pv 1) pe_str (nomark _)) (pss_one (ps_ret (pe_and (pe_cmpR op_eq (pe_callB call_len_seq (by rfl) T.m_len (by decide +kernel) (pa_cons (pv 0) pa_nil)) pe_int (nomark _)) (pe_and (pe_call (ok_is_back T) (hr.mono (by decide)) (by rfl) T.g_is_back T.F_is_back.kp T.b_is_back .nil pass0 (pa_cons (pe_ix ix_tup (pv 0) pe_int (fun _ _ => rfl)) pa_nil)) (pe_and (pe_call (ok_is_cell T) (hr.mono (by decide)) (by rfl) T.g_is_cell T.F_is_cell.kp T.b_is_cell .nil pass0 (pa_cons (pe_ix ix_tup (pv 0) pe_int (fun _ _ => rfl)) pa_nil)) (pe_one (pe_call (ok_is_value T) (hr.mono (by decide)) (by rfl) T.g_is_value T.F_is_value.kp T.b_is_value .nil pass0 (pa_cons (pe_ix ix_tup (pv 0) pe_int (fun _ _ => rfl)) pa_nil)))))))) pss_nil)
      (pss_cons (ps_if (pt_cmpR op_eq (pv 1) pe_str (nomark _)) (pss_one (ps_ret (pe_and (pe_cmpR op_eq (pe_callB call_len_seq (by rfl) T.m_len (by decide +kernel) (pa_cons (pv 0) pa_nil)) pe_int (nomark _)) (pe_and (pe_call (ok_is_back T) (hr.mono (by decide)) (by rfl) T.g_is_back T.F_is_back.kp T.b_is_back .nil pass0 (pa_cons (pe_ix ix_tup (pv 0) pe_int (fun _ _ => rfl)) pa_nil)) (pe_and (pe_call (ok_is_cell T) (hr.mono (by decide)) (by rfl) T.g_is_cell T.F_is_cell.kp T.b_is_cell .nil pass0 (pa_cons (pe_ix ix_tup (pv 0) pe_int (fun _ _ => rfl)) pa_nil)) (pe_and (pe_call (ok_is_back T) (hr.mono (by decide)) (by rfl) T.g_is_back T.F_is_back.kp T.b_is_back .nil pass0 (pa_cons (pe_ix ix_tup (pv 0) pe_int (fun _ _ => rfl)) pa_nil)) (pe_one (pe_call (ok_is_cell T) (hr.mono (by decide)) (by rfl) T.g_is_cell T.F_is_cell.kp T.b_is_cell .nil pass0 (pa_cons (pe_ix ix_tup (pv 0) pe_int (fun _ _ => rfl)) pa_nil))))))))) pss_nil)
      (pss_one (ps_ret pe_bl))))))), ?_⟩
    repeat' walk_at "g"
    cases h with
    | odd ty m =>
      simp only [notuple, List.mem_cons, List.not_mem_nil, or_false] at m
      rcases m with rfl | rfl | rfl | rfl | rfl | rfl
      all_goals
        refine ⟨_, _, _, _, false, rfl, .ty _, ty, kit_ty (by decide +kernel), ?_⟩
        repeat' walk_at "g"
        exact q
    | @tup p xs hp th =>
      refine ⟨_, _, _, _, true, rfl, .ty _, .base (.tup hp), kit_ty (by decide +kernel), ?_⟩
      repeat' walk_at "g"
      rcases xs with _ | ⟨x, _ | ⟨y, r⟩⟩
      · repeat' walk_at "g"
        exact q
      · repeat' walk_at "g"
        have e : ruleB [x] = false := by
          show kindB x [] = false
          unfold kindB
          split
          · rfl
          · split
            · rfl
            · split <;> rfl
        rw [e] at q
        exact q
      · refine ifF ?_ ?_
        · refine decide_eq_false ?_
          simp only [List.length_cons]
          omega
        · repeat' walk_at "g"
          refine ⟨_, _, _, _, rfl, rfl, SqT.of hp, atI_nat (j := 0) rfl, ?_⟩
          repeat' walk_at "g"
          rcases thing_str (th x (by simp)) with ⟨s, rfl⟩ | ⟨ns, t, ty, kb⟩
          · refine ⟨_, _, _, _, true, rfl, .ty _, .base (.str s), kit_ty (by decide +kernel), ?_⟩
            repeat' walk_at "g"
            refine ⟨_, _, _, _, rfl, rfl, SqT.of hp, atI_nat (j := 0) rfl, ?_⟩
            repeat' walk_at "g"
            have q2 : Q (.bl (if decide (V.str s = .str "plain") = true then plainB (y :: r) else if decide (V.str s = .str "moved") = true then movedB (y :: r) else if decide (V.str s = .str "mixed") = true then mixedB (y :: r) else false)) H := q
            have ty1 := th y (by simp)
            refine ifC (fun c => ?_) (fun c => ?_)
            · rw [if_pos c] at q2
              repeat' walk_at "g"
              rcases r with _ | ⟨z, r⟩
              · repeat' walk_at "g"
                exact ⟨ty1, q2⟩
              · refine ifF (decide_eq_false fun z => ?_) q2
                have := V.int.inj z
                simp only [List.length_cons] at this
                omega
            · rw [c, if_neg Bool.false_ne_true] at q2
              repeat' walk_at "g"
              refine ifC (fun c => ?_) (fun c => ?_)
              · rw [if_pos c] at q2
                repeat' walk_at "g"
                rcases r with _ | ⟨z, _ | ⟨u, _ | ⟨v, r⟩⟩⟩
                · repeat' walk_at "g"
                  exact q2
                · repeat' walk_at "g"
                  exact q2
                · have ty2 := th z (by simp)
                  have ty3 := th u (by simp)
                  have q3 : Q (.bl (inB 1 200 y && (inB 0 15 z && inB 0 255 u))) H := q2
                  repeat' walk_at "g"
                  refine ⟨ty1, ?_⟩
                  repeat' walk_at "g"
                  refine ifAnd (fun q3 => ?_) q3
                  repeat' walk_at "g"
                  refine ⟨ty2, ?_⟩
                  repeat' walk_at "g"
                  refine ifAnd (fun q3 => ?_) q3
                  repeat' walk_at "g"
                  exact ⟨ty3, q3⟩
                · refine ifF (decide_eq_false fun z => ?_) q2
                  have := V.int.inj z
                  simp only [List.length_cons] at this
                  omega
              · rw [c, if_neg Bool.false_ne_true] at q2
                repeat' walk_at "g"
                refine ifC (fun c => ?_) (fun c => ?_)
                · rw [if_pos c] at q2
                  repeat' walk_at "g"
                  rcases r with _ | ⟨z, _ | ⟨u, _ | ⟨v, _ | ⟨x5, r⟩⟩⟩⟩
                  · repeat' walk_at "g"
                    exact q2
                  · repeat' walk_at "g"
                    exact q2
                  · repeat' walk_at "g"
                    exact q2
                  · have ty2 := th z (by simp)
                    have ty3 := th u (by simp)
                    have ty4 := th v (by simp)
                    have q3 : Q (.bl (inB 1 200 y && (inB 0 15 z && (inB 1 200 u && inB 0 15 v)))) H := q2
                    repeat' walk_at "g"
                    refine ⟨ty1, ?_⟩
                    repeat' walk_at "g"
                    refine ifAnd (fun q3 => ?_) q3
                    repeat' walk_at "g"
                    refine ⟨ty2, ?_⟩
                    repeat' walk_at "g"
                    refine ifAnd (fun q3 => ?_) q3
                    repeat' walk_at "g"
                    refine ⟨ty3, ?_⟩
                    repeat' walk_at "g"
                    refine ifAnd (fun q3 => ?_) q3
                    repeat' walk_at "g"
                    exact ⟨ty4, q3⟩
                  · refine ifF (decide_eq_false fun z => ?_) q2
                    have := V.int.inj z
                    simp only [List.length_cons] at this
                    omega
                · rw [c, if_neg Bool.false_ne_true] at q2
                  repeat' walk_at "g"
                  exact q2
          · rw [ruleB_nostr ns] at q
            refine ⟨_, _, _, _, false, rfl, .ty _, ty, kit_ty kb, ?_⟩
            repeat' walk_at "g"
            exact q
theorem ok_rule_of (T : TxtP P K mg) : FnOk P w K mg base (L2.CX P w) 5 T.a_rule_of T.d_rule_of ["told"] (spRuleOf K T.c_NoRule T.c_Plain T.c_Moved T.c_Mixed) := by
  refine T.F_rule_of.okX sc_rule_of (fun vs H Q E h => ?_) (fun cdv A outer s H vs Q E hr h => ?_)
  · obtain ⟨v, b, rfl, _⟩ := h
    rfl
  · obtain ⟨v, b, rfl, h, q, qe⟩ := h
    refine ⟨_, (pss_cons (ps_if (pt_not (pt_val (pe_call (ok_is_rule T) (hr.mono (by decide)) (by rfl) T.g_is_rule T.F_is_rule.kp T.b_is_rule .nil pass0 (pa_cons (pv 0) pa_nil)))) (pss_one (ps_raise rfl (takes_of rfl rfl rfl rfl) (pmk_own PySem.F.excBase_ValueError T.x_NoRule T.g_NoRule T.k_NoRule (raises_own T.bb_NoRule T.t_NoRule) rfl))) pss_nil)
      (pss_cons (ps_asg (pv 0) (pg_star rfl (pg_name (i := 1) sc_rule_of.nd rfl (Or.inl rfl)) (pg_name (i := 2) sc_rule_of.nd rfl (Or.inl rfl))))
      (pss_cons (ps_if (pt_cmpR op_eq (pv 1) pe_str (nomark _)) (pss_one (ps_ret (pe_makeS T.mk_Plain (ok_Plain_init T) (hr.mono (by decide)) (by rfl) T.g_Plain T.b_Plain_init pass0 (pv 2)))) pss_nil)
      (pss_cons (ps_if (pt_cmpR op_eq (pv 1) pe_str (nomark _)) (pss_one (ps_ret (pe_makeS T.mk_Moved (ok_Moved_init T) (hr.mono (by decide)) (by rfl) T.g_Moved T.b_Moved_init pass0 (pv 2)))) pss_nil)
      (pss_one (ps_ret (pe_makeS T.mk_Mixed (ok_Mixed_init T) (hr.mono (by decide)) (by rfl) T.g_Mixed T.b_Mixed_init pass0 (pv 2)))))))), ?_⟩
    repeat' walk_at "g"
    refine ⟨_, _, rfl, h, ?_⟩
    repeat' walk_at "g"
    cases b with
    | false => exact ifT rfl (qe rfl)
    | true =>
      refine ifF rfl ?_
      obtain ⟨p, xs, rfl, hp, hx⟩ : ∃ p xs, v = .ref p ∧ H p = some (.tup xs) ∧ RuleL xs := by
        generalize hb : true = b at h
        cases h with
        | tup e t => exact ⟨_, _, rfl, e, RuleL.of hb.symm⟩
        | odd ty m => cases hb
      have q := q rfl p xs rfl hp hx
      cases hx with
      | plain a h0 h1 =>
        refine ⟨_, rfl, _, _, _, rfl, SqT.of hp, fun l nl => ?_⟩
        repeat' walk_at "g"
        refine ⟨_, _, rfl, .inr (SqL.of upd_same), fun o d no nd ndo => ?_⟩
        refine ⟨_, _, _, rfl, upd_same, rfl, ?_⟩
        refine q _ o ?_ (Same.none (Same.new (Same.refl _) nl) no) (.plain upd_same)
        rw [upd_upd]
        exact fun b u hb => upd_oth (new_ne no (upd_old nl hb)).symm (upd_oth (new_ne nd (upd_old nl hb)).symm (upd_old nl hb))
      | moved a b c h0 h1 h2 h3 h4 h5 =>
        refine ⟨_, rfl, _, _, _, rfl, SqT.of hp, fun l nl => ?_⟩
        repeat' walk_at "g"
        refine ⟨_, _, rfl, .inr (SqL.of upd_same), fun o d no nd ndo => ?_⟩
        refine ⟨_, _, _, _, _, rfl, upd_same, rfl, ?_⟩
        refine q _ o ?_ (Same.none (Same.new (Same.refl _) nl) no) (.moved upd_same)
        rw [upd_upd]
        exact fun b u hb => upd_oth (new_ne no (upd_old nl hb)).symm (upd_oth (new_ne nd (upd_old nl hb)).symm (upd_old nl hb))
      | mixed a b c d h0 h1 h2 h3 h4 h5 h6 h7 =>
        refine ⟨_, rfl, _, _, _, rfl, SqT.of hp, fun l nl => ?_⟩
        repeat' walk_at "g"
        refine ⟨_, _, rfl, .inr (SqL.of upd_same), fun o d no nd ndo => ?_⟩
        refine ⟨_, _, _, _, _, _, rfl, upd_same, rfl, ?_⟩
        refine q _ o ?_ (Same.none (Same.new (Same.refl _) nl) no) (.mixed upd_same)
        rw [upd_upd]
        exact fun b u hb => upd_oth (new_ne no (upd_old nl hb)).symm (upd_oth (new_ne nd (upd_old nl hb)).symm (upd_old nl hb))
theorem ok_Plain_needs (T : TxtP P K mg) : FnOk P w K mg base CX0 1 T.a_Plain_needs T.d_Plain_needs ["self"] (spNeeds1 T.c_Plain) := by
  refine T.F_Plain_needs.ok sc_Plain_needs (fun vs H Q E h => ?_) (fun cdv A outer s H vs Q E hr h => ?_)
  · obtain ⟨o, d, v1, rfl, _⟩ := h
    rfl
  · obtain ⟨o, d, v1, rfl, ho, q⟩ := h
    refine ⟨_, (pss_one (ps_ret (pe_lst pa_nil))), ?_⟩
    repeat' walk_at "g"
    rename_i l nl
    exact q _ l (by walk_at "fr") nl ⟨[], upd_same, .nil⟩
theorem ok_Moved_needs (T : TxtP P K mg) : FnOk P w K mg base CX0 1 T.a_Moved_needs T.d_Moved_needs ["self"] (spNeeds3 T.c_Moved) := by
  refine T.F_Moved_needs.ok sc_Moved_needs (fun vs H Q E h => ?_) (fun cdv A outer s H vs Q E hr h => ?_)
  · obtain ⟨o, d, v1, v2, v3, rfl, _⟩ := h
    rfl
  · obtain ⟨o, d, v1, v2, v3, rfl, ho, q⟩ := h
    refine ⟨_, (pss_one (ps_ret (pe_lst (pa_cons (pe_tup (pa_cons (pe_fld (pv 0) rfl) (pa_cons (pe_fld (pv 0) rfl) pa_nil))) pa_nil)))), ?_⟩
    repeat' walk_at "g"
    refine ⟨_, _, _, _, _, rfl, ho, T.cl_Moved, T.na_Moved_back, rfl, ?_⟩
    repeat' walk_at "g"
    refine ⟨_, _, _, _, _, rfl, ho, T.cl_Moved, T.na_Moved_cell, rfl, ?_⟩
    repeat' walk_at "g"
    rename_i t nt l nl
    exact q _ l (by walk_at "fr") (Same.none (Same.new (Same.refl _) nt) nl) ⟨[t], upd_same, .cons (by walk_at "hp") .nil⟩
theorem ok_Mixed_needs (T : TxtP P K mg) : FnOk P w K mg base CX0 1 T.a_Mixed_needs T.d_Mixed_needs ["self"] (spNeeds4 T.c_Mixed) := by
  refine T.F_Mixed_needs.ok sc_Mixed_needs (fun vs H Q E h => ?_) (fun cdv A outer s H vs Q E hr h => ?_)
  · obtain ⟨o, d, v1, v2, v3, v4, rfl, _⟩ := h
    rfl
  · obtain ⟨o, d, v1, v2, v3, v4, rfl, ho, q⟩ := h
    refine ⟨_, (pss_one (ps_ret (pe_lst (pa_cons (pe_tup (pa_cons (pe_fld (pv 0) rfl) (pa_cons (pe_fld (pv 0) rfl) pa_nil))) (pa_cons (pe_tup (pa_cons (pe_fld (pv 0) rfl) (pa_cons (pe_fld (pv 0) rfl) pa_nil))) pa_nil))))), ?_⟩
    repeat' walk_at "g"
    refine ⟨_, _, _, _, _, rfl, ho, T.cl_Mixed, T.na_Mixed_back, rfl, ?_⟩
    repeat' walk_at "g"
    refine ⟨_, _, _, _, _, rfl, ho, T.cl_Mixed, T.na_Mixed_cell, rfl, ?_⟩
    repeat' walk_at "g"
    rename_i t nt
    refine ⟨_, _, _, _, _, rfl, upd_old nt ho, T.cl_Mixed, T.na_Mixed_other_back, rfl, ?_⟩
    repeat' walk_at "g"
    refine ⟨_, _, _, _, _, rfl, upd_old nt ho, T.cl_Mixed, T.na_Mixed_other_cell, rfl, ?_⟩
    repeat' walk_at "g"
    rename_i t2 nt2 l nl
    exact q _ l (by walk_at "fr") (Same.none (Same.new (Same.new (Same.refl _) nt) nt2) nl) ⟨[t, t2], upd_same, .cons (by walk_at "hp") (.cons (by walk_at "hp") .nil)⟩
theorem ok_Leaf_init (T : TxtP P K mg) (C : Addr) (hc : Cls K C) (n1 : NoAttr K C "begin") (n2 : NoAttr K C "span") : FnOk P w K mg base CX0 1 T.a_Leaf_init T.d_Leaf_init ["self", "begin", "span"] (spLeafInit C) := by
  refine T.F_Leaf_init.ok sc_Leaf_init (fun vs H Q E h => ?_) (fun cdv A outer s H vs Q E hr h => ?_)
  · obtain ⟨o, d, v1, v2, rfl, _⟩ := h
    rfl
  · obtain ⟨o, d, v1, v2, rfl, ho, q⟩ := h
    refine ⟨_, (pss_cons (ps_fld (pv 0) (pv 1) rfl)
      (pss_one (ps_fld (pv 0) (pv 2) rfl))), ?_⟩
    repeat' walk_at "g"
    refine ⟨_, _, _, _, rfl, ho, hc, n1, Nat.le_of_ble_eq_true rfl, ?_⟩
    repeat' walk_at "g"
    refine ⟨_, _, _, _, rfl, upd_same, hc, n2, Nat.le_of_ble_eq_true rfl, ?_⟩
    simp only [upd_upd]
    exact q
theorem ok_Still_init (T : TxtP P K mg) : FnOk P w K mg base CX0 2 T.a_Still_init T.d_Still_init ["self", "begin", "span", "back"] (spStillInit T.c_Still) := by
  refine fn_super T.S_Still_init sc_Still_init rfl (fun vs H Q E h => ?_) ((ok_Leaf_init T T.c_Still T.cl_Still T.na_Still_begin T.na_Still_span).mono (by decide)) T.b_Leaf_init (fun _ => rfl) (fun _ => rfl) (fun _ => rfl) (fun _ => rfl) (fun A outer s H vs Q E hr h => ?_)
  · obtain ⟨o, d, v1, v2, v3, rfl, _⟩ := h
    rfl
  · obtain ⟨o, d, v1, v2, v3, rfl, ho, q⟩ := h
    refine ⟨o, d, [], _, _, rfl, by rw [T.eD_Still_init]; exact ho, (pa_cons (pv 1) (pa_cons (pv 2) pa_nil)), (pss_one (ps_fld (pv 0) (pv 3) rfl)), ?_⟩
    repeat' walk_at "g"
    refine ⟨_, _, _, _, rfl, ho, ?_⟩
    repeat' walk_at "g"
    refine ⟨_, _, _, _, rfl, upd_same, T.cl_Still, T.na_Still_back, Nat.le_of_ble_eq_true rfl, ?_⟩
    simp only [upd_upd]
    exact q
end

theorem lcT {K : PySem.W.Frag} {a : Addr} {xs : List V} {g : TG} {tt : TT} {te : TE} {vs : List Nat} {σ : L2.St} {H1 : Hp} {D : Addr} {Qd : Hp → Prop} (Pv : Hp → Nat → Hp → Prop) (h0 : Pv H1 0 (upd H1 D (.lst []))) (hl : ∀ i H, i ≤ xs.length → Pv H1 i H → SqT K H a xs)
    (hs : ∀ i x H, xs[i]? = some x → Pv H1 i H → g x (wipe σ vs) H fun σ2 H2 => wipe σ2 vs = wipe σ vs ∧ tt σ2 H2 fun b H3 =>
      if b = true then te σ2 H3 fun y H4 => ∃ acc, H4 D = some (.lst acc) ∧ acc.length < sizeLine ∧ Pv H1 (i + 1) (upd H4 D (.lst (acc ++ [y]))) else Pv H1 (i + 1) H3) (hd : ∀ H, Pv H1 xs.length H → Qd H) :
    ∃ W : Nat → Nat → Hp → Prop, (∃ m, W 0 m (upd H1 D (.lst []))) ∧ ∀ i m H, W i m H →
      ((Itt K a).stop i H ∧ Qd H) ∨ ((Itt K a).go i H ∧ ∃ Nx : Hp → Prop, (∀ H', Nx H' → ∃ m', m' < m ∧ W (i + 1) m' H') ∧ ∀ x H', (Itt K a).yld i H x H' → g x (wipe σ vs) H' fun σ2 H2 => wipe σ2 vs = wipe σ vs ∧ tt σ2 H2 fun b H3 =>
        if b = true then te σ2 H3 fun y H4 => ∃ acc, H4 D = some (.lst acc) ∧ acc.length < sizeLine ∧ Nx (upd H4 D (.lst (acc ++ [y]))) else Nx H3) := lc_tup (Pv H1) h0 hl hs hd
theorem paired_get {α β : Type} {F : α → β → Prop} : ∀ {l1 : List α} {l2 : List β} {i : Nat} {b : β}, Paired F l1 l2 → l2[i]? = some b → ∃ a, l1[i]? = some a ∧ F a b
  | _, _, i, b, .nil, h => by simp at h
  | _, _, 0, b, .cons f r, h => by
    simp only [List.getElem?_cons_zero, Option.some.injEq] at h
    subst h
    exact ⟨_, rfl, f⟩
  | _, _, i + 1, b, .cons f r, h => by
    simp only [List.getElem?_cons_succ] at h
    obtain ⟨a, e, fa⟩ := paired_get r h
    exact ⟨a, by simpa using e, fa⟩
theorem RuleL.th {K : PySem.W.Frag} {H : Hp} {xs : List V} (h : RuleL xs) : ∀ x ∈ xs, Thing K H x := by
  obtain ⟨s, ns, rfl, _⟩ := h.data
  intro x m
  rcases List.mem_cons.mp m with rfl | m
  · exact .odd (.base (.str _)) (by simp [others]) rfl
  · obtain ⟨i, _, rfl⟩ := List.mem_map.mp m
    exact .int i
theorem RuleL.told {K : PySem.W.Frag} {H : Hp} {t : Addr} {xs : List V} (h : RuleL xs) (e : H t = some (.tup xs)) : Told K H (.ref t) true := by
  have := Told.tup (K := K) e h.th
  rw [h.is] at this
  exact this
section
variable {P : Program} {w : World} {K : PySem.W.Frag} {mg : Str → Option Value} {base : Heap}
theorem ok_Full_init (T : TxtP P K mg) : FnOk P w K mg base CX0 2 T.a_Full_init T.d_Full_init ["self", "begin", "span", "values"] (spFullInit K T.c_Full) := by
  refine fn_super T.S_Full_init sc_Full_init rfl (fun vs H Q E h => ?_) ((ok_Leaf_init T T.c_Full T.cl_Full T.na_Full_begin T.na_Full_span).mono (by decide)) T.b_Leaf_init (fun _ => rfl) (fun _ => rfl) (fun _ => rfl) (fun _ => rfl) (fun A outer s H vs Q E hr h => ?_)
  · obtain ⟨o, d, t, v1, v2, zs, rfl, _⟩ := h
    rfl
  · obtain ⟨o, d, t, v1, v2, zs, rfl, ho, ht, nto, q⟩ := h
    refine ⟨o, d, [], _, _, rfl, by rw [T.eD_Full_init]; exact ho, (pa_cons (pv 1) (pa_cons (pv 2) pa_nil)), (pss_one (ps_fld (pv 0) (pe_callTy call_tuple_of (by rfl) T.m_tuple (by decide +kernel) (pa_cons (pv 3) pa_nil)) rfl)), ?_⟩
    repeat' walk_at "g"
    refine ⟨_, _, _, _, rfl, ho, ?_⟩
    repeat' walk_at "g"
    refine ⟨_, _, rfl, .inr ⟨SqT.of (upd_oth nto ht), ?_⟩⟩
    repeat' walk_at "g"
    refine ⟨_, _, _, _, rfl, upd_same, T.cl_Full, T.na_Full_worths, Nat.le_of_ble_eq_true rfl, ?_⟩
    simp only [upd_upd]
    exact q
theorem ok_Woven_init (T : TxtP P K mg) : FnOk P w K mg base CX0 6 T.a_Woven_init T.d_Woven_init ["self", "begin", "span", "rules"] (spWovenInit T.c_Woven T.c_Plain T.c_Moved T.c_Mixed) := by
  refine fn_super T.S_Woven_init sc_Woven_init rfl (fun vs H Q E h => ?_) ((ok_Leaf_init T T.c_Woven T.cl_Woven T.na_Woven_begin T.na_Woven_span).mono (by decide)) T.b_Leaf_init (fun _ => rfl) (fun _ => rfl) (fun _ => rfl) (fun _ => rfl) (fun A outer s H vs Q E hr h => ?_)
  · obtain ⟨o, d, t, v1, v2, zss, rfl, _⟩ := h
    rfl
  · obtain ⟨o, d, t, v1, v2, zss, rfl, ho, ⟨ts, ht, pt⟩, hz, hzl, q⟩ := h
    refine ⟨o, d, [], _, _, rfl, by rw [T.eD_Woven_init]; exact ho, (pa_cons (pv 1) (pa_cons (pv 2) pa_nil)), (pss_one (ps_fld (pv 0) (pe_lc (own := [("told", 4)]) (g := gName 4) (tt := tYes) (by rfl) sc_Woven_init.nd (pi_tup (pv 3)) (blkOk_by (own := [("told", 4)]) (N := N_Woven_init) (sc := defScope s_Woven_init) (by decide +kernel)) (fun _ _ _ _ _ => (pg_name (i := 4) sc_Woven_init.nd rfl (Or.inl rfl))) (fun _ _ _ _ _ => pts_nil) (fun _ _ _ _ _ => (pe_call (ok_rule_of T) (hr.mono (by decide)) (by rfl) T.g_rule_of T.F_rule_of.kp T.b_rule_of .nil passL (pa_cons (pv 4) pa_nil)))) rfl)), ?_⟩
    repeat' walk_at "g"
    refine ⟨_, _, _, _, rfl, ho, ?_⟩
    repeat' walk_at "g"
    have nto : t ≠ o := ne_of ht ho (fun z => nomatch z)
    have ht1 : upd H o (.ins T.c_Woven d [("begin", v1), ("span", v2)]) t = some (.tup (ts.map V.ref)) := upd_oth nto ht
    have ho1 : upd H o (.ins T.c_Woven d [("begin", v1), ("span", v2)]) o = some (.ins T.c_Woven d [("begin", v1), ("span", v2)]) := upd_same
    have f1 : ∀ b u, b ≠ o → H b = some u → upd H o (.ins T.c_Woven d [("begin", v1), ("span", v2)]) b = some u := fun b u n h => upd_oth n h
    have pt1 : Paired (fun u zs => upd H o (.ins T.c_Woven d [("begin", v1), ("span", v2)]) u = some (.tup zs)) ts zss := Paired.mono (fun a b (h : H a = some (.tup b)) => upd_oth (ne_of h ho (fun z => nomatch z)) h) pt
    have el := pt.length
    generalize upd H o (.ins T.c_Woven d [("begin", v1), ("span", v2)]) = H1 at ht1 ho1 f1 pt1 ⊢
    refine ⟨⟨_, SqT.of ht1⟩, fun D nD => ?_⟩
    refine lcT (K := K) (a := t) (xs := ts.map V.ref) (fun Hc i H' => Same H1 H' ∧ ∃ os : List Addr, H' D = some (.lst (os.map V.ref)) ∧ os.length = i ∧ Paired (fun r zs => RuleAt T.c_Plain T.c_Moved T.c_Mixed H' r zs ∧ r ≠ o) os (zss.take i)) ?_ ?_ ?_ ?_
    · exact ⟨by walk_at "fr", [], upd_same, rfl, .nil⟩
    · rintro i H5 _ ⟨s5, _⟩
      exact SqT.of (s5 _ _ ht1)
    · rintro i x H5 hi ⟨s5, os, hD, ol, po⟩
      rw [List.getElem?_map] at hi
      obtain ⟨u, hu, rfl⟩ := Option.map_eq_some_iff.mp hi
      have il : i < zss.length := by rw [← el]; exact (List.getElem?_eq_some_iff.mp hu).1
      obtain ⟨zs, hzs⟩ : ∃ zs, zss[i]? = some zs := ⟨_, List.getElem?_eq_getElem il⟩
      obtain ⟨u2, hu2, fu⟩ := paired_get pt1 hzs
      rw [hu] at hu2
      cases hu2
      have rz := hz zs (List.mem_of_getElem? hzs)
      have fu5 := s5 _ _ fu
      refine ⟨rfl, ?_⟩
      refine ⟨_, rfl, _, true, rfl, rz.told fu5, fun _ p' xs' e hp' _ H6 r s6 nr at6 => ?_, fun z => nomatch z⟩
      have nro : r ≠ o := new_ne nr (s5 _ _ ho1)
      cases e
      rw [fu5] at hp'
      cases hp'
      have hD6 := s6 _ _ hD
      refine ⟨_, hD6, sznl (by rw [List.length_map]; omega), Same.own (Same.trans s5 s6) nD, os ++ [r], ?_, by rw [List.length_append, ol]; rfl, ?_⟩
      · rw [upd_same, List.map_append]; rfl
      · rw [List.take_add_one, hzs]
        have step : ∀ a b, (RuleAt T.c_Plain T.c_Moved T.c_Mixed H5 a b ∧ a ≠ o) → (RuleAt T.c_Plain T.c_Moved T.c_Mixed (upd H6 D (.lst (os.map V.ref ++ [.ref r]))) a b ∧ a ≠ o) := fun a b h => by
          have h6 := h.1.keep (fun u hu => s6 a u hu)
          exact ⟨h6.keep fun u hu => upd_oth (h6.apart hD6) hu, h.2⟩
        exact Paired.snoc (Paired.mono step po) ⟨at6.keep fun u hu => upd_oth (at6.apart hD6) hu, nro⟩
    · rintro H5 ⟨s5, os, hD, ol, po⟩
      rw [List.length_map, el, List.take_length] at po
      have ho5 := s5 _ _ ho1
      repeat' walk_at "g"
      refine ⟨_, _, _, _, rfl, ho5, T.cl_Woven, T.na_Woven_rules, Nat.le_of_ble_eq_true rfl, ?_⟩
      have nD0 : D ≠ o := new_ne nD ho1
      refine q _ D (fun b u n h => upd_oth n (s5 _ _ (f1 b u n h))) upd_same ⟨os, upd_oth nD0 hD, ?_⟩
      exact Paired.mono (fun a b (h : RuleAt T.c_Plain T.c_Moved T.c_Mixed H5 a b ∧ a ≠ o) => h.1.keep fun u hu => upd_oth h.2 hu) po
end

section
variable {P : Program} {w : World} {K : PySem.W.Frag} {mg : Str → Option Value} {base : Heap}
theorem ok_refuse_no_cell (T : TxtP P K mg) : FnOk P w K mg base (L2.CX P w) 3 T.a_refuse_no_cell T.d_refuse_no_cell ["cell", "many"] spRefuseCell := by
  refine T.F_refuse_no_cell.okX sc_refuse_no_cell (fun vs H Q E h => ?_) (fun cdv A outer s H vs Q E hr h => ?_)
  · obtain ⟨c, m, rfl, _⟩ := h
    rfl
  · obtain ⟨c, m, rfl, c0, c1, q⟩ := h
    refine ⟨_, (pss_one (ps_if (pt_not (pt_val (pe_call (ok_is_whole T) (hr.mono (by decide)) (by rfl) T.g_is_whole T.F_is_whole.kp T.b_is_whole .nil pass0 (pa_cons (pv 0) (pa_cons pe_int (pa_cons (pe_op op_sub (pv 1) pe_int) pa_nil)))))) (pss_one (ps_raise rfl (takes_of rfl rfl rfl rfl) (pmk_own PySem.F.excBase_ValueError T.x_NoCell T.g_NoCell T.k_NoCell (raises_own T.bb_NoCell T.t_NoCell) rfl))) pss_nil)), ?_⟩
    repeat' walk_at "g"
    refine ⟨_, _, _, rfl, .int c, ?_⟩
    rw [int_inB c0 (by omega)]
    repeat' walk_at "g"
    exact q
theorem ok_Full_cells (T : TxtP P K mg) : FnOk P w K mg base CX0 1 T.a_Full_cells T.d_Full_cells ["self"] (spCellsF T.c_Full) := by
  refine T.F_Full_cells.ok sc_Full_cells (fun vs H Q E h => ?_) (fun cdv A outer s H vs Q E hr h => ?_)
  · obtain ⟨o, d, t, b, s2, zs, rfl, _⟩ := h
    rfl
  · obtain ⟨o, d, t, b, s2, zs, rfl, ho, ht, q⟩ := h
    refine ⟨_, (pss_one (ps_ret (pe_callB call_len_seq (by rfl) T.m_len (by decide +kernel) (pa_cons (pe_fld (pv 0) rfl) pa_nil)))), ?_⟩
    repeat' walk_at "g"
    refine ⟨_, _, _, _, _, rfl, ho, T.cl_Full, T.na_Full_worths, rfl, ?_⟩
    exact ⟨_, _, rfl, .inr (SqT.of ht), q⟩
theorem ok_Still_cells (T : TxtP P K mg) : FnOk P w K mg base CX0 1 T.a_Still_cells T.d_Still_cells ["self"] (spCellsS T.c_Still) := by
  refine T.F_Still_cells.ok sc_Still_cells (fun vs H Q E h => ?_) (fun cdv A outer s H vs Q E hr h => ?_)
  · obtain ⟨o, rfl, _⟩ := h
    rfl
  · obtain ⟨o, rfl, q⟩ := h
    exact ⟨_, (pss_one (ps_ret pe_non)), q⟩
theorem ok_Woven_cells (T : TxtP P K mg) : FnOk P w K mg base CX0 1 T.a_Woven_cells T.d_Woven_cells ["self"] (spCellsW T.c_Woven) := by
  refine T.F_Woven_cells.ok sc_Woven_cells (fun vs H Q E h => ?_) (fun cdv A outer s H vs Q E hr h => ?_)
  · obtain ⟨o, d, l, b, s2, zs, rfl, _⟩ := h
    rfl
  · obtain ⟨o, d, l, b, s2, zs, rfl, ho, hl, q⟩ := h
    refine ⟨_, (pss_one (ps_ret (pe_callB call_len_seq (by rfl) T.m_len (by decide +kernel) (pa_cons (pe_fld (pv 0) rfl) pa_nil)))), ?_⟩
    repeat' walk_at "g"
    refine ⟨_, _, _, _, _, rfl, ho, T.cl_Woven, T.na_Woven_rules, rfl, ?_⟩
    exact ⟨_, _, rfl, .inl (SqL.of hl), q⟩
theorem ok_Full_rule (T : TxtP P K mg) : FnOk P w K mg base (L2.CX P w) 4 T.a_Full_rule T.d_Full_rule ["self", "cell"] (spRuleF T.c_Full T.c_Plain T.c_Moved T.c_Mixed) := by
  refine T.F_Full_rule.okX sc_Full_rule (fun vs H Q E h => ?_) (fun cdv A outer s H vs Q E hr h => ?_)
  · obtain ⟨o, d, t, b, s2, zs, c, v, rfl, _⟩ := h
    rfl
  · obtain ⟨o, d, t, b, s2, zs, c, v, rfl, ho, ht, hv, q⟩ := h
    refine ⟨_, (pss_cons (ps_expr (pe_call (ok_refuse_no_cell T) (hr.mono (by decide)) (by rfl) T.g_refuse_no_cell T.F_refuse_no_cell.kp T.b_refuse_no_cell .nil (passes_call (takes_of rfl rfl rfl rfl) (fun _ _ _ _ h => h)) (pa_cons (pv 1) (pa_cons (pe_callB call_len_seq (by rfl) T.m_len (by decide +kernel) (pa_cons (pe_fld (pv 0) rfl) pa_nil)) pa_nil))))
      (pss_one (ps_ret (pe_make T.mk_Plain (ok_Plain_init T) (hr.mono (by decide)) (by rfl) T.g_Plain T.b_Plain_init .nil pass0 (pa_cons (pe_ix ix_tup (pe_fld (pv 0) rfl) (pv 1) (fun _ _ => rfl)) pa_nil))))), ?_⟩
    have cl : c < zs.length := (List.getElem?_eq_some_iff.mp hv).1
    repeat' walk_at "g"
    refine ⟨_, _, _, _, _, rfl, ho, T.cl_Full, T.na_Full_worths, rfl, ?_⟩
    refine ⟨_, _, rfl, .inr (SqT.of ht), ?_⟩
    repeat' walk_at "g"
    refine ⟨_, _, rfl, by omega, by omega, ?_⟩
    repeat' walk_at "g"
    refine ⟨_, _, _, _, _, rfl, ho, T.cl_Full, T.na_Full_worths, rfl, ?_⟩
    repeat' walk_at "g"
    refine ⟨_, _, _, _, rfl, rfl, SqT.of ht, atI_nat hv, ?_⟩
    repeat' walk_at "g"
    intro x dx nx ndx ndn
    refine ⟨_, _, _, rfl, upd_same, rfl, ?_⟩
    refine q _ x ?_ (.plain upd_same)
    rw [upd_upd]
    exact fun b u hb => upd_oth (new_ne nx hb).symm (upd_oth (new_ne ndx hb).symm hb)
theorem ok_Still_rule (T : TxtP P K mg) : FnOk P w K mg base (L2.CX P w) 4 T.a_Still_rule T.d_Still_rule ["self", "cell"] (spRuleS T.c_Still T.c_Plain T.c_Moved T.c_Mixed) := by
  refine T.F_Still_rule.okX sc_Still_rule (fun vs H Q E h => ?_) (fun cdv A outer s H vs Q E hr h => ?_)
  · obtain ⟨o, d, b, s2, k, c, rfl, _⟩ := h
    rfl
  · obtain ⟨o, d, b, s2, k, c, rfl, ho, c16, q⟩ := h
    refine ⟨_, (pss_cons (ps_expr (pe_call (ok_refuse_no_cell T) (hr.mono (by decide)) (by rfl) T.g_refuse_no_cell T.F_refuse_no_cell.kp T.b_refuse_no_cell .nil (passes_call (takes_of rfl rfl rfl rfl) (fun _ _ _ _ h => h)) (pa_cons (pv 1) (pa_cons (pe_glob (v := .int 16) (by rfl) T.g_MOST_CELLS ⟨_, rfl⟩) pa_nil))))
      (pss_one (ps_ret (pe_make T.mk_Moved (ok_Moved_init T) (hr.mono (by decide)) (by rfl) T.g_Moved T.b_Moved_init .nil pass0 (pa_cons (pe_fld (pv 0) rfl) (pa_cons (pv 1) (pa_cons pe_int pa_nil))))))), ?_⟩
    repeat' walk_at "g"
    refine ⟨_, _, rfl, by omega, by omega, ?_⟩
    repeat' walk_at "g"
    refine ⟨_, _, _, _, _, rfl, ho, T.cl_Still, T.na_Still_back, rfl, ?_⟩
    repeat' walk_at "g"
    intro x dx nx ndx ndn
    refine ⟨_, _, _, _, _, rfl, upd_same, rfl, ?_⟩
    refine q _ x ?_ (.moved upd_same)
    rw [upd_upd]
    exact fun b u hb => upd_oth (new_ne nx hb).symm (upd_oth (new_ne ndx hb).symm hb)
theorem ok_Woven_rule (T : TxtP P K mg) : FnOk P w K mg base (L2.CX P w) 4 T.a_Woven_rule T.d_Woven_rule ["self", "cell"] (spRuleW T.c_Woven T.c_Plain T.c_Moved T.c_Mixed) := by
  refine T.F_Woven_rule.okX sc_Woven_rule (fun vs H Q E h => ?_) (fun cdv A outer s H vs Q E hr h => ?_)
  · obtain ⟨o, d, l, b, s2, zss, c, zs, rfl, _⟩ := h
    rfl
  · obtain ⟨o, d, l, b, s2, zss, c, zs, rfl, ho, ⟨os, hl, po⟩, hz, q⟩ := h
    refine ⟨_, (pss_cons (ps_expr (pe_call (ok_refuse_no_cell T) (hr.mono (by decide)) (by rfl) T.g_refuse_no_cell T.F_refuse_no_cell.kp T.b_refuse_no_cell .nil (passes_call (takes_of rfl rfl rfl rfl) (fun _ _ _ _ h => h)) (pa_cons (pv 1) (pa_cons (pe_callB call_len_seq (by rfl) T.m_len (by decide +kernel) (pa_cons (pe_fld (pv 0) rfl) pa_nil)) pa_nil))))
      (pss_one (ps_ret (pe_ix ix_list (pe_fld (pv 0) rfl) (pv 1) (fun _ _ => rfl))))), ?_⟩
    have el := po.length
    have cl : c < zss.length := (List.getElem?_eq_some_iff.mp hz).1
    obtain ⟨r, hr1, hat⟩ := paired_get po hz
    repeat' walk_at "g"
    refine ⟨_, _, _, _, _, rfl, ho, T.cl_Woven, T.na_Woven_rules, rfl, ?_⟩
    refine ⟨_, _, rfl, .inl (SqL.of hl), ?_⟩
    repeat' walk_at "g"
    refine ⟨_, _, rfl, by omega, by rw [List.length_map]; omega, ?_⟩
    repeat' walk_at "g"
    refine ⟨_, _, _, _, _, rfl, ho, T.cl_Woven, T.na_Woven_rules, rfl, ?_⟩
    repeat' walk_at "g"
    refine ⟨_, _, _, _, rfl, rfl, SqL.of hl, atI_nat (j := c) (by rw [List.getElem?_map, hr1]; rfl), ?_⟩
    exact q _ hat
end

/-! ### leaves as data -/
inductive LF where
  | full (b s : Int) (zs : List V)
  | still (b s k : Int)
  | woven (b s : Int) (zss : List (List V))
def LF.Good : LF → Prop
  | .full _ _ zs => zs.length ≤ 16
  | .still _ _ _ => True
  | .woven _ _ zss => zss.length ≤ 16 ∧ ∀ zs ∈ zss, RuleL zs
inductive LeafAt (cF cS cW cP cM cX : Addr) (H : Hp) (o : Addr) : LF → Prop where
  | full {d t : Addr} {b s : Int} {zs : List V} (e : H o = some (.ins cF d [("begin", .int b), ("span", .int s), ("worths", .ref t)])) (ht : H t = some (.tup zs)) : LeafAt cF cS cW cP cM cX H o (.full b s zs)
  | still {d : Addr} {b s k : Int} (e : H o = some (.ins cS d [("begin", .int b), ("span", .int s), ("back", .int k)])) : LeafAt cF cS cW cP cM cX H o (.still b s k)
  | woven {d l : Addr} {b s : Int} {zss : List (List V)} (e : H o = some (.ins cW d [("begin", .int b), ("span", .int s), ("rules", .ref l)])) (hr : RulesAt cP cM cX H l zss) : LeafAt cF cS cW cP cM cX H o (.woven b s zss)
theorem RulesAt.keep {cP cM cX : Addr} {H H' : Hp} {l : Addr} {zss : List (List V)} (f : Same H H') (h : RulesAt cP cM cX H l zss) : RulesAt cP cM cX H' l zss := by
  obtain ⟨os, e, p⟩ := h
  exact ⟨os, f _ _ e, Paired.mono (fun a b (h : RuleAt cP cM cX H a b) => h.keep (f a)) p⟩
theorem LeafAt.keep {cF cS cW cP cM cX : Addr} {H H' : Hp} {o : Addr} {lf : LF} (f : Same H H') (h : LeafAt cF cS cW cP cM cX H o lf) : LeafAt cF cS cW cP cM cX H' o lf := by
  cases h with
  | full e ht => exact .full (f _ _ e) (f _ _ ht)
  | still e => exact .still (f _ _ e)
  | woven e hr => exact .woven (f _ _ e) (hr.keep f)
def needB (n w : Int) : List V → Bool
  | [.int a, .int b] => decide (a ≤ n) && decide (b < w)
  | _ => false
def fitB (n w : Int) (zs : List V) : Bool := (needL zs).all (needB n w)
def fitsB (n w : Int) : LF → Bool
  | .full _ _ zs => decide ((zs.length : Int) = w)
  | .still _ _ k => decide (k ≤ n)
  | .woven _ _ zss => decide ((zss.length : Int) = w) && zss.all (fitB n w)
theorem need_pairs {zs : List V} (h : RuleL zs) : ∀ xs ∈ needL zs, ∃ a b : Int, xs = [.int a, .int b] := by
  intro xs m
  cases h with
  | plain a => exact nomatch m
  | moved a b c => exact ⟨a, b, List.mem_singleton.mp m⟩
  | mixed a b c d =>
    simp only [needL, List.mem_cons, List.not_mem_nil, or_false] at m
    rcases m with rfl | rfl
    · exact ⟨a, b, rfl⟩
    · exact ⟨c, d, rfl⟩
def spFits (cF cS cW cP cM cX : Addr) : Sp := fun vs H Q _ => ∃ (o : Addr) (lf : LF) (n wd : Int), vs = [.ref o, .int n, .int wd] ∧ LeafAt cF cS cW cP cM cX H o lf ∧ lf.Good ∧ ∀ H', Same H H' → Q (.bl (fitsB n wd lf)) H'
/-- what a rule of a cell needs, asked of any kind of rule -/
theorem needs_of {cP cM cX : Addr} {H : Hp} {r : Addr} {zs : List V} {Q : VK} (h : RuleAt cP cM cX H r zs) (q : ∀ H' l, Same H H' → H l = none → TupsAt H' l (needL zs) → Q (.ref l) H') :
    (∃ d a, H r = some (.ins cP d [("worth", a)]) ∧ spNeeds1 cP [.ref r] H Q E0) ∨ (∃ d a b c, H r = some (.ins cM d [("back", a), ("cell", b), ("added", c)]) ∧ spNeeds3 cM [.ref r] H Q E0) ∨ (∃ d a b c x, H r = some (.ins cX d [("back", a), ("cell", b), ("other_back", c), ("other_cell", x)]) ∧ spNeeds4 cX [.ref r] H Q E0) := by
  cases h with
  | plain e => exact .inl ⟨_, _, e, _, _, _, rfl, e, q⟩
  | moved e => exact .inr (.inl ⟨_, _, _, _, e, _, _, _, _, _, rfl, e, q⟩)
  | mixed e => exact .inr (.inr ⟨_, _, _, _, _, e, _, _, _, _, _, _, rfl, e, q⟩)
theorem RuleAt.plainE {cP cM cX : Addr} {H : Hp} {r : Addr} {a : V} (h : RuleAt cP cM cX H r [.str "plain", a]) : ∃ d, H r = some (.ins cP d [("worth", a)]) := by
  generalize hx : [V.str "plain", a] = xs at h
  cases h with
  | plain e => cases hx; exact ⟨_, e⟩
  | moved e => simp at hx
  | mixed e => simp at hx
theorem RuleAt.movedE {cP cM cX : Addr} {H : Hp} {r : Addr} {a b c : V} (h : RuleAt cP cM cX H r [.str "moved", a, b, c]) : ∃ d, H r = some (.ins cM d [("back", a), ("cell", b), ("added", c)]) := by
  generalize hx : [V.str "moved", a, b, c] = xs at h
  cases h with
  | plain e => simp at hx
  | moved e => cases hx; exact ⟨_, e⟩
  | mixed e => simp at hx
theorem RuleAt.mixedE {cP cM cX : Addr} {H : Hp} {r : Addr} {a b c x : V} (h : RuleAt cP cM cX H r [.str "mixed", a, b, c, x]) : ∃ d, H r = some (.ins cX d [("back", a), ("cell", b), ("other_back", c), ("other_cell", x)]) := by
  generalize hx : [V.str "mixed", a, b, c, x] = xs at h
  cases h with
  | plain e => simp at hx
  | moved e => simp at hx
  | mixed e => cases hx; exact ⟨_, e⟩
section
variable {P : Program} {w : World} {K : PySem.W.Frag} {mg : Str → Option Value} {base : Heap}
theorem ok_fits (T : TxtP P K mg) : FnOk P w K mg base CX0 5 T.a_fits T.d_fits ["leaf", "number", "wide"] (spFits T.c_Full T.c_Still T.c_Woven T.c_Plain T.c_Moved T.c_Mixed) := by
  refine T.F_fits.ok sc_fits (fun vs H Q E h => ?_) (fun cdv A outer s H vs Q E hr h => ?_)
  · obtain ⟨o, lf, n, wd, rfl, _⟩ := h
    rfl
  · obtain ⟨o, lf, n, wd, rfl, hat, hg, q⟩ := h
    refine ⟨_, (pss_cons (ps_set (i := 3) sc_fits.nd rfl (Or.inl rfl) (pe_either (pe_meth0 (pv 0) T.cl_Full T.mt_Full_cells (ok_Full_cells T) (hr.mono (by decide)) T.b_Full_cells .nil pass0) (pe_either (pe_meth0 (pv 0) T.cl_Still T.mt_Still_cells (ok_Still_cells T) (hr.mono (by decide)) T.b_Still_cells .nil pass0) (pe_meth0 (pv 0) T.cl_Woven T.mt_Woven_cells (ok_Woven_cells T) (hr.mono (by decide)) T.b_Woven_cells .nil pass0))))
      (pss_cons (ps_if (pt_cmpR op_isN (pv 3) pe_non (nomark _)) (pss_one (ps_ret (pe_cmpR op_le (pe_fld (pv 0) rfl) (pv 1) (nomark _)))) pss_nil)
      (pss_cons (ps_if (pt_cmpR op_ne (pv 3) (pv 2) (nomark _)) (pss_one (ps_ret pe_bl)) pss_nil)
      (pss_cons (ps_for PassesOwn.never rfl (pi_range1 (by rfl) T.m_range (pa_cons (pv 3) pa_nil)) (pg_name (i := 4) sc_fits.nd rfl (Or.inl rfl))
        (pss_one (ps_for PassesOwn.never rfl (pi_list (pe_either (pe_meth0 (pe_either (pe_meth (pv 0) T.cl_Full T.mt_Full_rule (ok_Full_rule T) (hr.mono (by decide)) T.b_Full_rule .nil passL (pa_cons (pv 4) pa_nil)) (pe_either (pe_meth (pv 0) T.cl_Still T.mt_Still_rule (ok_Still_rule T) (hr.mono (by decide)) T.b_Still_rule .nil passL (pa_cons (pv 4) pa_nil)) (pe_meth (pv 0) T.cl_Woven T.mt_Woven_rule (ok_Woven_rule T) (hr.mono (by decide)) T.b_Woven_rule .nil passL (pa_cons (pv 4) pa_nil)))) T.cl_Plain T.mt_Plain_needs (ok_Plain_needs T) (hr.mono (by decide)) T.b_Plain_needs .nil pass0) (pe_either (pe_meth0 (pe_either (pe_meth (pv 0) T.cl_Full T.mt_Full_rule (ok_Full_rule T) (hr.mono (by decide)) T.b_Full_rule .nil passL (pa_cons (pv 4) pa_nil)) (pe_either (pe_meth (pv 0) T.cl_Still T.mt_Still_rule (ok_Still_rule T) (hr.mono (by decide)) T.b_Still_rule .nil passL (pa_cons (pv 4) pa_nil)) (pe_meth (pv 0) T.cl_Woven T.mt_Woven_rule (ok_Woven_rule T) (hr.mono (by decide)) T.b_Woven_rule .nil passL (pa_cons (pv 4) pa_nil)))) T.cl_Moved T.mt_Moved_needs (ok_Moved_needs T) (hr.mono (by decide)) T.b_Moved_needs .nil pass0) (pe_meth0 (pe_either (pe_meth (pv 0) T.cl_Full T.mt_Full_rule (ok_Full_rule T) (hr.mono (by decide)) T.b_Full_rule .nil passL (pa_cons (pv 4) pa_nil)) (pe_either (pe_meth (pv 0) T.cl_Still T.mt_Still_rule (ok_Still_rule T) (hr.mono (by decide)) T.b_Still_rule .nil passL (pa_cons (pv 4) pa_nil)) (pe_meth (pv 0) T.cl_Woven T.mt_Woven_rule (ok_Woven_rule T) (hr.mono (by decide)) T.b_Woven_rule .nil passL (pa_cons (pv 4) pa_nil)))) T.cl_Mixed T.mt_Mixed_needs (ok_Mixed_needs T) (hr.mono (by decide)) T.b_Mixed_needs .nil pass0)))) (pg_tup rfl (pgs_cons (pg_name (i := 5) sc_fits.nd rfl (Or.inl rfl)) (pgs_cons (pg_name (i := 6) sc_fits.nd rfl (Or.inl rfl)) pgs_nil)))
        (pss_one (ps_if (PW.pt (pw_or (pt_cmpR op_gt (pv 5) (pv 1) (nomark _)) (pw_or1 (pt_cmpR op_ge (pv 6) (pv 2) (nomark _))))) (pss_one (ps_ret pe_bl)) pss_nil)))))
      (pss_one (ps_ret pe_bl)))))), ?_⟩
    cases hat with
    | @full _ _ _ _ zs e ht =>
      repeat' walk_at "g"
      refine .inl ⟨_, rfl, _, _, _, rfl, e, rfl, _, _, _, _, _, _, rfl, e, ht, ?_⟩
      repeat' walk_at "g"
      by_cases hw : (zs.length : Int) = wd
      · refine ifF (by rw [hw, decide_eq_true rfl]; rfl) ?_
        repeat' walk_at "g"
        have zl : zs.length ≤ 16 := hg
        refine ⟨by omega, by omega, forR (lo := 0) (n := zs.length) (fun _ i σ H' => Same H H' ∧ ∃ y4 y5 y6, σ = [some (.ref o), some (.int n), some (.int wd), some (.int zs.length), y4, y5, y6]) ?_ ?_ ?_⟩
        · exact ⟨Same.refl _, _, _, _, rfl⟩
        · rintro i σ H1 hi ⟨s1, y4, y5, y6, rfl⟩
          obtain ⟨v, hv⟩ : ∃ v, zs[i]? = some v := ⟨_, List.getElem?_eq_getElem hi⟩
          refine .inl (.inl ⟨_, rfl, _, _, _, rfl, s1 _ _ e, rfl, _, rfl, _, _, _, _, _, _, i, v, by rw [Int.zero_add]; rfl, s1 _ _ e, s1 _ _ ht, hv, fun H2 r s2 at2 => ?_⟩)
          obtain ⟨d2, e2⟩ := at2.plainE
          refine ⟨_, _, _, rfl, e2, rfl, _, _, _, rfl, e2, fun H3 l s3 nl tl => ?_⟩
          obtain ⟨ts, hl, pp⟩ := tl
          cases pp
          refine ⟨_, rfl, ⟨_, SqL.of hl⟩, ?_⟩
          refine forL (K := K) (a := l) (xs := []) (fun _ j σ H' => H' = H3 ∧ ∃ y5 y6, σ = [some (.ref o), some (.int n), some (.int wd), some (.int zs.length), some (.int (0 + (i : Int))), y5, y6]) ⟨rfl, _, _, rfl⟩ (fun j σ H' _ ⟨e, _⟩ => e ▸ SqL.of hl) (fun j x σ H' hj _ => by simp at hj) ?_
          rintro σ H4 ⟨rfl, y5, y6, rfl⟩
          exact ⟨Same.trans s1 (Same.trans s2 s3), _, _, _, rfl⟩
        · rintro σ H1 ⟨s1, y4, y5, y6, rfl⟩
          have q1 := q H1 s1
          rw [show fitsB n wd (.full _ _ zs) = true from decide_eq_true hw] at q1
          exact q1
      · refine ifT (by rw [decide_eq_false (fun z => hw (V.int.inj z))]; rfl) ?_
        have q1 := q H (Same.refl _)
        rw [show fitsB n wd (.full _ _ zs) = false from decide_eq_false hw] at q1
        exact q1
    | still e =>
      repeat' walk_at "g"
      refine .inr (.inl ⟨_, rfl, _, _, _, rfl, e, rfl, _, rfl, ?_⟩)
      repeat' walk_at "g"
      refine ⟨_, _, _, _, _, rfl, e, T.cl_Still, T.na_Still_back, rfl, ?_⟩
      repeat' walk_at "g"
      exact q _ (Same.refl _)
    | @woven _ _ _ _ zss e hr =>
      obtain ⟨zl, hz⟩ : zss.length ≤ 16 ∧ ∀ zs ∈ zss, RuleL zs := hg
      obtain ⟨os, hos, pos⟩ := id hr
      have oel := pos.length
      repeat' walk_at "g"
      refine .inr (.inr ⟨_, rfl, _, _, _, rfl, e, rfl, _, _, _, _, _, _, rfl, e, hos, ?_⟩)
      have ez : (((os.map V.ref).length : Nat) : Int) = (zss.length : Int) := by rw [List.length_map, oel]
      rw [ez]
      repeat' walk_at "g"
      by_cases hw : (zss.length : Int) = wd
      · refine ifF (by rw [hw, decide_eq_true rfl]; rfl) ?_
        repeat' walk_at "g"
        refine ⟨by omega, by omega, forR (lo := 0) (n := zss.length) (fun _ i σ H' => Same H H' ∧ (zss.take i).all (fitB n wd) = true ∧ ∃ y4 y5 y6, σ = [some (.ref o), some (.int n), some (.int wd), some (.int zss.length), y4, y5, y6]) ?_ ?_ ?_⟩
        · exact ⟨Same.refl _, by simp, _, _, _, rfl⟩
        · rintro i σ H1 hi ⟨s1, hzall, y4, y5, y6, rfl⟩
          obtain ⟨zs, hzs⟩ : ∃ zs, zss[i]? = some zs := ⟨_, List.getElem?_eq_getElem hi⟩
          have rz := hz zs (List.mem_of_getElem? hzs)
          have rz2 := rz
          cases rz2 with
          | plain a h0 h1 =>
            refine .inl (.inr (.inr ⟨_, rfl, _, _, _, rfl, s1 _ _ e, rfl, _, rfl, _, _, _, _, _, _, i, _, by rw [Int.zero_add]; rfl, s1 _ _ e, hr.keep s1, hzs, fun r at1 => ?_⟩))
            obtain ⟨d2, e2⟩ := at1.plainE
            have s2 : Same H1 H1 := Same.refl _
            refine ⟨_, _, _, rfl, e2, rfl, _, _, _, rfl, e2, fun H3 l s3 nl tl => ?_⟩
            obtain ⟨ts, hl, pp⟩ := tl
            have ol : ts.length = (needL [.str "plain", .int a]).length := pp.length
            refine ⟨_, rfl, ⟨_, SqL.of hl⟩, ?_⟩
            refine forL (K := K) (a := l) (xs := ts.map V.ref) (fun _ j σ H' => H' = H3 ∧ ((needL [.str "plain", .int a]).take j).all (needB n wd) = true ∧ ∃ y5 y6, σ = [some (.ref o), some (.int n), some (.int wd), some (.int zss.length), some (.int (0 + (i : Int))), y5, y6]) ⟨rfl, by simp, _, _, rfl⟩ (fun j σ H' _ ⟨e, _⟩ => e ▸ SqL.of hl) ?_ ?_
            · rintro j x σ H4 hj ⟨rfl, hall, y5, y6, rfl⟩
              rw [List.getElem?_map] at hj
              obtain ⟨u, hu, rfl⟩ := Option.map_eq_some_iff.mp hj
              have jl : j < (needL [.str "plain", .int a]).length := ol ▸ (List.getElem?_eq_some_iff.mp hu).1
              exact absurd jl (Nat.not_lt_zero _)
            · rintro σ H4 ⟨rfl, hall, y5, y6, rfl⟩
              rw [List.length_map, ol, List.take_length] at hall
              refine ⟨Same.trans s1 (Same.trans s2 s3), ?_, _, _, _, rfl⟩
              rw [List.take_add_one, hzs, List.all_append, hzall]
              show (true && (fitB n wd [.str "plain", .int a] && true)) = true
              rw [show fitB n wd [.str "plain", .int a] = true from hall]; rfl
          | moved a b c h0 h1 h2 h3 h4 h5 =>
            refine .inr (.inl (.inr (.inr ⟨_, rfl, _, _, _, rfl, s1 _ _ e, rfl, _, rfl, _, _, _, _, _, _, i, _, by rw [Int.zero_add]; rfl, s1 _ _ e, hr.keep s1, hzs, fun r at1 => ?_⟩)))
            obtain ⟨d2, e2⟩ := at1.movedE
            have s2 : Same H1 H1 := Same.refl _
            refine ⟨_, _, _, rfl, e2, rfl, _, _, _, _, _, rfl, e2, fun H3 l s3 nl tl => ?_⟩
            obtain ⟨ts, hl, pp⟩ := tl
            have ol : ts.length = (needL [.str "moved", .int a, .int b, .int c]).length := pp.length
            refine ⟨_, rfl, ⟨_, SqL.of hl⟩, ?_⟩
            refine forL (K := K) (a := l) (xs := ts.map V.ref) (fun _ j σ H' => H' = H3 ∧ ((needL [.str "moved", .int a, .int b, .int c]).take j).all (needB n wd) = true ∧ ∃ y5 y6, σ = [some (.ref o), some (.int n), some (.int wd), some (.int zss.length), some (.int (0 + (i : Int))), y5, y6]) ⟨rfl, by simp, _, _, rfl⟩ (fun j σ H' _ ⟨e, _⟩ => e ▸ SqL.of hl) ?_ ?_
            · rintro j x σ H4 hj ⟨rfl, hall, y5, y6, rfl⟩
              rw [List.getElem?_map] at hj
              obtain ⟨u, hu, rfl⟩ := Option.map_eq_some_iff.mp hj
              have jl : j < (needL [.str "moved", .int a, .int b, .int c]).length := ol ▸ (List.getElem?_eq_some_iff.mp hu).1
              obtain ⟨xs, hxs⟩ : ∃ xs, (needL [.str "moved", .int a, .int b, .int c])[j]? = some xs := ⟨_, List.getElem?_eq_getElem jl⟩
              obtain ⟨u2, hu2, fu⟩ := paired_get pp hxs
              rw [hu] at hu2
              cases hu2
              obtain ⟨na, nb, rfl⟩ := need_pairs rz xs (List.mem_of_getElem? hxs)
              refine ⟨_, _, rfl, SqT.of fu, rfl, _, _, rfl, _, _, rfl, rfl, ?_⟩
              have bad : ¬ (na ≤ n ∧ nb < wd) → Q (.bl false) H4 := fun hb => by
                have q1 := q H4 (Same.trans s1 (Same.trans s2 s3))
                have e1 : needB n wd [.int na, .int nb] = false := by
                  show (decide (na ≤ n) && decide (nb < wd)) = false
                  rw [Bool.and_eq_false_iff]
                  by_cases h1 : na ≤ n
                  · exact .inr (decide_eq_false fun h2 => hb ⟨h1, h2⟩)
                  · exact .inl (decide_eq_false h1)
                have e2 : fitB n wd [.str "moved", .int a, .int b, .int c] = false := List.all_eq_false.mpr ⟨_, List.mem_of_getElem? hxs, by rw [e1]; exact Bool.false_ne_true⟩
                have e3 : zss.all (fitB n wd) = false := List.all_eq_false.mpr ⟨_, List.mem_of_getElem? hzs, by rw [e2]; exact Bool.false_ne_true⟩
                rw [show fitsB n wd (.woven _ _ zss) = false from by show (_ && zss.all (fitB n wd)) = false; rw [e3, Bool.and_false]] at q1
                exact q1
              repeat' walk_at "g"
              refine ifC (fun c1 => ?_) (fun c1 => ?_)
              · have c1 := of_decide_eq_true c1
                exact bad fun z => by omega
              · have c1 := of_decide_eq_false c1
                repeat' walk_at "g"
                refine ifC (fun c2 => ?_) (fun c2 => ?_)
                · have c2 := of_decide_eq_true c2
                  exact bad fun z => by omega
                · have c2 := of_decide_eq_false c2
                  repeat' walk_at "g"
                  refine ⟨?_, _, _, rfl⟩
                  rw [List.take_add_one, hxs, List.all_append, hall]
                  show (true && ((decide (na ≤ n) && decide (nb < wd)) && true)) = true
                  rw [decide_eq_true (by omega : na ≤ n), decide_eq_true (by omega : nb < wd)]; rfl
            · rintro σ H4 ⟨rfl, hall, y5, y6, rfl⟩
              rw [List.length_map, ol, List.take_length] at hall
              refine ⟨Same.trans s1 (Same.trans s2 s3), ?_, _, _, _, rfl⟩
              rw [List.take_add_one, hzs, List.all_append, hzall]
              show (true && (fitB n wd [.str "moved", .int a, .int b, .int c] && true)) = true
              rw [show fitB n wd [.str "moved", .int a, .int b, .int c] = true from hall]; rfl
          | mixed a b c x h0 h1 h2 h3 h4 h5 h6 h7 =>
            refine .inr (.inr (.inr (.inr ⟨_, rfl, _, _, _, rfl, s1 _ _ e, rfl, _, rfl, _, _, _, _, _, _, i, _, by rw [Int.zero_add]; rfl, s1 _ _ e, hr.keep s1, hzs, fun r at1 => ?_⟩)))
            obtain ⟨d2, e2⟩ := at1.mixedE
            have s2 : Same H1 H1 := Same.refl _
            refine ⟨_, _, _, rfl, e2, rfl, _, _, _, _, _, _, rfl, e2, fun H3 l s3 nl tl => ?_⟩
            obtain ⟨ts, hl, pp⟩ := tl
            have ol : ts.length = (needL [.str "mixed", .int a, .int b, .int c, .int x]).length := pp.length
            refine ⟨_, rfl, ⟨_, SqL.of hl⟩, ?_⟩
            refine forL (K := K) (a := l) (xs := ts.map V.ref) (fun _ j σ H' => H' = H3 ∧ ((needL [.str "mixed", .int a, .int b, .int c, .int x]).take j).all (needB n wd) = true ∧ ∃ y5 y6, σ = [some (.ref o), some (.int n), some (.int wd), some (.int zss.length), some (.int (0 + (i : Int))), y5, y6]) ⟨rfl, by simp, _, _, rfl⟩ (fun j σ H' _ ⟨e, _⟩ => e ▸ SqL.of hl) ?_ ?_
            · rintro j x σ H4 hj ⟨rfl, hall, y5, y6, rfl⟩
              rw [List.getElem?_map] at hj
              obtain ⟨u, hu, rfl⟩ := Option.map_eq_some_iff.mp hj
              have jl : j < (needL [.str "mixed", .int a, .int b, .int c, .int x]).length := ol ▸ (List.getElem?_eq_some_iff.mp hu).1
              obtain ⟨xs, hxs⟩ : ∃ xs, (needL [.str "mixed", .int a, .int b, .int c, .int x])[j]? = some xs := ⟨_, List.getElem?_eq_getElem jl⟩
              obtain ⟨u2, hu2, fu⟩ := paired_get pp hxs
              rw [hu] at hu2
              cases hu2
              obtain ⟨na, nb, rfl⟩ := need_pairs rz xs (List.mem_of_getElem? hxs)
              refine ⟨_, _, rfl, SqT.of fu, rfl, _, _, rfl, _, _, rfl, rfl, ?_⟩
              have bad : ¬ (na ≤ n ∧ nb < wd) → Q (.bl false) H4 := fun hb => by
                have q1 := q H4 (Same.trans s1 (Same.trans s2 s3))
                have e1 : needB n wd [.int na, .int nb] = false := by
                  show (decide (na ≤ n) && decide (nb < wd)) = false
                  rw [Bool.and_eq_false_iff]
                  by_cases h1 : na ≤ n
                  · exact .inr (decide_eq_false fun h2 => hb ⟨h1, h2⟩)
                  · exact .inl (decide_eq_false h1)
                have e2 : fitB n wd [.str "mixed", .int a, .int b, .int c, .int x] = false := List.all_eq_false.mpr ⟨_, List.mem_of_getElem? hxs, by rw [e1]; exact Bool.false_ne_true⟩
                have e3 : zss.all (fitB n wd) = false := List.all_eq_false.mpr ⟨_, List.mem_of_getElem? hzs, by rw [e2]; exact Bool.false_ne_true⟩
                rw [show fitsB n wd (.woven _ _ zss) = false from by show (_ && zss.all (fitB n wd)) = false; rw [e3, Bool.and_false]] at q1
                exact q1
              repeat' walk_at "g"
              refine ifC (fun c1 => ?_) (fun c1 => ?_)
              · have c1 := of_decide_eq_true c1
                exact bad fun z => by omega
              · have c1 := of_decide_eq_false c1
                repeat' walk_at "g"
                refine ifC (fun c2 => ?_) (fun c2 => ?_)
                · have c2 := of_decide_eq_true c2
                  exact bad fun z => by omega
                · have c2 := of_decide_eq_false c2
                  repeat' walk_at "g"
                  refine ⟨?_, _, _, rfl⟩
                  rw [List.take_add_one, hxs, List.all_append, hall]
                  show (true && ((decide (na ≤ n) && decide (nb < wd)) && true)) = true
                  rw [decide_eq_true (by omega : na ≤ n), decide_eq_true (by omega : nb < wd)]; rfl
            · rintro σ H4 ⟨rfl, hall, y5, y6, rfl⟩
              rw [List.length_map, ol, List.take_length] at hall
              refine ⟨Same.trans s1 (Same.trans s2 s3), ?_, _, _, _, rfl⟩
              rw [List.take_add_one, hzs, List.all_append, hzall]
              show (true && (fitB n wd [.str "mixed", .int a, .int b, .int c, .int x] && true)) = true
              rw [show fitB n wd [.str "mixed", .int a, .int b, .int c, .int x] = true from hall]; rfl
        · rintro σ H1 ⟨s1, hzall, y4, y5, y6, rfl⟩
          have q1 := q H1 s1
          rw [List.take_length] at hzall
          rw [show fitsB n wd (.woven _ _ zss) = true from by show (decide _ && zss.all (fitB n wd)) = true; rw [decide_eq_true hw, hzall]; rfl] at q1
          exact q1
      · refine ifT (by rw [decide_eq_false (fun z => hw (V.int.inj z))]; rfl) ?_
        have q1 := q H (Same.refl _)
        rw [show fitsB n wd (.woven _ _ zss) = false from by show (decide _ && _) = false; rw [decide_eq_false hw]; rfl] at q1
        exact q1
end

/-! ### leaves as told -/
def spToldF (C : Addr) : Sp := fun vs H Q _ => ∃ (o d t : Addr) (b s : V) (zs : List V), vs = [.ref o] ∧ H o = some (.ins C d [("begin", b), ("span", s), ("worths", .ref t)]) ∧ H t = some (.tup zs) ∧ ∀ n, H n = none → Q (.ref n) (upd H n (.tup [.str "full", b, s, .ref t]))
def spToldS (C : Addr) : Sp := fun vs H Q _ => ∃ (o d : Addr) (b s k : V), vs = [.ref o] ∧ H o = some (.ins C d [("begin", b), ("span", s), ("back", k)]) ∧ ∀ n, H n = none → Q (.ref n) (upd H n (.tup [.str "still", b, s, k]))
def spToldW (C cP cM cX : Addr) : Sp := fun vs H Q _ => ∃ (o d l : Addr) (b s : V) (zss : List (List V)), vs = [.ref o] ∧ H o = some (.ins C d [("begin", b), ("span", s), ("rules", .ref l)]) ∧ RulesAt cP cM cX H l zss ∧ zss.length ≤ 16 ∧ ∀ H' t u, Same H H' → H' t = some (.tup [.str "woven", b, s, .ref u]) → TupTups H' u zss → Q (.ref t) H'
inductive LeafRow (H : Hp) (t : Addr) : LF → Prop where
  | full {u : Addr} {b s : Int} {zs : List V} (e : H t = some (.tup [.str "full", .int b, .int s, .ref u])) (hu : H u = some (.tup zs)) : LeafRow H t (.full b s zs)
  | still {b s k : Int} (e : H t = some (.tup [.str "still", .int b, .int s, .int k])) : LeafRow H t (.still b s k)
  | woven {u : Addr} {b s : Int} {zss : List (List V)} (e : H t = some (.tup [.str "woven", .int b, .int s, .ref u])) (hu : TupTups H u zss) : LeafRow H t (.woven b s zss)
theorem TupTups.keep {H H' : Hp} {u : Addr} {zss : List (List V)} (f : Same H H') (h : TupTups H u zss) : TupTups H' u zss := by
  obtain ⟨ts, e, p⟩ := h
  exact ⟨ts, f _ _ e, Paired.mono (fun a b h => f _ _ h) p⟩
theorem LeafRow.keep {H H' : Hp} {t : Addr} {lf : LF} (f : Same H H') (h : LeafRow H t lf) : LeafRow H' t lf := by
  cases h with
  | full e hu => exact .full (f _ _ e) (f _ _ hu)
  | still e => exact .still (f _ _ e)
  | woven e hu => exact .woven (f _ _ e) (hu.keep f)
/-- a leaf that is one, as point 7 tells them -/
def LF.Is : LF → Prop
  | .full b s zs => 0 ≤ b ∧ b ≤ 1000000000 ∧ 1 ≤ s ∧ s ≤ 1000000000 ∧ 1 ≤ zs.length ∧ zs.length ≤ 16 ∧ ∀ z ∈ zs, inB 0 255 z = true
  | .still b s k => 0 ≤ b ∧ b ≤ 1000000000 ∧ 1 ≤ s ∧ s ≤ 1000000000 ∧ 1 ≤ k ∧ k ≤ 200
  | .woven b s zss => 0 ≤ b ∧ b ≤ 1000000000 ∧ 1 ≤ s ∧ s ≤ 1000000000 ∧ 1 ≤ zss.length ∧ zss.length ≤ 16 ∧ ∀ zs ∈ zss, RuleL zs
theorem LF.Is.good {lf : LF} (h : lf.Is) : lf.Good := by
  cases lf with
  | full b s zs => exact h.2.2.2.2.2.1
  | still b s k => trivial
  | woven b s zss => exact h.2.2.2.2.2
def spRowCells (K : PySem.W.Frag) : Sp := fun vs H Q _ => ∃ (t : Addr) (zs : List V), vs = [.ref t] ∧ H t = some (.tup zs) ∧ 1 ≤ zs.length ∧ zs.length ≤ 16 ∧ Q (.bl true) H
def spIsLeaf (K : PySem.W.Frag) : Sp := fun vs H Q _ => ∃ (t : Addr) (lf : LF), vs = [.ref t] ∧ LeafRow H t lf ∧ lf.Is ∧ ∀ H', Same H H' → Q (.bl true) H'
def spLeafOf (K : PySem.W.Frag) (cF cS cW cP cM cX : Addr) : Sp := fun vs H Q _ => ∃ (t : Addr) (lf : LF), vs = [.ref t] ∧ LeafRow H t lf ∧ lf.Is ∧ ∀ H' o, Same H H' → H o = none → LeafAt cF cS cW cP cM cX H' o lf → Q (.ref o) H'
section
variable {P : Program} {w : World} {K : PySem.W.Frag} {mg : Str → Option Value} {base : Heap}
theorem ok_Full_told (T : TxtP P K mg) : FnOk P w K mg base CX0 1 T.a_Full_told T.d_Full_told ["self"] (spToldF T.c_Full) := by
  refine T.F_Full_told.ok sc_Full_told (fun vs H Q E h => ?_) (fun cdv A outer s H vs Q E hr h => ?_)
  · obtain ⟨o, d, t, b, s2, zs, rfl, _⟩ := h
    rfl
  · obtain ⟨o, d, t, b, s2, zs, rfl, ho, ht, q⟩ := h
    refine ⟨_, (pss_one (ps_ret (pe_tup (pa_cons pe_str (pa_cons (pe_fld (pv 0) rfl) (pa_cons (pe_fld (pv 0) rfl) (pa_cons (pe_fld (pv 0) rfl) pa_nil))))))), ?_⟩
    repeat' walk_at "g"
    refine ⟨_, _, _, _, _, rfl, ho, T.cl_Full, T.na_Full_begin, rfl, ?_⟩
    repeat' walk_at "g"
    refine ⟨_, _, _, _, _, rfl, ho, T.cl_Full, T.na_Full_span, rfl, ?_⟩
    repeat' walk_at "g"
    refine ⟨_, _, _, _, _, rfl, ho, T.cl_Full, T.na_Full_worths, rfl, ?_⟩
    exact ⟨Nat.le_of_ble_eq_true rfl, q⟩
theorem ok_Still_told (T : TxtP P K mg) : FnOk P w K mg base CX0 1 T.a_Still_told T.d_Still_told ["self"] (spToldS T.c_Still) := by
  refine T.F_Still_told.ok sc_Still_told (fun vs H Q E h => ?_) (fun cdv A outer s H vs Q E hr h => ?_)
  · obtain ⟨o, d, b, s2, k, rfl, _⟩ := h
    rfl
  · obtain ⟨o, d, b, s2, k, rfl, ho, q⟩ := h
    refine ⟨_, (pss_one (ps_ret (pe_tup (pa_cons pe_str (pa_cons (pe_fld (pv 0) rfl) (pa_cons (pe_fld (pv 0) rfl) (pa_cons (pe_fld (pv 0) rfl) pa_nil))))))), ?_⟩
    repeat' walk_at "g"
    refine ⟨_, _, _, _, _, rfl, ho, T.cl_Still, T.na_Still_begin, rfl, ?_⟩
    repeat' walk_at "g"
    refine ⟨_, _, _, _, _, rfl, ho, T.cl_Still, T.na_Still_span, rfl, ?_⟩
    repeat' walk_at "g"
    refine ⟨_, _, _, _, _, rfl, ho, T.cl_Still, T.na_Still_back, rfl, ?_⟩
    exact ⟨Nat.le_of_ble_eq_true rfl, q⟩
theorem ok_Woven_told (T : TxtP P K mg) : FnOk P w K mg base CX0 2 T.a_Woven_told T.d_Woven_told ["self"] (spToldW T.c_Woven T.c_Plain T.c_Moved T.c_Mixed) := by
  refine T.F_Woven_told.ok sc_Woven_told (fun vs H Q E h => ?_) (fun cdv A outer s H vs Q E hr h => ?_)
  · obtain ⟨o, d, l, b, s2, zss, rfl, _⟩ := h
    rfl
  · obtain ⟨o, d, l, b, s2, zss, rfl, ho, hrl, zl, q⟩ := h
    obtain ⟨os, hl, po⟩ := id hrl
    have el := po.length
    refine ⟨_, (pss_one (ps_ret (pe_tup (pa_cons pe_str (pa_cons (pe_fld (pv 0) rfl) (pa_cons (pe_fld (pv 0) rfl) (pa_cons (pe_callTy call_tuple_of (by rfl) T.m_tuple (by decide +kernel) (pa_cons (pe_lc (own := [("rule", 1)]) (g := gName 1) (tt := tYes) (by rfl) sc_Woven_told.nd (pi_list (pe_fld (pv 0) rfl)) (blkOk_by (own := [("rule", 1)]) (N := N_Woven_told) (sc := defScope s_Woven_told) (by decide +kernel)) (fun _ _ _ _ _ => (pg_name (i := 1) sc_Woven_told.nd rfl (Or.inl rfl))) (fun _ _ _ _ _ => pts_nil) (fun _ _ _ _ _ => (pe_either (pe_meth0 (pv 1) T.cl_Plain T.mt_Plain_told (ok_Plain_told T) (hr.mono (by decide)) T.b_Plain_told .nil pass0) (pe_either (pe_meth0 (pv 1) T.cl_Moved T.mt_Moved_told (ok_Moved_told T) (hr.mono (by decide)) T.b_Moved_told .nil pass0) (pe_meth0 (pv 1) T.cl_Mixed T.mt_Mixed_told (ok_Mixed_told T) (hr.mono (by decide)) T.b_Mixed_told .nil pass0))))) pa_nil)) pa_nil))))))), ?_⟩
    repeat' walk_at "g"
    refine ⟨_, _, _, _, _, rfl, ho, T.cl_Woven, T.na_Woven_begin, rfl, ?_⟩
    repeat' walk_at "g"
    refine ⟨_, _, _, _, _, rfl, ho, T.cl_Woven, T.na_Woven_span, rfl, ?_⟩
    repeat' walk_at "g"
    refine ⟨_, _, _, _, _, rfl, ho, T.cl_Woven, T.na_Woven_rules, rfl, ?_⟩
    refine ⟨_, rfl, ⟨_, SqL.of hl⟩, fun D nD => ?_⟩
    refine lcL (K := K) (te := fun σ H Q => tMeth T.c_Plain (Str.ofString "told") (spTold1 T.c_Plain) [] E0 (tVar 1) tNil σ H Q ∨ tMeth T.c_Moved (Str.ofString "told") (spTold3 T.c_Moved) [] E0 (tVar 1) tNil σ H Q ∨ tMeth T.c_Mixed (Str.ofString "told") (spTold4 T.c_Mixed) [] E0 (tVar 1) tNil σ H Q) (a := l) (xs := os.map V.ref) (fun Hc i H' => Same H H' ∧ ∃ ts : List Addr, H' D = some (.lst (ts.map V.ref)) ∧ ts.length = i ∧ Paired (fun u zs => H' u = some (.tup zs)) ts (zss.take i)) ?_ ?_ ?_ ?_
    · exact ⟨by walk_at "fr", [], upd_same, rfl, .nil⟩
    · rintro i H5 _ ⟨s5, _⟩
      exact SqL.of (s5 _ _ hl)
    · rintro i x H5 hi ⟨s5, ts, hD, ol, pt⟩
      rw [List.getElem?_map] at hi
      obtain ⟨u, hu, rfl⟩ := Option.map_eq_some_iff.mp hi
      have il : i < zss.length := by rw [← el]; exact (List.getElem?_eq_some_iff.mp hu).1
      obtain ⟨zs, hzs⟩ : ∃ zs, zss[i]? = some zs := ⟨_, List.getElem?_eq_getElem il⟩
      obtain ⟨u2, hu2, fu⟩ := paired_get po hzs
      rw [hu] at hu2
      cases hu2
      have fin : ∀ n, H5 n = none → ∃ acc, upd H5 n (.tup zs) D = some (.lst acc) ∧ acc.length < sizeLine ∧ (Same H (upd (upd H5 n (.tup zs)) D (.lst (acc ++ [.ref n]))) ∧ ∃ ts' : List Addr, upd (upd H5 n (.tup zs)) D (.lst (acc ++ [.ref n])) D = some (.lst (ts'.map V.ref)) ∧ ts'.length = i + 1 ∧ Paired (fun u zs' => upd (upd H5 n (.tup zs)) D (.lst (acc ++ [.ref n])) u = some (.tup zs')) ts' (zss.take (i + 1))) := by
        intro n nn
        have hD6 : upd H5 n (.tup zs) D = some (.lst (ts.map V.ref)) := upd_old nn hD
        refine ⟨_, hD6, sznl (by rw [List.length_map]; omega), Same.own (Same.trans s5 (Same.new (Same.refl _) nn)) nD, ts ++ [n], ?_, by rw [List.length_append, ol]; rfl, ?_⟩
        · rw [upd_same, List.map_append]; rfl
        · rw [List.take_add_one, hzs]
          have nDn : n ≠ D := (new_ne nn hD)
          exact Paired.snoc (Paired.mono (fun a b (h : H5 a = some (.tup b)) => upd_oth (ne_of h hD (fun z => nomatch z)) (upd_old nn h)) pt) (upd_oth nDn upd_same)
      refine ⟨rfl, ?_⟩
      have fu5 := fu.keep (s5 u)
      cases fu5 with
      | plain e => exact .inl ⟨_, rfl, _, _, _, rfl, e, rfl, _, _, _, rfl, e, fin⟩
      | moved e => exact .inr (.inl ⟨_, rfl, _, _, _, rfl, e, rfl, _, _, _, _, _, rfl, e, fin⟩)
      | mixed e => exact .inr (.inr ⟨_, rfl, _, _, _, rfl, e, rfl, _, _, _, _, _, _, rfl, e, fin⟩)
    · rintro H5 ⟨s5, ts, hD, ol, pt⟩
      rw [List.length_map, el, List.take_length] at pt
      refine ⟨_, _, rfl, .inl ⟨SqL.of hD, fun u nu => ⟨Nat.le_of_ble_eq_true rfl, fun t nt => ?_⟩⟩⟩
      exact q _ t u (Same.trans s5 (Same.new (Same.new (Same.refl _) nu) nt)) upd_same ⟨ts, upd_old nt upd_same, Paired.mono (fun a b h => upd_old nt (upd_old nu h)) pt⟩
end

theorem all_rep : ∀ n : Nat, (List.replicate n true).all id = true
  | 0 => rfl
  | n + 1 => by rw [List.replicate_succ, List.all_cons, all_rep n]; rfl
theorem snoc_rep {n : Nat} : (List.replicate n true).map V.bl ++ [V.bl true] = (List.replicate (n + 1) true).map V.bl := by
  rw [List.replicate_succ', List.map_append]; rfl
section
variable {P : Program} {w : World} {K : PySem.W.Frag} {mg : Str → Option Value} {base : Heap}
theorem ok_is_row_of_cells (T : TxtP P K mg) : FnOk P w K mg base CX0 1 T.a_is_row_of_cells T.d_is_row_of_cells ["thing"] (spRowCells K) := by
  refine T.F_is_row_of_cells.ok sc_is_row_of_cells (fun vs H Q E h => ?_) (fun cdv A outer s H vs Q E hr h => ?_)
  · obtain ⟨t, zs, rfl, _⟩ := h
    rfl
  · obtain ⟨t, zs, rfl, ht, l0, l1, q⟩ := h
    refine ⟨_, (pss_one (ps_ret (pe_and (pe_callB call_isi (by rfl) T.m_isinstance (by decide +kernel) (pa_cons (pv 0) (pa_cons (pe_bltn (v := .ty "tuple") (by rfl) T.m_tuple (by decide +kernel) rfl) pa_nil))) (pe_one (pe_chain op_le op_le pe_int (pe_callB call_len_seq (by rfl) T.m_len (by decide +kernel) (pa_cons (pv 0) pa_nil)) (pe_glob (v := .int 16) (by rfl) T.g_MOST_CELLS ⟨_, rfl⟩)))))), ?_⟩
    repeat' walk_at "g"
    refine ⟨_, _, _, _, true, rfl, .ty _, .base (.tup ht), kit_ty (by decide +kernel), ?_⟩
    repeat' walk_at "g"
    refine ifT (decide_eq_true (by omega)) ?_
    repeat' walk_at "g"
    show Q (.bl (decide ((zs.length : Int) ≤ 16))) H
    rw [decide_eq_true (by omega)]
    exact q
theorem ok_is_leaf (T : TxtP P K mg) : FnOk P w K mg base CX0 5 T.a_is_leaf T.d_is_leaf ["thing"] (spIsLeaf K) := by
  refine T.F_is_leaf.ok sc_is_leaf (fun vs H Q E h => ?_) (fun cdv A outer s H vs Q E hr h => ?_)
  · obtain ⟨t, lf, rfl, _⟩ := h
    rfl
  · obtain ⟨t, lf, rfl, row, is, q⟩ := h
    refine ⟨_, (pss_cons (ps_if (PW.pt (pw_or (pt_not (pt_val (pe_callB call_isi (by rfl) T.m_isinstance (by decide +kernel) (pa_cons (pv 0) (pa_cons (pe_bltn (v := .ty "tuple") (by rfl) T.m_tuple (by decide +kernel) rfl) pa_nil))))) (pw_or (pt_cmpR op_ne (pe_callB call_len_seq (by rfl) T.m_len (by decide +kernel) (pa_cons (pv 0) pa_nil)) pe_int (nomark _)) (pw_or1 (pt_not (pt_val (pe_callB call_isi (by rfl) T.m_isinstance (by decide +kernel) (pa_cons (pe_ix ix_tup (pv 0) pe_int (fun _ _ => rfl)) (pa_cons (pe_bltn (v := .ty "str") (by rfl) T.m_str (by decide +kernel) rfl) pa_nil))))))))) (pss_one (ps_ret pe_bl)) pss_nil)
      (pss_cons (ps_asg (pv 0) (pg_tup rfl (pgs_cons (pg_name (i := 1) sc_is_leaf.nd rfl (Or.inl rfl)) (pgs_cons (pg_name (i := 2) sc_is_leaf.nd rfl (Or.inl rfl)) (pgs_cons (pg_name (i := 3) sc_is_leaf.nd rfl (Or.inl rfl)) (pgs_cons (pg_name (i := 4) sc_is_leaf.nd rfl (Or.inl rfl)) pgs_nil))))))
      (pss_cons (ps_if (PW.pt (pw_or (pt_not (pt_val (pe_call (ok_is_whole T) (hr.mono (by decide)) (by rfl) T.g_is_whole T.F_is_whole.kp T.b_is_whole .nil pass0 (pa_cons (pv 2) (pa_cons pe_int (pa_cons (pe_glob (v := .int 1000000000) (by rfl) T.g_GREATEST_TIME ⟨_, rfl⟩) pa_nil)))))) (pw_or1 (pt_not (pt_val (pe_call (ok_is_whole T) (hr.mono (by decide)) (by rfl) T.g_is_whole T.F_is_whole.kp T.b_is_whole .nil pass0 (pa_cons (pv 3) (pa_cons pe_int (pa_cons (pe_glob (v := .int 1000000000) (by rfl) T.g_GREATEST_TIME ⟨_, rfl⟩) pa_nil))))))))) (pss_one (ps_ret pe_bl)) pss_nil)
      (pss_cons (ps_if (pt_cmpR op_eq (pv 1) pe_str (nomark _)) (pss_one (ps_ret (pe_and (pe_call (ok_is_row_of_cells T) (hr.mono (by decide)) (by rfl) T.g_is_row_of_cells T.F_is_row_of_cells.kp T.b_is_row_of_cells .nil pass0 (pa_cons (pv 4) pa_nil)) (pe_one (pe_callB (cr_all rfl) (by rfl) T.m_all (by decide +kernel) (pa_cons (pe_lc (own := [("value", 5)]) (g := gName 5) (tt := tYes) (by rfl) sc_is_leaf.nd (pi_tup (pv 4)) (blkOk_by (own := [("value", 5)]) (N := N_is_leaf) (sc := defScope s_is_leaf) (by decide +kernel)) (fun _ _ _ _ _ => (pg_name (i := 5) sc_is_leaf.nd rfl (Or.inl rfl))) (fun _ _ _ _ _ => pts_nil) (fun _ _ _ _ _ => (pe_call (ok_is_value T) (hr.mono (by decide)) (by rfl) T.g_is_value T.F_is_value.kp T.b_is_value .nil pass0 (pa_cons (pv 5) pa_nil)))) pa_nil)))))) pss_nil)
      (pss_cons (ps_if (pt_cmpR op_eq (pv 1) pe_str (nomark _)) (pss_one (ps_ret (pe_call (ok_is_back T) (hr.mono (by decide)) (by rfl) T.g_is_back T.F_is_back.kp T.b_is_back .nil pass0 (pa_cons (pv 4) pa_nil)))) pss_nil)
      (pss_cons (ps_if (pt_cmpR op_eq (pv 1) pe_str (nomark _)) (pss_one (ps_ret (pe_and (pe_call (ok_is_row_of_cells T) (hr.mono (by decide)) (by rfl) T.g_is_row_of_cells T.F_is_row_of_cells.kp T.b_is_row_of_cells .nil pass0 (pa_cons (pv 4) pa_nil)) (pe_one (pe_callB (cr_all rfl) (by rfl) T.m_all (by decide +kernel) (pa_cons (pe_lc (own := [("rule", 6)]) (g := gName 6) (tt := tYes) (by rfl) sc_is_leaf.nd (pi_tup (pv 4)) (blkOk_by (own := [("rule", 6)]) (N := N_is_leaf) (sc := defScope s_is_leaf) (by decide +kernel)) (fun _ _ _ _ _ => (pg_name (i := 6) sc_is_leaf.nd rfl (Or.inl rfl))) (fun _ _ _ _ _ => pts_nil) (fun _ _ _ _ _ => (pe_call (ok_is_rule T) (hr.mono (by decide)) (by rfl) T.g_is_rule T.F_is_rule.kp T.b_is_rule .nil pass0 (pa_cons (pv 6) pa_nil)))) pa_nil)))))) pss_nil)
      (pss_one (ps_ret pe_bl)))))))), ?_⟩
    repeat' walk_at "g"
    cases row with
    | @full u b s2 zs e hu =>
      obtain ⟨b0, b1, s0, s1, l0, l1, hz⟩ := is
      refine ⟨_, _, _, _, true, rfl, .ty _, .base (.tup e), kit_ty (by decide +kernel), ?_⟩
      repeat' walk_at "g"
      refine ⟨_, _, _, _, true, rfl, .ty _, .base (.str _), kit_ty (by decide +kernel), ?_⟩
      repeat' walk_at "g"
      refine ⟨_, _, rfl, SqT.of e, rfl, _, _, rfl, _, _, rfl, _, _, rfl, _, _, rfl, rfl, ?_⟩
      repeat' walk_at "g"
      refine ⟨_, _, _, rfl, .int b, ?_⟩
      rw [int_inB b0 b1]
      repeat' walk_at "g"
      refine ⟨_, _, _, rfl, .int s2, ?_⟩
      rw [int_inB s0 s1]
      repeat' walk_at "g"
      refine ⟨_, _, rfl, hu, l0, l1, ?_⟩
      repeat' walk_at "g"
      refine ⟨⟨_, SqT.of hu⟩, fun D nD => ?_⟩
      refine lcT (K := K) (a := u) (xs := zs) (fun Hc i H' => Same H H' ∧ H' D = some (.lst ((List.replicate i true).map V.bl))) ?_ ?_ ?_ ?_
      · exact ⟨by walk_at "fr", upd_same⟩
      · rintro i H5 _ ⟨s5, _⟩
        exact SqT.of (s5 _ _ hu)
      · rintro i x H5 hi ⟨s5, hD⟩
        have il : i < zs.length := (List.getElem?_eq_some_iff.mp hi).1
        have hx := hz x (List.mem_of_getElem? hi)
        obtain ⟨n, rfl, n0, n1⟩ := inB_int hx
        refine ⟨rfl, ⟨_, rfl, _, rfl, .int n, ?_⟩⟩
        rw [hx]
        exact ⟨_, hD, sznl (by rw [List.length_map, List.length_replicate]; omega), Same.own s5 nD, by rw [upd_same, snoc_rep]⟩
      · rintro H5 ⟨s5, hD⟩
        refine ⟨_, _, rfl, SqL.of hD, ?_⟩
        rw [all_rep]
        exact q _ s5
    | @still b s2 k e =>
      obtain ⟨b0, b1, s0, s1, l0, l1⟩ := is
      refine ⟨_, _, _, _, true, rfl, .ty _, .base (.tup e), kit_ty (by decide +kernel), ?_⟩
      repeat' walk_at "g"
      refine ⟨_, _, _, _, true, rfl, .ty _, .base (.str _), kit_ty (by decide +kernel), ?_⟩
      repeat' walk_at "g"
      refine ⟨_, _, rfl, SqT.of e, rfl, _, _, rfl, _, _, rfl, _, _, rfl, _, _, rfl, rfl, ?_⟩
      repeat' walk_at "g"
      refine ⟨_, _, _, rfl, .int b, ?_⟩
      rw [int_inB b0 b1]
      repeat' walk_at "g"
      refine ⟨_, _, _, rfl, .int s2, ?_⟩
      rw [int_inB s0 s1]
      repeat' walk_at "g"
      rw [int_inB l0 l1]
      exact ⟨.int k, q _ (Same.refl _)⟩
    | @woven u b s2 zss e hu =>
      obtain ⟨b0, b1, s0, s1, l0, l1, hz⟩ := is
      obtain ⟨ts, ht, pt⟩ := id hu
      have el := pt.length
      refine ⟨_, _, _, _, true, rfl, .ty _, .base (.tup e), kit_ty (by decide +kernel), ?_⟩
      repeat' walk_at "g"
      refine ⟨_, _, _, _, true, rfl, .ty _, .base (.str _), kit_ty (by decide +kernel), ?_⟩
      repeat' walk_at "g"
      refine ⟨_, _, rfl, SqT.of e, rfl, _, _, rfl, _, _, rfl, _, _, rfl, _, _, rfl, rfl, ?_⟩
      repeat' walk_at "g"
      refine ⟨_, _, _, rfl, .int b, ?_⟩
      rw [int_inB b0 b1]
      repeat' walk_at "g"
      refine ⟨_, _, _, rfl, .int s2, ?_⟩
      rw [int_inB s0 s1]
      repeat' walk_at "g"
      refine ⟨_, _, rfl, ht, by rw [List.length_map, el]; exact l0, by rw [List.length_map, el]; exact l1, ?_⟩
      repeat' walk_at "g"
      refine ⟨⟨_, SqT.of ht⟩, fun D nD => ?_⟩
      refine lcT (K := K) (a := u) (xs := ts.map V.ref) (fun Hc i H' => Same H H' ∧ H' D = some (.lst ((List.replicate i true).map V.bl))) ?_ ?_ ?_ ?_
      · exact ⟨by walk_at "fr", upd_same⟩
      · rintro i H5 _ ⟨s5, _⟩
        exact SqT.of (s5 _ _ ht)
      · rintro i x H5 hi ⟨s5, hD⟩
        rw [List.getElem?_map] at hi
        obtain ⟨r, hr2, rfl⟩ := Option.map_eq_some_iff.mp hi
        have il : i < zss.length := by rw [← el]; exact (List.getElem?_eq_some_iff.mp hr2).1
        obtain ⟨zs, hzs⟩ : ∃ zs, zss[i]? = some zs := ⟨_, List.getElem?_eq_getElem il⟩
        obtain ⟨r2, hr3, fr⟩ := paired_get pt hzs
        rw [hr2] at hr3
        cases hr3
        refine ⟨rfl, ⟨_, rfl, _, true, rfl, (hz zs (List.mem_of_getElem? hzs)).told (s5 _ _ fr), ?_⟩⟩
        exact ⟨_, hD, sznl (by rw [List.length_map, List.length_replicate]; omega), Same.own s5 nD, by rw [upd_same, snoc_rep]⟩
      · rintro H5 ⟨s5, hD⟩
        refine ⟨_, _, rfl, SqL.of hD, ?_⟩
        rw [all_rep]
        exact q _ s5
theorem made_same {H1 : Hp} {x dx : Addr} {a b : HO} (nx : H1 x = none) (nd : H1 dx = none) : Same H1 (upd (upd H1 dx a) x b) := fun c u hc => upd_oth (new_ne nx hc).symm (upd_oth (new_ne nd hc).symm hc)
theorem ok_leaf_of (T : TxtP P K mg) : FnOk P w K mg base (L2.CX P w) 8 T.a_leaf_of T.d_leaf_of ["told"] (spLeafOf K T.c_Full T.c_Still T.c_Woven T.c_Plain T.c_Moved T.c_Mixed) := by
  refine T.F_leaf_of.okX sc_leaf_of (fun vs H Q E h => ?_) (fun cdv A outer s H vs Q E hr h => ?_)
  · obtain ⟨t, lf, rfl, _⟩ := h
    rfl
  · obtain ⟨t, lf, rfl, row, is, q⟩ := h
    refine ⟨_, (pss_cons (ps_if (pt_not (pt_val (pe_call (ok_is_leaf T) (hr.mono (by decide)) (by rfl) T.g_is_leaf T.F_is_leaf.kp T.b_is_leaf .nil pass0 (pa_cons (pv 0) pa_nil)))) (pss_one (ps_raise rfl (takes_of rfl rfl rfl rfl) (pmk_own PySem.F.excBase_ValueError T.x_NoLeaf T.g_NoLeaf T.k_NoLeaf (raises_own T.bb_NoLeaf T.t_NoLeaf) rfl))) pss_nil)
      (pss_cons (ps_asg (pv 0) (pg_tup rfl (pgs_cons (pg_name (i := 1) sc_leaf_of.nd rfl (Or.inl rfl)) (pgs_cons (pg_name (i := 2) sc_leaf_of.nd rfl (Or.inl rfl)) (pgs_cons (pg_name (i := 3) sc_leaf_of.nd rfl (Or.inl rfl)) (pgs_cons (pg_name (i := 4) sc_leaf_of.nd rfl (Or.inl rfl)) pgs_nil))))))
      (pss_cons (ps_if (pt_cmpR op_eq (pv 1) pe_str (nomark _)) (pss_one (ps_ret (pe_make T.mk_Full (ok_Full_init T) (hr.mono (by decide)) (by rfl) T.g_Full T.b_Full_init .nil pass0 (pa_cons (pv 2) (pa_cons (pv 3) (pa_cons (pv 4) pa_nil)))))) pss_nil)
      (pss_cons (ps_if (pt_cmpR op_eq (pv 1) pe_str (nomark _)) (pss_one (ps_ret (pe_make T.mk_Still (ok_Still_init T) (hr.mono (by decide)) (by rfl) T.g_Still T.b_Still_init .nil pass0 (pa_cons (pv 2) (pa_cons (pv 3) (pa_cons (pv 4) pa_nil)))))) pss_nil)
      (pss_one (ps_ret (pe_make T.mk_Woven (ok_Woven_init T) (hr.mono (by decide)) (by rfl) T.g_Woven T.b_Woven_init .nil pass0 (pa_cons (pv 2) (pa_cons (pv 3) (pa_cons (pv 4) pa_nil)))))))))), ?_⟩
    repeat' walk_at "g"
    refine ⟨_, _, rfl, row, is, fun H1 s1 => ?_⟩
    have row1 := row.keep s1
    repeat' walk_at "g"
    cases row1 with
    | @full u b s2 zs e hu =>
      refine ⟨_, _, rfl, SqT.of e, rfl, _, _, rfl, _, _, rfl, _, _, rfl, _, _, rfl, rfl, ?_⟩
      repeat' walk_at "g"
      intro x dx nx nd ndx
      have m := fun (b : HO) => made_same (a := HO.own x) (b := b) nx nd
      refine ⟨x, dx, u, _, _, zs, rfl, upd_same, m _ _ _ hu, (new_ne nx hu).symm, rfl, ?_⟩
      simp only [upd_upd]
      exact q _ x (Same.trans s1 (m _)) (Same.none s1 nx) (.full upd_same (m _ _ _ hu))
    | @still b s2 k e =>
      refine ⟨_, _, rfl, SqT.of e, rfl, _, _, rfl, _, _, rfl, _, _, rfl, _, _, rfl, rfl, ?_⟩
      repeat' walk_at "g"
      intro x dx nx nd ndx
      have m := fun (b : HO) => made_same (a := HO.own x) (b := b) nx nd
      refine ⟨x, dx, _, _, _, rfl, upd_same, rfl, ?_⟩
      simp only [upd_upd]
      exact q _ x (Same.trans s1 (m _)) (Same.none s1 nx) (.still upd_same)
    | @woven u b s2 zss e hu =>
      refine ⟨_, _, rfl, SqT.of e, rfl, _, _, rfl, _, _, rfl, _, _, rfl, _, _, rfl, rfl, ?_⟩
      repeat' walk_at "g"
      intro x dx nx nd ndx
      have m := fun (b : HO) => made_same (a := HO.own x) (b := b) nx nd
      refine ⟨x, dx, u, _, _, zss, rfl, upd_same, hu.keep (m _), is.2.2.2.2.2.2, is.2.2.2.2.2.1, fun H2 l f ho hr2 => ⟨rfl, ?_⟩⟩
      exact q _ x (Same.trans s1 fun b v hb => f b v (new_ne nx hb).symm (m _ _ _ hb)) (Same.none s1 nx) (.woven ho hr2)
end

local macro_rules | `(tactic| walk_at "dw") => `(tactic| (refine ⟨_, _, _, rfl, by walk_at "hp", by assumption, by first | decide | omega, by first | decide | omega, fun _ _ _ _ _ _ _ _ => ?_⟩))
local macro_rules | `(tactic| walk_at "nr") => `(tactic| (refine ⟨_, _, _, _, _, rfl, by walk_at "hp", by assumption, by first | decide | omega, by first | decide | omega, by first | decide | omega, fun _ _ _ _ _ _ _ _ => ?_⟩))
/-! ### wells of drawn numbers -/
def IsW (xs : List V) : Prop := ∃ x y z, xs = [.int x, .int y, .int z]
def spCellW (K : PySem.W.Frag) : Sp := fun vs H Q _ => ∃ (a : Addr) (ns : List Int) (k : Int), vs = [.ref a, .int k] ∧ SqL K H a (ns.map V.int) ∧ 0 ≤ k ∧ k < 1000 ∧ ∀ n H', Same H H' → Q (.int n) H'
def spWell (K : PySem.W.Frag) : Sp := fun vs H Q _ => ∃ (a : Addr) (ns : List Int) (k : Int), vs = [.ref a, .int k] ∧ SqL K H a (ns.map V.int) ∧ 0 ≤ k ∧ k < 1000 ∧ ∀ H' q x y z, Same H H' → H q = none → H' q = some (.lst [.int x, .int y, .int z]) → Q (.ref q) H'
def spDraw : Sp := fun vs H Q _ => ∃ (p : Addr) (xs : List V) (b : Int), vs = [.ref p, .int b] ∧ H p = some (.lst xs) ∧ IsW xs ∧ 0 < b ∧ b < 1073741824 ∧
  ∀ H' d xs', Frm p H H' → H' p = some (.lst xs') → IsW xs' → 0 ≤ d → d < b → Q (.int d) H'
theorem sqKeep {K : PySem.W.Frag} {H : Hp} {a n : Addr} {xs : List V} {o : HO} (h : SqL K H a xs) (nn : H n = none) : SqL K (upd H n o) a xs := Same.seq (Same.new (Same.refl _) nn) h
def spNear : Sp := fun vs H Q _ => ∃ (p : Addr) (xs : List V) (lo hi mid : Int), vs = [.ref p, .int lo, .int hi, .int mid] ∧ H p = some (.lst xs) ∧ IsW xs ∧ 0 ≤ lo ∧ lo ≤ hi ∧ hi ≤ 1000 ∧
  ∀ H' d xs', Frm p H H' → H' p = some (.lst xs') → IsW xs' → lo ≤ d → d ≤ hi → Q (.int d) H'
def spLRule : Sp := fun vs H Q _ => ∃ (p : Addr) (xs : List V) (n wd : Int) (g : Bool), vs = [.ref p, .int n, .int wd, .bl g] ∧ H p = some (.lst xs) ∧ IsW xs ∧ 0 ≤ n ∧ n ≤ 199 ∧ 1 ≤ wd ∧ wd ≤ 16 ∧
  ∀ H' t xs' zs, Frm p H H' → H' p = some (.lst xs') → IsW xs' → t ≠ p → H' t = some (.tup zs) → RuleL zs → Q (.ref t) H'
def spNeedF : Sp := fun vs H Q _ => ∃ (a b n wd : Int), vs = [.int a, .int b, .int n, .int wd] ∧ Q (.bl (needB n wd [.int a, .int b])) H
def spRuleF2 (K : PySem.W.Frag) : Sp := fun vs H Q _ => ∃ (t : Addr) (zs : List V) (n wd : Int), vs = [.ref t, .int n, .int wd] ∧ H t = some (.tup zs) ∧ RuleL zs ∧ Q (.bl (fitB n wd zs)) H
section
variable {P : Program} {w : World} {K : PySem.W.Frag} {mg : Str → Option Value} {base : Heap}
theorem ok_l_cell_at (T : TxtP P K mg) : FnOk P w K mg base CX0 1 T.a_l_cell_at T.d_l_cell_at ["_law_script", "_law_k"] (spCellW K) := by
  refine T.F_l_cell_at.ok sc_l_cell_at (fun vs H Q E h => ?_) (fun cdv A outer s H vs Q E hr h => ?_)
  · obtain ⟨a, ns, k, rfl, _⟩ := h
    rfl
  · obtain ⟨a, ns, k, rfl, hS, h0, h1, q⟩ := h
    refine ⟨_, (pss_cons (ps_if (pt_cmpR op_lt (pv 1) (pe_callB call_len_seq (by rfl) T.m_len (by decide +kernel) (pa_cons (pv 0) pa_nil)) (nomark _)) (pss_one (ps_ret (pe_ix ix_list (pv 0) (pv 1) (fun _ _ => rfl)))) pss_nil)
      (pss_cons (ps_if (pt_cmpR (op_eqD hr.units) (pv 0) (pe_lst pa_nil) (nomark _)) (pss_one (ps_ret (pv 1))) pss_nil)
      (pss_one (ps_ret (pe_op op_add (pe_ix ix_list (pv 0) (pe_op op_mod (pv 1) (pe_callB call_len_seq (by rfl) T.m_len (by decide +kernel) (pa_cons (pv 0) pa_nil))) (fun _ _ => rfl)) (pe_op op_mul pe_int (pv 1))))))), ?_⟩
    refine ⟨_, rfl, _, rfl, _, _, rfl, .inl hS, ?_⟩
    repeat' walk_at "g"
    refine ite2 (fun c => ?_) (fun c => ?_)
    · have c := of_decide_eq_true c
      refine ⟨_, rfl, _, rfl, ?_⟩
      refine ixP (fun v => ∃ i, v = .int i) hS h0 c (fun v hv => ?_) (fun v ⟨i, e⟩ => ?_)
      · obtain ⟨i, m, e⟩ := List.mem_map.mp hv
        exact ⟨i, e.symm⟩
      · subst e
        exact q i _ (Same.refl _)
    · repeat' walk_at "g"
      rename_i e ne
      refine eqInts (ms := []) (sqKeep hS ne) (SqL.of upd_same) ?_
      by_cases hn : ns = []
      · rw [decide_eq_true hn]
        repeat' walk_at "g"
        exact q _ _ (Same.new (Same.refl _) ne)
      · rw [decide_eq_false hn]
        have hl : 0 < ns.length := List.length_pos_iff.mpr hn
        repeat' walk_at "g"
        refine ⟨_, _, rfl, .inl (sqKeep hS ne), ?_⟩
        repeat' walk_at "g"
        refine ⟨show (0 : Int) < ((ns.map V.int).length : Nat) by rw [List.length_map]; omega, ?_⟩
        have hl2 : (0 : Int) < ((ns.map V.int).length : Nat) := by rw [List.length_map]; omega
        refine ixP (fun v => ∃ i, v = .int i) (sqKeep hS ne) (Int.emod_nonneg _ (by omega)) (Int.emod_lt_of_pos _ hl2) (fun v hv => ?_) (fun v ⟨i, e⟩ => ?_)
        · obtain ⟨i, m, e⟩ := List.mem_map.mp hv
          exact ⟨i, e.symm⟩
        · subst e
          repeat' walk_at "g"
          exact q _ _ (Same.new (Same.refl _) ne)
theorem ok_l_well (T : TxtP P K mg) : FnOk P w K mg base CX0 2 T.a_l_well T.d_l_well ["_law_script", "_law_k"] (spWell K) := by
  refine T.F_l_well.ok sc_l_well (fun vs H Q E h => ?_) (fun cdv A outer s H vs Q E hr h => ?_)
  · obtain ⟨a, ns, k, rfl, _⟩ := h
    rfl
  · obtain ⟨a, ns, k, rfl, hS, h0, h1, q⟩ := h
    refine ⟨_, (pss_cons (ps_set (i := 2) sc_l_well.nd rfl (Or.inl rfl) (pe_call (ok_l_cell_at T) (hr.mono (by decide)) (by rfl) T.g_l_cell_at T.F_l_cell_at.kp T.b_l_cell_at .nil pass0 (pa_cons (pv 0) (pa_cons (pv 1) pa_nil))))
      (pss_one (ps_ret (pe_lst (pa_cons (pv 2) (pa_cons (pe_op op_mod (pv 2) pe_int) (pa_cons pe_int pa_nil))))))), ?_⟩
    refine ⟨_, rfl, _, rfl, _, _, _, rfl, hS, h0, h1, fun n H1 s1 => ?_⟩
    repeat' walk_at "g"
    rename_i l nl
    exact q _ _ _ _ _ (by walk_at "fr") (Same.none s1 nl) upd_same
theorem ok_l_draw (T : TxtP P K mg) : FnOk P w K mg base CX0 1 T.a_l_draw T.d_l_draw ["_law_well_here", "_law_many"] spDraw := by
  refine T.F_l_draw.ok sc_l_draw (fun vs H Q E h => ?_) (fun cdv A outer s H vs Q E hr h => ?_)
  · obtain ⟨p, xs, b, rfl, _⟩ := h
    rfl
  · obtain ⟨p, xs, b, rfl, hp, ⟨x, y, z, rfl⟩, b0, b1, q⟩ := h
    refine ⟨_, (pss_cons (ps_if (pt_cmpR op_ge (pe_ix ix_list (pv 0) pe_int (fun _ _ => rfl)) (pe_op op_pow pe_int pe_int) (nomark _)) (pss_cons (ps_set (i := 2) sc_l_draw.nd rfl (Or.inl rfl) (pe_op op_mod (pe_ix ix_list (pv 0) pe_int (fun _ _ => rfl)) (pv 1)))
      (pss_cons (ps_asg (pe_op op_fdiv (pe_ix ix_list (pv 0) pe_int (fun _ _ => rfl)) (pv 1)) (pg_sub (pv 0) pe_int set_list))
      (pss_one (ps_ret (pv 2))))) pss_nil)
      (pss_cons (ps_asg (pe_op op_add (pe_ix ix_list (pv 0) pe_int (fun _ _ => rfl)) pe_int) (pg_sub (pv 0) pe_int set_list))
      (pss_cons (ps_set (i := 3) sc_l_draw.nd rfl (Or.inl rfl) (pe_op op_mod (pe_op op_mul (pe_op op_add (pe_op op_add (pe_ix ix_list (pv 0) pe_int (fun _ _ => rfl)) (pe_op op_mul pe_int (pe_ix ix_list (pv 0) pe_int (fun _ _ => rfl)))) pe_int) pe_int) pe_int))
      (pss_cons (ps_set (i := 3) sc_l_draw.nd rfl (Or.inl rfl) (pe_op op_mod (pe_op op_mul (pv 3) (pe_op op_add (pe_op op_fdiv (pv 3) pe_int) pe_int)) pe_int))
      (pss_one (ps_ret (pe_op op_mod (pe_op op_mod (pe_op op_mul (pv 3) (pe_op op_add (pe_op op_fdiv (pv 3) pe_int) pe_int)) pe_int) (pv 1)))))))), ?_⟩
    repeat' walk_at "g"
    refine ite2 (fun c => ?_) (fun c => ?_)
    · repeat' walk_at "g"
      exact q _ _ _ (by walk_at "fr") upd_same ⟨_, _, _, rfl⟩ (Int.emod_nonneg _ (by omega)) (Int.emod_lt_of_pos _ b0)
    · repeat' walk_at "g"
      exact q _ _ _ (by walk_at "fr") upd_same ⟨_, _, _, rfl⟩ (Int.emod_nonneg _ (by omega)) (Int.emod_lt_of_pos _ b0)
theorem ok_l_near (T : TxtP P K mg) : FnOk P w K mg base CX0 2 T.a_l_near T.d_l_near ["_law_well_here", "_law_low", "_law_high", "_law_middle"] spNear := by
  refine T.F_l_near.ok sc_l_near (fun vs H Q E h => ?_) (fun cdv A outer s H vs Q E hr h => ?_)
  · obtain ⟨p, xs, lo, hi, mid, rfl, _⟩ := h
    rfl
  · obtain ⟨p, xs, lo, hi, mid, rfl, hp, hx, l0, l1, l2, q⟩ := h
    refine ⟨_, (pss_cons (ps_set (i := 4) sc_l_near.nd rfl (Or.inl rfl) (pe_call (ok_l_draw T) (hr.mono (by decide)) (by rfl) T.g_l_draw T.F_l_draw.kp T.b_l_draw .nil pass0 (pa_cons (pv 0) (pa_cons pe_int pa_nil))))
      (pss_cons (ps_if (pt_cmpR op_eq (pv 4) pe_int (nomark _)) (pss_one (ps_ret (pe_op op_add (pv 1) (pe_call (ok_l_draw T) (hr.mono (by decide)) (by rfl) T.g_l_draw T.F_l_draw.kp T.b_l_draw .nil pass0 (pa_cons (pv 0) (pa_cons (pe_op op_add (pe_op op_sub (pv 2) (pv 1)) pe_int) pa_nil)))))) pss_nil)
      (pss_cons (ps_if (pt_cmpR op_eq (pv 4) pe_int (nomark _)) (pss_one (ps_ret (pe_callB (call_max2 rfl) (by rfl) T.m_max (by decide +kernel) (pa_cons (pv 1) (pa_cons (pe_callB (call_min2 rfl) (by rfl) T.m_min (by decide +kernel) (pa_cons (pv 2) (pa_cons (pe_op op_add (pv 3) pe_int) pa_nil))) pa_nil))))) pss_nil)
      (pss_one (ps_ret (pe_op op_add (pv 1) (pe_call (ok_l_draw T) (hr.mono (by decide)) (by rfl) T.g_l_draw T.F_l_draw.kp T.b_l_draw .nil pass0 (pa_cons (pv 0) (pa_cons (pe_callB (call_max2 rfl) (by rfl) T.m_max (by decide +kernel) (pa_cons pe_int (pa_cons (pe_op op_add (pe_op op_sub (pe_callB (call_min2 rfl) (by rfl) T.m_min (by decide +kernel) (pa_cons (pv 2) (pa_cons (pv 3) pa_nil))) (pv 1)) pe_int) pa_nil))) pa_nil))))))))), ?_⟩
    repeat' walk_at "g"
    walk_at "dw"
    rename_i H1 d1 xs1 f1 h1 st1 d10 d11
    repeat' walk_at "g"
    refine ifC (fun c => ?_) (fun c => ?_)
    · repeat' walk_at "g"
      walk_at "dw"
      rename_i H2 d2 xs2 f2 h2 st2 d20 d21
      repeat' walk_at "g"
      exact q _ _ _ (f1.trans f2) h2 st2 (by omega) (by omega)
    · repeat' walk_at "g"
      refine ifC (fun c => ?_) (fun c => ?_)
      · repeat' walk_at "g"
        refine ⟨_, _, rfl, ?_⟩
        refine ⟨_, _, rfl, ?_⟩
        refine q _ _ _ f1 h1 st1 ?_ ?_
        · split <;> omega
        · split <;> split <;> omega
      · repeat' walk_at "g"
        refine ⟨_, _, rfl, ?_⟩
        repeat' walk_at "g"
        refine ⟨_, _, rfl, ?_⟩
        generalize hm : (if mid < hi then mid else hi) = m
        have m1 : m ≤ hi := by subst hm; split <;> omega
        dsimp only
        generalize hk : (if m - lo + 1 > 1 then m - lo + 1 else 1) = k
        have k0 : 1 ≤ k := by subst hk; split <;> omega
        have k1 : k ≤ hi - lo + 1 := by subst hk; split <;> omega
        repeat' walk_at "g"
        walk_at "dw"
        rename_i H2 d2 xs2 f2 h2 st2 d20 d21
        repeat' walk_at "g"
        exact q _ _ _ (f1.trans f2) h2 st2 (by omega) (by omega)
theorem ok_l_rule (T : TxtP P K mg) : FnOk P w K mg base CX0 3 T.a_l_rule T.d_l_rule ["_law_well_here", "_law_number", "_law_wide", "_law_good"] spLRule := by
  refine T.F_l_rule.ok sc_l_rule (fun vs H Q E h => ?_) (fun cdv A outer s H vs Q E hr h => ?_)
  · obtain ⟨p, xs, n, wd, g, rfl, _⟩ := h
    rfl
  · obtain ⟨p, xs, n, wd, g, rfl, hp, hx, n0, n1, w0, w1, q⟩ := h
    refine ⟨_, (pss_cons (ps_set (i := 4) sc_l_rule.nd rfl (Or.inl rfl) (pe_call (ok_l_draw T) (hr.mono (by decide)) (by rfl) T.g_l_draw T.F_l_draw.kp T.b_l_draw .nil pass0 (pa_cons (pv 0) (pa_cons pe_int pa_nil))))
      (pss_cons (ps_if (PW.pt (pw_or (pt_cmpR op_eq (pv 4) pe_int (nomark _)) (pw_or1 (PW.pt (pw_and (pt_val (pv 3)) (pw_and1 (pt_cmpR op_eq (pv 1) pe_int (nomark _)))))))) (pss_one (ps_ret (pe_tup (pa_cons pe_str (pa_cons (pe_call (ok_l_draw T) (hr.mono (by decide)) (by rfl) T.g_l_draw T.F_l_draw.kp T.b_l_draw .nil pass0 (pa_cons (pv 0) (pa_cons pe_int pa_nil))) pa_nil))))) pss_nil)
      (pss_cons (ps_if (pt_val (pv 3)) (pss_cons (ps_set (i := 5) sc_l_rule.nd rfl (Or.inl rfl) (pe_op op_add pe_int (pe_call (ok_l_draw T) (hr.mono (by decide)) (by rfl) T.g_l_draw T.F_l_draw.kp T.b_l_draw .nil pass0 (pa_cons (pv 0) (pa_cons (pv 1) pa_nil)))))
      (pss_cons (ps_set (i := 6) sc_l_rule.nd rfl (Or.inl rfl) (pe_call (ok_l_draw T) (hr.mono (by decide)) (by rfl) T.g_l_draw T.F_l_draw.kp T.b_l_draw .nil pass0 (pa_cons (pv 0) (pa_cons (pv 2) pa_nil))))
      (pss_cons (ps_if (pt_cmpR op_eq (pv 4) pe_int (nomark _)) (pss_one (ps_ret (pe_tup (pa_cons pe_str (pa_cons (pv 5) (pa_cons (pv 6) (pa_cons (pe_call (ok_l_draw T) (hr.mono (by decide)) (by rfl) T.g_l_draw T.F_l_draw.kp T.b_l_draw .nil pass0 (pa_cons (pv 0) (pa_cons pe_int pa_nil))) pa_nil))))))) pss_nil)
      (pss_one (ps_ret (pe_tup (pa_cons pe_str (pa_cons (pv 5) (pa_cons (pv 6) (pa_cons (pe_op op_add pe_int (pe_call (ok_l_draw T) (hr.mono (by decide)) (by rfl) T.g_l_draw T.F_l_draw.kp T.b_l_draw .nil pass0 (pa_cons (pv 0) (pa_cons (pv 1) pa_nil)))) (pa_cons (pe_call (ok_l_draw T) (hr.mono (by decide)) (by rfl) T.g_l_draw T.F_l_draw.kp T.b_l_draw .nil pass0 (pa_cons (pv 0) (pa_cons (pv 2) pa_nil))) pa_nil))))))))))) pss_nil)
      (pss_cons (ps_set (i := 5) sc_l_rule.nd rfl (Or.inl rfl) (pe_call (ok_l_near T) (hr.mono (by decide)) (by rfl) T.g_l_near T.F_l_near.kp T.b_l_near .nil pass0 (pa_cons (pv 0) (pa_cons pe_int (pa_cons pe_int (pa_cons (pv 1) pa_nil))))))
      (pss_cons (ps_set (i := 6) sc_l_rule.nd rfl (Or.inl rfl) (pe_call (ok_l_near T) (hr.mono (by decide)) (by rfl) T.g_l_near T.F_l_near.kp T.b_l_near .nil pass0 (pa_cons (pv 0) (pa_cons pe_int (pa_cons pe_int (pa_cons (pe_op op_sub (pv 2) pe_int) pa_nil))))))
      (pss_cons (ps_if (pt_cmpR op_eq (pv 4) pe_int (nomark _)) (pss_one (ps_ret (pe_tup (pa_cons pe_str (pa_cons (pv 5) (pa_cons (pv 6) (pa_cons (pe_call (ok_l_draw T) (hr.mono (by decide)) (by rfl) T.g_l_draw T.F_l_draw.kp T.b_l_draw .nil pass0 (pa_cons (pv 0) (pa_cons pe_int pa_nil))) pa_nil))))))) pss_nil)
      (pss_one (ps_ret (pe_tup (pa_cons pe_str (pa_cons (pv 5) (pa_cons (pv 6) (pa_cons (pe_call (ok_l_near T) (hr.mono (by decide)) (by rfl) T.g_l_near T.F_l_near.kp T.b_l_near .nil pass0 (pa_cons (pv 0) (pa_cons pe_int (pa_cons pe_int (pa_cons (pv 1) pa_nil))))) (pa_cons (pe_call (ok_l_near T) (hr.mono (by decide)) (by rfl) T.g_l_near T.F_l_near.kp T.b_l_near .nil pass0 (pa_cons (pv 0) (pa_cons pe_int (pa_cons pe_int (pa_cons (pe_op op_sub (pv 2) pe_int) pa_nil))))) pa_nil)))))))))))))), ?_⟩
    repeat' walk_at "g"
    walk_at "dw"
    rename_i H1 d1 xs1 f1 h1 st1 d10 d11
    have mkP : ∀ H' d xs', Frm p H H' → H' p = some (.lst xs') → IsW xs' → 0 ≤ d → d < 256 → ∀ t, H' t = none → Q (.ref t) (upd H' t (.tup [.str "plain", .int d])) := fun H' d xs' f hp' hw h0 h1 t nt =>
      q _ _ _ _ (f.new nt) (upd_old nt hp') hw (new_ne nt hp') upd_same (.plain d h0 (by omega))
    have mkM : ∀ H' a b c xs', Frm p H H' → H' p = some (.lst xs') → IsW xs' → 1 ≤ a → a ≤ 200 → 0 ≤ b → b ≤ 15 → 0 ≤ c → c < 256 → ∀ t, H' t = none → Q (.ref t) (upd H' t (.tup [.str "moved", .int a, .int b, .int c])) := fun H' a b c xs' f hp' hw h0 h1 h2 h3 h4 h5 t nt =>
      q _ _ _ _ (f.new nt) (upd_old nt hp') hw (new_ne nt hp') upd_same (.moved a b c h0 h1 h2 h3 h4 (by omega))
    have mkX : ∀ H' a b c d xs', Frm p H H' → H' p = some (.lst xs') → IsW xs' → 1 ≤ a → a ≤ 200 → 0 ≤ b → b ≤ 15 → 1 ≤ c → c ≤ 200 → 0 ≤ d → d ≤ 15 → ∀ t, H' t = none → Q (.ref t) (upd H' t (.tup [.str "mixed", .int a, .int b, .int c, .int d])) := fun H' a b c d xs' f hp' hw h0 h1 h2 h3 h4 h5 h6 h7 t nt =>
      q _ _ _ _ (f.new nt) (upd_old nt hp') hw (new_ne nt hp') upd_same (.mixed a b c d h0 h1 h2 h3 h4 h5 h6 h7)
    clear q
    repeat' walk_at "g"
    refine ifC (fun c => ?_) (fun c => ?_)
    · repeat' walk_at "g"
      walk_at "dw"
      rename_i H2 d2 xs2 f2 h2 st2 d20 d21
      repeat' walk_at "g"
      exact mkP _ _ _ (f1.trans f2) h2 st2 d20 d21 _ (by assumption)
    · cases g with
      | true =>
        repeat' walk_at "g"
        refine ifC (fun c2 => ?_) (fun c2 => ?_)
        · repeat' walk_at "g"
          walk_at "dw"
          rename_i H2 d2 xs2 f2 h2 st2 d20 d21
          repeat' walk_at "g"
          exact mkP _ _ _ (f1.trans f2) h2 st2 d20 d21 _ (by assumption)
        · have c2 : ¬ n = 0 := fun z => of_decide_eq_false c2 (by rw [z])
          repeat' walk_at "g"
          walk_at "dw"
          rename_i H2 d2 xs2 f2 h2 st2 d20 d21
          have f02 := f1.trans f2
          clear f1 f2
          repeat' walk_at "g"
          walk_at "dw"
          rename_i H3 d3 xs3 f3 h3 st3 d30 d31
          have f03 := f02.trans f3
          clear f02 f3
          repeat' walk_at "g"
          refine ifC (fun c3 => ?_) (fun c3 => ?_)
          · repeat' walk_at "g"
            walk_at "dw"
            rename_i H4 d4 xs4 f4 h4 st4 d40 d41
            repeat' walk_at "g"
            exact mkM _ _ _ _ _ (f03.trans f4) h4 st4 (by omega) (by omega) (by omega) (by omega) (by omega) (by omega) _ (by assumption)
          · repeat' walk_at "g"
            walk_at "dw"
            rename_i H4 d4 xs4 f4 h4 st4 d40 d41
            have f04 := f03.trans f4
            clear f03 f4
            repeat' walk_at "g"
            walk_at "dw"
            rename_i H5 d5 xs5 f5 h5 st5 d50 d51
            repeat' walk_at "g"
            exact mkX _ _ _ _ _ _ (f04.trans f5) h5 st5 (by omega) (by omega) (by omega) (by omega) (by omega) (by omega) (by omega) (by omega) _ (by assumption)
      | false =>
        repeat' walk_at "g"
        walk_at "nr"
        rename_i H2 d2 xs2 f2 h2 st2 d20 d21
        have f02 := f1.trans f2
        clear f1 f2
        repeat' walk_at "g"
        walk_at "nr"
        rename_i H3 d3 xs3 f3 h3 st3 d30 d31
        have f03 := f02.trans f3
        clear f02 f3
        repeat' walk_at "g"
        refine ifC (fun c3 => ?_) (fun c3 => ?_)
        · repeat' walk_at "g"
          walk_at "dw"
          rename_i H4 d4 xs4 f4 h4 st4 d40 d41
          repeat' walk_at "g"
          exact mkM _ _ _ _ _ (f03.trans f4) h4 st4 (by omega) (by omega) (by omega) (by omega) (by omega) (by omega) _ (by assumption)
        · repeat' walk_at "g"
          walk_at "nr"
          rename_i H4 d4 xs4 f4 h4 st4 d40 d41
          have f04 := f03.trans f4
          clear f03 f4
          repeat' walk_at "g"
          walk_at "nr"
          rename_i H5 d5 xs5 f5 h5 st5 d50 d51
          repeat' walk_at "g"
          exact mkX _ _ _ _ _ _ (f04.trans f5) h5 st5 (by omega) (by omega) (by omega) (by omega) (by omega) (by omega) (by omega) (by omega) _ (by assumption)
theorem ok_l_need_fits (T : TxtP P K mg) : FnOk P w K mg base CX0 1 T.a_l_need_fits T.d_l_need_fits ["_law_first", "_law_there", "_law_number", "_law_wide"] spNeedF := by
  refine T.F_l_need_fits.ok sc_l_need_fits (fun vs H Q E h => ?_) (fun cdv A outer s H vs Q E hr h => ?_)
  · obtain ⟨a, b, n, wd, rfl, _⟩ := h
    rfl
  · obtain ⟨a, b, n, wd, rfl, q⟩ := h
    refine ⟨_, (pss_one (ps_ret (pe_and (pe_cmpR op_le (pv 0) (pv 2) (nomark _)) (pe_one (pe_cmpR op_lt (pv 1) (pv 3) (nomark _)))))), ?_⟩
    have q : Q (.bl (decide (a ≤ n) && decide (b < wd))) H := q
    repeat' walk_at "g"
    refine ifAnd (fun q => ?_) q
    repeat' walk_at "g"
    exact q
theorem ok_l_rule_fits (T : TxtP P K mg) : FnOk P w K mg base CX0 2 T.a_l_rule_fits T.d_l_rule_fits ["_law_rule_here", "_law_number", "_law_wide"] (spRuleF2 K) := by
  refine T.F_l_rule_fits.ok sc_l_rule_fits (fun vs H Q E h => ?_) (fun cdv A outer s H vs Q E hr h => ?_)
  · obtain ⟨t, zs, n, wd, rfl, _⟩ := h
    rfl
  · obtain ⟨t, zs, n, wd, rfl, ht, rl, q⟩ := h
    refine ⟨_, (pss_cons (ps_if (pt_cmpR op_eq (pe_ix ix_tup (pv 0) pe_int (fun _ _ => rfl)) pe_str (nomark _)) (pss_one (ps_ret pe_bl)) pss_nil)
      (pss_cons (ps_if (pt_not (pt_val (pe_call (ok_l_need_fits T) (hr.mono (by decide)) (by rfl) T.g_l_need_fits T.F_l_need_fits.kp T.b_l_need_fits .nil pass0 (pa_cons (pe_ix ix_tup (pv 0) pe_int (fun _ _ => rfl)) (pa_cons (pe_ix ix_tup (pv 0) pe_int (fun _ _ => rfl)) (pa_cons (pv 1) (pa_cons (pv 2) pa_nil))))))) (pss_one (ps_ret pe_bl)) pss_nil)
      (pss_one (ps_ret (pe_or (pe_cmpR op_eq (pe_ix ix_tup (pv 0) pe_int (fun _ _ => rfl)) pe_str (nomark _)) (pe_one (pe_call (ok_l_need_fits T) (hr.mono (by decide)) (by rfl) T.g_l_need_fits T.F_l_need_fits.kp T.b_l_need_fits .nil pass0 (pa_cons (pe_ix ix_tup (pv 0) pe_int (fun _ _ => rfl)) (pa_cons (pe_ix ix_tup (pv 0) pe_int (fun _ _ => rfl)) (pa_cons (pv 1) (pa_cons (pv 2) pa_nil))))))))))), ?_⟩
    cases rl with
    | plain a h0 h1 =>
      repeat' walk_at "g"
      exact q
    | moved a b c h0 h1 h2 h3 h4 h5 =>
      have q : Q (.bl ((needB n wd [.int a, .int b]) && true)) H := q
      repeat' walk_at "g"
      refine ⟨_, _, _, _, rfl, _, rfl, ?_⟩
      generalize needB n wd [.int a, .int b] = g1 at q ⊢
      cases g1 with
      | false =>
        repeat' walk_at "g"
        exact q
      | true =>
        repeat' walk_at "g"
        exact q
    | mixed a b c d h0 h1 h2 h3 h4 h5 h6 h7 =>
      have q : Q (.bl ((needB n wd [.int a, .int b]) && ((needB n wd [.int c, .int d]) && true))) H := q
      repeat' walk_at "g"
      rw [Bool.and_true] at q
      refine ⟨_, _, _, _, rfl, _, rfl, ?_⟩
      generalize needB n wd [.int a, .int b] = g1 at q ⊢
      cases g1 with
      | false =>
        repeat' walk_at "g"
        exact q
      | true =>
        rw [Bool.true_and] at q
        repeat' walk_at "g"
        exact ⟨_, _, _, _, rfl, q⟩
end

local macro_rules | `(tactic| walk_at "dw") => `(tactic| (refine ⟨_, _, _, rfl, by walk_at "hp", by assumption, by first | decide | omega, by first | decide | omega, fun _ _ _ _ _ _ _ _ => ?_⟩))
local macro_rules | `(tactic| walk_at "nr") => `(tactic| (refine ⟨_, _, _, _, _, rfl, by walk_at "hp", by assumption, by first | decide | omega, by first | decide | omega, by first | decide | omega, fun _ _ _ _ _ _ _ _ => ?_⟩))
def spLLeaf : Sp := fun vs H Q _ => ∃ (p : Addr) (xs : List V) (n wd : Int), vs = [.ref p, .int n, .int wd] ∧ H p = some (.lst xs) ∧ IsW xs ∧ 0 ≤ n ∧ n ≤ 199 ∧ 1 ≤ wd ∧ wd ≤ 16 ∧
  ∀ H' t lf, Frm p H H' → t ≠ p → LeafRow H' t lf → lf.Is → Q (.ref t) H'
def spLeafF (K : PySem.W.Frag) : Sp := fun vs H Q _ => ∃ (t : Addr) (lf : LF) (n wd : Int), vs = [.ref t, .int n, .int wd] ∧ LeafRow H t lf ∧ lf.Is ∧ ∀ H', Same H H' → Q (.bl (fitsB n wd lf)) H'
theorem eqStr {K : PySem.W.Frag} {H : Hp} {Q : VK} {a b : Str} (ha : (PyData.canLay0 (.str a) && decide (PyData.depth (.str a) ≤ 64)) = true) (hb : (PyData.canLay0 (.str b) && decide (PyData.depth (.str b) ≤ 64)) = true) (k : Q (.bl (decide (a = b))) H) : rEqD K (.str a) (.str b) H Q := by
  refine ⟨.str a, .str b, .str _, .str _, ha, hb, ?_⟩
  rw [show PyData.eqv (.str a) (.str b) = decide (a = b) from by simp [PyData.eqv]; rfl]
  exact k
section
variable {P : Program} {w : World} {K : PySem.W.Frag} {mg : Str → Option Value} {base : Heap}
theorem ok_l_leaf_fits (T : TxtP P K mg) : FnOk P w K mg base CX0 3 T.a_l_leaf_fits T.d_l_leaf_fits ["_law_row", "_law_number", "_law_wide"] (spLeafF K) := by
  refine T.F_l_leaf_fits.ok sc_l_leaf_fits (fun vs H Q E h => ?_) (fun cdv A outer s H vs Q E hr h => ?_)
  · obtain ⟨t, lf, n, wd, rfl, _⟩ := h
    rfl
  · obtain ⟨t, lf, n, wd, rfl, row, is, q⟩ := h
    refine ⟨_, (pss_cons (ps_if (pt_cmpR (op_eqD hr.units) (pe_ix ix_tup (pv 0) pe_int (fun _ _ => rfl)) pe_str (nomark _)) (pss_one (ps_ret (pe_cmpR op_le (pe_ix ix_tup (pv 0) pe_int (fun _ _ => rfl)) (pv 1) (nomark _)))) pss_nil)
      (pss_cons (ps_if (pt_cmpR op_ne (pe_callB call_len_seq (by rfl) T.m_len (by decide +kernel) (pa_cons (pe_ix ix_tup (pv 0) pe_int (fun _ _ => rfl)) pa_nil)) (pv 2) (nomark _)) (pss_one (ps_ret pe_bl)) pss_nil)
      (pss_cons (ps_if (pt_cmpR (op_eqD hr.units) (pe_ix ix_tup (pv 0) pe_int (fun _ _ => rfl)) pe_str (nomark _)) (pss_one (ps_ret pe_bl)) pss_nil)
      (pss_one (ps_ret (pe_callB (cr_all rfl) (by rfl) T.m_all (by decide +kernel) (pa_cons (pe_lc (own := [("_law_rule_here", 3)]) (g := gName 3) (tt := tYes) (by rfl) sc_l_leaf_fits.nd (pi_tup (pe_ix ix_tup (pv 0) pe_int (fun _ _ => rfl))) (blkOk_by (own := [("_law_rule_here", 3)]) (N := N_l_leaf_fits) (sc := defScope s_l_leaf_fits) (by decide +kernel)) (fun _ _ _ _ _ => (pg_name (i := 3) sc_l_leaf_fits.nd rfl (Or.inl rfl))) (fun _ _ _ _ _ => pts_nil) (fun _ _ _ _ _ => (pe_call (ok_l_rule_fits T) (hr.mono (by decide)) (by rfl) T.g_l_rule_fits T.F_l_rule_fits.kp T.b_l_rule_fits .nil pass0 (pa_cons (pv 3) (pa_cons (pv 1) (pa_cons (pv 2) pa_nil)))))) pa_nil))))))), ?_⟩
    cases row with
    | @full u b s2 zs e hu =>
      repeat' walk_at "g"
      dsimp only [tC]
      refine eqStr ?_ ?_ ?_
      · decide +kernel
      · decide +kernel
      repeat' walk_at "g"
      by_cases hw : (zs.length : Int) = wd
      · refine ifF (by rw [hw, decide_eq_true rfl]; rfl) ?_
        repeat' walk_at "g"
        dsimp only [tC]
        refine eqStr ?_ ?_ ?_
        · decide +kernel
        · decide +kernel
        repeat' walk_at "g"
        have q1 := q H (Same.refl _)
        rw [show fitsB n wd (.full _ _ zs) = true from decide_eq_true hw] at q1
        exact q1
      · refine ifT (by rw [decide_eq_false (fun z => hw (V.int.inj z))]; rfl) ?_
        have q1 := q H (Same.refl _)
        rw [show fitsB n wd (.full _ _ zs) = false from decide_eq_false hw] at q1
        exact q1
    | @still b s2 k e =>
      repeat' walk_at "g"
      dsimp only [tC]
      refine eqStr ?_ ?_ ?_
      · decide +kernel
      · decide +kernel
      repeat' walk_at "g"
      exact q _ (Same.refl _)
    | @woven u b s2 zss e hu =>
      repeat' walk_at "g"
      dsimp only [tC]
      refine eqStr ?_ ?_ ?_
      · decide +kernel
      · decide +kernel
      repeat' walk_at "g"
      obtain ⟨ts, ht, pt⟩ := id hu
      have el := pt.length
      obtain ⟨_, _, _, _, _, zl, hz⟩ := is
      refine ⟨_, _, rfl, .inr (SqT.of ht), ?_⟩
      have ez : (((ts.map V.ref).length : Nat) : Int) = (zss.length : Int) := by rw [List.length_map, el]
      rw [ez]
      repeat' walk_at "g"
      by_cases hw : (zss.length : Int) = wd
      · refine ifF (by rw [hw, decide_eq_true rfl]; rfl) ?_
        repeat' walk_at "g"
        dsimp only [tC]
        refine eqStr ?_ ?_ ?_
        · decide +kernel
        · decide +kernel
        repeat' walk_at "g"
        refine ⟨⟨_, SqT.of ht⟩, fun D nD => ?_⟩
        refine lcT (K := K) (a := u) (xs := ts.map V.ref) (fun Hc i H' => Same H H' ∧ H' D = some (.lst (((zss.take i).map (fitB n wd)).map V.bl))) ?_ ?_ ?_ ?_
        · exact ⟨by walk_at "fr", upd_same⟩
        · rintro i H5 _ ⟨s5, _⟩
          exact SqT.of (s5 _ _ ht)
        · rintro i x H5 hi ⟨s5, hD⟩
          rw [List.getElem?_map] at hi
          obtain ⟨r, hr2, rfl⟩ := Option.map_eq_some_iff.mp hi
          have il : i < zss.length := by rw [← el]; exact (List.getElem?_eq_some_iff.mp hr2).1
          obtain ⟨zs, hzs⟩ : ∃ zs, zss[i]? = some zs := ⟨_, List.getElem?_eq_getElem il⟩
          obtain ⟨r2, hr3, fr⟩ := paired_get pt hzs
          rw [hr2] at hr3
          cases hr3
          refine ⟨rfl, ?_⟩
          repeat' walk_at "g"
          refine ⟨_, _, _, _, rfl, s5 _ _ fr, hz zs (List.mem_of_getElem? hzs), ?_⟩
          refine ⟨_, hD, sznl (by rw [List.length_map, List.length_map, List.length_take]; omega), Same.own s5 nD, ?_⟩
          rw [upd_same, List.take_add_one, hzs, List.map_append, List.map_append]; rfl
        · rintro H5 ⟨s5, hD⟩
          rw [List.length_map, el, List.take_length] at hD
          refine ⟨_, _, rfl, SqL.of hD, ?_⟩
          have q1 := q H5 s5
          rw [show fitsB n wd (.woven _ _ zss) = (zss.map (fitB n wd)).all id from by show (decide _ && zss.all (fitB n wd)) = _; rw [decide_eq_true hw, List.all_map]; rfl] at q1
          exact q1
      · refine ifT (by rw [decide_eq_false (fun z => hw (V.int.inj z))]; rfl) ?_
        have q1 := q H (Same.refl _)
        rw [show fitsB n wd (.woven _ _ zss) = false from by show (decide _ && _) = false; rw [decide_eq_false hw]; rfl] at q1
        exact q1
theorem ok_l_leaf (T : TxtP P K mg) : FnOk P w K mg base CX0 4 T.a_l_leaf T.d_l_leaf ["_law_well_here", "_law_number", "_law_wide"] spLLeaf := by
  refine T.F_l_leaf.ok sc_l_leaf (fun vs H Q E h => ?_) (fun cdv A outer s H vs Q E hr h => ?_)
  · obtain ⟨p, xs, n, wd, rfl, _⟩ := h
    rfl
  · obtain ⟨p, xs, n, wd, rfl, hp, hx, n0, n1, w0, w1, q⟩ := h
    refine ⟨_, (pss_cons (ps_set (i := 3) sc_l_leaf.nd rfl (Or.inl rfl) (pe_call (ok_l_draw T) (hr.mono (by decide)) (by rfl) T.g_l_draw T.F_l_draw.kp T.b_l_draw .nil pass0 (pa_cons (pv 0) (pa_cons pe_int pa_nil))))
      (pss_cons (ps_set (i := 4) sc_l_leaf.nd rfl (Or.inr rfl) (pe_call (ok_l_draw T) (hr.mono (by decide)) (by rfl) T.g_l_draw T.F_l_draw.kp T.b_l_draw .nil pass0 (pa_cons (pv 0) (pa_cons (pe_op op_mul pe_int (pv 2)) pa_nil))))
      (pss_cons (ps_set (i := 5) sc_l_leaf.nd rfl (Or.inl rfl) (pv 2))
      (pss_cons (ps_if (pt_cmpR op_eq (pe_call (ok_l_draw T) (hr.mono (by decide)) (by rfl) T.g_l_draw T.F_l_draw.kp T.b_l_draw .nil pass0 (pa_cons (pv 0) (pa_cons pe_int pa_nil))) pe_int (nomark _)) (pss_one (ps_set (i := 5) sc_l_leaf.nd rfl (Or.inl rfl) (pe_op op_add pe_int (pe_call (ok_l_draw T) (hr.mono (by decide)) (by rfl) T.g_l_draw T.F_l_draw.kp T.b_l_draw .nil pass0 (pa_cons (pv 0) (pa_cons pe_int pa_nil)))))) pss_nil)
      (pss_cons (ps_if (pt_cmpR op_eq (pv 3) pe_int (nomark _)) (pss_one (ps_ret (pe_tup (pa_cons pe_str (pa_cons pe_int (pa_cons pe_int (pa_cons (pe_callTy call_tuple_of (by rfl) T.m_tuple (by decide +kernel) (pa_cons (pe_lc (own := [("_law_k", 6)]) (g := gName 6) (tt := tYes) (by rfl) sc_l_leaf.nd (pi_range1 (by rfl) T.m_range (pa_cons (pv 5) pa_nil)) (blkOk_by (own := [("_law_k", 6)]) (N := N_l_leaf) (sc := defScope s_l_leaf) (by decide +kernel)) (fun _ _ _ _ _ => (pg_name (i := 6) sc_l_leaf.nd rfl (Or.inl rfl))) (fun _ _ _ _ _ => pts_nil) (fun _ _ _ _ _ => (pe_call (ok_l_draw T) (hr.mono (by decide)) (by rfl) T.g_l_draw T.F_l_draw.kp T.b_l_draw .nil pass0 (pa_cons (pv 0) (pa_cons pe_int pa_nil))))) pa_nil)) pa_nil))))))) pss_nil)
      (pss_cons (ps_if (pt_cmpR op_eq (pv 3) pe_int (nomark _)) (pss_one (ps_ret (pe_tup (pa_cons pe_str (pa_cons pe_int (pa_cons pe_int (pa_cons (pe_call (ok_l_near T) (hr.mono (by decide)) (by rfl) T.g_l_near T.F_l_near.kp T.b_l_near .nil pass0 (pa_cons (pv 0) (pa_cons pe_int (pa_cons pe_int (pa_cons (pv 1) pa_nil))))) pa_nil))))))) pss_nil)
      (pss_one (ps_ret (pe_tup (pa_cons pe_str (pa_cons pe_int (pa_cons pe_int (pa_cons (pe_callTy call_tuple_of (by rfl) T.m_tuple (by decide +kernel) (pa_cons (pe_lc (own := [("_law_k", 6)]) (g := gName 6) (tt := tYes) (by rfl) sc_l_leaf.nd (pi_range1 (by rfl) T.m_range (pa_cons (pv 5) pa_nil)) (blkOk_by (own := [("_law_k", 6)]) (N := N_l_leaf) (sc := defScope s_l_leaf) (by decide +kernel)) (fun _ _ _ _ _ => (pg_name (i := 6) sc_l_leaf.nd rfl (Or.inl rfl))) (fun _ _ _ _ _ => pts_nil) (fun _ _ _ _ _ => (pe_call (ok_l_rule T) (hr.mono (by decide)) (by rfl) T.g_l_rule T.F_l_rule.kp T.b_l_rule .nil pass0 (pa_cons (pv 0) (pa_cons (pv 1) (pa_cons (pv 2) (pa_cons (pe_cmpR op_ne (pv 6) (pv 4) (nomark _)) pa_nil))))))) pa_nil)) pa_nil))))))))))))), ?_⟩
    repeat' walk_at "g"
    walk_at "dw"
    rename_i H1 d1 xs1 f1 h1 st1 d10 d11
    repeat' walk_at "g"
    walk_at "dw"
    rename_i H2 d2 xs2 f2 h2 st2 d20 d21
    have f02 := f1.trans f2
    clear f1 f2
    repeat' walk_at "g"
    walk_at "dw"
    rename_i H3 d3 xs3 f3 h3 st3 d30 d31
    have f03 := f02.trans f3
    clear f02 f3
    repeat' walk_at "g"
    generalize hR : (tSeq _ _ _ : L2.St → Hp → Prop) = R
    have rest : ∀ (c : Int) (xs3 : List V) (H3 : Hp), Frm p H H3 → H3 p = some (.lst xs3) → IsW xs3 → 1 ≤ c → c ≤ 16 → R [some (.ref p), some (.int n), some (.int wd), some (.int d1), some (.int d2), some (.int c), none] H3 := by
      subst hR
      clear f03 h3 st3 h1 h2 d30 d31
      intro c xs3 H3 f03 h3 st3 c0 c1
      repeat' walk_at "g"
      refine ifC (fun z => ?_) (fun z => ?_)
      · repeat' walk_at "g"
        refine ⟨by omega, by omega, fun D nD => ?_⟩
        have nDp : D ≠ p := new_ne nD h3
        have nDH : H D = none := f03.none nDp nD
        refine lc_range (lo := 0) (n := c.toNat) (fun i H' => ∃ (ns : List Int) (xs' : List V), Frm p H H' ∧ H' p = some (.lst xs') ∧ IsW xs' ∧ H' D = some (.lst (ns.map V.int)) ∧ ns.length = i ∧ ∀ n ∈ ns, 0 ≤ n ∧ n ≤ 255) ?_ ?_ ?_
        · exact ⟨[], _, f03.new nD, upd_old nD h3, st3, upd_same, rfl, fun n hn => nomatch hn⟩
        · rintro i H4 hi ⟨ns, xs4, f4, h4, st4, hD, hl, hn⟩
          refine ⟨rfl, ?_⟩
          repeat' walk_at "g"
          walk_at "dw"
          rename_i H5 d5 xs5 f5 h5 st5 d50 d51
          have hD5 := f5.get nDp hD
          refine ⟨_, hD5, sznl (by rw [List.length_map]; omega), ns ++ [d5], xs5, (f4.trans f5).own nDH, upd_oth nDp.symm h5, st5, ?_, by rw [List.length_append, hl]; rfl, ?_⟩
          · rw [upd_same, List.map_append]; rfl
          · intro m hm
            rcases List.mem_append.mp hm with hm | hm
            · exact hn m hm
            · rw [List.mem_singleton.mp hm]
              exact ⟨d50, by omega⟩
        · rintro H4 ⟨ns, xs4, f4, h4, st4, hD, hl, hn⟩
          refine ⟨_, _, rfl, .inl ⟨SqL.of hD, fun u nu => ⟨Nat.le_of_ble_eq_true rfl, fun t nt => ?_⟩⟩⟩
          refine q _ t (.full 0 1 (ns.map V.int)) ((f4.new nu).new nt) (new_ne nt (upd_old nu h4)) (.full upd_same (upd_old nt upd_same)) ⟨by decide, by decide, by decide, by decide, by rw [List.length_map]; omega, by rw [List.length_map]; omega, fun z hz => ?_⟩
          obtain ⟨m, hm, rfl⟩ := List.mem_map.mp hz
          exact int_inB (hn m hm).1 (hn m hm).2
      · repeat' walk_at "g"
        refine ifC (fun z => ?_) (fun z => ?_)
        · repeat' walk_at "g"
          walk_at "nr"
          rename_i H4 d4 xs4 f4 h4 st4 d40 d41
          repeat' walk_at "g"
          rename_i t nt
          exact q _ _ _ ((f03.trans f4).new nt) (new_ne nt h4) (.still upd_same) ⟨by decide, by decide, by decide, by decide, d40, d41⟩
        · repeat' walk_at "g"
          refine ⟨by omega, by omega, fun D nD => ?_⟩
          have nDp : D ≠ p := new_ne nD h3
          have nDH : H D = none := f03.none nDp nD
          refine lc_range (lo := 0) (n := c.toNat) (fun i H' => ∃ (ts : List Addr) (zss : List (List V)) (xs' : List V), Frm p H H' ∧ H' p = some (.lst xs') ∧ IsW xs' ∧ H' D = some (.lst (ts.map V.ref)) ∧ zss.length = i ∧ Paired (fun u zs => H' u = some (.tup zs)) ts zss ∧ ∀ zs ∈ zss, RuleL zs) ?_ ?_ ?_
          · exact ⟨[], [], _, f03.new nD, upd_old nD h3, st3, upd_same, rfl, .nil, fun n hn => nomatch hn⟩
          · rintro i H4 hi ⟨ts, zss, xs4, f4, h4, st4, hD, hl, pt, hz⟩
            have el := pt.length
            refine ⟨rfl, ?_⟩
            repeat' walk_at "g"
            refine ⟨_, _, _, _, _, rfl, h4, st4, n0, n1, w0, w1, fun H5 t xs5 zs f5 h5 st5 ntp ht rl => ?_⟩
            have hD5 := f5.get nDp hD
            refine ⟨_, hD5, sznl (by rw [List.length_map]; omega), ts ++ [t], zss ++ [zs], xs5, (f4.trans f5).own nDH, upd_oth nDp.symm h5, st5, ?_, by rw [List.length_append, hl]; rfl, ?_, ?_⟩
            · rw [upd_same, List.map_append]; rfl
            · exact Paired.snoc (Paired.mono (fun a b (h : H4 a = some (.tup b)) => upd_oth (ne_of h hD (fun z => nomatch z)) (f5.get (ne_of h h4 (fun z => nomatch z)) h)) pt) (upd_oth (ne_of ht hD5 (fun z => nomatch z)) ht)
            · intro m hm
              rcases List.mem_append.mp hm with hm | hm
              · exact hz m hm
              · rw [List.mem_singleton.mp hm]
                exact rl
          · rintro H4 ⟨ts, zss, xs4, f4, h4, st4, hD, hl, pt, hz⟩
            refine ⟨_, _, rfl, .inl ⟨SqL.of hD, fun u nu => ⟨Nat.le_of_ble_eq_true rfl, fun t nt => ?_⟩⟩⟩
            exact q _ t (.woven 5 2 zss) ((f4.new nu).new nt) (new_ne nt (upd_old nu h4)) (.woven upd_same ⟨ts, upd_old nt upd_same, Paired.mono (fun a b h => upd_old nt (upd_old nu h)) pt⟩) ⟨by decide, by decide, by decide, by decide, by omega, by omega, hz⟩
    refine ifC (fun z => ?_) (fun z => ?_)
    · repeat' walk_at "g"
      walk_at "dw"
      rename_i H4 d4 xs4 f4 h4 st4 d40 d41
      repeat' walk_at "g"
      exact rest _ _ _ (f03.trans f4) h4 st4 (by omega) (by omega)
    · repeat' walk_at "g"
      exact rest _ _ _ f03 h3 st3 w0 w1
end

theorem eqv_str (s : Str) : PyData.eqv (.str s) (.str s) = true := by simp [PyData.eqv]
theorem eqv_int (i : Int) : PyData.eqv (.int i) (.int i) = true := by simp [PyData.eqv]
theorem eqvAll_self : ∀ {ds : List PyData}, (∀ d ∈ ds, PyData.eqv d d = true) → PyData.eqvAll ds ds = true
  | [], _ => by rw [PyData.eqvAll]
  | d :: ds, h => by
    rw [PyData.eqvAll, h d (List.mem_cons_self ..), eqvAll_self fun x hx => h x (List.mem_cons_of_mem _ hx)]
    rfl
theorem layAll_of : ∀ {ds : List PyData}, (∀ d ∈ ds, PyData.canLay0 d = true) → PyData.canLayAll0 ds = true
  | [], _ => by simp [PyData.canLayAll0]
  | d :: ds, h => by
    simp only [PyData.canLayAll0, h d (List.mem_cons_self ..), layAll_of fun x hx => h x (List.mem_cons_of_mem _ hx), Bool.and_self]
theorem depAll_of {k : Nat} : ∀ {ds : List PyData}, (∀ d ∈ ds, PyData.depth d ≤ k) → PyData.depthAll ds ≤ k
  | [], _ => by simp [PyData.depthAll]
  | d :: ds, h => by
    have h1 := h d (List.mem_cons_self ..)
    have h2 := depAll_of fun x hx => h x (List.mem_cons_of_mem _ hx)
    simp only [PyData.depthAll]
    omega
def Fine (k : Nat) (d : PyData) : Prop := PyData.eqv d d = true ∧ PyData.canLay0 d = true ∧ PyData.depth d ≤ k
theorem Fine.int {k : Nat} (i : Int) : Fine k (.int i) := ⟨eqv_int i, by simp [PyData.canLay0], by simp [PyData.depth]⟩
theorem Fine.str {k : Nat} {s : Str} (h : PyData.canLay0 (.str s) = true) : Fine k (.str s) := ⟨eqv_str s, h, by simp [PyData.depth]⟩
theorem Fine.tup {k : Nat} {ds : List PyData} (h : ∀ d ∈ ds, Fine k d) : Fine (k + 1) (.tuple ds) := by
  refine ⟨?_, ?_, ?_⟩
  · rw [PyData.eqv]; exact eqvAll_self fun d m => (h d m).1
  · simp only [PyData.canLay0]; exact layAll_of fun d m => (h d m).2.1
  · have := depAll_of fun d m => (h d m).2.2
    simp only [PyData.depth]
    omega
theorem dpRules {K : PySem.W.Frag} {H : Hp} : ∀ {ts us : List Addr} {zss : List (List V)}, Paired (fun u zs => H u = some (.tup zs)) ts zss → Paired (fun u zs => H u = some (.tup zs)) us zss → (∀ zs ∈ zss, RuleL zs) → ∃ ds, DpAll K H (ts.map V.ref) ds ∧ DpAll K H (us.map V.ref) ds ∧ ∀ d ∈ ds, Fine 1 d
  | _, _, _, .nil, .nil, _ => ⟨[], .nil, .nil, fun d m => nomatch m⟩
  | _, _, _, .cons (b := zs) f1 r1, .cons f2 r2, h => by
    obtain ⟨ds, a1, a2, fd⟩ := dpRules r1 r2 fun z m => h z (List.mem_cons_of_mem _ m)
    obtain ⟨s, ns, rfl, hs⟩ := (h zs (List.mem_cons_self ..)).data
    refine ⟨.tuple (.str s :: ns.map PyData.int) :: ds, .cons (.tup (SqT.of f1) (.cons (.str _) (dpInts ns))) a1, .cons (.tup (SqT.of f2) (.cons (.str _) (dpInts ns))) a2, fun d m => ?_⟩
    rcases List.mem_cons.mp m with rfl | m
    · refine Fine.tup fun d m => ?_
      rcases List.mem_cons.mp m with rfl | m
      · exact .str hs
      · obtain ⟨i, _, rfl⟩ := List.mem_map.mp m
        exact .int i
    · exact fd d m
theorem allInts : ∀ {zs : List V}, (∀ z ∈ zs, inB 0 255 z = true) → ∃ ns : List Int, zs = ns.map V.int
  | [], _ => ⟨[], rfl⟩
  | z :: zs, h => by
    obtain ⟨ns, rfl⟩ := allInts fun x m => h x (List.mem_cons_of_mem _ m)
    obtain ⟨n, rfl, _⟩ := inB_int (h z (List.mem_cons_self ..))
    exact ⟨n :: ns, rfl⟩
theorem eqFine {K : PySem.W.Frag} {H : Hp} {Q : VK} {p q : Addr} {ds : List PyData} {xs ys : List V} {k : Nat} (f : Fine k (.tuple ds)) (hk : k ≤ 64) (h1 : SqT K H p xs) (h2 : SqT K H q ys) (d1 : DpAll K H xs ds) (d2 : DpAll K H ys ds) (r : Q (.bl true) H) : rEqD K (.ref p) (.ref q) H Q := by
  have sh : (PyData.canLay0 (.tuple ds) && decide (PyData.depth (.tuple ds) ≤ 64)) = true := by
    rw [f.2.1, decide_eq_true (Nat.le_trans f.2.2 hk)]; rfl
  refine ⟨.tuple ds, .tuple ds, .tup h1 d1, .tup h2 d2, ?_, ?_, ?_⟩
  · simpa [PyData.canLay0, PyData.depth, SeqAt.shaped] using sh
  · simpa [PyData.canLay0, PyData.depth, SeqAt.shaped] using sh
  · rw [f.1]; exact r
theorem leafEq {K : PySem.W.Frag} {H : Hp} {Q : VK} {p q : Addr} {lf : LF} (h1 : LeafRow H p lf) (h2 : LeafRow H q lf) (is : lf.Is) (r : Q (.bl true) H) : rEqD K (.ref p) (.ref q) H Q := by
  cases h1 with
  | @full u b s zs e hu =>
    cases h2 with
    | @full v _ _ _ e2 hv =>
      obtain ⟨ns, rfl⟩ := allInts is.2.2.2.2.2.2
      refine eqFine (ds := [.str "full", .int b, .int s, .tuple (ns.map PyData.int)]) (k := 3) (Fine.tup fun d m => ?_) (by decide) (SqT.of e) (SqT.of e2) (.cons (.str _) (.cons (.int _) (.cons (.int _) (.cons (.tup (SqT.of hu) (dpInts ns)) .nil)))) (.cons (.str _) (.cons (.int _) (.cons (.int _) (.cons (.tup (SqT.of hv) (dpInts ns)) .nil)))) r
      simp only [List.mem_cons, List.not_mem_nil, or_false] at m
      rcases m with rfl | rfl | rfl | rfl
      · exact .str (by decide +kernel)
      · exact .int b
      · exact .int s
      · refine Fine.tup fun d m => ?_
        obtain ⟨i, _, rfl⟩ := List.mem_map.mp m
        exact .int i
  | @still b s k e =>
    cases h2 with
    | still e2 =>
      refine eqFine (ds := [.str "still", .int b, .int s, .int k]) (k := 3) (Fine.tup fun d m => ?_) (by decide) (SqT.of e) (SqT.of e2) (.cons (.str _) (.cons (.int _) (.cons (.int _) (.cons (.int _) .nil)))) (.cons (.str _) (.cons (.int _) (.cons (.int _) (.cons (.int _) .nil)))) r
      simp only [List.mem_cons, List.not_mem_nil, or_false] at m
      rcases m with rfl | rfl | rfl | rfl
      · exact .str (by decide +kernel)
      · exact .int b
      · exact .int s
      · exact .int k
  | @woven u b s zss e hu =>
    cases h2 with
    | @woven v _ _ _ e2 hv =>
      obtain ⟨ts, ht, pt⟩ := hu
      obtain ⟨us, hu, pu⟩ := hv
      obtain ⟨ds, a1, a2, fd⟩ := dpRules (K := K) pt pu is.2.2.2.2.2.2
      refine eqFine (ds := [.str "woven", .int b, .int s, .tuple ds]) (k := 3) (Fine.tup fun d m => ?_) (by decide) (SqT.of e) (SqT.of e2) (.cons (.str _) (.cons (.int _) (.cons (.int _) (.cons (.tup (SqT.of ht) a1) .nil)))) (.cons (.str _) (.cons (.int _) (.cons (.int _) (.cons (.tup (SqT.of hu) a2) .nil)))) r
      simp only [List.mem_cons, List.not_mem_nil, or_false] at m
      rcases m with rfl | rfl | rfl | rfl
      · exact .str (by decide +kernel)
      · exact .int b
      · exact .int s
      · exact Fine.tup fd

local macro_rules | `(tactic| walk_at "dw") => `(tactic| (refine ⟨_, _, _, rfl, by walk_at "hp", by assumption, by first | decide | omega, by first | decide | omega, fun _ _ _ _ _ _ _ _ => ?_⟩))
def spLaw (K : PySem.W.Frag) : Sp := fun vs H Q _ => ∃ (a : Addr) (ns : List Int), vs = [.ref a] ∧ SqL K H a (ns.map V.int) ∧ ns.length ≤ 63 ∧ ∀ H', Q (.bl true) H'
theorem forT {K : PySem.W.Frag} {a : Addr} {xs : List V} {g : TG} {tb : TS} {D : Ends} {σ : L2.St} {H : Hp} (Pv : Hp → Nat → L2.St → Hp → Prop) (h0 : Pv H 0 σ H) (hl : ∀ i σ H', i ≤ xs.length → Pv H i σ H' → SqT K H' a xs)
    (hs : ∀ i x σ H', xs[i]? = some x → Pv H i σ H' → g x σ H' fun σ2 H2 => tb { D with nx := Pv H (i + 1), ct := Pv H (i + 1), bk := D.nx } σ2 H2) (hd : ∀ σ H', Pv H xs.length σ H' → D.nx σ H') :
    ∃ W : Nat → Nat → L2.St → Hp → Prop, (∃ m, W 0 m σ H) ∧ ∀ i m σ H, W i m σ H →
      ((Itt K a).stop i H ∧ D.nx σ H) ∨ ((Itt K a).go i H ∧ ∃ N : L2.St → Hp → Prop, (∀ σ' H', N σ' H' → ∃ m', m' < m ∧ W (i + 1) m' σ' H') ∧ ∀ x H', (Itt K a).yld i H x H' → g x σ H' fun σ2 H2 => tb { D with nx := N, ct := N, bk := D.nx } σ2 H2) := for_tup (Pv H) h0 hl hs hd
section
variable {P : Program} {w : World} {K : PySem.W.Frag} {mg : Str → Option Value} {base : Heap}
theorem ok_law (T : TxtP P K mg) : FnOk P w K mg base CX0 9 T.a_law T.d_law ["_law_script"] (spLaw K) := by
  refine T.F_law.ok sc_law (fun vs H Q E h => ?_) (fun cdv A outer s H vs Q E hr h => ?_)
  · obtain ⟨a, ns, rfl, _⟩ := h
    rfl
  · obtain ⟨a, ns, rfl, hS, hlen, q⟩ := h
    refine ⟨_, (pss_cons (ps_set (i := 1) sc_law.nd rfl (Or.inl rfl) (pe_call (ok_l_well T) (hr.mono (by decide)) (by rfl) T.g_l_well T.F_l_well.kp T.b_l_well .nil pass0 (pa_cons (pv 0) (pa_cons pe_int pa_nil))))
      (pss_cons (ps_set (i := 2) sc_law.nd rfl (Or.inl rfl) (pe_ix ix_list (pe_lst (pa_cons pe_int (pa_cons pe_int (pa_cons pe_int (pa_cons (pe_call (ok_l_draw T) (hr.mono (by decide)) (by rfl) T.g_l_draw T.F_l_draw.kp T.b_l_draw .nil pass0 (pa_cons (pv 1) (pa_cons pe_int pa_nil))) (pa_cons (pe_call (ok_l_draw T) (hr.mono (by decide)) (by rfl) T.g_l_draw T.F_l_draw.kp T.b_l_draw .nil pass0 (pa_cons (pv 1) (pa_cons pe_int pa_nil))) pa_nil)))))) (pe_call (ok_l_draw T) (hr.mono (by decide)) (by rfl) T.g_l_draw T.F_l_draw.kp T.b_l_draw .nil pass0 (pa_cons (pv 1) (pa_cons pe_int pa_nil))) (fun _ _ => rfl)))
      (pss_cons (ps_set (i := 3) sc_law.nd rfl (Or.inl rfl) (pe_ix ix_list (pe_lst (pa_cons pe_int (pa_cons pe_int (pa_cons (pe_op op_add pe_int (pe_call (ok_l_draw T) (hr.mono (by decide)) (by rfl) T.g_l_draw T.F_l_draw.kp T.b_l_draw .nil pass0 (pa_cons (pv 1) (pa_cons pe_int pa_nil)))) (pa_cons (pe_op op_add pe_int (pe_call (ok_l_draw T) (hr.mono (by decide)) (by rfl) T.g_l_draw T.F_l_draw.kp T.b_l_draw .nil pass0 (pa_cons (pv 1) (pa_cons pe_int pa_nil)))) pa_nil))))) (pe_call (ok_l_draw T) (hr.mono (by decide)) (by rfl) T.g_l_draw T.F_l_draw.kp T.b_l_draw .nil pass0 (pa_cons (pv 1) (pa_cons pe_int pa_nil))) (fun _ _ => rfl)))
      (pss_cons (ps_set (i := 4) sc_law.nd rfl (Or.inl rfl) (pe_call (ok_l_leaf T) (hr.mono (by decide)) (by rfl) T.g_l_leaf T.F_l_leaf.kp T.b_l_leaf .nil pass0 (pa_cons (pe_call (ok_l_well T) (hr.mono (by decide)) (by rfl) T.g_l_well T.F_l_well.kp T.b_l_well .nil pass0 (pa_cons (pv 0) (pa_cons pe_int pa_nil))) (pa_cons (pv 2) (pa_cons (pv 3) pa_nil)))))
      (pss_cons (ps_set (i := 5) sc_law.nd rfl (Or.inl rfl) (pe_call (ok_leaf_of T) (hr.mono (by decide)) (by rfl) T.g_leaf_of T.F_leaf_of.kp T.b_leaf_of .nil passL (pa_cons (pv 4) pa_nil)))
      (pss_cons (ps_for PassesOwn.never rfl (pi_tup (pe_tup (pa_cons (pv 2) (pa_cons (pe_callB (call_max2 rfl) (by rfl) T.m_max (by decide +kernel) (pa_cons pe_int (pa_cons (pe_op op_sub (pv 2) pe_int) pa_nil))) (pa_cons (pe_callB (call_min2 rfl) (by rfl) T.m_min (by decide +kernel) (pa_cons pe_int (pa_cons (pe_op op_add (pv 2) pe_int) pa_nil))) (pa_cons pe_int (pa_cons pe_int pa_nil))))))) (pg_name (i := 6) sc_law.nd rfl (Or.inl rfl))
        (pss_one (ps_for PassesOwn.never rfl (pi_tup (pe_tup (pa_cons (pv 3) (pa_cons (pe_callB (call_max2 rfl) (by rfl) T.m_max (by decide +kernel) (pa_cons pe_int (pa_cons (pe_op op_sub (pv 3) pe_int) pa_nil))) (pa_cons (pe_callB (call_min2 rfl) (by rfl) T.m_min (by decide +kernel) (pa_cons pe_int (pa_cons (pe_op op_add (pv 3) pe_int) pa_nil))) pa_nil))))) (pg_name (i := 7) sc_law.nd rfl (Or.inl rfl))
        (pss_cons (ps_set (i := 8) sc_law.nd rfl (Or.inl rfl) (pe_call (ok_fits T) (hr.mono (by decide)) (by rfl) T.g_fits T.F_fits.kp T.b_fits .nil pass0 (pa_cons (pv 5) (pa_cons (pv 6) (pa_cons (pv 7) pa_nil)))))
      (pss_one (ps_if (PW.pt (pw_or (pt_not (pt_val (pe_callB call_isi (by rfl) T.m_isinstance (by decide +kernel) (pa_cons (pv 8) (pa_cons (pe_bltn (v := .ty "bool") (by rfl) T.m_bool (by decide +kernel) rfl) pa_nil))))) (pw_or1 (pt_cmpR op_ne (pv 8) (pe_call (ok_l_leaf_fits T) (hr.mono (by decide)) (by rfl) T.g_l_leaf_fits T.F_l_leaf_fits.kp T.b_l_leaf_fits .nil pass0 (pa_cons (pv 4) (pa_cons (pv 6) (pa_cons (pv 7) pa_nil)))) (nomark _))))) (pss_one (ps_ret pe_bl)) pss_nil))))))
      (pss_one (ps_ret (pe_cmpR (op_eqD hr.units) (pe_either (pe_meth0 (pv 5) T.cl_Full T.mt_Full_told (ok_Full_told T) (hr.mono (by decide)) T.b_Full_told .nil pass0) (pe_either (pe_meth0 (pv 5) T.cl_Still T.mt_Still_told (ok_Still_told T) (hr.mono (by decide)) T.b_Still_told .nil pass0) (pe_meth0 (pv 5) T.cl_Woven T.mt_Woven_told (ok_Woven_told T) (hr.mono (by decide)) T.b_Woven_told .nil pass0))) (pv 4) (nomark _)))))))))), ?_⟩
    refine ⟨_, rfl, _, _, _, rfl, hS, by decide, by decide, fun H1 p x0 y0 z0 s1 np hp1 => ?_⟩
    have st1 : IsW [.int x0, .int y0, .int z0] := ⟨_, _, _, rfl⟩
    repeat' walk_at "g"
    walk_at "dw"
    rename_i H2 d2 xs2 f2 h2 st2 d20 d21
    repeat' walk_at "g"
    walk_at "dw"
    rename_i H3 d3 xs3 f3 h3 st3 d30 d31
    repeat' walk_at "g"
    rename_i l3 nl3
    have f03 := (f2.trans f3).new (o := .lst [.int 0, .int 1, .int 199, .int d2, .int d3]) nl3
    have nlp : l3 ≠ p := new_ne nl3 h3
    walk_at "dw"
    rename_i H4 d4 xs4 f4 h4 st4 d40 d41
    have hl4 : H4 l3 = some (.lst [.int 0, .int 1, .int 199, .int d2, .int d3]) := f4.get nlp upd_same
    have f04 := f03.trans f4
    clear f03 f2 f3 f4
    refine ixP (fun v => ∃ i, v = .int i ∧ 0 ≤ i ∧ i ≤ 199) (SqL.of hl4) d40 d41 (fun v hv => ?_) (fun v hv => ?_)
    · simp only [List.mem_cons, List.not_mem_nil, or_false] at hv
      rcases hv with rfl | rfl | rfl | rfl | rfl
      all_goals exact ⟨_, rfl, by omega, by omega⟩
    obtain ⟨n, rfl, n0, n1⟩ := hv
    clear hl4 nl3 nlp h2 st2 h3 st3 d20 d21 d30 d31 d40 d41
    repeat' walk_at "g"
    walk_at "dw"
    rename_i H5 d5 xs5 f5 h5 st5 d50 d51
    repeat' walk_at "g"
    walk_at "dw"
    rename_i H6 d6 xs6 f6 h6 st6 d60 d61
    repeat' walk_at "g"
    rename_i l6 nl6
    have f06 := ((f04.trans f5).trans f6).new (o := .lst [.int 1, .int 16, .int (1 + d5), .int (1 + d6)]) nl6
    have nlp : l6 ≠ p := new_ne nl6 h6
    walk_at "dw"
    rename_i H7 d7 xs7 f7 h7 st7 d70 d71
    have hl7 : H7 l6 = some (.lst [.int 1, .int 16, .int (1 + d5), .int (1 + d6)]) := f7.get nlp upd_same
    have f07 := f06.trans f7
    clear f04 f06 f5 f6 f7
    refine ixP (fun v => ∃ i, v = .int i ∧ 1 ≤ i ∧ i ≤ 16) (SqL.of hl7) d70 d71 (fun v hv => ?_) (fun v hv => ?_)
    · simp only [List.mem_cons, List.not_mem_nil, or_false] at hv
      rcases hv with rfl | rfl | rfl | rfl
      all_goals exact ⟨_, rfl, by omega, by omega⟩
    obtain ⟨wd, rfl, w0, w1⟩ := hv
    clear hl7 nl6 nlp h4 st4 h5 st5 h6 st6 d50 d51 d60 d61 d70 d71
    have s07 : Same H H7 := Same.byFrm s1 f07 np
    have hS7 := Same.seq s07 hS
    clear f07 s1 hp1 st1 s07 hS np
    repeat' walk_at "g"
    refine ⟨_, _, _, rfl, hS7, by decide, by decide, fun H8 p2 x1 y1 z1 s8 np2 hp2 => ?_⟩
    repeat' walk_at "g"
    refine ⟨_, _, _, _, rfl, hp2, ⟨_, _, _, rfl⟩, n0, n1, w0, w1, fun H9 t lf f9 ntp row is => ?_⟩
    repeat' walk_at "g"
    refine ⟨_, _, rfl, row, is, fun HA o sA no atA => ?_⟩
    have rowA := row.keep sA
    clear f9 ntp row sA no hp2 np2 s8 h7 st7 hS7
    repeat' walk_at "g"
    refine ⟨_, _, rfl, ?_⟩
    repeat' walk_at "g"
    refine ⟨_, _, rfl, ?_⟩
    generalize (if n - 1 > 0 then n - 1 else 0) = m1
    generalize (if n + 1 < 199 then n + 1 else 199) = m2
    repeat' walk_at "g"
    rename_i l nl
    have hlB : upd HA l (.tup [.int n, .int m1, .int m2, .int 0, .int 199]) l = some (.tup [.int n, .int m1, .int m2, .int 0, .int 199]) := upd_same
    have sB : Same HA (upd HA l (.tup [.int n, .int m1, .int m2, .int 0, .int 199])) := Same.new (Same.refl _) nl
    have rowB := rowA.keep sB
    have atB := atA.keep sB
    generalize upd HA l (.tup [.int n, .int m1, .int m2, .int 0, .int 199]) = HB at hlB sB rowB atB ⊢
    clear rowA atA sB nl
    refine ⟨⟨_, SqT.of hlB⟩, ?_⟩
    refine forT (K := K) (a := l) (xs := [.int n, .int m1, .int m2, .int 0, .int 199]) (fun _ i σ H' => Same HB H' ∧ ∃ y6 y7 y8, σ = [some (.ref a), some (.ref p), some (.int n), some (.int wd), some (.ref t), some (.ref o), y6, y7, y8]) ⟨Same.refl _, _, _, _, rfl⟩ (fun i σ H' _ ⟨s, _⟩ => SqT.of (s _ _ hlB)) ?_ ?_
    · rintro i x σ HC hx ⟨sC, y6, y7, y8, rfl⟩
      obtain ⟨m, rfl⟩ : ∃ m, x = .int m := by
        have hm := List.mem_of_getElem? hx
        simp only [List.mem_cons, List.not_mem_nil, or_false] at hm
        rcases hm with rfl | rfl | rfl | rfl | rfl
        all_goals exact ⟨_, rfl⟩
      repeat' walk_at "g"
      refine ⟨_, _, rfl, ?_⟩
      repeat' walk_at "g"
      refine ⟨_, _, rfl, ?_⟩
      generalize (if wd - 1 > 1 then wd - 1 else 1) = k1
      generalize (if wd + 1 < 16 then wd + 1 else 16) = k2
      repeat' walk_at "g"
      rename_i l2 nl2
      have hl2 : upd HC l2 (.tup [.int wd, .int k1, .int k2]) l2 = some (.tup [.int wd, .int k1, .int k2]) := upd_same
      have sD : Same HB (upd HC l2 (.tup [.int wd, .int k1, .int k2])) := Same.new sC nl2
      generalize upd HC l2 (.tup [.int wd, .int k1, .int k2]) = HD at hl2 sD ⊢
      clear nl2 sC
      refine ⟨⟨_, SqT.of hl2⟩, ?_⟩
      refine forT (K := K) (a := l2) (xs := [.int wd, .int k1, .int k2]) (fun _ i σ H' => Same HD H' ∧ ∃ y7 y8, σ = [some (.ref a), some (.ref p), some (.int n), some (.int wd), some (.ref t), some (.ref o), some (.int m), y7, y8]) ⟨Same.refl _, _, _, rfl⟩ (fun i σ H' _ ⟨s, _⟩ => SqT.of (s _ _ hl2)) ?_ ?_
      · rintro j x σ HE hx2 ⟨sE, y7, y8, rfl⟩
        obtain ⟨k, rfl⟩ : ∃ k, x = .int k := by
          have hm := List.mem_of_getElem? hx2
          simp only [List.mem_cons, List.not_mem_nil, or_false] at hm
          rcases hm with rfl | rfl | rfl
          all_goals exact ⟨_, rfl⟩
        have sBE := Same.trans sD sE
        repeat' walk_at "g"
        refine ⟨_, _, _, _, rfl, atB.keep sBE, is.good, fun HF sF => ?_⟩
        repeat' walk_at "g"
        refine ⟨_, _, _, _, true, rfl, .ty _, .base (.bl _), kit_ty (by decide +kernel), ?_⟩
        repeat' walk_at "g"
        refine ⟨_, _, _, _, rfl, rowB.keep (Same.trans sBE sF), is, fun HG sG => ?_⟩
        repeat' walk_at "g"
        refine ifF (by rw [decide_eq_true rfl]; rfl) ?_
        exact ⟨Same.trans sE (Same.trans sF sG), _, _, rfl⟩
      · rintro σ HE ⟨sE, y7, y8, rfl⟩
        exact ⟨Same.trans sD sE, _, _, _, rfl⟩
    · rintro σ HC ⟨sC, y6, y7, y8, rfl⟩
      have rowC := rowB.keep sC
      have atC := atB.keep sC
      cases atC with
      | full e ht =>
        refine .inl ⟨_, rfl, _, _, _, rfl, e, rfl, _, _, _, _, _, _, rfl, e, ht, fun r nr => ?_⟩
        refine ⟨_, rfl, ?_⟩
        exact leafEq (.full upd_same (upd_old nr ht)) (rowC.keep (Same.new (Same.refl _) nr)) is (q _)
      | still e =>
        refine .inr (.inl ⟨_, rfl, _, _, _, rfl, e, rfl, _, _, _, _, _, rfl, e, fun r nr => ?_⟩)
        refine ⟨_, rfl, ?_⟩
        exact leafEq (.still upd_same) (rowC.keep (Same.new (Same.refl _) nr)) is (q _)
      | woven e hw =>
        refine .inr (.inr ⟨_, rfl, _, _, _, rfl, e, rfl, _, _, _, _, _, _, rfl, e, hw, is.2.2.2.2.2.1, fun HD r u sD hr2 hu => ?_⟩)
        refine ⟨_, rfl, ?_⟩
        exact leafEq (.woven hr2 hu) (rowC.keep sD) is (q _)
end
theorem sup_binds {P : Program} {K : PySem.W.Frag} {nm q me : Str} {ar : _} {bd : _} {sc : Scope} {f D fb cc co : Addr} {fd : FuncData} {ps : List Str} (_ : Sup P K nm q ar bd sc me f D fb cc co fd) (h : ∀ us : List Value, us.length = ps.length → bindArgs fd ⟨us, []⟩ = pure (ps.zip us)) : Binds K fd ps [] := .all h
theorem all_mk {l : PySem.W.OpenLaw} {w : World} {K : PySem.W.Frag} {h : Heap} {mg : Str → Option Value} {fa : Addr} (X : K.In h) (G : h.Ns mainGlobals mg) (hfa : mg "law" = some (.ref fa))
    {f0 : Addr} {od0 an0 : Option Addr} {sl0 : Array (Option Value)} {oc0 kV0 dc0 pm0 cd0 ct0 : Value}
    (a0 : PySem.W.nsIn K mainGlobals "is_number" = some (some (.ref f0)))
    (l0 : K.lookup f0 = some ⟨oc0, od0, .func (PySem.W.fnOf "is_number" "is_number" (defArgs s_is_number) (defBody s_is_number) (defScope s_is_number) .none kV0 dc0 pm0 an0 cd0 ct0), sl0⟩) (c0 : PySem.W.codeIn K cd0 "is_number" = true) (k0 : PySem.W.keepIn K (.ref f0) = true)
    {f1 : Addr} {od1 an1 : Option Addr} {sl1 : Array (Option Value)} {oc1 kV1 dc1 pm1 cd1 ct1 : Value}
    (a1 : PySem.W.nsIn K mainGlobals "is_whole" = some (some (.ref f1)))
    (l1 : K.lookup f1 = some ⟨oc1, od1, .func (PySem.W.fnOf "is_whole" "is_whole" (defArgs s_is_whole) (defBody s_is_whole) (defScope s_is_whole) .none kV1 dc1 pm1 an1 cd1 ct1), sl1⟩) (c1 : PySem.W.codeIn K cd1 "is_whole" = true) (k1 : PySem.W.keepIn K (.ref f1) = true)
    {f2 : Addr} {od2 an2 : Option Addr} {sl2 : Array (Option Value)} {oc2 kV2 dc2 pm2 cd2 ct2 : Value}
    {D2 : Addr} (y2 : PySem.W.nsIn K mainGlobals "Rule" = some (some (.ref D2))) (a2 : PySem.W.findIn K (.ref D2) "told" = some (some (.ref f2)))
    (l2 : K.lookup f2 = some ⟨oc2, od2, .func (PySem.W.fnOf "told" "Rule.told" (defArgs s_Rule_told) (defBody s_Rule_told) (defScope s_Rule_told) .none kV2 dc2 pm2 an2 cd2 ct2), sl2⟩) (c2 : PySem.W.codeIn K cd2 "Rule.told" = true) (k2 : PySem.W.keepIn K (.ref f2) = true)
    {f3 : Addr} {od3 an3 : Option Addr} {sl3 : Array (Option Value)} {oc3 kV3 dc3 pm3 cd3 ct3 : Value}
    {D3 : Addr} (y3 : PySem.W.nsIn K mainGlobals "Rule" = some (some (.ref D3))) (a3 : PySem.W.findIn K (.ref D3) "needs" = some (some (.ref f3)))
    (l3 : K.lookup f3 = some ⟨oc3, od3, .func (PySem.W.fnOf "needs" "Rule.needs" (defArgs s_Rule_needs) (defBody s_Rule_needs) (defScope s_Rule_needs) .none kV3 dc3 pm3 an3 cd3 ct3), sl3⟩) (c3 : PySem.W.codeIn K cd3 "Rule.needs" = true) (k3 : PySem.W.keepIn K (.ref f3) = true)
    {f4 : Addr} {od4 an4 : Option Addr} {sl4 : Array (Option Value)} {oc4 kV4 dc4 pm4 cd4 ct4 : Value}
    {D4 : Addr} (y4 : PySem.W.nsIn K mainGlobals "Rule" = some (some (.ref D4))) (a4 : PySem.W.findIn K (.ref D4) "value" = some (some (.ref f4)))
    (l4 : K.lookup f4 = some ⟨oc4, od4, .func (PySem.W.fnOf "value" "Rule.value" (defArgs s_Rule_value) (defBody s_Rule_value) (defScope s_Rule_value) .none kV4 dc4 pm4 an4 cd4 ct4), sl4⟩) (c4 : PySem.W.codeIn K cd4 "Rule.value" = true) (k4 : PySem.W.keepIn K (.ref f4) = true)
    {f5 : Addr} {od5 an5 : Option Addr} {sl5 : Array (Option Value)} {oc5 kV5 dc5 pm5 cd5 ct5 : Value}
    {D5 : Addr} (y5 : PySem.W.nsIn K mainGlobals "Plain" = some (some (.ref D5))) (a5 : PySem.W.findIn K (.ref D5) "__init__" = some (some (.ref f5)))
    (l5 : K.lookup f5 = some ⟨oc5, od5, .func (PySem.W.fnOf "__init__" "Plain.__init__" (defArgs s_Plain_init) (defBody s_Plain_init) (defScope s_Plain_init) .none kV5 dc5 pm5 an5 cd5 ct5), sl5⟩) (c5 : PySem.W.codeIn K cd5 "Plain.__init__" = true) (k5 : PySem.W.keepIn K (.ref f5) = true)
    {f6 : Addr} {od6 an6 : Option Addr} {sl6 : Array (Option Value)} {oc6 kV6 dc6 pm6 cd6 ct6 : Value}
    {D6 : Addr} (y6 : PySem.W.nsIn K mainGlobals "Plain" = some (some (.ref D6))) (a6 : PySem.W.findIn K (.ref D6) "__str__" = some (some (.ref f6)))
    (l6 : K.lookup f6 = some ⟨oc6, od6, .func (PySem.W.fnOf "__str__" "Plain.__str__" (defArgs s_Plain_str) (defBody s_Plain_str) (defScope s_Plain_str) .none kV6 dc6 pm6 an6 cd6 ct6), sl6⟩) (c6 : PySem.W.codeIn K cd6 "Plain.__str__" = true) (k6 : PySem.W.keepIn K (.ref f6) = true)
    {f7 : Addr} {od7 an7 : Option Addr} {sl7 : Array (Option Value)} {oc7 kV7 dc7 pm7 cd7 ct7 : Value}
    {D7 : Addr} (y7 : PySem.W.nsIn K mainGlobals "Plain" = some (some (.ref D7))) (a7 : PySem.W.findIn K (.ref D7) "told" = some (some (.ref f7)))
    (l7 : K.lookup f7 = some ⟨oc7, od7, .func (PySem.W.fnOf "told" "Plain.told" (defArgs s_Plain_told) (defBody s_Plain_told) (defScope s_Plain_told) .none kV7 dc7 pm7 an7 cd7 ct7), sl7⟩) (c7 : PySem.W.codeIn K cd7 "Plain.told" = true) (k7 : PySem.W.keepIn K (.ref f7) = true)
    {f8 : Addr} {od8 an8 : Option Addr} {sl8 : Array (Option Value)} {oc8 kV8 dc8 pm8 cd8 ct8 : Value}
    {D8 : Addr} (y8 : PySem.W.nsIn K mainGlobals "Plain" = some (some (.ref D8))) (a8 : PySem.W.findIn K (.ref D8) "needs" = some (some (.ref f8)))
    (l8 : K.lookup f8 = some ⟨oc8, od8, .func (PySem.W.fnOf "needs" "Plain.needs" (defArgs s_Plain_needs) (defBody s_Plain_needs) (defScope s_Plain_needs) .none kV8 dc8 pm8 an8 cd8 ct8), sl8⟩) (c8 : PySem.W.codeIn K cd8 "Plain.needs" = true) (k8 : PySem.W.keepIn K (.ref f8) = true)
    {f9 : Addr} {od9 an9 : Option Addr} {sl9 : Array (Option Value)} {oc9 kV9 dc9 pm9 cd9 ct9 : Value}
    {D9 : Addr} (y9 : PySem.W.nsIn K mainGlobals "Plain" = some (some (.ref D9))) (a9 : PySem.W.findIn K (.ref D9) "value" = some (some (.ref f9)))
    (l9 : K.lookup f9 = some ⟨oc9, od9, .func (PySem.W.fnOf "value" "Plain.value" (defArgs s_Plain_value) (defBody s_Plain_value) (defScope s_Plain_value) .none kV9 dc9 pm9 an9 cd9 ct9), sl9⟩) (c9 : PySem.W.codeIn K cd9 "Plain.value" = true) (k9 : PySem.W.keepIn K (.ref f9) = true)
    {f10 : Addr} {od10 an10 : Option Addr} {sl10 : Array (Option Value)} {oc10 kV10 dc10 pm10 cd10 ct10 : Value}
    {D10 : Addr} (y10 : PySem.W.nsIn K mainGlobals "Moved" = some (some (.ref D10))) (a10 : PySem.W.findIn K (.ref D10) "__init__" = some (some (.ref f10)))
    (l10 : K.lookup f10 = some ⟨oc10, od10, .func (PySem.W.fnOf "__init__" "Moved.__init__" (defArgs s_Moved_init) (defBody s_Moved_init) (defScope s_Moved_init) .none kV10 dc10 pm10 an10 cd10 ct10), sl10⟩) (c10 : PySem.W.codeIn K cd10 "Moved.__init__" = true) (k10 : PySem.W.keepIn K (.ref f10) = true)
    {f11 : Addr} {od11 an11 : Option Addr} {sl11 : Array (Option Value)} {oc11 kV11 dc11 pm11 cd11 ct11 : Value}
    {D11 : Addr} (y11 : PySem.W.nsIn K mainGlobals "Moved" = some (some (.ref D11))) (a11 : PySem.W.findIn K (.ref D11) "__str__" = some (some (.ref f11)))
    (l11 : K.lookup f11 = some ⟨oc11, od11, .func (PySem.W.fnOf "__str__" "Moved.__str__" (defArgs s_Moved_str) (defBody s_Moved_str) (defScope s_Moved_str) .none kV11 dc11 pm11 an11 cd11 ct11), sl11⟩) (c11 : PySem.W.codeIn K cd11 "Moved.__str__" = true) (k11 : PySem.W.keepIn K (.ref f11) = true)
    {f12 : Addr} {od12 an12 : Option Addr} {sl12 : Array (Option Value)} {oc12 kV12 dc12 pm12 cd12 ct12 : Value}
    {D12 : Addr} (y12 : PySem.W.nsIn K mainGlobals "Moved" = some (some (.ref D12))) (a12 : PySem.W.findIn K (.ref D12) "told" = some (some (.ref f12)))
    (l12 : K.lookup f12 = some ⟨oc12, od12, .func (PySem.W.fnOf "told" "Moved.told" (defArgs s_Moved_told) (defBody s_Moved_told) (defScope s_Moved_told) .none kV12 dc12 pm12 an12 cd12 ct12), sl12⟩) (c12 : PySem.W.codeIn K cd12 "Moved.told" = true) (k12 : PySem.W.keepIn K (.ref f12) = true)
    {f13 : Addr} {od13 an13 : Option Addr} {sl13 : Array (Option Value)} {oc13 kV13 dc13 pm13 cd13 ct13 : Value}
    {D13 : Addr} (y13 : PySem.W.nsIn K mainGlobals "Moved" = some (some (.ref D13))) (a13 : PySem.W.findIn K (.ref D13) "needs" = some (some (.ref f13)))
    (l13 : K.lookup f13 = some ⟨oc13, od13, .func (PySem.W.fnOf "needs" "Moved.needs" (defArgs s_Moved_needs) (defBody s_Moved_needs) (defScope s_Moved_needs) .none kV13 dc13 pm13 an13 cd13 ct13), sl13⟩) (c13 : PySem.W.codeIn K cd13 "Moved.needs" = true) (k13 : PySem.W.keepIn K (.ref f13) = true)
    {f14 : Addr} {od14 an14 : Option Addr} {sl14 : Array (Option Value)} {oc14 kV14 dc14 pm14 cd14 ct14 : Value}
    {D14 : Addr} (y14 : PySem.W.nsIn K mainGlobals "Moved" = some (some (.ref D14))) (a14 : PySem.W.findIn K (.ref D14) "value" = some (some (.ref f14)))
    (l14 : K.lookup f14 = some ⟨oc14, od14, .func (PySem.W.fnOf "value" "Moved.value" (defArgs s_Moved_value) (defBody s_Moved_value) (defScope s_Moved_value) .none kV14 dc14 pm14 an14 cd14 ct14), sl14⟩) (c14 : PySem.W.codeIn K cd14 "Moved.value" = true) (k14 : PySem.W.keepIn K (.ref f14) = true)
    {f15 : Addr} {od15 an15 : Option Addr} {sl15 : Array (Option Value)} {oc15 kV15 dc15 pm15 cd15 ct15 : Value}
    {D15 : Addr} (y15 : PySem.W.nsIn K mainGlobals "Mixed" = some (some (.ref D15))) (a15 : PySem.W.findIn K (.ref D15) "__init__" = some (some (.ref f15)))
    (l15 : K.lookup f15 = some ⟨oc15, od15, .func (PySem.W.fnOf "__init__" "Mixed.__init__" (defArgs s_Mixed_init) (defBody s_Mixed_init) (defScope s_Mixed_init) .none kV15 dc15 pm15 an15 cd15 ct15), sl15⟩) (c15 : PySem.W.codeIn K cd15 "Mixed.__init__" = true) (k15 : PySem.W.keepIn K (.ref f15) = true)
    {f16 : Addr} {od16 an16 : Option Addr} {sl16 : Array (Option Value)} {oc16 kV16 dc16 pm16 cd16 ct16 : Value}
    {D16 : Addr} (y16 : PySem.W.nsIn K mainGlobals "Mixed" = some (some (.ref D16))) (a16 : PySem.W.findIn K (.ref D16) "__str__" = some (some (.ref f16)))
    (l16 : K.lookup f16 = some ⟨oc16, od16, .func (PySem.W.fnOf "__str__" "Mixed.__str__" (defArgs s_Mixed_str) (defBody s_Mixed_str) (defScope s_Mixed_str) .none kV16 dc16 pm16 an16 cd16 ct16), sl16⟩) (c16 : PySem.W.codeIn K cd16 "Mixed.__str__" = true) (k16 : PySem.W.keepIn K (.ref f16) = true)
    {f17 : Addr} {od17 an17 : Option Addr} {sl17 : Array (Option Value)} {oc17 kV17 dc17 pm17 cd17 ct17 : Value}
    {D17 : Addr} (y17 : PySem.W.nsIn K mainGlobals "Mixed" = some (some (.ref D17))) (a17 : PySem.W.findIn K (.ref D17) "told" = some (some (.ref f17)))
    (l17 : K.lookup f17 = some ⟨oc17, od17, .func (PySem.W.fnOf "told" "Mixed.told" (defArgs s_Mixed_told) (defBody s_Mixed_told) (defScope s_Mixed_told) .none kV17 dc17 pm17 an17 cd17 ct17), sl17⟩) (c17 : PySem.W.codeIn K cd17 "Mixed.told" = true) (k17 : PySem.W.keepIn K (.ref f17) = true)
    {f18 : Addr} {od18 an18 : Option Addr} {sl18 : Array (Option Value)} {oc18 kV18 dc18 pm18 cd18 ct18 : Value}
    {D18 : Addr} (y18 : PySem.W.nsIn K mainGlobals "Mixed" = some (some (.ref D18))) (a18 : PySem.W.findIn K (.ref D18) "needs" = some (some (.ref f18)))
    (l18 : K.lookup f18 = some ⟨oc18, od18, .func (PySem.W.fnOf "needs" "Mixed.needs" (defArgs s_Mixed_needs) (defBody s_Mixed_needs) (defScope s_Mixed_needs) .none kV18 dc18 pm18 an18 cd18 ct18), sl18⟩) (c18 : PySem.W.codeIn K cd18 "Mixed.needs" = true) (k18 : PySem.W.keepIn K (.ref f18) = true)
    {f19 : Addr} {od19 an19 : Option Addr} {sl19 : Array (Option Value)} {oc19 kV19 dc19 pm19 cd19 ct19 : Value}
    {D19 : Addr} (y19 : PySem.W.nsIn K mainGlobals "Mixed" = some (some (.ref D19))) (a19 : PySem.W.findIn K (.ref D19) "value" = some (some (.ref f19)))
    (l19 : K.lookup f19 = some ⟨oc19, od19, .func (PySem.W.fnOf "value" "Mixed.value" (defArgs s_Mixed_value) (defBody s_Mixed_value) (defScope s_Mixed_value) .none kV19 dc19 pm19 an19 cd19 ct19), sl19⟩) (c19 : PySem.W.codeIn K cd19 "Mixed.value" = true) (k19 : PySem.W.keepIn K (.ref f19) = true)
    {f20 : Addr} {od20 an20 : Option Addr} {sl20 : Array (Option Value)} {oc20 kV20 dc20 pm20 cd20 ct20 : Value}
    (a20 : PySem.W.nsIn K mainGlobals "is_value" = some (some (.ref f20)))
    (l20 : K.lookup f20 = some ⟨oc20, od20, .func (PySem.W.fnOf "is_value" "is_value" (defArgs s_is_value) (defBody s_is_value) (defScope s_is_value) .none kV20 dc20 pm20 an20 cd20 ct20), sl20⟩) (c20 : PySem.W.codeIn K cd20 "is_value" = true) (k20 : PySem.W.keepIn K (.ref f20) = true)
    {f21 : Addr} {od21 an21 : Option Addr} {sl21 : Array (Option Value)} {oc21 kV21 dc21 pm21 cd21 ct21 : Value}
    (a21 : PySem.W.nsIn K mainGlobals "is_back" = some (some (.ref f21)))
    (l21 : K.lookup f21 = some ⟨oc21, od21, .func (PySem.W.fnOf "is_back" "is_back" (defArgs s_is_back) (defBody s_is_back) (defScope s_is_back) .none kV21 dc21 pm21 an21 cd21 ct21), sl21⟩) (c21 : PySem.W.codeIn K cd21 "is_back" = true) (k21 : PySem.W.keepIn K (.ref f21) = true)
    {f22 : Addr} {od22 an22 : Option Addr} {sl22 : Array (Option Value)} {oc22 kV22 dc22 pm22 cd22 ct22 : Value}
    (a22 : PySem.W.nsIn K mainGlobals "is_cell" = some (some (.ref f22)))
    (l22 : K.lookup f22 = some ⟨oc22, od22, .func (PySem.W.fnOf "is_cell" "is_cell" (defArgs s_is_cell) (defBody s_is_cell) (defScope s_is_cell) .none kV22 dc22 pm22 an22 cd22 ct22), sl22⟩) (c22 : PySem.W.codeIn K cd22 "is_cell" = true) (k22 : PySem.W.keepIn K (.ref f22) = true)
    {f23 : Addr} {od23 an23 : Option Addr} {sl23 : Array (Option Value)} {oc23 kV23 dc23 pm23 cd23 ct23 : Value}
    (a23 : PySem.W.nsIn K mainGlobals "is_rule" = some (some (.ref f23)))
    (l23 : K.lookup f23 = some ⟨oc23, od23, .func (PySem.W.fnOf "is_rule" "is_rule" (defArgs s_is_rule) (defBody s_is_rule) (defScope s_is_rule) .none kV23 dc23 pm23 an23 cd23 ct23), sl23⟩) (c23 : PySem.W.codeIn K cd23 "is_rule" = true) (k23 : PySem.W.keepIn K (.ref f23) = true)
    {f24 : Addr} {od24 an24 : Option Addr} {sl24 : Array (Option Value)} {oc24 kV24 dc24 pm24 cd24 ct24 : Value}
    (a24 : PySem.W.nsIn K mainGlobals "rule_of" = some (some (.ref f24)))
    (l24 : K.lookup f24 = some ⟨oc24, od24, .func (PySem.W.fnOf "rule_of" "rule_of" (defArgs s_rule_of) (defBody s_rule_of) (defScope s_rule_of) .none kV24 dc24 pm24 an24 cd24 ct24), sl24⟩) (c24 : PySem.W.codeIn K cd24 "rule_of" = true) (k24 : PySem.W.keepIn K (.ref f24) = true)
    {f25 : Addr} {od25 an25 : Option Addr} {sl25 : Array (Option Value)} {oc25 kV25 dc25 pm25 cd25 ct25 : Value}
    {D25 : Addr} (y25 : PySem.W.nsIn K mainGlobals "Leaf" = some (some (.ref D25))) (a25 : PySem.W.findIn K (.ref D25) "__init__" = some (some (.ref f25)))
    (l25 : K.lookup f25 = some ⟨oc25, od25, .func (PySem.W.fnOf "__init__" "Leaf.__init__" (defArgs s_Leaf_init) (defBody s_Leaf_init) (defScope s_Leaf_init) .none kV25 dc25 pm25 an25 cd25 ct25), sl25⟩) (c25 : PySem.W.codeIn K cd25 "Leaf.__init__" = true) (k25 : PySem.W.keepIn K (.ref f25) = true)
    {f26 : Addr} {od26 an26 : Option Addr} {sl26 : Array (Option Value)} {oc26 kV26 dc26 pm26 cd26 ct26 : Value}
    {D26 : Addr} (y26 : PySem.W.nsIn K mainGlobals "Leaf" = some (some (.ref D26))) (a26 : PySem.W.findIn K (.ref D26) "told" = some (some (.ref f26)))
    (l26 : K.lookup f26 = some ⟨oc26, od26, .func (PySem.W.fnOf "told" "Leaf.told" (defArgs s_Leaf_told) (defBody s_Leaf_told) (defScope s_Leaf_told) .none kV26 dc26 pm26 an26 cd26 ct26), sl26⟩) (c26 : PySem.W.codeIn K cd26 "Leaf.told" = true) (k26 : PySem.W.keepIn K (.ref f26) = true)
    {f27 : Addr} {od27 an27 : Option Addr} {sl27 : Array (Option Value)} {oc27 kV27 dc27 pm27 cd27 ct27 : Value}
    {D27 : Addr} (y27 : PySem.W.nsIn K mainGlobals "Leaf" = some (some (.ref D27))) (a27 : PySem.W.findIn K (.ref D27) "cells" = some (some (.ref f27)))
    (l27 : K.lookup f27 = some ⟨oc27, od27, .func (PySem.W.fnOf "cells" "Leaf.cells" (defArgs s_Leaf_cells) (defBody s_Leaf_cells) (defScope s_Leaf_cells) .none kV27 dc27 pm27 an27 cd27 ct27), sl27⟩) (c27 : PySem.W.codeIn K cd27 "Leaf.cells" = true) (k27 : PySem.W.keepIn K (.ref f27) = true)
    {f28 : Addr} {od28 an28 : Option Addr} {sl28 : Array (Option Value)} {oc28 kV28 dc28 pm28 cd28 ct28 : Value}
    {D28 : Addr} (y28 : PySem.W.nsIn K mainGlobals "Leaf" = some (some (.ref D28))) (a28 : PySem.W.findIn K (.ref D28) "rule" = some (some (.ref f28)))
    (l28 : K.lookup f28 = some ⟨oc28, od28, .func (PySem.W.fnOf "rule" "Leaf.rule" (defArgs s_Leaf_rule) (defBody s_Leaf_rule) (defScope s_Leaf_rule) .none kV28 dc28 pm28 an28 cd28 ct28), sl28⟩) (c28 : PySem.W.codeIn K cd28 "Leaf.rule" = true) (k28 : PySem.W.keepIn K (.ref f28) = true)
    {f29 : Addr} {od29 an29 : Option Addr} {sl29 : Array (Option Value)} {oc29 kV29 dc29 pm29 ct29 : Value}
    {cc29 co29 D29 : Addr} {ccl29 cel29 : Value} {cdd29 ced29 : Option Addr} {cvs29 : Array Value} {ccs29 ces29 : Array (Option Value)} {fl29 : Str} {tf29 : Tok} {cdD29 : ClassData} {ar29 : Arg}
    (y29 : PySem.W.nsIn K mainGlobals "Full" = some (some (.ref D29))) (a29 : PySem.W.findIn K (.ref D29) "__init__" = some (some (.ref f29)))
    (l29 : K.lookup f29 = some ⟨oc29, od29, .func (PySem.W.ksFn "__init__" "Full.__init__" (defArgs s_Full_init) (defBody s_Full_init) (defScope s_Full_init) .none kV29 dc29 pm29 an29 (.ref co29) ct29 cc29), sl29⟩) (c29 : PySem.W.codeIn K (.ref co29) "Full.__init__" = true)
    (u1_29 : K.lookup co29 = some ⟨ccl29, cdd29, .fields cvs29, ccs29⟩) (u2_29 : cvs29[2]? = some (.str fl29 tf29)) (u3_29 : ((l.prog.main.file : Str) == fl29) = true) (u4_29 : K.lookup cc29 = some ⟨cel29, ced29, .cell (some (.ref D29)), ces29⟩) (u5_29 : PySem.W.clsIn K D29 = some cdD29) (u6_29 : PySem.W.mroIn K D29 (.ref D29) = some true) (u7_29 : PySem.W.nsIn K mainGlobals "super" = some none) (u8_29 : (l.prog.main.scope.names.lookup ("super" : Str)).isSome = false)
    (u9_29 : PySem.W.ks_superIn K D29 D29 "__init__" = some (some (.ref f25))) (v1_29 : PySem.W.typeIn K (.ref f25) = some (.type "function")) (v2_29 : PySem.W.fnIn K f25 = true) (v3_29 : PySem.W.nsIn K cStatics "thirdparty.any" = some none)
    (v4_29 : ((defArgs s_Full_init).posonlyargs ++ (defArgs s_Full_init).args).head? = some ar29) (v5_29 : ar29.arg = ("self" : Str)) (k29 : PySem.W.keepIn K (.ref f29) = true)
    {f30 : Addr} {od30 an30 : Option Addr} {sl30 : Array (Option Value)} {oc30 kV30 dc30 pm30 cd30 ct30 : Value}
    {D30 : Addr} (y30 : PySem.W.nsIn K mainGlobals "Full" = some (some (.ref D30))) (a30 : PySem.W.findIn K (.ref D30) "told" = some (some (.ref f30)))
    (l30 : K.lookup f30 = some ⟨oc30, od30, .func (PySem.W.fnOf "told" "Full.told" (defArgs s_Full_told) (defBody s_Full_told) (defScope s_Full_told) .none kV30 dc30 pm30 an30 cd30 ct30), sl30⟩) (c30 : PySem.W.codeIn K cd30 "Full.told" = true) (k30 : PySem.W.keepIn K (.ref f30) = true)
    {f31 : Addr} {od31 an31 : Option Addr} {sl31 : Array (Option Value)} {oc31 kV31 dc31 pm31 cd31 ct31 : Value}
    {D31 : Addr} (y31 : PySem.W.nsIn K mainGlobals "Full" = some (some (.ref D31))) (a31 : PySem.W.findIn K (.ref D31) "cells" = some (some (.ref f31)))
    (l31 : K.lookup f31 = some ⟨oc31, od31, .func (PySem.W.fnOf "cells" "Full.cells" (defArgs s_Full_cells) (defBody s_Full_cells) (defScope s_Full_cells) .none kV31 dc31 pm31 an31 cd31 ct31), sl31⟩) (c31 : PySem.W.codeIn K cd31 "Full.cells" = true) (k31 : PySem.W.keepIn K (.ref f31) = true)
    {f32 : Addr} {od32 an32 : Option Addr} {sl32 : Array (Option Value)} {oc32 kV32 dc32 pm32 cd32 ct32 : Value}
    {D32 : Addr} (y32 : PySem.W.nsIn K mainGlobals "Full" = some (some (.ref D32))) (a32 : PySem.W.findIn K (.ref D32) "rule" = some (some (.ref f32)))
    (l32 : K.lookup f32 = some ⟨oc32, od32, .func (PySem.W.fnOf "rule" "Full.rule" (defArgs s_Full_rule) (defBody s_Full_rule) (defScope s_Full_rule) .none kV32 dc32 pm32 an32 cd32 ct32), sl32⟩) (c32 : PySem.W.codeIn K cd32 "Full.rule" = true) (k32 : PySem.W.keepIn K (.ref f32) = true)
    {f33 : Addr} {od33 an33 : Option Addr} {sl33 : Array (Option Value)} {oc33 kV33 dc33 pm33 ct33 : Value}
    {cc33 co33 D33 : Addr} {ccl33 cel33 : Value} {cdd33 ced33 : Option Addr} {cvs33 : Array Value} {ccs33 ces33 : Array (Option Value)} {fl33 : Str} {tf33 : Tok} {cdD33 : ClassData} {ar33 : Arg}
    (y33 : PySem.W.nsIn K mainGlobals "Still" = some (some (.ref D33))) (a33 : PySem.W.findIn K (.ref D33) "__init__" = some (some (.ref f33)))
    (l33 : K.lookup f33 = some ⟨oc33, od33, .func (PySem.W.ksFn "__init__" "Still.__init__" (defArgs s_Still_init) (defBody s_Still_init) (defScope s_Still_init) .none kV33 dc33 pm33 an33 (.ref co33) ct33 cc33), sl33⟩) (c33 : PySem.W.codeIn K (.ref co33) "Still.__init__" = true)
    (u1_33 : K.lookup co33 = some ⟨ccl33, cdd33, .fields cvs33, ccs33⟩) (u2_33 : cvs33[2]? = some (.str fl33 tf33)) (u3_33 : ((l.prog.main.file : Str) == fl33) = true) (u4_33 : K.lookup cc33 = some ⟨cel33, ced33, .cell (some (.ref D33)), ces33⟩) (u5_33 : PySem.W.clsIn K D33 = some cdD33) (u6_33 : PySem.W.mroIn K D33 (.ref D33) = some true) (u7_33 : PySem.W.nsIn K mainGlobals "super" = some none) (u8_33 : (l.prog.main.scope.names.lookup ("super" : Str)).isSome = false)
    (u9_33 : PySem.W.ks_superIn K D33 D33 "__init__" = some (some (.ref f25))) (v1_33 : PySem.W.typeIn K (.ref f25) = some (.type "function")) (v2_33 : PySem.W.fnIn K f25 = true) (v3_33 : PySem.W.nsIn K cStatics "thirdparty.any" = some none)
    (v4_33 : ((defArgs s_Still_init).posonlyargs ++ (defArgs s_Still_init).args).head? = some ar33) (v5_33 : ar33.arg = ("self" : Str)) (k33 : PySem.W.keepIn K (.ref f33) = true)
    {f34 : Addr} {od34 an34 : Option Addr} {sl34 : Array (Option Value)} {oc34 kV34 dc34 pm34 cd34 ct34 : Value}
    {D34 : Addr} (y34 : PySem.W.nsIn K mainGlobals "Still" = some (some (.ref D34))) (a34 : PySem.W.findIn K (.ref D34) "told" = some (some (.ref f34)))
    (l34 : K.lookup f34 = some ⟨oc34, od34, .func (PySem.W.fnOf "told" "Still.told" (defArgs s_Still_told) (defBody s_Still_told) (defScope s_Still_told) .none kV34 dc34 pm34 an34 cd34 ct34), sl34⟩) (c34 : PySem.W.codeIn K cd34 "Still.told" = true) (k34 : PySem.W.keepIn K (.ref f34) = true)
    {f35 : Addr} {od35 an35 : Option Addr} {sl35 : Array (Option Value)} {oc35 kV35 dc35 pm35 cd35 ct35 : Value}
    {D35 : Addr} (y35 : PySem.W.nsIn K mainGlobals "Still" = some (some (.ref D35))) (a35 : PySem.W.findIn K (.ref D35) "cells" = some (some (.ref f35)))
    (l35 : K.lookup f35 = some ⟨oc35, od35, .func (PySem.W.fnOf "cells" "Still.cells" (defArgs s_Still_cells) (defBody s_Still_cells) (defScope s_Still_cells) .none kV35 dc35 pm35 an35 cd35 ct35), sl35⟩) (c35 : PySem.W.codeIn K cd35 "Still.cells" = true) (k35 : PySem.W.keepIn K (.ref f35) = true)
    {f36 : Addr} {od36 an36 : Option Addr} {sl36 : Array (Option Value)} {oc36 kV36 dc36 pm36 cd36 ct36 : Value}
    {D36 : Addr} (y36 : PySem.W.nsIn K mainGlobals "Still" = some (some (.ref D36))) (a36 : PySem.W.findIn K (.ref D36) "rule" = some (some (.ref f36)))
    (l36 : K.lookup f36 = some ⟨oc36, od36, .func (PySem.W.fnOf "rule" "Still.rule" (defArgs s_Still_rule) (defBody s_Still_rule) (defScope s_Still_rule) .none kV36 dc36 pm36 an36 cd36 ct36), sl36⟩) (c36 : PySem.W.codeIn K cd36 "Still.rule" = true) (k36 : PySem.W.keepIn K (.ref f36) = true)
    {f37 : Addr} {od37 an37 : Option Addr} {sl37 : Array (Option Value)} {oc37 kV37 dc37 pm37 ct37 : Value}
    {cc37 co37 D37 : Addr} {ccl37 cel37 : Value} {cdd37 ced37 : Option Addr} {cvs37 : Array Value} {ccs37 ces37 : Array (Option Value)} {fl37 : Str} {tf37 : Tok} {cdD37 : ClassData} {ar37 : Arg}
    (y37 : PySem.W.nsIn K mainGlobals "Woven" = some (some (.ref D37))) (a37 : PySem.W.findIn K (.ref D37) "__init__" = some (some (.ref f37)))
    (l37 : K.lookup f37 = some ⟨oc37, od37, .func (PySem.W.ksFn "__init__" "Woven.__init__" (defArgs s_Woven_init) (defBody s_Woven_init) (defScope s_Woven_init) .none kV37 dc37 pm37 an37 (.ref co37) ct37 cc37), sl37⟩) (c37 : PySem.W.codeIn K (.ref co37) "Woven.__init__" = true)
    (u1_37 : K.lookup co37 = some ⟨ccl37, cdd37, .fields cvs37, ccs37⟩) (u2_37 : cvs37[2]? = some (.str fl37 tf37)) (u3_37 : ((l.prog.main.file : Str) == fl37) = true) (u4_37 : K.lookup cc37 = some ⟨cel37, ced37, .cell (some (.ref D37)), ces37⟩) (u5_37 : PySem.W.clsIn K D37 = some cdD37) (u6_37 : PySem.W.mroIn K D37 (.ref D37) = some true) (u7_37 : PySem.W.nsIn K mainGlobals "super" = some none) (u8_37 : (l.prog.main.scope.names.lookup ("super" : Str)).isSome = false)
    (u9_37 : PySem.W.ks_superIn K D37 D37 "__init__" = some (some (.ref f25))) (v1_37 : PySem.W.typeIn K (.ref f25) = some (.type "function")) (v2_37 : PySem.W.fnIn K f25 = true) (v3_37 : PySem.W.nsIn K cStatics "thirdparty.any" = some none)
    (v4_37 : ((defArgs s_Woven_init).posonlyargs ++ (defArgs s_Woven_init).args).head? = some ar37) (v5_37 : ar37.arg = ("self" : Str)) (k37 : PySem.W.keepIn K (.ref f37) = true)
    {f38 : Addr} {od38 an38 : Option Addr} {sl38 : Array (Option Value)} {oc38 kV38 dc38 pm38 cd38 ct38 : Value}
    {D38 : Addr} (y38 : PySem.W.nsIn K mainGlobals "Woven" = some (some (.ref D38))) (a38 : PySem.W.findIn K (.ref D38) "told" = some (some (.ref f38)))
    (l38 : K.lookup f38 = some ⟨oc38, od38, .func (PySem.W.fnOf "told" "Woven.told" (defArgs s_Woven_told) (defBody s_Woven_told) (defScope s_Woven_told) .none kV38 dc38 pm38 an38 cd38 ct38), sl38⟩) (c38 : PySem.W.codeIn K cd38 "Woven.told" = true) (k38 : PySem.W.keepIn K (.ref f38) = true)
    {f39 : Addr} {od39 an39 : Option Addr} {sl39 : Array (Option Value)} {oc39 kV39 dc39 pm39 cd39 ct39 : Value}
    {D39 : Addr} (y39 : PySem.W.nsIn K mainGlobals "Woven" = some (some (.ref D39))) (a39 : PySem.W.findIn K (.ref D39) "cells" = some (some (.ref f39)))
    (l39 : K.lookup f39 = some ⟨oc39, od39, .func (PySem.W.fnOf "cells" "Woven.cells" (defArgs s_Woven_cells) (defBody s_Woven_cells) (defScope s_Woven_cells) .none kV39 dc39 pm39 an39 cd39 ct39), sl39⟩) (c39 : PySem.W.codeIn K cd39 "Woven.cells" = true) (k39 : PySem.W.keepIn K (.ref f39) = true)
    {f40 : Addr} {od40 an40 : Option Addr} {sl40 : Array (Option Value)} {oc40 kV40 dc40 pm40 cd40 ct40 : Value}
    {D40 : Addr} (y40 : PySem.W.nsIn K mainGlobals "Woven" = some (some (.ref D40))) (a40 : PySem.W.findIn K (.ref D40) "rule" = some (some (.ref f40)))
    (l40 : K.lookup f40 = some ⟨oc40, od40, .func (PySem.W.fnOf "rule" "Woven.rule" (defArgs s_Woven_rule) (defBody s_Woven_rule) (defScope s_Woven_rule) .none kV40 dc40 pm40 an40 cd40 ct40), sl40⟩) (c40 : PySem.W.codeIn K cd40 "Woven.rule" = true) (k40 : PySem.W.keepIn K (.ref f40) = true)
    {f41 : Addr} {od41 an41 : Option Addr} {sl41 : Array (Option Value)} {oc41 kV41 dc41 pm41 cd41 ct41 : Value}
    (a41 : PySem.W.nsIn K mainGlobals "refuse_no_cell" = some (some (.ref f41)))
    (l41 : K.lookup f41 = some ⟨oc41, od41, .func (PySem.W.fnOf "refuse_no_cell" "refuse_no_cell" (defArgs s_refuse_no_cell) (defBody s_refuse_no_cell) (defScope s_refuse_no_cell) .none kV41 dc41 pm41 an41 cd41 ct41), sl41⟩) (c41 : PySem.W.codeIn K cd41 "refuse_no_cell" = true) (k41 : PySem.W.keepIn K (.ref f41) = true)
    {f42 : Addr} {od42 an42 : Option Addr} {sl42 : Array (Option Value)} {oc42 kV42 dc42 pm42 cd42 ct42 : Value}
    (a42 : PySem.W.nsIn K mainGlobals "is_row_of_cells" = some (some (.ref f42)))
    (l42 : K.lookup f42 = some ⟨oc42, od42, .func (PySem.W.fnOf "is_row_of_cells" "is_row_of_cells" (defArgs s_is_row_of_cells) (defBody s_is_row_of_cells) (defScope s_is_row_of_cells) .none kV42 dc42 pm42 an42 cd42 ct42), sl42⟩) (c42 : PySem.W.codeIn K cd42 "is_row_of_cells" = true) (k42 : PySem.W.keepIn K (.ref f42) = true)
    {f43 : Addr} {od43 an43 : Option Addr} {sl43 : Array (Option Value)} {oc43 kV43 dc43 pm43 cd43 ct43 : Value}
    (a43 : PySem.W.nsIn K mainGlobals "is_leaf" = some (some (.ref f43)))
    (l43 : K.lookup f43 = some ⟨oc43, od43, .func (PySem.W.fnOf "is_leaf" "is_leaf" (defArgs s_is_leaf) (defBody s_is_leaf) (defScope s_is_leaf) .none kV43 dc43 pm43 an43 cd43 ct43), sl43⟩) (c43 : PySem.W.codeIn K cd43 "is_leaf" = true) (k43 : PySem.W.keepIn K (.ref f43) = true)
    {f44 : Addr} {od44 an44 : Option Addr} {sl44 : Array (Option Value)} {oc44 kV44 dc44 pm44 cd44 ct44 : Value}
    (a44 : PySem.W.nsIn K mainGlobals "leaf_of" = some (some (.ref f44)))
    (l44 : K.lookup f44 = some ⟨oc44, od44, .func (PySem.W.fnOf "leaf_of" "leaf_of" (defArgs s_leaf_of) (defBody s_leaf_of) (defScope s_leaf_of) .none kV44 dc44 pm44 an44 cd44 ct44), sl44⟩) (c44 : PySem.W.codeIn K cd44 "leaf_of" = true) (k44 : PySem.W.keepIn K (.ref f44) = true)
    {f45 : Addr} {od45 an45 : Option Addr} {sl45 : Array (Option Value)} {oc45 kV45 dc45 pm45 cd45 ct45 : Value}
    (a45 : PySem.W.nsIn K mainGlobals "fits" = some (some (.ref f45)))
    (l45 : K.lookup f45 = some ⟨oc45, od45, .func (PySem.W.fnOf "fits" "fits" (defArgs s_fits) (defBody s_fits) (defScope s_fits) .none kV45 dc45 pm45 an45 cd45 ct45), sl45⟩) (c45 : PySem.W.codeIn K cd45 "fits" = true) (k45 : PySem.W.keepIn K (.ref f45) = true)
    {f46 : Addr} {od46 an46 : Option Addr} {sl46 : Array (Option Value)} {oc46 kV46 dc46 pm46 cd46 ct46 : Value}
    (a46 : PySem.W.nsIn K mainGlobals "_law_cell_at" = some (some (.ref f46)))
    (l46 : K.lookup f46 = some ⟨oc46, od46, .func (PySem.W.fnOf "_law_cell_at" "_law_cell_at" (defArgs s_l_cell_at) (defBody s_l_cell_at) (defScope s_l_cell_at) .none kV46 dc46 pm46 an46 cd46 ct46), sl46⟩) (c46 : PySem.W.codeIn K cd46 "_law_cell_at" = true) (k46 : PySem.W.keepIn K (.ref f46) = true)
    {f47 : Addr} {od47 an47 : Option Addr} {sl47 : Array (Option Value)} {oc47 kV47 dc47 pm47 cd47 ct47 : Value}
    (a47 : PySem.W.nsIn K mainGlobals "_law_well" = some (some (.ref f47)))
    (l47 : K.lookup f47 = some ⟨oc47, od47, .func (PySem.W.fnOf "_law_well" "_law_well" (defArgs s_l_well) (defBody s_l_well) (defScope s_l_well) .none kV47 dc47 pm47 an47 cd47 ct47), sl47⟩) (c47 : PySem.W.codeIn K cd47 "_law_well" = true) (k47 : PySem.W.keepIn K (.ref f47) = true)
    {f48 : Addr} {od48 an48 : Option Addr} {sl48 : Array (Option Value)} {oc48 kV48 dc48 pm48 cd48 ct48 : Value}
    (a48 : PySem.W.nsIn K mainGlobals "_law_draw" = some (some (.ref f48)))
    (l48 : K.lookup f48 = some ⟨oc48, od48, .func (PySem.W.fnOf "_law_draw" "_law_draw" (defArgs s_l_draw) (defBody s_l_draw) (defScope s_l_draw) .none kV48 dc48 pm48 an48 cd48 ct48), sl48⟩) (c48 : PySem.W.codeIn K cd48 "_law_draw" = true) (k48 : PySem.W.keepIn K (.ref f48) = true)
    {f49 : Addr} {od49 an49 : Option Addr} {sl49 : Array (Option Value)} {oc49 kV49 dc49 pm49 cd49 ct49 : Value}
    (a49 : PySem.W.nsIn K mainGlobals "_law_near" = some (some (.ref f49)))
    (l49 : K.lookup f49 = some ⟨oc49, od49, .func (PySem.W.fnOf "_law_near" "_law_near" (defArgs s_l_near) (defBody s_l_near) (defScope s_l_near) .none kV49 dc49 pm49 an49 cd49 ct49), sl49⟩) (c49 : PySem.W.codeIn K cd49 "_law_near" = true) (k49 : PySem.W.keepIn K (.ref f49) = true)
    {f50 : Addr} {od50 an50 : Option Addr} {sl50 : Array (Option Value)} {oc50 kV50 dc50 pm50 cd50 ct50 : Value}
    (a50 : PySem.W.nsIn K mainGlobals "_law_rule" = some (some (.ref f50)))
    (l50 : K.lookup f50 = some ⟨oc50, od50, .func (PySem.W.fnOf "_law_rule" "_law_rule" (defArgs s_l_rule) (defBody s_l_rule) (defScope s_l_rule) .none kV50 dc50 pm50 an50 cd50 ct50), sl50⟩) (c50 : PySem.W.codeIn K cd50 "_law_rule" = true) (k50 : PySem.W.keepIn K (.ref f50) = true)
    {f51 : Addr} {od51 an51 : Option Addr} {sl51 : Array (Option Value)} {oc51 kV51 dc51 pm51 cd51 ct51 : Value}
    (a51 : PySem.W.nsIn K mainGlobals "_law_leaf" = some (some (.ref f51)))
    (l51 : K.lookup f51 = some ⟨oc51, od51, .func (PySem.W.fnOf "_law_leaf" "_law_leaf" (defArgs s_l_leaf) (defBody s_l_leaf) (defScope s_l_leaf) .none kV51 dc51 pm51 an51 cd51 ct51), sl51⟩) (c51 : PySem.W.codeIn K cd51 "_law_leaf" = true) (k51 : PySem.W.keepIn K (.ref f51) = true)
    {f52 : Addr} {od52 an52 : Option Addr} {sl52 : Array (Option Value)} {oc52 kV52 dc52 pm52 cd52 ct52 : Value}
    (a52 : PySem.W.nsIn K mainGlobals "_law_need_fits" = some (some (.ref f52)))
    (l52 : K.lookup f52 = some ⟨oc52, od52, .func (PySem.W.fnOf "_law_need_fits" "_law_need_fits" (defArgs s_l_need_fits) (defBody s_l_need_fits) (defScope s_l_need_fits) .none kV52 dc52 pm52 an52 cd52 ct52), sl52⟩) (c52 : PySem.W.codeIn K cd52 "_law_need_fits" = true) (k52 : PySem.W.keepIn K (.ref f52) = true)
    {f53 : Addr} {od53 an53 : Option Addr} {sl53 : Array (Option Value)} {oc53 kV53 dc53 pm53 cd53 ct53 : Value}
    (a53 : PySem.W.nsIn K mainGlobals "_law_rule_fits" = some (some (.ref f53)))
    (l53 : K.lookup f53 = some ⟨oc53, od53, .func (PySem.W.fnOf "_law_rule_fits" "_law_rule_fits" (defArgs s_l_rule_fits) (defBody s_l_rule_fits) (defScope s_l_rule_fits) .none kV53 dc53 pm53 an53 cd53 ct53), sl53⟩) (c53 : PySem.W.codeIn K cd53 "_law_rule_fits" = true) (k53 : PySem.W.keepIn K (.ref f53) = true)
    {f54 : Addr} {od54 an54 : Option Addr} {sl54 : Array (Option Value)} {oc54 kV54 dc54 pm54 cd54 ct54 : Value}
    (a54 : PySem.W.nsIn K mainGlobals "_law_leaf_fits" = some (some (.ref f54)))
    (l54 : K.lookup f54 = some ⟨oc54, od54, .func (PySem.W.fnOf "_law_leaf_fits" "_law_leaf_fits" (defArgs s_l_leaf_fits) (defBody s_l_leaf_fits) (defScope s_l_leaf_fits) .none kV54 dc54 pm54 an54 cd54 ct54), sl54⟩) (c54 : PySem.W.codeIn K cd54 "_law_leaf_fits" = true) (k54 : PySem.W.keepIn K (.ref f54) = true)
    {f55 : Addr} {od55 an55 : Option Addr} {sl55 : Array (Option Value)} {oc55 kV55 dc55 pm55 cd55 ct55 : Value}
    (a55 : PySem.W.nsIn K mainGlobals "law" = some (some (.ref f55)))
    (l55 : K.lookup f55 = some ⟨oc55, od55, .func (PySem.W.fnOf "law" "law" (defArgs s_law) (defBody s_law) (defScope s_law) .none kV55 dc55 pm55 an55 cd55 ct55), sl55⟩) (c55 : PySem.W.codeIn K cd55 "law" = true) (k55 : PySem.W.keepIn K (.ref f55) = true)
    (z_all : PySem.W.nsIn K mainGlobals "all" = some none)
    (z_bool : PySem.W.nsIn K mainGlobals "bool" = some none)
    (z_int : PySem.W.nsIn K mainGlobals "int" = some none)
    (z_isinstance : PySem.W.nsIn K mainGlobals "isinstance" = some none)
    (z_len : PySem.W.nsIn K mainGlobals "len" = some none)
    (z_max : PySem.W.nsIn K mainGlobals "max" = some none)
    (z_min : PySem.W.nsIn K mainGlobals "min" = some none)
    (z_range : PySem.W.nsIn K mainGlobals "range" = some none)
    (z_str : PySem.W.nsIn K mainGlobals "str" = some none)
    (z_tuple : PySem.W.nsIn K mainGlobals "tuple" = some none)
    {ct_GREATEST_VALUE : Tok} (g_GREATEST_VALUE : PySem.W.nsIn K mainGlobals "GREATEST_VALUE" = some (some (.int 255 ct_GREATEST_VALUE)))
    {ct_GREATEST_BACK : Tok} (g_GREATEST_BACK : PySem.W.nsIn K mainGlobals "GREATEST_BACK" = some (some (.int 200 ct_GREATEST_BACK)))
    {ct_LAST_CELL : Tok} (g_LAST_CELL : PySem.W.nsIn K mainGlobals "LAST_CELL" = some (some (.int 15 ct_LAST_CELL)))
    {ct_GREATEST_TIME : Tok} (g_GREATEST_TIME : PySem.W.nsIn K mainGlobals "GREATEST_TIME" = some (some (.int 1000000000 ct_GREATEST_TIME)))
    {ct_MOST_CELLS : Tok} (g_MOST_CELLS : PySem.W.nsIn K mainGlobals "MOST_CELLS" = some (some (.int 16 ct_MOST_CELLS)))
    {C_ScrollError : Addr} (g_ScrollError : PySem.W.nsIn K mainGlobals "ScrollError" = some (some (.ref C_ScrollError)))
    {C_NoRule : Addr} (g_NoRule : PySem.W.nsIn K mainGlobals "NoRule" = some (some (.ref C_NoRule)))
    (x_NoRule : PySem.W.excIn K C_NoRule [.type "ValueError", .type "Exception", .type "BaseException", .type "object"] "ValueError.__new__" = true) (kc_NoRule : PySem.W.keepIn K (.ref C_NoRule) = true) (bb_NoRule : PySem.W.subIn K (.ref C_NoRule) (.type "BaseException") = some true) (t_NoRule : PySem.W.typeIn K (.ref C_NoRule) = some (.type "type"))
    (xa_NoRule : PySem.W.findIn K (.ref C_NoRule) "__getattribute__" = some (some (.builtin "BaseException.__getattribute__"))) (xb_NoRule : PySem.W.findIn K (.ref C_NoRule) "__getattr__" = some none) (xc_NoRule : PySem.W.hasDictIn K C_NoRule = true) (xd_NoRule : PySem.W.findIn K (.ref C_NoRule) "__class__" = some (some (.builtin "object.__class__")))
    (xe_NoRule : PySem.W.specialIn K (.builtin "object.__class__") "__get__" = some (some (.builtin "getset_descriptor.__get__"))) (xf_NoRule : PySem.W.takesIn K (.builtin "object.__class__") = some true) (xg_NoRule : PySem.W.mroIn K C_NoRule (.type "object") = some true)
    {C_NoLeaf : Addr} (g_NoLeaf : PySem.W.nsIn K mainGlobals "NoLeaf" = some (some (.ref C_NoLeaf)))
    (x_NoLeaf : PySem.W.excIn K C_NoLeaf [.type "ValueError", .type "Exception", .type "BaseException", .type "object"] "ValueError.__new__" = true) (kc_NoLeaf : PySem.W.keepIn K (.ref C_NoLeaf) = true) (bb_NoLeaf : PySem.W.subIn K (.ref C_NoLeaf) (.type "BaseException") = some true) (t_NoLeaf : PySem.W.typeIn K (.ref C_NoLeaf) = some (.type "type"))
    (xa_NoLeaf : PySem.W.findIn K (.ref C_NoLeaf) "__getattribute__" = some (some (.builtin "BaseException.__getattribute__"))) (xb_NoLeaf : PySem.W.findIn K (.ref C_NoLeaf) "__getattr__" = some none) (xc_NoLeaf : PySem.W.hasDictIn K C_NoLeaf = true) (xd_NoLeaf : PySem.W.findIn K (.ref C_NoLeaf) "__class__" = some (some (.builtin "object.__class__")))
    (xe_NoLeaf : PySem.W.specialIn K (.builtin "object.__class__") "__get__" = some (some (.builtin "getset_descriptor.__get__"))) (xf_NoLeaf : PySem.W.takesIn K (.builtin "object.__class__") = some true) (xg_NoLeaf : PySem.W.mroIn K C_NoLeaf (.type "object") = some true)
    {C_NoCell : Addr} (g_NoCell : PySem.W.nsIn K mainGlobals "NoCell" = some (some (.ref C_NoCell)))
    (x_NoCell : PySem.W.excIn K C_NoCell [.type "ValueError", .type "Exception", .type "BaseException", .type "object"] "ValueError.__new__" = true) (kc_NoCell : PySem.W.keepIn K (.ref C_NoCell) = true) (bb_NoCell : PySem.W.subIn K (.ref C_NoCell) (.type "BaseException") = some true) (t_NoCell : PySem.W.typeIn K (.ref C_NoCell) = some (.type "type"))
    (xa_NoCell : PySem.W.findIn K (.ref C_NoCell) "__getattribute__" = some (some (.builtin "BaseException.__getattribute__"))) (xb_NoCell : PySem.W.findIn K (.ref C_NoCell) "__getattr__" = some none) (xc_NoCell : PySem.W.hasDictIn K C_NoCell = true) (xd_NoCell : PySem.W.findIn K (.ref C_NoCell) "__class__" = some (some (.builtin "object.__class__")))
    (xe_NoCell : PySem.W.specialIn K (.builtin "object.__class__") "__get__" = some (some (.builtin "getset_descriptor.__get__"))) (xf_NoCell : PySem.W.takesIn K (.builtin "object.__class__") = some true) (xg_NoCell : PySem.W.mroIn K C_NoCell (.type "object") = some true)
    {C_Rule : Addr} (g_Rule : PySem.W.nsIn K mainGlobals "Rule" = some (some (.ref C_Rule)))
    {C_Plain : Addr} (g_Plain : PySem.W.nsIn K mainGlobals "Plain" = some (some (.ref C_Plain)))
    {C_Moved : Addr} (g_Moved : PySem.W.nsIn K mainGlobals "Moved" = some (some (.ref C_Moved)))
    {C_Mixed : Addr} (g_Mixed : PySem.W.nsIn K mainGlobals "Mixed" = some (some (.ref C_Mixed)))
    {C_Leaf : Addr} (g_Leaf : PySem.W.nsIn K mainGlobals "Leaf" = some (some (.ref C_Leaf)))
    {C_Full : Addr} (g_Full : PySem.W.nsIn K mainGlobals "Full" = some (some (.ref C_Full)))
    {C_Still : Addr} (g_Still : PySem.W.nsIn K mainGlobals "Still" = some (some (.ref C_Still)))
    {C_Woven : Addr} (g_Woven : PySem.W.nsIn K mainGlobals "Woven" = some (some (.ref C_Woven)))
    (p1_Rule : PySem.W.plainGet K C_Rule Str.empty = true) (p2_Rule : PySem.W.hasDictIn K C_Rule = true) (p3_Rule : PySem.W.plainOver K C_Rule = true) (p4_Rule : PySem.W.findIn K (.ref C_Rule) "__setattr__" = some (some (.builtin "object.__setattr__"))) (p5_Rule : PySem.W.makesIn K C_Rule = true) (p6_Rule : PySem.W.keepIn K (.ref C_Rule) = true)
    (na_Rule_worth : PySem.W.findIn K (.ref C_Rule) "worth" = some none)
    (na_Rule_back : PySem.W.findIn K (.ref C_Rule) "back" = some none)
    (na_Rule_cell : PySem.W.findIn K (.ref C_Rule) "cell" = some none)
    (na_Rule_added : PySem.W.findIn K (.ref C_Rule) "added" = some none)
    (na_Rule_other_back : PySem.W.findIn K (.ref C_Rule) "other_back" = some none)
    (na_Rule_other_cell : PySem.W.findIn K (.ref C_Rule) "other_cell" = some none)
    (na_Rule_begin : PySem.W.findIn K (.ref C_Rule) "begin" = some none)
    (na_Rule_span : PySem.W.findIn K (.ref C_Rule) "span" = some none)
    (na_Rule_worths : PySem.W.findIn K (.ref C_Rule) "worths" = some none)
    (na_Rule_rules : PySem.W.findIn K (.ref C_Rule) "rules" = some none)
    (na_Rule_cells : PySem.W.findIn K (.ref C_Rule) "cells" = some none)
    (na_Rule_rule : PySem.W.findIn K (.ref C_Rule) "rule" = some none)
    (ma_Rule_told : PySem.W.findIn K (.ref C_Rule) "told" = some (some (.ref f2))) (mb_Rule_told : PySem.W.isFn K (.ref f2) = true)
    (ma_Rule_needs : PySem.W.findIn K (.ref C_Rule) "needs" = some (some (.ref f3))) (mb_Rule_needs : PySem.W.isFn K (.ref f3) = true)
    (ma_Rule_value : PySem.W.findIn K (.ref C_Rule) "value" = some (some (.ref f4))) (mb_Rule_value : PySem.W.isFn K (.ref f4) = true)
    (p1_Plain : PySem.W.plainGet K C_Plain Str.empty = true) (p2_Plain : PySem.W.hasDictIn K C_Plain = true) (p3_Plain : PySem.W.plainOver K C_Plain = true) (p4_Plain : PySem.W.findIn K (.ref C_Plain) "__setattr__" = some (some (.builtin "object.__setattr__"))) (p5_Plain : PySem.W.makesIn K C_Plain = true) (p6_Plain : PySem.W.keepIn K (.ref C_Plain) = true)
    (na_Plain_worth : PySem.W.findIn K (.ref C_Plain) "worth" = some none)
    (na_Plain_back : PySem.W.findIn K (.ref C_Plain) "back" = some none)
    (na_Plain_cell : PySem.W.findIn K (.ref C_Plain) "cell" = some none)
    (na_Plain_added : PySem.W.findIn K (.ref C_Plain) "added" = some none)
    (na_Plain_other_back : PySem.W.findIn K (.ref C_Plain) "other_back" = some none)
    (na_Plain_other_cell : PySem.W.findIn K (.ref C_Plain) "other_cell" = some none)
    (na_Plain_begin : PySem.W.findIn K (.ref C_Plain) "begin" = some none)
    (na_Plain_span : PySem.W.findIn K (.ref C_Plain) "span" = some none)
    (na_Plain_worths : PySem.W.findIn K (.ref C_Plain) "worths" = some none)
    (na_Plain_rules : PySem.W.findIn K (.ref C_Plain) "rules" = some none)
    (na_Plain_cells : PySem.W.findIn K (.ref C_Plain) "cells" = some none)
    (na_Plain_rule : PySem.W.findIn K (.ref C_Plain) "rule" = some none)
    (ma_Plain_init : PySem.W.findIn K (.ref C_Plain) "__init__" = some (some (.ref f5))) (mb_Plain_init : PySem.W.isFn K (.ref f5) = true)
    (ma_Plain_str : PySem.W.findIn K (.ref C_Plain) "__str__" = some (some (.ref f6))) (mb_Plain_str : PySem.W.isFn K (.ref f6) = true)
    (ma_Plain_told : PySem.W.findIn K (.ref C_Plain) "told" = some (some (.ref f7))) (mb_Plain_told : PySem.W.isFn K (.ref f7) = true)
    (ma_Plain_needs : PySem.W.findIn K (.ref C_Plain) "needs" = some (some (.ref f8))) (mb_Plain_needs : PySem.W.isFn K (.ref f8) = true)
    (ma_Plain_value : PySem.W.findIn K (.ref C_Plain) "value" = some (some (.ref f9))) (mb_Plain_value : PySem.W.isFn K (.ref f9) = true)
    (p1_Moved : PySem.W.plainGet K C_Moved Str.empty = true) (p2_Moved : PySem.W.hasDictIn K C_Moved = true) (p3_Moved : PySem.W.plainOver K C_Moved = true) (p4_Moved : PySem.W.findIn K (.ref C_Moved) "__setattr__" = some (some (.builtin "object.__setattr__"))) (p5_Moved : PySem.W.makesIn K C_Moved = true) (p6_Moved : PySem.W.keepIn K (.ref C_Moved) = true)
    (na_Moved_worth : PySem.W.findIn K (.ref C_Moved) "worth" = some none)
    (na_Moved_back : PySem.W.findIn K (.ref C_Moved) "back" = some none)
    (na_Moved_cell : PySem.W.findIn K (.ref C_Moved) "cell" = some none)
    (na_Moved_added : PySem.W.findIn K (.ref C_Moved) "added" = some none)
    (na_Moved_other_back : PySem.W.findIn K (.ref C_Moved) "other_back" = some none)
    (na_Moved_other_cell : PySem.W.findIn K (.ref C_Moved) "other_cell" = some none)
    (na_Moved_begin : PySem.W.findIn K (.ref C_Moved) "begin" = some none)
    (na_Moved_span : PySem.W.findIn K (.ref C_Moved) "span" = some none)
    (na_Moved_worths : PySem.W.findIn K (.ref C_Moved) "worths" = some none)
    (na_Moved_rules : PySem.W.findIn K (.ref C_Moved) "rules" = some none)
    (na_Moved_cells : PySem.W.findIn K (.ref C_Moved) "cells" = some none)
    (na_Moved_rule : PySem.W.findIn K (.ref C_Moved) "rule" = some none)
    (ma_Moved_init : PySem.W.findIn K (.ref C_Moved) "__init__" = some (some (.ref f10))) (mb_Moved_init : PySem.W.isFn K (.ref f10) = true)
    (ma_Moved_str : PySem.W.findIn K (.ref C_Moved) "__str__" = some (some (.ref f11))) (mb_Moved_str : PySem.W.isFn K (.ref f11) = true)
    (ma_Moved_told : PySem.W.findIn K (.ref C_Moved) "told" = some (some (.ref f12))) (mb_Moved_told : PySem.W.isFn K (.ref f12) = true)
    (ma_Moved_needs : PySem.W.findIn K (.ref C_Moved) "needs" = some (some (.ref f13))) (mb_Moved_needs : PySem.W.isFn K (.ref f13) = true)
    (ma_Moved_value : PySem.W.findIn K (.ref C_Moved) "value" = some (some (.ref f14))) (mb_Moved_value : PySem.W.isFn K (.ref f14) = true)
    (p1_Mixed : PySem.W.plainGet K C_Mixed Str.empty = true) (p2_Mixed : PySem.W.hasDictIn K C_Mixed = true) (p3_Mixed : PySem.W.plainOver K C_Mixed = true) (p4_Mixed : PySem.W.findIn K (.ref C_Mixed) "__setattr__" = some (some (.builtin "object.__setattr__"))) (p5_Mixed : PySem.W.makesIn K C_Mixed = true) (p6_Mixed : PySem.W.keepIn K (.ref C_Mixed) = true)
    (na_Mixed_worth : PySem.W.findIn K (.ref C_Mixed) "worth" = some none)
    (na_Mixed_back : PySem.W.findIn K (.ref C_Mixed) "back" = some none)
    (na_Mixed_cell : PySem.W.findIn K (.ref C_Mixed) "cell" = some none)
    (na_Mixed_added : PySem.W.findIn K (.ref C_Mixed) "added" = some none)
    (na_Mixed_other_back : PySem.W.findIn K (.ref C_Mixed) "other_back" = some none)
    (na_Mixed_other_cell : PySem.W.findIn K (.ref C_Mixed) "other_cell" = some none)
    (na_Mixed_begin : PySem.W.findIn K (.ref C_Mixed) "begin" = some none)
    (na_Mixed_span : PySem.W.findIn K (.ref C_Mixed) "span" = some none)
    (na_Mixed_worths : PySem.W.findIn K (.ref C_Mixed) "worths" = some none)
    (na_Mixed_rules : PySem.W.findIn K (.ref C_Mixed) "rules" = some none)
    (na_Mixed_cells : PySem.W.findIn K (.ref C_Mixed) "cells" = some none)
    (na_Mixed_rule : PySem.W.findIn K (.ref C_Mixed) "rule" = some none)
    (ma_Mixed_init : PySem.W.findIn K (.ref C_Mixed) "__init__" = some (some (.ref f15))) (mb_Mixed_init : PySem.W.isFn K (.ref f15) = true)
    (ma_Mixed_str : PySem.W.findIn K (.ref C_Mixed) "__str__" = some (some (.ref f16))) (mb_Mixed_str : PySem.W.isFn K (.ref f16) = true)
    (ma_Mixed_told : PySem.W.findIn K (.ref C_Mixed) "told" = some (some (.ref f17))) (mb_Mixed_told : PySem.W.isFn K (.ref f17) = true)
    (ma_Mixed_needs : PySem.W.findIn K (.ref C_Mixed) "needs" = some (some (.ref f18))) (mb_Mixed_needs : PySem.W.isFn K (.ref f18) = true)
    (ma_Mixed_value : PySem.W.findIn K (.ref C_Mixed) "value" = some (some (.ref f19))) (mb_Mixed_value : PySem.W.isFn K (.ref f19) = true)
    (p1_Leaf : PySem.W.plainGet K C_Leaf Str.empty = true) (p2_Leaf : PySem.W.hasDictIn K C_Leaf = true) (p3_Leaf : PySem.W.plainOver K C_Leaf = true) (p4_Leaf : PySem.W.findIn K (.ref C_Leaf) "__setattr__" = some (some (.builtin "object.__setattr__"))) (p5_Leaf : PySem.W.makesIn K C_Leaf = true) (p6_Leaf : PySem.W.keepIn K (.ref C_Leaf) = true)
    (na_Leaf_worth : PySem.W.findIn K (.ref C_Leaf) "worth" = some none)
    (na_Leaf_back : PySem.W.findIn K (.ref C_Leaf) "back" = some none)
    (na_Leaf_cell : PySem.W.findIn K (.ref C_Leaf) "cell" = some none)
    (na_Leaf_added : PySem.W.findIn K (.ref C_Leaf) "added" = some none)
    (na_Leaf_other_back : PySem.W.findIn K (.ref C_Leaf) "other_back" = some none)
    (na_Leaf_other_cell : PySem.W.findIn K (.ref C_Leaf) "other_cell" = some none)
    (na_Leaf_begin : PySem.W.findIn K (.ref C_Leaf) "begin" = some none)
    (na_Leaf_span : PySem.W.findIn K (.ref C_Leaf) "span" = some none)
    (na_Leaf_worths : PySem.W.findIn K (.ref C_Leaf) "worths" = some none)
    (na_Leaf_rules : PySem.W.findIn K (.ref C_Leaf) "rules" = some none)
    (na_Leaf_needs : PySem.W.findIn K (.ref C_Leaf) "needs" = some none)
    (ma_Leaf_init : PySem.W.findIn K (.ref C_Leaf) "__init__" = some (some (.ref f25))) (mb_Leaf_init : PySem.W.isFn K (.ref f25) = true)
    (ma_Leaf_told : PySem.W.findIn K (.ref C_Leaf) "told" = some (some (.ref f26))) (mb_Leaf_told : PySem.W.isFn K (.ref f26) = true)
    (ma_Leaf_cells : PySem.W.findIn K (.ref C_Leaf) "cells" = some (some (.ref f27))) (mb_Leaf_cells : PySem.W.isFn K (.ref f27) = true)
    (ma_Leaf_rule : PySem.W.findIn K (.ref C_Leaf) "rule" = some (some (.ref f28))) (mb_Leaf_rule : PySem.W.isFn K (.ref f28) = true)
    (p1_Full : PySem.W.plainGet K C_Full Str.empty = true) (p2_Full : PySem.W.hasDictIn K C_Full = true) (p3_Full : PySem.W.plainOver K C_Full = true) (p4_Full : PySem.W.findIn K (.ref C_Full) "__setattr__" = some (some (.builtin "object.__setattr__"))) (p5_Full : PySem.W.makesIn K C_Full = true) (p6_Full : PySem.W.keepIn K (.ref C_Full) = true)
    (na_Full_worth : PySem.W.findIn K (.ref C_Full) "worth" = some none)
    (na_Full_back : PySem.W.findIn K (.ref C_Full) "back" = some none)
    (na_Full_cell : PySem.W.findIn K (.ref C_Full) "cell" = some none)
    (na_Full_added : PySem.W.findIn K (.ref C_Full) "added" = some none)
    (na_Full_other_back : PySem.W.findIn K (.ref C_Full) "other_back" = some none)
    (na_Full_other_cell : PySem.W.findIn K (.ref C_Full) "other_cell" = some none)
    (na_Full_begin : PySem.W.findIn K (.ref C_Full) "begin" = some none)
    (na_Full_span : PySem.W.findIn K (.ref C_Full) "span" = some none)
    (na_Full_worths : PySem.W.findIn K (.ref C_Full) "worths" = some none)
    (na_Full_rules : PySem.W.findIn K (.ref C_Full) "rules" = some none)
    (na_Full_needs : PySem.W.findIn K (.ref C_Full) "needs" = some none)
    (ma_Full_init : PySem.W.findIn K (.ref C_Full) "__init__" = some (some (.ref f29))) (mb_Full_init : PySem.W.isFn K (.ref f29) = true)
    (ma_Full_told : PySem.W.findIn K (.ref C_Full) "told" = some (some (.ref f30))) (mb_Full_told : PySem.W.isFn K (.ref f30) = true)
    (ma_Full_cells : PySem.W.findIn K (.ref C_Full) "cells" = some (some (.ref f31))) (mb_Full_cells : PySem.W.isFn K (.ref f31) = true)
    (ma_Full_rule : PySem.W.findIn K (.ref C_Full) "rule" = some (some (.ref f32))) (mb_Full_rule : PySem.W.isFn K (.ref f32) = true)
    (p1_Still : PySem.W.plainGet K C_Still Str.empty = true) (p2_Still : PySem.W.hasDictIn K C_Still = true) (p3_Still : PySem.W.plainOver K C_Still = true) (p4_Still : PySem.W.findIn K (.ref C_Still) "__setattr__" = some (some (.builtin "object.__setattr__"))) (p5_Still : PySem.W.makesIn K C_Still = true) (p6_Still : PySem.W.keepIn K (.ref C_Still) = true)
    (na_Still_worth : PySem.W.findIn K (.ref C_Still) "worth" = some none)
    (na_Still_back : PySem.W.findIn K (.ref C_Still) "back" = some none)
    (na_Still_cell : PySem.W.findIn K (.ref C_Still) "cell" = some none)
    (na_Still_added : PySem.W.findIn K (.ref C_Still) "added" = some none)
    (na_Still_other_back : PySem.W.findIn K (.ref C_Still) "other_back" = some none)
    (na_Still_other_cell : PySem.W.findIn K (.ref C_Still) "other_cell" = some none)
    (na_Still_begin : PySem.W.findIn K (.ref C_Still) "begin" = some none)
    (na_Still_span : PySem.W.findIn K (.ref C_Still) "span" = some none)
    (na_Still_worths : PySem.W.findIn K (.ref C_Still) "worths" = some none)
    (na_Still_rules : PySem.W.findIn K (.ref C_Still) "rules" = some none)
    (na_Still_needs : PySem.W.findIn K (.ref C_Still) "needs" = some none)
    (ma_Still_init : PySem.W.findIn K (.ref C_Still) "__init__" = some (some (.ref f33))) (mb_Still_init : PySem.W.isFn K (.ref f33) = true)
    (ma_Still_told : PySem.W.findIn K (.ref C_Still) "told" = some (some (.ref f34))) (mb_Still_told : PySem.W.isFn K (.ref f34) = true)
    (ma_Still_cells : PySem.W.findIn K (.ref C_Still) "cells" = some (some (.ref f35))) (mb_Still_cells : PySem.W.isFn K (.ref f35) = true)
    (ma_Still_rule : PySem.W.findIn K (.ref C_Still) "rule" = some (some (.ref f36))) (mb_Still_rule : PySem.W.isFn K (.ref f36) = true)
    (p1_Woven : PySem.W.plainGet K C_Woven Str.empty = true) (p2_Woven : PySem.W.hasDictIn K C_Woven = true) (p3_Woven : PySem.W.plainOver K C_Woven = true) (p4_Woven : PySem.W.findIn K (.ref C_Woven) "__setattr__" = some (some (.builtin "object.__setattr__"))) (p5_Woven : PySem.W.makesIn K C_Woven = true) (p6_Woven : PySem.W.keepIn K (.ref C_Woven) = true)
    (na_Woven_worth : PySem.W.findIn K (.ref C_Woven) "worth" = some none)
    (na_Woven_back : PySem.W.findIn K (.ref C_Woven) "back" = some none)
    (na_Woven_cell : PySem.W.findIn K (.ref C_Woven) "cell" = some none)
    (na_Woven_added : PySem.W.findIn K (.ref C_Woven) "added" = some none)
    (na_Woven_other_back : PySem.W.findIn K (.ref C_Woven) "other_back" = some none)
    (na_Woven_other_cell : PySem.W.findIn K (.ref C_Woven) "other_cell" = some none)
    (na_Woven_begin : PySem.W.findIn K (.ref C_Woven) "begin" = some none)
    (na_Woven_span : PySem.W.findIn K (.ref C_Woven) "span" = some none)
    (na_Woven_worths : PySem.W.findIn K (.ref C_Woven) "worths" = some none)
    (na_Woven_rules : PySem.W.findIn K (.ref C_Woven) "rules" = some none)
    (na_Woven_needs : PySem.W.findIn K (.ref C_Woven) "needs" = some none)
    (ma_Woven_init : PySem.W.findIn K (.ref C_Woven) "__init__" = some (some (.ref f37))) (mb_Woven_init : PySem.W.isFn K (.ref f37) = true)
    (ma_Woven_told : PySem.W.findIn K (.ref C_Woven) "told" = some (some (.ref f38))) (mb_Woven_told : PySem.W.isFn K (.ref f38) = true)
    (ma_Woven_cells : PySem.W.findIn K (.ref C_Woven) "cells" = some (some (.ref f39))) (mb_Woven_cells : PySem.W.isFn K (.ref f39) = true)
    (ma_Woven_rule : PySem.W.findIn K (.ref C_Woven) "rule" = some (some (.ref f40))) (mb_Woven_rule : PySem.W.isFn K (.ref f40) = true)
    : ∃ fd : FuncData, (∀ (s : Shared) (v : Value), BindsTo s fd ⟨[v], []⟩ [("_law_script", v)]) ∧ ∀ base : Heap, K.In base → base.Ns mainGlobals mg → FnOk l.prog w K mg base CX0 9 fa fd ["_law_script"] (spLaw K) := by
  have e := hfa.symm.trans (PySem.W.mg_of X G a55)
  cases e
  have F0 := fun_mk (st := s_is_number) l0 c0 k0
  have F1 := fun_mk (st := s_is_whole) l1 c1 k1
  have F2 := fun_mk (st := s_Rule_told) l2 c2 k2
  have F3 := fun_mk (st := s_Rule_needs) l3 c3 k3
  have F4 := fun_mk (st := s_Rule_value) l4 c4 k4
  have F5 := fun_mk (st := s_Plain_init) l5 c5 k5
  have F6 := fun_mk (st := s_Plain_str) l6 c6 k6
  have F7 := fun_mk (st := s_Plain_told) l7 c7 k7
  have F8 := fun_mk (st := s_Plain_needs) l8 c8 k8
  have F9 := fun_mk (st := s_Plain_value) l9 c9 k9
  have F10 := fun_mk (st := s_Moved_init) l10 c10 k10
  have F11 := fun_mk (st := s_Moved_str) l11 c11 k11
  have F12 := fun_mk (st := s_Moved_told) l12 c12 k12
  have F13 := fun_mk (st := s_Moved_needs) l13 c13 k13
  have F14 := fun_mk (st := s_Moved_value) l14 c14 k14
  have F15 := fun_mk (st := s_Mixed_init) l15 c15 k15
  have F16 := fun_mk (st := s_Mixed_str) l16 c16 k16
  have F17 := fun_mk (st := s_Mixed_told) l17 c17 k17
  have F18 := fun_mk (st := s_Mixed_needs) l18 c18 k18
  have F19 := fun_mk (st := s_Mixed_value) l19 c19 k19
  have F20 := fun_mk (st := s_is_value) l20 c20 k20
  have F21 := fun_mk (st := s_is_back) l21 c21 k21
  have F22 := fun_mk (st := s_is_cell) l22 c22 k22
  have F23 := fun_mk (st := s_is_rule) l23 c23 k23
  have F24 := fun_mk (st := s_rule_of) l24 c24 k24
  have F25 := fun_mk (st := s_Leaf_init) l25 c25 k25
  have F26 := fun_mk (st := s_Leaf_told) l26 c26 k26
  have F27 := fun_mk (st := s_Leaf_cells) l27 c27 k27
  have F28 := fun_mk (st := s_Leaf_rule) l28 c28 k28
  have F29 : Sup l.prog K "__init__" "Full.__init__" (defArgs s_Full_init) (defBody s_Full_init) (defScope s_Full_init) "self" f29 D29 f25 cc29 co29 _ := ⟨⟨_, _, _, _, _, _, _, _, rfl, l29⟩, c29, ⟨_, _, _, _, _, _, u1_29, u2_29, u3_29⟩, ⟨_, _, _, u4_29⟩, ⟨_, u5_29⟩, u6_29, u7_29, u8_29, u9_29, v1_29, v2_29, v3_29, ⟨_, v4_29, v5_29⟩⟩
  have F30 := fun_mk (st := s_Full_told) l30 c30 k30
  have F31 := fun_mk (st := s_Full_cells) l31 c31 k31
  have F32 := fun_mk (st := s_Full_rule) l32 c32 k32
  have F33 : Sup l.prog K "__init__" "Still.__init__" (defArgs s_Still_init) (defBody s_Still_init) (defScope s_Still_init) "self" f33 D33 f25 cc33 co33 _ := ⟨⟨_, _, _, _, _, _, _, _, rfl, l33⟩, c33, ⟨_, _, _, _, _, _, u1_33, u2_33, u3_33⟩, ⟨_, _, _, u4_33⟩, ⟨_, u5_33⟩, u6_33, u7_33, u8_33, u9_33, v1_33, v2_33, v3_33, ⟨_, v4_33, v5_33⟩⟩
  have F34 := fun_mk (st := s_Still_told) l34 c34 k34
  have F35 := fun_mk (st := s_Still_cells) l35 c35 k35
  have F36 := fun_mk (st := s_Still_rule) l36 c36 k36
  have F37 : Sup l.prog K "__init__" "Woven.__init__" (defArgs s_Woven_init) (defBody s_Woven_init) (defScope s_Woven_init) "self" f37 D37 f25 cc37 co37 _ := ⟨⟨_, _, _, _, _, _, _, _, rfl, l37⟩, c37, ⟨_, _, _, _, _, _, u1_37, u2_37, u3_37⟩, ⟨_, _, _, u4_37⟩, ⟨_, u5_37⟩, u6_37, u7_37, u8_37, u9_37, v1_37, v2_37, v3_37, ⟨_, v4_37, v5_37⟩⟩
  have F38 := fun_mk (st := s_Woven_told) l38 c38 k38
  have F39 := fun_mk (st := s_Woven_cells) l39 c39 k39
  have F40 := fun_mk (st := s_Woven_rule) l40 c40 k40
  have F41 := fun_mk (st := s_refuse_no_cell) l41 c41 k41
  have F42 := fun_mk (st := s_is_row_of_cells) l42 c42 k42
  have F43 := fun_mk (st := s_is_leaf) l43 c43 k43
  have F44 := fun_mk (st := s_leaf_of) l44 c44 k44
  have F45 := fun_mk (st := s_fits) l45 c45 k45
  have F46 := fun_mk (st := s_l_cell_at) l46 c46 k46
  have F47 := fun_mk (st := s_l_well) l47 c47 k47
  have F48 := fun_mk (st := s_l_draw) l48 c48 k48
  have F49 := fun_mk (st := s_l_near) l49 c49 k49
  have F50 := fun_mk (st := s_l_rule) l50 c50 k50
  have F51 := fun_mk (st := s_l_leaf) l51 c51 k51
  have F52 := fun_mk (st := s_l_need_fits) l52 c52 k52
  have F53 := fun_mk (st := s_l_rule_fits) l53 c53 k53
  have F54 := fun_mk (st := s_l_leaf_fits) l54 c54 k54
  have F55 := fun_mk (st := s_law) l55 c55 k55
  have b0 := F0.binds (ps := ["thing"]) fun _ _ _ _ _ _ us hl => match us, hl with | [_], _ => rfl
  have b1 := F1.binds (ps := ["thing", "low", "high"]) fun _ _ _ _ _ _ us hl => match us, hl with | [_, _, _], _ => rfl
  have b2 := F2.binds (ps := ["self"]) fun _ _ _ _ _ _ us hl => match us, hl with | [_], _ => rfl
  have b3 := F3.binds (ps := ["self"]) fun _ _ _ _ _ _ us hl => match us, hl with | [_], _ => rfl
  have b4 := F4.binds (ps := ["self", "found"]) fun _ _ _ _ _ _ us hl => match us, hl with | [_, _], _ => rfl
  have b5 := F5.binds (ps := ["self", "value"]) fun _ _ _ _ _ _ us hl => match us, hl with | [_, _], _ => rfl
  have b6 := F6.binds (ps := ["self"]) fun _ _ _ _ _ _ us hl => match us, hl with | [_], _ => rfl
  have b7 := F7.binds (ps := ["self"]) fun _ _ _ _ _ _ us hl => match us, hl with | [_], _ => rfl
  have b8 := F8.binds (ps := ["self"]) fun _ _ _ _ _ _ us hl => match us, hl with | [_], _ => rfl
  have b9 := F9.binds (ps := ["self", "found"]) fun _ _ _ _ _ _ us hl => match us, hl with | [_, _], _ => rfl
  have b10 := F10.binds (ps := ["self", "back", "cell", "add"]) fun _ _ _ _ _ _ us hl => match us, hl with | [_, _, _, _], _ => rfl
  have b11 := F11.binds (ps := ["self"]) fun _ _ _ _ _ _ us hl => match us, hl with | [_], _ => rfl
  have b12 := F12.binds (ps := ["self"]) fun _ _ _ _ _ _ us hl => match us, hl with | [_], _ => rfl
  have b13 := F13.binds (ps := ["self"]) fun _ _ _ _ _ _ us hl => match us, hl with | [_], _ => rfl
  have b14 := F14.binds (ps := ["self", "found"]) fun _ _ _ _ _ _ us hl => match us, hl with | [_, _], _ => rfl
  have b15 := F15.binds (ps := ["self", "back", "cell", "other_back", "other_cell"]) fun _ _ _ _ _ _ us hl => match us, hl with | [_, _, _, _, _], _ => rfl
  have b16 := F16.binds (ps := ["self"]) fun _ _ _ _ _ _ us hl => match us, hl with | [_], _ => rfl
  have b17 := F17.binds (ps := ["self"]) fun _ _ _ _ _ _ us hl => match us, hl with | [_], _ => rfl
  have b18 := F18.binds (ps := ["self"]) fun _ _ _ _ _ _ us hl => match us, hl with | [_], _ => rfl
  have b19 := F19.binds (ps := ["self", "found"]) fun _ _ _ _ _ _ us hl => match us, hl with | [_, _], _ => rfl
  have b20 := F20.binds (ps := ["thing"]) fun _ _ _ _ _ _ us hl => match us, hl with | [_], _ => rfl
  have b21 := F21.binds (ps := ["thing"]) fun _ _ _ _ _ _ us hl => match us, hl with | [_], _ => rfl
  have b22 := F22.binds (ps := ["thing"]) fun _ _ _ _ _ _ us hl => match us, hl with | [_], _ => rfl
  have b23 := F23.binds (ps := ["thing"]) fun _ _ _ _ _ _ us hl => match us, hl with | [_], _ => rfl
  have b24 := F24.binds (ps := ["told"]) fun _ _ _ _ _ _ us hl => match us, hl with | [_], _ => rfl
  have b25 := F25.binds (ps := ["self", "begin", "span"]) fun _ _ _ _ _ _ us hl => match us, hl with | [_, _, _], _ => rfl
  have b26 := F26.binds (ps := ["self"]) fun _ _ _ _ _ _ us hl => match us, hl with | [_], _ => rfl
  have b27 := F27.binds (ps := ["self"]) fun _ _ _ _ _ _ us hl => match us, hl with | [_], _ => rfl
  have b28 := F28.binds (ps := ["self", "cell"]) fun _ _ _ _ _ _ us hl => match us, hl with | [_, _], _ => rfl
  have b29 := sup_binds (ps := ["self", "begin", "span", "values"]) F29 (fun us hl => match us, hl with | [_, _, _, _], _ => rfl)
  have b30 := F30.binds (ps := ["self"]) fun _ _ _ _ _ _ us hl => match us, hl with | [_], _ => rfl
  have b31 := F31.binds (ps := ["self"]) fun _ _ _ _ _ _ us hl => match us, hl with | [_], _ => rfl
  have b32 := F32.binds (ps := ["self", "cell"]) fun _ _ _ _ _ _ us hl => match us, hl with | [_, _], _ => rfl
  have b33 := sup_binds (ps := ["self", "begin", "span", "back"]) F33 (fun us hl => match us, hl with | [_, _, _, _], _ => rfl)
  have b34 := F34.binds (ps := ["self"]) fun _ _ _ _ _ _ us hl => match us, hl with | [_], _ => rfl
  have b35 := F35.binds (ps := ["self"]) fun _ _ _ _ _ _ us hl => match us, hl with | [_], _ => rfl
  have b36 := F36.binds (ps := ["self", "cell"]) fun _ _ _ _ _ _ us hl => match us, hl with | [_, _], _ => rfl
  have b37 := sup_binds (ps := ["self", "begin", "span", "rules"]) F37 (fun us hl => match us, hl with | [_, _, _, _], _ => rfl)
  have b38 := F38.binds (ps := ["self"]) fun _ _ _ _ _ _ us hl => match us, hl with | [_], _ => rfl
  have b39 := F39.binds (ps := ["self"]) fun _ _ _ _ _ _ us hl => match us, hl with | [_], _ => rfl
  have b40 := F40.binds (ps := ["self", "cell"]) fun _ _ _ _ _ _ us hl => match us, hl with | [_, _], _ => rfl
  have b41 := F41.binds (ps := ["cell", "many"]) fun _ _ _ _ _ _ us hl => match us, hl with | [_, _], _ => rfl
  have b42 := F42.binds (ps := ["thing"]) fun _ _ _ _ _ _ us hl => match us, hl with | [_], _ => rfl
  have b43 := F43.binds (ps := ["thing"]) fun _ _ _ _ _ _ us hl => match us, hl with | [_], _ => rfl
  have b44 := F44.binds (ps := ["told"]) fun _ _ _ _ _ _ us hl => match us, hl with | [_], _ => rfl
  have b45 := F45.binds (ps := ["leaf", "number", "wide"]) fun _ _ _ _ _ _ us hl => match us, hl with | [_, _, _], _ => rfl
  have b46 := F46.binds (ps := ["_law_script", "_law_k"]) fun _ _ _ _ _ _ us hl => match us, hl with | [_, _], _ => rfl
  have b47 := F47.binds (ps := ["_law_script", "_law_k"]) fun _ _ _ _ _ _ us hl => match us, hl with | [_, _], _ => rfl
  have b48 := F48.binds (ps := ["_law_well_here", "_law_many"]) fun _ _ _ _ _ _ us hl => match us, hl with | [_, _], _ => rfl
  have b49 := F49.binds (ps := ["_law_well_here", "_law_low", "_law_high", "_law_middle"]) fun _ _ _ _ _ _ us hl => match us, hl with | [_, _, _, _], _ => rfl
  have b50 := F50.binds (ps := ["_law_well_here", "_law_number", "_law_wide", "_law_good"]) fun _ _ _ _ _ _ us hl => match us, hl with | [_, _, _, _], _ => rfl
  have b51 := F51.binds (ps := ["_law_well_here", "_law_number", "_law_wide"]) fun _ _ _ _ _ _ us hl => match us, hl with | [_, _, _], _ => rfl
  have b52 := F52.binds (ps := ["_law_first", "_law_there", "_law_number", "_law_wide"]) fun _ _ _ _ _ _ us hl => match us, hl with | [_, _, _, _], _ => rfl
  have b53 := F53.binds (ps := ["_law_rule_here", "_law_number", "_law_wide"]) fun _ _ _ _ _ _ us hl => match us, hl with | [_, _, _], _ => rfl
  have b54 := F54.binds (ps := ["_law_row", "_law_number", "_law_wide"]) fun _ _ _ _ _ _ us hl => match us, hl with | [_, _, _], _ => rfl
  have b55 := F55.binds (ps := ["_law_script"]) fun _ _ _ _ _ _ us hl => match us, hl with | [_], _ => rfl
  exact ⟨_, fun s v => .of_eq rfl, fun base _ _ => ok_law { a_is_number := _, d_is_number := _, F_is_number := F0, b_is_number := b0, g_is_number := PySem.W.mg_of X G a0, a_is_whole := _, d_is_whole := _, F_is_whole := F1, b_is_whole := b1, g_is_whole := PySem.W.mg_of X G a1, a_Rule_told := _, d_Rule_told := _, F_Rule_told := F2, b_Rule_told := b2, a_Rule_needs := _, d_Rule_needs := _, F_Rule_needs := F3, b_Rule_needs := b3, a_Rule_value := _, d_Rule_value := _, F_Rule_value := F4, b_Rule_value := b4, a_Plain_init := _, d_Plain_init := _, F_Plain_init := F5, b_Plain_init := b5, a_Plain_str := _, d_Plain_str := _, F_Plain_str := F6, b_Plain_str := b6, a_Plain_told := _, d_Plain_told := _, F_Plain_told := F7, b_Plain_told := b7, a_Plain_needs := _, d_Plain_needs := _, F_Plain_needs := F8, b_Plain_needs := b8, a_Plain_value := _, d_Plain_value := _, F_Plain_value := F9, b_Plain_value := b9, a_Moved_init := _, d_Moved_init := _, F_Moved_init := F10, b_Moved_init := b10, a_Moved_str := _, d_Moved_str := _, F_Moved_str := F11, b_Moved_str := b11, a_Moved_told := _, d_Moved_told := _, F_Moved_told := F12, b_Moved_told := b12, a_Moved_needs := _, d_Moved_needs := _, F_Moved_needs := F13, b_Moved_needs := b13, a_Moved_value := _, d_Moved_value := _, F_Moved_value := F14, b_Moved_value := b14, a_Mixed_init := _, d_Mixed_init := _, F_Mixed_init := F15, b_Mixed_init := b15, a_Mixed_str := _, d_Mixed_str := _, F_Mixed_str := F16, b_Mixed_str := b16, a_Mixed_told := _, d_Mixed_told := _, F_Mixed_told := F17, b_Mixed_told := b17, a_Mixed_needs := _, d_Mixed_needs := _, F_Mixed_needs := F18, b_Mixed_needs := b18, a_Mixed_value := _, d_Mixed_value := _, F_Mixed_value := F19, b_Mixed_value := b19, a_is_value := _, d_is_value := _, F_is_value := F20, b_is_value := b20, g_is_value := PySem.W.mg_of X G a20, a_is_back := _, d_is_back := _, F_is_back := F21, b_is_back := b21, g_is_back := PySem.W.mg_of X G a21, a_is_cell := _, d_is_cell := _, F_is_cell := F22, b_is_cell := b22, g_is_cell := PySem.W.mg_of X G a22, a_is_rule := _, d_is_rule := _, F_is_rule := F23, b_is_rule := b23, g_is_rule := PySem.W.mg_of X G a23, a_rule_of := _, d_rule_of := _, F_rule_of := F24, b_rule_of := b24, g_rule_of := PySem.W.mg_of X G a24, a_Leaf_init := _, d_Leaf_init := _, F_Leaf_init := F25, b_Leaf_init := b25, a_Leaf_told := _, d_Leaf_told := _, F_Leaf_told := F26, b_Leaf_told := b26, a_Leaf_cells := _, d_Leaf_cells := _, F_Leaf_cells := F27, b_Leaf_cells := b27, a_Leaf_rule := _, d_Leaf_rule := _, F_Leaf_rule := F28, b_Leaf_rule := b28, a_Full_init := _, d_Full_init := _, cc_Full_init := _, co_Full_init := _, cD_Full_init := _, S_Full_init := F29, b_Full_init := b29, eD_Full_init := Value.ref.inj (Option.some.inj (Option.some.inj (y29.symm.trans g_Full))), a_Full_told := _, d_Full_told := _, F_Full_told := F30, b_Full_told := b30, a_Full_cells := _, d_Full_cells := _, F_Full_cells := F31, b_Full_cells := b31, a_Full_rule := _, d_Full_rule := _, F_Full_rule := F32, b_Full_rule := b32, a_Still_init := _, d_Still_init := _, cc_Still_init := _, co_Still_init := _, cD_Still_init := _, S_Still_init := F33, b_Still_init := b33, eD_Still_init := Value.ref.inj (Option.some.inj (Option.some.inj (y33.symm.trans g_Still))), a_Still_told := _, d_Still_told := _, F_Still_told := F34, b_Still_told := b34, a_Still_cells := _, d_Still_cells := _, F_Still_cells := F35, b_Still_cells := b35, a_Still_rule := _, d_Still_rule := _, F_Still_rule := F36, b_Still_rule := b36, a_Woven_init := _, d_Woven_init := _, cc_Woven_init := _, co_Woven_init := _, cD_Woven_init := _, S_Woven_init := F37, b_Woven_init := b37, eD_Woven_init := Value.ref.inj (Option.some.inj (Option.some.inj (y37.symm.trans g_Woven))), a_Woven_told := _, d_Woven_told := _, F_Woven_told := F38, b_Woven_told := b38, a_Woven_cells := _, d_Woven_cells := _, F_Woven_cells := F39, b_Woven_cells := b39, a_Woven_rule := _, d_Woven_rule := _, F_Woven_rule := F40, b_Woven_rule := b40, a_refuse_no_cell := _, d_refuse_no_cell := _, F_refuse_no_cell := F41, b_refuse_no_cell := b41, g_refuse_no_cell := PySem.W.mg_of X G a41, a_is_row_of_cells := _, d_is_row_of_cells := _, F_is_row_of_cells := F42, b_is_row_of_cells := b42, g_is_row_of_cells := PySem.W.mg_of X G a42, a_is_leaf := _, d_is_leaf := _, F_is_leaf := F43, b_is_leaf := b43, g_is_leaf := PySem.W.mg_of X G a43, a_leaf_of := _, d_leaf_of := _, F_leaf_of := F44, b_leaf_of := b44, g_leaf_of := PySem.W.mg_of X G a44, a_fits := _, d_fits := _, F_fits := F45, b_fits := b45, g_fits := PySem.W.mg_of X G a45, a_l_cell_at := _, d_l_cell_at := _, F_l_cell_at := F46, b_l_cell_at := b46, g_l_cell_at := PySem.W.mg_of X G a46, a_l_well := _, d_l_well := _, F_l_well := F47, b_l_well := b47, g_l_well := PySem.W.mg_of X G a47, a_l_draw := _, d_l_draw := _, F_l_draw := F48, b_l_draw := b48, g_l_draw := PySem.W.mg_of X G a48, a_l_near := _, d_l_near := _, F_l_near := F49, b_l_near := b49, g_l_near := PySem.W.mg_of X G a49, a_l_rule := _, d_l_rule := _, F_l_rule := F50, b_l_rule := b50, g_l_rule := PySem.W.mg_of X G a50, a_l_leaf := _, d_l_leaf := _, F_l_leaf := F51, b_l_leaf := b51, g_l_leaf := PySem.W.mg_of X G a51, a_l_need_fits := _, d_l_need_fits := _, F_l_need_fits := F52, b_l_need_fits := b52, g_l_need_fits := PySem.W.mg_of X G a52, a_l_rule_fits := _, d_l_rule_fits := _, F_l_rule_fits := F53, b_l_rule_fits := b53, g_l_rule_fits := PySem.W.mg_of X G a53, a_l_leaf_fits := _, d_l_leaf_fits := _, F_l_leaf_fits := F54, b_l_leaf_fits := b54, g_l_leaf_fits := PySem.W.mg_of X G a54, a_law := _, d_law := _, F_law := F55, b_law := b55, g_law := PySem.W.mg_of X G a55, m_all := PySem.W.mg_none_of X G z_all, m_bool := PySem.W.mg_none_of X G z_bool, m_int := PySem.W.mg_none_of X G z_int, m_isinstance := PySem.W.mg_none_of X G z_isinstance, m_len := PySem.W.mg_none_of X G z_len, m_max := PySem.W.mg_none_of X G z_max, m_min := PySem.W.mg_none_of X G z_min, m_range := PySem.W.mg_none_of X G z_range, m_str := PySem.W.mg_none_of X G z_str, m_tuple := PySem.W.mg_none_of X G z_tuple, ct_GREATEST_VALUE := ct_GREATEST_VALUE, g_GREATEST_VALUE := PySem.W.mg_of X G g_GREATEST_VALUE, ct_GREATEST_BACK := ct_GREATEST_BACK, g_GREATEST_BACK := PySem.W.mg_of X G g_GREATEST_BACK, ct_LAST_CELL := ct_LAST_CELL, g_LAST_CELL := PySem.W.mg_of X G g_LAST_CELL, ct_GREATEST_TIME := ct_GREATEST_TIME, g_GREATEST_TIME := PySem.W.mg_of X G g_GREATEST_TIME, ct_MOST_CELLS := ct_MOST_CELLS, g_MOST_CELLS := PySem.W.mg_of X G g_MOST_CELLS, c_ScrollError := C_ScrollError, g_ScrollError := PySem.W.mg_of X G g_ScrollError, c_NoRule := C_NoRule, g_NoRule := PySem.W.mg_of X G g_NoRule, x_NoRule := x_NoRule, k_NoRule := kc_NoRule, bb_NoRule := bb_NoRule, t_NoRule := t_NoRule, xc_NoRule := ⟨xa_NoRule, xb_NoRule, bb_NoRule, xc_NoRule, xd_NoRule, xe_NoRule, xf_NoRule, xg_NoRule⟩, c_NoLeaf := C_NoLeaf, g_NoLeaf := PySem.W.mg_of X G g_NoLeaf, x_NoLeaf := x_NoLeaf, k_NoLeaf := kc_NoLeaf, bb_NoLeaf := bb_NoLeaf, t_NoLeaf := t_NoLeaf, xc_NoLeaf := ⟨xa_NoLeaf, xb_NoLeaf, bb_NoLeaf, xc_NoLeaf, xd_NoLeaf, xe_NoLeaf, xf_NoLeaf, xg_NoLeaf⟩, c_NoCell := C_NoCell, g_NoCell := PySem.W.mg_of X G g_NoCell, x_NoCell := x_NoCell, k_NoCell := kc_NoCell, bb_NoCell := bb_NoCell, t_NoCell := t_NoCell, xc_NoCell := ⟨xa_NoCell, xb_NoCell, bb_NoCell, xc_NoCell, xd_NoCell, xe_NoCell, xf_NoCell, xg_NoCell⟩, c_Rule := C_Rule, g_Rule := PySem.W.mg_of X G g_Rule, c_Plain := C_Plain, g_Plain := PySem.W.mg_of X G g_Plain, c_Moved := C_Moved, g_Moved := PySem.W.mg_of X G g_Moved, c_Mixed := C_Mixed, g_Mixed := PySem.W.mg_of X G g_Mixed, c_Leaf := C_Leaf, g_Leaf := PySem.W.mg_of X G g_Leaf, c_Full := C_Full, g_Full := PySem.W.mg_of X G g_Full, c_Still := C_Still, g_Still := PySem.W.mg_of X G g_Still, c_Woven := C_Woven, g_Woven := PySem.W.mg_of X G g_Woven, cl_Rule := ⟨p1_Rule, p2_Rule, p3_Rule, p4_Rule⟩, mkk_Rule := p5_Rule, na_Rule_worth := na_Rule_worth, na_Rule_back := na_Rule_back, na_Rule_cell := na_Rule_cell, na_Rule_added := na_Rule_added, na_Rule_other_back := na_Rule_other_back, na_Rule_other_cell := na_Rule_other_cell, na_Rule_begin := na_Rule_begin, na_Rule_span := na_Rule_span, na_Rule_worths := na_Rule_worths, na_Rule_rules := na_Rule_rules, na_Rule_cells := na_Rule_cells, na_Rule_rule := na_Rule_rule, mt_Rule_told := ⟨ma_Rule_told, mb_Rule_told, k2⟩, mt_Rule_needs := ⟨ma_Rule_needs, mb_Rule_needs, k3⟩, mt_Rule_value := ⟨ma_Rule_value, mb_Rule_value, k4⟩, cl_Plain := ⟨p1_Plain, p2_Plain, p3_Plain, p4_Plain⟩, mkk_Plain := p5_Plain, na_Plain_worth := na_Plain_worth, na_Plain_back := na_Plain_back, na_Plain_cell := na_Plain_cell, na_Plain_added := na_Plain_added, na_Plain_other_back := na_Plain_other_back, na_Plain_other_cell := na_Plain_other_cell, na_Plain_begin := na_Plain_begin, na_Plain_span := na_Plain_span, na_Plain_worths := na_Plain_worths, na_Plain_rules := na_Plain_rules, na_Plain_cells := na_Plain_cells, na_Plain_rule := na_Plain_rule, mk_Plain := ⟨p5_Plain, ma_Plain_init, mb_Plain_init, p6_Plain⟩, mt_Plain_str := ⟨ma_Plain_str, mb_Plain_str, k6⟩, mt_Plain_told := ⟨ma_Plain_told, mb_Plain_told, k7⟩, mt_Plain_needs := ⟨ma_Plain_needs, mb_Plain_needs, k8⟩, mt_Plain_value := ⟨ma_Plain_value, mb_Plain_value, k9⟩, cl_Moved := ⟨p1_Moved, p2_Moved, p3_Moved, p4_Moved⟩, mkk_Moved := p5_Moved, na_Moved_worth := na_Moved_worth, na_Moved_back := na_Moved_back, na_Moved_cell := na_Moved_cell, na_Moved_added := na_Moved_added, na_Moved_other_back := na_Moved_other_back, na_Moved_other_cell := na_Moved_other_cell, na_Moved_begin := na_Moved_begin, na_Moved_span := na_Moved_span, na_Moved_worths := na_Moved_worths, na_Moved_rules := na_Moved_rules, na_Moved_cells := na_Moved_cells, na_Moved_rule := na_Moved_rule, mk_Moved := ⟨p5_Moved, ma_Moved_init, mb_Moved_init, p6_Moved⟩, mt_Moved_str := ⟨ma_Moved_str, mb_Moved_str, k11⟩, mt_Moved_told := ⟨ma_Moved_told, mb_Moved_told, k12⟩, mt_Moved_needs := ⟨ma_Moved_needs, mb_Moved_needs, k13⟩, mt_Moved_value := ⟨ma_Moved_value, mb_Moved_value, k14⟩, cl_Mixed := ⟨p1_Mixed, p2_Mixed, p3_Mixed, p4_Mixed⟩, mkk_Mixed := p5_Mixed, na_Mixed_worth := na_Mixed_worth, na_Mixed_back := na_Mixed_back, na_Mixed_cell := na_Mixed_cell, na_Mixed_added := na_Mixed_added, na_Mixed_other_back := na_Mixed_other_back, na_Mixed_other_cell := na_Mixed_other_cell, na_Mixed_begin := na_Mixed_begin, na_Mixed_span := na_Mixed_span, na_Mixed_worths := na_Mixed_worths, na_Mixed_rules := na_Mixed_rules, na_Mixed_cells := na_Mixed_cells, na_Mixed_rule := na_Mixed_rule, mk_Mixed := ⟨p5_Mixed, ma_Mixed_init, mb_Mixed_init, p6_Mixed⟩, mt_Mixed_str := ⟨ma_Mixed_str, mb_Mixed_str, k16⟩, mt_Mixed_told := ⟨ma_Mixed_told, mb_Mixed_told, k17⟩, mt_Mixed_needs := ⟨ma_Mixed_needs, mb_Mixed_needs, k18⟩, mt_Mixed_value := ⟨ma_Mixed_value, mb_Mixed_value, k19⟩, cl_Leaf := ⟨p1_Leaf, p2_Leaf, p3_Leaf, p4_Leaf⟩, mkk_Leaf := p5_Leaf, na_Leaf_worth := na_Leaf_worth, na_Leaf_back := na_Leaf_back, na_Leaf_cell := na_Leaf_cell, na_Leaf_added := na_Leaf_added, na_Leaf_other_back := na_Leaf_other_back, na_Leaf_other_cell := na_Leaf_other_cell, na_Leaf_begin := na_Leaf_begin, na_Leaf_span := na_Leaf_span, na_Leaf_worths := na_Leaf_worths, na_Leaf_rules := na_Leaf_rules, na_Leaf_needs := na_Leaf_needs, mk_Leaf := ⟨p5_Leaf, ma_Leaf_init, mb_Leaf_init, p6_Leaf⟩, mt_Leaf_told := ⟨ma_Leaf_told, mb_Leaf_told, k26⟩, mt_Leaf_cells := ⟨ma_Leaf_cells, mb_Leaf_cells, k27⟩, mt_Leaf_rule := ⟨ma_Leaf_rule, mb_Leaf_rule, k28⟩, cl_Full := ⟨p1_Full, p2_Full, p3_Full, p4_Full⟩, mkk_Full := p5_Full, na_Full_worth := na_Full_worth, na_Full_back := na_Full_back, na_Full_cell := na_Full_cell, na_Full_added := na_Full_added, na_Full_other_back := na_Full_other_back, na_Full_other_cell := na_Full_other_cell, na_Full_begin := na_Full_begin, na_Full_span := na_Full_span, na_Full_worths := na_Full_worths, na_Full_rules := na_Full_rules, na_Full_needs := na_Full_needs, mk_Full := ⟨p5_Full, ma_Full_init, mb_Full_init, p6_Full⟩, mt_Full_told := ⟨ma_Full_told, mb_Full_told, k30⟩, mt_Full_cells := ⟨ma_Full_cells, mb_Full_cells, k31⟩, mt_Full_rule := ⟨ma_Full_rule, mb_Full_rule, k32⟩, cl_Still := ⟨p1_Still, p2_Still, p3_Still, p4_Still⟩, mkk_Still := p5_Still, na_Still_worth := na_Still_worth, na_Still_back := na_Still_back, na_Still_cell := na_Still_cell, na_Still_added := na_Still_added, na_Still_other_back := na_Still_other_back, na_Still_other_cell := na_Still_other_cell, na_Still_begin := na_Still_begin, na_Still_span := na_Still_span, na_Still_worths := na_Still_worths, na_Still_rules := na_Still_rules, na_Still_needs := na_Still_needs, mk_Still := ⟨p5_Still, ma_Still_init, mb_Still_init, p6_Still⟩, mt_Still_told := ⟨ma_Still_told, mb_Still_told, k34⟩, mt_Still_cells := ⟨ma_Still_cells, mb_Still_cells, k35⟩, mt_Still_rule := ⟨ma_Still_rule, mb_Still_rule, k36⟩, cl_Woven := ⟨p1_Woven, p2_Woven, p3_Woven, p4_Woven⟩, mkk_Woven := p5_Woven, na_Woven_worth := na_Woven_worth, na_Woven_back := na_Woven_back, na_Woven_cell := na_Woven_cell, na_Woven_added := na_Woven_added, na_Woven_other_back := na_Woven_other_back, na_Woven_other_cell := na_Woven_other_cell, na_Woven_begin := na_Woven_begin, na_Woven_span := na_Woven_span, na_Woven_worths := na_Woven_worths, na_Woven_rules := na_Woven_rules, na_Woven_needs := na_Woven_needs, mk_Woven := ⟨p5_Woven, ma_Woven_init, mb_Woven_init, p6_Woven⟩, mt_Woven_told := ⟨ma_Woven_told, mb_Woven_told, k38⟩, mt_Woven_cells := ⟨ma_Woven_cells, mb_Woven_cells, k39⟩, mt_Woven_rule := ⟨ma_Woven_rule, mb_Woven_rule, k40⟩ }⟩
end LK
open PySem PySem.W PyProof.Rows
set_option maxHeartbeats 0 in
theorem PySem.Challenge.cw_lanescroll_k08_leaves_that_fit_holds : PySem.Challenge.rw_lanescroll_k08_leaves_that_fit.Holds := by
  w_on; o_law; k_head; (case hw => w_witness2)
  k_fill
  refine L2.walk_of (l := PySem.Challenge.rw_lanescroll_k08_leaves_that_fit) (n := 63) (k := 9) (x := "_law_script") (CX := fun _ => L2.CX0) (sp := fun w => LK.spLaw _) rfl (by decide) rfl ⟨rfl, by decide, by decide⟩ (fun w h Y => PySem.W.kIn_of Y) ?F (fun _ _ a ns hl _ hS => ⟨a, ns, rfl, hS, hl, fun _ => rfl⟩) (fun _ _ _ _ _ h => h)
  case F =>
    intro w mg fa h KX G hmg
    refine' LK.all_mk KX G hmg ?a0 ?l0 ?c0 ?k0 ?a1 ?l1 ?c1 ?k1 ?y2 ?a2 ?l2 ?c2 ?k2 ?y3 ?a3 ?l3 ?c3 ?k3 ?y4 ?a4 ?l4 ?c4 ?k4 ?y5 ?a5 ?l5 ?c5 ?k5 ?y6 ?a6 ?l6 ?c6 ?k6 ?y7 ?a7 ?l7 ?c7 ?k7 ?y8 ?a8 ?l8 ?c8 ?k8 ?y9 ?a9 ?l9 ?c9 ?k9 ?y10 ?a10 ?l10 ?c10 ?k10 ?y11 ?a11 ?l11 ?c11 ?k11 ?y12 ?a12 ?l12 ?c12 ?k12 ?y13 ?a13 ?l13 ?c13 ?k13 ?y14 ?a14 ?l14 ?c14 ?k14 ?y15 ?a15 ?l15 ?c15 ?k15 ?y16 ?a16 ?l16 ?c16 ?k16 ?y17 ?a17 ?l17 ?c17 ?k17 ?y18 ?a18 ?l18 ?c18 ?k18 ?y19 ?a19 ?l19 ?c19 ?k19 ?a20 ?l20 ?c20 ?k20 ?a21 ?l21 ?c21 ?k21 ?a22 ?l22 ?c22 ?k22 ?a23 ?l23 ?c23 ?k23 ?a24 ?l24 ?c24 ?k24 ?y25 ?a25 ?l25 ?c25 ?k25 ?y26 ?a26 ?l26 ?c26 ?k26 ?y27 ?a27 ?l27 ?c27 ?k27 ?y28 ?a28 ?l28 ?c28 ?k28 ?y29 ?a29 ?l29 ?c29 ?u1_29 ?u2_29 ?u3_29 ?u4_29 ?u5_29 ?u6_29 ?u7_29 ?u8_29 ?u9_29 ?v1_29 ?v2_29 ?v3_29 ?v4_29 ?v5_29 ?k29 ?y30 ?a30 ?l30 ?c30 ?k30 ?y31 ?a31 ?l31 ?c31 ?k31 ?y32 ?a32 ?l32 ?c32 ?k32 ?y33 ?a33 ?l33 ?c33 ?u1_33 ?u2_33 ?u3_33 ?u4_33 ?u5_33 ?u6_33 ?u7_33 ?u8_33 ?u9_33 ?v1_33 ?v2_33 ?v3_33 ?v4_33 ?v5_33 ?k33 ?y34 ?a34 ?l34 ?c34 ?k34 ?y35 ?a35 ?l35 ?c35 ?k35 ?y36 ?a36 ?l36 ?c36 ?k36 ?y37 ?a37 ?l37 ?c37 ?u1_37 ?u2_37 ?u3_37 ?u4_37 ?u5_37 ?u6_37 ?u7_37 ?u8_37 ?u9_37 ?v1_37 ?v2_37 ?v3_37 ?v4_37 ?v5_37 ?k37 ?y38 ?a38 ?l38 ?c38 ?k38 ?y39 ?a39 ?l39 ?c39 ?k39 ?y40 ?a40 ?l40 ?c40 ?k40 ?a41 ?l41 ?c41 ?k41 ?a42 ?l42 ?c42 ?k42 ?a43 ?l43 ?c43 ?k43 ?a44 ?l44 ?c44 ?k44 ?a45 ?l45 ?c45 ?k45 ?a46 ?l46 ?c46 ?k46 ?a47 ?l47 ?c47 ?k47 ?a48 ?l48 ?c48 ?k48 ?a49 ?l49 ?c49 ?k49 ?a50 ?l50 ?c50 ?k50 ?a51 ?l51 ?c51 ?k51 ?a52 ?l52 ?c52 ?k52 ?a53 ?l53 ?c53 ?k53 ?a54 ?l54 ?c54 ?k54 ?a55 ?l55 ?c55 ?k55 ?z_all ?z_bool ?z_int ?z_isinstance ?z_len ?z_max ?z_min ?z_range ?z_str ?z_tuple ?g_GREATEST_VALUE ?g_GREATEST_BACK ?g_LAST_CELL ?g_GREATEST_TIME ?g_MOST_CELLS ?g_ScrollError ?g_NoRule ?x_NoRule ?kc_NoRule ?bb_NoRule ?t_NoRule ?xa_NoRule ?xb_NoRule ?xc_NoRule ?xd_NoRule ?xe_NoRule ?xf_NoRule ?xg_NoRule ?g_NoLeaf ?x_NoLeaf ?kc_NoLeaf ?bb_NoLeaf ?t_NoLeaf ?xa_NoLeaf ?xb_NoLeaf ?xc_NoLeaf ?xd_NoLeaf ?xe_NoLeaf ?xf_NoLeaf ?xg_NoLeaf ?g_NoCell ?x_NoCell ?kc_NoCell ?bb_NoCell ?t_NoCell ?xa_NoCell ?xb_NoCell ?xc_NoCell ?xd_NoCell ?xe_NoCell ?xf_NoCell ?xg_NoCell ?g_Rule ?g_Plain ?g_Moved ?g_Mixed ?g_Leaf ?g_Full ?g_Still ?g_Woven ?p1_Rule ?p2_Rule ?p3_Rule ?p4_Rule ?p5_Rule ?p6_Rule ?na_Rule_worth ?na_Rule_back ?na_Rule_cell ?na_Rule_added ?na_Rule_other_back ?na_Rule_other_cell ?na_Rule_begin ?na_Rule_span ?na_Rule_worths ?na_Rule_rules ?na_Rule_cells ?na_Rule_rule ?ma_Rule_told ?mb_Rule_told ?ma_Rule_needs ?mb_Rule_needs ?ma_Rule_value ?mb_Rule_value ?p1_Plain ?p2_Plain ?p3_Plain ?p4_Plain ?p5_Plain ?p6_Plain ?na_Plain_worth ?na_Plain_back ?na_Plain_cell ?na_Plain_added ?na_Plain_other_back ?na_Plain_other_cell ?na_Plain_begin ?na_Plain_span ?na_Plain_worths ?na_Plain_rules ?na_Plain_cells ?na_Plain_rule ?ma_Plain_init ?mb_Plain_init ?ma_Plain_str ?mb_Plain_str ?ma_Plain_told ?mb_Plain_told ?ma_Plain_needs ?mb_Plain_needs ?ma_Plain_value ?mb_Plain_value ?p1_Moved ?p2_Moved ?p3_Moved ?p4_Moved ?p5_Moved ?p6_Moved ?na_Moved_worth ?na_Moved_back ?na_Moved_cell ?na_Moved_added ?na_Moved_other_back ?na_Moved_other_cell ?na_Moved_begin ?na_Moved_span ?na_Moved_worths ?na_Moved_rules ?na_Moved_cells ?na_Moved_rule ?ma_Moved_init ?mb_Moved_init ?ma_Moved_str ?mb_Moved_str ?ma_Moved_told ?mb_Moved_told ?ma_Moved_needs ?mb_Moved_needs ?ma_Moved_value ?mb_Moved_value ?p1_Mixed ?p2_Mixed ?p3_Mixed ?p4_Mixed ?p5_Mixed ?p6_Mixed ?na_Mixed_worth ?na_Mixed_back ?na_Mixed_cell ?na_Mixed_added ?na_Mixed_other_back ?na_Mixed_other_cell ?na_Mixed_begin ?na_Mixed_span ?na_Mixed_worths ?na_Mixed_rules ?na_Mixed_cells ?na_Mixed_rule ?ma_Mixed_init ?mb_Mixed_init ?ma_Mixed_str ?mb_Mixed_str ?ma_Mixed_told ?mb_Mixed_told ?ma_Mixed_needs ?mb_Mixed_needs ?ma_Mixed_value ?mb_Mixed_value ?p1_Leaf ?p2_Leaf ?p3_Leaf ?p4_Leaf ?p5_Leaf ?p6_Leaf ?na_Leaf_worth ?na_Leaf_back ?na_Leaf_cell ?na_Leaf_added ?na_Leaf_other_back ?na_Leaf_other_cell ?na_Leaf_begin ?na_Leaf_span ?na_Leaf_worths ?na_Leaf_rules ?na_Leaf_needs ?ma_Leaf_init ?mb_Leaf_init ?ma_Leaf_told ?mb_Leaf_told ?ma_Leaf_cells ?mb_Leaf_cells ?ma_Leaf_rule ?mb_Leaf_rule ?p1_Full ?p2_Full ?p3_Full ?p4_Full ?p5_Full ?p6_Full ?na_Full_worth ?na_Full_back ?na_Full_cell ?na_Full_added ?na_Full_other_back ?na_Full_other_cell ?na_Full_begin ?na_Full_span ?na_Full_worths ?na_Full_rules ?na_Full_needs ?ma_Full_init ?mb_Full_init ?ma_Full_told ?mb_Full_told ?ma_Full_cells ?mb_Full_cells ?ma_Full_rule ?mb_Full_rule ?p1_Still ?p2_Still ?p3_Still ?p4_Still ?p5_Still ?p6_Still ?na_Still_worth ?na_Still_back ?na_Still_cell ?na_Still_added ?na_Still_other_back ?na_Still_other_cell ?na_Still_begin ?na_Still_span ?na_Still_worths ?na_Still_rules ?na_Still_needs ?ma_Still_init ?mb_Still_init ?ma_Still_told ?mb_Still_told ?ma_Still_cells ?mb_Still_cells ?ma_Still_rule ?mb_Still_rule ?p1_Woven ?p2_Woven ?p3_Woven ?p4_Woven ?p5_Woven ?p6_Woven ?na_Woven_worth ?na_Woven_back ?na_Woven_cell ?na_Woven_added ?na_Woven_other_back ?na_Woven_other_cell ?na_Woven_begin ?na_Woven_span ?na_Woven_worths ?na_Woven_rules ?na_Woven_needs ?ma_Woven_init ?mb_Woven_init ?ma_Woven_told ?mb_Woven_told ?ma_Woven_cells ?mb_Woven_cells ?ma_Woven_rule ?mb_Woven_rule
    (case a0 => k_is)
    (case l0 => k_is)
    (case c0 => k_is)
    (case k0 => k_is)
    (case a1 => k_is)
    (case l1 => k_is)
    (case c1 => k_is)
    (case k1 => k_is)
    (case y2 => k_is)
    (case a2 => k_is)
    (case l2 => k_is)
    (case c2 => k_is)
    (case k2 => k_is)
    (case y3 => k_is)
    (case a3 => k_is)
    (case l3 => k_is)
    (case c3 => k_is)
    (case k3 => k_is)
    (case y4 => k_is)
    (case a4 => k_is)
    (case l4 => k_is)
    (case c4 => k_is)
    (case k4 => k_is)
    (case y5 => k_is)
    (case a5 => k_is)
    (case l5 => k_is)
    (case c5 => k_is)
    (case k5 => k_is)
    (case y6 => k_is)
    (case a6 => k_is)
    (case l6 => k_is)
    (case c6 => k_is)
    (case k6 => k_is)
    (case y7 => k_is)
    (case a7 => k_is)
    (case l7 => k_is)
    (case c7 => k_is)
    (case k7 => k_is)
    (case y8 => k_is)
    (case a8 => k_is)
    (case l8 => k_is)
    (case c8 => k_is)
    (case k8 => k_is)
    (case y9 => k_is)
    (case a9 => k_is)
    (case l9 => k_is)
    (case c9 => k_is)
    (case k9 => k_is)
    (case y10 => k_is)
    (case a10 => k_is)
    (case l10 => k_is)
    (case c10 => k_is)
    (case k10 => k_is)
    (case y11 => k_is)
    (case a11 => k_is)
    (case l11 => k_is)
    (case c11 => k_is)
    (case k11 => k_is)
    (case y12 => k_is)
    (case a12 => k_is)
    (case l12 => k_is)
    (case c12 => k_is)
    (case k12 => k_is)
    (case y13 => k_is)
    (case a13 => k_is)
    (case l13 => k_is)
    (case c13 => k_is)
    (case k13 => k_is)
    (case y14 => k_is)
    (case a14 => k_is)
    (case l14 => k_is)
    (case c14 => k_is)
    (case k14 => k_is)
    (case y15 => k_is)
    (case a15 => k_is)
    (case l15 => k_is)
    (case c15 => k_is)
    (case k15 => k_is)
    (case y16 => k_is)
    (case a16 => k_is)
    (case l16 => k_is)
    (case c16 => k_is)
    (case k16 => k_is)
    (case y17 => k_is)
    (case a17 => k_is)
    (case l17 => k_is)
    (case c17 => k_is)
    (case k17 => k_is)
    (case y18 => k_is)
    (case a18 => k_is)
    (case l18 => k_is)
    (case c18 => k_is)
    (case k18 => k_is)
    (case y19 => k_is)
    (case a19 => k_is)
    (case l19 => k_is)
    (case c19 => k_is)
    (case k19 => k_is)
    (case a20 => k_is)
    (case l20 => k_is)
    (case c20 => k_is)
    (case k20 => k_is)
    (case a21 => k_is)
    (case l21 => k_is)
    (case c21 => k_is)
    (case k21 => k_is)
    (case a22 => k_is)
    (case l22 => k_is)
    (case c22 => k_is)
    (case k22 => k_is)
    (case a23 => k_is)
    (case l23 => k_is)
    (case c23 => k_is)
    (case k23 => k_is)
    (case a24 => k_is)
    (case l24 => k_is)
    (case c24 => k_is)
    (case k24 => k_is)
    (case y25 => k_is)
    (case a25 => k_is)
    (case l25 => k_is)
    (case c25 => k_is)
    (case k25 => k_is)
    (case y26 => k_is)
    (case a26 => k_is)
    (case l26 => k_is)
    (case c26 => k_is)
    (case k26 => k_is)
    (case y27 => k_is)
    (case a27 => k_is)
    (case l27 => k_is)
    (case c27 => k_is)
    (case k27 => k_is)
    (case y28 => k_is)
    (case a28 => k_is)
    (case l28 => k_is)
    (case c28 => k_is)
    (case k28 => k_is)
    (case y29 => k_is)
    (case a29 => k_is)
    (case l29 => k_is)
    (case c29 => k_is)
    (case u1_29 => k_is)
    (case u2_29 => first | rfl | decide +kernel | k_is)
    (case u3_29 => first | rfl | decide +kernel | k_is)
    (case u4_29 => k_is)
    (case u5_29 => k_is)
    (case u6_29 => k_is)
    (case u7_29 => k_is)
    (case u8_29 => first | rfl | decide +kernel | k_is)
    (case u9_29 => ks_is)
    (case v1_29 => k_is)
    (case v2_29 => k_is)
    (case v3_29 => k_is)
    (case v4_29 => first | rfl | decide +kernel | k_is)
    (case v5_29 => first | rfl | decide +kernel | k_is)
    (case k29 => k_is)
    (case y30 => k_is)
    (case a30 => k_is)
    (case l30 => k_is)
    (case c30 => k_is)
    (case k30 => k_is)
    (case y31 => k_is)
    (case a31 => k_is)
    (case l31 => k_is)
    (case c31 => k_is)
    (case k31 => k_is)
    (case y32 => k_is)
    (case a32 => k_is)
    (case l32 => k_is)
    (case c32 => k_is)
    (case k32 => k_is)
    (case y33 => k_is)
    (case a33 => k_is)
    (case l33 => k_is)
    (case c33 => k_is)
    (case u1_33 => k_is)
    (case u2_33 => first | rfl | decide +kernel | k_is)
    (case u3_33 => first | rfl | decide +kernel | k_is)
    (case u4_33 => k_is)
    (case u5_33 => k_is)
    (case u6_33 => k_is)
    (case u7_33 => k_is)
    (case u8_33 => first | rfl | decide +kernel | k_is)
    (case u9_33 => ks_is)
    (case v1_33 => k_is)
    (case v2_33 => k_is)
    (case v3_33 => k_is)
    (case v4_33 => first | rfl | decide +kernel | k_is)
    (case v5_33 => first | rfl | decide +kernel | k_is)
    (case k33 => k_is)
    (case y34 => k_is)
    (case a34 => k_is)
    (case l34 => k_is)
    (case c34 => k_is)
    (case k34 => k_is)
    (case y35 => k_is)
    (case a35 => k_is)
    (case l35 => k_is)
    (case c35 => k_is)
    (case k35 => k_is)
    (case y36 => k_is)
    (case a36 => k_is)
    (case l36 => k_is)
    (case c36 => k_is)
    (case k36 => k_is)
    (case y37 => k_is)
    (case a37 => k_is)
    (case l37 => k_is)
    (case c37 => k_is)
    (case u1_37 => k_is)
    (case u2_37 => first | rfl | decide +kernel | k_is)
    (case u3_37 => first | rfl | decide +kernel | k_is)
    (case u4_37 => k_is)
    (case u5_37 => k_is)
    (case u6_37 => k_is)
    (case u7_37 => k_is)
    (case u8_37 => first | rfl | decide +kernel | k_is)
    (case u9_37 => ks_is)
    (case v1_37 => k_is)
    (case v2_37 => k_is)
    (case v3_37 => k_is)
    (case v4_37 => first | rfl | decide +kernel | k_is)
    (case v5_37 => first | rfl | decide +kernel | k_is)
    (case k37 => k_is)
    (case y38 => k_is)
    (case a38 => k_is)
    (case l38 => k_is)
    (case c38 => k_is)
    (case k38 => k_is)
    (case y39 => k_is)
    (case a39 => k_is)
    (case l39 => k_is)
    (case c39 => k_is)
    (case k39 => k_is)
    (case y40 => k_is)
    (case a40 => k_is)
    (case l40 => k_is)
    (case c40 => k_is)
    (case k40 => k_is)
    (case a41 => k_is)
    (case l41 => k_is)
    (case c41 => k_is)
    (case k41 => k_is)
    (case a42 => k_is)
    (case l42 => k_is)
    (case c42 => k_is)
    (case k42 => k_is)
    (case a43 => k_is)
    (case l43 => k_is)
    (case c43 => k_is)
    (case k43 => k_is)
    (case a44 => k_is)
    (case l44 => k_is)
    (case c44 => k_is)
    (case k44 => k_is)
    (case a45 => k_is)
    (case l45 => k_is)
    (case c45 => k_is)
    (case k45 => k_is)
    (case a46 => k_is)
    (case l46 => k_is)
    (case c46 => k_is)
    (case k46 => k_is)
    (case a47 => k_is)
    (case l47 => k_is)
    (case c47 => k_is)
    (case k47 => k_is)
    (case a48 => k_is)
    (case l48 => k_is)
    (case c48 => k_is)
    (case k48 => k_is)
    (case a49 => k_is)
    (case l49 => k_is)
    (case c49 => k_is)
    (case k49 => k_is)
    (case a50 => k_is)
    (case l50 => k_is)
    (case c50 => k_is)
    (case k50 => k_is)
    (case a51 => k_is)
    (case l51 => k_is)
    (case c51 => k_is)
    (case k51 => k_is)
    (case a52 => k_is)
    (case l52 => k_is)
    (case c52 => k_is)
    (case k52 => k_is)
    (case a53 => k_is)
    (case l53 => k_is)
    (case c53 => k_is)
    (case k53 => k_is)
    (case a54 => k_is)
    (case l54 => k_is)
    (case c54 => k_is)
    (case k54 => k_is)
    (case a55 => k_is)
    (case l55 => k_is)
    (case c55 => k_is)
    (case k55 => k_is)
    (case z_all => k_is)
    (case z_bool => k_is)
    (case z_int => k_is)
    (case z_isinstance => k_is)
    (case z_len => k_is)
    (case z_max => k_is)
    (case z_min => k_is)
    (case z_range => k_is)
    (case z_str => k_is)
    (case z_tuple => k_is)
    (case g_GREATEST_VALUE => k_is)
    (case g_GREATEST_BACK => k_is)
    (case g_LAST_CELL => k_is)
    (case g_GREATEST_TIME => k_is)
    (case g_MOST_CELLS => k_is)
    (case g_ScrollError => k_is)
    (case g_NoRule => k_is)
    (case x_NoRule => k_exc)
    (case kc_NoRule => k_is)
    (case bb_NoRule => k_is)
    (case t_NoRule => k_is)
    (case xa_NoRule => k_is)
    (case xb_NoRule => k_is)
    (case xc_NoRule => k_is)
    (case xd_NoRule => k_is)
    (case xe_NoRule => k_is)
    (case xf_NoRule => k_is)
    (case xg_NoRule => k_is)
    (case g_NoLeaf => k_is)
    (case x_NoLeaf => k_exc)
    (case kc_NoLeaf => k_is)
    (case bb_NoLeaf => k_is)
    (case t_NoLeaf => k_is)
    (case xa_NoLeaf => k_is)
    (case xb_NoLeaf => k_is)
    (case xc_NoLeaf => k_is)
    (case xd_NoLeaf => k_is)
    (case xe_NoLeaf => k_is)
    (case xf_NoLeaf => k_is)
    (case xg_NoLeaf => k_is)
    (case g_NoCell => k_is)
    (case x_NoCell => k_exc)
    (case kc_NoCell => k_is)
    (case bb_NoCell => k_is)
    (case t_NoCell => k_is)
    (case xa_NoCell => k_is)
    (case xb_NoCell => k_is)
    (case xc_NoCell => k_is)
    (case xd_NoCell => k_is)
    (case xe_NoCell => k_is)
    (case xf_NoCell => k_is)
    (case xg_NoCell => k_is)
    (case g_Rule => k_is)
    (case g_Plain => k_is)
    (case g_Moved => k_is)
    (case g_Mixed => k_is)
    (case g_Leaf => k_is)
    (case g_Full => k_is)
    (case g_Still => k_is)
    (case g_Woven => k_is)
    (case p1_Rule => k_is)
    (case p2_Rule => k_is)
    (case p3_Rule => k_is)
    (case p4_Rule => k_is)
    (case p5_Rule => k_is)
    (case p6_Rule => k_is)
    (case na_Rule_worth => k_is)
    (case na_Rule_back => k_is)
    (case na_Rule_cell => k_is)
    (case na_Rule_added => k_is)
    (case na_Rule_other_back => k_is)
    (case na_Rule_other_cell => k_is)
    (case na_Rule_begin => k_is)
    (case na_Rule_span => k_is)
    (case na_Rule_worths => k_is)
    (case na_Rule_rules => k_is)
    (case na_Rule_cells => k_is)
    (case na_Rule_rule => k_is)
    (case ma_Rule_told => k_is)
    (case mb_Rule_told => k_is)
    (case ma_Rule_needs => k_is)
    (case mb_Rule_needs => k_is)
    (case ma_Rule_value => k_is)
    (case mb_Rule_value => k_is)
    (case p1_Plain => k_is)
    (case p2_Plain => k_is)
    (case p3_Plain => k_is)
    (case p4_Plain => k_is)
    (case p5_Plain => k_is)
    (case p6_Plain => k_is)
    (case na_Plain_worth => k_is)
    (case na_Plain_back => k_is)
    (case na_Plain_cell => k_is)
    (case na_Plain_added => k_is)
    (case na_Plain_other_back => k_is)
    (case na_Plain_other_cell => k_is)
    (case na_Plain_begin => k_is)
    (case na_Plain_span => k_is)
    (case na_Plain_worths => k_is)
    (case na_Plain_rules => k_is)
    (case na_Plain_cells => k_is)
    (case na_Plain_rule => k_is)
    (case ma_Plain_init => k_is)
    (case mb_Plain_init => k_is)
    (case ma_Plain_str => k_is)
    (case mb_Plain_str => k_is)
    (case ma_Plain_told => k_is)
    (case mb_Plain_told => k_is)
    (case ma_Plain_needs => k_is)
    (case mb_Plain_needs => k_is)
    (case ma_Plain_value => k_is)
    (case mb_Plain_value => k_is)
    (case p1_Moved => k_is)
    (case p2_Moved => k_is)
    (case p3_Moved => k_is)
    (case p4_Moved => k_is)
    (case p5_Moved => k_is)
    (case p6_Moved => k_is)
    (case na_Moved_worth => k_is)
    (case na_Moved_back => k_is)
    (case na_Moved_cell => k_is)
    (case na_Moved_added => k_is)
    (case na_Moved_other_back => k_is)
    (case na_Moved_other_cell => k_is)
    (case na_Moved_begin => k_is)
    (case na_Moved_span => k_is)
    (case na_Moved_worths => k_is)
    (case na_Moved_rules => k_is)
    (case na_Moved_cells => k_is)
    (case na_Moved_rule => k_is)
    (case ma_Moved_init => k_is)
    (case mb_Moved_init => k_is)
    (case ma_Moved_str => k_is)
    (case mb_Moved_str => k_is)
    (case ma_Moved_told => k_is)
    (case mb_Moved_told => k_is)
    (case ma_Moved_needs => k_is)
    (case mb_Moved_needs => k_is)
    (case ma_Moved_value => k_is)
    (case mb_Moved_value => k_is)
    (case p1_Mixed => k_is)
    (case p2_Mixed => k_is)
    (case p3_Mixed => k_is)
    (case p4_Mixed => k_is)
    (case p5_Mixed => k_is)
    (case p6_Mixed => k_is)
    (case na_Mixed_worth => k_is)
    (case na_Mixed_back => k_is)
    (case na_Mixed_cell => k_is)
    (case na_Mixed_added => k_is)
    (case na_Mixed_other_back => k_is)
    (case na_Mixed_other_cell => k_is)
    (case na_Mixed_begin => k_is)
    (case na_Mixed_span => k_is)
    (case na_Mixed_worths => k_is)
    (case na_Mixed_rules => k_is)
    (case na_Mixed_cells => k_is)
    (case na_Mixed_rule => k_is)
    (case ma_Mixed_init => k_is)
    (case mb_Mixed_init => k_is)
    (case ma_Mixed_str => k_is)
    (case mb_Mixed_str => k_is)
    (case ma_Mixed_told => k_is)
    (case mb_Mixed_told => k_is)
    (case ma_Mixed_needs => k_is)
    (case mb_Mixed_needs => k_is)
    (case ma_Mixed_value => k_is)
    (case mb_Mixed_value => k_is)
    (case p1_Leaf => k_is)
    (case p2_Leaf => k_is)
    (case p3_Leaf => k_is)
    (case p4_Leaf => k_is)
    (case p5_Leaf => k_is)
    (case p6_Leaf => k_is)
    (case na_Leaf_worth => k_is)
    (case na_Leaf_back => k_is)
    (case na_Leaf_cell => k_is)
    (case na_Leaf_added => k_is)
    (case na_Leaf_other_back => k_is)
    (case na_Leaf_other_cell => k_is)
    (case na_Leaf_begin => k_is)
    (case na_Leaf_span => k_is)
    (case na_Leaf_worths => k_is)
    (case na_Leaf_rules => k_is)
    (case na_Leaf_needs => k_is)
    (case ma_Leaf_init => k_is)
    (case mb_Leaf_init => k_is)
    (case ma_Leaf_told => k_is)
    (case mb_Leaf_told => k_is)
    (case ma_Leaf_cells => k_is)
    (case mb_Leaf_cells => k_is)
    (case ma_Leaf_rule => k_is)
    (case mb_Leaf_rule => k_is)
    (case p1_Full => k_is)
    (case p2_Full => k_is)
    (case p3_Full => k_is)
    (case p4_Full => k_is)
    (case p5_Full => k_is)
    (case p6_Full => k_is)
    (case na_Full_worth => k_is)
    (case na_Full_back => k_is)
    (case na_Full_cell => k_is)
    (case na_Full_added => k_is)
    (case na_Full_other_back => k_is)
    (case na_Full_other_cell => k_is)
    (case na_Full_begin => k_is)
    (case na_Full_span => k_is)
    (case na_Full_worths => k_is)
    (case na_Full_rules => k_is)
    (case na_Full_needs => k_is)
    (case ma_Full_init => k_is)
    (case mb_Full_init => k_is)
    (case ma_Full_told => k_is)
    (case mb_Full_told => k_is)
    (case ma_Full_cells => k_is)
    (case mb_Full_cells => k_is)
    (case ma_Full_rule => k_is)
    (case mb_Full_rule => k_is)
    (case p1_Still => k_is)
    (case p2_Still => k_is)
    (case p3_Still => k_is)
    (case p4_Still => k_is)
    (case p5_Still => k_is)
    (case p6_Still => k_is)
    (case na_Still_worth => k_is)
    (case na_Still_back => k_is)
    (case na_Still_cell => k_is)
    (case na_Still_added => k_is)
    (case na_Still_other_back => k_is)
    (case na_Still_other_cell => k_is)
    (case na_Still_begin => k_is)
    (case na_Still_span => k_is)
    (case na_Still_worths => k_is)
    (case na_Still_rules => k_is)
    (case na_Still_needs => k_is)
    (case ma_Still_init => k_is)
    (case mb_Still_init => k_is)
    (case ma_Still_told => k_is)
    (case mb_Still_told => k_is)
    (case ma_Still_cells => k_is)
    (case mb_Still_cells => k_is)
    (case ma_Still_rule => k_is)
    (case mb_Still_rule => k_is)
    (case p1_Woven => k_is)
    (case p2_Woven => k_is)
    (case p3_Woven => k_is)
    (case p4_Woven => k_is)
    (case p5_Woven => k_is)
    (case p6_Woven => k_is)
    (case na_Woven_worth => k_is)
    (case na_Woven_back => k_is)
    (case na_Woven_cell => k_is)
    (case na_Woven_added => k_is)
    (case na_Woven_other_back => k_is)
    (case na_Woven_other_cell => k_is)
    (case na_Woven_begin => k_is)
    (case na_Woven_span => k_is)
    (case na_Woven_worths => k_is)
    (case na_Woven_rules => k_is)
    (case na_Woven_needs => k_is)
    (case ma_Woven_init => k_is)
    (case mb_Woven_init => k_is)
    (case ma_Woven_told => k_is)
    (case mb_Woven_told => k_is)
    (case ma_Woven_cells => k_is)
    (case mb_Woven_cells => k_is)
    (case ma_Woven_rule => k_is)
    (case mb_Woven_rule => k_is)
