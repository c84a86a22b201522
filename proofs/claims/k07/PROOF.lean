import PyProof.Rows.All
import Wide.All
import OpenK.AllK
import Wide.FinOn
import PySem.Challenge.RW_lanescroll_k07_no_leaves
import HandS.ForMost
import HandS.ForExc
import HandS.IsInst
import HandS.TupLe
import HandS.Wide
import HandS.Defaults
import HandS.ExcIs
import HandS.Style
import HandS.Walk
import KE.KCallOwn
import KE.KSuper
import HandS.FStr
import HandS.MakeKwOnly
import HandS.Star
import PyProof.CollectIter
import PyProof.WalksMore
import HandS.CallLocal
import HandS.ExcOwn
import HandS.TupAny
set_option Elab.async false
set_option linter.all false
set_option maxRecDepth 100000
set_option maxHeartbeats 4000000
namespace LK
open PySem PySem.Spec PyProof.Rows L2
/-! ### a def whose first row is super().__init__(..) -/
structure ScS (N ps : List Str) (sc : Scope) : Prop where
  kind : sc.kind = .function
  co : sc.isCoroutine = false
  gen : sc.isGenerator = false
  nd : N.Nodup
  pre : N.take ps.length = ps
  par : ∀ x ∈ ps, sc.names.lookup x = some .local
  cls : sc.names.lookup ("__class__" : Str) = some .free
  own : ∀ y ∈ sc.names, y.2 = .free → y.1 = ("__class__" : Str)
  nocell : ∀ y ∈ sc.names, y.2 ≠ .cell
  sup : sc.names.lookup ("super" : Str) = some .globalImplicit
def cxS (CT : CXT) (P : Program) (w : World) (K : PySem.W.Frag) (mg : Str → Option Value) (base : Heap) (N : List Str) (qual : Str) (scope : Scope) (f : Addr) (cd : Value) (cc : Addr) (A : Around) (outer : List Env) (s : Shared) (H : Hp) (E : XK) : Cx where
  prog := P
  w := w
  K := K
  mg := mg
  base := base
  A := A.deeper (PySem.W.ksEnv qual scope s.heap.objs.size f cd cc)
  N := N
  s_0 := s
  H_0 := H
  env := PySem.W.ksEnv qual scope s.heap.objs.size f cd cc
  outer := outer
  stack := PySem.W.ksEnv qual scope s.heap.objs.size f cd cc :: outer
  ex := []
  calm := true
  fn := fun x => decide (x ≠ ("__class__" : Str))
  pn := []
  xe := fun e s' => wpAny (model P w) (A.deeper (PySem.W.ksEnv qual scope s.heap.objs.size f cd cc)) (leaving (PySem.W.ksEnv qual scope s.heap.objs.size f cd cc) e) (fun _ s'' => CT outer H s E e s'') (fun e' s'' => CT outer H s E e' s'') s'
section
variable {P : Program} {w : World} {K : PySem.W.Frag} {mg : Str → Option Value} {base : Heap} {N ps : List Str} {qual : Str} {scope : Scope} {f cc D : Addr} {cd : Value} {A : Around} {outer : List Env} {s : Shared} {H : Hp} {E : XK} {us : List Value} {vs : List V} {cl : Value} {cld : Option Addr} {csl : Array (Option Value)}
theorem lookup_mem {k : Str} {v : Value} : ∀ {l : List (Str × Value)}, (l.map (·.1)).Nodup → (k, v) ∈ l → l.lookup k = some v
  | [], _, m => nomatch m
  | (a, b) :: r, nd, m => by
    rw [List.map_cons, List.nodup_cons] at nd
    rw [List.lookup_cons]
    rcases List.mem_cons.mp m with e | m2
    · cases e
      rw [beq_self_eq_true]
    · have ne : (k == a) = false := by
        refine beq_eq_false_iff_ne.mpr fun e => ?_
        subst e
        exact nd.1 (List.mem_map.mpr ⟨_, m2, rfl⟩)
      rw [ne]
      exact lookup_mem nd.2 m2
theorem class_cell {x : Str} {c : Addr} (h : ([(("__class__" : Str), cc)] : List (Str × Addr)).lookup x = some c) : x = ("__class__" : Str) ∧ c = cc := by
  rw [List.lookup_cons] at h
  split at h
  · rename_i e
    exact ⟨by simpa using e, (Option.some.inj h).symm⟩
  · cases h
theorem invS {tk : Nat} {h0 : Heap} (S : ScS N ps scope) (hd : A.handled = none) (e0 : Env0 P w K mg base A outer s H) (hl : vs.length = ps.length) (r : Vals vs us) (cell : K.lookup cc = some ⟨cl, cld, .cell (some (.ref D)), csl⟩)
    (hns : h0.Ns s.heap.objs.size (fun x => (ps.zip us).reverse.lookup x)) (hk : ∀ b o, s.heap.get? b = some o → h0.get? b = some o) :
    Inv (cxS CX0 P w K mg base N qual scope f cd cc A outer s H E) [] (L2.start N vs) H { s with heap := h0, toks := tk } := by
  have hcb := e0.mod.kin _ _ cell
  have hcs := e0.bs _ _ hcb
  refine ⟨⟨e0.mod, S.kind, rfl, rfl, Nat.le_refl _, fun y z c h1 h2 => ?_, fun y hy => ?_, fun y c hf h => ?_, fun _ => hd, Around.frames_deeper e0.frames, .inr ⟨rfl, rfl⟩, fun b z => ?_, e0.bs, e0.bsz, fun b _ _ z => ?_, fun b z => ?_, e0.funs, e0.frf⟩,
    rfl, e0.bare, Un.kept hk, ⟨_, hns, fun i y v h1 h2 h3 => ?_⟩, fun y c h => ?_, e0.hok.fresh (Nat.le_refl _), fun y c h => ?_, fun p hp => ?_, e0.hok.kept hk, ?_⟩
  · rw [(class_cell h1).1, (class_cell h2).1]
  · have hy : scope.names.lookup y = some .cell ∨ scope.names.lookup y = some .free := hy
    rcases hy with hy | hy
    · exact absurd rfl (S.nocell _ (PySem.mem_of_lookup hy))
    · have e := S.own _ (PySem.mem_of_lookup hy) rfl
      have e : y = ("__class__" : Str) := e
      subst e
      exact ⟨cc, show List.lookup _ [(_, cc)] = some cc by rw [List.lookup_cons, beq_self_eq_true]⟩
  · have := (class_cell h).1
    exact absurd this (of_decide_eq_true hf)
  · cases z
  · cases z
  · cases z
  · have hi : i < vs.length := by
      refine Nat.lt_of_not_le fun le => ?_
      unfold L2.start at h2
      rw [List.getElem?_append_right (by simpa using le), List.getElem?_replicate] at h2
      split at h2 <;> cases h2
    have ha : vs[i]? = some v := by
      unfold L2.start at h2
      rw [List.getElem?_append_left (by simpa using hi), List.getElem?_map] at h2
      obtain ⟨a, e, e2⟩ := Option.map_eq_some_iff.mp h2
      cases e2
      exact e
    obtain ⟨u, hu, rv⟩ := r.get ha
    have hp : ps[i]? = some y := by
      rw [← S.pre, List.getElem?_take_of_lt (by omega)]
      exact h1
    have nd : ps.Nodup := by
      rw [← S.pre]
      exact S.nd.sublist (List.take_sublist _ _)
    refine ⟨u, rv, .inl ⟨S.par y (List.mem_of_getElem? hp), ?_⟩⟩
    refine lookup_mem ?_ (List.mem_reverse.mpr (List.mem_of_getElem? (i := i) ?_))
    · rw [List.map_reverse]
      rw [List.map_fst_zip (by rw [← r.length]; omega)]
      exact List.pairwise_reverse.mpr (nd.imp fun h => h.symm)
    · rw [List.getElem?_zip_eq_some]
      exact ⟨hp, hu⟩
  · rw [(class_cell h).2]
    exact ⟨_, _, hk _ _ hcs.1, rfl⟩
  · rw [(class_cell h).2]
    exact hcs.2
  · cases hp
  · unfold L2.start
    show _ = N.length
    have := congrArg List.length S.pre
    rw [List.length_take] at this
    rw [List.length_append, List.length_map, List.length_replicate]
    omega
end
/-- what stands behind the top of a def that says super().__init__(..): D its class, f2 the __init__ that is meant -/
structure Sup (P : Program) (K : PySem.W.Frag) (name qual : Str) (params : Arguments) (body : List Stmt) (scope : Scope) (p0 : Str) (f D f2 cc cda : Addr) (fd : FuncData) : Prop where
  ex : ∃ (oc : Value) (od : Option Addr) (kV doc pm ct : Value) (an : Option Addr) (osl : Array (Option Value)), fd = PySem.W.ksFn name qual params body scope .none kV doc pm an (.ref cda) ct cc ∧ K.lookup f = some ⟨oc, od, .func fd, osl⟩
  code : PySem.W.codeIn K (.ref cda) qual = true
  file : ∃ (ccl : Value) (cdd : Option Addr) (vs : Array Value) (ccs : Array (Option Value)) (fl : Str) (tf : Tok), K.lookup cda = some ⟨ccl, cdd, .fields vs, ccs⟩ ∧ vs[2]? = some (.str fl tf) ∧ ((P.main.file : Str) == fl) = true
  cell : ∃ (cl : Value) (cld : Option Addr) (csl : Array (Option Value)), K.lookup cc = some ⟨cl, cld, .cell (some (.ref D)), csl⟩
  cls : ∃ cdD, PySem.W.clsIn K D = some cdD
  sub : PySem.W.mroIn K D (.ref D) = some true
  glob : PySem.W.nsIn K mainGlobals "super" = some none
  top : (P.main.scope.names.lookup ("super" : Str)).isSome = false
  meth : PySem.W.ks_superIn K D D "__init__" = some (some (.ref f2))
  fty : PySem.W.typeIn K (.ref f2) = some (.type "function")
  fin : PySem.W.fnIn K f2 = true
  opq : PySem.W.nsIn K cStatics "thirdparty.any" = some none
  par : ∃ ar, (params.posonlyargs ++ params.args).head? = some ar ∧ ar.arg = p0
section
variable {P : Program} {w : World} {K : PySem.W.Frag} {mg : Str → Option Value} {base : Heap} {N ps : List Str} {name qual p0 : Str} {params : Arguments} {scope : Scope} {f D f2 cc cda : Addr} {fd fd0 : FuncData} {ps0 : List Str} {sp sp0 : Sp} {k : Nat} {rest : List Stmt} {e : Expr} {es : List Expr} {q0 q1 ap cp ep : Pos} {pl : Sem Bool}
theorem fn_super (T : Sup P K name qual params (.Expr (.Call (.Attribute (.Call (.Name "super" q0) [] [] q1) "__init__" ap) (e :: es) [] cp) ep :: rest) scope p0 f D f2 cc cda fd) (S : ScS N ps scope) (hp0 : ps.head? = some p0) (len : ∀ vs H Q E, sp vs H Q E → vs.length = ps.length)
    (F0 : FnOk P w K mg base CX0 k f2 fd0 ps0 sp0) (hb0 : Binds K fd0 ps0 [])
    (he : ∀ env : Env, eval (.Call (.Attribute (.Call (.Name "super" q0) [] [] q1) "__init__" ap) (e :: es) [] cp) env = (do
      let ov ← attributeBase (.Call (.Name "super" q0) [] [] q1) "__init__" env (eval (.Call (.Name "super" q0) [] [] q1) env)
      standAt ap.atName
      let (g, first) ← holding [ov] (getMethod ov "__init__" pl)
      callWith cp g first (backTo cp (starEach (e :: es) env)) []))
    (hsw : ∀ env : Env, swapsWith (.Call (.Attribute (.Call (.Name "super" q0) [] [] q1) "__init__" ap) (e :: es) [] cp) none ep.line env = pure false)
    (hst : ∀ env : Env, starEach (e :: es) env = (false, eval e env) :: starEach es env) (hpl : ∀ env : Env, (backTo cp (starEach es env)).any (·.1) = false)
    (hbody : ∀ (A : Around) (outer : List Env) (s : Shared) (H : Hp) (vs : List V) (Q : VK) (E : XK), Room k (A.deeper (PySem.W.ksEnv qual scope s.heap.objs.size f (.ref cda) cc)) → sp vs H Q E →
      ∃ (o d : Addr) (fs : List (Str × V)) (ta : TA) (t : TS), vs.head? = some (.ref o) ∧ H o = some (.ins D d fs) ∧ PA (cxS CX0 P w K mg base N qual scope f (.ref cda) cc A outer s H E) (e :: es) ta ∧ PSs (cxS CX0 P w K mg base N qual scope f (.ref cda) cc A outer s H E) rest t ∧
        ta (L2.start N vs) H fun as H1 => sp0 (.ref o :: as) H1 (fun _ H2 => t { nx := fun _ H' => Q .non H', rt := Q } (L2.start N vs) H2) E0) :
    FnOk P w K mg base CX0 (k + 1) f fd ps sp := by
  refine ⟨len, fun A outer s H args us vs Q E hr e0 hb r hsp => ?_⟩
  obtain ⟨oc, od, kV, doc, pm, ct, an, osl, rfl, lk⟩ := T.ex
  obtain ⟨ccl, cdd, cvs, ccs, fl, tf, hcode, hvs, hfile⟩ := T.file
  obtain ⟨cl, cld, csl, hcell⟩ := T.cell
  obtain ⟨cdD, hD⟩ := T.cls
  obtain ⟨ar, hpar, rfl⟩ := T.par
  have hl := len _ _ _ _ hsp
  have KX : K.In s.heap := e0.mod.kin.keeps fun b o e => (e0.bs b o e).1
  have lim : s.heap.NoLimit := e0.mod.nolimit.keeps fun b o e => (e0.bs b o e).1
  refine PySem.ks_codeAny_call_defAt (binds := ps.zip us) hr.depth (KX _ _ lk) rfl lim (PySem.W.codeRec_of KX T.code) rfl hb S.nocell (fun y hy => S.par _ (List.of_mem_zip hy).1) (fun h0 hns hk0 => ?_) S.co S.gen S.kind
  obtain ⟨o, d, fs, ta, t, hv0, ho, pa, pss, q⟩ := hbody A outer s H vs Q E (hr.deeper _) hsp
  have J : Inv (cxS CX0 P w K mg base N qual scope f (.ref cda) cc A outer s H E) [] (L2.start N vs) H { s with heap := h0, toks := s.toks + (ps.zip us).length } := invS S hr.hd e0 hl r hcell hns hk0
  show _root_.PySem.wpAt (model P w) (A.deeper (PySem.W.ksEnv qual scope s.heap.objs.size f (.ref cda) cc)) _ (execs _ (PySem.W.ksEnv qual scope s.heap.objs.size f (.ref cda) cc)) _ _ _
  refine PySem.ks_wpAt_execs_cons (PySem.ks_wpAt_Expr_any ?_ (by unfold interactive; simp [S.kind]) (hsw _))
  refine PySem.ks_wpAt_MethodCall (pl := pl) ?_ (he _)
  have X0 : K.In h0 := KX.keeps hk0
  obtain ⟨mA, O, _⟩ := ins_get J.hok ho
  obtain ⟨odx, I, _⟩ := O.look
  obtain ⟨oD, hD1, hD2⟩ : ∃ oD, h0.get? D = some oD ∧ oD.data = .cls cdD := by
    have hD' := hD
    unfold PySem.W.clsIn at hD'
    split at hD'
    · rename_i _ _ _ _ hod
      cases hD'
      exact ⟨_, X0 _ _ hod, rfl⟩
    · cases hD'
  refine PySem.ks_wpAt_super_base (env := PySem.W.ksEnv qual scope s.heap.objs.size f (.ref cda) cc) S.sup S.cls (by decide) rfl (X0 _ _ lk) rfl hpar rfl (X0 _ _ hcode) rfl hvs hfile T.top ?_
  obtain ⟨mb, hbn, hboot⟩ := e0.mod.blt
  refine PySem.W.ks_loadName_global S.kind S.sup (PySem.Calls.loadGlobal_builtin (env := PySem.W.ksEnv qual scope s.heap.objs.size f (.ref cda) cc) (e0.mod.glob.keeps J.bk) (PySem.W.mg_none_of e0.mod.kin e0.mod.glob T.glob) (hbn.keeps J.bk) ((hboot "super" (by decide)).trans (show bootBuiltins "super" = some (.type "super") by decide +kernel)) ⟨rfl, ?_⟩)
  refine wpAny_loadName_free (c := cc) S.kind S.cls (show List.lookup _ [(_, cc)] = some cc by rw [List.lookup_cons, beq_self_eq_true]) ⟨_, X0 _ _ hcell, rfl⟩ ?_
  have hN0 : N[0]? = some ar.arg := by
    rw [List.head?_eq_getElem?] at hp0
    have hlt : 0 < ps.length := (List.getElem?_eq_some_iff.mp hp0).1
    rw [← S.pre, List.getElem?_take_of_lt hlt] at hp0
    exact hp0
  have hpm : ar.arg ∈ ps := List.mem_of_mem_head? hp0
  have hs0 : (L2.start N vs)[0]? = some (some (.ref o)) := by
    rw [List.head?_eq_getElem?] at hv0
    have hlt : 0 < vs.length := (List.getElem?_eq_some_iff.mp hv0).1
    unfold L2.start
    rw [List.getElem?_append_left (by simpa using hlt), List.getElem?_map, hv0]; rfl
  obtain ⟨m, hn, hlk⟩ := J.loc
  obtain ⟨u0, ru0, look⟩ := hlk 0 ar.arg (.ref o) hN0 hs0 (.inl (S.par _ hpm))
  cases ru0
  have hm0 : m ar.arg = some (.ref o) := by
    rcases look with ⟨_, h⟩ | ⟨h | h, _⟩
    · exact h
    · have h : scope.names.lookup ar.arg = some .cell := h
      rw [S.par _ hpm] at h
      cases h
    · have h : scope.names.lookup ar.arg = some .free := h
      rw [S.par _ hpm] at h
      cases h
  refine wpAny_loadName_local S.kind (S.par _ hpm) hn hm0 ?_
  refine PySem.ks_wpAny_isType_cls hD1 hD2 ⟨rfl, ?_⟩
  refine PySem.ks_wpAny_call_super hD1 hD2 I.at_ I.cls (fun c z => ?_) (PySem.W.looks_mroIn X0 T.sub) (fun h' hso hk' => ?_)
  · have no := I.no
    unfold PySem.W.notCls at no
    rw [z] at no
    exact Bool.noConfusion no
  have X1 : K.In h' := X0.keeps hk'
  obtain ⟨of, hof, hofc⟩ : ∃ of, h'.get? f2 = some of ∧ of.cls = .type "function" := by
    have ht : (K.lookup f2).map (·.cls) = some (.type "function") := T.fty
    obtain ⟨of, z, hc⟩ := Option.map_eq_some_iff.mp ht
    exact ⟨of, X1 _ _ z, hc⟩
  have hm2 := T.meth
  unfold PySem.W.ks_superIn at hm2
  rw [hD] at hm2
  refine PySem.ks_wpAny_getMethod_super hso (PySem.W.looks_opaque X1 T.opq) (l₀ := cdD.mro) (fun A' Q' E' s' kk qq => wpAny_bind ((PySem.W.looks_clsIn X1 hD) A' _ E' s' kk (wpAny_pure qq))) rfl X1 hm2 hof hofc (PySem.W.ks_ne X0 I hD) (by decide) ?_
  show wpAny (model P w) _ (callWith cp (.ref h'.objs.size) [] (backTo cp (starEach (e :: es) (PySem.W.ksEnv qual scope s.heap.objs.size f (.ref cda) cc))) []) _ _ _
  have J1 : Inv (cxS CX0 P w K mg base N qual scope f (.ref cda) cc A outer s H E) [] (L2.start N vs) H { s with heap := h', toks := s.toks + (ps.zip us).length } := J.kept hk'
  have J2 : Inv (cxS CX0 P w K mg base N qual scope f (.ref cda) cc A outer s H E) [] (L2.start N vs) H { s with heap := h'.push { cls := .type "method", data := .fields #[.ref f2, .ref o] }, toks := s.toks + (ps.zip us).length + 1 } := J1.kept fun b u z => Heap.get?_push_of_some _ z
  have J3 : Inv (cxS CX0 P w K mg base N qual scope f (.ref cda) cc A outer s H E) [(h'.objs.size, PySem.W.methodObj (.ref f2) (.ref o))] (L2.start N vs) H { s with heap := h'.push { cls := .type "method", data := .fields #[.ref f2, .ref o] }, toks := s.toks + (ps.zip us).length + 1 } := by
    refine ⟨J2.ok, J2.os, J2.bare, J2.base, J2.loc, J2.cell, J2.free, J2.freeC, fun p hp => ?_, J2.hok, J2.len⟩
    have hp : p ∈ [(h'.objs.size, PySem.W.methodObj (.ref f2) (.ref o))] := hp
    rw [List.mem_singleton.mp hp]
    exact ⟨Heap.get?_push_at rfl rfl, J1.fresh, Nat.ne_of_gt J1.lt, J1.nofs (Nat.le_refl _), fun v z => by cases z⟩
  have run := pa.run cp [(h'.objs.size, PySem.W.methodObj (.ref f2) (.ref o))] _ _ H _ J3 q
  have run : wpAny (model P w) (A.deeper (PySem.W.ksEnv qual scope s.heap.objs.size f (.ref cda) cc)) (spliced (backTo cp (starEach (e :: es) (PySem.W.ksEnv qual scope s.heap.objs.size f (.ref cda) cc)))) _ _ _ := run
  rw [hst] at run ⊢
  refine PySem.W.callWith_of (by show ((false || (backTo cp (starEach es _)).any (·.1)) || false) = false; rw [hpl]; rfl) (PySem.W.keeps_M (K := K) (q := h'.objs.size) (self := .ref o) T.fin) (PySem.Calls.evalArgs_plain (wpAny_mono run (fun as s2 z => ?_) (fun _ _ z => z)))
  obtain ⟨was, H1, I1, ra, q1⟩ := z
  have hq := (I1.pin _ (List.mem_append.mpr (.inr List.mem_cons_self))).1
  refine ⟨⟨hq, I1.kIn⟩, ?_⟩
  have r0 : Vals (V.ref o :: was) (Value.ref o :: as) := .cons rfl ra
  have hl0 : (Value.ref o :: as).length = ps0.length := by rw [← r0.length]; exact F0.len _ _ _ _ q1
  have b0 := hb0 s2 (.ref o :: as) I1.kIn (by rw [List.append_nil]; exact hl0)
  rw [List.append_nil] at b0
  have hr2 : Room k (A.deeper (PySem.W.ksEnv qual scope s.heap.objs.size f (.ref cda) cc)) := hr.deeper _
  refine wpAny_call (PySem.ks_codeAny_call_bound hq (codeAny_mono (F0.run _ _ s2 H1 ⟨.ref o :: as, []⟩ (.ref o :: as) _ _ E0 hr2 I1.env0 b0 r0 q1) fun rr s3 hcr => ?_))
  cases rr with
  | error e => exact hcr.elim
  | ok fl =>
    cases fl with
    | ret u =>
      obtain ⟨v3, H3, I3, rv3, q3⟩ := I1.after hcr
      refine wpAt_of_wpAny (wpAny_mono (pss.run _ s3 _ H3 _ I3 q3) (fun fl s4 z => ?_) (fun _ _ z => z))
      cases fl with
      | ret u => obtain ⟨v6, u6, G6, J6, r6, q6⟩ := z; exact ⟨v6, G6, J6.os, J6.bare, J6.base, J6.hok, r6, q6⟩
      | next => obtain ⟨u6, G6, J6, q6⟩ := z; exact ⟨.non, G6, J6.os, J6.bare, J6.base, J6.hok, rfl, q6⟩
      | brk => obtain ⟨_, _, _, q6⟩ := z; exact q6.elim
      | cont => obtain ⟨_, _, _, q6⟩ := z; exact q6.elim
    | next => exact hcr.elim
    | brk => exact hcr.elim
    | cont => exact hcr.elim
end
def topS (i : Nat) : Stmt := PySem.Challenge.pw_lanescroll_k07_no_leaves.main.body.getD i (.Pass ⟨0, 0, 0, 0⟩)
abbrev s_is_number : Stmt := topS 8
abbrev N_is_number : List Str := ["thing"]
theorem sc_is_number : FnScope N_is_number ["thing"] (defScope s_is_number) := ⟨rfl, rfl, rfl, by decide +kernel, rfl, by decide +kernel, by decide +kernel⟩
abbrev s_is_whole : Stmt := topS 9
abbrev N_is_whole : List Str := ["thing", "low", "high"]
theorem sc_is_whole : FnScope N_is_whole ["thing", "low", "high"] (defScope s_is_whole) := ⟨rfl, rfl, rfl, by decide +kernel, rfl, by decide +kernel, by decide +kernel⟩
abbrev s_Rule_told : Stmt := inClass (topS 14) 0
abbrev N_Rule_told : List Str := ["self"]
theorem sc_Rule_told : FnScope N_Rule_told ["self"] (defScope s_Rule_told) := ⟨rfl, rfl, rfl, by decide +kernel, rfl, by decide +kernel, by decide +kernel⟩
abbrev s_Rule_needs : Stmt := inClass (topS 14) 1
abbrev N_Rule_needs : List Str := ["self"]
theorem sc_Rule_needs : FnScope N_Rule_needs ["self"] (defScope s_Rule_needs) := ⟨rfl, rfl, rfl, by decide +kernel, rfl, by decide +kernel, by decide +kernel⟩
abbrev s_Rule_value : Stmt := inClass (topS 14) 2
abbrev N_Rule_value : List Str := ["self", "found"]
theorem sc_Rule_value : FnScope N_Rule_value ["self", "found"] (defScope s_Rule_value) := ⟨rfl, rfl, rfl, by decide +kernel, rfl, by decide +kernel, by decide +kernel⟩
abbrev s_Plain_init : Stmt := inClass (topS 15) 0
abbrev N_Plain_init : List Str := ["self", "value"]
theorem sc_Plain_init : FnScope N_Plain_init ["self", "value"] (defScope s_Plain_init) := ⟨rfl, rfl, rfl, by decide +kernel, rfl, by decide +kernel, by decide +kernel⟩
abbrev s_Plain_str : Stmt := inClass (topS 15) 1
abbrev N_Plain_str : List Str := ["self"]
theorem sc_Plain_str : FnScope N_Plain_str ["self"] (defScope s_Plain_str) := ⟨rfl, rfl, rfl, by decide +kernel, rfl, by decide +kernel, by decide +kernel⟩
abbrev s_Plain_told : Stmt := inClass (topS 15) 2
abbrev N_Plain_told : List Str := ["self"]
theorem sc_Plain_told : FnScope N_Plain_told ["self"] (defScope s_Plain_told) := ⟨rfl, rfl, rfl, by decide +kernel, rfl, by decide +kernel, by decide +kernel⟩
abbrev s_Plain_needs : Stmt := inClass (topS 15) 3
abbrev N_Plain_needs : List Str := ["self"]
theorem sc_Plain_needs : FnScope N_Plain_needs ["self"] (defScope s_Plain_needs) := ⟨rfl, rfl, rfl, by decide +kernel, rfl, by decide +kernel, by decide +kernel⟩
abbrev s_Plain_value : Stmt := inClass (topS 15) 4
abbrev N_Plain_value : List Str := ["self", "found"]
theorem sc_Plain_value : FnScope N_Plain_value ["self", "found"] (defScope s_Plain_value) := ⟨rfl, rfl, rfl, by decide +kernel, rfl, by decide +kernel, by decide +kernel⟩
abbrev s_Moved_init : Stmt := inClass (topS 16) 0
abbrev N_Moved_init : List Str := ["self", "back", "cell", "add"]
theorem sc_Moved_init : FnScope N_Moved_init ["self", "back", "cell", "add"] (defScope s_Moved_init) := ⟨rfl, rfl, rfl, by decide +kernel, rfl, by decide +kernel, by decide +kernel⟩
abbrev s_Moved_str : Stmt := inClass (topS 16) 1
abbrev N_Moved_str : List Str := ["self"]
theorem sc_Moved_str : FnScope N_Moved_str ["self"] (defScope s_Moved_str) := ⟨rfl, rfl, rfl, by decide +kernel, rfl, by decide +kernel, by decide +kernel⟩
abbrev s_Moved_told : Stmt := inClass (topS 16) 2
abbrev N_Moved_told : List Str := ["self"]
theorem sc_Moved_told : FnScope N_Moved_told ["self"] (defScope s_Moved_told) := ⟨rfl, rfl, rfl, by decide +kernel, rfl, by decide +kernel, by decide +kernel⟩
abbrev s_Moved_needs : Stmt := inClass (topS 16) 3
abbrev N_Moved_needs : List Str := ["self"]
theorem sc_Moved_needs : FnScope N_Moved_needs ["self"] (defScope s_Moved_needs) := ⟨rfl, rfl, rfl, by decide +kernel, rfl, by decide +kernel, by decide +kernel⟩
abbrev s_Moved_value : Stmt := inClass (topS 16) 4
abbrev N_Moved_value : List Str := ["self", "found"]
theorem sc_Moved_value : FnScope N_Moved_value ["self", "found"] (defScope s_Moved_value) := ⟨rfl, rfl, rfl, by decide +kernel, rfl, by decide +kernel, by decide +kernel⟩
abbrev s_Mixed_init : Stmt := inClass (topS 17) 0
abbrev N_Mixed_init : List Str := ["self", "back", "cell", "other_back", "other_cell"]
theorem sc_Mixed_init : FnScope N_Mixed_init ["self", "back", "cell", "other_back", "other_cell"] (defScope s_Mixed_init) := ⟨rfl, rfl, rfl, by decide +kernel, rfl, by decide +kernel, by decide +kernel⟩
abbrev s_Mixed_str : Stmt := inClass (topS 17) 1
abbrev N_Mixed_str : List Str := ["self"]
theorem sc_Mixed_str : FnScope N_Mixed_str ["self"] (defScope s_Mixed_str) := ⟨rfl, rfl, rfl, by decide +kernel, rfl, by decide +kernel, by decide +kernel⟩
abbrev s_Mixed_told : Stmt := inClass (topS 17) 2
abbrev N_Mixed_told : List Str := ["self"]
theorem sc_Mixed_told : FnScope N_Mixed_told ["self"] (defScope s_Mixed_told) := ⟨rfl, rfl, rfl, by decide +kernel, rfl, by decide +kernel, by decide +kernel⟩
abbrev s_Mixed_needs : Stmt := inClass (topS 17) 3
abbrev N_Mixed_needs : List Str := ["self"]
theorem sc_Mixed_needs : FnScope N_Mixed_needs ["self"] (defScope s_Mixed_needs) := ⟨rfl, rfl, rfl, by decide +kernel, rfl, by decide +kernel, by decide +kernel⟩
abbrev s_Mixed_value : Stmt := inClass (topS 17) 4
abbrev N_Mixed_value : List Str := ["self", "found"]
theorem sc_Mixed_value : FnScope N_Mixed_value ["self", "found"] (defScope s_Mixed_value) := ⟨rfl, rfl, rfl, by decide +kernel, rfl, by decide +kernel, by decide +kernel⟩
abbrev s_is_value : Stmt := topS 18
abbrev N_is_value : List Str := ["thing"]
theorem sc_is_value : FnScope N_is_value ["thing"] (defScope s_is_value) := ⟨rfl, rfl, rfl, by decide +kernel, rfl, by decide +kernel, by decide +kernel⟩
abbrev s_is_back : Stmt := topS 19
abbrev N_is_back : List Str := ["thing"]
theorem sc_is_back : FnScope N_is_back ["thing"] (defScope s_is_back) := ⟨rfl, rfl, rfl, by decide +kernel, rfl, by decide +kernel, by decide +kernel⟩
abbrev s_is_cell : Stmt := topS 20
abbrev N_is_cell : List Str := ["thing"]
theorem sc_is_cell : FnScope N_is_cell ["thing"] (defScope s_is_cell) := ⟨rfl, rfl, rfl, by decide +kernel, rfl, by decide +kernel, by decide +kernel⟩
abbrev s_is_rule : Stmt := topS 21
abbrev N_is_rule : List Str := ["thing", "kind"]
theorem sc_is_rule : FnScope N_is_rule ["thing"] (defScope s_is_rule) := ⟨rfl, rfl, rfl, by decide +kernel, rfl, by decide +kernel, by decide +kernel⟩
abbrev s_rule_of : Stmt := topS 22
abbrev N_rule_of : List Str := ["told", "kind", "numbers"]
theorem sc_rule_of : FnScope N_rule_of ["told"] (defScope s_rule_of) := ⟨rfl, rfl, rfl, by decide +kernel, rfl, by decide +kernel, by decide +kernel⟩
abbrev s_Leaf_init : Stmt := inClass (topS 26) 0
abbrev N_Leaf_init : List Str := ["self", "begin", "span"]
theorem sc_Leaf_init : FnScope N_Leaf_init ["self", "begin", "span"] (defScope s_Leaf_init) := ⟨rfl, rfl, rfl, by decide +kernel, rfl, by decide +kernel, by decide +kernel⟩
abbrev s_Leaf_told : Stmt := inClass (topS 26) 1
abbrev N_Leaf_told : List Str := ["self"]
theorem sc_Leaf_told : FnScope N_Leaf_told ["self"] (defScope s_Leaf_told) := ⟨rfl, rfl, rfl, by decide +kernel, rfl, by decide +kernel, by decide +kernel⟩
abbrev s_Leaf_cells : Stmt := inClass (topS 26) 2
abbrev N_Leaf_cells : List Str := ["self"]
theorem sc_Leaf_cells : FnScope N_Leaf_cells ["self"] (defScope s_Leaf_cells) := ⟨rfl, rfl, rfl, by decide +kernel, rfl, by decide +kernel, by decide +kernel⟩
abbrev s_Leaf_rule : Stmt := inClass (topS 26) 3
abbrev N_Leaf_rule : List Str := ["self", "cell"]
theorem sc_Leaf_rule : FnScope N_Leaf_rule ["self", "cell"] (defScope s_Leaf_rule) := ⟨rfl, rfl, rfl, by decide +kernel, rfl, by decide +kernel, by decide +kernel⟩
abbrev s_Full_init : Stmt := inClass (topS 27) 0
abbrev N_Full_init : List Str := ["self", "begin", "span", "values"]
theorem sc_Full_init : ScS N_Full_init ["self", "begin", "span", "values"] (defScope s_Full_init) := ⟨rfl, rfl, rfl, by decide +kernel, rfl, by decide +kernel, by decide +kernel, by decide +kernel, by decide +kernel, by decide +kernel⟩
abbrev s_Full_told : Stmt := inClass (topS 27) 1
abbrev N_Full_told : List Str := ["self"]
theorem sc_Full_told : FnScope N_Full_told ["self"] (defScope s_Full_told) := ⟨rfl, rfl, rfl, by decide +kernel, rfl, by decide +kernel, by decide +kernel⟩
abbrev s_Full_cells : Stmt := inClass (topS 27) 2
abbrev N_Full_cells : List Str := ["self"]
theorem sc_Full_cells : FnScope N_Full_cells ["self"] (defScope s_Full_cells) := ⟨rfl, rfl, rfl, by decide +kernel, rfl, by decide +kernel, by decide +kernel⟩
abbrev s_Full_rule : Stmt := inClass (topS 27) 3
abbrev N_Full_rule : List Str := ["self", "cell"]
theorem sc_Full_rule : FnScope N_Full_rule ["self", "cell"] (defScope s_Full_rule) := ⟨rfl, rfl, rfl, by decide +kernel, rfl, by decide +kernel, by decide +kernel⟩
abbrev s_Still_init : Stmt := inClass (topS 28) 0
abbrev N_Still_init : List Str := ["self", "begin", "span", "back"]
theorem sc_Still_init : ScS N_Still_init ["self", "begin", "span", "back"] (defScope s_Still_init) := ⟨rfl, rfl, rfl, by decide +kernel, rfl, by decide +kernel, by decide +kernel, by decide +kernel, by decide +kernel, by decide +kernel⟩
abbrev s_Still_told : Stmt := inClass (topS 28) 1
abbrev N_Still_told : List Str := ["self"]
theorem sc_Still_told : FnScope N_Still_told ["self"] (defScope s_Still_told) := ⟨rfl, rfl, rfl, by decide +kernel, rfl, by decide +kernel, by decide +kernel⟩
abbrev s_Still_cells : Stmt := inClass (topS 28) 2
abbrev N_Still_cells : List Str := ["self"]
theorem sc_Still_cells : FnScope N_Still_cells ["self"] (defScope s_Still_cells) := ⟨rfl, rfl, rfl, by decide +kernel, rfl, by decide +kernel, by decide +kernel⟩
abbrev s_Still_rule : Stmt := inClass (topS 28) 3
abbrev N_Still_rule : List Str := ["self", "cell"]
theorem sc_Still_rule : FnScope N_Still_rule ["self", "cell"] (defScope s_Still_rule) := ⟨rfl, rfl, rfl, by decide +kernel, rfl, by decide +kernel, by decide +kernel⟩
abbrev s_Woven_init : Stmt := inClass (topS 29) 0
abbrev N_Woven_init : List Str := ["self", "begin", "span", "rules", "told"]
theorem sc_Woven_init : ScS N_Woven_init ["self", "begin", "span", "rules"] (defScope s_Woven_init) := ⟨rfl, rfl, rfl, by decide +kernel, rfl, by decide +kernel, by decide +kernel, by decide +kernel, by decide +kernel, by decide +kernel⟩
abbrev s_Woven_told : Stmt := inClass (topS 29) 1
abbrev N_Woven_told : List Str := ["self", "rule"]
theorem sc_Woven_told : FnScope N_Woven_told ["self"] (defScope s_Woven_told) := ⟨rfl, rfl, rfl, by decide +kernel, rfl, by decide +kernel, by decide +kernel⟩
abbrev s_Woven_cells : Stmt := inClass (topS 29) 2
abbrev N_Woven_cells : List Str := ["self"]
theorem sc_Woven_cells : FnScope N_Woven_cells ["self"] (defScope s_Woven_cells) := ⟨rfl, rfl, rfl, by decide +kernel, rfl, by decide +kernel, by decide +kernel⟩
abbrev s_Woven_rule : Stmt := inClass (topS 29) 3
abbrev N_Woven_rule : List Str := ["self", "cell"]
theorem sc_Woven_rule : FnScope N_Woven_rule ["self", "cell"] (defScope s_Woven_rule) := ⟨rfl, rfl, rfl, by decide +kernel, rfl, by decide +kernel, by decide +kernel⟩
abbrev s_refuse_no_cell : Stmt := topS 30
abbrev N_refuse_no_cell : List Str := ["cell", "many"]
theorem sc_refuse_no_cell : FnScope N_refuse_no_cell ["cell", "many"] (defScope s_refuse_no_cell) := ⟨rfl, rfl, rfl, by decide +kernel, rfl, by decide +kernel, by decide +kernel⟩
abbrev s_is_row_of_cells : Stmt := topS 31
abbrev N_is_row_of_cells : List Str := ["thing"]
theorem sc_is_row_of_cells : FnScope N_is_row_of_cells ["thing"] (defScope s_is_row_of_cells) := ⟨rfl, rfl, rfl, by decide +kernel, rfl, by decide +kernel, by decide +kernel⟩
abbrev s_is_leaf : Stmt := topS 32
abbrev N_is_leaf : List Str := ["thing", "kind", "begin", "span", "held", "value", "rule"]
theorem sc_is_leaf : FnScope N_is_leaf ["thing"] (defScope s_is_leaf) := ⟨rfl, rfl, rfl, by decide +kernel, rfl, by decide +kernel, by decide +kernel⟩
abbrev s_leaf_of : Stmt := topS 33
abbrev N_leaf_of : List Str := ["told", "kind", "begin", "span", "held"]
theorem sc_leaf_of : FnScope N_leaf_of ["told"] (defScope s_leaf_of) := ⟨rfl, rfl, rfl, by decide +kernel, rfl, by decide +kernel, by decide +kernel⟩
abbrev s_l_cell_at : Stmt := topS 35
abbrev N_l_cell_at : List Str := ["_law_script", "_law_k"]
theorem sc_l_cell_at : FnScope N_l_cell_at ["_law_script", "_law_k"] (defScope s_l_cell_at) := ⟨rfl, rfl, rfl, by decide +kernel, rfl, by decide +kernel, by decide +kernel⟩
abbrev s_l_well : Stmt := topS 36
abbrev N_l_well : List Str := ["_law_script", "_law_k", "_law_cell"]
theorem sc_l_well : FnScope N_l_well ["_law_script", "_law_k"] (defScope s_l_well) := ⟨rfl, rfl, rfl, by decide +kernel, rfl, by decide +kernel, by decide +kernel⟩
abbrev s_l_draw : Stmt := topS 37
abbrev N_l_draw : List Str := ["_law_well_here", "_law_many", "_law_found", "_law_number"]
theorem sc_l_draw : FnScope N_l_draw ["_law_well_here", "_law_many"] (defScope s_l_draw) := ⟨rfl, rfl, rfl, by decide +kernel, rfl, by decide +kernel, by decide +kernel⟩
abbrev s_l_whole : Stmt := topS 38
abbrev N_l_whole : List Str := ["_law_thing_here"]
theorem sc_l_whole : FnScope N_l_whole ["_law_thing_here"] (defScope s_l_whole) := ⟨rfl, rfl, rfl, by decide +kernel, rfl, by decide +kernel, by decide +kernel⟩
abbrev s_l_rule : Stmt := topS 39
abbrev N_l_rule : List Str := ["_law_well_here", "_law_way", "_law_back", "_law_cell"]
theorem sc_l_rule : FnScope N_l_rule ["_law_well_here"] (defScope s_l_rule) := ⟨rfl, rfl, rfl, by decide +kernel, rfl, by decide +kernel, by decide +kernel⟩
abbrev s_l_leaf : Stmt := topS 40
abbrev N_l_leaf : List Str := ["_law_well_here", "_law_way", "_law_wide", "_law_begin", "_law_span", "_law_k"]
theorem sc_l_leaf : FnScope N_l_leaf ["_law_well_here"] (defScope s_l_leaf) := ⟨rfl, rfl, rfl, by decide +kernel, rfl, by decide +kernel, by decide +kernel⟩
abbrev s_l_odd_number : Stmt := topS 41
abbrev N_l_odd_number : List Str := ["_law_well_here", "_law_way", "_law_some"]
theorem sc_l_odd_number : FnScope N_l_odd_number ["_law_well_here"] (defScope s_l_odd_number) := ⟨rfl, rfl, rfl, by decide +kernel, rfl, by decide +kernel, by decide +kernel⟩
abbrev s_l_odd_part : Stmt := topS 42
abbrev N_l_odd_part : List Str := ["_law_well_here", "_law_way", "_law_some"]
theorem sc_l_odd_part : FnScope N_l_odd_part ["_law_well_here"] (defScope s_l_odd_part) := ⟨rfl, rfl, rfl, by decide +kernel, rfl, by decide +kernel, by decide +kernel⟩
abbrev s_l_changed : Stmt := topS 43
abbrev N_l_changed : List Str := ["_law_well_here", "_law_row", "_law_way", "_law_place", "_law_at"]
theorem sc_l_changed : FnScope N_l_changed ["_law_well_here", "_law_row"] (defScope s_l_changed) := ⟨rfl, rfl, rfl, by decide +kernel, rfl, by decide +kernel, by decide +kernel⟩
abbrev s_l_thing : Stmt := topS 44
abbrev N_l_thing : List Str := ["_law_well_here", "_law_row", "_law_way", "_law_some"]
theorem sc_l_thing : FnScope N_l_thing ["_law_well_here", "_law_row"] (defScope s_l_thing) := ⟨rfl, rfl, rfl, by decide +kernel, rfl, by decide +kernel, by decide +kernel⟩
abbrev s_l_within : Stmt := topS 45
abbrev N_l_within : List Str := ["_law_thing_here", "_law_low", "_law_high"]
theorem sc_l_within : FnScope N_l_within ["_law_thing_here", "_law_low", "_law_high"] (defScope s_l_within) := ⟨rfl, rfl, rfl, by decide +kernel, rfl, by decide +kernel, by decide +kernel⟩
abbrev s_l_is_rule : Stmt := topS 46
abbrev N_l_is_rule : List Str := ["_law_thing_here"]
theorem sc_l_is_rule : FnScope N_l_is_rule ["_law_thing_here"] (defScope s_l_is_rule) := ⟨rfl, rfl, rfl, by decide +kernel, rfl, by decide +kernel, by decide +kernel⟩
abbrev s_l_is_leaf : Stmt := topS 47
abbrev N_l_is_leaf : List Str := ["_law_thing_here", "_law_one"]
theorem sc_l_is_leaf : FnScope N_l_is_leaf ["_law_thing_here"] (defScope s_l_is_leaf) := ⟨rfl, rfl, rfl, by decide +kernel, rfl, by decide +kernel, by decide +kernel⟩
abbrev s_l_asked : Stmt := topS 48
abbrev N_l_asked : List Str := ["_law_thing_here", "_law_leaf_here", "_law_refused", "_law_strange", "e"]
theorem sc_l_asked : FnScope N_l_asked ["_law_thing_here"] (defScope s_l_asked) := ⟨rfl, rfl, rfl, by decide +kernel, rfl, by decide +kernel, by decide +kernel⟩
abbrev s_law : Stmt := topS 49
abbrev N_law : List Str := ["_law_script", "_law_row", "_law_well_here", "_law_way", "_law_twice", "_law_changed_here"]
theorem sc_law : FnScope N_law ["_law_script"] (defScope s_law) := ⟨rfl, rfl, rfl, by decide +kernel, rfl, by decide +kernel, by decide +kernel⟩

structure TxtP (P : Program) (K : PySem.W.Frag) (mg : Str → Option Value) : Type where
  a_is_number : Addr
  d_is_number : FuncData
  F_is_number : Fun K "is_number" "is_number" s_is_number a_is_number d_is_number
  g_is_number : mg "is_number" = some (.ref a_is_number)
  b_is_number : Binds K d_is_number ["thing"] []
  a_is_whole : Addr
  d_is_whole : FuncData
  F_is_whole : Fun K "is_whole" "is_whole" s_is_whole a_is_whole d_is_whole
  g_is_whole : mg "is_whole" = some (.ref a_is_whole)
  b_is_whole : Binds K d_is_whole ["thing", "low", "high"] []
  a_Rule_told : Addr
  d_Rule_told : FuncData
  F_Rule_told : Fun K "told" "Rule.told" s_Rule_told a_Rule_told d_Rule_told
  b_Rule_told : Binds K d_Rule_told ["self"] []
  a_Rule_needs : Addr
  d_Rule_needs : FuncData
  F_Rule_needs : Fun K "needs" "Rule.needs" s_Rule_needs a_Rule_needs d_Rule_needs
  b_Rule_needs : Binds K d_Rule_needs ["self"] []
  a_Rule_value : Addr
  d_Rule_value : FuncData
  F_Rule_value : Fun K "value" "Rule.value" s_Rule_value a_Rule_value d_Rule_value
  b_Rule_value : Binds K d_Rule_value ["self", "found"] []
  a_Plain_init : Addr
  d_Plain_init : FuncData
  F_Plain_init : Fun K "__init__" "Plain.__init__" s_Plain_init a_Plain_init d_Plain_init
  b_Plain_init : Binds K d_Plain_init ["self", "value"] []
  a_Plain_str : Addr
  d_Plain_str : FuncData
  F_Plain_str : Fun K "__str__" "Plain.__str__" s_Plain_str a_Plain_str d_Plain_str
  b_Plain_str : Binds K d_Plain_str ["self"] []
  a_Plain_told : Addr
  d_Plain_told : FuncData
  F_Plain_told : Fun K "told" "Plain.told" s_Plain_told a_Plain_told d_Plain_told
  b_Plain_told : Binds K d_Plain_told ["self"] []
  a_Plain_needs : Addr
  d_Plain_needs : FuncData
  F_Plain_needs : Fun K "needs" "Plain.needs" s_Plain_needs a_Plain_needs d_Plain_needs
  b_Plain_needs : Binds K d_Plain_needs ["self"] []
  a_Plain_value : Addr
  d_Plain_value : FuncData
  F_Plain_value : Fun K "value" "Plain.value" s_Plain_value a_Plain_value d_Plain_value
  b_Plain_value : Binds K d_Plain_value ["self", "found"] []
  a_Moved_init : Addr
  d_Moved_init : FuncData
  F_Moved_init : Fun K "__init__" "Moved.__init__" s_Moved_init a_Moved_init d_Moved_init
  b_Moved_init : Binds K d_Moved_init ["self", "back", "cell", "add"] []
  a_Moved_str : Addr
  d_Moved_str : FuncData
  F_Moved_str : Fun K "__str__" "Moved.__str__" s_Moved_str a_Moved_str d_Moved_str
  b_Moved_str : Binds K d_Moved_str ["self"] []
  a_Moved_told : Addr
  d_Moved_told : FuncData
  F_Moved_told : Fun K "told" "Moved.told" s_Moved_told a_Moved_told d_Moved_told
  b_Moved_told : Binds K d_Moved_told ["self"] []
  a_Moved_needs : Addr
  d_Moved_needs : FuncData
  F_Moved_needs : Fun K "needs" "Moved.needs" s_Moved_needs a_Moved_needs d_Moved_needs
  b_Moved_needs : Binds K d_Moved_needs ["self"] []
  a_Moved_value : Addr
  d_Moved_value : FuncData
  F_Moved_value : Fun K "value" "Moved.value" s_Moved_value a_Moved_value d_Moved_value
  b_Moved_value : Binds K d_Moved_value ["self", "found"] []
  a_Mixed_init : Addr
  d_Mixed_init : FuncData
  F_Mixed_init : Fun K "__init__" "Mixed.__init__" s_Mixed_init a_Mixed_init d_Mixed_init
  b_Mixed_init : Binds K d_Mixed_init ["self", "back", "cell", "other_back", "other_cell"] []
  a_Mixed_str : Addr
  d_Mixed_str : FuncData
  F_Mixed_str : Fun K "__str__" "Mixed.__str__" s_Mixed_str a_Mixed_str d_Mixed_str
  b_Mixed_str : Binds K d_Mixed_str ["self"] []
  a_Mixed_told : Addr
  d_Mixed_told : FuncData
  F_Mixed_told : Fun K "told" "Mixed.told" s_Mixed_told a_Mixed_told d_Mixed_told
  b_Mixed_told : Binds K d_Mixed_told ["self"] []
  a_Mixed_needs : Addr
  d_Mixed_needs : FuncData
  F_Mixed_needs : Fun K "needs" "Mixed.needs" s_Mixed_needs a_Mixed_needs d_Mixed_needs
  b_Mixed_needs : Binds K d_Mixed_needs ["self"] []
  a_Mixed_value : Addr
  d_Mixed_value : FuncData
  F_Mixed_value : Fun K "value" "Mixed.value" s_Mixed_value a_Mixed_value d_Mixed_value
  b_Mixed_value : Binds K d_Mixed_value ["self", "found"] []
  a_is_value : Addr
  d_is_value : FuncData
  F_is_value : Fun K "is_value" "is_value" s_is_value a_is_value d_is_value
  g_is_value : mg "is_value" = some (.ref a_is_value)
  b_is_value : Binds K d_is_value ["thing"] []
  a_is_back : Addr
  d_is_back : FuncData
  F_is_back : Fun K "is_back" "is_back" s_is_back a_is_back d_is_back
  g_is_back : mg "is_back" = some (.ref a_is_back)
  b_is_back : Binds K d_is_back ["thing"] []
  a_is_cell : Addr
  d_is_cell : FuncData
  F_is_cell : Fun K "is_cell" "is_cell" s_is_cell a_is_cell d_is_cell
  g_is_cell : mg "is_cell" = some (.ref a_is_cell)
  b_is_cell : Binds K d_is_cell ["thing"] []
  a_is_rule : Addr
  d_is_rule : FuncData
  F_is_rule : Fun K "is_rule" "is_rule" s_is_rule a_is_rule d_is_rule
  g_is_rule : mg "is_rule" = some (.ref a_is_rule)
  b_is_rule : Binds K d_is_rule ["thing"] []
  a_rule_of : Addr
  d_rule_of : FuncData
  F_rule_of : Fun K "rule_of" "rule_of" s_rule_of a_rule_of d_rule_of
  g_rule_of : mg "rule_of" = some (.ref a_rule_of)
  b_rule_of : Binds K d_rule_of ["told"] []
  a_Leaf_init : Addr
  d_Leaf_init : FuncData
  F_Leaf_init : Fun K "__init__" "Leaf.__init__" s_Leaf_init a_Leaf_init d_Leaf_init
  b_Leaf_init : Binds K d_Leaf_init ["self", "begin", "span"] []
  a_Leaf_told : Addr
  d_Leaf_told : FuncData
  F_Leaf_told : Fun K "told" "Leaf.told" s_Leaf_told a_Leaf_told d_Leaf_told
  b_Leaf_told : Binds K d_Leaf_told ["self"] []
  a_Leaf_cells : Addr
  d_Leaf_cells : FuncData
  F_Leaf_cells : Fun K "cells" "Leaf.cells" s_Leaf_cells a_Leaf_cells d_Leaf_cells
  b_Leaf_cells : Binds K d_Leaf_cells ["self"] []
  a_Leaf_rule : Addr
  d_Leaf_rule : FuncData
  F_Leaf_rule : Fun K "rule" "Leaf.rule" s_Leaf_rule a_Leaf_rule d_Leaf_rule
  b_Leaf_rule : Binds K d_Leaf_rule ["self", "cell"] []
  a_Full_init : Addr
  d_Full_init : FuncData
  cc_Full_init : Addr
  co_Full_init : Addr
  cD_Full_init : Addr
  S_Full_init : Sup P K "__init__" "Full.__init__" (defArgs s_Full_init) (defBody s_Full_init) (defScope s_Full_init) "self" a_Full_init cD_Full_init a_Leaf_init cc_Full_init co_Full_init d_Full_init
  b_Full_init : Binds K d_Full_init ["self", "begin", "span", "values"] []
  a_Full_told : Addr
  d_Full_told : FuncData
  F_Full_told : Fun K "told" "Full.told" s_Full_told a_Full_told d_Full_told
  b_Full_told : Binds K d_Full_told ["self"] []
  a_Full_cells : Addr
  d_Full_cells : FuncData
  F_Full_cells : Fun K "cells" "Full.cells" s_Full_cells a_Full_cells d_Full_cells
  b_Full_cells : Binds K d_Full_cells ["self"] []
  a_Full_rule : Addr
  d_Full_rule : FuncData
  F_Full_rule : Fun K "rule" "Full.rule" s_Full_rule a_Full_rule d_Full_rule
  b_Full_rule : Binds K d_Full_rule ["self", "cell"] []
  a_Still_init : Addr
  d_Still_init : FuncData
  cc_Still_init : Addr
  co_Still_init : Addr
  cD_Still_init : Addr
  S_Still_init : Sup P K "__init__" "Still.__init__" (defArgs s_Still_init) (defBody s_Still_init) (defScope s_Still_init) "self" a_Still_init cD_Still_init a_Leaf_init cc_Still_init co_Still_init d_Still_init
  b_Still_init : Binds K d_Still_init ["self", "begin", "span", "back"] []
  a_Still_told : Addr
  d_Still_told : FuncData
  F_Still_told : Fun K "told" "Still.told" s_Still_told a_Still_told d_Still_told
  b_Still_told : Binds K d_Still_told ["self"] []
  a_Still_cells : Addr
  d_Still_cells : FuncData
  F_Still_cells : Fun K "cells" "Still.cells" s_Still_cells a_Still_cells d_Still_cells
  b_Still_cells : Binds K d_Still_cells ["self"] []
  a_Still_rule : Addr
  d_Still_rule : FuncData
  F_Still_rule : Fun K "rule" "Still.rule" s_Still_rule a_Still_rule d_Still_rule
  b_Still_rule : Binds K d_Still_rule ["self", "cell"] []
  a_Woven_init : Addr
  d_Woven_init : FuncData
  cc_Woven_init : Addr
  co_Woven_init : Addr
  cD_Woven_init : Addr
  S_Woven_init : Sup P K "__init__" "Woven.__init__" (defArgs s_Woven_init) (defBody s_Woven_init) (defScope s_Woven_init) "self" a_Woven_init cD_Woven_init a_Leaf_init cc_Woven_init co_Woven_init d_Woven_init
  b_Woven_init : Binds K d_Woven_init ["self", "begin", "span", "rules"] []
  a_Woven_told : Addr
  d_Woven_told : FuncData
  F_Woven_told : Fun K "told" "Woven.told" s_Woven_told a_Woven_told d_Woven_told
  b_Woven_told : Binds K d_Woven_told ["self"] []
  a_Woven_cells : Addr
  d_Woven_cells : FuncData
  F_Woven_cells : Fun K "cells" "Woven.cells" s_Woven_cells a_Woven_cells d_Woven_cells
  b_Woven_cells : Binds K d_Woven_cells ["self"] []
  a_Woven_rule : Addr
  d_Woven_rule : FuncData
  F_Woven_rule : Fun K "rule" "Woven.rule" s_Woven_rule a_Woven_rule d_Woven_rule
  b_Woven_rule : Binds K d_Woven_rule ["self", "cell"] []
  a_refuse_no_cell : Addr
  d_refuse_no_cell : FuncData
  F_refuse_no_cell : Fun K "refuse_no_cell" "refuse_no_cell" s_refuse_no_cell a_refuse_no_cell d_refuse_no_cell
  g_refuse_no_cell : mg "refuse_no_cell" = some (.ref a_refuse_no_cell)
  b_refuse_no_cell : Binds K d_refuse_no_cell ["cell", "many"] []
  a_is_row_of_cells : Addr
  d_is_row_of_cells : FuncData
  F_is_row_of_cells : Fun K "is_row_of_cells" "is_row_of_cells" s_is_row_of_cells a_is_row_of_cells d_is_row_of_cells
  g_is_row_of_cells : mg "is_row_of_cells" = some (.ref a_is_row_of_cells)
  b_is_row_of_cells : Binds K d_is_row_of_cells ["thing"] []
  a_is_leaf : Addr
  d_is_leaf : FuncData
  F_is_leaf : Fun K "is_leaf" "is_leaf" s_is_leaf a_is_leaf d_is_leaf
  g_is_leaf : mg "is_leaf" = some (.ref a_is_leaf)
  b_is_leaf : Binds K d_is_leaf ["thing"] []
  a_leaf_of : Addr
  d_leaf_of : FuncData
  F_leaf_of : Fun K "leaf_of" "leaf_of" s_leaf_of a_leaf_of d_leaf_of
  g_leaf_of : mg "leaf_of" = some (.ref a_leaf_of)
  b_leaf_of : Binds K d_leaf_of ["told"] []
  a_l_cell_at : Addr
  d_l_cell_at : FuncData
  F_l_cell_at : Fun K "_law_cell_at" "_law_cell_at" s_l_cell_at a_l_cell_at d_l_cell_at
  g_l_cell_at : mg "_law_cell_at" = some (.ref a_l_cell_at)
  b_l_cell_at : Binds K d_l_cell_at ["_law_script", "_law_k"] []
  a_l_well : Addr
  d_l_well : FuncData
  F_l_well : Fun K "_law_well" "_law_well" s_l_well a_l_well d_l_well
  g_l_well : mg "_law_well" = some (.ref a_l_well)
  b_l_well : Binds K d_l_well ["_law_script", "_law_k"] []
  a_l_draw : Addr
  d_l_draw : FuncData
  F_l_draw : Fun K "_law_draw" "_law_draw" s_l_draw a_l_draw d_l_draw
  g_l_draw : mg "_law_draw" = some (.ref a_l_draw)
  b_l_draw : Binds K d_l_draw ["_law_well_here", "_law_many"] []
  a_l_whole : Addr
  d_l_whole : FuncData
  F_l_whole : Fun K "_law_whole" "_law_whole" s_l_whole a_l_whole d_l_whole
  g_l_whole : mg "_law_whole" = some (.ref a_l_whole)
  b_l_whole : Binds K d_l_whole ["_law_thing_here"] []
  a_l_rule : Addr
  d_l_rule : FuncData
  F_l_rule : Fun K "_law_rule" "_law_rule" s_l_rule a_l_rule d_l_rule
  g_l_rule : mg "_law_rule" = some (.ref a_l_rule)
  b_l_rule : Binds K d_l_rule ["_law_well_here"] []
  a_l_leaf : Addr
  d_l_leaf : FuncData
  F_l_leaf : Fun K "_law_leaf" "_law_leaf" s_l_leaf a_l_leaf d_l_leaf
  g_l_leaf : mg "_law_leaf" = some (.ref a_l_leaf)
  b_l_leaf : Binds K d_l_leaf ["_law_well_here"] []
  a_l_odd_number : Addr
  d_l_odd_number : FuncData
  F_l_odd_number : Fun K "_law_odd_number" "_law_odd_number" s_l_odd_number a_l_odd_number d_l_odd_number
  g_l_odd_number : mg "_law_odd_number" = some (.ref a_l_odd_number)
  b_l_odd_number : Binds K d_l_odd_number ["_law_well_here"] []
  a_l_odd_part : Addr
  d_l_odd_part : FuncData
  F_l_odd_part : Fun K "_law_odd_part" "_law_odd_part" s_l_odd_part a_l_odd_part d_l_odd_part
  g_l_odd_part : mg "_law_odd_part" = some (.ref a_l_odd_part)
  b_l_odd_part : Binds K d_l_odd_part ["_law_well_here"] []
  a_l_changed : Addr
  d_l_changed : FuncData
  F_l_changed : Fun K "_law_changed" "_law_changed" s_l_changed a_l_changed d_l_changed
  g_l_changed : mg "_law_changed" = some (.ref a_l_changed)
  b_l_changed : Binds K d_l_changed ["_law_well_here", "_law_row"] []
  a_l_thing : Addr
  d_l_thing : FuncData
  F_l_thing : Fun K "_law_thing" "_law_thing" s_l_thing a_l_thing d_l_thing
  g_l_thing : mg "_law_thing" = some (.ref a_l_thing)
  b_l_thing : Binds K d_l_thing ["_law_well_here", "_law_row"] []
  a_l_within : Addr
  d_l_within : FuncData
  F_l_within : Fun K "_law_within" "_law_within" s_l_within a_l_within d_l_within
  g_l_within : mg "_law_within" = some (.ref a_l_within)
  b_l_within : Binds K d_l_within ["_law_thing_here", "_law_low", "_law_high"] []
  a_l_is_rule : Addr
  d_l_is_rule : FuncData
  F_l_is_rule : Fun K "_law_is_rule" "_law_is_rule" s_l_is_rule a_l_is_rule d_l_is_rule
  g_l_is_rule : mg "_law_is_rule" = some (.ref a_l_is_rule)
  b_l_is_rule : Binds K d_l_is_rule ["_law_thing_here"] []
  a_l_is_leaf : Addr
  d_l_is_leaf : FuncData
  F_l_is_leaf : Fun K "_law_is_leaf" "_law_is_leaf" s_l_is_leaf a_l_is_leaf d_l_is_leaf
  g_l_is_leaf : mg "_law_is_leaf" = some (.ref a_l_is_leaf)
  b_l_is_leaf : Binds K d_l_is_leaf ["_law_thing_here"] []
  a_l_asked : Addr
  d_l_asked : FuncData
  F_l_asked : Fun K "_law_asked" "_law_asked" s_l_asked a_l_asked d_l_asked
  g_l_asked : mg "_law_asked" = some (.ref a_l_asked)
  b_l_asked : Binds K d_l_asked ["_law_thing_here"] []
  a_law : Addr
  d_law : FuncData
  F_law : Fun K "law" "law" s_law a_law d_law
  g_law : mg "law" = some (.ref a_law)
  b_law : Binds K d_law ["_law_script"] []
  m_ValueError : mg "ValueError" = none
  m_all : mg "all" = none
  m_bool : mg "bool" = none
  m_int : mg "int" = none
  m_isinstance : mg "isinstance" = none
  m_len : mg "len" = none
  m_list : mg "list" = none
  m_range : mg "range" = none
  m_str : mg "str" = none
  m_tuple : mg "tuple" = none
  c_ScrollError : Addr
  g_ScrollError : mg "ScrollError" = some (.ref c_ScrollError)
  c_NoRule : Addr
  g_NoRule : mg "NoRule" = some (.ref c_NoRule)
  c_NoLeaf : Addr
  g_NoLeaf : mg "NoLeaf" = some (.ref c_NoLeaf)
  c_NoCell : Addr
  g_NoCell : mg "NoCell" = some (.ref c_NoCell)
  c_NoFilm : Addr
  g_NoFilm : mg "NoFilm" = some (.ref c_NoFilm)
  c_NoNumber : Addr
  g_NoNumber : mg "NoNumber" = some (.ref c_NoNumber)
  c_Rule : Addr
  g_Rule : mg "Rule" = some (.ref c_Rule)
  c_Plain : Addr
  g_Plain : mg "Plain" = some (.ref c_Plain)
  c_Moved : Addr
  g_Moved : mg "Moved" = some (.ref c_Moved)
  c_Mixed : Addr
  g_Mixed : mg "Mixed" = some (.ref c_Mixed)
  c_Leaf : Addr
  g_Leaf : mg "Leaf" = some (.ref c_Leaf)
  c_Full : Addr
  g_Full : mg "Full" = some (.ref c_Full)
  c_Still : Addr
  g_Still : mg "Still" = some (.ref c_Still)
  c_Woven : Addr
  g_Woven : mg "Woven" = some (.ref c_Woven)
  ct_GREATEST_VALUE : Tok
  g_GREATEST_VALUE : mg "GREATEST_VALUE" = some (.int 255 ct_GREATEST_VALUE)
  ct_GREATEST_BACK : Tok
  g_GREATEST_BACK : mg "GREATEST_BACK" = some (.int 200 ct_GREATEST_BACK)
  ct_LAST_CELL : Tok
  g_LAST_CELL : mg "LAST_CELL" = some (.int 15 ct_LAST_CELL)
  ct_GREATEST_TIME : Tok
  g_GREATEST_TIME : mg "GREATEST_TIME" = some (.int 1000000000 ct_GREATEST_TIME)
  ct_MOST_CELLS : Tok
  g_MOST_CELLS : mg "MOST_CELLS" = some (.int 16 ct_MOST_CELLS)
  cl_Rule : Cls K c_Rule
  mkk_Rule : PySem.W.makesIn K c_Rule = true
  na_Rule_worth : NoAttr K c_Rule "worth"
  na_Rule_back : NoAttr K c_Rule "back"
  na_Rule_cell : NoAttr K c_Rule "cell"
  na_Rule_added : NoAttr K c_Rule "added"
  na_Rule_other_back : NoAttr K c_Rule "other_back"
  na_Rule_other_cell : NoAttr K c_Rule "other_cell"
  na_Rule_begin : NoAttr K c_Rule "begin"
  na_Rule_span : NoAttr K c_Rule "span"
  na_Rule_worths : NoAttr K c_Rule "worths"
  na_Rule_rules : NoAttr K c_Rule "rules"
  mt_Rule_told : Meth K c_Rule "told" a_Rule_told
  mt_Rule_needs : Meth K c_Rule "needs" a_Rule_needs
  mt_Rule_value : Meth K c_Rule "value" a_Rule_value
  cl_Plain : Cls K c_Plain
  mkk_Plain : PySem.W.makesIn K c_Plain = true
  na_Plain_worth : NoAttr K c_Plain "worth"
  na_Plain_back : NoAttr K c_Plain "back"
  na_Plain_cell : NoAttr K c_Plain "cell"
  na_Plain_added : NoAttr K c_Plain "added"
  na_Plain_other_back : NoAttr K c_Plain "other_back"
  na_Plain_other_cell : NoAttr K c_Plain "other_cell"
  na_Plain_begin : NoAttr K c_Plain "begin"
  na_Plain_span : NoAttr K c_Plain "span"
  na_Plain_worths : NoAttr K c_Plain "worths"
  na_Plain_rules : NoAttr K c_Plain "rules"
  mk_Plain : Mk K c_Plain a_Plain_init
  mt_Plain_str : Meth K c_Plain "__str__" a_Plain_str
  mt_Plain_told : Meth K c_Plain "told" a_Plain_told
  mt_Plain_needs : Meth K c_Plain "needs" a_Plain_needs
  mt_Plain_value : Meth K c_Plain "value" a_Plain_value
  cl_Moved : Cls K c_Moved
  mkk_Moved : PySem.W.makesIn K c_Moved = true
  na_Moved_worth : NoAttr K c_Moved "worth"
  na_Moved_back : NoAttr K c_Moved "back"
  na_Moved_cell : NoAttr K c_Moved "cell"
  na_Moved_added : NoAttr K c_Moved "added"
  na_Moved_other_back : NoAttr K c_Moved "other_back"
  na_Moved_other_cell : NoAttr K c_Moved "other_cell"
  na_Moved_begin : NoAttr K c_Moved "begin"
  na_Moved_span : NoAttr K c_Moved "span"
  na_Moved_worths : NoAttr K c_Moved "worths"
  na_Moved_rules : NoAttr K c_Moved "rules"
  mk_Moved : Mk K c_Moved a_Moved_init
  mt_Moved_str : Meth K c_Moved "__str__" a_Moved_str
  mt_Moved_told : Meth K c_Moved "told" a_Moved_told
  mt_Moved_needs : Meth K c_Moved "needs" a_Moved_needs
  mt_Moved_value : Meth K c_Moved "value" a_Moved_value
  cl_Mixed : Cls K c_Mixed
  mkk_Mixed : PySem.W.makesIn K c_Mixed = true
  na_Mixed_worth : NoAttr K c_Mixed "worth"
  na_Mixed_back : NoAttr K c_Mixed "back"
  na_Mixed_cell : NoAttr K c_Mixed "cell"
  na_Mixed_added : NoAttr K c_Mixed "added"
  na_Mixed_other_back : NoAttr K c_Mixed "other_back"
  na_Mixed_other_cell : NoAttr K c_Mixed "other_cell"
  na_Mixed_begin : NoAttr K c_Mixed "begin"
  na_Mixed_span : NoAttr K c_Mixed "span"
  na_Mixed_worths : NoAttr K c_Mixed "worths"
  na_Mixed_rules : NoAttr K c_Mixed "rules"
  mk_Mixed : Mk K c_Mixed a_Mixed_init
  mt_Mixed_str : Meth K c_Mixed "__str__" a_Mixed_str
  mt_Mixed_told : Meth K c_Mixed "told" a_Mixed_told
  mt_Mixed_needs : Meth K c_Mixed "needs" a_Mixed_needs
  mt_Mixed_value : Meth K c_Mixed "value" a_Mixed_value
  cl_Leaf : Cls K c_Leaf
  mkk_Leaf : PySem.W.makesIn K c_Leaf = true
  na_Leaf_worth : NoAttr K c_Leaf "worth"
  na_Leaf_back : NoAttr K c_Leaf "back"
  na_Leaf_cell : NoAttr K c_Leaf "cell"
  na_Leaf_added : NoAttr K c_Leaf "added"
  na_Leaf_other_back : NoAttr K c_Leaf "other_back"
  na_Leaf_other_cell : NoAttr K c_Leaf "other_cell"
  na_Leaf_begin : NoAttr K c_Leaf "begin"
  na_Leaf_span : NoAttr K c_Leaf "span"
  na_Leaf_worths : NoAttr K c_Leaf "worths"
  na_Leaf_rules : NoAttr K c_Leaf "rules"
  mk_Leaf : Mk K c_Leaf a_Leaf_init
  mt_Leaf_told : Meth K c_Leaf "told" a_Leaf_told
  mt_Leaf_cells : Meth K c_Leaf "cells" a_Leaf_cells
  mt_Leaf_rule : Meth K c_Leaf "rule" a_Leaf_rule
  cl_Full : Cls K c_Full
  mkk_Full : PySem.W.makesIn K c_Full = true
  na_Full_worth : NoAttr K c_Full "worth"
  na_Full_back : NoAttr K c_Full "back"
  na_Full_cell : NoAttr K c_Full "cell"
  na_Full_added : NoAttr K c_Full "added"
  na_Full_other_back : NoAttr K c_Full "other_back"
  na_Full_other_cell : NoAttr K c_Full "other_cell"
  na_Full_begin : NoAttr K c_Full "begin"
  na_Full_span : NoAttr K c_Full "span"
  na_Full_worths : NoAttr K c_Full "worths"
  na_Full_rules : NoAttr K c_Full "rules"
  mk_Full : Mk K c_Full a_Full_init
  mt_Full_told : Meth K c_Full "told" a_Full_told
  mt_Full_cells : Meth K c_Full "cells" a_Full_cells
  mt_Full_rule : Meth K c_Full "rule" a_Full_rule
  cl_Still : Cls K c_Still
  mkk_Still : PySem.W.makesIn K c_Still = true
  na_Still_worth : NoAttr K c_Still "worth"
  na_Still_back : NoAttr K c_Still "back"
  na_Still_cell : NoAttr K c_Still "cell"
  na_Still_added : NoAttr K c_Still "added"
  na_Still_other_back : NoAttr K c_Still "other_back"
  na_Still_other_cell : NoAttr K c_Still "other_cell"
  na_Still_begin : NoAttr K c_Still "begin"
  na_Still_span : NoAttr K c_Still "span"
  na_Still_worths : NoAttr K c_Still "worths"
  na_Still_rules : NoAttr K c_Still "rules"
  mk_Still : Mk K c_Still a_Still_init
  mt_Still_told : Meth K c_Still "told" a_Still_told
  mt_Still_cells : Meth K c_Still "cells" a_Still_cells
  mt_Still_rule : Meth K c_Still "rule" a_Still_rule
  cl_Woven : Cls K c_Woven
  mkk_Woven : PySem.W.makesIn K c_Woven = true
  na_Woven_worth : NoAttr K c_Woven "worth"
  na_Woven_back : NoAttr K c_Woven "back"
  na_Woven_cell : NoAttr K c_Woven "cell"
  na_Woven_added : NoAttr K c_Woven "added"
  na_Woven_other_back : NoAttr K c_Woven "other_back"
  na_Woven_other_cell : NoAttr K c_Woven "other_cell"
  na_Woven_begin : NoAttr K c_Woven "begin"
  na_Woven_span : NoAttr K c_Woven "span"
  na_Woven_worths : NoAttr K c_Woven "worths"
  na_Woven_rules : NoAttr K c_Woven "rules"
  mk_Woven : Mk K c_Woven a_Woven_init
  mt_Woven_told : Meth K c_Woven "told" a_Woven_told
  mt_Woven_cells : Meth K c_Woven "cells" a_Woven_cells
  mt_Woven_rule : Meth K c_Woven "rule" a_Woven_rule
  x_NoRule : PySem.W.excIn K c_NoRule [.type "ValueError", .type "Exception", .type "BaseException", .type "object"] "ValueError.__new__" = true
  k_NoRule : PySem.W.keepIn K (.ref c_NoRule) = true
  bb_NoRule : PySem.W.subIn K (.ref c_NoRule) (.type "BaseException") = some true
  t_NoRule : PySem.W.typeIn K (.ref c_NoRule) = some (.type "type")
  xc_NoRule : ExcC K c_NoRule
  x_NoLeaf : PySem.W.excIn K c_NoLeaf [.type "ValueError", .type "Exception", .type "BaseException", .type "object"] "ValueError.__new__" = true
  k_NoLeaf : PySem.W.keepIn K (.ref c_NoLeaf) = true
  bb_NoLeaf : PySem.W.subIn K (.ref c_NoLeaf) (.type "BaseException") = some true
  t_NoLeaf : PySem.W.typeIn K (.ref c_NoLeaf) = some (.type "type")
  xc_NoLeaf : ExcC K c_NoLeaf
  x_NoCell : PySem.W.excIn K c_NoCell [.type "ValueError", .type "Exception", .type "BaseException", .type "object"] "ValueError.__new__" = true
  k_NoCell : PySem.W.keepIn K (.ref c_NoCell) = true
  bb_NoCell : PySem.W.subIn K (.ref c_NoCell) (.type "BaseException") = some true
  t_NoCell : PySem.W.typeIn K (.ref c_NoCell) = some (.type "type")
  xc_NoCell : ExcC K c_NoCell
  em_NoCell_ScrollError : PySem.W.exmOne K (.ref c_NoCell) (.ref c_ScrollError) = some true
  em_NoLeaf_ScrollError : PySem.W.exmOne K (.ref c_NoLeaf) (.ref c_ScrollError) = some true
  em_NoRule_ScrollError : PySem.W.exmOne K (.ref c_NoRule) (.ref c_ScrollError) = some true
  ki_Rule_Leaf : PySem.W.kitOne K (.ref c_Rule) (.ref c_Leaf) = some false
  ki_Plain_Leaf : PySem.W.kitOne K (.ref c_Plain) (.ref c_Leaf) = some false
  ki_Moved_Leaf : PySem.W.kitOne K (.ref c_Moved) (.ref c_Leaf) = some false
  ki_Mixed_Leaf : PySem.W.kitOne K (.ref c_Mixed) (.ref c_Leaf) = some false
  ki_Leaf_Leaf : PySem.W.kitOne K (.ref c_Leaf) (.ref c_Leaf) = some true
  ki_Full_Leaf : PySem.W.kitOne K (.ref c_Full) (.ref c_Leaf) = some true
  ki_Still_Leaf : PySem.W.kitOne K (.ref c_Still) (.ref c_Leaf) = some true
  ki_Woven_Leaf : PySem.W.kitOne K (.ref c_Woven) (.ref c_Leaf) = some true
  ty_Rule : ∀ {H : Hp} {a dx : Addr} {fs : List (Str × V)}, H a = some (.ins c_Rule dx fs) → TyX K H (.ref a) (.ref c_Rule)
  ty_Plain : ∀ {H : Hp} {a dx : Addr} {fs : List (Str × V)}, H a = some (.ins c_Plain dx fs) → TyX K H (.ref a) (.ref c_Plain)
  ty_Moved : ∀ {H : Hp} {a dx : Addr} {fs : List (Str × V)}, H a = some (.ins c_Moved dx fs) → TyX K H (.ref a) (.ref c_Moved)
  ty_Mixed : ∀ {H : Hp} {a dx : Addr} {fs : List (Str × V)}, H a = some (.ins c_Mixed dx fs) → TyX K H (.ref a) (.ref c_Mixed)
  ty_Leaf : ∀ {H : Hp} {a dx : Addr} {fs : List (Str × V)}, H a = some (.ins c_Leaf dx fs) → TyX K H (.ref a) (.ref c_Leaf)
  ty_Full : ∀ {H : Hp} {a dx : Addr} {fs : List (Str × V)}, H a = some (.ins c_Full dx fs) → TyX K H (.ref a) (.ref c_Full)
  ty_Still : ∀ {H : Hp} {a dx : Addr} {fs : List (Str × V)}, H a = some (.ins c_Still dx fs) → TyX K H (.ref a) (.ref c_Still)
  ty_Woven : ∀ {H : Hp} {a dx : Addr} {fs : List (Str × V)}, H a = some (.ins c_Woven dx fs) → TyX K H (.ref a) (.ref c_Woven)
  io_NoCell_NoRule : PySem.W.kitOne K (.ref c_NoCell) (.ref c_NoRule) = some false
  io_NoLeaf_NoRule : PySem.W.kitOne K (.ref c_NoLeaf) (.ref c_NoRule) = some false
  io_NoRule_NoRule : PySem.W.kitOne K (.ref c_NoRule) (.ref c_NoRule) = some true
  io_NoCell_NoCell : PySem.W.kitOne K (.ref c_NoCell) (.ref c_NoCell) = some true
  io_NoLeaf_NoCell : PySem.W.kitOne K (.ref c_NoLeaf) (.ref c_NoCell) = some false
  io_NoRule_NoCell : PySem.W.kitOne K (.ref c_NoRule) (.ref c_NoCell) = some false
  io_NoCell_NoNumber : PySem.W.kitOne K (.ref c_NoCell) (.ref c_NoNumber) = some false
  io_NoLeaf_NoNumber : PySem.W.kitOne K (.ref c_NoLeaf) (.ref c_NoNumber) = some false
  io_NoRule_NoNumber : PySem.W.kitOne K (.ref c_NoRule) (.ref c_NoNumber) = some false
  io_NoCell_NoFilm : PySem.W.kitOne K (.ref c_NoCell) (.ref c_NoFilm) = some false
  io_NoLeaf_NoFilm : PySem.W.kitOne K (.ref c_NoLeaf) (.ref c_NoFilm) = some false
  io_NoRule_NoFilm : PySem.W.kitOne K (.ref c_NoRule) (.ref c_NoFilm) = some false
  io_NoCell_NoLeaf : PySem.W.kitOne K (.ref c_NoCell) (.ref c_NoLeaf) = some false
  io_NoLeaf_NoLeaf : PySem.W.kitOne K (.ref c_NoLeaf) (.ref c_NoLeaf) = some true
  io_NoRule_NoLeaf : PySem.W.kitOne K (.ref c_NoRule) (.ref c_NoLeaf) = some false
  io_NoCell_ValueError : PySem.W.kitOne K (.ref c_NoCell) (.type "ValueError") = some true
  io_NoLeaf_ValueError : PySem.W.kitOne K (.ref c_NoLeaf) (.type "ValueError") = some true
  io_NoRule_ValueError : PySem.W.kitOne K (.ref c_NoRule) (.type "ValueError") = some true
  eD_Full_init : cD_Full_init = c_Full
  eD_Still_init : cD_Still_init = c_Still
  eD_Woven_init : cD_Woven_init = c_Woven
/-! ### heaps -/
/-- all but what stands at p is as it was -/
def Frm (p : Addr) (H H' : Hp) : Prop := ∀ b o, b ≠ p → H b = some o → H' b = some o
theorem Frm.get {p q : Addr} {H H' : Hp} {o : HO} (f : Frm p H H') (n : q ≠ p) (h : H q = some o) : H' q = some o := f q o n h
theorem Frm.refl {p : Addr} {H : Hp} : Frm p H H := fun _ _ _ h => h
theorem Frm.trans {p : Addr} {H H1 H2 : Hp} (a : Frm p H H1) (b : Frm p H1 H2) : Frm p H H2 := fun c o n h => b c o n (a c o n h)
theorem Frm.upd {p : Addr} {H : Hp} {o : HO} : Frm p H (upd H p o) := fun c u n h => by rw [upd_ne n]; exact h
theorem upd_old {H : Hp} {a q : Addr} {o o' : HO} (na : H a = none) (h : H q = some o) : upd H a o' q = some o := by
  rw [upd_ne (ne_of_none h na)]; exact h
theorem upd_oth {H : Hp} {a q : Addr} {o o' : HO} (na : q ≠ a) (h : H q = some o) : upd H a o' q = some o := by
  rw [upd_ne na]; exact h
theorem Frm.new {p a : Addr} {H H' : Hp} {o : HO} (f : Frm p H H') (na : H' a = none) : Frm p H (L2.upd H' a o) := fun c u n h => upd_old na (f c u n h)
theorem Frm.upd2 {p : Addr} {H H' : Hp} {o : HO} (f : Frm p H H') : Frm p H (L2.upd H' p o) := f.trans .upd
theorem Frm.own {p a : Addr} {H H' : Hp} {o : HO} (f : Frm p H H') (na : H a = none) : Frm p H (L2.upd H' a o) := fun c u n h => upd_oth (ne_of_none h na) (f c u n h)
theorem Frm.new2 {p a : Addr} {H H' : Hp} {o o2 : HO} (f : Frm p H H') (na : H' a = none) : Frm p H (L2.upd (L2.upd H' a o2) a o) := by rw [upd_upd]; exact f.new na
theorem upd_old2 {H : Hp} {a q : Addr} {o o' o2 : HO} (na : H a = none) (h : H q = some o) : upd (upd H a o2) a o' q = some o := by rw [upd_upd]; exact upd_old na h
theorem new_ne {H : Hp} {a q : Addr} {o : HO} (na : H a = none) (h : H q = some o) : a ≠ q := fun e => by subst e; rw [na] at h; cases h
theorem Same.get {q : Addr} {H H' : Hp} {o : HO} (f : Same H H') (h : H q = some o) : H' q = some o := f q o h
theorem Same.new {a : Addr} {H H' : Hp} {o : HO} (f : Same H H') (na : H' a = none) : Same H (L2.upd H' a o) := fun c u h => upd_old na (f c u h)
theorem Same.new2 {a : Addr} {H H' : Hp} {o o2 : HO} (f : Same H H') (na : H' a = none) : Same H (L2.upd (L2.upd H' a o2) a o) := by rw [upd_upd]; exact Same.new f na
theorem Same.own {a : Addr} {H H' : Hp} {o : HO} (f : Same H H') (na : H a = none) : Same H (L2.upd H' a o) := fun c u h => upd_oth (ne_of_none h na) (f c u h)
theorem Same.frm {p : Addr} {H H' : Hp} (f : Same H H') : Frm p H H' := fun c u _ h => f c u h
/-- what is new to an elder heap and stands apart is no matter -/
theorem Frm.same {p : Addr} {H H' : Hp} (f : Frm p H H') (n : H p = none) : Same H H' := fun c u h => f c u (ne_of_none h n) h
theorem Same.byFrm {p : Addr} {H H1 H2 : Hp} (f : Same H H1) (g : Frm p H1 H2) (n : H p = none) : Same H H2 := fun c u h => g c u (ne_of_none h n) (f c u h)
theorem Frm.none {p q : Addr} {H H' : Hp} (f : Frm p H H') (n : q ≠ p) (h : H' q = none) : H q = none := by
  cases e : H q with
  | none => rfl
  | some o => rw [f q o n e] at h; cases h
theorem Same.none {q : Addr} {H H' : Hp} (f : Same H H') (h : H' q = none) : H q = none := by
  cases e : H q with
  | none => rfl
  | some o => rw [f q o e] at h; cases h
/-! ### sizes, ifs -/
theorem szb {n : Nat} (h : n ≤ 16000000) : n ≤ sizeLine := Nat.le_trans h (by decide)
theorem szbl {n : Nat} (h : n ≤ 16000000) : n < sizeLine := Nat.lt_of_le_of_lt h (by decide)
theorem sz {n : Nat} (h : Nat.ble n 1000 = true) : n ≤ sizeLine := Nat.le_trans (Nat.le_of_ble_eq_true h) (by decide)
theorem szl {n : Nat} (h : Nat.ble n 1000 = true) : n < sizeLine := Nat.lt_of_le_of_lt (Nat.le_of_ble_eq_true h) (by decide)
theorem szn {n : Nat} (h : n ≤ 1000) : n ≤ sizeLine := Nat.le_trans h (by decide)
theorem sznl {n : Nat} (h : n ≤ 1000) : n < sizeLine := Nat.lt_of_le_of_lt h (by decide)
theorem ifT {c : Bool} {A B : Prop} (h : c = true) (a : A) : if c = true then A else B := by rw [if_pos h]; exact a
theorem ifF {c : Bool} {A B : Prop} (h : c = false) (b : B) : if c = true then A else B := by rw [h, if_neg Bool.false_ne_true]; exact b
theorem ifC {c : Bool} {A B : Prop} (a : c = true → A) (b : c = false → B) : if c = true then A else B := by
  cases c with
  | true => exact ifT rfl (a rfl)
  | false => exact ifF rfl (b rfl)
theorem ifAnd {k1 k2 : Bool} {A : Prop} {Q : VK} {H : Hp} (a : Q (.bl k2) H → A) (h : Q (.bl (k1 && k2)) H) : if k1 = true then A else Q (.bl false) H := by
  cases k1 with
  | true => exact ifT rfl (a h)
  | false => exact ifF rfl h
/-! ### items at a drawn place -/
theorem at_nn {α : Type} {xs : List α} {d : Int} (h0 : 0 ≤ d) (h1 : d < xs.length) : ∃ v, atI xs d = some v ∧ v ∈ xs ∧ xs[d.toNat]? = some v := by
  have h2 : d.toNat < xs.length := by omega
  have e : (d.toNat : Int) = d := by omega
  have k := atI_nat (List.getElem?_eq_getElem h2)
  rw [e] at k
  exact ⟨xs[d.toNat], k, List.getElem_mem h2, List.getElem?_eq_getElem h2⟩
theorem ixP {K : PySem.W.Frag} {H : Hp} {Q : VK} {p : Addr} {xs : List V} {d : Int} (R : V → Prop) (hp : SqL K H p xs) (h0 : 0 ≤ d) (h1 : d < xs.length) (all : ∀ v ∈ xs, R v) (k : ∀ v, R v → Q v H) : rIxL K (.ref p) (.int d) H Q := by
  obtain ⟨v, e, m, _⟩ := at_nn h0 h1
  exact ⟨_, _, _, _, rfl, rfl, hp, e, k v (all v m)⟩
theorem ixG {K : PySem.W.Frag} {H : Hp} {Q : VK} {p : Addr} {xs : List V} {d : Int} (hp : SqL K H p xs) (h0 : 0 ≤ d) (h1 : d < xs.length) (k : ∀ v, xs[d.toNat]? = some v → Q v H) : rIxL K (.ref p) (.int d) H Q := by
  obtain ⟨v, e, _, m⟩ := at_nn h0 h1
  exact ⟨_, _, _, _, rfl, rfl, hp, e, k v m⟩
def isI : V → Bool
  | .int _ => true
  | _ => false
theorem ixI {K : PySem.W.Frag} {H : Hp} {Q : VK} {p : Addr} {xs : List V} {d : Int} (hp : SqL K H p xs) (h0 : 0 ≤ d) (h1 : d < xs.length) (all : xs.all isI = true) (k : ∀ i, V.int i ∈ xs → Q (.int i) H) : rIxL K (.ref p) (.int d) H Q := by
  refine ixP (fun v => (∃ i, v = .int i) ∧ v ∈ xs) hp h0 h1 (fun v hv => ⟨?_, hv⟩) (fun v ⟨⟨i, e⟩, m⟩ => ?_)
  · have := List.all_eq_true.mp all v hv
    cases v <;> first | exact ⟨_, rfl⟩ | cases this
  · subst e; exact k i m
/-! ### a call with keywords alone -/
section
variable {X : Cx} {CX : CXT} {k : Nat} {f : Addr} {fd : FuncData} {ps ks : List Str} {sp : Sp} {E : XK} {x : Str} {p pos : Pos} {kws : List Keyword} {tk : TA} {g : List Value → List Value → List Value} {gV : List V → List V → List V}
theorem pe_callN0 (F : FnOk X.prog X.w X.K X.mg X.base CX k f fd ps sp) (hr : Room k X.A) (hg : Gl X x) (hm : X.mg x = some (.ref f)) (hk : PySem.W.keepIn X.K (.ref f) = true) (hb : KBn X.K fd ps 0 ks g gV) (hx : Passes CX X E)
    (hkw : PK X kws tk) (hall : (backToKw pos (keywordEach kws X.env)).all (·.1.isSome) = true := by rfl) (hks : (backToKw pos (keywordEach kws X.env)).filterMap (·.1) = ks := by rfl)
    (hdb : (x == ("__debug__" : Str)) = false := by decide)
    (hpl : ((backTo pos (starEach [] X.env)).any (·.1) || (backToKw pos (keywordEach kws X.env)).any (·.1.isNone)) = false := by rfl) :
    PE X (.Call (.Name x p) [] kws pos) (tCallN 0 ks.length sp gV E tNil tk) := by
  refine ⟨fun pins s σ H Q I h => ?_⟩
  refine wpAny_Call_Name_kw (ld_glob I hg hm ?_ hdb)
  refine PySem.W.callWith_KW0 (h₀ := X.base) I.ok.mod.kin hk hall (thn (hkw.run pos pins s σ H _ I h) fun ws s2 ⟨zs, H2, I2, rz, l1, l2, q2⟩ => ⟨I2.kIn, ?_⟩) hpl
  rw [hks]
  exact run_fnN F hr hb hx I2 .nil rz rfl l2 q2
end
section
variable {K : PySem.W.Frag} {x qual : Str} {st : Stmt} {f : Addr} {fd : FuncData} {ps ks : List Str} {n : Nat}
theorem kbAll {F : Fun K x qual st f fd} {g : {α : Type} → List α → List α → List α} (h : ∀ (kV doc pm : Value) (an : Option Addr) (cdv ct : Value) (us ws : List Value), us.length = n → ws.length = ks.length →
    bindArgs (PySem.W.fnOf x qual (defArgs st) (defBody st) (defScope st) .none kV doc pm an cdv ct) ⟨us, ks.zip ws⟩ = pure (ps.zip (g us ws)))
    (hrel : ∀ {vs : List V} {us : List Value} {zs : List V} {ws : List Value}, Vals vs us → Vals zs ws → Vals (g vs zs) (g us ws)) : KBn K fd ps n ks (fun us ws => g us ws) (fun us ws => g us ws) := by
  obtain ⟨oc, od, kV, doc, pm, an, cdv, ct, osl, rfl, lk, hcd⟩ := F.ex
  exact ⟨fun s us ws _ h1 h2 => .of_eq (h kV doc pm an cdv ct us ws h1 h2), fun r1 r2 => hrel r1 r2⟩
variable {params : Arguments} {body : List Stmt} {scope : Scope} {dvs : List V}
theorem bindsAll {F : FunD K x qual params body scope dvs [] f fd}
    (h : ∀ (T : Addr) (kV doc pm : Value) (an : Option Addr) (cdv ct : Value) (us its : List Value), us.length = ps.length → its.length = dvs.length →
      ∃ k, bindArgs (PySem.W.fnOf x qual params body scope (.ref T) kV doc pm an cdv ct) ⟨us, []⟩ = seqItems? (.ref T) >>= k ∧ k (some its.toArray) = pure (ps.zip us)) (hd : dvs ≠ []) : Binds K fd ps [] := by
  obtain ⟨ds, hv, hb⟩ := F.binds1 (ps := ps) ps.length dvs.length hd (by omega) (fun T kV doc pm an cdv ct us its h1 h2 => by
    obtain ⟨k, e1, e2⟩ := h T kV doc pm an cdv ct us its h1 h2
    refine ⟨k, e1, ?_⟩
    rw [e2, ← h2, List.drop_length, List.append_nil])
  rw [List.drop_length] at hv
  cases hv
  exact hb
theorem kbAllD {F : FunD K x qual params body scope dvs [] f fd} {g : {α : Type} → List α → List α → List α}
    (h : ∀ (T : Addr) (kV doc pm : Value) (an : Option Addr) (cdv ct : Value) (us its ws : List Value), us.length = n → its.length = dvs.length → ws.length = ks.length →
      ∃ k, bindArgs (PySem.W.fnOf x qual params body scope (.ref T) kV doc pm an cdv ct) ⟨us, ks.zip ws⟩ = seqItems? (.ref T) >>= k ∧ k (some its.toArray) = pure (ps.zip (g us ws))) (hd : dvs ≠ [])
    (hrel : ∀ {vs : List V} {us : List Value} {zs : List V} {ws : List Value}, Vals vs us → Vals zs ws → Vals (g vs zs) (g us ws)) : KBn K fd ps n ks (fun us ws => g us ws) (fun us ws => g us ws) := by
  obtain ⟨oc, od, dV, kV, doc, pm, an, cdv, ct, osl, rfl, lk, hcd, hD, hK⟩ := F.ex
  rcases hD with ⟨e, _⟩ | ⟨_, T, o, its, m, rfl, lT, oT, rT⟩
  · exact absurd e hd
  · refine ⟨fun s us ws X l1 l2 => ?_, fun r1 r2 => hrel r1 r2⟩
    obtain ⟨k, e1, e2⟩ := h T kV doc pm an cdv ct us its ws l1 rT.length.symm l2
    refine BindsTo.of_looks fun M => ?_
    rw [e1]
    exact looks_items X lT oT (.of_pure e2)
theorem exm_by {K : PySem.W.Frag} {C S : Addr} {b : Bool} (h1 : PySem.W.subIn K (.ref S) (.type "BaseException") = some true) (h2 : PySem.W.isClsIn K S = true) (h3 : PySem.W.typeIn K (.ref S) = some (.type "type")) (h4 : PySem.W.subIn K (.ref C) (.ref S) = some b) :
    PySem.W.exmOne K (.ref C) (.ref S) = some b := by
  have e1 : (PySem.W.subIn K (.ref S) (.type "BaseException") == some true) = true := by rw [h1] <;> rfl
  have e2 : ((PySem.W.clsIn K S).isSome && PySem.W.typeIn K (.ref S) == some (.type "type")) = true := by
    have h2' : (PySem.W.clsIn K S).isSome = true := h2
    rw [h2', h3] <;> rfl
  show (if (PySem.W.subIn K (.ref S) (.type "BaseException") == some true) = true then (if ((PySem.W.clsIn K S).isSome && PySem.W.typeIn K (.ref S) == some (.type "type")) = true then PySem.W.subIn K (.ref C) (.ref S) else none) else none) = some b
  rw [if_pos e1, if_pos e2]
  exact h4
end
/-! ### a < b < c of whole numbers, as one answer -/
def MonoE (t : TE) : Prop := ∀ (σ : L2.St) (H : Hp) (Q Q' : VK), (∀ v H', Q v H' → Q' v H') → t σ H Q → t σ H Q'
theorem mn_var {i : Nat} : MonoE (tVar i) := fun _ _ _ _ k ⟨v, e, q⟩ => ⟨v, e, k _ _ q⟩
theorem mn_c {v : V} : MonoE (tC v) := fun _ _ _ _ k q => k _ _ q
theorem mn_I0 {g : Int → Int → V} {ta tb : TE} (a : MonoE ta) (b : MonoE tb) : MonoE (tOp (rI0 g) ta tb) := fun σ H Q Q' k h =>
  a σ H _ _ (fun _ H1 h1 => b σ H1 _ _ (fun _ _ ⟨i, j, e1, e2, q⟩ => ⟨i, j, e1, e2, k _ _ q⟩) h1) h
theorem mn_I {C : Int → Int → Prop} {g : Int → Int → V} {ta tb : TE} (a : MonoE ta) (b : MonoE tb) : MonoE (tOp (rI C g) ta tb) := fun σ H Q Q' k h =>
  a σ H _ _ (fun _ H1 h1 => b σ H1 _ _ (fun _ _ ⟨i, j, e1, e2, c, q⟩ => ⟨i, j, e1, e2, c, k _ _ q⟩) h1) h
theorem mn_ixL {K : PySem.W.Frag} {ta tb : TE} (a : MonoE ta) (b : MonoE tb) : MonoE (tOp (rIxL K) ta tb) := fun σ H Q Q' k h =>
  a σ H _ _ (fun _ H1 h1 => b σ H1 _ _ (fun _ _ ⟨p, xs, i, v, e1, e2, s, e, q⟩ => ⟨p, xs, i, v, e1, e2, s, e, k _ _ q⟩) h1) h
theorem mn_ixT {K : PySem.W.Frag} {ta tb : TE} (a : MonoE ta) (b : MonoE tb) : MonoE (tOp (rIxT K) ta tb) := fun σ H Q Q' k h =>
  a σ H _ _ (fun _ H1 h1 => b σ H1 _ _ (fun _ _ ⟨p, xs, i, v, e1, e2, s, e, q⟩ => ⟨p, xs, i, v, e1, e2, s, e, k _ _ q⟩) h1) h
theorem mn_len {r : List V → Hp → VK → Prop} {ta : TE} (a : MonoE ta) (hr : ∀ vs H (Q Q' : VK), (∀ v H', Q v H' → Q' v H') → r vs H Q → r vs H Q') : MonoE (tCB r (tCons ta tNil)) := fun σ H Q Q' k h =>
  a σ H _ _ (fun _ H1 h1 => hr _ _ _ _ k h1) h
def tChI (g g' : Int → Int → Bool) (ta tb tc : TE) : TE := fun σ H Q => ta σ H fun x H1 => tb σ H1 fun y H2 => tc σ H2 fun z H3 => ∃ i j l : Int, x = .int i ∧ y = .int j ∧ z = .int l ∧ H3 = H2 ∧ Q (.bl (g i j && g' j l)) H2
/-- what c's reading tells is told at once: c changes nothing -/
theorem tChI_to {g g' : Int → Int → Bool} {ta tb tc : TE} (ma : MonoE ta) (mb : MonoE tb) (mc : MonoE tc) {σ : L2.St} {H : Hp} {Q : VK} (cx : ∀ (σ : L2.St) (H : Hp) (Q : V → Hp → Prop), tc σ H Q → ∃ v H', Q v H') (h : tChI g g' ta tb tc σ H Q) :
    tChain (rI0 fun i j => .bl (g i j)) (rI0 fun i j => .bl (g' i j)) ta tb tc σ H Q := by
  refine ma σ H _ _ (fun x H1 h1 => mb σ H1 _ _ (fun y H2 h2 => ?_) h1) h
  obtain ⟨_, _, i, j, l, ex, ey, _, _, q⟩ := cx _ _ _ h2
  refine ⟨i, j, ex, ey, _, rfl, ?_⟩
  cases e : g i j with
  | true =>
    refine ifT rfl (mc σ H2 _ _ (fun z H3 h3 => ?_) h2)
    obtain ⟨i', j', l', ex', ey', ez, e3, q'⟩ := h3
    have e1 : i' = i := V.int.inj (ex'.symm.trans ex)
    have e2 : j' = j := V.int.inj (ey'.symm.trans ey)
    subst e1 e2 ez e3
    rw [e, Bool.true_and] at q'
    exact ⟨j', l', ey, rfl, q'⟩
  | false =>
    rw [e, Bool.false_and] at q
    exact ifF rfl q
def ShowsE (t : TE) : Prop := ∀ (σ : L2.St) (H : Hp) (Q : V → Hp → Prop), t σ H Q → ∃ v H', Q v H'
theorem sh_var {i : Nat} : ShowsE (tVar i) := fun _ _ _ ⟨v, _, q⟩ => ⟨v, _, q⟩
theorem sh_c {v : V} : ShowsE (tC v) := fun _ _ _ q => ⟨_, _, q⟩
theorem sh_I0 {g : Int → Int → V} {ta tb : TE} (a : ShowsE ta) (b : ShowsE tb) : ShowsE (tOp (rI0 g) ta tb) := fun σ H Q h => by
  obtain ⟨x, H1, h1⟩ := a _ _ _ h
  obtain ⟨y, H2, h2⟩ := b _ _ _ h1
  obtain ⟨i, j, _, _, q⟩ := h2
  exact ⟨_, _, q⟩
theorem sh_I {C : Int → Int → Prop} {g : Int → Int → V} {ta tb : TE} (a : ShowsE ta) (b : ShowsE tb) : ShowsE (tOp (rI C g) ta tb) := fun σ H Q h => by
  obtain ⟨x, H1, h1⟩ := a _ _ _ h
  obtain ⟨y, H2, h2⟩ := b _ _ _ h1
  obtain ⟨i, j, _, _, _, q⟩ := h2
  exact ⟨_, _, q⟩
theorem sh_ixL {K : PySem.W.Frag} {ta tb : TE} (a : ShowsE ta) (b : ShowsE tb) : ShowsE (tOp (rIxL K) ta tb) := fun σ H Q h => by
  obtain ⟨x, H1, h1⟩ := a _ _ _ h
  obtain ⟨y, H2, h2⟩ := b _ _ _ h1
  obtain ⟨_, _, _, _, _, _, _, _, q⟩ := h2
  exact ⟨_, _, q⟩
theorem sh_ixT {K : PySem.W.Frag} {ta tb : TE} (a : ShowsE ta) (b : ShowsE tb) : ShowsE (tOp (rIxT K) ta tb) := fun σ H Q h => by
  obtain ⟨x, H1, h1⟩ := a _ _ _ h
  obtain ⟨y, H2, h2⟩ := b _ _ _ h1
  obtain ⟨_, _, _, _, _, _, _, _, q⟩ := h2
  exact ⟨_, _, q⟩
theorem PE.weak {X : Cx} {e : Expr} {t t' : TE} (h : PE X e t) (w : ∀ σ H Q, t' σ H Q → t σ H Q) : PE X e t' := ⟨fun pins s σ H Q I q => h.run pins s σ H Q I (w _ _ _ q)⟩
theorem pe_chainI {X : Cx} {op op' : CmpOp} {g g' : Int → Int → Bool} {a b c : Expr} {ta tb tc : TE} {pos : Pos} (ho : OpR X (compareOp op) (rI0 fun i j => .bl (g i j))) (ho' : OpR X (compareOp op') (rI0 fun i j => .bl (g' i j)))
    (ha : PE X a ta) (hb : PE X b tb) (hc : PE X c tc) (ma : MonoE ta) (mb : MonoE tb) (mc : MonoE tc) (sc : ShowsE tc) (hm : lastMarks [op, op'] [b, c] = false := by rfl) : PE X (.Compare a [op, op'] [b, c] pos) (tChI g g' ta tb tc) :=
  PE.weak (pe_chain ho ho' ha hb hc hm) (fun _ _ _ h => tChI_to ma mb mc sc h)
/-! ### rules within a comprehension: the written part by its own name -/
section
variable {X : Cx} {K : PySem.W.Frag}
theorem ix_listK (h : X.K = K) : IxR X (rIxL K) := h ▸ ix_list
theorem ix_tupK (h : X.K = K) : IxR X (rIxT K) := h ▸ ix_tup
theorem sl_listK (h : X.K = K) : SlR X (rSlL K) := h ▸ sl_list
theorem call_len_seqK (h : X.K = K) : CallR X (.builtin "len") (fun xs H Q => ∃ p ys, xs = [.ref p] ∧ (SqL K H p ys ∨ SqT K H p ys) ∧ Q (.int ys.length) H) := h ▸ call_len_seq
end
section
variable {X : Cx} {K : PySem.W.Frag}
theorem call_isiB (h : X.K = K) : CallR X (.builtin "isinstance") (rIsi K) := h ▸ call_isi
end
section
variable {X : Cx} {K : PySem.W.Frag}
theorem op_neDK (h : X.K = K) (hu : X.A.units + 64 < cLine) : OpR X (compareOp .NotEq) (rNeD K) := h ▸ op_neD hu
theorem op_eqDK (h : X.K = K) (hu : X.A.units + 64 < cLine) : OpR X (compareOp .Eq) (rEqD K) := h ▸ op_eqD hu
end
/-! ### + of two lists, the script among them; + of two truths -/
theorem list_add_any (l : Addr) (items : Array Value) (n : Nat) (sl : Array (Option Value)) (b : Addr) (items2 : Array Value) (n2 : Nat) (sl2 : Array (Option Value)) (hc0 : items.size + items2.size ≤ sizeLine) :
    Meets (Builtin.«list.__add__» ⟨[.ref l, .ref b], []⟩) (fun _ R s => s.heap.get? l = some { cls := .type "list", dict := none, data := .seq items n, slots := sl } ∧ s.heap.get? b = some { cls := .type "list", dict := none, data := .seq items2 n2, slots := sl2 } ∧ R (.ok (.ret (Value.ref s.heap.objs.size))) { s with heap := s.heap.push { cls := Value.type "list", data := Data.seq (items ++ items2) } }) :=
  .of_wp fun prog w A R s h => by
    obtain ⟨hp, g, d, tk, os⟩ := s
    obtain ⟨hl, hb, h⟩ := h
    have f3 := AutoSeq1.sub_list_list
    wp_walk using AutoSeq1.wpAny_loadPart' hl, AutoSeq1.wpAny_loadPart' hb
    exact ⟨_, rfl, h⟩
def rCatF (K : PySem.W.Frag) : R2 := fun x y H Q => ∃ l b xs zs, x = .ref l ∧ y = .ref b ∧ SqL K H l xs ∧ SqL K H b zs ∧ xs.length + zs.length ≤ sizeLine ∧ ∀ p, H p = none → Q (.ref p) (upd H p (.lst (xs ++ zs)))
theorem op_catF {X : Cx} : OpR X (binaryOp .Add) (rCatF X.K) := by
  intro pins s σ H x y v u Q I rx ry h
  obtain ⟨l, b, xs, zs, rfl, rfl, hH, hB, hz, q⟩ := h
  cases rx
  cases ry
  obtain ⟨its, r, ⟨o, n, e, hc, hd, hs⟩, _⟩ := I.list hH
  obtain ⟨its2, r2, ⟨o2, n2, e2, hc2, hd2, hs2⟩, _⟩ := I.list hB
  obtain ⟨oc, od, odt, osl⟩ := o
  obtain ⟨oc2, od2, odt2, osl2⟩ := o2
  simp only at hc hd hs hc2 hd2 hs2
  subst hc hd hs hc2 hd2 hs2
  have l1 := r.length
  have l2 := r2.length
  refine PySem.concat_meets ⟨_, e, rfl⟩ ⟨_, e2, rfl⟩ PySem.noFill_list_add PySem.seq_list_add PySem.F.slot_list_add PySem.F.entry_list_add (PySem.F.args_list_add_2 _ _) (list_add_any l its.toArray n osl b its2.toArray n2 osl2 (by rw [List.size_toArray, List.size_toArray]; omega)) ⟨e, e2, ?_⟩
  have ea : its.toArray ++ its2.toArray = (its ++ its2).toArray := by simp
  rw [ea]
  exact ⟨.ref _, _, I.lnew (t' := s.toks) (r.append r2) (by rw [List.length_append]; omega), rfl, q _ I.fresh⟩
theorem give_bb (a b : Bool) : Gives (Builtin.«int.__add__» ⟨[.bool a, .bool b], []⟩) (.int ((if a = true then (1 : Int) else 0) + (if b = true then (1 : Int) else 0))) := .of_wp fun M A E s Q h => by
  obtain ⟨hp, g, d, tk, os⟩ := s
  wp_walk
  exact ⟨_, rfl, h⟩
theorem op_add_bb {X : Cx} : OpR X (binaryOp .Add) (fun x y H Q => ∃ i k, x = .bl i ∧ y = .bl k ∧ Q (.int ((if i = true then (1 : Int) else 0) + (if k = true then (1 : Int) else 0))) H) := by
  intro pins s σ H x y v u Q I rx ry h
  obtain ⟨i, k, rfl, rfl, q⟩ := h
  cases rx
  cases ry
  exact binaryOp_gives (op := .Add) (T := "bool") rfl rfl PySem.F.fills_bool_add PySem.F.slot_bool_add PySem.F.entry_int_add (PySem.F.args_int_add_2 _ _) (give_bb i k) trivial ⟨.int _, H, I.tok _, ⟨_, rfl⟩, q⟩
/-! ### a, *b = a tuple -/
theorem Walks.later {prog : Program} {w : World} {A : Around} {I : Addr} {fp wr : List Addr} {n : Nat} {P : Nat → Value → Prop} {St : Nat → Heap → Prop} (W : Walks prog w A I fp wr (n + 1) P St) :
    Walks prog w A I fp wr n (fun i => P (i + 1)) (fun i => St (i + 1)) where
  sub := W.sub
  frame i := W.frame (i + 1)
  item i s Q E hi st hQ := W.item (i + 1) s Q E (by omega) st hQ
  done s Q E st hQ := W.done s Q E st hQ
  self i := W.self (i + 1)
theorem unpack_star {prog : Program} {w : World} {A : Around} {E : Value → Shared → Prop} {s : Shared} {t : Addr} {x : Value} {xs : List Value} {Q : List Value → Shared → Prop} (hh : A.handled = none) (ht : IsTup s.heap t (x :: xs).toArray) (hz : xs.length ≤ sizeLine)
    (hQ : ∀ (h' : Heap) (tk : Nat), (∀ b o, s.heap.get? b = some o → h'.get? b = some o) → Q [x, .ref h'.objs.size] { s with heap := h'.push { cls := .type "list", data := .seq xs.toArray }, toks := tk }) :
    wpAny (model prog w) A (unpackItems (.ref t) 2 (some 1)) Q E s := by
  have hlt : t ≠ s.heap.objs.size := by
    obtain ⟨o, ho, _⟩ := ht
    exact Nat.ne_of_lt (Heap.lt_size ho)
  unfold unpackItems
  refine wpAny_bind ?_
  unfold notIterableAtAll
  refine wpAny_bind (wpAny_specialOf ht.typeIs slot_tuple_iter.lookup (wpAny_pure ?_))
  simp only [Bool.false_eq_true, if_false]
  refine wpAny_bind (wpAny_holding (iter_tuple ht (wpAny_bind (wpAny_holding (draw_tuple hlt 1 0 _ _ ⟨_, Heap.get?_push_size _ rfl, rfl, rfl⟩ (ht.push _) (by simp) fun h1 it1 same1 => ?_)))))
  have ht1 : IsTup h1 t (x :: xs).toArray := (ht.push _).extBut same1.extBut hlt
  have e1 : List.take 1 (List.drop 0 (x :: xs).toArray.toList) = [x] := rfl
  rw [e1, if_neg (by simp)]
  refine wpAny_bind (wpAny_holding ?_)
  have W := (Walks.later (Walks.tuple (prog := prog) (w := w) (A := A.in1) hh s.heap.objs.size t hlt (x :: xs).toArray)).toS
  have hbig : s.heap.objs.size < h1.objs.size := by
    obtain ⟨o, ho, _⟩ := it1
    exact Heap.lt_size ho
  refine wpAny_collect_iter (T := "tuple_iterator") (.inr (.inr (.inr rfl))) W (fun i s' st => st.1.typeIs) ⟨it1, ht1⟩ (fun b hb => ?_) (by simp) (fun s' acc mv items => ?_) hz
  · simp only [List.mem_cons, List.not_mem_nil, or_false] at hb
    obtain ⟨o, ho, _⟩ := id ht1
    rcases hb with rfl | rfl
    · exact hbig
    · exact Heap.lt_size ho
  · have el : acc.toList = xs := by
      refine List.ext_getElem (by simpa using items.1) fun j h2 h3 => ?_
      have := items.2 j acc.toList[j] (by simp)
      simpa [List.getElem?_eq_getElem h3] using this.symm
    rw [el, if_neg (by omega)]
    refine wpAny_bind (wpAny_newList ?_ )
    have em : List.take (xs.length - (2 - 1 - 1)) xs = xs := List.take_of_length_le (by omega)
    have ed : List.drop (xs.length - (2 - 1 - 1)) xs = [] := List.drop_of_length_le (by omega)
    rw [em, ed, Moved.eq_with mv]
    refine wpAny_pure (hQ s'.heap s'.toks fun b o e => ?_)
    have nb : b ≠ s.heap.objs.size := Nat.ne_of_lt (Heap.lt_size e)
    exact mv.heap b o (by simpa using nb) (same1.extBut b o nb (Heap.get?_push_of_some _ e))
def gStar (K : PySem.W.Frag) (g0 g1 : TG) : TG := fun v σ H Q => ∃ a x xs, v = .ref a ∧ SqT K H a (x :: xs) ∧ ∀ l, H l = none → g0 x σ (upd H l (.lst xs)) fun σ1 H1 => g1 (.ref l) σ1 H1 Q
theorem pg_star {X : Cx} {e0 e1 : Expr} {p pos : Pos} {k : Nat} {g0 g1 : TG} (hc : X.calm = true) (h0 : PG X e0 g0) (h1 : PG X e1 g1) (he : assignEach [e0, .Starred e1 p] X.env = [(false, assign e0 X.env), (true, assign e1 X.env)] := by rfl) :
    PG X (.Tuple [e0, .Starred e1 p] k pos) (gStar X.K g0 g1) := by
  constructor
  rintro pins s σ H v u Q I r ⟨a, x, xs, rfl, hq, hw⟩
  cases r
  obtain ⟨its, rv, ht, hz⟩ := I.tuple hq
  cases rv with
  | @cons _ y _ ys ry rys =>
    rw [assign_Tuple]
    refine wpAny_bind (wpAny_standAt ?_)
    unfold unpack
    rw [he]
    refine wpAny_bind (wpAny_holding (unpack_star (I.ok.hd hc) ht (by rw [← rys.length]; simp only [List.length] at hz; omega) fun h' tk kp => ?_))
    have I1 : Inv X pins σ H { s with heap := h', toks := tk } := I.kept kp
    have I2 := I1.lnew (t' := tk) rys (by simp only [List.length] at hz; omega)
    refine assignInOrder_cons (thn (h0.run pins _ σ _ _ _ _ I2 ry (hw _ I1.fresh)) fun _ s1 z => ?_)
    obtain ⟨σ1, H1, I3, q1⟩ := z
    refine assignInOrder_cons (thn (h1.run pins s1 σ1 H1 (.ref h'.objs.size) _ Q I3 rfl q1) fun _ s2 z => ?_)
    exact assignInOrder_nil z
/-! ### a class made of the things of a list -/
def tMakeS (K : PySem.W.Frag) (C : Addr) (sp : Sp) (E : XK) (te : TE) : TE := fun u G Q => te u G fun y G1 => ∃ a xs, y = .ref a ∧ (SqT K G1 a xs ∨ SqL K G1 a xs) ∧
  ∀ o d, G1 o = none → G1 d = none → d ≠ o → sp (.ref o :: xs) (upd (upd G1 d (.own o)) o (.ins C d [])) (fun v G2 => v = .non ∧ Q (.ref o) G2) E
theorem pe_makeS {X : Cx} {CT : CXT} {k : Nat} {f C : Addr} {fd : FuncData} {ps : List Str} {sp : Sp} {E : XK} {x : Str} {p q pos : Pos} {e : Expr} {te : TE} (M : Mk X.K C f) (F : FnOk X.prog X.w X.K X.mg X.base CT k f fd ps sp) (hr : Room (k + 1) X.A) (hg : Gl X x) (hm : X.mg x = some (.ref C)) (hb : Binds X.K fd ps []) (hx : Passes CT X E) (he : PE X e te)
    (nd : (x == ("__debug__" : Str)) = false := by decide) (hs : starEach [.Starred e q] X.env = [(true, eval e X.env)] := by rfl) : PE X (.Call (.Name x p) [.Starred e q] [] pos) (tMakeS X.K C sp E te) := by
  constructor
  intro pins s u G Q I h
  refine wpAny_Call_Name_kw (ld_glob I hg hm (PySem.W.callWith_S (h₀ := X.base) I.ok.mod.kin M.kp (thn (he.run pins s u G _ I h) ?_) hs) nd)
  rintro v s1 ⟨y, G1, I1, ry, a, xs, rfl, hxs, q⟩
  cases ry
  refine StX.star_any I1 hxs fun us s2 I2 rv => ⟨I2.kIn, ?_⟩
  refine run_make (dvs := []) M F hr hb .nil hx I2 rv fun o d h1 h2 h3 => ?_
  rw [List.append_nil]
  exact q o d h1 h2 h3
/-! ### a method of an object whose class is one of several -/
theorem pe_either {X : Cx} {e : Expr} {t u : TE} (h : PE X e t) (k : PE X e u) : PE X e (fun σ H Q => t σ H Q ∨ u σ H Q) := ⟨fun pins s σ H Q I q => q.elim (h.run pins s σ H Q I) (k.run pins s σ H Q I)⟩
/-! ### several clauses of one try, each with a name for the error or without -/
abbrev Suite := Addr → Value → Option Addr → TS
/-- what follows a suite whose error had the slot i -/
def offAt (i : Nat) (D : Ends) : Ends := { nx := fun u G => D.nx (u.set i none) G, rt := D.rt, bk := fun u G => D.bk (u.set i none) G, ct := fun u G => D.ct (u.set i none) G }
def wMix (K : PySem.W.Frag) (Wo : WX) (D : Ends) : List (Value × Option Nat × Suite) → WX
  | [] => Wo
  | (c, none, t) :: r => fun k d u G => ∃ y, PySem.W.exmOne K k c = some y ∧ (y = true → ∀ e, G e = none → t e k d D u G) ∧ (y = false → wMix K Wo D r k d u G)
  | (c, some i, t) :: r => fun k d u G => ∃ y, PySem.W.exmOne K k c = some y ∧ (y = true → ∀ e, G e = none → t e k d (offAt i D) (u.set i (some (.ref e))) G) ∧ (y = false → wMix K Wo D r k d u G)
inductive Clauses (X : Cx) : List ExceptHandler → List (Value × Option Nat × Suite) → Prop
  | nil : Clauses X [] []
  | bare {x : Str} {c : Value} {t : Suite} {b : Stmt} {bs : List Stmt} {p1 p2 : Pos} {hds l} (hc : Names X x c)
      (su : ∀ e oe k d pn, Zc k d oe → (∃ vs, oe.data = .fields vs) → PSs (X.suite e ((e, oe) :: pn)) (b :: bs) (t e k d)) (r : Clauses X hds l) :
      Clauses X (.ExceptHandler (some (.Name x p1)) none (b :: bs) p2 :: hds) ((c, none, t) :: l)
  | named {x n : Str} {c : Value} {i : Nat} {t : Suite} {b : Stmt} {bs : List Stmt} {p1 p2 : Pos} {hds l} (hN : X.N.Nodup) (hi : X.N[i]? = some n) (hl : X.env.kindOf n = some .local) (hc : Names X x c)
      (su : ∀ e oe k d pn, Zc k d oe → (∃ vs, oe.data = .fields vs) → PSs (X.suite e ((e, oe) :: pn)) (b :: bs) (t e k d)) (r : Clauses X hds l) :
      Clauses X (.ExceptHandler (some (.Name x p1)) (some n) (b :: bs) p2 :: hds) ((c, some i, t) :: l)
theorem ps_try_mix {X : Cx} {body : List Stmt} {h1 : ExceptHandler} {hds : List ExceptHandler} {l : List (Value × Option Nat × Suite)} {pos : Pos} {tb : WX → TS} {Wo : WX} (hs : X.stack = X.env :: X.outer) (hf : X.env.frame = some X.env.locals) (tk : Takes X Wo)
    (hb : ∀ W pn xe, Takes (X.tr pn xe) W → PassesOwn (model X.prog X.w) X.A X.env xe → PSs (X.tr pn xe) body (tb W)) (hh : Clauses X (h1 :: hds) l) :
    PS X (.Try body (h1 :: hds) [] [] pos) (fun D u G => tb (wMix X.K Wo D l) D u G) := by
  constructor
  intro pins s u G D I h
  have ok := I.ok
  have frm : X.A.frames = some (X.env :: X.outer) := by rw [ok.frames, hs]
  refine wpAny_Try_except (wpAny_mono ((hb (wMix X.K Wo D l) (X.pn ++ pins) (fun e s₁ => wpAny (model X.prog X.w) X.A (noteFrame e X.env) (fun _ s₂ => wpAny (model X.prog X.w) X.A (setFlight e none) (fun _ s₃ => wpAny (model X.prog X.w) X.A (handleBy e X.env (h1 :: hds)) (SP X pins D) X.xe s₃) X.xe s₂) X.xe s₁) (fun v s' xx => ?_) PassesOwn.looking).run [] s u G D (I.toTry _) h) (fun f s1 z => ?_) (fun _ _ z => z))
  · obtain ⟨e, B, sI, _, u', G', k, d, rfl, J0, nb, up, sky, na, os, ag, wish⟩ := xx
    have J : Inv X pins u' G' sI := J0.ofTry ok
    refine Sky.land Zc.steady frm hf (by rw [← hs]; exact sky) fun h3 fl up3 => ?_
    have up13 := up.trans up3
    obtain ⟨o3, _, g3, z3, d3⟩ := fl.there
    have far : e ∉ frs (X.env :: X.outer) := by
      intro m
      obtain ⟨_, o', g', no⟩ := fl.2.2.1.mem m
      cases g3.symm.trans g'
      exact no _ d3
    have nl : e ≠ X.env.locals := by
      intro z
      exact far (List.mem_filterMap.mpr ⟨X.env, List.mem_cons_self, by rw [hf, z]⟩)
    have nf : e ∉ X.fs := by
      intro m
      obtain ⟨v, hv, q⟩ := List.mem_filterMap.mp m
      exact far (List.mem_filterMap.mpr ⟨v, List.mem_cons_of_mem _ hv, q⟩)
    have J3 : Inv X pins u' G' { s' with heap := h3 } := J.landed nb fl.1 up13 os ag
    have S3 := J3.suite g3 d3 na nl nf
    have TY : PySem.W.Looks (model X.prog X.w) h3 (typeOf (.ref e)) k := fun _ _ _ _ kk q => wpAny_typeOf_ref (kk _ _ g3) (z3.1 ▸ q)
    have name : ∀ {x : Str} {c : Value} {p1 : Pos}, Names X x c → ∀ {Q : Value → Shared → Prop} {E : Value → Shared → Prop}, Q c { s' with heap := h3 } → wpAny (model X.prog X.w) (X.A.mark (some (.ref e))) (eval (.Name x p1) X.env) Q E { s' with heap := h3 } := by
      rintro x c p1 ⟨g, nd, m | ⟨m, bv, nn⟩⟩ Q E q
      · exact ld_glob (X := X.suite e ((e, o3) :: (X.pn ++ pins))) S3 g m q nd
      · exact ld_blt (X := X.suite e ((e, o3) :: (X.pn ++ pins))) S3 g m bv q nn nd
    suffices go : ∀ {hd : List ExceptHandler} {l' : List (Value × Option Nat × Suite)}, Clauses X hd l' → wMix X.K Wo D l' k d u' G' → wpAny (model X.prog X.w) X.A (handleBy (.ref e) X.env hd) (SP X pins D) X.xe { s' with heap := h3 } from go hh wish
    intro hd l' cl
    induction cl with
    | nil =>
      intro wi
      refine wpAny_handleBy_nil ?_
      obtain ⟨_, _, _, oe, vs, T, oT, tt, he, hz, hdd, hT, hr⟩ := id fl
      unfold PySem.passOn
      refine wpAny_bind (wpAny_field he hdd hT ?_)
      rw [if_neg (by simp : ¬ ((Value.ref T == Value.none) = true))]
      have last : wpAny (model X.prog X.w) X.A (setFlight (.ref e) X.env.frame) (fun _ s4 => wpAny (model X.prog X.w) X.A (throw (.ref e) : Sem Flow) (SP X pins D) X.xe s4) X.xe { s' with heap := h3 } := by
        rw [hf]
        refine HandSPX.setFlight_upZ fl fun h4 hh4 up4 => wpAny_throw (tk _ _ ⟨e, B, sI, pins, u', G', k, d, rfl, J, nb, up13.trans up4, .inr (.inr ?_), na, os, ag, wi⟩)
        rw [hs]; exact hh4
      first | exact wpAny_bind (wpAny_pure (wpAny_bind last)) | exact wpAny_bind last
    | bare hc su r ih =>
      rintro ⟨y, ey, yes, no⟩
      refine wpAny_handleBy_cons (codeAny_handlers_test (name hc ((PySem.W.exm_one (M := model X.prog X.w) J3.kIn TY ey).here ?_))) (fun q => by cases q)
      cases y with
      | false => exact ih (no rfl)
      | true =>
        refine codeAny_handlers_suite (HandSPX.lands_againZ fl fun h4 fl4 up4 => ?_)
        obtain ⟨o4, _, g4, z4, d4⟩ := fl4.there
        have S4 := (J.landed (s' := { s' with heap := h4 }) nb fl4.1 (up13.trans up4) os ag).suite g4 d4 na nl nf
        refine wpAny_mono ((su e o4 k d (X.pn ++ pins) z4 ⟨_, d4⟩).run [] _ _ G' _ S4 (yes rfl e na)) (fun f s6 z => ?_) (fun _ _ z => z.elim)
        cases f with
        | ret v => obtain ⟨v6, u6, G6, S6, r6, q6⟩ := z; exact ⟨v6, u6, G6, S6.unsuite ok, r6, q6⟩
        | _ => obtain ⟨u6, G6, S6, q6⟩ := z; exact ⟨u6, G6, S6.unsuite ok, q6⟩
    | @named _ n c i _ _ _ _ p2 _ _ hN hi hl hc su r ih =>
      rintro ⟨y, ey, yes, no⟩
      refine wpAny_handleBy_cons (codeAny_handlers_test (name hc ((PySem.W.exm_one (M := model X.prog X.w) J3.kIn TY ey).here ?_))) (fun q => by cases q)
      cases y with
      | false => exact ih (no rfl)
      | true =>
        refine codeAny_handlers_suite_as (HandSPX.lands_againZ fl fun h4 fl4 up4 => ?_)
        obtain ⟨o4, _, g4, z4, d4⟩ := fl4.there
        have S4 := (J.landed (s' := { s' with heap := h4 }) nb fl4.1 (up13.trans up4) os ag).suite g4 d4 na nl nf
        refine store_ok (X := X.suite e ((e, o4) :: (X.pn ++ pins))) (v := .ref e) S4 hN hi (.inl hl) rfl (fun s5 S5 => wpAny_mono ((su e o4 k d (X.pn ++ pins) z4 ⟨_, d4⟩).run [] s5 _ G' _ S5 (yes rfl e na)) (fun f s6 z => ?_) (fun _ _ z => z.elim)) (.inr hl)
        have off : ∀ {u6 : L2.St} {G6 : Hp} {Q : Shared → Prop}, Inv (X.suite e ((e, o4) :: (X.pn ++ pins))) [] u6 G6 s6 → (∀ s7, Inv X pins (u6.set i none) G6 s7 → Q s7) → wpAny (model X.prog X.w) X.A (do bindName X.env n .none; unbindBehindTheSuite X.env n p2) (fun _ s7 => Q s7) X.xe s6 := fun S6 hq => gone_ok (S6.unsuite ok) hN hi hl hq
        cases f with
        | ret v => obtain ⟨v6, u6, G6, S6, r6, q6⟩ := z; exact off S6 fun s7 J7 => ⟨v6, _, G6, J7, r6, q6⟩
        | _ => obtain ⟨u6, G6, S6, q6⟩ := z; exact off S6 fun s7 J7 => ⟨_, G6, J7, q6⟩
  · cases f with
    | next => obtain ⟨u6, G6, J6, q6⟩ := z; exact wpAny_execs_nil ⟨u6, G6, J6.ofTry ok, q6⟩
    | ret v => obtain ⟨v6, u6, G6, J6, r6, q6⟩ := z; exact ⟨v6, u6, G6, J6.ofTry ok, r6, q6⟩
    | _ => obtain ⟨u6, G6, J6, q6⟩ := z; exact ⟨u6, G6, J6.ofTry ok, q6⟩
/-! ### isinstance of a caught error, of one class of several -/
def rIsEs (K : PySem.W.Frag) (k : Value) (d : Option Addr) (e : Addr) : List V → Hp → VK → Prop := fun xs H Q =>
  ∃ (D tp : Addr) (cs : List V) (us : List Value) (b : Bool), k = .ref D ∧ d = none ∧ ExcC K D ∧ xs = [.ref e, .ref tp] ∧ H tp = some (.tup cs) ∧ Paired ClsV cs us ∧ PySem.W.kitAny K (.ref D) us = some b ∧ Q (.bl b) H
theorem call_isEs {X : Cx} {K : PySem.W.Frag} {e : Addr} {oe : Obj} {k : Value} {d : Option Addr} {pn : List (Addr × Obj)} (hK : X.K = K) (hz : Zc k d oe) (hf : ∃ vs, oe.data = .fields vs) : CallR (X.suite e ((e, oe) :: pn)) (.builtin "isinstance") (rIsEs K k d e) := by
  subst hK
  intro pins s σ H xs us Q I r h
  obtain ⟨D, tp, cs, ws, b, rfl, rfl, C, rfl, hT, pr, ka, q⟩ := h
  obtain ⟨u1, u2, rfl, r1, r2⟩ := vals2 r
  cases r1
  cases (show u2 = Value.ref tp from r2)
  obtain ⟨_, its, rv, o, o1, o2, n, o3⟩ := (show ObjOk _ _ H s.heap tp (.tup cs) from I.hok tp _ hT)
  have eq := ClsV.all pr rv
  subst eq
  obtain ⟨oc, od, dt, sl⟩ := o
  simp only at o2 o3
  subst o2 o3
  obtain ⟨vs, hv⟩ := hf
  have there := (I.pin (e, oe) (List.mem_append.mpr (.inl List.mem_cons_self))).1
  have J : PySem.W.InstAt s.heap e oe D none := by
    obtain ⟨_, _, _, _⟩ := oe
    obtain ⟨z1, z2⟩ := hz
    dsimp only at z1 z2 hv
    subst z1 z2 hv
    exact ⟨there, rfl, rfl, trivial⟩
  exact PySem.W.kia_tup (PySem.W.handS_kitx_exc C.hg C.hk C.hs C.hd C.ha C.hn C.ht C.hm) I.kIn J o1 ka (fun z => nomatch z) fun tk => ⟨.bl b, H, I.kept (t' := tk) fun _ _ z => z, rfl, q⟩
/-! ### isinstance of a caught error, whatever its class -/
theorem call_isE2 {X : Cx} {K : PySem.W.Frag} {a : Addr} {oe : Obj} {cls : Value} {d : Option Addr} {pn : List (Addr × Obj)} (hK : X.K = K) (hz : Zc cls d oe) (hf : ∃ vs, oe.data = .fields vs) :
    CallR (X.suite a ((a, oe) :: pn)) (.builtin "isinstance") (fun xs H Q => ∃ D, cls = .ref D ∧ d = none ∧ ExcC K D ∧ rIsE K D a xs H Q) := by
  subst hK
  intro pins s σ H xs us Q I r h
  obtain ⟨D, rfl, rfl, C, h⟩ := h
  exact call_isE C hz hf pins s σ H xs us Q I r h
/-! ## the data layer: what stands in frozen parts of the heap as plain data, what is still written to as cells -/
inductive D where
  | non
  | bl (b : Bool)
  | int (i : Int)
  | str (x : Str)
  | tup (xs : List D)
  | lst (xs : List D)
  | scr (xs : List D)
  | obj (C : Addr) (ns : List Str) (ds : List D)
  | dic
  | ty (n : String)
  | cls (C : Addr)
mutual
/-- in the frozen heap G the value v is the data d -/
inductive Rep (K : PySem.W.Frag) (G : Hp) : D → V → Prop
  | non : Rep K G .non .non
  | bl (b : Bool) : Rep K G (.bl b) (.bl b)
  | int (i : Int) : Rep K G (.int i) (.int i)
  | str (x : Str) : Rep K G (.str x) (.str x)
  | tup {a : Addr} {vs : List V} {ds : List D} : SqT K G a vs → Reps K G ds vs → Rep K G (.tup ds) (.ref a)
  | lst {a : Addr} {vs : List V} {ds : List D} : G a = some (.lst vs) → Reps K G ds vs → Rep K G (.lst ds) (.ref a)
  | scr {a : Addr} {vs : List V} {ds : List D} : SqL K G a vs → Reps K G ds vs → Rep K G (.scr ds) (.ref a)
  | obj {a C dx : Addr} {ns : List Str} {vs : List V} {ds : List D} : G a = some (.ins C dx (ns.zip vs)) → ns.length = ds.length → Reps K G ds vs → Rep K G (.obj C ns ds) (.ref a)
  | dic {a : Addr} {kvs : List (Key × V)} : G a = some (.dK kvs) → Rep K G .dic (.ref a)
  | ty (n : String) : Rep K G (.ty n) (.ty n)
  | cls (C : Addr) : Rep K G (.cls C) (.ref C)
inductive Reps (K : PySem.W.Frag) (G : Hp) : List D → List V → Prop
  | nil : Reps K G [] []
  | cons {d : D} {ds : List D} {v : V} {vs : List V} : Rep K G d v → Reps K G ds vs → Reps K G (d :: ds) (v :: vs)
end
section
variable {K : PySem.W.Frag} {G G' H : Hp} {v : V} {vs : List V} {d : D} {ds : List D}
theorem Rep.nonE (h : Rep K G .non v) : v = .non := by cases h; rfl
theorem Rep.blE {b : Bool} (h : Rep K G (.bl b) v) : v = .bl b := by cases h; rfl
theorem Rep.intE {i : Int} (h : Rep K G (.int i) v) : v = .int i := by cases h; rfl
theorem Rep.strE {x : Str} (h : Rep K G (.str x) v) : v = .str x := by cases h; rfl
theorem Rep.tupE (h : Rep K G (.tup ds) v) : ∃ a vs, v = .ref a ∧ SqT K G a vs ∧ Reps K G ds vs := by cases h with | tup a b => exact ⟨_, _, rfl, a, b⟩
theorem Rep.lstE (h : Rep K G (.lst ds) v) : ∃ a vs, v = .ref a ∧ G a = some (.lst vs) ∧ Reps K G ds vs := by cases h with | lst a b => exact ⟨_, _, rfl, a, b⟩
theorem Rep.scrE (h : Rep K G (.scr ds) v) : ∃ a vs, v = .ref a ∧ SqL K G a vs ∧ Reps K G ds vs := by cases h with | scr a b => exact ⟨_, _, rfl, a, b⟩
theorem Rep.objE {C : Addr} {ns : List Str} (h : Rep K G (.obj C ns ds) v) : ∃ a dx vs, v = .ref a ∧ G a = some (.ins C dx (ns.zip vs)) ∧ ns.length = ds.length ∧ Reps K G ds vs := by cases h with | obj a b c => exact ⟨_, _, _, rfl, a, b, c⟩
theorem Rep.dicE (h : Rep K G .dic v) : ∃ a kvs, v = .ref a ∧ G a = some (.dK kvs) := by cases h with | dic a => exact ⟨_, _, rfl, a⟩
theorem Reps.nilE (h : Reps K G [] vs) : vs = [] := by cases h; rfl
theorem Reps.consE (h : Reps K G (d :: ds) vs) : ∃ v ws, vs = v :: ws ∧ Rep K G d v ∧ Reps K G ds ws := by cases h with | cons a b => exact ⟨_, _, rfl, a, b⟩
theorem Same.seqT {a : Addr} {xs : List V} (e : Same G G') (h : SqT K G a xs) : SqT K G' a xs := by
  rcases h with (h | ⟨o, h⟩) | h
  · exact .inl (.inl (e _ _ h))
  · exact .inl (.inr ⟨o, e _ _ h⟩)
  · exact .inr h
mutual
theorem Rep.mono (s : Same G G') : ∀ (d : D) (v : V), Rep K G d v → Rep K G' d v
  | .non, _, h => by cases h; exact .non
  | .bl _, _, h => by cases h; exact .bl _
  | .int _, _, h => by cases h; exact .int _
  | .str _, _, h => by cases h; exact .str _
  | .tup ds, _, h => by cases h with | tup a b => exact .tup (Same.seqT s a) (Reps.mono s ds _ b)
  | .lst ds, _, h => by cases h with | lst a b => exact .lst (s _ _ a) (Reps.mono s ds _ b)
  | .scr ds, _, h => by cases h with | scr a b => exact .scr (Same.seq s a) (Reps.mono s ds _ b)
  | .obj C ns ds, _, h => by cases h with | obj a b c => exact .obj (s _ _ a) b (Reps.mono s ds _ c)
  | .dic, _, h => by cases h with | dic a => exact .dic (s _ _ a)
  | .ty _, _, h => by cases h; exact .ty _
  | .cls _, _, h => by cases h; exact .cls _
theorem Reps.mono (s : Same G G') : ∀ (ds : List D) (vs : List V), Reps K G ds vs → Reps K G' ds vs
  | [], _, h => by cases h; exact .nil
  | d :: ds, _, h => by cases h with | cons a b => exact .cons (Rep.mono s d _ a) (Reps.mono s ds _ b)
end
theorem Reps.length : ∀ {ds : List D} {vs : List V}, Reps K G ds vs → vs.length = ds.length
  | [], _, h => by cases h; rfl
  | _ :: _, _, h => by cases h with | cons _ b => exact congrArg (· + 1) (Reps.length b)
theorem Reps.get : ∀ {ds : List D} {vs : List V} {i : Nat} {d : D}, Reps K G ds vs → ds[i]? = some d → ∃ v, vs[i]? = some v ∧ Rep K G d v
  | [], _, _, _, _, e => by simp at e
  | _ :: _, _, 0, _, h, e => by cases h with | cons a _ => simp at e; subst e; exact ⟨_, rfl, a⟩
  | _ :: _, _, i + 1, _, h, e => by
    cases h with
    | cons _ b =>
      obtain ⟨v, q, r⟩ := Reps.get (i := i) b (by simpa using e)
      exact ⟨v, by simpa using q, r⟩
theorem Reps.append : ∀ {ds es : List D} {vs ws : List V}, Reps K G ds vs → Reps K G es ws → Reps K G (ds ++ es) (vs ++ ws)
  | [], _, _, _, h, k => by cases h; exact k
  | _ :: _, _, _, _, h, k => by cases h with | cons a b => exact .cons a (b.append k)
theorem Reps.drop : ∀ {ds : List D} {vs : List V} (n : Nat), Reps K G ds vs → Reps K G (ds.drop n) (vs.drop n)
  | _, _, 0, h => h
  | [], _, _ + 1, h => by cases h; exact .nil
  | _ :: _, _, n + 1, h => by cases h with | cons _ b => exact Reps.drop n b
theorem Reps.take : ∀ {ds : List D} {vs : List V} (n : Nat), Reps K G ds vs → Reps K G (ds.take n) (vs.take n)
  | _, _, 0, _ => .nil
  | [], _, _ + 1, h => by cases h; exact .nil
  | _ :: _, _, n + 1, h => by cases h with | cons a b => exact .cons a (Reps.take n b)
theorem Reps.set {d : D} {v : V} (r : Rep K G d v) : ∀ {ds : List D} {vs : List V} (i : Nat), Reps K G ds vs → Reps K G (ds.set i d) (vs.set i v)
  | [], _, _, h => by cases h; exact .nil
  | _ :: _, _, 0, h => by cases h with | cons _ b => exact .cons r b
  | _ :: _, _, i + 1, h => by cases h with | cons a b => exact .cons a (Reps.set r i b)
theorem Reps.reverse {ds : List D} {vs : List V} (h : Reps K G ds vs) : Reps K G ds.reverse vs.reverse := by
  induction ds generalizing vs with
  | nil => cases h; exact .nil
  | cons d ds ih => cases h with | cons a b => rw [List.reverse_cons, List.reverse_cons]; exact (ih b).append (.cons a .nil)
theorem Reps.rep {ds : List D} {vs : List V} (h : Reps K G ds vs) : ∀ n : Nat, Reps K G (List.replicate n ds).flatten (List.replicate n vs).flatten
  | 0 => .nil
  | n + 1 => by rw [List.replicate_succ, List.replicate_succ, List.flatten_cons, List.flatten_cons]; exact h.append (Reps.rep h n)
theorem Reps.ofV {ns : List Int} : Reps K G (ns.map D.int) (ns.map V.int) := by
  induction ns with
  | nil => exact .nil
  | cons n ns ih => exact .cons (.int n) ih
end
/-! no list and no object within: it can't hold a list that is still written to -/
mutual
def hard : D → Bool
  | .tup ds => hards ds
  | .lst _ => false
  | .scr _ => false
  | .obj _ _ ds => hards ds
  | _ => true
def hards : List D → Bool
  | [] => true
  | d :: ds => hard d && hards ds
end
section
variable {K : PySem.W.Frag} {G G' : Hp}
theorem SqT.hard {a : Addr} {vs : List V} (s : ∀ a o, G a = some o → (G' a = some o) ∨ (∃ xs, o = .lst xs)) (h : SqT K G a vs) : SqT K G' a vs := by
  rcases h with (h | ⟨o, h⟩) | h
  · rcases s _ _ h with z | ⟨xs, z⟩
    · exact .inl (.inl z)
    · cases z
  · rcases s _ _ h with z | ⟨xs, z⟩
    · exact .inl (.inr ⟨o, z⟩)
    · cases z
  · exact .inr h
mutual
theorem Rep.hard (s : ∀ a o, G a = some o → (G' a = some o) ∨ (∃ xs, o = .lst xs)) : ∀ (d : D) (v : V), LK.hard d = true → Rep K G d v → Rep K G' d v
  | .non, _, _, h => by cases h; exact .non
  | .bl _, _, _, h => by cases h; exact .bl _
  | .int _, _, _, h => by cases h; exact .int _
  | .str _, _, _, h => by cases h; exact .str _
  | .tup ds, _, k, h => by cases h with | tup a b => exact .tup (SqT.hard s a) (Reps.hard s ds _ (by rw [LK.hard] at k; exact k) b)
  | .lst ds, _, k, h => by rw [LK.hard] at k; cases k
  | .scr ds, _, k, h => by rw [LK.hard] at k; cases k
  | .obj C ns ds, _, k, h => by
    cases h with
    | obj a b c =>
      rcases s _ _ a with z | ⟨xs, z⟩
      · exact .obj z b (Reps.hard s ds _ (by rw [LK.hard] at k; exact k) c)
      · cases z
  | .dic, _, k, h => by
    cases h with
    | dic a =>
      rcases s _ _ a with z | ⟨xs, z⟩
      · exact .dic z
      · cases z
  | .ty _, _, _, h => by cases h; exact .ty _
  | .cls _, _, _, h => by cases h; exact .cls _
theorem Reps.hard (s : ∀ a o, G a = some o → (G' a = some o) ∨ (∃ xs, o = .lst xs)) : ∀ (ds : List D) (vs : List V), hards ds = true → Reps K G ds vs → Reps K G' ds vs
  | [], _, _, h => by cases h; exact .nil
  | d :: ds, _, k, h => by
    cases h with
    | cons a b =>
      rw [hards, Bool.and_eq_true] at k
      exact .cons (Rep.hard s d _ k.1 a) (Reps.hard s ds _ k.2 b)
end
end
/-- what a slot holds: data, or a cell -/
inductive AV where
  | dat (d : D)
  | cel (j : Nat)
/-- what is still written to -/
inductive Cell where
  | gone
  | lst (ds : List D)
  | drw
  | ins (C : Addr) (ns : List Str) (ds : List D)
def IsSt (xs : List V) : Prop := (∃ x, xs = [.int x]) ∨ ∃ x y z, xs = [.int x, .int y, .int z]
structure En where
  sl : List (Option AV)
  ce : List Cell
/-- what stands ahead of the def's call, the data it was handed, what is wanted of its errors -/
structure Fx where
  Fr : Hp
  G0 : Hp
  E : XK
  ex : Addr → Prop
  hE : ∀ C H, ex C → Same Fr H → E (.ref C) none H
  fr : V → Prop
  as0 : List Addr
def RepA (K : PySem.W.Frag) (G : Hp) (as : List Addr) : AV → V → Prop
  | .dat d, v => Rep K G d v
  | .cel j, v => ∃ a, as[j]? = some a ∧ v = .ref a
def CellOk (K : PySem.W.Frag) (G H : Hp) (a : Addr) : Cell → Prop
  | .gone => True
  | .lst ds => G a = none ∧ ∃ vs, H a = some (.lst vs) ∧ Reps K G ds vs
  | .drw => G a = none ∧ ∃ xs, H a = some (.lst xs) ∧ IsSt xs
  | .ins C ns ds => G a = none ∧ ∃ dx vs, H a = some (.ins C dx (ns.zip vs)) ∧ ns.length = ds.length ∧ Reps K G ds vs
structure EnvOk (K : PySem.W.Frag) (F : Fx) (ρ : En) (as : List Addr) (σ : L2.St) (H G : Hp) : Prop where
  gh : Same G H
  fh : Same F.Fr H
  fg : ∀ a o, G a = some o → F.G0 a = some o ∨ F.Fr a = none
  g0 : Same F.G0 G
  nd : as.Nodup
  pr : F.as0 <+: as
  ln : as.length = ρ.ce.length
  ce : ∀ (j : Nat) (c : Cell) (a : Addr), ρ.ce[j]? = some c → as[j]? = some a → F.Fr a = none ∧ (∃ o, H a = some o) ∧ CellOk K G H a c
  sn : σ.length = ρ.sl.length
  sl : ∀ (i : Nat) (av : AV), ρ.sl[i]? = some (some av) → ∃ v, σ[i]? = some (some v) ∧ RepA K G as av v
/-- more is frozen, more cells -/
structure Gr (G : Hp) (as : List Addr) (G' : Hp) (as' : List Addr) : Prop where
  g : Same G G'
  a : ∃ r, as' = as ++ r
theorem Gr.refl {G : Hp} {as : List Addr} : Gr G as G as := ⟨Same.refl _, [], by simp⟩
theorem Gr.trans {G G1 G2 : Hp} {as as1 as2 : List Addr} (x : Gr G as G1 as1) (y : Gr G1 as1 G2 as2) : Gr G as G2 as2 := by
  obtain ⟨g, r, rfl⟩ := x
  obtain ⟨g2, r2, rfl⟩ := y
  exact ⟨Same.trans g g2, r ++ r2, by simp⟩
theorem RepA.mono {K : PySem.W.Frag} {G G' : Hp} {as as' : List Addr} (g : Gr G as G' as') : ∀ {av : AV} {v : V}, RepA K G as av v → RepA K G' as' av v
  | .dat d, v, h => Rep.mono g.g d v h
  | .cel j, v, ⟨a, e, q⟩ => by
    obtain ⟨_, r, rfl⟩ := g
    exact ⟨a, by rw [List.getElem?_append_left (List.getElem?_eq_some_iff.mp e).1]; exact e, q⟩
inductive RepAs (K : PySem.W.Frag) (G : Hp) (as : List Addr) : List AV → List V → Prop
  | nil : RepAs K G as [] []
  | cons {x : AV} {xs : List AV} {v : V} {vs : List V} : RepA K G as x v → RepAs K G as xs vs → RepAs K G as (x :: xs) (v :: vs)
theorem RepAs.mono {K : PySem.W.Frag} {G G' : Hp} {as as' : List Addr} (g : Gr G as G' as') {xs : List AV} {vs : List V} (h : RepAs K G as xs vs) : RepAs K G' as' xs vs := by
  induction h with
  | nil => exact .nil
  | cons a _ ih => exact .cons (a.mono g) ih
theorem RepAs.length {K : PySem.W.Frag} {G : Hp} {as : List Addr} {xs : List AV} {vs : List V} (h : RepAs K G as xs vs) : vs.length = xs.length := by
  induction h with
  | nil => rfl
  | cons _ _ ih => exact congrArg (· + 1) ih
theorem RepAs.append {K : PySem.W.Frag} {G : Hp} {as : List Addr} {xs ys : List AV} {vs ws : List V} (h : RepAs K G as xs vs) (k : RepAs K G as ys ws) : RepAs K G as (xs ++ ys) (vs ++ ws) := by
  induction h with
  | nil => exact k
  | cons a _ ih => exact .cons a ih
/-! ### the wishes, by data -/
structure KS where
  nx : En → Prop
  rt : AV → En → Prop
  bk : En → Prop := fun _ => False
  ct : En → Prop := fun _ => False
section
variable (K : PySem.W.Frag) (F : Fx)
/-- what is wanted of a value that has come -/
def Got (ρ : En) (as : List Addr) (σ : L2.St) (G : Hp) (k : AV → En → Prop) (Q : VK) : Prop := ∀ av ρ' v as' H' G', k av ρ' → EnvOk K F ρ' as' σ H' G' → Gr G as G' as' → RepA K G' as' av v → Q v H'
def WpE (t : TE) (ρ : En) (k : AV → En → Prop) : Prop := ∀ as σ H G, EnvOk K F ρ as σ H G → ∀ Q : VK, Got K F ρ as σ G k Q → t σ H Q
def WpT (t : TT) (ρ : En) (k : Bool → En → Prop) : Prop := ∀ as σ H G, EnvOk K F ρ as σ H G → ∀ Q : Bool → Hp → Prop, (∀ b ρ' as' H' G', k b ρ' → EnvOk K F ρ' as' σ H' G' → Gr G as G' as' → Q b H') → t σ H Q
def WpA (t : TA) (ρ : En) (k : List AV → En → Prop) : Prop := ∀ as σ H G, EnvOk K F ρ as σ H G → ∀ Q : List V → Hp → Prop, (∀ avs ρ' vs as' H' G', k avs ρ' → EnvOk K F ρ' as' σ H' G' → Gr G as G' as' → RepAs K G' as' avs vs → Q vs H') → t σ H Q
def WpR (r : R2) (x y : AV) (ρ : En) (k : AV → En → Prop) : Prop := ∀ as σ H G vx vy, EnvOk K F ρ as σ H G → RepA K G as x vx → RepA K G as y vy → ∀ Q : VK, Got K F ρ as σ G k Q → r vx vy H Q
def WpU (r : V → Hp → VK → Prop) (x : AV) (ρ : En) (k : AV → En → Prop) : Prop := ∀ as σ H G vx, EnvOk K F ρ as σ H G → RepA K G as x vx → ∀ Q : VK, Got K F ρ as σ G k Q → r vx H Q
def WpC (r : List V → Hp → VK → Prop) (xs : List AV) (ρ : En) (k : AV → En → Prop) : Prop := ∀ as σ H G vs, EnvOk K F ρ as σ H G → RepAs K G as xs vs → ∀ Q : VK, Got K F ρ as σ G k Q → r vs H Q
def WpM (r : V → List V → Hp → VK → Prop) (x : AV) (xs : List AV) (ρ : En) (k : AV → En → Prop) : Prop := ∀ as σ H G v vs, EnvOk K F ρ as σ H G → RepA K G as x v → RepAs K G as xs vs → ∀ Q : VK, Got K F ρ as σ G k Q → r v vs H Q
def WpSp (sp : Sp) (E : L2.St → XK) (xs : List AV) (ρ : En) (k : AV → En → Prop) : Prop := ∀ as σ H G vs, EnvOk K F ρ as σ H G → RepAs K G as xs vs → ∀ Q : VK, Got K F ρ as σ G k Q → sp vs H Q (E σ)
def WpG (g : TG) (x : AV) (ρ : En) (k : En → Prop) : Prop := ∀ as σ H G v, EnvOk K F ρ as σ H G → RepA K G as x v → ∀ Q : L2.St → Hp → Prop, (∀ ρ' as' σ' H' G', k ρ' → EnvOk K F ρ' as' σ' H' G' → Gr G as G' as' → Q σ' H') → g v σ H Q
def WpGs (g : TGs) (xs : List AV) (ρ : En) (k : En → Prop) : Prop := ∀ as σ H G vs, EnvOk K F ρ as σ H G → RepAs K G as xs vs → ∀ Q : L2.St → Hp → Prop, (∀ ρ' as' σ' H' G', k ρ' → EnvOk K F ρ' as' σ' H' G' → Gr G as G' as' → Q σ' H') → g vs σ H Q
/-- the ends of a statement, by data -/
structure EndsOk (as : List Addr) (G : Hp) (k : KS) (D : Ends) : Prop where
  nx : ∀ ρ as' σ H G', k.nx ρ → EnvOk K F ρ as' σ H G' → Gr G as G' as' → D.nx σ H
  rt : ∀ av ρ v as' σ H G', k.rt av ρ → EnvOk K F ρ as' σ H G' → Gr G as G' as' → RepA K G' as' av v → D.rt v H
  bk : ∀ ρ as' σ H G', k.bk ρ → EnvOk K F ρ as' σ H G' → Gr G as G' as' → D.bk σ H
  ct : ∀ ρ as' σ H G', k.ct ρ → EnvOk K F ρ as' σ H G' → Gr G as G' as' → D.ct σ H
  fr : ∀ v H, F.fr v → D.rt v H
theorem EndsOk.grow {as as1 : List Addr} {G G1 : Hp} {k : KS} {D : Ends} (q : EndsOk K F as G k D) (g : Gr G as G1 as1) : EndsOk K F as1 G1 k D :=
  ⟨fun ρ as' σ H G' a b c => q.nx ρ as' σ H G' a b (g.trans c), fun av ρ v as' σ H G' a b c d => q.rt av ρ v as' σ H G' a b (g.trans c) d, fun ρ as' σ H G' a b c => q.bk ρ as' σ H G' a b (g.trans c), fun ρ as' σ H G' a b c => q.ct ρ as' σ H G' a b (g.trans c), q.fr⟩
def WpS (t : TS) (ρ : En) (k : KS) : Prop := ∀ as σ H G, EnvOk K F ρ as σ H G → ∀ D : Ends, EndsOk K F as G k D → t D σ H
end
/-! ### rules of the data layer: expressions -/
section
variable {K : PySem.W.Frag} {F : Fx} {ρ : En} {k : AV → En → Prop} {kb : Bool → En → Prop} {ks : KS} {t u : TS} {ta tb te : TE} {tt tu : TT}
theorem Got.imp {as : List Addr} {σ : L2.St} {G : Hp} {ρ1 : En} {as1 : List Addr} {G1 : Hp} {k1 : AV → En → Prop} {Q : VK} (g : Got K F ρ as σ G k Q) (gr : Gr G as G1 as1) (h : ∀ av ρ', k1 av ρ' → k av ρ') : Got K F ρ1 as1 σ G1 k1 Q :=
  fun av ρ' v as' H' G' hk e gr' r => g av ρ' v as' H' G' (h _ _ hk) e (gr.trans gr') r
theorem WpE.imp {k' : AV → En → Prop} (h : WpE K F te ρ k) (i : ∀ av ρ', k av ρ' → k' av ρ') : WpE K F te ρ k' := fun as σ H G e Q q => h as σ H G e Q (q.imp .refl i)
theorem we_var {i : Nat} {av : AV} (h : ρ.sl[i]? = some (some av)) (hk : k av ρ) : WpE K F (tVar i) ρ k := fun as σ H G e Q q => by
  obtain ⟨v, hv, r⟩ := e.sl i av h
  exact ⟨v, hv, q av ρ v as H G hk e .refl r⟩
theorem we_ci {i : Int} (hk : k (.dat (.int i)) ρ) : WpE K F (tC (.int i)) ρ k := fun as σ H G e Q q => q _ ρ _ as H G hk e .refl (Rep.int i)
theorem we_cb {b : Bool} (hk : k (.dat (.bl b)) ρ) : WpE K F (tC (.bl b)) ρ k := fun as σ H G e Q q => q _ ρ _ as H G hk e .refl (Rep.bl b)
theorem we_cn (hk : k (.dat .non) ρ) : WpE K F (tC .non) ρ k := fun as σ H G e Q q => q _ ρ _ as H G hk e .refl Rep.non
theorem we_cs {x : Str} (hk : k (.dat (.str x)) ρ) : WpE K F (tC (.str x)) ρ k := fun as σ H G e Q q => q _ ρ _ as H G hk e .refl (Rep.str x)
theorem we_ct {n : String} (hk : k (.dat (.ty n)) ρ) : WpE K F (tC (.ty n)) ρ k := fun as σ H G e Q q => q _ ρ _ as H G hk e .refl (Rep.ty n)
/-- a constant of the module -/
theorem we_cr {a : Addr} {d : D} (h : ∀ G, Rep K G d (.ref a)) (hk : k (.dat d) ρ) : WpE K F (tC (.ref a)) ρ k := fun as σ H G e Q q => q _ ρ _ as H G hk e .refl (h G)
theorem we_op {r : R2} (h : WpE K F ta ρ fun x ρ1 => WpE K F tb ρ1 fun y ρ2 => WpR K F r x y ρ2 k) : WpE K F (tOp r ta tb) ρ k := fun as σ H G e Q q =>
  h as σ H G e _ fun x ρ1 vx as1 H1 G1 h1 e1 g1 r1 => h1 as1 σ H1 G1 e1 _ fun y ρ2 vy as2 H2 G2 h2 e2 g2 r2 => h2 as2 σ H2 G2 vx vy e2 (r1.mono g2) r2 Q (q.imp (g1.trans g2) fun _ _ z => z)
theorem we_un {r : V → Hp → VK → Prop} (h : WpE K F ta ρ fun x ρ1 => WpU K F r x ρ1 k) : WpE K F (tUn r ta) ρ k := fun as σ H G e Q q =>
  h as σ H G e _ fun x ρ1 vx as1 H1 G1 h1 e1 g1 r1 => h1 as1 σ H1 G1 vx e1 r1 Q (q.imp g1 fun _ _ z => z)
theorem we_tCB {r : List V → Hp → VK → Prop} {t : TA} (h : WpA K F t ρ fun xs ρ1 => WpC K F r xs ρ1 k) : WpE K F (tCB r t) ρ k := fun as σ H G e Q q =>
  h as σ H G e _ fun xs ρ1 vs as1 H1 G1 h1 e1 g1 r1 => h1 as1 σ H1 G1 vs e1 r1 Q (q.imp g1 fun _ _ z => z)
theorem wa_nil {k : List AV → En → Prop} (hk : k [] ρ) : WpA K F tNil ρ k := fun as σ H G e Q q => q [] ρ [] as H G hk e .refl .nil
theorem wa_cons {k : List AV → En → Prop} {tr : TA} (h : WpE K F ta ρ fun x ρ1 => WpA K F tr ρ1 fun xs ρ2 => k (x :: xs) ρ2) : WpA K F (tCons ta tr) ρ k := fun as σ H G e Q q =>
  h as σ H G e _ fun x ρ1 vx as1 H1 G1 h1 e1 g1 r1 => h1 as1 σ H1 G1 e1 _ fun xs ρ2 vs as2 H2 G2 h2 e2 g2 r2 => q _ ρ2 _ as2 H2 G2 h2 e2 (g1.trans g2) (.cons (r1.mono g2) r2)
theorem wr_I0i {f : Int → Int → Int} {i j : Int} (hk : k (.dat (.int (f i j))) ρ) : WpR K F (rI0 fun i j => .int (f i j)) (.dat (.int i)) (.dat (.int j)) ρ k := fun as σ H G vx vy e r1 r2 Q q => by
  cases (show Rep K G (.int i) vx from r1); cases (show Rep K G (.int j) vy from r2)
  exact ⟨i, j, rfl, rfl, q _ ρ _ as H G hk e .refl (Rep.int _)⟩
theorem wr_I0b {f : Int → Int → Bool} {i j : Int} (hk : k (.dat (.bl (f i j))) ρ) : WpR K F (rI0 fun i j => .bl (f i j)) (.dat (.int i)) (.dat (.int j)) ρ k := fun as σ H G vx vy e r1 r2 Q q => by
  cases (show Rep K G (.int i) vx from r1); cases (show Rep K G (.int j) vy from r2)
  exact ⟨i, j, rfl, rfl, q _ ρ _ as H G hk e .refl (Rep.bl _)⟩
theorem wr_Ii {C : Int → Int → Prop} {f : Int → Int → Int} {i j : Int} (hc : C i j) (hk : k (.dat (.int (f i j))) ρ) : WpR K F (rI C fun i j => .int (f i j)) (.dat (.int i)) (.dat (.int j)) ρ k := fun as σ H G vx vy e r1 r2 Q q => by
  cases (show Rep K G (.int i) vx from r1); cases (show Rep K G (.int j) vy from r2)
  exact ⟨i, j, rfl, rfl, hc, q _ ρ _ as H G hk e .refl (Rep.int _)⟩
theorem wu_neg {i : Int} (hk : k (.dat (.int (-i))) ρ) : WpU K F (rU fun i => .int (-i)) (.dat (.int i)) ρ k := fun as σ H G vx e r1 Q q => by
  cases (show Rep K G (.int i) vx from r1)
  exact ⟨i, rfl, q _ ρ _ as H G hk e .refl (Rep.int _)⟩
theorem wc_abs {i : Int} (hk : k (.dat (.int (if i < 0 then -i else i))) ρ) : WpC K F (fun xs H Q => ∃ i, xs = [.int i] ∧ Q (.int (if i < 0 then -i else i)) H) [.dat (.int i)] ρ k := fun as σ H G vs e r Q q => by
  cases r with
  | cons a b =>
    cases b
    cases (show Rep K G (.int i) _ from a)
    exact ⟨i, rfl, q _ ρ _ as H G hk e .refl (Rep.int _)⟩
/-- == of scalars -/
def scalD : D → D → Bool
  | .non, .non => true | .non, .int _ => true | .int _, .non => true | .non, .bl _ => true | .bl _, .non => true | .non, .str _ => true | .str _, .non => true
  | .int _, .int _ => true | .bl _, .bl _ => true | .str _, .str _ => true | .int _, .str _ => true | .str _, .int _ => true | .bl _, .str _ => true | .str _, .bl _ => true
  | _, _ => false
def eqS : D → D → Bool
  | .non, .non => true
  | .int i, .int j => decide (i = j)
  | .bl a, .bl b => decide (a = b)
  | .str x, .str y => decide (x = y)
  | _, _ => false
theorem scal_rep {G : Hp} {d e : D} {v w : V} (h : scalD d e = true) (r1 : Rep K G d v) (r2 : Rep K G e w) : scal v w = true ∧ decide (v = w) = eqS d e := by
  cases d <;> cases e <;> first
    | (exact Bool.noConfusion (show false = true from h))
    | (cases r1; cases r2; refine ⟨rfl, ?_⟩; first | rfl | (simp [eqS]) | (exact decide_eq_false (fun z => nomatch z)))
theorem wr_eq {d e : D} (h : scalD d e = true) (hk : k (.dat (.bl (eqS d e))) ρ) : WpR K F rEq (.dat d) (.dat e) ρ k := fun as σ H G vx vy en r1 r2 Q q => by
  obtain ⟨a, b⟩ := scal_rep (K := K) (G := G) h r1 r2
  refine ⟨a, ?_⟩
  rw [b]
  exact q _ ρ _ as H G hk en .refl (Rep.bl _)
theorem wr_ne {d e : D} (h : scalD d e = true) (hk : k (.dat (.bl (!eqS d e))) ρ) : WpR K F rNe (.dat d) (.dat e) ρ k := fun as σ H G vx vy en r1 r2 Q q => by
  obtain ⟨a, b⟩ := scal_rep (K := K) (G := G) h r1 r2
  refine ⟨a, ?_⟩
  rw [b]
  exact q _ ρ _ as H G hk en .refl (Rep.bl _)
def isNon : AV → Bool
  | .dat .non => true
  | _ => false
theorem isNon_rep {G : Hp} {as : List Addr} {x : AV} {v : V} (r : RepA K G as x v) : decide (v = .non) = isNon x := by
  cases x with
  | cel j => obtain ⟨a, _, rfl⟩ := r; rfl
  | dat d => cases d <;> cases (show Rep K G _ v from r) <;> rfl
theorem wr_isN {x : AV} (hk : k (.dat (.bl (isNon x))) ρ) : WpR K F (fun x y H Q => y = .non ∧ Q (.bl (decide (x = .non))) H) x (.dat .non) ρ k := fun as σ H G vx vy en r1 r2 Q q => by
  refine ⟨Rep.nonE r2, ?_⟩
  rw [isNon_rep r1]
  exact q _ ρ _ as H G hk en .refl (Rep.bl _)
theorem wr_notN {x : AV} (hk : k (.dat (.bl (!isNon x))) ρ) : WpR K F (fun x y H Q => y = .non ∧ Q (.bl (!decide (x = .non))) H) x (.dat .non) ρ k := fun as σ H G vx vy en r1 r2 Q q => by
  refine ⟨Rep.nonE r2, ?_⟩
  rw [isNon_rep r1]
  exact q _ ρ _ as H G hk en .refl (Rep.bl _)
theorem wr_isB {a b : Bool} (hk : k (.dat (.bl (decide (a = b)))) ρ) : WpR K F (fun x y H Q => ∃ a b, x = .bl a ∧ y = .bl b ∧ Q (.bl (decide (a = b))) H) (.dat (.bl a)) (.dat (.bl b)) ρ k := fun as σ H G vx vy en r1 r2 Q q =>
  ⟨a, b, Rep.blE r1, Rep.blE r2, q _ ρ _ as H G hk en .refl (Rep.bl _)⟩
theorem wr_isnotB {a b : Bool} (hk : k (.dat (.bl (!decide (a = b)))) ρ) : WpR K F (fun x y H Q => ∃ a b, x = .bl a ∧ y = .bl b ∧ Q (.bl (!decide (a = b))) H) (.dat (.bl a)) (.dat (.bl b)) ρ k := fun as σ H G vx vy en r1 r2 Q q =>
  ⟨a, b, Rep.blE r1, Rep.blE r2, q _ ρ _ as H G hk en .refl (Rep.bl _)⟩
/-! truth -/
theorem we_andV (h : WpE K F ta ρ fun x ρ1 => ∃ c, x = .dat (.bl c) ∧ if c = true then WpE K F tb ρ1 k else k (.dat (.bl false)) ρ1) : WpE K F (tAndV ta tb) ρ k := fun as σ H G e Q q =>
  h as σ H G e _ fun x ρ1 vx as1 H1 G1 ⟨c, ex, hc⟩ e1 g1 r1 => by
    subst ex
    refine ⟨c, Rep.blE r1, ?_⟩
    cases c with
    | true => exact (show WpE K F tb ρ1 k from hc) as1 σ H1 G1 e1 Q (q.imp g1 fun _ _ z => z)
    | false => exact q _ ρ1 _ as1 H1 G1 hc e1 g1 (Rep.bl _)
theorem we_orV (h : WpE K F ta ρ fun x ρ1 => ∃ c, x = .dat (.bl c) ∧ if c = true then k (.dat (.bl true)) ρ1 else WpE K F tb ρ1 k) : WpE K F (tOrV ta tb) ρ k := fun as σ H G e Q q =>
  h as σ H G e _ fun x ρ1 vx as1 H1 G1 ⟨c, ex, hc⟩ e1 g1 r1 => by
    subst ex
    refine ⟨c, Rep.blE r1, ?_⟩
    cases c with
    | false => exact (show WpE K F tb ρ1 k from hc) as1 σ H1 G1 e1 Q (q.imp g1 fun _ _ z => z)
    | true => exact q _ ρ1 _ as1 H1 G1 hc e1 g1 (Rep.bl _)
theorem we_notV (h : WpE K F ta ρ fun x ρ1 => ∃ c, x = .dat (.bl c) ∧ k (.dat (.bl (!c))) ρ1) : WpE K F (tNotV ta) ρ k := fun as σ H G e Q q =>
  h as σ H G e _ fun x ρ1 vx as1 H1 G1 ⟨c, ex, hc⟩ e1 g1 r1 => by
    subst ex
    exact ⟨c, Rep.blE r1, q _ ρ1 _ as1 H1 G1 hc e1 g1 (Rep.bl _)⟩
theorem we_if (h : WpT K F tt ρ fun b ρ1 => if b = true then WpE K F ta ρ1 k else WpE K F tb ρ1 k) : WpE K F (tIf tt ta tb) ρ k := fun as σ H G e Q q =>
  h as σ H G e _ fun b ρ1 as1 H1 G1 hb e1 g1 => by
    cases b with
    | true => exact (show WpE K F ta ρ1 k from hb) as1 σ H1 G1 e1 Q (q.imp g1 fun _ _ z => z)
    | false => exact (show WpE K F tb ρ1 k from hb) as1 σ H1 G1 e1 Q (q.imp g1 fun _ _ z => z)
theorem wt_test (h : WpE K F te ρ fun x ρ1 => ∃ b, x = .dat (.bl b) ∧ kb b ρ1) : WpT K F (tTest te) ρ kb := fun as σ H G e Q q =>
  h as σ H G e _ fun x ρ1 vx as1 H1 G1 ⟨c, ex, hc⟩ e1 g1 r1 => by
    subst ex
    exact ⟨c, Rep.blE r1, q _ ρ1 as1 H1 G1 hc e1 g1⟩
theorem wt_B (h : WpE K F te ρ fun x ρ1 => ∃ b, x = .dat (.bl b) ∧ kb b ρ1) : WpT K F (tB te) ρ kb := wt_test h
theorem wt_and (h : WpT K F tt ρ fun b ρ1 => if b = true then WpT K F tu ρ1 kb else kb false ρ1) : WpT K F (tAnd tt tu) ρ kb := fun as σ H G e Q q =>
  h as σ H G e _ fun b ρ1 as1 H1 G1 hb e1 g1 => by
    cases b with
    | true => exact (show WpT K F tu ρ1 kb from hb) as1 σ H1 G1 e1 Q fun b2 ρ2 as2 H2 G2 h2 e2 g2 => q _ _ _ _ _ h2 e2 (g1.trans g2)
    | false => exact q _ _ _ _ _ hb e1 g1
theorem wt_or (h : WpT K F tt ρ fun b ρ1 => if b = true then kb true ρ1 else WpT K F tu ρ1 kb) : WpT K F (tOr tt tu) ρ kb := fun as σ H G e Q q =>
  h as σ H G e _ fun b ρ1 as1 H1 G1 hb e1 g1 => by
    cases b with
    | false => exact (show WpT K F tu ρ1 kb from hb) as1 σ H1 G1 e1 Q fun b2 ρ2 as2 H2 G2 h2 e2 g2 => q _ _ _ _ _ h2 e2 (g1.trans g2)
    | true => exact q _ _ _ _ _ hb e1 g1
theorem wt_not (h : WpT K F tt ρ fun b ρ1 => kb (!b) ρ1) : WpT K F (tNot tt) ρ kb := fun as σ H G e Q q => h as σ H G e _ fun b ρ1 as1 H1 G1 hb e1 g1 => q _ _ _ _ _ hb e1 g1
theorem wt_yes (h : kb true ρ) : WpT K F tYes ρ kb := fun as σ H G e Q q => q _ _ _ _ _ h e .refl
/-! ### statements -/
theorem ws_seq (h : WpS K F t ρ { ks with nx := fun ρ1 => WpS K F u ρ1 ks }) : WpS K F (tSeq t u) ρ ks := fun as σ H G e D q =>
  h as σ H G e { D with nx := u D } ⟨fun ρ1 as1 σ1 H1 G1 k1 e1 g1 => k1 as1 σ1 H1 G1 e1 D (EndsOk.grow K F q g1), q.rt, q.bk, q.ct, q.fr⟩
theorem ws_next (h : ks.nx ρ) : WpS K F tNext ρ ks := fun as σ H G e D q => q.nx ρ as σ H G h e .refl
theorem ws_break (h : ks.bk ρ) : WpS K F tBreak ρ ks := fun as σ H G e D q => q.bk ρ as σ H G h e .refl
theorem ws_cont (h : ks.ct ρ) : WpS K F tCont ρ ks := fun as σ H G e D q => q.ct ρ as σ H G h e .refl
theorem ws_drop (h : WpE K F te ρ fun _ ρ1 => ks.nx ρ1) : WpS K F (tDrop te) ρ ks := fun as σ H G e D q => h as σ H G e _ fun x ρ1 vx as1 H1 G1 h1 e1 g1 r1 => q.nx ρ1 as1 σ H1 G1 h1 e1 g1
theorem ws_ret (h : WpE K F te ρ ks.rt) : WpS K F (tRet te) ρ ks := fun as σ H G e D q => h as σ H G e _ fun x ρ1 vx as1 H1 G1 h1 e1 g1 r1 => q.rt x ρ1 vx as1 σ H1 G1 h1 e1 g1 r1
theorem ws_retN (h : ks.rt (.dat .non) ρ) : WpS K F tRetN ρ ks := fun as σ H G e D q => q.rt _ ρ _ as σ H G h e .refl Rep.non
theorem ws_if (h : WpT K F tt ρ fun b ρ1 => if b = true then WpS K F t ρ1 ks else WpS K F u ρ1 ks) : WpS K F (tIfS tt t u) ρ ks := fun as σ H G e D q =>
  h as σ H G e _ fun b ρ1 as1 H1 G1 hb e1 g1 => by
    cases b with
    | true => exact (show WpS K F t ρ1 ks from hb) as1 σ H1 G1 e1 D (EndsOk.grow K F q g1)
    | false => exact (show WpS K F u ρ1 ks from hb) as1 σ H1 G1 e1 D (EndsOk.grow K F q g1)
theorem ws_asg {g : TG} (h : WpE K F te ρ fun x ρ1 => WpG K F g x ρ1 ks.nx) : WpS K F (tAsg te g) ρ ks := fun as σ H G e D q =>
  h as σ H G e _ fun x ρ1 vx as1 H1 G1 h1 e1 g1 r1 => h1 as1 σ H1 G1 vx e1 r1 _ fun ρ2 as2 σ2 H2 G2 h2 e2 g2 => q.nx ρ2 as2 σ2 H2 G2 h2 e2 (g1.trans g2)
def En.put (ρ : En) (i : Nat) (x : AV) : En := ⟨ρ.sl.set i (some x), ρ.ce⟩
theorem EnvOk.put {as : List Addr} {σ : L2.St} {H G : Hp} {i : Nat} {x : AV} {v : V} (e : EnvOk K F ρ as σ H G) (r : RepA K G as x v) : EnvOk K F (ρ.put i x) as (σ.set i (some v)) H G :=
  ⟨e.gh, e.fh, e.fg, e.g0, e.nd, e.pr, e.ln, e.ce, by rw [List.length_set, e.sn]; exact (List.length_set).symm, fun j av hj => by
    show ∃ v', (σ.set i (some v))[j]? = some (some v') ∧ _
    have hj' : (ρ.sl.set i (some x))[j]? = some (some av) := hj
    by_cases hij : i = j
    · subst hij
      rw [List.getElem?_set] at hj' ⊢
      have hl : i < ρ.sl.length := by
        rcases Nat.lt_or_ge i ρ.sl.length with z | z
        · exact z
        · simp at hj'
          exact hj'.1
      simp [hl] at hj'
      subst hj'
      have hl2 : i < σ.length := by rw [e.sn]; exact hl
      exact ⟨v, by simp [hl2], r⟩
    · rw [List.getElem?_set_ne hij] at hj' ⊢
      exact e.sl j av hj'⟩
theorem wg_name {i : Nat} {x : AV} {kn : En → Prop} (h : kn (ρ.put i x)) : WpG K F (gName i) x ρ kn := fun as σ H G v e r Q q => q _ as _ H G h (e.put r) .refl
theorem wgs_nil {kn : En → Prop} (h : kn ρ) : WpGs K F gNil [] ρ kn := fun as σ H G vs e r Q q => by cases r; exact ⟨rfl, q _ _ _ _ _ h e .refl⟩
theorem wgs_cons {g : TG} {gs : TGs} {x : AV} {xs : List AV} {kn : En → Prop} (h : WpG K F g x ρ fun ρ1 => WpGs K F gs xs ρ1 kn) : WpGs K F (gCons g gs) (x :: xs) ρ kn := fun as σ H G vs e r Q q => by
  cases r with
  | cons a b => exact ⟨_, _, rfl, h as σ H G _ e a _ fun ρ1 as1 σ1 H1 G1 h1 e1 g1 => h1 as1 σ1 H1 G1 _ e1 (b.mono g1) Q fun ρ2 as2 σ2 H2 G2 h2 e2 g2 => q _ _ _ _ _ h2 e2 (g1.trans g2)⟩
theorem Reps.as {G : Hp} {as : List Addr} : ∀ {ds : List D} {vs : List V}, Reps K G ds vs → RepAs K G as (ds.map .dat) vs
  | [], _, h => by cases h; exact .nil
  | _ :: _, _, h => by cases h with | cons a b => exact .cons a (Reps.as b)
theorem wg_tup {n : Nat} {gs : TGs} {ds : List D} {kn : En → Prop} (hn : ds.length = n) (h : WpGs K F gs (ds.map .dat) ρ kn) : WpG K F (gTup K n gs) (.dat (.tup ds)) ρ kn := fun as σ H G v e r Q q => by
  obtain ⟨a, vs, rfl, hs, hr⟩ := Rep.tupE r
  exact ⟨a, vs, rfl, Same.seqT e.gh hs, by rw [hr.length]; exact hn, h as σ H G vs e hr.as Q q⟩
theorem ws_par {i j : Nat} {ta : TA} (h : WpA K F ta ρ fun xs ρ1 => ∃ x y, xs = [x, y] ∧ ks.nx ((ρ1.put i x).put j y)) : WpS K F (tPar i j ta) ρ ks := fun as σ H G e D q =>
  h as σ H G e _ fun xs ρ1 vs as1 H1 G1 ⟨x, y, ex, h1⟩ e1 g1 r1 => by
    subst ex
    cases r1 with
    | cons a b => cases b with | cons b c => cases c; exact ⟨_, _, rfl, q.nx _ as1 _ H1 G1 h1 ((e1.put a).put b) g1⟩
/-! ### lists and tuples -/
/-- the items of a list: data, or a cell -/
inductive IsL (ρ : En) : AV → List D → Prop
  | dat (ds : List D) : IsL ρ (.dat (.lst ds)) ds
  | scr (ds : List D) : IsL ρ (.dat (.scr ds)) ds
  | cel {j : Nat} {ds : List D} : ρ.ce[j]? = some (.lst ds) → IsL ρ (.cel j) ds
theorem IsL.rep {as : List Addr} {σ : L2.St} {H G : Hp} {x : AV} {ds : List D} {v : V} (e : EnvOk K F ρ as σ H G) (h : IsL ρ x ds) (r : RepA K G as x v) : ∃ a vs, v = .ref a ∧ SqL K H a vs ∧ Reps K G ds vs := by
  cases h with
  | dat => obtain ⟨a, vs, rfl, hs, hr⟩ := Rep.lstE r; exact ⟨a, vs, rfl, SqL.of (e.gh _ _ hs), hr⟩
  | scr => obtain ⟨a, vs, rfl, hs, hr⟩ := Rep.scrE r; exact ⟨a, vs, rfl, Same.seq e.gh hs, hr⟩
  | cel hc =>
    obtain ⟨a, ha, rfl⟩ := r
    obtain ⟨_, _, _, vs, hv, hr⟩ := e.ce _ _ a hc ha
    exact ⟨a, vs, rfl, SqL.of hv, hr⟩
theorem atI_reps {G : Hp} {ds : List D} {vs : List V} {i : Int} {d : D} (h : Reps K G ds vs) (e : atI ds i = some d) : ∃ v, atI vs i = some v ∧ Rep K G d v := by
  unfold atI at *
  rw [h.length]
  cases q : ixN ds.length i with
  | none => rw [q] at e; cases e
  | some j =>
    rw [q] at e
    exact h.get e
theorem wr_ixL {x : AV} {ds : List D} {i : Int} {d : D} (hx : IsL ρ x ds) (hi : atI ds i = some d) (hk : k (.dat d) ρ) : WpR K F (rIxL K) x (.dat (.int i)) ρ k := fun as σ H G vx vy e r1 r2 Q q => by
  obtain ⟨a, vs, rfl, hs, hr⟩ := hx.rep e r1
  obtain ⟨v, hv, r⟩ := atI_reps hr hi
  exact ⟨a, vs, i, v, rfl, Rep.intE r2, hs, hv, q _ ρ _ as H G hk e .refl r⟩
theorem wr_ixT {ds : List D} {i : Int} {d : D} (hi : atI ds i = some d) (hk : k (.dat d) ρ) : WpR K F (rIxT K) (.dat (.tup ds)) (.dat (.int i)) ρ k := fun as σ H G vx vy e r1 r2 Q q => by
  obtain ⟨a, vs, rfl, hs, hr⟩ := Rep.tupE r1
  obtain ⟨v, hv, r⟩ := atI_reps hr hi
  exact ⟨a, vs, i, v, rfl, Rep.intE r2, Same.seqT e.gh hs, hv, q _ ρ _ as H G hk e .refl r⟩
theorem wc_lenL {x : AV} {ds : List D} (hx : IsL ρ x ds) (hk : k (.dat (.int ds.length)) ρ) : WpC K F (fun xs H Q => ∃ p ys, xs = [.ref p] ∧ (SqL K H p ys ∨ SqT K H p ys) ∧ Q (.int ys.length) H) [x] ρ k := fun as σ H G vs e r Q q => by
  cases r with
  | cons r c =>
    cases c
    obtain ⟨a, vs, rfl, hs, hr⟩ := hx.rep e r
    refine ⟨a, vs, rfl, .inl hs, ?_⟩
    rw [hr.length]
    exact q _ ρ _ as H G hk e .refl (Rep.int _)
theorem wc_lenT {ds : List D} (hk : k (.dat (.int ds.length)) ρ) : WpC K F (fun xs H Q => ∃ p ys, xs = [.ref p] ∧ (SqL K H p ys ∨ SqT K H p ys) ∧ Q (.int ys.length) H) [.dat (.tup ds)] ρ k := fun as σ H G vs e r Q q => by
  cases r with
  | cons r c =>
    cases c
    obtain ⟨a, vs, rfl, hs, hr⟩ := Rep.tupE r
    refine ⟨a, vs, rfl, .inr (Same.seqT e.gh hs), ?_⟩
    rw [hr.length]
    exact q _ ρ _ as H G hk e .refl (Rep.int _)
/-! new things -/
/-- a new frozen object -/
theorem EnvOk.newG {as : List Addr} {σ : L2.St} {H G : Hp} {p : Addr} {o : HO} (e : EnvOk K F ρ as σ H G) (hp : H p = none) : EnvOk K F ρ as σ (upd H p o) (upd G p o) ∧ Gr G as (upd G p o) as := by
  have gp : G p = none := Same.none e.gh hp
  have fp : F.Fr p = none := Same.none e.fh hp
  have sg : Same G (upd G p o) := Same.new (Same.refl _) gp
  refine ⟨⟨fun a u h => ?_, Same.new e.fh hp, fun a u h => ?_, Same.trans e.g0 sg, e.nd, e.pr, e.ln, fun j c a hc ha => ?_, e.sn, fun i av hi => ?_⟩, ⟨sg, [], by simp⟩⟩
  · by_cases q : a = p
    · subst q; rw [upd_same] at h ⊢; exact h
    · rw [upd_ne q] at h ⊢; exact e.gh _ _ h
  · by_cases q : a = p
    · subst q; exact .inr fp
    · rw [upd_ne q] at h; exact e.fg _ _ h
  · obtain ⟨f, ⟨u, hu⟩, ok⟩ := e.ce j c a hc ha
    have na : a ≠ p := ne_of_none hu hp
    refine ⟨f, ⟨u, upd_old hp hu⟩, ?_⟩
    cases c with
    | gone => trivial
    | lst ds => obtain ⟨g, vs, h, r⟩ := ok; exact ⟨by rw [upd_ne na]; exact g, vs, upd_old hp h, Reps.mono sg _ _ r⟩
    | ins C9 ns9 ds => obtain ⟨g, dx9, vs, h, ln9, r⟩ := ok; exact ⟨by rw [upd_ne na]; exact g, dx9, vs, upd_old hp h, ln9, Reps.mono sg _ _ r⟩
    | drw => obtain ⟨g, vs, h, r⟩ := ok; exact ⟨by rw [upd_ne na]; exact g, vs, upd_old hp h, r⟩
  · obtain ⟨v, hv, r⟩ := e.sl i av hi
    exact ⟨v, hv, r.mono ⟨sg, [], by simp⟩⟩
/-- a new cell -/
theorem EnvOk.newO {as : List Addr} {σ : L2.St} {H G : Hp} {p : Addr} {o : HO} {c0 : Cell} (e : EnvOk K F ρ as σ H G) (hp : H p = none) (ok0 : G p = none → CellOk K G (upd H p o) p c0) : EnvOk K F ⟨ρ.sl, ρ.ce ++ [c0]⟩ (as ++ [p]) σ (upd H p o) G ∧ Gr G as G (as ++ [p]) := by
  have gp : G p = none := Same.none e.gh hp
  have fp : F.Fr p = none := Same.none e.fh hp
  have gr : Gr G as G (as ++ [p]) := ⟨Same.refl _, [p], rfl⟩
  refine ⟨⟨fun a u h => upd_old hp (e.gh _ _ h), Same.new e.fh hp, e.fg, e.g0, ?_, e.pr.trans (List.prefix_append _ _), by rw [List.length_append, List.length_append, e.ln]; rfl, fun j c a hc ha => ?_, e.sn, fun i av hi => ?_⟩, gr⟩
  · rw [List.nodup_append]
    refine ⟨e.nd, by simp, fun a ha b hb => ?_⟩
    rw [List.mem_singleton] at hb
    subst hb
    obtain ⟨j, hj⟩ := List.getElem?_of_mem ha
    have hl : j < ρ.ce.length := by rw [← e.ln]; exact (List.getElem?_eq_some_iff.mp hj).1
    obtain ⟨_, ⟨u, hu⟩, _⟩ := e.ce j _ a (List.getElem?_eq_getElem hl) hj
    exact ne_of_none hu hp
  · by_cases hj : j < ρ.ce.length
    · rw [List.getElem?_append_left hj] at hc
      rw [List.getElem?_append_left (by rw [e.ln]; exact hj)] at ha
      obtain ⟨f, ⟨u, hu⟩, ok⟩ := e.ce j c a hc ha
      refine ⟨f, ⟨u, upd_old hp hu⟩, ?_⟩
      cases c with
      | gone => trivial
      | lst ds => obtain ⟨g, vs, h, r⟩ := ok; exact ⟨g, vs, upd_old hp h, r⟩
      | ins C9 ns9 ds => obtain ⟨g, dx9, vs, h, ln9, r⟩ := ok; exact ⟨g, dx9, vs, upd_old hp h, ln9, r⟩
      | drw => obtain ⟨g, vs, h, r⟩ := ok; exact ⟨g, vs, upd_old hp h, r⟩
    · have hj2 : ρ.ce.length ≤ j := by omega
      rw [List.getElem?_append_right hj2] at hc
      rw [List.getElem?_append_right (by rw [e.ln]; exact hj2), e.ln] at ha
      cases z : j - ρ.ce.length with
      | zero =>
        rw [z] at hc ha
        cases hc
        cases ha
        exact ⟨fp, ⟨_, upd_same⟩, ok0 gp⟩
      | succ m => rw [z] at hc; simp at hc
  · obtain ⟨v, hv, r⟩ := e.sl i av hi
    exact ⟨v, hv, r.mono gr⟩
theorem EnvOk.newC {as : List Addr} {σ : L2.St} {H G : Hp} {p : Addr} {vs : List V} {ds : List D} (e : EnvOk K F ρ as σ H G) (hp : H p = none) (hr : Reps K G ds vs) : EnvOk K F ⟨ρ.sl, ρ.ce ++ [.lst ds]⟩ (as ++ [p]) σ (upd H p (.lst vs)) G ∧ Gr G as G (as ++ [p]) := e.newO hp fun gp => ⟨gp, vs, upd_same, hr⟩
/-- a cell is written -/
theorem EnvOk.setO {as : List Addr} {σ : L2.St} {H G : Hp} {j : Nat} {a : Addr} {c c' : Cell} {o : HO} (e : EnvOk K F ρ as σ H G) (hj : ρ.ce[j]? = some c) (ha : as[j]? = some a) (g : G a = none) (ok : CellOk K G (upd H a o) a c') : EnvOk K F ⟨ρ.sl, ρ.ce.set j c'⟩ as σ (upd H a o) G := by
  obtain ⟨fa, ⟨u, hu⟩, _⟩ := e.ce j c a hj ha
  have hl : j < ρ.ce.length := (List.getElem?_eq_some_iff.mp hj).1
  refine ⟨fun b u h => upd_oth (ne_of_none h g) (e.gh _ _ h), fun b u h => upd_oth (ne_of_none h fa) (e.fh _ _ h), e.fg, e.g0, e.nd, e.pr, by rw [e.ln]; exact (List.length_set).symm, fun i c2 b hc hb => ?_, e.sn, e.sl⟩
  have hc' : (ρ.ce.set j c')[i]? = some c2 := hc
  by_cases hij : j = i
  · subst hij
    rw [List.getElem?_set_self hl] at hc'
    cases hc'
    rw [ha] at hb
    cases hb
    exact ⟨fa, ⟨_, upd_same⟩, ok⟩
  · rw [List.getElem?_set_ne hij] at hc'
    obtain ⟨f, ⟨u2, hu2⟩, ok2⟩ := e.ce i c2 b hc' hb
    have nb : b ≠ a := fun z => by
      subst z
      exact hij ((List.getElem?_inj (List.getElem?_eq_some_iff.mp ha).1 e.nd).mp (ha.trans hb.symm))
    refine ⟨f, ⟨u2, upd_oth nb hu2⟩, ?_⟩
    cases c2 with
    | gone => trivial
    | lst ds => obtain ⟨g, vs, h, r⟩ := ok2; exact ⟨g, vs, upd_oth nb h, r⟩
    | ins C9 ns9 ds => obtain ⟨g, dx9, vs, h, ln9, r⟩ := ok2; exact ⟨g, dx9, vs, upd_oth nb h, ln9, r⟩
    | drw => obtain ⟨g, vs, h, r⟩ := ok2; exact ⟨g, vs, upd_oth nb h, r⟩
theorem EnvOk.setC {as : List Addr} {σ : L2.St} {H G : Hp} {j : Nat} {a : Addr} {c c' : Cell} {xs : List V} (e : EnvOk K F ρ as σ H G) (hj : ρ.ce[j]? = some c) (ha : as[j]? = some a) (g : G a = none) (ok : CellOk K G (upd H a (.lst xs)) a c') : EnvOk K F ⟨ρ.sl, ρ.ce.set j c'⟩ as σ (upd H a (.lst xs)) G := e.setO hj ha g ok
/-- a cell is frozen -/
def frzA (j : Nat) (d : D) : AV → AV
  | .cel i => if i = j then .dat d else .cel i
  | x => x
def En.frzD (ρ : En) (j : Nat) (d : D) : En := ⟨ρ.sl.map (fun o => o.map (frzA j d)), ρ.ce.set j .gone⟩
abbrev En.frz (ρ : En) (j : Nat) (ds : List D) : En := ρ.frzD j (.lst ds)
/-- the data that a cell holds -/
def celD : Cell → Option D
  | .lst ds => some (.lst ds)
  | .ins C ns ds => some (.obj C ns ds)
  | _ => none
theorem EnvOk.frzD {as : List Addr} {σ : L2.St} {H G : Hp} {j : Nat} {a : Addr} {c0 : Cell} {d : D} (e : EnvOk K F ρ as σ H G) (hj : ρ.ce[j]? = some c0) (ha : as[j]? = some a) (hd : celD c0 = some d) : ∃ o, EnvOk K F (ρ.frzD j d) as σ H (upd G a o) ∧ Gr G as (upd G a o) as ∧ Rep K (upd G a o) d (.ref a) := by
  obtain ⟨fa, ⟨u, hu⟩, ok⟩ := e.ce j _ a hj ha
  obtain ⟨g, ra⟩ : G a = none ∧ Rep K (upd G a u) d (.ref a) := by
    cases c0 with
    | gone => cases hd
    | drw => cases hd
    | lst ds =>
      cases hd
      obtain ⟨g, vs, hv, hr⟩ := ok
      rw [hu] at hv
      cases hv
      exact ⟨g, .lst upd_same (Reps.mono (Same.new (Same.refl _) g) _ _ hr)⟩
    | ins C ns ds =>
      cases hd
      obtain ⟨g, dx, vs, hv, hl, hr⟩ := ok
      rw [hu] at hv
      cases hv
      exact ⟨g, .obj upd_same hl (Reps.mono (Same.new (Same.refl _) g) _ _ hr)⟩
  have sg : Same G (upd G a u) := Same.new (Same.refl _) g
  have hl : j < ρ.ce.length := (List.getElem?_eq_some_iff.mp hj).1
  refine ⟨u, ⟨fun b o h => ?_, e.fh, fun b o h => ?_, Same.trans e.g0 sg, e.nd, e.pr, by rw [e.ln]; exact (List.length_set).symm, fun i c b hc hb => ?_, by rw [e.sn]; exact (List.length_map _).symm, fun i av hi => ?_⟩, ⟨sg, [], by simp⟩, ra⟩
  · by_cases q : b = a
    · subst q; rw [upd_same] at h; cases h; exact hu
    · rw [upd_ne q] at h; exact e.gh _ _ h
  · by_cases q : b = a
    · subst q; exact .inr fa
    · rw [upd_ne q] at h; exact e.fg _ _ h
  · have hc' : (ρ.ce.set j .gone)[i]? = some c := hc
    by_cases hij : j = i
    · subst hij
      rw [List.getElem?_set_self hl] at hc'
      cases hc'
      rw [ha] at hb
      cases hb
      exact ⟨fa, ⟨_, hu⟩, trivial⟩
    · rw [List.getElem?_set_ne hij] at hc'
      obtain ⟨f, hu2, ok2⟩ := e.ce i c b hc' hb
      have nb : b ≠ a := fun z => by
        subst z
        exact hij ((List.getElem?_inj (List.getElem?_eq_some_iff.mp ha).1 e.nd).mp (ha.trans hb.symm))
      refine ⟨f, hu2, ?_⟩
      cases c with
      | gone => trivial
      | lst ds => obtain ⟨g, vs, h, r⟩ := ok2; exact ⟨by rw [upd_ne nb]; exact g, vs, h, Reps.mono sg _ _ r⟩
      | ins C9 ns9 ds => obtain ⟨g, dx9, vs, h, ln9, r⟩ := ok2; exact ⟨by rw [upd_ne nb]; exact g, dx9, vs, h, ln9, Reps.mono sg _ _ r⟩
      | drw => obtain ⟨g, vs, h, r⟩ := ok2; exact ⟨by rw [upd_ne nb]; exact g, vs, h, r⟩
  · have hi' : (ρ.sl.map (fun o => o.map (frzA j d)))[i]? = some (some av) := hi
    rw [List.getElem?_map] at hi'
    obtain ⟨o, ho, eo⟩ := Option.map_eq_some_iff.mp hi'
    obtain ⟨x, rfl, rfl⟩ := Option.map_eq_some_iff.mp eo
    obtain ⟨v, hv2, r⟩ := e.sl i x ho
    refine ⟨v, hv2, ?_⟩
    cases x with
    | dat d => exact Rep.mono sg _ _ r
    | cel m =>
      obtain ⟨b, hb, rfl⟩ := r
      show RepA K _ as (if m = j then .dat d else .cel m) _
      by_cases q : m = j
      · subst q
        rw [if_pos rfl]
        rw [ha] at hb
        cases hb
        exact ra
      · rw [if_neg q]
        exact ⟨b, hb, rfl⟩
theorem EnvOk.frz {as : List Addr} {σ : L2.St} {H G : Hp} {j : Nat} {a : Addr} {ds : List D} (e : EnvOk K F ρ as σ H G) (hj : ρ.ce[j]? = some (.lst ds)) (ha : as[j]? = some a) : ∃ o, EnvOk K F (ρ.frz j ds) as σ H (upd G a o) ∧ Gr G as (upd G a o) as ∧ Rep K (upd G a o) (.lst ds) (.ref a) := e.frzD hj ha rfl
/-- values that become data -/
inductive Frz : List AV → En → List D → En → Prop
  | nil {ρ : En} : Frz [] ρ [] ρ
  | dat {d : D} {xs : List AV} {ρ ρ' : En} {ds : List D} : Frz xs ρ ds ρ' → Frz (.dat d :: xs) ρ (d :: ds) ρ'
  | cel {j : Nat} {es : List D} {xs : List AV} {ρ ρ' : En} {ds : List D} : ρ.ce[j]? = some (.lst es) → Frz xs (ρ.frz j es) ds ρ' → Frz (.cel j :: xs) ρ (.lst es :: ds) ρ'
  | ins {j : Nat} {C : Addr} {ns : List Str} {es : List D} {xs : List AV} {ρ ρ' : En} {ds : List D} : ρ.ce[j]? = some (.ins C ns es) → Frz xs (ρ.frzD j (.obj C ns es)) ds ρ' → Frz (.cel j :: xs) ρ (.obj C ns es :: ds) ρ'
theorem Frz.run {xs : List AV} {ρ' : En} {ds : List D} (f : Frz xs ρ ds ρ') : ∀ {as : List Addr} {σ : L2.St} {H G : Hp} {vs : List V}, EnvOk K F ρ as σ H G → RepAs K G as xs vs → ∃ G', EnvOk K F ρ' as σ H G' ∧ Gr G as G' as ∧ Reps K G' ds vs := by
  induction f with
  | nil => intro as σ H G vs e r; cases r; exact ⟨G, e, .refl, .nil⟩
  | dat _ ih =>
    intro as σ H G vs e r
    cases r with
    | cons a b =>
      obtain ⟨G', e', g, r'⟩ := ih e b
      exact ⟨G', e', g, .cons (Rep.mono g.g _ _ a) r'⟩
  | cel hc _ ih =>
    intro as σ H G vs e r
    cases r with
    | cons a b =>
      obtain ⟨p, hp, rfl⟩ := a
      obtain ⟨ws, e1, g1, r1⟩ := e.frz hc hp
      obtain ⟨G', e', g, r'⟩ := ih e1 (b.mono g1)
      exact ⟨G', e', g1.trans g, .cons (Rep.mono g.g _ _ r1) r'⟩
  | ins hc _ ih =>
    intro as σ H G vs e r
    cases r with
    | cons a b =>
      obtain ⟨p, hp, rfl⟩ := a
      obtain ⟨ws, e1, g1, r1⟩ := e.frzD hc hp rfl
      obtain ⟨G', e', g, r'⟩ := ih e1 (b.mono g1)
      exact ⟨G', e', g1.trans g, .cons (Rep.mono g.g _ _ r1) r'⟩
theorem we_tup {t : TA} (h : WpA K F t ρ fun xs ρ1 => ∃ ds ρ2, Frz xs ρ1 ds ρ2 ∧ Nat.ble ds.length 1000 = true ∧ k (.dat (.tup ds)) ρ2) : WpE K F (tTup t) ρ k := fun as σ H G e Q q =>
  h as σ H G e _ fun xs ρ1 vs as1 H1 G1 ⟨ds, ρ2, fz, hl, hk⟩ e1 g1 r1 => by
    obtain ⟨G2, e2, g2, r2⟩ := fz.run e1 r1
    refine ⟨sz (by rw [r2.length]; exact hl), fun p hp => ?_⟩
    obtain ⟨e3, g3⟩ := e2.newG (o := .tup vs) hp
    exact q _ _ _ _ _ _ hk e3 (g1.trans (g2.trans g3)) (Rep.tup (SqT.of upd_same) (Reps.mono g3.g _ _ r2))
def En.add (ρ : En) (ds : List D) : En := ⟨ρ.sl, ρ.ce ++ [.lst ds]⟩
theorem RepA.last {as : List Addr} {G : Hp} {p : Addr} {n : Nat} (h : as.length = n) : RepA K G (as ++ [p]) (.cel n) (.ref p) := ⟨p, by rw [List.getElem?_append_right (by omega), h]; simp, rfl⟩
theorem we_lst {t : TA} (h : WpA K F t ρ fun xs ρ1 => ∃ ds ρ2, Frz xs ρ1 ds ρ2 ∧ Nat.ble ds.length 1000 = true ∧ k (.cel ρ2.ce.length) (ρ2.add ds)) : WpE K F (tLst t) ρ k := fun as σ H G e Q q =>
  h as σ H G e _ fun xs ρ1 vs as1 H1 G1 ⟨ds, ρ2, fz, hl, hk⟩ e1 g1 r1 => by
    obtain ⟨G2, e2, g2, r2⟩ := fz.run e1 r1
    refine ⟨sz (by rw [r2.length]; exact hl), fun p hp => ?_⟩
    obtain ⟨e3, g3⟩ := e2.newC hp r2
    exact q _ _ _ _ _ _ hk e3 (g1.trans (g2.trans g3)) (RepA.last e2.ln)
end
/-! ### rules of the data layer: lists that are written to, loops, comprehensions -/
section
variable {K : PySem.W.Frag} {F : Fx} {ρ : En} {k : AV → En → Prop} {kb : Bool → En → Prop} {ks : KS} {t u : TS} {ta tb te : TE} {tt tu : TT}
def lstC : Cell → Bool
  | .lst _ => true
  | .drw => true
  | _ => false
def En.cell (ρ : En) (j : Nat) (c : Cell) : En := ⟨ρ.sl, ρ.ce.set j c⟩
theorem we_bm {r : V → List V → Hp → VK → Prop} {t : TA} (h : WpE K F ta ρ fun x ρ1 => (∃ j c, x = .cel j ∧ ρ1.ce[j]? = some c ∧ lstC c = true) ∧ WpA K F t ρ1 fun xs ρ2 => WpM K F r x xs ρ2 k) : WpE K F (tBM K "list" r ta t) ρ k := fun as σ H G e Q q =>
  h as σ H G e _ fun x ρ1 vx as1 H1 G1 ⟨⟨j, c, ex, hc, hg⟩, h1⟩ e1 g1 r1 => by
    subst ex
    obtain ⟨a, ha, rfl⟩ := id r1
    refine ⟨.inl ⟨rfl, ?_⟩, h1 as1 σ H1 G1 e1 _ fun xs ρ2 vs as2 H2 G2 h2 e2 g2 r2 => h2 as2 σ H2 G2 _ vs e2 (r1.mono g2) r2 Q (q.imp (g1.trans g2) fun _ _ z => z)⟩
    obtain ⟨_, _, ok⟩ := e1.ce j c a hc ha
    cases c with
    | gone => cases hg
    | ins _ _ _ => cases hg
    | lst ds => obtain ⟨_, vs, h, _⟩ := ok; exact ⟨vs, SqL.of h⟩
    | drw => obtain ⟨_, vs, h, _⟩ := ok; exact ⟨vs, SqL.of h⟩
theorem we_bm0 {r : V → List V → Hp → VK → Prop} (h : WpE K F ta ρ fun x ρ1 => (∃ j c, x = .cel j ∧ ρ1.ce[j]? = some c ∧ lstC c = true) ∧ WpM K F r x [] ρ1 k) : WpE K F (tBM0 K "list" r ta) ρ k := fun as σ H G e Q q =>
  h as σ H G e _ fun x ρ1 vx as1 H1 G1 ⟨⟨j, c, ex, hc, hg⟩, h1⟩ e1 g1 r1 => by
    subst ex
    obtain ⟨a, ha, rfl⟩ := id r1
    refine ⟨.inl ⟨rfl, ?_⟩, h1 as1 σ H1 G1 _ [] e1 r1 .nil Q (q.imp g1 fun _ _ z => z)⟩
    obtain ⟨_, _, ok⟩ := e1.ce j c a hc ha
    cases c with
    | gone => cases hg
    | ins _ _ _ => cases hg
    | lst ds => obtain ⟨_, vs, h, _⟩ := ok; exact ⟨vs, SqL.of h⟩
    | drw => obtain ⟨_, vs, h, _⟩ := ok; exact ⟨vs, SqL.of h⟩
theorem wm_append {j : Nat} {x : AV} {ds : List D} {d : D} {ρ2 : En} (fz : Frz [x] ρ [d] ρ2) (hc : ρ2.ce[j]? = some (.lst ds)) (hl : ds.length < 16000000) (hk : k (.dat .non) (ρ2.cell j (.lst (ds ++ [d])))) : WpM K F rAppend (.cel j) [x] ρ k := fun as σ H G v vs e r1 r2 Q q => by
  obtain ⟨G2, e2, g2, r3⟩ := fz.run e r2
  obtain ⟨a, ha, rfl⟩ := r1
  cases r3 with
  | cons y z =>
    cases z
    obtain ⟨_, _, g, ws, hw, hr⟩ := e2.ce j _ a hc ha
    refine ⟨a, ws, _, rfl, rfl, hw, szbl (by rw [hr.length]; omega), q _ _ _ as _ G2 hk (e2.setC hc ha g ⟨g, _, upd_same, hr.append (.cons y .nil)⟩) g2 Rep.non⟩
theorem wm_clear {j : Nat} {ds : List D} (hc : ρ.ce[j]? = some (.lst ds)) (hk : k (.dat .non) (ρ.cell j (.lst []))) : WpM K F rClear (.cel j) [] ρ k := fun as σ H G v vs e r1 r2 Q q => by
  obtain ⟨a, ha, rfl⟩ := r1
  cases r2
  obtain ⟨_, _, g, ws, hw, hr⟩ := e.ce j _ a hc ha
  exact ⟨a, ws, rfl, rfl, hw, q _ _ _ as _ G hk (e.setC hc ha g ⟨g, _, upd_same, .nil⟩) .refl Rep.non⟩
/-- the answer is a new list -/
theorem new_list {as : List Addr} {σ : L2.St} {H G : Hp} {p : Addr} {vs : List V} {ds : List D} {Q : VK} (e : EnvOk K F ρ as σ H G) (q : Got K F ρ as σ G k Q) (hr : Reps K G ds vs) (hk : k (.cel ρ.ce.length) (ρ.add ds)) (hp : H p = none) : Q (.ref p) (upd H p (.lst vs)) := by
  obtain ⟨e3, g3⟩ := e.newC hp hr
  exact q _ _ _ _ _ _ hk e3 g3 (RepA.last e.ln)
theorem wc_list {x : AV} {ds : List D} (hx : IsL ρ x ds) (hk : k (.cel ρ.ce.length) (ρ.add ds)) : WpC K F (fun xs H Q => ∃ p ys, xs = [.ref p] ∧ (SqL K H p ys ∨ SqT K H p ys) ∧ ∀ l, H l = none → Q (.ref l) (upd H l (.lst ys))) [x] ρ k := fun as σ H G vs e r Q q => by
  cases r with
  | cons r c =>
    cases c
    obtain ⟨a, vs, rfl, hs, hr⟩ := hx.rep e r
    exact ⟨a, vs, rfl, .inl hs, fun p hp => new_list e q hr hk hp⟩
theorem wc_listT {ds : List D} (hk : k (.cel ρ.ce.length) (ρ.add ds)) : WpC K F (fun xs H Q => ∃ p ys, xs = [.ref p] ∧ (SqL K H p ys ∨ SqT K H p ys) ∧ ∀ l, H l = none → Q (.ref l) (upd H l (.lst ys))) [.dat (.tup ds)] ρ k := fun as σ H G vs e r Q q => by
  cases r with
  | cons r c =>
    cases c
    obtain ⟨a, vs, rfl, hs, hr⟩ := Rep.tupE r
    exact ⟨a, vs, rfl, .inr (Same.seqT e.gh hs), fun p hp => new_list e q hr hk hp⟩
theorem wc_tuple {x : AV} {ds : List D} (hx : IsL ρ x ds) (hk : k (.dat (.tup ds)) ρ) : WpC K F (fun xs H Q => ∃ p ys, xs = [.ref p] ∧ ((SqL K H p ys ∧ ∀ l, H l = none → Q (.ref l) (upd H l (.tup ys))) ∨ (SqT K H p ys ∧ Q (.ref p) H))) [x] ρ k := fun as σ H G vs e r Q q => by
  cases r with
  | cons r c =>
    cases c
    obtain ⟨a, vs, rfl, hs, hr⟩ := hx.rep e r
    refine ⟨a, vs, rfl, .inl ⟨hs, fun p hp => ?_⟩⟩
    obtain ⟨e3, g3⟩ := e.newG (o := .tup vs) hp
    exact q _ _ _ _ _ _ hk e3 g3 (Rep.tup (SqT.of upd_same) (Reps.mono g3.g _ _ hr))
theorem wr_cat {x y : AV} {ds es : List D} (hx : IsL ρ x ds) (hy : IsL ρ y es) (hl : ds.length + es.length ≤ 16000000) (hk : k (.cel ρ.ce.length) (ρ.add (ds ++ es))) : WpR K F (rCatF K) x y ρ k := fun as σ H G vx vy e r1 r2 Q q => by
  obtain ⟨a, vs, rfl, hs, hr⟩ := hx.rep e r1
  obtain ⟨b, ws, rfl, hs2, hr2⟩ := hy.rep e r2
  exact ⟨a, b, vs, ws, rfl, rfl, hs, hs2, szb (by rw [hr.length, hr2.length]; exact hl), fun p hp => new_list e q (hr.append hr2) hk hp⟩
/-- a list that may be copied whole: data, or a cell -/
inductive IsP (ρ : En) : AV → List D → Prop
  | dat (ds : List D) : IsP ρ (.dat (.lst ds)) ds
  | cel {j : Nat} {ds : List D} : ρ.ce[j]? = some (.lst ds) → IsP ρ (.cel j) ds
theorem IsP.rep {as : List Addr} {σ : L2.St} {H G : Hp} {x : AV} {ds : List D} {v : V} (e : EnvOk K F ρ as σ H G) (h : IsP ρ x ds) (r : RepA K G as x v) : ∃ a vs, v = .ref a ∧ H a = some (.lst vs) ∧ Reps K G ds vs := by
  cases h with
  | dat => obtain ⟨a, vs, rfl, hs, hr⟩ := Rep.lstE r; exact ⟨a, vs, rfl, e.gh _ _ hs, hr⟩
  | cel hc =>
    obtain ⟨a, ha, rfl⟩ := r
    obtain ⟨_, _, _, vs, hv, hr⟩ := e.ce _ _ a hc ha
    exact ⟨a, vs, rfl, hv, hr⟩
theorem wr_rep {x : AV} {ds : List D} {n : Int} (hx : IsP ρ x ds) (h0 : 0 ≤ n) (h1 : n < 1000000) (hl : ds.length * n.toNat ≤ 16000000) (hk : k (.cel ρ.ce.length) (ρ.add (List.replicate n.toNat ds).flatten)) : WpR K F rRep x (.dat (.int n)) ρ k := fun as σ H G vx vy e r1 r2 Q q => by
  obtain ⟨a, vs, rfl, hs, hr⟩ := hx.rep e r1
  exact ⟨a, n, vs, rfl, Rep.intE r2, hs, by omega, by omega, szb (by rw [hr.length]; exact hl), fun p hp => new_list e q (hr.rep n.toNat) hk hp⟩
theorem wm_extend {j : Nat} {x : AV} {ds es : List D} (hx : IsP ρ x es) (hc : ρ.ce[j]? = some (.lst ds)) (hl : ds.length + es.length ≤ 16000000) (hk : k (.dat .non) (ρ.cell j (.lst (ds ++ es)))) : WpM K F rExtend (.cel j) [x] ρ k := fun as σ H G v vs e r1 r2 Q q => by
  obtain ⟨a, ha, rfl⟩ := r1
  cases r2 with
  | cons r2 r3 =>
    cases r3
    obtain ⟨b, ws, rfl, hw, hr⟩ := hx.rep e r2
    obtain ⟨_, _, g, us, hu, hr2⟩ := e.ce j _ a hc ha
    exact ⟨a, b, us, ws, rfl, rfl, hu, hw, szb (by rw [hr.length, hr2.length]; omega), q _ _ _ as _ G hk (e.setC hc ha g ⟨g, _, upd_same, hr2.append hr⟩) .refl Rep.non⟩
def cutD (xs : List D) (lo hi : Option Int) : List D := (xs.drop (HT.sIx xs.length 0 lo)).take (HT.sIx xs.length xs.length hi - HT.sIx xs.length 0 lo)
theorem Reps.cut {G : Hp} {ds : List D} {vs : List V} (h : Reps K G ds vs) (lo hi : Option Int) : Reps K G (cutD ds lo hi) (cutV vs lo hi) := by
  unfold cutD cutV
  rw [h.length]
  exact (h.drop _).take _
def WpO (K : PySem.W.Frag) (F : Fx) (t : TO) (ρ : En) (k : Option Int → En → Prop) : Prop := ∀ as σ H G, EnvOk K F ρ as σ H G → ∀ Q : Option Int → Hp → Prop, (∀ b ρ' as' H' G', k b ρ' → EnvOk K F ρ' as' σ H' G' → Gr G as G' as' → Q b H') → t σ H Q
theorem wo_none {ko : Option Int → En → Prop} (h : ko none ρ) : WpO K F tNoPart ρ ko := fun as σ H G e Q q => q _ _ _ _ _ h e .refl
theorem wo_some {ko : Option Int → En → Prop} (h : WpE K F te ρ fun x ρ1 => ∃ i, x = .dat (.int i) ∧ ko (some i) ρ1) : WpO K F (tPart te) ρ ko := fun as σ H G e Q q =>
  h as σ H G e _ fun x ρ1 vx as1 H1 G1 ⟨c, ex, hc⟩ e1 g1 r1 => by
    subst ex
    exact ⟨c, Rep.intE r1, q _ _ _ _ _ hc e1 g1⟩
theorem we_slL {tl th : TO} (h : WpE K F te ρ fun x ρ1 => WpO K F tl ρ1 fun lo ρ2 => WpO K F th ρ2 fun hi ρ3 => ∃ ds, IsL ρ3 x ds ∧ k (.cel ρ3.ce.length) (ρ3.add (cutD ds lo hi))) : WpE K F (tSl (rSlL K) te tl th) ρ k := fun as σ H G e Q q =>
  h as σ H G e _ fun x ρ1 vx as1 H1 G1 h1 e1 g1 r1 => h1 as1 σ H1 G1 e1 _ fun lo ρ2 as2 H2 G2 h2 e2 g2 => h2 as2 σ H2 G2 e2 _ fun hi ρ3 as3 H3 G3 ⟨ds, hd, h3⟩ e3 g3 => by
    obtain ⟨a, vs, rfl, hs, hr⟩ := hd.rep e3 (r1.mono (g2.trans g3))
    exact ⟨a, vs, rfl, hs, fun p hp => new_list e3 (q.imp (g1.trans (g2.trans g3)) fun _ _ z => z) (hr.cut lo hi) h3 hp⟩
/-! what is walked -/
def ItS (K : PySem.W.Frag) (F : Fx) (J : It) (ds : List D) (gd : En → Prop) (as0 : List Addr) (G0 : Hp) : Prop := ∀ ρ as σ H G, EnvOk K F ρ as σ H G → Gr G0 as0 G as → gd ρ →
  (∀ i, i < ds.length → J.go i H) ∧ J.stop ds.length H ∧ ∀ i x H', i < ds.length → J.yld i H x H' → ∃ d G', ds[i]? = some d ∧ (∀ σ', EnvOk K F ρ as σ' H G → EnvOk K F ρ as σ' H' G') ∧ Gr G as G' as ∧ Rep K G' d x
def WpI (K : PySem.W.Frag) (F : Fx) (wi : TI) (ρ : En) (k : List D → (En → Prop) → En → Prop) : Prop := ∀ as σ H G, EnvOk K F ρ as σ H G → ∀ R : It → Hp → Prop, (∀ ds gd J ρ' as' H' G', k ds gd ρ' → EnvOk K F ρ' as' σ H' G' → Gr G as G' as' → ItS K F J ds gd as' G' → R J H') → wi σ H R
theorem wi_list {ki : List D → (En → Prop) → En → Prop} {tl : TE} (h : WpE K F tl ρ fun x ρ1 => ∃ ds, IsL ρ1 x ds ∧ ki ds (fun ρ2 => IsL ρ2 x ds) ρ1) : WpI K F (iList K tl) ρ ki := fun as σ H G e R q =>
  h as σ H G e _ fun x ρ1 vx as1 H1 G1 ⟨ds, hx, h1⟩ e1 g1 r1 => by
    obtain ⟨a, vs, rfl, hs, hr⟩ := hx.rep e1 r1
    refine ⟨a, rfl, ⟨vs, hs⟩, q _ _ _ _ _ _ _ h1 e1 g1 fun ρ2 as2 σ2 H2 G2 e2 g2 hx2 => ?_⟩
    obtain ⟨a2, ws, ea, hs2, hr2⟩ := hx2.rep e2 (r1.mono g2)
    cases ea
    have w := walk_list (K := K) (a := a) (xs := ws)
    rw [hr2.length] at w
    refine ⟨fun i hi => w.goes i H2 hi hs2, w.stops H2 hs2, fun i x H' hi y => ?_⟩
    obtain ⟨rfl, hx⟩ := w.yields i H2 x H' hi hs2 y
    obtain ⟨d, hd⟩ : ∃ d, ds[i]? = some d := ⟨_, List.getElem?_eq_getElem hi⟩
    obtain ⟨v, hv, rv⟩ := hr2.get hd
    rw [hx] at hv
    cases hv
    exact ⟨d, G2, hd, fun _ z => z, .refl, rv⟩
theorem wi_tup {ki : List D → (En → Prop) → En → Prop} {tl : TE} (h : WpE K F tl ρ fun x ρ1 => ∃ ds, x = .dat (.tup ds) ∧ ki ds (fun _ => True) ρ1) : WpI K F (iTup K tl) ρ ki := fun as σ H G e R q =>
  h as σ H G e _ fun x ρ1 vx as1 H1 G1 ⟨ds, ex, h1⟩ e1 g1 r1 => by
    subst ex
    obtain ⟨a, vs, rfl, hs, hr⟩ := Rep.tupE r1
    refine ⟨a, rfl, ⟨vs, Same.seqT e1.gh hs⟩, q _ _ _ _ _ _ _ h1 e1 g1 fun ρ2 as2 σ2 H2 G2 e2 g2 _ => ?_⟩
    have hs2 := Same.seqT (Same.trans g2.g e2.gh) hs
    have w := walk_tup (K := K) (a := a) (xs := vs)
    rw [hr.length] at w
    refine ⟨fun i hi => w.goes i H2 hi hs2, w.stops H2 hs2, fun i x H' hi y => ?_⟩
    obtain ⟨rfl, hx⟩ := w.yields i H2 x H' hi hs2 y
    obtain ⟨d, hd⟩ : ∃ d, ds[i]? = some d := ⟨_, List.getElem?_eq_getElem hi⟩
    obtain ⟨v, hv, rv⟩ := hr.get hd
    rw [hx] at hv
    cases hv
    exact ⟨d, G2, hd, fun _ z => z, .refl, Rep.mono g2.g _ _ rv⟩
def rngD (lo : Int) (n : Nat) : List D := (List.range n).map fun (i : Nat) => D.int (lo + i)
theorem its_range {lo : Int} {n : Nat} {as : List Addr} {G : Hp} : ItS K F (Itr lo n) (rngD lo n) (fun _ => True) as G := fun ρ2 as2 σ2 H2 G2 e2 g2 _ => by
  have w := walk_range (lo := lo) (n := n)
  have ln : (rngD lo n).length = n := by unfold rngD; rw [List.length_map, List.length_range]
  refine ⟨fun i hi => w.goes i H2 (ln ▸ hi) trivial, by rw [ln]; exact w.stops H2 trivial, fun i x H' hi y => ?_⟩
  obtain ⟨rfl, rfl⟩ := w.yields i H2 x H' (ln ▸ hi) trivial y
  exact ⟨.int (lo + i), G2, by unfold rngD; rw [List.getElem?_map, List.getElem?_range (ln ▸ hi)]; rfl, fun _ z => z, .refl, Rep.int _⟩
theorem wi_rng1 {ki : List D → (En → Prop) → En → Prop} {t : TA} (h : WpA K F t ρ fun xs ρ1 => ∃ j : Int, xs = [.dat (.int j)] ∧ (-(2 ^ 62) ≤ j ∧ j < 2 ^ 62) ∧ ki (rngD 0 j.toNat) (fun _ => True) ρ1) : WpI K F (iRng1 t) ρ ki := fun as σ H G e R q =>
  h as σ H G e _ fun xs ρ1 vs as1 H1 G1 ⟨j, ex, hj, h1⟩ e1 g1 r1 => by
    subst ex
    cases r1 with
    | cons a b => cases b; exact ⟨j, by rw [Rep.intE a], hj.1, hj.2, q _ _ _ _ _ _ _ h1 e1 g1 its_range⟩
theorem wi_rng2 {ki : List D → (En → Prop) → En → Prop} {t : TA} (h : WpA K F t ρ fun xs ρ1 => ∃ i j : Int, xs = [.dat (.int i), .dat (.int j)] ∧ (-(2 ^ 62) ≤ i ∧ i < 2 ^ 62 ∧ -(2 ^ 62) ≤ j ∧ j < 2 ^ 62) ∧ ki (rngD i (j - i).toNat) (fun _ => True) ρ1) : WpI K F (iRng2 t) ρ ki := fun as σ H G e R q =>
  h as σ H G e _ fun xs ρ1 vs as1 H1 G1 ⟨i, j, ex, hj, h1⟩ e1 g1 r1 => by
    subst ex
    cases r1 with
    | cons a b => cases b with | cons b c => cases c; exact ⟨i, j, by rw [Rep.intE a, Rep.intE b], hj, q _ _ _ _ _ _ _ h1 e1 g1 its_range⟩
/-! for -/
/-- cells that a turn made are forgotten -/
def truA (n : Nat) : AV → Option AV
  | .cel j => if j < n then some (.cel j) else none
  | x => some x
theorem pre_take {α : Type} {xs ys : List α} {n : Nat} (h : xs <+: ys) (hn : xs.length ≤ n) : xs <+: ys.take n := by
  obtain ⟨r, rfl⟩ := h
  rw [List.take_append, List.take_of_length_le hn]
  exact List.prefix_append _ _
def En.trunc (ρ : En) (n : Nat) : En := ⟨ρ.sl.map (fun o => o.bind (truA n)), ρ.ce.take n⟩
theorem EnvOk.trunc {as : List Addr} {σ : L2.St} {H G : Hp} (e : EnvOk K F ρ as σ H G) (n : Nat) (hn : F.as0.length ≤ n) : EnvOk K F (ρ.trunc n) (as.take n) σ H G := by
  refine ⟨e.gh, e.fh, e.fg, e.g0, List.Nodup.sublist (List.take_sublist n as) e.nd, pre_take e.pr hn, ?_, fun j c a hc ha => ?_, ?_, fun i av hi => ?_⟩
  · show (as.take n).length = (ρ.ce.take n).length
    rw [List.length_take, List.length_take, e.ln]
  · have hc : (ρ.ce.take n)[j]? = some c := hc
    rw [List.getElem?_take] at hc ha
    split at hc
    · rename_i h
      rw [if_pos h] at ha
      exact e.ce j c a hc ha
    · cases hc
  · show σ.length = (ρ.sl.map _).length
    rw [List.length_map]
    exact e.sn
  · have hi : (ρ.sl.map (fun o => o.bind (truA n)))[i]? = some (some av) := hi
    rw [List.getElem?_map] at hi
    obtain ⟨o, ho, eo⟩ := Option.map_eq_some_iff.mp hi
    obtain ⟨x, rfl, ex⟩ := Option.bind_eq_some_iff.mp eo
    obtain ⟨v, hv, r⟩ := e.sl i x ho
    refine ⟨v, hv, ?_⟩
    cases x with
    | dat d => cases ex; exact r
    | cel j =>
      have ex : (if j < n then some (AV.cel j) else none) = some av := ex
      split at ex
      · rename_i h
        cases ex
        obtain ⟨a, ha, rfl⟩ := r
        exact ⟨a, by rw [List.getElem?_take, if_pos h]; exact ha, rfl⟩
      · cases ex
theorem Gr.trunc {G0 G : Hp} {as0 as : List Addr} {n : Nat} (g : Gr G0 as0 G as) (h : as0.length ≤ n) : Gr G0 as0 G (as.take n) := by
  obtain ⟨g, r, rfl⟩ := g
  exact ⟨g, r.take (n - as0.length), by rw [List.take_append, List.take_of_length_le h]⟩
/-- .. all but one, which is then the next -/
def kepA (n j : Nat) : AV → Option AV
  | .cel i => if i = j then some (.cel n) else if i < n then some (.cel i) else none
  | x => some x
def En.keep (ρ : En) (n j : Nat) : En := ⟨ρ.sl.map (fun o => o.bind (kepA n j)), ρ.ce.take n ++ (ρ.ce[j]?).toList⟩
theorem EnvOk.keep {as : List Addr} {σ : L2.St} {H G : Hp} (e : EnvOk K F ρ as σ H G) {n j : Nat} (hn : F.as0.length ≤ n) (h1 : n ≤ j) (h2 : j < ρ.ce.length) : EnvOk K F (ρ.keep n j) (as.take n ++ (as[j]?).toList) σ H G := by
  have ja : j < as.length := by rw [e.ln]; exact h2
  have ea : as[j]? = some as[j] := List.getElem?_eq_getElem ja
  have ec : ρ.ce[j]? = some ρ.ce[j] := List.getElem?_eq_getElem h2
  have la : (as.take n).length = n := by rw [List.length_take]; omega
  have lc : (ρ.ce.take n).length = n := by rw [List.length_take]; omega
  have at_a : ∀ i, (as.take n ++ (as[j]?).toList)[i]? = if i < n then as[i]? else if i = n then some as[j] else none := fun i => by
    rw [ea]
    by_cases c : i < n
    · rw [if_pos c, List.getElem?_append_left (by rw [la]; exact c), List.getElem?_take, if_pos c]
    · rw [if_neg c, List.getElem?_append_right (by rw [la]; omega), la]
      by_cases c2 : i = n
      · rw [if_pos c2, c2, Nat.sub_self]; rfl
      · rw [if_neg c2]
        exact List.getElem?_eq_none (by show 1 ≤ i - n; omega)
  have at_c : ∀ i, (ρ.ce.take n ++ (ρ.ce[j]?).toList)[i]? = if i < n then ρ.ce[i]? else if i = n then some ρ.ce[j] else none := fun i => by
    rw [ec]
    by_cases c : i < n
    · rw [if_pos c, List.getElem?_append_left (by rw [lc]; exact c), List.getElem?_take, if_pos c]
    · rw [if_neg c, List.getElem?_append_right (by rw [lc]; omega), lc]
      by_cases c2 : i = n
      · rw [if_pos c2, c2, Nat.sub_self]; rfl
      · rw [if_neg c2]
        exact List.getElem?_eq_none (by show 1 ≤ i - n; omega)
  have sub : (as.take n ++ (as[j]?).toList).Sublist as := by
    rw [ea]
    conv => rhs; rw [← List.take_append_drop n as]
    refine List.Sublist.append (List.Sublist.refl _) (List.singleton_sublist.mpr ?_)
    refine List.mem_of_getElem? (i := j - n) ?_
    rw [List.getElem?_drop, show n + (j - n) = j by omega]
    exact ea
  refine ⟨e.gh, e.fh, e.fg, e.g0, List.Nodup.sublist sub e.nd, (pre_take e.pr hn).trans (List.prefix_append _ _), ?_, fun i c a hc ha => ?_, ?_, fun i av hi => ?_⟩
  · show (as.take n ++ _).length = (ρ.ce.take n ++ _).length
    rw [List.length_append, List.length_append, la, lc, ea, ec]; rfl
  · have hc : (ρ.ce.take n ++ (ρ.ce[j]?).toList)[i]? = some c := hc
    rw [at_c] at hc
    rw [at_a] at ha
    split at hc
    · rename_i h
      rw [if_pos h] at ha
      exact e.ce i c a hc ha
    · rename_i h
      rw [if_neg h] at ha
      split at hc
      · rename_i h3
        rw [if_pos h3] at ha
        exact e.ce j c a (ec.trans hc) (ea.trans ha)
      · cases hc
  · show σ.length = (ρ.sl.map _).length
    rw [List.length_map]
    exact e.sn
  · have hi : (ρ.sl.map (fun o => o.bind (kepA n j)))[i]? = some (some av) := hi
    rw [List.getElem?_map] at hi
    obtain ⟨o, ho, eo⟩ := Option.map_eq_some_iff.mp hi
    obtain ⟨x, rfl, ex⟩ := Option.bind_eq_some_iff.mp eo
    obtain ⟨v, hv, r⟩ := e.sl i x ho
    refine ⟨v, hv, ?_⟩
    cases x with
    | dat d => cases ex; exact r
    | cel k =>
      have ex : (if k = j then some (AV.cel n) else if k < n then some (AV.cel k) else none) = some av := ex
      obtain ⟨a, ha, rfl⟩ := r
      split at ex
      · rename_i h
        cases ex
        subst h
        exact ⟨a, by rw [at_a, if_neg (Nat.lt_irrefl _), if_pos rfl]; exact ea.symm.trans ha, rfl⟩
      · split at ex
        · rename_i h
          cases ex
          exact ⟨a, by rw [at_a, if_pos h]; exact ha, rfl⟩
        · cases ex
theorem Gr.keep {G0 G : Hp} {as0 as r : List Addr} {n : Nat} (g : Gr G0 as0 G as) (h : as0.length ≤ n) : Gr G0 as0 G (as.take n ++ r) := by
  obtain ⟨g, s, rfl⟩ := g
  exact ⟨g, s.take (n - as0.length) ++ r, by rw [List.take_append, List.take_of_length_le h, List.append_assoc]⟩
/-- a turn's end: as it is, or without the turn's own cells -/
inductive Tr (n : Nat) (ρ : En) : En → Prop
  | all : Tr n ρ ρ
  | cut : Tr n ρ (ρ.trunc n)
  | keep (j : Nat) (h1 : n ≤ j) (h2 : j < ρ.ce.length) : Tr n ρ (ρ.keep n j)
theorem Tr.run {n : Nat} {ρ' : En} {as as0 : List Addr} {σ : L2.St} {H G G0 : Hp} (t : Tr n ρ ρ') (e : EnvOk K F ρ as σ H G) (g : Gr G0 as0 G as) (h : as0.length ≤ n) (h0 : F.as0.length ≤ n) : ∃ as', EnvOk K F ρ' as' σ H G ∧ Gr G0 as0 G as' := by
  cases t with
  | all => exact ⟨as, e, g⟩
  | cut => exact ⟨_, e.trunc n h0, g.trunc h⟩
  | keep j h1 h2 => exact ⟨_, e.keep h0 h1 h2, g.keep h⟩
def Loop (K : PySem.W.Frag) (F : Fx) (n : Nat) (gd : En → Prop) (g : TG) (tb : TS) (ks : KS) : List D → En → Prop
  | [], ρ => gd ρ ∧ ks.nx ρ
  | d :: ds, ρ => gd ρ ∧ WpG K F g (.dat d) ρ fun ρ1 => WpS K F tb ρ1 { nx := fun ρ2 => ∃ ρ3, Tr n ρ2 ρ3 ∧ Loop K F n gd g tb ks ds ρ3, rt := ks.rt, ct := fun ρ2 => ∃ ρ3, Tr n ρ2 ρ3 ∧ Loop K F n gd g tb ks ds ρ3, bk := ks.nx }
theorem Loop.gd {n : Nat} {gd : En → Prop} {g : TG} {tb : TS} : ∀ {ds : List D} {ρ : En}, Loop K F n gd g tb ks ds ρ → gd ρ
  | [], _, h => h.1
  | _ :: _, _, h => h.1
theorem ws_for {wi : TI} {g : TG} {tb : TS} (h : WpI K F wi ρ fun ds gd ρ1 => Loop K F ρ1.ce.length gd g tb ks ds ρ1) : WpS K F (tFor wi g tb) ρ ks := fun as σ H G e D q =>
  h as σ H G e _ fun ds gd J ρ1 as1 H1 G1 h1 e1 g1 its => by
    have ln1 : as1.length ≤ ρ1.ce.length := by rw [e1.ln]; exact Nat.le_refl _
    have ln0 : F.as0.length ≤ ρ1.ce.length := Nat.le_trans e1.pr.length_le ln1
    refine ⟨fun i m σ' H' => m = ds.length - i ∧ i ≤ ds.length ∧ ∃ ρ2 as2 G2, EnvOk K F ρ2 as2 σ' H' G2 ∧ Gr G1 as1 G2 as2 ∧ Loop K F ρ1.ce.length gd g tb ks (ds.drop i) ρ2, ⟨_, rfl, Nat.zero_le _, ρ1, as1, G1, e1, .refl, h1⟩, ?_⟩
    rintro i m σ' H' ⟨rfl, hi, ρ2, as2, G2, e2, g2, lp⟩
    obtain ⟨go, st, yl⟩ := its ρ2 as2 σ' H' G2 e2 g2 lp.gd
    by_cases hlt : i < ds.length
    · obtain ⟨d, hd⟩ : ∃ d, ds[i]? = some d := ⟨_, List.getElem?_eq_getElem hlt⟩
      have ed : ds.drop i = d :: ds.drop (i + 1) := by
        rw [List.drop_eq_getElem_cons hlt]
        rw [List.getElem?_eq_getElem hlt] at hd
        cases hd
        rfl
      rw [ed] at lp
      refine .inr ⟨go i hlt, fun σ3 H3 => ∃ ρ3 as3 G3, EnvOk K F ρ3 as3 σ3 H3 G3 ∧ Gr G1 as1 G3 as3 ∧ Loop K F ρ1.ce.length gd g tb ks (ds.drop (i + 1)) ρ3, fun σ3 H3 ⟨ρ3, as3, G3, e3, g3, l3⟩ => ⟨_, by omega, rfl, hlt, ρ3, as3, G3, e3, g3, l3⟩, fun x H3 y => ?_⟩
      obtain ⟨d', G3, hd', e3, g3, rx⟩ := yl i x H3 hlt y
      rw [hd] at hd'
      cases hd'
      refine lp.2 as2 σ' H3 G3 x (e3 _ e2) rx _ fun ρ4 as4 σ4 H4 G4 h4 e4 g4 => ?_
      refine h4 as4 σ4 H4 G4 e4 _ ⟨fun ρ5 as5 σ5 H5 G5 ⟨ρ6, tr, h5⟩ e5 g5 => ?_, fun av ρ5 v as5 σ5 H5 G5 h5 e5 g5 r5 => q.rt av ρ5 v as5 σ5 H5 G5 h5 e5 (g1.trans (g2.trans (g3.trans (g4.trans g5)))) r5, fun ρ5 as5 σ5 H5 G5 h5 e5 g5 => q.nx ρ5 as5 σ5 H5 G5 h5 e5 (g1.trans (g2.trans (g3.trans (g4.trans g5)))), fun ρ5 as5 σ5 H5 G5 ⟨ρ6, tr, h5⟩ e5 g5 => ?_, q.fr⟩
      · obtain ⟨as6, e6, g6⟩ := tr.run e5 (g2.trans (g3.trans (g4.trans g5))) ln1 ln0
        exact ⟨ρ6, as6, G5, e6, g6, h5⟩
      · obtain ⟨as6, e6, g6⟩ := tr.run e5 (g2.trans (g3.trans (g4.trans g5))) ln1 ln0
        exact ⟨ρ6, as6, G5, e6, g6, h5⟩
    · have ei : i = ds.length := by omega
      subst ei
      rw [List.drop_length] at lp
      exact .inl ⟨st, q.nx ρ2 as2 σ' H' G2 lp.2 e2 (g1.trans g2)⟩
/-! while -/
theorem ws_while {tc : TT} {tb : TS} (W : Nat → En → Prop) (m0 : Nat) (h0 : W m0 ρ) (hs : ∀ m ρ1, W m ρ1 → WpT K F tc ρ1 fun b ρ2 => if b = true then WpS K F tb ρ2 { nx := fun ρ3 => ∃ m', m' < m ∧ W m' ρ3, rt := ks.rt, ct := fun ρ3 => ∃ m', m' < m ∧ W m' ρ3, bk := ks.nx } else ks.nx ρ2) : WpS K F (tWhile tc tb) ρ ks := fun as σ H G e D q => by
  refine ⟨fun m σ' H' => ∃ ρ2 as2 G2, EnvOk K F ρ2 as2 σ' H' G2 ∧ Gr G as G2 as2 ∧ W m ρ2, ⟨m0, ρ, as, G, e, .refl, h0⟩, ?_⟩
  rintro m σ' H' ⟨ρ2, as2, G2, e2, g2, hw⟩
  refine hs m ρ2 hw as2 σ' H' G2 e2 _ fun b ρ3 as3 H3 G3 h3 e3 g3 => ?_
  cases b with
  | true =>
    refine ⟨fun σ4 H4 => ∃ m', m' < m ∧ ∃ ρ4 as4 G4, EnvOk K F ρ4 as4 σ4 H4 G4 ∧ Gr G as G4 as4 ∧ W m' ρ4, fun σ4 H4 z => z, ?_⟩
    refine (show WpS K F tb ρ3 _ from h3) as3 σ' H3 G3 e3 _ ⟨fun ρ4 as4 σ4 H4 G4 ⟨m', hm, w4⟩ e4 g4 => ⟨m', hm, ρ4, as4, G4, e4, g2.trans (g3.trans g4), w4⟩, fun av ρ4 v as4 σ4 H4 G4 h4 e4 g4 r4 => q.rt av ρ4 v as4 σ4 H4 G4 h4 e4 (g2.trans (g3.trans g4)) r4, fun ρ4 as4 σ4 H4 G4 h4 e4 g4 => q.nx ρ4 as4 σ4 H4 G4 h4 e4 (g2.trans (g3.trans g4)), fun ρ4 as4 σ4 H4 G4 ⟨m', hm, w4⟩ e4 g4 => ⟨m', hm, ρ4, as4, G4, e4, g2.trans (g3.trans g4), w4⟩, q.fr⟩
  | false => exact q.nx ρ3 as3 σ' H3 G3 h3 e3 (g2.trans g3)
end
/-! ### rules of the data layer: promises and calls -/
inductive RV where
  | dat (d : D)
  | new (ds : List D)
def FrX (as : List Addr) (H H' : Hp) : Prop := ∀ a o, a ∉ as → H a = some o → H' a = some o
def NewG (H G G' : Hp) : Prop := ∀ a o, G' a = some o → G a = some o ∨ H a = none
def noGone : List Cell → Bool
  | [] => true
  | .gone :: _ => false
  | .lst _ :: r => noGone r
  | .drw :: r => noGone r
  | .ins _ _ _ :: r => noGone r
structure CellsOk (K : PySem.W.Frag) (G H : Hp) (as : List Addr) (cs : List Cell) : Prop where
  ln : as.length = cs.length
  nd : as.Nodup
  ok : ∀ (j : Nat) (c : Cell) (a : Addr), cs[j]? = some c → as[j]? = some a → (∃ o, H a = some o) ∧ CellOk K G H a c
def RepR (K : PySem.W.Frag) (H G' H' : Hp) : RV → V → Prop
  | .dat d, v => Rep K G' d v
  | .new ds, v => ∃ a vs, v = .ref a ∧ H a = none ∧ G' a = none ∧ H' a = some (.lst vs) ∧ Reps K G' ds vs
abbrev PW0 := List AV → List Cell → (RV → List Cell → Prop) → (Addr → Prop) → Prop
/-- a def's promise by data: W tells what is asked of the arguments and what comes -/
def spG (K : PySem.W.Frag) (W : PW0) : Sp := fun vs H Q E => ∃ G as xs cs post exc, Same G H ∧ CellsOk K G H as cs ∧ RepAs K G as xs vs ∧ W xs cs post exc ∧
  (∀ r cs' v H' G', post r cs' → FrX as H H' → Same G G' → Same G' H' → NewG H G G' → CellsOk K G' H' as cs' → RepR K H G' H' r v → Q v H') ∧ (∀ C H', exc C → FrX as H H' → E (.ref C) none H')
section
variable {K : PySem.W.Frag} {F : Fx} {ρ : En} {k : AV → En → Prop} {kb : Bool → En → Prop} {ks : KS} {t u : TS} {ta tb te : TE} {tt tu : TT}
/-- what a def hands back: data, or a list that it made -/
inductive FinR (n : Nat) (ρ : En) : AV → RV → Prop
  | dat (d : D) : FinR n ρ (.dat d) (.dat d)
  | cel {j : Nat} {ds : List D} : n ≤ j → ρ.ce[j]? = some (.lst ds) → FinR n ρ (.cel j) (.new ds)
def KS.fin (n : Nat) (post : RV → List Cell → Prop) : KS where
  nx := fun ρ => noGone (ρ.ce.take n) = true ∧ post (.dat .non) (ρ.ce.take n)
  rt := fun x ρ => ∃ r, FinR n ρ x r ∧ noGone (ρ.ce.take n) = true ∧ post r (ρ.ce.take n)
theorem noGone_at {cs : List Cell} (h : noGone cs = true) : ∀ {j : Nat}, cs[j]? ≠ some .gone := by
  induction cs with
  | nil => intro j e; simp at e
  | cons c cs ih =>
    intro j e
    cases j with
    | zero => simp at e; subst e; rw [noGone] at h; cases h
    | succ j =>
      have h' : noGone cs = true := by
        cases c <;> first | (rw [noGone] at h; exact h) | (rw [noGone] at h; cases h)
      exact ih h' (by simpa using e)
theorem CellOk.none {G H : Hp} {a : Addr} {c : Cell} (h : CellOk K G H a c) (n : c ≠ .gone) : G a = none := by
  cases c with
  | gone => exact absurd rfl n
  | lst ds => exact h.1
  | drw => exact h.1
  | ins C ns ds => exact h.1
theorem RepAs.get {G : Hp} {as : List Addr} {xs : List AV} {vs : List V} (h : RepAs K G as xs vs) : ∀ {i : Nat} {x : AV}, xs[i]? = some x → ∃ v, vs[i]? = some v ∧ RepA K G as x v := by
  induction h with
  | nil => intro i x e; simp at e
  | cons a _ ih =>
    intro i x e
    cases i with
    | zero => simp at e; subst e; exact ⟨_, rfl, a⟩
    | succ i => obtain ⟨v, q, r⟩ := ih (i := i) (by simpa using e); exact ⟨v, by simpa using q, r⟩
/-- the slots at a def's begin -/
def En.start (n : Nat) (xs : List AV) (cs : List Cell) : En := ⟨xs.map some ++ List.replicate (n - xs.length) none, cs⟩
/-- a def's body by data -/
theorem enterG {N : List Str} {W : PW0} {vs : List V} {H : Hp} {Q : VK} {E : XK} {t : TS} (frv : V → Prop) (hfr : ∀ v H', frv v → Q v H') (h : spG K W vs H Q E) (body : ∀ F xs cs post, F.fr = frv → F.E = E → RepAs K F.G0 F.as0 xs vs → W xs cs post F.ex → WpS K F t (En.start N.length xs cs) (KS.fin cs.length post)) : t { nx := fun _ H' => Q .non H', rt := Q } (L2.start N vs) H := by
  obtain ⟨G, as, xs, cs, post, exc, gh, ok, rx, hw, hq, he⟩ := h
  have fr : ∀ H', Same (fun a => if a ∈ as then none else H a) H' → FrX as H H' := fun H' s a o na ha => s a o (by show (if a ∈ as then none else H a) = some o; rw [if_neg na]; exact ha)
  let F : Fx := ⟨fun a => if a ∈ as then none else H a, G, E, exc, fun C H' hc s => he C H' hc (fr H' s), frv, as⟩
  have ln := rx.length
  have e0 : EnvOk K F (En.start N.length xs cs) as (L2.start N vs) H G := by
    refine ⟨gh, fun a o h => ?_, fun a o h => .inl h, Same.refl _, ok.nd, List.prefix_refl _, ok.ln, fun j c a hc ha => ?_, ?_, fun i av hi => ?_⟩
    · have h' : (if a ∈ as then none else H a) = some o := h
      by_cases q : a ∈ as
      · rw [if_pos q] at h'; cases h'
      · rw [if_neg q] at h'; exact h'
    · refine ⟨?_, ok.ok j c a hc ha⟩
      show (if a ∈ as then none else H a) = none
      rw [if_pos (List.mem_of_getElem? ha)]
    · show (vs.map some ++ List.replicate (N.length - vs.length) none).length = (xs.map some ++ List.replicate (N.length - xs.length) none).length
      simp only [List.length_append, List.length_map, List.length_replicate]
      omega
    · have hi' : (xs.map some ++ List.replicate (N.length - xs.length) none)[i]? = some (some av) := hi
      by_cases q : i < xs.length
      · rw [List.getElem?_append_left (by rw [List.length_map]; exact q), List.getElem?_map] at hi'
        obtain ⟨x, hx, ex⟩ := Option.map_eq_some_iff.mp hi'
        cases ex
        obtain ⟨v, hv, r⟩ := rx.get hx
        refine ⟨v, ?_, r⟩
        show (vs.map some ++ List.replicate (N.length - vs.length) none)[i]? = some (some v)
        rw [List.getElem?_append_left (by rw [List.length_map]; omega), List.getElem?_map, hv]
        rfl
      · rw [List.getElem?_append_right (by rw [List.length_map]; omega), List.getElem?_replicate] at hi'
        split at hi' <;> cases hi'
  -- how it ends
  have fin : ∀ {ρ' : En} {as' : List Addr} {σ' : L2.St} {H' G' : Hp} {r : RV} {v : V}, EnvOk K F ρ' as' σ' H' G' → Gr G as G' as' → noGone (ρ'.ce.take cs.length) = true → post r (ρ'.ce.take cs.length) → RepR K H G' H' r v → Q v H' := by
    intro ρ' as' σ' H' G' r v e g ng hp rr
    obtain ⟨sg, rs, ea⟩ := g
    have lc : cs.length ≤ ρ'.ce.length := by rw [← e.ln, ea, List.length_append, ok.ln]; omega
    have lt : as.length = (ρ'.ce.take cs.length).length := by rw [List.length_take, ok.ln]; omega
    have ce : ∀ (j : Nat) (c : Cell) (a : Addr), (ρ'.ce.take cs.length)[j]? = some c → as[j]? = some a → ρ'.ce[j]? = some c ∧ as'[j]? = some a := fun j c a hc ha => by
      have hj : j < as.length := (List.getElem?_eq_some_iff.mp ha).1
      refine ⟨?_, by rw [ea, List.getElem?_append_left hj]; exact ha⟩
      rw [List.getElem?_take] at hc
      rw [if_pos (by rw [← ok.ln]; exact hj)] at hc
      exact hc
    refine hq r _ v H' G' hp (fr H' e.fh) sg e.gh (fun a o ha => ?_) ⟨lt, ok.nd, fun j c a hc ha => ?_⟩ rr
    · rcases e.fg a o ha with z | z
      · exact .inl z
      · refine .inr ?_
        have z' : (if a ∈ as then none else H a) = none := z
        by_cases q : a ∈ as
        · exfalso
          obtain ⟨j, hj⟩ := List.getElem?_of_mem q
          have hl : j < (ρ'.ce.take cs.length).length := by rw [← lt]; exact (List.getElem?_eq_some_iff.mp hj).1
          have hc := List.getElem?_eq_getElem hl
          obtain ⟨h1, h2⟩ := ce j _ a hc hj
          obtain ⟨_, _, okc⟩ := e.ce j _ a h1 h2
          have gn := CellOk.none okc fun z => noGone_at ng (by rw [hc, z])
          rw [gn] at ha
          cases ha
        · rw [if_neg q] at z'; exact z'
    · obtain ⟨h1, h2⟩ := ce j c a hc ha
      exact (e.ce j c a h1 h2).2
  refine body F xs cs post rfl rfl rx hw as _ H G e0 _ ⟨fun ρ' as' σ' H' G' ⟨ng, hp⟩ e g => fin (r := .dat .non) e g ng hp Rep.non, fun av ρ' v as' σ' H' G' ⟨r, fr', ng, hp⟩ e g ra => ?_, fun ρ' as' σ' H' G' h _ _ => h.elim, fun ρ' as' σ' H' G' h _ _ => h.elim, fun v H' z => hfr v H' z⟩
  cases fr' with
  | dat d => exact fin (r := .dat d) e g ng hp ra
  | @cel j ds nj hc =>
    obtain ⟨a, ha, rfl⟩ := ra
    refine fin (r := .new ds) e g ng hp ?_
    obtain ⟨fa, _, ga, ws, hw2, hr⟩ := e.ce j _ a hc ha
    refine ⟨a, ws, rfl, ?_, ga, hw2, hr⟩
    have z' : (if a ∈ as then none else H a) = none := fa
    by_cases q : a ∈ as
    · exfalso
      obtain ⟨i, hi⟩ := List.getElem?_of_mem q
      obtain ⟨_, rs, ea⟩ := g
      have hil : i < as.length := (List.getElem?_eq_some_iff.mp hi).1
      have hi2 : as'[i]? = some a := by rw [ea, List.getElem?_append_left hil]; exact hi
      have ij := (List.getElem?_inj (List.getElem?_eq_some_iff.mp hi2).1 e.nd).mp (hi2.trans ha.symm)
      rw [ok.ln] at hil
      omega
    · rw [if_neg q] at z'; exact z'
theorem enterF {N : List Str} {W : PW0} {vs : List V} {H : Hp} {Q : VK} {E : XK} {t : TS} (frv : V → Prop) (hfr : ∀ v H', frv v → Q v H') (h : spG K W vs H Q E) (body : ∀ F xs cs post, F.fr = frv → F.E = E → W xs cs post F.ex → WpS K F t (En.start N.length xs cs) (KS.fin cs.length post)) : t { nx := fun _ H' => Q .non H', rt := Q } (L2.start N vs) H := enterG frv hfr h fun F xs cs post hf hE _ hw => body F xs cs post hf hE hw
theorem enter {N : List Str} {W : PW0} {vs : List V} {H : Hp} {Q : VK} {E : XK} {t : TS} (h : spG K W vs H Q E) (body : ∀ F xs cs post, F.E = E → W xs cs post F.ex → WpS K F t (En.start N.length xs cs) (KS.fin cs.length post)) : t { nx := fun _ H' => Q .non H', rt := Q } (L2.start N vs) H := enterF (fun _ => False) (fun _ _ z => z.elim) h fun F xs cs post _ hE hw => body F xs cs post hE hw
/-! calls -/
theorem we_call {sp : Sp} {E : XK} {t : TA} (h : WpA K F t ρ fun xs ρ1 => WpSp K F sp (fun _ => E) xs ρ1 k) : WpE K F (tCall sp [] E t) ρ k := fun as σ H G e Q q =>
  h as σ H G e _ fun xs ρ1 vs as1 H1 G1 h1 e1 g1 r1 => by
    rw [List.append_nil]
    exact h1 as1 σ H1 G1 vs e1 r1 Q (q.imp g1 fun _ _ z => z)
theorem we_call1 {sp : Sp} {v : V} {x : AV} {E : XK} {t : TA} (hv : ∀ G as, RepA K G as x v) (h : WpA K F t ρ fun xs ρ1 => WpSp K F sp (fun _ => E) (xs ++ [x]) ρ1 k) : WpE K F (tCall sp [v] E t) ρ k := fun as σ H G e Q q =>
  h as σ H G e _ fun xs ρ1 vs as1 H1 G1 h1 e1 g1 r1 => h1 as1 σ H1 G1 _ e1 (r1.append (.cons (hv _ _) .nil)) Q (q.imp g1 fun _ _ z => z)
theorem we_callS {sp : Sp} {E : L2.St → XK} {t : TA} (h : WpA K F t ρ fun xs ρ1 => WpSp K F sp E xs ρ1 k) : WpE K F (tCallS sp E t) ρ k := fun as σ H G e Q q =>
  h as σ H G e _ fun xs ρ1 vs as1 H1 G1 h1 e1 g1 r1 => h1 as1 σ H1 G1 vs e1 r1 Q (q.imp g1 fun _ _ z => z)
theorem we_callK {sp : Sp} {gV : List V → List V → List V} {gA : List AV → List AV → List AV} {E : XK} {t tk : TA} (hg : ∀ G as xs ys vs ws, RepAs K G as xs vs → RepAs K G as ys ws → RepAs K G as (gA xs ys) (gV vs ws)) (h : WpA K F t ρ fun xs ρ1 => WpA K F tk ρ1 fun ys ρ2 => WpSp K F sp (fun _ => E) (gA xs ys) ρ2 k) : WpE K F (tCallK sp gV E t tk) ρ k := fun as σ H G e Q q =>
  h as σ H G e _ fun xs ρ1 vs as1 H1 G1 h1 e1 g1 r1 => h1 as1 σ H1 G1 e1 _ fun ys ρ2 ws as2 H2 G2 h2 e2 g2 r2 => h2 as2 σ H2 G2 _ e2 (hg _ _ _ _ _ _ (r1.mono g2) r2) Q (q.imp (g1.trans g2) fun _ _ z => z)
/-- a cell of a list that stands already -/
theorem EnvOk.ownC {as : List Addr} {σ : L2.St} {H G : Hp} {p : Addr} {vs : List V} {ds : List D} (e : EnvOk K F ρ as σ H G) (hp : H p = some (.lst vs)) (gp : G p = none) (fp : F.Fr p = none) (np : p ∉ as) (hr : Reps K G ds vs) : EnvOk K F (ρ.add ds) (as ++ [p]) σ H G := by
  have gr : Gr G as G (as ++ [p]) := ⟨Same.refl _, [p], rfl⟩
  refine ⟨e.gh, e.fh, e.fg, e.g0, ?_, e.pr.trans (List.prefix_append _ _), by show (as ++ [p]).length = (ρ.ce ++ [Cell.lst ds]).length; rw [List.length_append, List.length_append, e.ln]; rfl, fun j c a hc ha => ?_, e.sn, fun i av hi => ?_⟩
  · rw [List.nodup_append]
    refine ⟨e.nd, by simp, fun a ha b hb => ?_⟩
    rw [List.mem_singleton] at hb
    subst hb
    exact fun z => np (z ▸ ha)
  · have hc : (ρ.ce ++ [Cell.lst ds])[j]? = some c := hc
    by_cases hj : j < ρ.ce.length
    · rw [List.getElem?_append_left hj] at hc
      rw [List.getElem?_append_left (by rw [e.ln]; exact hj)] at ha
      exact e.ce j c a hc ha
    · have hj2 : ρ.ce.length ≤ j := by omega
      rw [List.getElem?_append_right hj2] at hc
      rw [List.getElem?_append_right (by rw [e.ln]; exact hj2), e.ln] at ha
      cases z : j - ρ.ce.length with
      | zero =>
        rw [z] at hc ha
        cases hc
        cases ha
        exact ⟨fp, ⟨_, hp⟩, gp, vs, hp, hr⟩
      | succ m => rw [z] at hc; simp at hc
  · obtain ⟨v, hv, r⟩ := e.sl i av hi
    exact ⟨v, hv, r.mono gr⟩
/-- arguments as data: cells are lent to be read -/
inductive AsD (ρ : En) : List AV → List D → Prop
  | nil : AsD ρ [] []
  | dat {d : D} {xs : List AV} {ds : List D} : AsD ρ xs ds → AsD ρ (.dat d :: xs) (d :: ds)
  | cel {j : Nat} {es : List D} {xs : List AV} {ds : List D} : ρ.ce[j]? = some (.lst es) → AsD ρ xs ds → AsD ρ (.cel j :: xs) (.lst es :: ds)
def nocel : List AV → Bool
  | [] => true
  | .cel _ :: _ => false
  | .dat _ :: r => nocel r
theorem nocel_mem {xs : List AV} (h : nocel xs = true) {j : Nat} : .cel j ∉ xs := by
  induction xs with
  | nil => simp
  | cons x xs ih =>
    cases x with
    | cel i => rw [nocel] at h; cases h
    | dat d => rw [nocel] at h; simp [ih h]
theorem AsD.mem {xs : List AV} {ds : List D} (h : AsD ρ xs ds) {j : Nat} (m : .cel j ∈ xs) : ∃ es, ρ.ce[j]? = some (.lst es) := by
  induction h with
  | nil => cases m
  | dat _ ih => rcases List.mem_cons.mp m with z | z; (cases z); exact ih z
  | cel hc _ ih => rcases List.mem_cons.mp m with z | z; (cases z; exact ⟨_, hc⟩); exact ih z
/-- what follows a call by data -/
def aft (ρ : En) (xs : List AV) (k : AV → En → Prop) : RV → Prop
  | .dat d => (nocel xs || hard d) = true ∧ k (.dat d) ρ
  | .new es => (nocel xs || hards es) = true ∧ k (.cel ρ.ce.length) (ρ.add es)
open Classical in
theorem wsp0 {W : PW0} {E : L2.St → XK} {xs : List AV} {ds : List D} {exc : Addr → Prop} (ha : AsD ρ xs ds) (hE : ∀ C as σ H G, exc C → EnvOk K F ρ as σ H G → E σ (.ref C) none H) (hw : W (ds.map .dat) [] (fun r _ => aft ρ xs k r) exc) : WpSp K F (spG K W) E xs ρ k := by
  intro as σ H G vs e rx Q q
  let B : Addr → Prop := fun b => ∃ j : Nat, .cel j ∈ xs ∧ as[j]? = some b
  have bcell : ∀ b, B b → G b = none ∧ ∃ ws, H b = some (.lst ws) := fun b ⟨j, m, hj⟩ => by
    obtain ⟨es, hc⟩ := ha.mem m
    obtain ⟨_, _, g, ws, hw, _⟩ := e.ce j _ b hc hj
    exact ⟨g, ws, hw⟩
  let G1 : Hp := fun b => if B b then H b else G b
  have g1 : ∀ b, B b → G1 b = H b := fun b h => if_pos h
  have g2 : ∀ b, ¬ B b → G1 b = G b := fun b h => if_neg h
  have s1 : Same G G1 := fun b o h => by
    rw [g2 b fun z => by rw [(bcell b z).1] at h; cases h]; exact h
  have h1 : Same G1 H := fun b o h => by
    by_cases z : B b
    · rw [g1 b z] at h; exact h
    · rw [g2 b z] at h; exact e.gh _ _ h
  have rd : RepAs K G1 [] (ds.map .dat) vs := by
    have main : ∀ (ys : List AV) (es : List D) (ws : List V), (∀ j, .cel j ∈ ys → .cel j ∈ xs) → AsD ρ ys es → RepAs K G as ys ws → RepAs K G1 [] (es.map .dat) ws := by
      intro ys es ws sub hd
      induction hd generalizing ws with
      | nil => intro r; cases r; exact .nil
      | dat _ ih =>
        intro r
        cases r with
        | cons a b => exact .cons (Rep.mono s1 _ _ a) (ih _ (fun j m => sub j (List.mem_cons_of_mem _ m)) b)
      | @cel j es2 ys2 ds2 hc _ ih =>
        intro r
        cases r with
        | cons a b =>
          obtain ⟨p, hp, rfl⟩ := a
          obtain ⟨_, _, g, us, hu, hr⟩ := e.ce j _ p hc hp
          refine .cons ?_ (ih _ (fun j m => sub j (List.mem_cons_of_mem _ m)) b)
          exact Rep.lst (by rw [g1 p ⟨j, sub j List.mem_cons_self, hp⟩]; exact hu) (Reps.mono s1 _ _ hr)
    exact main xs ds vs (fun _ m => m) ha rx
  refine ⟨G1, [], ds.map .dat, [], _, exc, h1, ⟨rfl, List.nodup_nil, fun j c a hc => by simp at hc⟩, rd, hw, ?_, ?_⟩
  · intro r cs' v H' G1' hp fr sg gh' nw _ rr
    have hh : Same H H' := fun a o h => fr a o (by simp) h
    let G' : Hp := fun b => if B b then none else G1' b
    have k1 : ∀ b, B b → G' b = none := fun b h => if_pos h
    have k2 : ∀ b, ¬ B b → G' b = G1' b := fun b h => if_neg h
    have sG : Same G G' := fun b o h => by
      have nb : ¬ B b := fun z => by rw [(bcell b z).1] at h; cases h
      rw [k2 b nb]; exact sg _ _ (s1 _ _ h)
    have keep : ∀ a o, G' a = some o → G a = some o ∨ H a = none := fun a o h => by
      by_cases z : B a
      · rw [k1 a z] at h; cases h
      · rw [k2 a z] at h
        rcases nw a o h with y | y
        · rw [g2 a z] at y; exact .inl y
        · exact .inr y
    have e' : EnvOk K F ρ as σ H' G' := by
      refine ⟨fun a o h => ?_, Same.trans e.fh hh, fun a o h => ?_, Same.trans e.g0 sG, e.nd, e.pr, e.ln, fun j c a hc hj => ?_, e.sn, fun i av hi => ?_⟩
      · by_cases z : B a
        · rw [k1 a z] at h; cases h
        · rw [k2 a z] at h; exact gh' _ _ h
      · rcases keep a o h with y | y
        · exact e.fg _ _ y
        · exact .inr (Same.none e.fh y)
      · obtain ⟨fa, ⟨o, ho⟩, ok⟩ := e.ce j c a hc hj
        refine ⟨fa, ⟨o, hh _ _ ho⟩, ?_⟩
        have gn : G a = none → G' a = none := fun g => by
          cases z : G' a with
          | none => rfl
          | some o2 =>
            rcases keep a o2 z with y | y
            · rw [g] at y; cases y
            · rw [ho] at y; cases y
        cases c with
        | gone => trivial
        | lst es => obtain ⟨g, ws, hw, r⟩ := ok; exact ⟨gn g, ws, hh _ _ hw, Reps.mono sG _ _ r⟩
        | ins C9 ns9 es => obtain ⟨g, dx9, ws, hw, ln9, r⟩ := ok; exact ⟨gn g, dx9, ws, hh _ _ hw, ln9, Reps.mono sG _ _ r⟩
        | drw => obtain ⟨g, ws, hw, r⟩ := ok; exact ⟨gn g, ws, hh _ _ hw, r⟩
      · obtain ⟨v, hv, r⟩ := e.sl i av hi
        exact ⟨v, hv, r.mono ⟨sG, [], by simp⟩⟩
    have back : ∀ a o, G1' a = some o → G' a = some o ∨ ∃ xs, o = HO.lst xs := fun a o h => by
      by_cases z : B a
      · obtain ⟨_, ws, hw⟩ := bcell a z
        rw [sg a _ (by rw [g1 a z]; exact hw)] at h
        cases h
        exact .inr ⟨_, rfl⟩
      · exact .inl (by rw [k2 a z]; exact h)
    have all : nocel xs = true → Same G1' G' := fun nc a o h => by
      rw [k2 a fun ⟨j, m, _⟩ => nocel_mem nc m]; exact h
    cases r with
    | dat d =>
      obtain ⟨hc, hk⟩ := hp
      refine q _ ρ v as H' G' hk e' ⟨sG, [], by simp⟩ ?_
      rcases Bool.or_eq_true_iff.mp hc with z | z
      · exact Rep.mono (all z) _ _ rr
      · exact Rep.hard back _ _ z rr
    | new es =>
      obtain ⟨hc, hk⟩ := hp
      obtain ⟨p, ws, rfl, hp0, gp, hp1, hr⟩ := rr
      have np : p ∉ as := fun m => by
        obtain ⟨j, hj⟩ := List.getElem?_of_mem m
        have hl : j < ρ.ce.length := by rw [← e.ln]; exact (List.getElem?_eq_some_iff.mp hj).1
        obtain ⟨_, ⟨o, ho⟩, _⟩ := e.ce j _ p (List.getElem?_eq_getElem hl) hj
        rw [ho] at hp0
        cases hp0
      have nb : ¬ B p := fun ⟨j, _, hj⟩ => np (List.mem_of_getElem? hj)
      have hr' : Reps K G' es ws := by
        rcases Bool.or_eq_true_iff.mp hc with z | z
        · exact Reps.mono (all z) _ _ hr
        · exact Reps.hard back _ _ z hr
      exact q _ _ _ _ H' G' hk (e'.ownC hp1 (by rw [k2 p nb]; exact gp) (Same.none e.fh hp0) np hr') ⟨sG, [p], rfl⟩ (RepA.last e.ln)
  · intro C H' hc fr
    have hh : Same H H' := fun a o h => fr a o (by simp) h
    refine hE C as σ H' G hc ⟨Same.trans e.gh hh, Same.trans e.fh hh, e.fg, e.g0, e.nd, e.pr, e.ln, fun j c a hc hj => ?_, e.sn, e.sl⟩
    obtain ⟨fa, ⟨o, ho⟩, ok⟩ := e.ce j c a hc hj
    refine ⟨fa, ⟨o, hh _ _ ho⟩, ?_⟩
    cases c with
    | gone => trivial
    | lst es => obtain ⟨g, ws, hw, r⟩ := ok; exact ⟨g, ws, hh _ _ hw, r⟩
    | ins C9 ns9 es => obtain ⟨g, dx9, ws, hw, ln9, r⟩ := ok; exact ⟨g, dx9, ws, hh _ _ hw, ln9, r⟩
    | drw => obtain ⟨g, ws, hw, r⟩ := ok; exact ⟨g, ws, hh _ _ hw, r⟩
/-- the same where the caller lets nothing out -/
theorem wspE {W : PW0} {E : L2.St → XK} {xs : List AV} {ds : List D} (ha : AsD ρ xs ds) (hw : W (ds.map .dat) [] (fun r _ => aft ρ xs k r) (fun _ => False)) : WpSp K F (spG K W) E xs ρ k := wsp0 ha (fun _ _ _ _ _ z => z.elim) hw
/-- and where it lets the callee's errors out -/
theorem wspX {W : PW0} {xs : List AV} {ds : List D} (ha : AsD ρ xs ds) (hw : W (ds.map .dat) [] (fun r _ => aft ρ xs k r) F.ex) : WpSp K F (spG K W) (fun _ => F.E) xs ρ k := wsp0 ha (fun C as σ H G h e => F.hE C H h e.fh) hw
/-- a cell is lent to be written -/
def lend : AV → AV
  | .cel _ => .cel 0
  | x => x
def onlyC (j : Nat) : List AV → Bool
  | [] => true
  | .cel i :: r => decide (i = j) && onlyC j r
  | .dat _ :: r => onlyC j r
def aft1 (ρ : En) (j : Nat) (k : AV → En → Prop) (r : RV) (cs : List Cell) : Prop := ∃ c, cs = [c] ∧ noGone cs = true ∧ match r with
  | .dat d => k (.dat d) (ρ.cell j c)
  | .new es => k (.cel ρ.ce.length) ((ρ.cell j c).add es)
theorem wsp1P {W : PW0} {E : L2.St → XK} {xs : List AV} {j : Nat} {c : Cell} {post : RV → List Cell → Prop} (hj : ρ.ce[j]? = some c) (hn : noGone [c] = true) (ho : onlyC j xs = true) (hw : W (xs.map lend) [c] post (fun _ => False)) (hpo : ∀ r cs, post r cs → aft1 ρ j k r cs) : WpSp K F (spG K W) E xs ρ k := by
  intro as σ H G vs e rx Q q
  have hl : j < as.length := by rw [e.ln]; exact (List.getElem?_eq_some_iff.mp hj).1
  obtain ⟨a, ha⟩ : ∃ a, as[j]? = some a := ⟨_, List.getElem?_eq_getElem hl⟩
  obtain ⟨fa, hx, ok⟩ := e.ce j c a hj ha
  have rl : RepAs K G [a] (xs.map lend) vs := by
    have main : ∀ (ys : List AV) (ws : List V), onlyC j ys = true → RepAs K G as ys ws → RepAs K G [a] (ys.map lend) ws := by
      intro ys
      induction ys with
      | nil => intro ws _ r; cases r; exact .nil
      | cons y ys ih =>
        intro ws ho r
        cases r with
        | cons r1 r2 =>
          cases y with
          | dat d => exact .cons (Rep.mono (Same.refl _) _ _ r1) (ih _ ho r2)
          | cel i =>
            rw [onlyC, Bool.and_eq_true] at ho
            have ei := of_decide_eq_true ho.1
            subst ei
            obtain ⟨p, hp, rfl⟩ := r1
            rw [ha] at hp
            cases hp
            exact .cons ⟨a, rfl, rfl⟩ (ih _ ho.2 r2)
    exact main xs vs ho rx
  refine ⟨G, [a], xs.map lend, [c], _, _, e.gh, ⟨rfl, by simp, fun i c2 b hc hb => ?_⟩, rl, hw, ?_, fun _ _ z => z.elim⟩
  · cases i with
    | zero => simp at hc hb; subst hc hb; exact ⟨hx, ok⟩
    | succ i => simp at hc
  · rintro r cs' v H' G' hp0 fr sG gh' nw ck rr
    obtain ⟨c', rfl, ng, hp⟩ := hpo r cs' hp0
    have fr' : ∀ b o, b ≠ a → H b = some o → H' b = some o := fun b o n h => fr b o (by simpa using n) h
    obtain ⟨hx', ok'⟩ := ck.ok 0 c' a rfl rfl
    have e' : EnvOk K F (ρ.cell j c') as σ H' G' := by
      refine ⟨gh', fun b o h => fr' b o (ne_of_none h fa) (e.fh _ _ h), fun b o h => ?_, Same.trans e.g0 sG, e.nd, e.pr, by rw [e.ln]; exact (List.length_set).symm, fun i c2 b hc hb => ?_, e.sn, fun i av hi => ?_⟩
      · rcases nw b o h with y | y
        · exact e.fg _ _ y
        · exact .inr (Same.none e.fh y)
      · have hc' : (ρ.ce.set j c')[i]? = some c2 := hc
        by_cases hij : j = i
        · subst hij
          rw [List.getElem?_set_self (by rw [← e.ln]; exact hl)] at hc'
          cases hc'
          rw [ha] at hb
          cases hb
          exact ⟨fa, hx', ok'⟩
        · rw [List.getElem?_set_ne hij] at hc'
          obtain ⟨fb, ⟨o, ho⟩, okb⟩ := e.ce i c2 b hc' hb
          have nb : b ≠ a := fun z => by
            subst z
            exact hij ((List.getElem?_inj (List.getElem?_eq_some_iff.mp ha).1 e.nd).mp (ha.trans hb.symm))
          refine ⟨fb, ⟨o, fr' _ _ nb ho⟩, ?_⟩
          have gn : G b = none → G' b = none := fun g => by
            cases z : G' b with
            | none => rfl
            | some o2 =>
              rcases nw b o2 z with y | y
              · rw [g] at y; cases y
              · rw [ho] at y; cases y
          cases c2 with
          | gone => trivial
          | lst es => obtain ⟨g, ws, hw, r⟩ := okb; exact ⟨gn g, ws, fr' _ _ nb hw, Reps.mono sG _ _ r⟩
          | ins C9 ns9 es => obtain ⟨g, dx9, ws, hw, ln9, r⟩ := okb; exact ⟨gn g, dx9, ws, fr' _ _ nb hw, ln9, Reps.mono sG _ _ r⟩
          | drw => obtain ⟨g, ws, hw, r⟩ := okb; exact ⟨gn g, ws, fr' _ _ nb hw, r⟩
      · obtain ⟨v, hv, r⟩ := e.sl i av hi
        exact ⟨v, hv, r.mono ⟨sG, [], by simp⟩⟩
    have eln : as.length = (ρ.cell j c').ce.length := e'.ln
    cases r with
    | dat d => exact q _ _ v as H' G' hp e' ⟨sG, [], by simp⟩ rr
    | new es =>
      obtain ⟨p, ws, rfl, hp0, gp, hp1, hr⟩ := rr
      have np : p ∉ as := fun m => by
        obtain ⟨i, hi⟩ := List.getElem?_of_mem m
        have hil : i < ρ.ce.length := by rw [← e.ln]; exact (List.getElem?_eq_some_iff.mp hi).1
        obtain ⟨_, ⟨o, ho⟩, _⟩ := e.ce i _ p (List.getElem?_eq_getElem hil) hi
        rw [ho] at hp0
        cases hp0
      exact q _ _ _ _ H' G' hp (e'.ownC hp1 gp (Same.none e.fh hp0) np hr) ⟨sG, [p], rfl⟩ (RepA.last e.ln)
theorem wsp1 {W : PW0} {E : L2.St → XK} {xs : List AV} {j : Nat} {c : Cell} (hj : ρ.ce[j]? = some c) (hn : noGone [c] = true) (ho : onlyC j xs = true) (hw : W (xs.map lend) [c] (fun r cs => aft1 ρ j k r cs) (fun _ => False)) : WpSp K F (spG K W) E xs ρ k := wsp1P hj hn ho hw fun _ _ z => z
/-- one cell lent to be written, others to be read -/
inductive AsL (ρ : En) (j : Nat) : List AV → List AV → Prop
  | nil : AsL ρ j [] []
  | dat {d : D} {xs ys : List AV} : AsL ρ j xs ys → AsL ρ j (.dat d :: xs) (.dat d :: ys)
  | own {xs ys : List AV} : AsL ρ j xs ys → AsL ρ j (.cel j :: xs) (.cel 0 :: ys)
  | cel {i : Nat} {es : List D} {xs ys : List AV} : i ≠ j → ρ.ce[i]? = some (.lst es) → AsL ρ j xs ys → AsL ρ j (.cel i :: xs) (.dat (.lst es) :: ys)
theorem AsL.mem {j : Nat} {xs ys : List AV} (h : AsL ρ j xs ys) {i : Nat} (m : .cel i ∈ xs) : i = j ∨ ∃ es, ρ.ce[i]? = some (.lst es) := by
  induction h with
  | nil => cases m
  | dat _ ih => rcases List.mem_cons.mp m with z | z; (cases z); exact ih z
  | own _ ih => rcases List.mem_cons.mp m with z | z; (cases z; exact .inl rfl); exact ih z
  | cel _ hc _ ih => rcases List.mem_cons.mp m with z | z; (cases z; exact .inr ⟨_, hc⟩); exact ih z
def aft2 (ρ : En) (j : Nat) (k : AV → En → Prop) (r : RV) (cs : List Cell) : Prop := cs = [.drw] ∧ match r with
  | .dat d => hard d = true ∧ k (.dat d) (ρ.cell j .drw)
  | .new es => hards es = true ∧ k (.cel ρ.ce.length) ((ρ.cell j .drw).add es)
open Classical in
theorem wsp2P {W : PW0} {E : L2.St → XK} {xs ys : List AV} {j : Nat} {c : Cell} {post : RV → List Cell → Prop} (hj : ρ.ce[j]? = some c) (hn : noGone [c] = true) (ha : AsL ρ j xs ys) (hw : W ys [c] post (fun _ => False)) (hpo : ∀ r cs, post r cs → aft2 ρ j k r cs) : WpSp K F (spG K W) E xs ρ k := by
  intro as σ H G vs e rx Q q
  have hl : j < as.length := by rw [e.ln]; exact (List.getElem?_eq_some_iff.mp hj).1
  obtain ⟨a, haj⟩ : ∃ a, as[j]? = some a := ⟨_, List.getElem?_eq_getElem hl⟩
  obtain ⟨fa, hx, ok⟩ := e.ce j c a hj haj
  have cg : c ≠ .gone := fun z => by subst z; rw [noGone] at hn; cases hn
  have apart : ∀ {i : Nat} {b : Addr}, i ≠ j → as[i]? = some b → b ≠ a := fun ne hb z => by
    subst z
    exact ne ((List.getElem?_inj (List.getElem?_eq_some_iff.mp hb).1 e.nd).mp (hb.trans haj.symm))
  let B : Addr → Prop := fun b => ∃ i : Nat, i ≠ j ∧ .cel i ∈ xs ∧ as[i]? = some b
  have bcell : ∀ b, B b → G b = none ∧ ∃ ws, H b = some (.lst ws) := fun b ⟨i, ne, m, hi⟩ => by
    rcases ha.mem m with z | ⟨es, hc⟩
    · exact absurd z ne
    obtain ⟨_, _, g, ws, hw, _⟩ := e.ce i _ b hc hi
    exact ⟨g, ws, hw⟩
  have nBa : ¬ B a := fun ⟨i, ne, _, hi⟩ => apart ne hi rfl
  let G1 : Hp := fun b => if B b then H b else G b
  have g1 : ∀ b, B b → G1 b = H b := fun b h => if_pos h
  have g2 : ∀ b, ¬ B b → G1 b = G b := fun b h => if_neg h
  have s1 : Same G G1 := fun b o h => by
    rw [g2 b fun z => by rw [(bcell b z).1] at h; cases h]; exact h
  have h1 : Same G1 H := fun b o h => by
    by_cases z : B b
    · rw [g1 b z] at h; exact h
    · rw [g2 b z] at h; exact e.gh _ _ h
  have ok1 : CellOk K G1 H a c := by
    cases c with
    | gone => trivial
    | lst es => obtain ⟨g, ws, hw, r⟩ := ok; exact ⟨by rw [g2 a nBa]; exact g, ws, hw, Reps.mono s1 _ _ r⟩
    | ins C9 ns9 es => obtain ⟨g, dx9, ws, hw, ln9, r⟩ := ok; exact ⟨by rw [g2 a nBa]; exact g, dx9, ws, hw, ln9, Reps.mono s1 _ _ r⟩
    | drw => obtain ⟨g, ws, hw, r⟩ := ok; exact ⟨by rw [g2 a nBa]; exact g, ws, hw, r⟩
  have rd : RepAs K G1 [a] ys vs := by
    have main : ∀ (zs es : List AV) (ws : List V), (∀ i, .cel i ∈ zs → .cel i ∈ xs) → AsL ρ j zs es → RepAs K G as zs ws → RepAs K G1 [a] es ws := by
      intro zs es ws sub hd
      induction hd generalizing ws with
      | nil => intro r; cases r; exact .nil
      | dat _ ih =>
        intro r
        cases r with
        | cons a b => exact .cons (Rep.mono s1 _ _ a) (ih _ (fun j m => sub j (List.mem_cons_of_mem _ m)) b)
      | own _ ih =>
        intro r
        cases r with
        | cons r1 b =>
          obtain ⟨p, hp, rfl⟩ := r1
          rw [haj] at hp
          cases hp
          exact .cons ⟨a, rfl, rfl⟩ (ih _ (fun j m => sub j (List.mem_cons_of_mem _ m)) b)
      | @cel i es2 ys2 ds2 ne hc _ ih =>
        intro r
        cases r with
        | cons r1 b =>
          obtain ⟨p, hp, rfl⟩ := r1
          obtain ⟨_, _, g, us, hu, hr⟩ := e.ce i _ p hc hp
          refine .cons ?_ (ih _ (fun j m => sub j (List.mem_cons_of_mem _ m)) b)
          exact Rep.lst (by rw [g1 p ⟨i, ne, sub i List.mem_cons_self, hp⟩]; exact hu) (Reps.mono s1 _ _ hr)
    exact main xs ys vs (fun _ m => m) ha rx
  refine ⟨G1, [a], ys, [c], _, _, h1, ⟨rfl, by simp, fun i c2 b hc hb => ?_⟩, rd, hw, ?_, fun _ _ z => z.elim⟩
  · cases i with
    | zero => simp at hc hb; subst hc hb; exact ⟨hx, ok1⟩
    | succ i => simp at hc
  rintro r cs' v H' G1' hp0 fr sg gh' nw ck rr
  obtain ⟨rfl, hp⟩ := hpo r cs' hp0
  have fr' : ∀ b o, b ≠ a → H b = some o → H' b = some o := fun b o n h => fr b o (by simpa using n) h
  obtain ⟨hx', ok'⟩ := ck.ok 0 .drw a rfl rfl
  let G' : Hp := fun b => if B b then none else G1' b
  have k1 : ∀ b, B b → G' b = none := fun b h => if_pos h
  have k2 : ∀ b, ¬ B b → G' b = G1' b := fun b h => if_neg h
  have sG : Same G G' := fun b o h => by
    have nb : ¬ B b := fun z => by rw [(bcell b z).1] at h; cases h
    rw [k2 b nb]; exact sg _ _ (s1 _ _ h)
  have keep : ∀ a o, G' a = some o → G a = some o ∨ H a = none := fun a o h => by
    by_cases z : B a
    · rw [k1 a z] at h; cases h
    · rw [k2 a z] at h
      rcases nw a o h with y | y
      · rw [g2 a z] at y; exact .inl y
      · exact .inr y
  have back : ∀ a o, G1' a = some o → G' a = some o ∨ ∃ xs, o = HO.lst xs := fun a o h => by
    by_cases z : B a
    · obtain ⟨_, ws, hw⟩ := bcell a z
      rw [sg a _ (by rw [g1 a z]; exact hw)] at h
      cases h
      exact .inr ⟨_, rfl⟩
    · exact .inl (by rw [k2 a z]; exact h)
  have gn : ∀ {b : Addr} {o : HO}, H b = some o → G b = none → G' b = none := fun {b o} ho g => by
    cases z : G' b with
    | none => rfl
    | some o2 =>
      rcases keep b o2 z with y | y
      · rw [g] at y; cases y
      · rw [ho] at y; cases y
  have okc : CellOk K G' H' a .drw → EnvOk K F (ρ.cell j .drw) as σ H' G' := fun okk => by
    refine ⟨fun a o h => ?_, fun b o h => fr' b o (ne_of_none h fa) (e.fh _ _ h), fun b o h => ?_, Same.trans e.g0 sG, e.nd, e.pr, by rw [e.ln]; exact (List.length_set).symm, fun i c2 b hc hb => ?_, e.sn, fun i av hi => ?_⟩
    · by_cases z : B a
      · rw [k1 a z] at h; cases h
      · rw [k2 a z] at h; exact gh' _ _ h
    · rcases keep b o h with y | y
      · exact e.fg _ _ y
      · exact .inr (Same.none e.fh y)
    · have hc' : (ρ.ce.set j .drw)[i]? = some c2 := hc
      by_cases hij : j = i
      · subst hij
        rw [List.getElem?_set_self (by rw [← e.ln]; exact hl)] at hc'
        cases hc'
        rw [haj] at hb
        cases hb
        exact ⟨fa, hx', okk⟩
      · rw [List.getElem?_set_ne hij] at hc'
        obtain ⟨fb, ⟨o, ho⟩, okb⟩ := e.ce i c2 b hc' hb
        have nb : b ≠ a := apart (fun z => hij z.symm) hb
        refine ⟨fb, ⟨o, fr' _ _ nb ho⟩, ?_⟩
        cases c2 with
        | gone => trivial
        | lst es => obtain ⟨g, ws, hw, r⟩ := okb; exact ⟨gn ho g, ws, fr' _ _ nb hw, Reps.mono sG _ _ r⟩
        | ins C9 ns9 es => obtain ⟨g, dx9, ws, hw, ln9, r⟩ := okb; exact ⟨gn ho g, dx9, ws, fr' _ _ nb hw, ln9, Reps.mono sG _ _ r⟩
        | drw => obtain ⟨g, ws, hw, r⟩ := okb; exact ⟨gn ho g, ws, fr' _ _ nb hw, r⟩
    · obtain ⟨v, hv, r⟩ := e.sl i av hi
      exact ⟨v, hv, r.mono ⟨sG, [], by simp⟩⟩
  have gA : G1' a = none → G' a = none := fun z => by rw [k2 a nBa]; exact z
  have finish : EnvOk K F (ρ.cell j .drw) as σ H' G' → Q v H' := fun e' => by
    cases r with
    | dat d => exact q _ _ v as H' G' hp.2 e' ⟨sG, [], by simp⟩ (Rep.hard back _ _ hp.1 rr)
    | new es =>
      obtain ⟨p, ws, rfl, hp0, gp, hp1, hr⟩ := rr
      have np : p ∉ as := fun m => by
        obtain ⟨i, hi⟩ := List.getElem?_of_mem m
        have hil : i < ρ.ce.length := by rw [← e.ln]; exact (List.getElem?_eq_some_iff.mp hi).1
        obtain ⟨_, ⟨o, ho⟩, _⟩ := e.ce i _ p (List.getElem?_eq_getElem hil) hi
        rw [ho] at hp0
        cases hp0
      have nb : ¬ B p := fun ⟨i, _, _, hi⟩ => np (List.mem_of_getElem? hi)
      exact q _ _ _ _ H' G' hp.2 (e'.ownC hp1 (by rw [k2 p nb]; exact gp) (Same.none e.fh hp0) np (Reps.hard back _ _ hp.1 hr)) ⟨sG, [p], rfl⟩ (RepA.last e.ln)
  obtain ⟨g, ws, hw, r⟩ := ok'
  exact finish (okc ⟨gA g, ws, hw, r⟩)
end
section
variable {K : PySem.W.Frag} {F : Fx} {ρ : En} {k : AV → En → Prop}
def aftD (ρ : En) (j : Nat) (xs : List AV) (k : AV → En → Prop) : RV → Prop
  | .dat d => (onlyC j xs || hard d) = true ∧ k (.dat d) ρ
  | .new es => (onlyC j xs || hards es) = true ∧ k (.cel ρ.ce.length) (ρ.add es)
theorem AsL.lend {j : Nat} {xs ys : List AV} (h : AsL ρ j xs ys) (o : onlyC j xs = true) : ys = xs.map LK.lend := by
  induction h with
  | nil => rfl
  | dat _ ih => rw [ih o]; rfl
  | own _ ih => rw [onlyC, Bool.and_eq_true] at o; rw [ih o.2]; rfl
  | cel ne _ _ ih => rw [onlyC, Bool.and_eq_true] at o; exact absurd (of_decide_eq_true o.1) ne
/-- a call that draws from the state at j -/
theorem wspD {W : PW0} {E : L2.St → XK} {xs ys : List AV} {j : Nat} (hj : ρ.ce[j]? = some .drw) (ha : AsL ρ j xs ys) (hw : W ys [.drw] (fun r cs => cs = [.drw] ∧ aftD ρ j xs k r) (fun _ => False)) : WpSp K F (spG K W) E xs ρ k := by
  have es : ρ.cell j .drw = ρ := by
    obtain ⟨sl, ce⟩ := ρ
    show En.mk sl (ce.set j .drw) = ⟨sl, ce⟩
    have hl : j < ce.length := (List.getElem?_eq_some_iff.mp hj).1
    have he : ce[j] = .drw := (List.getElem?_eq_some_iff.mp hj).2
    rw [← he, List.set_getElem_self]
  cases o : onlyC j xs with
  | true =>
    refine wsp1P hj rfl o (by rw [← ha.lend o]; exact hw) ?_
    rintro r cs ⟨rfl, h⟩
    refine ⟨.drw, rfl, rfl, ?_⟩
    cases r with
    | dat d => rw [es]; exact h.2
    | new es2 => rw [es]; exact h.2
  | false =>
    refine wsp2P hj rfl ha hw ?_
    rintro r cs ⟨rfl, h⟩
    refine ⟨rfl, ?_⟩
    cases r with
    | dat d =>
      obtain ⟨h1, h2⟩ := h
      rw [o, Bool.false_or] at h1
      rw [es]
      exact ⟨h1, h2⟩
    | new es2 =>
      obtain ⟨h1, h2⟩ := h
      rw [o, Bool.false_or] at h1
      rw [es]
      exact ⟨h1, h2⟩
end
theorem spG_len {K : PySem.W.Frag} {W : PW0} {vs : List V} {H : Hp} {Q : VK} {E : XK} {n : Nat} (h : spG K W vs H Q E) (hl : ∀ xs cs post exc, W xs cs post exc → xs.length = n) : vs.length = n := by
  obtain ⟨G, as, xs, cs, post, exc, _, _, rx, hw, _⟩ := h
  rw [rx.length]
  exact hl _ _ _ _ hw
/-! ### rules of the data layer: kinds, ==, comprehensions, errors -/
section
variable {K : PySem.W.Frag} {F : Fx} {ρ : En} {k : AV → En → Prop} {kb : Bool → En → Prop} {ks : KS} {t u : TS} {ta tb te : TE} {tt tu : TT}
/-- the built-in class of data -/
def tyD : D → Option String
  | .non => some "NoneType" | .bl _ => some "bool" | .int _ => some "int" | .str _ => some "str" | .tup _ => some "tuple" | .lst _ => some "list" | .scr _ => some "list" | .dic => some "dict" | _ => none
theorem SqL.ty {H : Hp} {a : Addr} {vs : List V} (h : SqL K H a vs) : TyX K H (.ref a) (.type "list") := by
  rcases h with (h | ⟨o, h⟩) | ⟨o, its, n, h1, h2, _⟩
  · exact .base (.lst h)
  · exact .base (.frz h)
  · exact .kList h1 h2
theorem SqT.ty {H : Hp} {a : Addr} {vs : List V} (h : SqT K H a vs) : TyX K H (.ref a) (.type "tuple") := by
  rcases h with (h | ⟨o, h⟩) | ⟨o, its, n, h1, h2, _⟩
  · exact .base (.tup h)
  · exact .fTuple h
  · exact .kTuple h1 h2
theorem tyD_rep {H G : Hp} {d : D} {v : V} {T : String} (gh : Same G H) (r : Rep K G d v) (h : tyD d = some T) : TyX K H v (.type T) := by
  cases d with
  | non => cases h; cases r; exact .base .non
  | bl b => cases h; cases r; exact .base (.bl b)
  | int i => cases h; cases r; exact .base (.int i)
  | str x => cases h; cases r; exact .base (.str x)
  | tup ds => cases h; obtain ⟨a, vs, rfl, hs, _⟩ := Rep.tupE r; exact SqT.ty (Same.seqT gh hs)
  | lst ds => cases h; obtain ⟨a, vs, rfl, hs, _⟩ := Rep.lstE r; exact SqL.ty (SqL.of (gh _ _ hs))
  | scr ds => cases h; obtain ⟨a, vs, rfl, hs, _⟩ := Rep.scrE r; exact SqL.ty (Same.seq gh hs)
  | obj C ns ds => cases h
  | dic => cases h; obtain ⟨a, kvs, rfl, hs⟩ := Rep.dicE r; exact .base (.dK (gh _ _ hs))
  | ty n => cases h
  | cls C => cases h
/-- isinstance by built-in classes -/
def isT (T : String) (d : D) : Bool := match tyD d with
  | some "int" => T == "int"
  | some "bool" => T == "int" || T == "bool"
  | some s => T == s
  | none => false
def isA (T : String) : AV → Bool
  | .dat d => isT T d
  | .cel _ => T == "list"
theorem wc_isiB {T s : String} {d : D} {b : Bool} (h1 : tyD d = some s) (h2 : kitB s T = some b) (hk : k (.dat (.bl b)) ρ) : WpC K F (rIsi K) [.dat d, .dat (.ty T)] ρ k := fun as σ H G vs e r Q q => by
  cases r with
  | cons r1 c =>
    cases c with
    | cons r2 c =>
      cases c
      cases (show Rep K G (.ty T) _ from r2)
      exact ⟨_, _, _, _, b, rfl, .ty _, tyD_rep e.gh r1 h1, kit_ty h2, q _ ρ _ as H G hk e .refl (Rep.bl _)⟩
theorem wc_isi {T : String} {d : D} (hT : T ∈ ["int", "bool", "str", "tuple", "list"]) (hd : (tyD d).isSome = true) (hk : k (.dat (.bl (isT T d))) ρ) : WpC K F (rIsi K) [.dat d, .dat (.ty T)] ρ k := by
  have go : ∀ s, tyD d = some s → kitB s T = some (isT T d) → WpC K F (rIsi K) [.dat d, .dat (.ty T)] ρ k := fun s h1 h2 => wc_isiB h1 h2 hk
  simp only [List.mem_cons, List.not_mem_nil, or_false] at hT
  cases d <;> first
    | (exact Bool.noConfusion (show false = true from hd))
    | (refine go _ rfl ?_; rcases hT with rfl | rfl | rfl | rfl | rfl <;> (simp only [isT, tyD]; decide +kernel))
theorem wc_isiC {T : String} {j : Nat} {ds : List D} (hT : T ∈ ["int", "bool", "str", "tuple", "list"]) (hc : ρ.ce[j]? = some (.lst ds)) (hk : k (.dat (.bl (T == "list"))) ρ) : WpC K F (rIsi K) [.cel j, .dat (.ty T)] ρ k := fun as σ H G vs e r Q q => by
  cases r with
  | cons r1 c =>
    cases c with
    | cons r2 c =>
      cases c
      cases (show Rep K G (.ty T) _ from r2)
      obtain ⟨a, ha, rfl⟩ := r1
      obtain ⟨_, _, _, ws, hw, _⟩ := e.ce j _ a hc ha
      have h2 : kitB "list" T = some (T == "list") := by
        simp only [List.mem_cons, List.not_mem_nil, or_false] at hT
        rcases hT with rfl | rfl | rfl | rfl | rfl <;> decide +kernel
      exact ⟨_, _, _, _, _, rfl, .ty _, .base (.lst hw), kit_ty h2, q _ ρ _ as H G hk e .refl (Rep.bl _)⟩
/-! == -/
mutual
def py : D → PyData
  | .non => .none
  | .bl b => .bool b
  | .int i => .int i
  | .str x => .str x
  | .tup ds => .tuple (pys ds)
  | .lst ds => .list (pys ds)
  | .scr ds => .list (pys ds)
  | .obj _ _ _ => .none
  | .dic => .none
  | .ty _ => .none
  | .cls _ => .none
def pys : List D → List PyData
  | [] => []
  | d :: ds => py d :: pys ds
end
mutual
/-- data of at most this depth that == may look at -/
def fine : Nat → D → Bool
  | _, .non => true
  | _, .bl _ => true
  | _, .int _ => true
  | _, .str x => PyData.strOk x
  | n + 1, .tup ds => fines n ds
  | n + 1, .lst ds => fines n ds
  | n + 1, .scr ds => fines n ds
  | _, _ => false
def fines : Nat → List D → Bool
  | _, [] => true
  | n, d :: ds => fine n d && fines n ds
end
mutual
theorem fine_dp {G : Hp} : ∀ (n : Nat) (d : D) (v : V), fine n d = true → Rep K G d v → Dp K G v (py d) ∧ PyData.canLay0 (py d) = true ∧ PyData.depth (py d) ≤ n
  | _, .non, _, _, r => by cases r; exact ⟨.non, rfl, by simp [py, PyData.depth]⟩
  | _, .bl _, _, _, r => by cases r; exact ⟨.bl _, rfl, by simp [py, PyData.depth]⟩
  | _, .int _, _, _, r => by cases r; exact ⟨.int _, rfl, by simp [py, PyData.depth]⟩
  | n, .str x, _, h, r => by
    cases r
    refine ⟨.str _, ?_, by simp [py, PyData.depth]⟩
    have h' : PyData.strOk x = true := by cases n <;> (rw [fine] at h; exact h)
    simp [py, PyData.canLay0, h']
  | n + 1, .tup ds, _, h, r => by
    cases r with
    | tup a b =>
      obtain ⟨x, y, z⟩ := fine_dps n ds _ (by rw [fine] at h; exact h) b
      exact ⟨.tup a x, by simp [py, PyData.canLay0, y], by simp [py, PyData.depth]; omega⟩
  | n + 1, .lst ds, _, h, r => by
    cases r with
    | lst a b =>
      obtain ⟨x, y, z⟩ := fine_dps n ds _ (by rw [fine] at h; exact h) b
      exact ⟨.lst (SqL.of a) x, by simp [py, PyData.canLay0, y], by simp [py, PyData.depth]; omega⟩
  | n + 1, .scr ds, _, h, r => by
    cases r with
    | scr a b =>
      obtain ⟨x, y, z⟩ := fine_dps n ds _ (by rw [fine] at h; exact h) b
      exact ⟨.lst a x, by simp [py, PyData.canLay0, y], by simp [py, PyData.depth]; omega⟩
  | 0, .tup ds, _, h, r => by simp [fine] at h
  | 0, .lst ds, _, h, r => by simp [fine] at h
  | 0, .scr ds, _, h, r => by simp [fine] at h
  | n, .obj _ _ _, _, h, r => by cases n <;> simp [fine] at h
  | n, .dic, _, h, r => by cases n <;> simp [fine] at h
  | n, .ty _, _, h, r => by cases n <;> simp [fine] at h
  | n, .cls _, _, h, r => by cases n <;> simp [fine] at h
theorem fine_dps {G : Hp} : ∀ (n : Nat) (ds : List D) (vs : List V), fines n ds = true → Reps K G ds vs → DpAll K G vs (pys ds) ∧ PyData.canLayAll0 (pys ds) = true ∧ PyData.depthAll (pys ds) ≤ n
  | _, [], _, _, r => by cases r; exact ⟨.nil, rfl, by simp [pys, PyData.depthAll]⟩
  | n, d :: ds, _, h, r => by
    cases r with
    | cons a b =>
      have h' : fine n d = true ∧ fines n ds = true := by cases n <;> (rw [fines, Bool.and_eq_true] at h; exact h)
      obtain ⟨x, y, z⟩ := fine_dp n d _ h'.1 a
      obtain ⟨x2, y2, z2⟩ := fine_dps n ds _ h'.2 b
      exact ⟨.cons x x2, by simp [pys, PyData.canLayAll0, y, y2], by simp [pys, PyData.depthAll]; omega⟩
end
def eqD (d e : D) : Bool := PyData.eqv (py d) (py e)
/-- data of a value: a cell is its list -/
inductive OfD (ρ : En) : AV → D → Prop
  | dat (d : D) : OfD ρ (.dat d) d
  | cel {j : Nat} {ds : List D} : ρ.ce[j]? = some (.lst ds) → OfD ρ (.cel j) (.lst ds)
theorem OfD.dp {as : List Addr} {σ : L2.St} {H G : Hp} {x : AV} {d : D} {v : V} {n : Nat} (e : EnvOk K F ρ as σ H G) (h : OfD ρ x d) (r : RepA K G as x v) (hf : fine n d = true) (hn : n ≤ 64) : Dp K H v (py d) ∧ SeqAt.shaped (py d) = true := by
  have rr : Rep K H d v := by
    cases h with
    | dat => exact Rep.mono e.gh _ _ r
    | cel hc =>
      obtain ⟨a, ha, rfl⟩ := r
      obtain ⟨_, _, _, ws, hw, hr⟩ := e.ce _ _ a hc ha
      exact .lst hw (Reps.mono e.gh _ _ hr)
  obtain ⟨x, y, z⟩ := fine_dp n d v hf rr
  refine ⟨x, ?_⟩
  unfold SeqAt.shaped
  rw [y, decide_eq_true (by omega : PyData.depth (py d) ≤ 64)]
  rfl
theorem wr_eqD {x y : AV} {d e : D} (n : Nat) (hx : OfD ρ x d) (hy : OfD ρ y e) (h1 : fine n d = true) (h2 : fine n e = true) (hn : n ≤ 64) (hk : k (.dat (.bl (eqD d e))) ρ) : WpR K F (rEqD K) x y ρ k := fun as σ H G vx vy en r1 r2 Q q => by
  obtain ⟨a, b⟩ := hx.dp en r1 h1 hn
  obtain ⟨a2, b2⟩ := hy.dp en r2 h2 hn
  exact ⟨_, _, a, a2, b, b2, q _ ρ _ as H G hk en .refl (Rep.bl _)⟩
theorem wr_neD {x y : AV} {d e : D} (n : Nat) (hx : OfD ρ x d) (hy : OfD ρ y e) (h1 : fine n d = true) (h2 : fine n e = true) (hn : n ≤ 64) (hk : k (.dat (.bl (!eqD d e))) ρ) : WpR K F (rNeD K) x y ρ k := fun as σ H G vx vy en r1 r2 Q q => by
  obtain ⟨a, b⟩ := hx.dp en r1 h1 hn
  obtain ⟨a2, b2⟩ := hy.dp en r2 h2 hn
  exact ⟨_, _, a, a2, b, b2, q _ ρ _ as H G hk en .refl (Rep.bl _)⟩
/-! == without truths in it is being alike -/
mutual
def noB : D → Bool
  | .bl _ => false
  | .tup ds => noBs ds
  | .lst ds => noBs ds
  | .scr _ => false
  | .obj _ _ _ => false
  | .dic => false
  | .ty _ => false
  | .cls _ => false
  | _ => true
def noBs : List D → Bool
  | [] => true
  | d :: ds => noB d && noBs ds
end
mutual
theorem eqD_iff : ∀ (d e : D), noB d = true → noB e = true → (eqD d e = true ↔ d = e)
  | .non, e, _, h => by cases e <;> simp [eqD, py, PyData.eqv, noB] at h ⊢
  | .int i, e, _, h => by cases e <;> simp [eqD, py, PyData.eqv, noB] at h ⊢
  | .str i, e, _, h => by cases e <;> simp [eqD, py, PyData.eqv, noB] at h ⊢
  | .bl _, _, h, _ => by simp [noB] at h
  | .obj _ _ _, _, h, _ => by simp [noB] at h
  | .scr _, _, h, _ => by simp [noB] at h
  | .dic, _, h, _ => by simp [noB] at h
  | .ty _, _, h, _ => by simp [noB] at h
  | .cls _, _, h, _ => by simp [noB] at h
  | .tup ds, e, h, h2 => by
    cases e with
    | tup es =>
      have := eqDs_iff ds es (by rw [noB] at h; exact h) (by rw [noB] at h2; exact h2)
      simp only [eqD, py, PyData.eqv, D.tup.injEq]
      exact this
    | _ => simp [eqD, py, PyData.eqv, noB] at h2 ⊢
  | .lst ds, e, h, h2 => by
    cases e with
    | lst es =>
      have := eqDs_iff ds es (by rw [noB] at h; exact h) (by rw [noB] at h2; exact h2)
      simp only [eqD, py, PyData.eqv, D.lst.injEq]
      exact this
    | _ => simp [eqD, py, PyData.eqv, noB] at h2 ⊢
theorem eqDs_iff : ∀ (ds es : List D), noBs ds = true → noBs es = true → (PyData.eqvAll (pys ds) (pys es) = true ↔ ds = es)
  | [], es, _, _ => by cases es <;> simp [pys, PyData.eqvAll]
  | d :: ds, [], _, _ => by simp [pys, PyData.eqvAll]
  | d :: ds, e :: es, h, h2 => by
    rw [noBs, Bool.and_eq_true] at h h2
    have a := eqD_iff d e h.1 h2.1
    have b := eqDs_iff ds es h.2 h2.2
    simp only [pys, PyData.eqvAll, Bool.and_eq_true, List.cons.injEq]
    unfold eqD at a
    rw [a, b]
end
/-! comprehensions -/
def wipeA (sl : List (Option AV)) : List Nat → List (Option AV)
  | [] => sl
  | v :: vs => (wipeA sl vs).set v none
def En.wipe (ρ : En) (vs : List Nat) : En := ⟨wipeA ρ.sl vs, ρ.ce⟩
theorem wipeA_len (sl : List (Option AV)) : ∀ vs, (wipeA sl vs).length = sl.length
  | [] => rfl
  | v :: vs => by rw [wipeA, List.length_set, wipeA_len sl vs]
theorem wipeA_get (sl : List (Option AV)) {i : Nat} {x : AV} : ∀ vs, (wipeA sl vs)[i]? = some (some x) → i ∉ vs ∧ sl[i]? = some (some x)
  | [], h => ⟨by simp, h⟩
  | v :: vs, h => by
    rw [wipeA] at h
    by_cases q : v = i
    · subst q
      rw [List.getElem?_set] at h
      simp at h
    · rw [List.getElem?_set_ne q] at h
      obtain ⟨a, b⟩ := wipeA_get sl vs h
      exact ⟨by simp only [List.mem_cons, not_or]; exact ⟨fun z => q z.symm, a⟩, b⟩
theorem wipe_get (σ : L2.St) {i : Nat} : ∀ {vs : List Nat}, i ∉ vs → (wipe σ vs)[i]? = σ[i]?
  | [], _ => rfl
  | v :: vs, h => by
    simp only [List.mem_cons, not_or] at h
    show ((wipe σ vs).set v none)[i]? = σ[i]?
    rw [List.getElem?_set_ne (fun z => h.1 z.symm), wipe_get σ h.2]
theorem EnvOk.wipe {as : List Addr} {σ σ2 : L2.St} {H G : Hp} {vs : List Nat} (e : EnvOk K F ρ as σ H G) (h : L2.wipe σ2 vs = L2.wipe σ vs) : EnvOk K F (ρ.wipe vs) as σ2 H G := by
  refine ⟨e.gh, e.fh, e.fg, e.g0, e.nd, e.pr, e.ln, e.ce, ?_, fun i x hi => ?_⟩
  · show σ2.length = (wipeA ρ.sl vs).length
    rw [wipeA_len, ← e.sn, ← wipe_length σ2 vs, h, wipe_length]
  · obtain ⟨a, b⟩ := wipeA_get ρ.sl vs hi
    obtain ⟨v, hv, r⟩ := e.sl i x b
    exact ⟨v, by rw [← wipe_get σ2 a, h, wipe_get σ a]; exact hv, r⟩
/-- a target that writes to these slots alone -/
def Only (g : TG) (vs : List Nat) : Prop := ∀ x σ H (Q Q2 : L2.St → Hp → Prop), (∀ σ' H', Q σ' H' → L2.wipe σ' vs = L2.wipe σ vs → Q2 σ' H') → g x σ H Q → g x σ H Q2
def OnlyS (g : TGs) (vs : List Nat) : Prop := ∀ x σ H (Q Q2 : L2.St → Hp → Prop), (∀ σ' H', Q σ' H' → L2.wipe σ' vs = L2.wipe σ vs → Q2 σ' H') → g x σ H Q → g x σ H Q2
theorem wipe_set (σ : L2.St) {i : Nat} {x : Option V} : ∀ {vs : List Nat}, i ∈ vs → L2.wipe (σ.set i x) vs = L2.wipe σ vs
  | v :: vs, h => by
    show (L2.wipe (σ.set i x) vs).set v none = (L2.wipe σ vs).set v none
    by_cases q : i ∈ vs
    · rw [wipe_set σ q]
    · have e : i = v := by rcases List.mem_cons.mp h with z | z; exact z; exact absurd z q
      subst e
      refine List.ext_getElem? fun j => ?_
      by_cases z : i = j
      · subst z; rw [List.getElem?_set, List.getElem?_set]; simp [wipe_length]
      · rw [List.getElem?_set_ne z, List.getElem?_set_ne z]
        by_cases y : j ∈ vs
        · have zero : ∀ (τ : L2.St) (ws : List Nat), j ∈ ws → (L2.wipe τ ws)[j]? = if j < τ.length then some none else none := by
            intro τ ws
            induction ws with
            | nil => intro m; cases m
            | cons w ws ih =>
              intro m
              show ((L2.wipe τ ws).set w none)[j]? = _
              by_cases b : w = j
              · subst b; rw [List.getElem?_set]; simp [wipe_length]
              · rw [List.getElem?_set_ne b]
                exact ih (by rcases List.mem_cons.mp m with c | c; exact absurd c.symm b; exact c)
          rw [zero _ _ y, zero _ _ y, List.length_set]
        · rw [wipe_get _ y, wipe_get _ y, List.getElem?_set_ne z]
theorem only_name {i : Nat} {vs : List Nat} (h : i ∈ vs) : Only (gName i) vs := fun x σ H Q Q2 i q => i _ _ q (wipe_set σ h)
theorem onlys_nil {vs : List Nat} : OnlyS gNil vs := fun x σ H Q Q2 i ⟨e, q⟩ => ⟨e, i _ _ q rfl⟩
theorem onlys_cons {i : Nat} {gs : TGs} {vs : List Nat} (h : i ∈ vs) (h2 : OnlyS gs vs) : OnlyS (gCons (gName i) gs) vs := fun x σ H Q Q2 im ⟨v, r, e, q⟩ => by
  subst e
  exact ⟨v, r, rfl, h2 r (σ.set i (some v)) H Q Q2 (fun σ' H' a b => im σ' H' a (by rw [b, wipe_set σ h])) q⟩
theorem only_tup {n : Nat} {gs : TGs} {vs : List Nat} (h2 : OnlyS gs vs) : Only (gTup K n gs) vs := fun x σ H Q Q2 im ⟨a, xs, e, s, l, q⟩ => ⟨a, xs, e, s, l, h2 xs σ H Q Q2 im q⟩
/-- the turns of a comprehension: n the cell of what is made -/
def LoopC (K : PySem.W.Frag) (F : Fx) (gd : En → Prop) (g : TG) (tt : TT) (te : TE) (vs : List Nat) (n : Nat) (k : AV → En → Prop) : List D → En → Prop
  | [], ρ => gd ρ ∧ k (.cel n) ρ
  | d :: ds, ρ => gd ρ ∧ WpG K F g (.dat d) ρ fun ρ1 => WpT K F tt ρ1 fun b ρ2 => if b = true then WpE K F te ρ2 fun y ρ3 => ∃ e ρ4 acc, Frz [y] ρ3 [e] ρ4 ∧ ρ4.ce[n]? = some (.lst acc) ∧ acc.length < 16000000 ∧ ∃ ρ5, Tr (n + 1) ((ρ4.cell n (.lst (acc ++ [e]))).wipe vs) ρ5 ∧ LoopC K F gd g tt te vs n k ds ρ5
      else ∃ ρ5, Tr (n + 1) (ρ2.wipe vs) ρ5 ∧ LoopC K F gd g tt te vs n k ds ρ5
theorem LoopC.gd {gd : En → Prop} {g : TG} {vs : List Nat} {n : Nat} : ∀ {ds : List D} {ρ : En}, LoopC K F gd g tt te vs n k ds ρ → gd ρ
  | [], _, h => h.1
  | _ :: _, _, h => h.1
theorem wipe_wipe (σ : L2.St) (vs : List Nat) : L2.wipe (L2.wipe σ vs) vs = L2.wipe σ vs := by
  refine List.ext_getElem? fun j => ?_
  by_cases y : j ∈ vs
  · have zero : ∀ (τ : L2.St) (ws : List Nat), j ∈ ws → (L2.wipe τ ws)[j]? = if j < τ.length then some none else none := by
      intro τ ws
      induction ws with
      | nil => intro m; cases m
      | cons w ws ih =>
        intro m
        show ((L2.wipe τ ws).set w none)[j]? = _
        by_cases b : w = j
        · subst b; rw [List.getElem?_set]; simp [wipe_length]
        · rw [List.getElem?_set_ne b]
          exact ih (by rcases List.mem_cons.mp m with c | c; exact absurd c.symm b; exact c)
    rw [zero _ _ y, zero _ _ y, wipe_length]
  · rw [wipe_get _ y]
theorem Tr.run2 {n : Nat} {ρ' : En} {as as0 : List Addr} {σ σ2 : L2.St} {H G G0 : Hp} (t : Tr n ρ ρ') (e : EnvOk K F ρ as σ H G) (e2 : EnvOk K F ρ as σ2 H G) (g : Gr G0 as0 G as) (h : as0.length ≤ n) (h0 : F.as0.length ≤ n) : ∃ as', EnvOk K F ρ' as' σ H G ∧ EnvOk K F ρ' as' σ2 H G ∧ Gr G0 as0 G as' := by
  cases t with
  | all => exact ⟨as, e, e2, g⟩
  | cut => exact ⟨_, e.trunc n h0, e2.trunc n h0, g.trunc h⟩
  | keep j h1 h2 => exact ⟨_, e.keep h0 h1 h2, e2.keep h0 h1 h2, g.keep h⟩
theorem we_lc {wi : TI} {g : TG} {vs : List Nat} (ho : Only g vs) (h : WpI K F wi ρ fun ds gd ρ1 => LoopC K F gd g tt te vs ρ1.ce.length k ds ((ρ1.add []).wipe vs)) : WpE K F (tLc wi g tt te vs) ρ k := fun as σ H G e Q q =>
  h as σ H G e _ fun ds gd J ρ1 as1 H1 G1 h1 e1 g1 its => by
    intro p hp
    obtain ⟨e2, g2⟩ := e1.newC (ds := []) (vs := []) hp .nil
    have pn : as1.length = ρ1.ce.length := e1.ln
    have pn0 : F.as0.length ≤ ρ1.ce.length + 1 := by have := e1.pr.length_le; omega
    have pn2 : (as1 ++ [p]).length ≤ ρ1.ce.length + 1 := by rw [List.length_append, pn]; exact Nat.le_refl _
    refine ⟨fun i m H' => m = ds.length - i ∧ i ≤ ds.length ∧ ∃ ρ2 as2 G2, EnvOk K F ρ2 as2 σ H' G2 ∧ EnvOk K F ρ2 as2 (L2.wipe σ vs) H' G2 ∧ Gr G1 (as1 ++ [p]) G2 as2 ∧ LoopC K F gd g tt te vs ρ1.ce.length k (ds.drop i) ρ2, ⟨_, rfl, Nat.zero_le _, _, _, _, e2.wipe rfl, e2.wipe (wipe_wipe σ vs), .refl, h1⟩, ?_⟩
    rintro i m H' ⟨rfl, hi, ρ2, as2, G2, e3, e3w, g3, lp⟩
    have g13 : Gr G1 as1 G2 as2 := g2.trans g3
    obtain ⟨go, st, yl⟩ := its ρ2 as2 (L2.wipe σ vs) H' G2 e3w g13 lp.gd
    have hat : as2[ρ1.ce.length]? = some p := by
      obtain ⟨_, r, rfl⟩ := g3
      rw [List.append_assoc, List.getElem?_append_right (by omega), pn]
      simp
    by_cases hlt : i < ds.length
    · obtain ⟨d, hd⟩ : ∃ d, ds[i]? = some d := ⟨_, List.getElem?_eq_getElem hlt⟩
      have ed : ds.drop i = d :: ds.drop (i + 1) := by
        rw [List.drop_eq_getElem_cons hlt]
        rw [List.getElem?_eq_getElem hlt] at hd
        cases hd
        rfl
      rw [ed] at lp
      refine .inr ⟨go i hlt, fun H3 => ∃ ρ3 as3 G3, EnvOk K F ρ3 as3 σ H3 G3 ∧ EnvOk K F ρ3 as3 (L2.wipe σ vs) H3 G3 ∧ Gr G1 (as1 ++ [p]) G3 as3 ∧ LoopC K F gd g tt te vs ρ1.ce.length k (ds.drop (i + 1)) ρ3, fun H3 ⟨ρ3, as3, G3, e3, e3w, g3, l3⟩ => ⟨_, by omega, rfl, hlt, ρ3, as3, G3, e3, e3w, g3, l3⟩, fun x H3 y => ?_⟩
      obtain ⟨d', G3, hd', e4, g4, rx⟩ := yl i x H3 hlt y
      rw [hd] at hd'
      cases hd'
      have main := lp.2 as2 (L2.wipe σ vs) H3 G3 x (e4 _ e3w) rx
        (fun σ2 H2 => (∃ ρ4 as4 G4, (WpT K F tt ρ4 fun b ρ2 => if b = true then WpE K F te ρ2 fun y ρ3 => ∃ e ρ4 acc, Frz [y] ρ3 [e] ρ4 ∧ ρ4.ce[ρ1.ce.length]? = some (.lst acc) ∧ acc.length < 16000000 ∧ ∃ ρ5, Tr (ρ1.ce.length + 1) ((ρ4.cell ρ1.ce.length (.lst (acc ++ [e]))).wipe vs) ρ5 ∧ LoopC K F gd g tt te vs ρ1.ce.length k (ds.drop (i + 1)) ρ5
      else ∃ ρ5, Tr (ρ1.ce.length + 1) (ρ2.wipe vs) ρ5 ∧ LoopC K F gd g tt te vs ρ1.ce.length k (ds.drop (i + 1)) ρ5) ∧ EnvOk K F ρ4 as4 σ2 H2 G4 ∧ Gr G3 as2 G4 as4)) (fun ρ4 as4 σ4 H4 G4 h4 e5 g5 => ⟨ρ4, as4, G4, h4, e5, g5⟩)
      refine ho x _ _ _ _ ?_ main
      rintro σ2 H4 ⟨ρ4, as4, G4, h4, e5, g5⟩ ew
      rw [wipe_wipe] at ew
      refine ⟨ew, h4 as4 σ2 H4 G4 e5 _ fun b ρ5 as5 H5 G5 h5 e6 g6 => ?_⟩
      have gg : Gr G1 (as1 ++ [p]) G5 as5 := g3.trans (g4.trans (g5.trans g6))
      cases b with
      | false =>
        obtain ⟨ρ7, tr, lp2⟩ := (show ∃ ρ5', Tr (ρ1.ce.length + 1) (ρ5.wipe vs) ρ5' ∧ _ from h5)
        obtain ⟨as7, x1, x2, x3⟩ := tr.run2 (e6.wipe ew.symm) (show EnvOk K F _ _ (L2.wipe σ vs) _ _ from e6.wipe (by rw [wipe_wipe, ew])) gg pn2 pn0
        exact ⟨ρ7, as7, G5, x1, x2, x3, lp2⟩
      | true =>
        refine (show WpE K F te ρ5 _ from h5) as5 σ2 H5 G5 e6 _ ?_
        rintro y ρ6 v as6 H6 G6 ⟨e', ρ7, acc, fz, hc, hl, ρ8, tr, lp2⟩ e7 g7 r7
        obtain ⟨G7, e8, g8, r8⟩ := fz.run e7 (.cons r7 .nil)
        have hat6 : as6[ρ1.ce.length]? = some p := by
          obtain ⟨_, r, rfl⟩ := g4.trans (g5.trans (g6.trans g7))
          rw [List.getElem?_append_left (List.getElem?_eq_some_iff.mp hat).1]
          exact hat
        obtain ⟨_, _, gn, ws, hw, hr⟩ := e8.ce _ _ p hc hat6
        cases r8 with
        | cons ra rb =>
          cases rb
          have e9 := e8.setC (c' := .lst (acc ++ [e'])) hc hat6 gn ⟨gn, _, upd_same, hr.append (.cons ra .nil)⟩
          obtain ⟨as7, x1, x2, x3⟩ := tr.run2 (e9.wipe ew.symm) (show EnvOk K F _ _ (L2.wipe σ vs) _ _ from e9.wipe (by rw [wipe_wipe, ew])) (gg.trans (g7.trans g8)) pn2 pn0
          exact ⟨ws, hw, szbl (by rw [hr.length]; omega), ρ8, as7, G7, x1, x2, x3, lp2⟩
    · have ei : i = ds.length := by omega
      subst ei
      rw [List.drop_length] at lp
      exact .inl ⟨st, q _ _ _ _ _ _ lp.2 e3 (g1.trans g13) ⟨p, hat, rfl⟩⟩
/-! errors -/
theorem ws_exc (h : ∀ as σ H G D, EnvOk K F ρ as σ H G → t D σ H) : WpS K F t ρ ks := fun as σ H G e D _ => h as σ H G D e
end
theorem frz_in {xs ds : List _} {ρ ρ2 : En} {P : List D → En → Prop} (h0 : Frz xs ρ ds ρ2) (h1 : Nat.ble ds.length 1000 = true) (h2 : P ds ρ2) : ∃ ds ρ2, Frz xs ρ ds ρ2 ∧ Nat.ble ds.length 1000 = true ∧ P ds ρ2 := ⟨ds, ρ2, h0, h1, h2⟩
theorem il_in {x : AV} {ds : List D} {ρ : En} {P : List D → Prop} (h0 : IsL ρ x ds) (h2 : P ds) : ∃ ds, IsL ρ x ds ∧ P ds := ⟨ds, h0, h2⟩
theorem lc_in {y : AV} {e : D} {ρ ρ4 : En} {n : Nat} {acc : List D} {P : D → En → List D → Prop} (h0 : Frz [y] ρ [e] ρ4) (h1 : ρ4.ce[n]? = some (.lst acc)) (h2 : acc.length < 16000000) (h3 : P e ρ4 acc) : ∃ e ρ4 acc, Frz [y] ρ [e] ρ4 ∧ ρ4.ce[n]? = some (.lst acc) ∧ acc.length < 16000000 ∧ P e ρ4 acc := ⟨e, ρ4, acc, h0, h1, h2, h3⟩
theorem wgs_nilM {K : PySem.W.Frag} {F : Fx} {ρ : En} {kn : En → Prop} (h : kn ρ) : WpGs K F gNil (List.map AV.dat []) ρ kn := wgs_nil h
theorem wgs_consM {K : PySem.W.Frag} {F : Fx} {ρ : En} {g : TG} {gs : TGs} {d : D} {ds : List D} {kn : En → Prop} (h : WpG K F g (.dat d) ρ fun ρ1 => WpGs K F gs (ds.map .dat) ρ1 kn) : WpGs K F (gCons g gs) ((d :: ds).map .dat) ρ kn := wgs_cons h
section
variable {K : PySem.W.Frag} {F : Fx} {ρ : En} {k : AV → En → Prop} {ks ks' : KS} {t : TS} {te : TE} {tt : TT}
theorem WpS.imp (h : WpS K F t ρ ks) (h1 : ∀ ρ, ks.nx ρ → ks'.nx ρ) (h2 : ∀ x ρ, ks.rt x ρ → ks'.rt x ρ) (h3 : ∀ ρ, ks.bk ρ → ks'.bk ρ) (h4 : ∀ ρ, ks.ct ρ → ks'.ct ρ) : WpS K F t ρ ks' := fun as σ H G e D q =>
  h as σ H G e D ⟨fun ρ as' σ H G' a b c => q.nx ρ as' σ H G' (h1 _ a) b c, fun av ρ v as' σ H G' a b c d => q.rt av ρ v as' σ H G' (h2 _ _ a) b c d, fun ρ as' σ H G' a b c => q.bk ρ as' σ H G' (h3 _ a) b c, fun ρ as' σ H G' a b c => q.ct ρ as' σ H G' (h4 _ a) b c, q.fr⟩
theorem WpG.imp {g : TG} {x : AV} {kn kn' : En → Prop} (h : WpG K F g x ρ kn) (i : ∀ ρ, kn ρ → kn' ρ) : WpG K F g x ρ kn' := fun as σ H G v e r Q q => h as σ H G v e r Q fun ρ' as' σ' H' G' a b c => q ρ' as' σ' H' G' (i _ a) b c
theorem WpT.imp {kb kb' : Bool → En → Prop} (h : WpT K F tt ρ kb) (i : ∀ b ρ, kb b ρ → kb' b ρ) : WpT K F tt ρ kb' := fun as σ H G e Q q => h as σ H G e Q fun b ρ' as' H' G' a c d => q b ρ' as' H' G' (i _ _ a) c d
/-- what holds at a turn's end -/
inductive Now (p : Prop) : Prop
  | one (h : p)
  | two (h : p)
theorem now {p : Prop} (h : p) : Now p := .one h
theorem Now.out {p : Prop} (h : Now p) : p := by cases h <;> assumption
theorem loop_by {n : Nat} {gd : En → Prop} {g : TG} {tb : TS} {ds : List D} (I : List D → En → Prop) (h0 : I ds ρ) (hn : ∀ ρ, I [] ρ → gd ρ ∧ ks.nx ρ)
    (hs : ∀ d ds ρ, I (d :: ds) ρ → gd ρ ∧ WpG K F g (.dat d) ρ fun ρ1 => WpS K F tb ρ1 { nx := fun ρ2 => Now (I ds ρ2), rt := ks.rt, ct := fun ρ2 => Now (I ds ρ2), bk := ks.nx }) : Loop K F n gd g tb ks ds ρ := by
  induction ds generalizing ρ with
  | nil => exact hn ρ h0
  | cons d ds ih =>
    obtain ⟨a, b⟩ := hs d ds ρ h0
    exact ⟨a, b.imp fun ρ1 h1 => h1.imp (fun ρ2 h2 => ⟨ρ2, .all, ih h2.out⟩) (fun _ _ z => z) (fun _ z => z) (fun ρ2 h2 => ⟨ρ2, .all, ih h2.out⟩)⟩
/-- .. each turn's own cells forgotten -/
theorem loop_cut {n : Nat} {gd : En → Prop} {g : TG} {tb : TS} {ds : List D} (I : List D → En → Prop) (h0 : I ds ρ) (hn : ∀ ρ, I [] ρ → gd ρ ∧ ks.nx ρ)
    (hs : ∀ d ds ρ, I (d :: ds) ρ → gd ρ ∧ WpG K F g (.dat d) ρ fun ρ1 => WpS K F tb ρ1 { nx := fun ρ2 => Now (I ds (ρ2.trunc n)), rt := ks.rt, ct := fun ρ2 => Now (I ds (ρ2.trunc n)), bk := ks.nx }) : Loop K F n gd g tb ks ds ρ := by
  induction ds generalizing ρ with
  | nil => exact hn ρ h0
  | cons d ds ih =>
    obtain ⟨a, b⟩ := hs d ds ρ h0
    exact ⟨a, b.imp fun ρ1 h1 => h1.imp (fun ρ2 h2 => ⟨_, .cut, ih h2.out⟩) (fun _ _ z => z) (fun _ z => z) (fun ρ2 h2 => ⟨_, .cut, ih h2.out⟩)⟩
/-- .. each turn's end as one likes -/
theorem loop_any {n : Nat} {gd : En → Prop} {g : TG} {tb : TS} {ds : List D} (I : List D → En → Prop) (h0 : I ds ρ) (hn : ∀ ρ, I [] ρ → gd ρ ∧ ks.nx ρ)
    (hs : ∀ d ds ρ, I (d :: ds) ρ → gd ρ ∧ WpG K F g (.dat d) ρ fun ρ1 => WpS K F tb ρ1 { nx := fun ρ2 => Now (∃ ρ3, Tr n ρ2 ρ3 ∧ I ds ρ3), rt := ks.rt, ct := fun ρ2 => Now (∃ ρ3, Tr n ρ2 ρ3 ∧ I ds ρ3), bk := ks.nx }) : Loop K F n gd g tb ks ds ρ := by
  induction ds generalizing ρ with
  | nil => exact hn ρ h0
  | cons d ds ih =>
    obtain ⟨a, b⟩ := hs d ds ρ h0
    exact ⟨a, b.imp fun ρ1 h1 => h1.imp (fun ρ2 h2 => let ⟨ρ3, t, i⟩ := h2.out; ⟨ρ3, t, ih i⟩) (fun _ _ z => z) (fun _ z => z) (fun ρ2 h2 => let ⟨ρ3, t, i⟩ := h2.out; ⟨ρ3, t, ih i⟩)⟩
theorem loopC_by {gd : En → Prop} {g : TG} {vs : List Nat} {n : Nat} {ds : List D} (I : List D → En → Prop) (h0 : I ds ρ) (hn : ∀ ρ, I [] ρ → gd ρ ∧ k (.cel n) ρ)
    (hs : ∀ d ds ρ, I (d :: ds) ρ → gd ρ ∧ WpG K F g (.dat d) ρ fun ρ1 => WpT K F tt ρ1 fun b ρ2 => if b = true then WpE K F te ρ2 fun y ρ3 => ∃ e ρ4 acc, Frz [y] ρ3 [e] ρ4 ∧ ρ4.ce[n]? = some (.lst acc) ∧ acc.length < 16000000 ∧ Now (I ds (((ρ4.cell n (.lst (acc ++ [e]))).wipe vs).trunc (n + 1)))
      else Now (I ds ((ρ2.wipe vs).trunc (n + 1)))) : LoopC K F gd g tt te vs n k ds ρ := by
  induction ds generalizing ρ with
  | nil => exact hn ρ h0
  | cons d ds ih =>
    obtain ⟨a, b⟩ := hs d ds ρ h0
    refine ⟨a, b.imp fun ρ1 h1 => h1.imp fun b ρ2 h2 => ?_⟩
    cases b with
    | true => exact WpE.imp h2 fun y ρ3 ⟨e, ρ4, acc, x1, x2, x3, x4⟩ => ⟨e, ρ4, acc, x1, x2, x3, _, .cut, ih x4.out⟩
    | false => exact ⟨_, .cut, ih (show Now _ from h2).out⟩
end
section
variable {K : PySem.W.Frag} {F : Fx} {ρ : En} {k : AV → En → Prop}
/-- an item at a drawn place -/
theorem wr_ixA {x : AV} {ds : List D} {i : Int} (hx : IsL ρ x ds) (h0 : 0 ≤ i) (h1 : i < ds.length) (hk : ∀ d ∈ ds, k (.dat d) ρ) : WpR K F (rIxL K) x (.dat (.int i)) ρ k := by
  have hl : i.toNat < ds.length := by omega
  have e : ((i.toNat : Nat) : Int) = i := by omega
  have ha := atI_nat (xs := ds) (j := i.toNat) (v := ds[i.toNat]) (List.getElem?_eq_getElem hl)
  rw [e] at ha
  exact wr_ixL hx ha (hk _ (List.getElem_mem hl))
/-- a list of one number is a state to draw from -/
theorem EnvOk.drw {as : List Addr} {σ : L2.St} {H G : Hp} {j : Nat} {n : Int} (e : EnvOk K F ρ as σ H G) (hj : ρ.ce[j]? = some (.lst [.int n])) : EnvOk K F (ρ.cell j .drw) as σ H G := by
  have hl : j < ρ.ce.length := (List.getElem?_eq_some_iff.mp hj).1
  refine ⟨e.gh, e.fh, e.fg, e.g0, e.nd, e.pr, by rw [e.ln]; exact (List.length_set).symm, fun i c a hc ha => ?_, e.sn, e.sl⟩
  have hc' : (ρ.ce.set j .drw)[i]? = some c := hc
  by_cases hij : j = i
  · subst hij
    rw [List.getElem?_set_self hl] at hc'
    cases hc'
    obtain ⟨fa, ho, g, ws, hw, hr⟩ := e.ce j _ a hj ha
    refine ⟨fa, ho, g, ws, hw, ?_⟩
    cases hr with
    | cons x y => cases y; cases x; exact .inl ⟨_, rfl⟩
  · rw [List.getElem?_set_ne hij] at hc'
    exact e.ce i c a hc' ha
theorem wsp_drw {sp : Sp} {E : L2.St → XK} {xs : List AV} {j : Nat} {n : Int} (hj : ρ.ce[j]? = some (.lst [.int n])) (h : WpSp K F sp E xs (ρ.cell j .drw) k) : WpSp K F sp E xs ρ k := fun as σ H G vs e r Q q =>
  h as σ H G vs (e.drw hj) r Q (q.imp .refl fun _ _ z => z)
theorem ws_drw {t : TS} {ks : KS} {j : Nat} {n : Int} (hj : ρ.ce[j]? = some (.lst [.int n])) (h : WpS K F t (ρ.cell j .drw) ks) : WpS K F t ρ ks := fun as σ H G e D q => h as σ H G (e.drw hj) D q
end
theorem rngD_len {lo : Int} {n : Nat} : (rngD lo n).length = n := by unfold rngD; rw [List.length_map, List.length_range]
theorem rngD_drop {lo : Int} {n i : Nat} (h : i < n) : (rngD lo n).drop i = .int (lo + i) :: (rngD lo n).drop (i + 1) := by
  have hl : i < (rngD lo n).length := by rw [rngD_len]; exact h
  rw [List.drop_eq_getElem_cons hl]
  congr 1
  have : (rngD lo n)[i]? = some (.int (lo + i)) := by unfold rngD; rw [List.getElem?_map, List.getElem?_range h]; rfl
  rw [List.getElem?_eq_getElem hl] at this
  exact Option.some.inj this
section
variable {K : PySem.W.Frag} {F : Fx} {ρ : En} {k : AV → En → Prop} {ks : KS} {te : TE} {tt : TT}
theorem loop_rng {m : Nat} {gd : En → Prop} {g : TG} {tb : TS} {lo : Int} {n : Nat} (I : Nat → En → Prop) (h0 : I 0 ρ) (hn : ∀ ρ, I n ρ → gd ρ ∧ ks.nx ρ)
    (hs : ∀ i ρ, i < n → I i ρ → gd ρ ∧ WpG K F g (.dat (.int (lo + i))) ρ fun ρ1 => WpS K F tb ρ1 { nx := fun ρ2 => Now (I (i + 1) (ρ2.trunc m)), rt := ks.rt, ct := fun ρ2 => Now (I (i + 1) (ρ2.trunc m)), bk := ks.nx }) : Loop K F m gd g tb ks (rngD lo n) ρ := by
  refine loop_cut (fun ds ρ => ∃ i, i ≤ n ∧ ds = (rngD lo n).drop i ∧ I i ρ) ⟨0, Nat.zero_le _, rfl, h0⟩ ?_ ?_
  · rintro ρ ⟨i, hi, hd, h⟩
    have : i = n := by
      rcases Nat.lt_or_ge i n with z | z
      · rw [rngD_drop z] at hd; cases hd
      · omega
    subst this
    exact hn ρ h
  · rintro d ds ρ ⟨i, hi, hd, h⟩
    rcases Nat.lt_or_ge i n with z | z
    · rw [rngD_drop z] at hd
      cases hd
      obtain ⟨a, b⟩ := hs i ρ z h
      exact ⟨a, b.imp fun ρ1 h1 => h1.imp (fun ρ2 h2 => now ⟨i + 1, z, rfl, h2.out⟩) (fun _ _ z => z) (fun _ z => z) (fun ρ2 h2 => now ⟨i + 1, z, rfl, h2.out⟩)⟩
    · rw [List.drop_of_length_le (by rw [rngD_len]; exact z)] at hd; cases hd
theorem loopC_rng {gd : En → Prop} {g : TG} {vs : List Nat} {m : Nat} {lo : Int} {n : Nat} (I : Nat → En → Prop) (h0 : I 0 ρ) (hn : ∀ ρ, I n ρ → gd ρ ∧ k (.cel m) ρ)
    (hs : ∀ i ρ, i < n → I i ρ → gd ρ ∧ WpG K F g (.dat (.int (lo + i))) ρ fun ρ1 => WpT K F tt ρ1 fun b ρ2 => if b = true then WpE K F te ρ2 fun y ρ3 => ∃ e ρ4 acc, Frz [y] ρ3 [e] ρ4 ∧ ρ4.ce[m]? = some (.lst acc) ∧ acc.length < 16000000 ∧ Now (I (i + 1) (((ρ4.cell m (.lst (acc ++ [e]))).wipe vs).trunc (m + 1)))
      else Now (I (i + 1) ((ρ2.wipe vs).trunc (m + 1)))) : LoopC K F gd g tt te vs m k (rngD lo n) ρ := by
  refine loopC_by (fun ds ρ => ∃ i, i ≤ n ∧ ds = (rngD lo n).drop i ∧ I i ρ) ⟨0, Nat.zero_le _, rfl, h0⟩ ?_ ?_
  · rintro ρ ⟨i, hi, hd, h⟩
    have : i = n := by
      rcases Nat.lt_or_ge i n with z | z
      · rw [rngD_drop z] at hd; cases hd
      · omega
    subst this
    exact hn ρ h
  · rintro d ds ρ ⟨i, hi, hd, h⟩
    rcases Nat.lt_or_ge i n with z | z
    · rw [rngD_drop z] at hd
      cases hd
      obtain ⟨a, b⟩ := hs i ρ z h
      refine ⟨a, b.imp fun ρ1 h1 => h1.imp fun b ρ2 h2 => ?_⟩
      cases b with
      | true => exact WpE.imp h2 fun y ρ3 ⟨e, ρ4, acc, x1, x2, x3, x4⟩ => ⟨e, ρ4, acc, x1, x2, x3, now ⟨i + 1, z, rfl, x4.out⟩⟩
      | false => exact now ⟨i + 1, z, rfl, (show Now _ from h2).out⟩
    · rw [List.drop_of_length_le (by rw [rngD_len]; exact z)] at hd; cases hd
end
/-! ### rules of the data layer: truth of lists, items stored, pop -/
def tTru (K : PySem.W.Frag) (ta : TE) : TT := fun σ H Q => ta σ H fun x H' => ∃ k, TruV K x H' k ∧ Q k H'
theorem pt_tru {X : Cx} {K : PySem.W.Frag} {a : Expr} {ta : TE} (hK : X.K = K) (h : PE X a ta) (he : ∀ whole, isTrue a X.env whole = (do let v ← whole; standAt a.pos; holding [v] (truthy v))) : PT X a (tTru K ta) := by
  subst hK
  exact pt_truth h he
section
variable {K : PySem.W.Frag} {F : Fx} {ρ : En} {k : AV → En → Prop} {kb : Bool → En → Prop} {ta to ti : TE}
theorem isEmpty_reps {G : Hp} {ds : List D} {vs : List V} (h : Reps K G ds vs) : vs.isEmpty = ds.isEmpty := by
  cases ds with
  | nil => cases h; rfl
  | cons => cases h; rfl
theorem wt_tru (h : WpE K F ta ρ fun x ρ1 => ∃ ds, IsL ρ1 x ds ∧ kb (!ds.isEmpty) ρ1) : WpT K F (tTru K ta) ρ kb := fun as σ H G e Q q =>
  h as σ H G e _ fun x ρ1 vx as1 H1 G1 ⟨ds, hx, h1⟩ e1 g1 r1 => by
    obtain ⟨a, vs, rfl, hs, hr⟩ := hx.rep e1 r1
    refine ⟨!ds.isEmpty, .inl ⟨vs, hs, by rw [isEmpty_reps hr]⟩, q _ _ _ _ _ h1 e1 g1⟩
theorem wg_sub {x : AV} {kn : En → Prop} (h : WpE K F to ρ fun o ρ1 => WpE K F ti ρ1 fun i ρ2 => ∃ (j m : Nat) (n : Int) (d : D) (ρ3 : En) (ds : List D), o = .cel j ∧ i = .dat (.int n) ∧ Frz [x] ρ2 [d] ρ3 ∧ ρ3.ce[j]? = some (.lst ds) ∧ ixN ds.length n = some m ∧ kn (ρ3.cell j (.lst (ds.set m d)))) : WpG K F (gSub to ti rSetL) x ρ kn := fun as σ H G v e r Q q =>
  h as σ H G e _ fun o ρ1 vo as1 H1 G1 h1 e1 g1 r1 => h1 as1 σ H1 G1 e1 _ fun i ρ2 vi as2 H2 G2 ⟨j, m, n, d, ρ3, ds, eo, ei, fz, hc, hi, hk⟩ e2 g2 r2 => by
    subst eo ei
    obtain ⟨G3, e3, g3, r3⟩ := fz.run e2 (.cons (r.mono (g1.trans g2)) .nil)
    obtain ⟨a, ha, rfl⟩ := r1.mono g2
    cases r3 with
    | cons y z =>
      cases z
      obtain ⟨_, _, g, ws, hw, hr⟩ := e3.ce j _ a hc ha
      refine ⟨a, ws, n, m, rfl, Rep.intE r2, hw, by rw [hr.length]; exact hi, q _ as2 σ _ G3 hk (e3.setC hc ha g ⟨g, _, upd_same, hr.set y m⟩) (g1.trans (g2.trans g3))⟩
theorem wm_pop {j : Nat} {ds : List D} {d : D} (hc : ρ.ce[j]? = some (.lst ds)) (hd : ds.getLast? = some d) (hk : k (.dat d) (ρ.cell j (.lst ds.dropLast))) : WpM K F rPop (.cel j) [] ρ k := fun as σ H G v vs e r1 r2 Q q => by
  obtain ⟨a, ha, rfl⟩ := r1
  cases r2
  obtain ⟨_, _, g, ws, hw, hr⟩ := e.ce j _ a hc ha
  rw [List.getLast?_eq_getElem?] at hd
  obtain ⟨v, hv, rv⟩ := hr.get hd
  have hdl : Reps K G ds.dropLast ws.dropLast := by
    rw [List.dropLast_eq_take, List.dropLast_eq_take, hr.length]
    exact hr.take _
  exact ⟨a, ws, v, rfl, rfl, hw, by rw [hr.length]; exact hv, q _ _ _ as _ G hk (e.setC hc ha g ⟨g, _, upd_same, hdl⟩) .refl rv⟩
theorem sub_in {o i : AV} {x : AV} {j m : Nat} {n : Int} {d : D} {ρ2 ρ3 : En} {ds : List D} {kn : En → Prop} (h1 : o = .cel j) (h2 : i = .dat (.int n)) (h0 : Frz [x] ρ2 [d] ρ3) (h3 : ρ3.ce[j]? = some (.lst ds)) (h4 : ixN ds.length n = some m) (hk : kn (ρ3.cell j (.lst (ds.set m d)))) :
    ∃ (j m : Nat) (n : Int) (d : D) (ρ3 : En) (ds : List D), o = .cel j ∧ i = .dat (.int n) ∧ Frz [x] ρ2 [d] ρ3 ∧ ρ3.ce[j]? = some (.lst ds) ∧ ixN ds.length n = some m ∧ kn (ρ3.cell j (.lst (ds.set m d))) := ⟨j, m, n, d, ρ3, ds, h1, h2, h0, h3, h4, hk⟩
end
theorem mapC {α β : Type} (f : α → β) (a : α) (l : List α) : List.map f (a :: l) = f a :: List.map f l := rfl
theorem mapN {α β : Type} (f : α → β) : List.map f [] = [] := rfl
theorem frzA_d (j : Nat) (d e : D) : frzA j d (.dat e) = .dat e := rfl
theorem frzA_c (j i : Nat) (d : D) : frzA j d (.cel i) = if i = j then .dat d else .cel i := rfl
/-! ### try by data -/
section
variable {K : PySem.W.Frag} {F : Fx} {ρ : En} {k : AV → En → Prop} {ks : KS}
def En.clr (ρ : En) (i : Nat) : En := ⟨ρ.sl.set i none, ρ.ce⟩
theorem EnvOk.clr {as : List Addr} {σ : L2.St} {H G : Hp} (e : EnvOk K F ρ as σ H G) (i : Nat) : EnvOk K F (ρ.clr i) as (σ.set i none) H G :=
  ⟨e.gh, e.fh, e.fg, e.g0, e.nd, e.pr, e.ln, e.ce, by rw [List.length_set, e.sn]; exact (List.length_set).symm, fun j av hj => by
    have hj' : (ρ.sl.set i none)[j]? = some (some av) := hj
    by_cases hij : i = j
    · subst hij
      rw [List.getElem?_set] at hj'
      simp at hj'
    · rw [List.getElem?_set_ne hij] at hj'
      obtain ⟨v, hv, r⟩ := e.sl j av hj'
      exact ⟨v, by rw [List.getElem?_set_ne hij]; exact hv, r⟩⟩
def KS.off (ks : KS) (i : Nat) : KS := { nx := fun ρ => ks.nx (ρ.clr i), rt := ks.rt, bk := fun ρ => ks.bk (ρ.clr i), ct := fun ρ => ks.ct (ρ.clr i) }
theorem EndsOk.off {as : List Addr} {G : Hp} {D : Ends} (q : EndsOk K F as G ks D) (i : Nat) : EndsOk K F as G (ks.off i) (offAt i D) :=
  ⟨fun ρ as' σ H G' a b c => q.nx _ as' _ H G' a (b.clr i) c, q.rt, fun ρ as' σ H G' a b c => q.bk _ as' _ H G' a (b.clr i) c, fun ρ as' σ H G' a b c => q.ct _ as' _ H G' a (b.clr i) c, q.fr⟩
/-- what an error of the class C meets at the clauses -/
def Mix (K : PySem.W.Frag) (F : Fx) (C : Addr) (out : Prop) : List (Value × Option Nat × Suite) → En → KS → Prop
  | [], _, _ => out
  | (c, none, t) :: r, ρ, ks => ∃ y, PySem.W.exmOne K (.ref C) c = some y ∧ if y = true then ∀ e, WpS K F (t e (.ref C) none) ρ ks else Mix K F C out r ρ ks
  | (c, some i, t) :: r, ρ, ks => ∃ y, PySem.W.exmOne K (.ref C) c = some y ∧ if y = true then ∀ e, WpS K F (t e (.ref C) none) (ρ.put i (.dat (.cls e))) (ks.off i) else Mix K F C out r ρ ks
theorem Mix.run {C : Addr} {out : Prop} {Wo : WX} {as as0 : List Addr} {σ : L2.St} {H G G0 : Hp} {D : Ends} (e : EnvOk K F ρ as σ H G) (hWo : out → Wo (.ref C) none σ H) (q : EndsOk K F as G ks D) : ∀ {l : List (Value × Option Nat × Suite)}, Mix K F C out l ρ ks → wMix K Wo D l (.ref C) none σ H
  | [], h => hWo h
  | (c, none, t) :: r, ⟨y, hy, h⟩ => by
    refine ⟨y, hy, fun z x _ => ?_, fun z => ?_⟩
    · subst z
      exact (show ∀ x, WpS K F (t x (.ref C) none) ρ ks from h) x as σ H G e D q
    · subst z
      exact Mix.run (as0 := as0) (G0 := G0) e hWo q (show Mix K F C out r ρ ks from h)
  | (c, some i, t) :: r, ⟨y, hy, h⟩ => by
    refine ⟨y, hy, fun z x _ => ?_, fun z => ?_⟩
    · subst z
      exact (show ∀ x, WpS K F (t x (.ref C) none) (ρ.put i (.dat (.cls x))) (ks.off i) from h) x as _ H G (e.put (x := .dat (.cls x)) (Rep.cls x)) _ (q.off i)
    · subst z
      exact Mix.run (as0 := as0) (G0 := G0) e hWo q (show Mix K F C out r ρ ks from h)
/-- xk: which errors come, and at which environment -/
theorem ws_try {tb : WX → TS} {Wo : WX} {l : List (Value × Option Nat × Suite)} (xk : Addr → En → Prop) (out : Addr → Prop)
    (hWo : ∀ C ρ' as σ H G, out C → EnvOk K F ρ' as σ H G → Wo (.ref C) none σ H)
    (hb : ∀ (F1 : Fx) (W : WX), F1.fr = F.fr → (∀ C ρ' as σ H G, xk C ρ' → EnvOk K F1 ρ' as σ H G → W (.ref C) none σ H) → WpS K F1 (tb W) ρ ks)
    (hs : ∀ C ρ', xk C ρ' → Mix K F C (out C) l ρ' ks) : WpS K F (fun D u G => tb (wMix K Wo D l) D u G) ρ ks := fun as σ H G e D q => by
  have e1 : EnvOk K ⟨F.Fr, G, F.E, F.ex, F.hE, F.fr, as⟩ ρ as σ H G := ⟨e.gh, e.fh, fun a o h => .inl h, Same.refl _, e.nd, List.prefix_refl _, e.ln, e.ce, e.sn, e.sl⟩
  have back : ∀ {ρ' : En} {as' : List Addr} {σ' : L2.St} {H' G' : Hp}, EnvOk K ⟨F.Fr, G, F.E, F.ex, F.hE, F.fr, as⟩ ρ' as' σ' H' G' → EnvOk K F ρ' as' σ' H' G' ∧ Gr G as G' as' := fun {ρ' as' σ' H' G'} x => by
    refine ⟨⟨x.gh, x.fh, fun a o h => ?_, Same.trans e.g0 x.g0, x.nd, e.pr.trans x.pr, x.ln, x.ce, x.sn, x.sl⟩, ⟨x.g0, ?_⟩⟩
    · rcases x.fg a o h with z | z
      · exact e.fg a o z
      · exact .inr z
    · obtain ⟨r, hr⟩ := x.pr
      exact ⟨r, hr.symm⟩
  refine hb ⟨F.Fr, G, F.E, F.ex, F.hE, F.fr, as⟩ (wMix K Wo D l) rfl (fun C ρ' as' σ' H' G' hx ex => ?_) as σ H G e1 D ⟨fun ρ' as' σ' H' G' a b _ => ?_, fun av ρ' v as' σ' H' G' a b _ r => ?_, fun ρ' as' σ' H' G' a b _ => ?_, fun ρ' as' σ' H' G' a b _ => ?_, q.fr⟩
  · obtain ⟨b1, g1⟩ := back ex
    exact Mix.run (as0 := as) (G0 := G) b1 (fun z => hWo C ρ' as' σ' H' G' z b1) (EndsOk.grow K F q g1) (hs C ρ' hx)
  · obtain ⟨b1, g1⟩ := back b
    exact q.nx ρ' as' σ' H' G' a b1 g1
  · obtain ⟨b1, g1⟩ := back b
    exact q.rt av ρ' v as' σ' H' G' a b1 g1 r
  · obtain ⟨b1, g1⟩ := back b
    exact q.bk ρ' as' σ' H' G' a b1 g1
  · obtain ⟨b1, g1⟩ := back b
    exact q.ct ρ' as' σ' H' G' a b1 g1
/-- nothing is let out -/
theorem ws_try0 {tb : WX → TS} {l : List (Value × Option Nat × Suite)} (xk : Addr → En → Prop)
    (hb : ∀ (F1 : Fx) (W : WX), F1.fr = F.fr → (∀ C ρ' as σ H G, xk C ρ' → EnvOk K F1 ρ' as σ H G → W (.ref C) none σ H) → WpS K F1 (tb W) ρ ks)
    (hs : ∀ C ρ', xk C ρ' → Mix K F C False l ρ' ks) : WpS K F (fun D u G => tb (wMix K (fun _ _ _ _ => False) D l) D u G) ρ ks := ws_try xk (fun _ => False) (fun _ _ _ _ _ _ z _ => z) hb hs
/-- a call in a try: its errors meet the clauses -/
theorem wspT {W : PW0} {Wx : WX} {xk : Addr → En → Prop} {xs : List AV} {ds : List D} (hW : ∀ C ρ' as σ H G, xk C ρ' → EnvOk K F ρ' as σ H G → Wx (.ref C) none σ H) (ha : AsD ρ xs ds) (hw : W (ds.map .dat) [] (fun r _ => aft ρ xs k r) (fun C => xk C ρ)) : WpSp K F (spG K W) (L2.WE Wx) xs ρ k := wsp0 ha (fun C as σ H G h e => hW C ρ as σ H G h e) hw
/-- isinstance of a caught error -/
theorem wc_isE {a C Y : Addr} {b : Bool} (hx : ExcC K C) (hk : PySem.W.kitOne K (.ref C) (.ref Y) = some b) (h : k (.dat (.bl b)) ρ) : WpC K F (fun xs H Q => ∃ D, Value.ref C = .ref D ∧ (none : Option Addr) = none ∧ ExcC K D ∧ rIsE K D a xs H Q) [.dat (.cls a), .dat (.cls Y)] ρ k := fun as σ H G vs e r Q q => by
  cases r with
  | cons r1 r2 =>
    cases r2 with
    | cons r2 r3 =>
      cases r3
      cases (show Rep K G (.cls a) _ from r1)
      cases (show Rep K G (.cls Y) _ from r2)
      exact ⟨C, rfl, rfl, hx, _, _, b, rfl, (fun u hu => by cases hu; rfl), hk, q _ ρ _ as H G h e .refl (Rep.bl _)⟩
theorem wc_isEB {a C : Addr} {s : String} {b : Bool} (hx : ExcC K C) (hk : PySem.W.kitOne K (.ref C) (.type s) = some b) (h : k (.dat (.bl b)) ρ) : WpC K F (fun xs H Q => ∃ D, Value.ref C = .ref D ∧ (none : Option Addr) = none ∧ ExcC K D ∧ rIsE K D a xs H Q) [.dat (.cls a), .dat (.ty s)] ρ k := fun as σ H G vs e r Q q => by
  cases r with
  | cons r1 r2 =>
    cases r2 with
    | cons r2 r3 =>
      cases r3
      cases (show Rep K G (.cls a) _ from r1)
      cases (show Rep K G (.ty s) _ from r2)
      exact ⟨C, rfl, rfl, hx, _, _, b, rfl, (fun u hu => by cases hu; rfl), hk, q _ ρ _ as H G h e .refl (Rep.bl _)⟩
/-- {} -/
theorem we_dnew (h : k (.dat .dic) ρ) : WpE K F tDNewK ρ k := fun as σ H G e Q q p hp => by
  obtain ⟨e3, g3⟩ := e.newG (o := .dK []) hp
  exact q _ _ _ _ _ _ h e3 g3 (Rep.dic upd_same)
end
/-! ### a try as one word -/
def tTry (K : PySem.W.Frag) (tb : WX → TS) (Wo : WX) (l : List (Value × Option Nat × Suite)) : TS := fun D u G => tb (wMix K Wo D l) D u G
theorem ps_tryT {X : Cx} {body : List Stmt} {h1 : ExceptHandler} {hds : List ExceptHandler} {l : List (Value × Option Nat × Suite)} {pos : Pos} {tb : WX → TS} {Wo : WX} (hs : X.stack = X.env :: X.outer) (hf : X.env.frame = some X.env.locals) (tk : Takes X Wo)
    (hb : ∀ W pn xe, Takes (X.tr pn xe) W → PassesOwn (model X.prog X.w) X.A X.env xe → PSs (X.tr pn xe) body (tb W)) (hh : Clauses X (h1 :: hds) l) :
    PS X (.Try body (h1 :: hds) [] [] pos) (tTry X.K tb Wo l) := ps_try_mix hs hf tk hb hh
section
variable {K : PySem.W.Frag} {F : Fx} {ρ : En} {k : AV → En → Prop} {ks : KS}
theorem ws_tryT {tb : WX → TS} {l : List (Value × Option Nat × Suite)} (xk : Addr → En → Prop)
    (hb : ∀ (F1 : Fx) (W : WX), F1.fr = F.fr → (∀ C ρ' as σ H G, xk C ρ' → EnvOk K F1 ρ' as σ H G → W (.ref C) none σ H) → WpS K F1 (tb W) ρ ks)
    (hs : ∀ C ρ', xk C ρ' → Mix K F C False l ρ' ks) : WpS K F (tTry K tb (fun _ _ _ _ => False) l) ρ ks := ws_try0 xk hb hs
end
/-! ### objects by data -/
def lookD : List Str → List D → Str → Option D
  | n :: ns, d :: ds, f => if (f == n) = true then some d else lookD ns ds f
  | _, _, _ => none
def putN (f : Str) : List Str → List Str
  | [] => [f]
  | g :: r => if g = f then g :: r else g :: putN f r
def putD (f : Str) (d : D) : List Str → List D → List D
  | g :: r, x :: xs => if g = f then d :: xs else x :: putD f d r xs
  | _, _ => [d]
theorem look_rep {K : PySem.W.Frag} {G : Hp} {f : Str} {d : D} : ∀ {ns : List Str} {ds : List D} {vs : List V}, Reps K G ds vs → lookD ns ds f = some d → ∃ v, (ns.zip vs).lookup f = some v ∧ Rep K G d v
  | [], _, _, _, h => by rw [lookD] at h; cases h; simp
  | n :: ns, [], _, _, h => by rw [lookD] at h; cases h; simp
  | n :: ns, x :: ds, _, r, h => by
    cases r with
    | cons a b =>
      rw [lookD] at h
      rw [List.zip_cons_cons, List.lookup_cons]
      by_cases c : (f == n) = true
      · rw [if_pos c] at h
        cases h
        rw [c]
        exact ⟨_, rfl, a⟩
      · rw [if_neg c] at h
        rw [Bool.not_eq_true] at c
        rw [c]
        exact look_rep b h
def hasN (f : Str) : List Str → Bool
  | [] => false
  | n :: ns => (f == n) || hasN f ns
theorem look_none {f : Str} : ∀ {ns : List Str} {vs : List V}, hasN f ns = false → (ns.zip vs).lookup f = none
  | [], _, _ => by simp
  | _ :: _, [], _ => by simp
  | n :: ns, v :: vs, h => by
    rw [hasN, Bool.or_eq_false_iff] at h
    rw [List.zip_cons_cons, List.lookup_cons, h.1]
    exact look_none h.2
theorem put_zip {K : PySem.W.Frag} {G : Hp} {f : Str} {d : D} {v : V} (r : Rep K G d v) : ∀ {ns : List Str} {ds : List D} {vs : List V}, Reps K G ds vs → ns.length = ds.length → ∃ ws, putF f v (ns.zip vs) = (putN f ns).zip ws ∧ (putN f ns).length = (putD f d ns ds).length ∧ Reps K G (putD f d ns ds) ws
  | [], ds, vs, h, l => by
    cases ds with
    | nil => cases h; exact ⟨[v], rfl, rfl, .cons r .nil⟩
    | cons => cases l
  | n :: ns, [], _, _, l => by cases l
  | n :: ns, x :: ds, _, h, l => by
    cases h with
    | cons a b =>
      rename_i w ws
      by_cases c : n = f
      · refine ⟨v :: ws, ?_, ?_, ?_⟩
        · rw [List.zip_cons_cons, putF, if_pos c, putN, if_pos c]; rfl
        · rw [putN, if_pos c, putD, if_pos c]; exact l
        · rw [putD, if_pos c]; exact .cons r b
      · obtain ⟨us, e1, e2, e3⟩ := put_zip (f := f) r b (Nat.succ.inj l)
        refine ⟨w :: us, ?_, ?_, ?_⟩
        · rw [List.zip_cons_cons, putF, if_neg c, putN, if_neg c, e1]; rfl
        · rw [putN, if_neg c, putD, if_neg c, List.length_cons, List.length_cons, e2]
        · rw [putD, if_neg c]; exact .cons a e3
/-- an object: data, or a cell -/
inductive IsO (ρ : En) : AV → Addr → List Str → List D → Prop
  | dat {C : Addr} {ns : List Str} {ds : List D} : IsO ρ (.dat (.obj C ns ds)) C ns ds
  | cel {j : Nat} {C : Addr} {ns : List Str} {ds : List D} : ρ.ce[j]? = some (.ins C ns ds) → IsO ρ (.cel j) C ns ds
def En.addO (ρ : En) (C : Addr) : En := ⟨ρ.sl, ρ.ce ++ [.ins C [] []]⟩
section
variable {K : PySem.W.Frag} {F : Fx} {ρ : En} {k : AV → En → Prop} {ks : KS} {ta tv te : TE} {t : TA}
theorem IsO.rep {as : List Addr} {σ : L2.St} {H G : Hp} {x : AV} {C : Addr} {ns : List Str} {ds : List D} {v : V} (e : EnvOk K F ρ as σ H G) (h : IsO ρ x C ns ds) (r : RepA K G as x v) : ∃ a dx vs, v = .ref a ∧ H a = some (.ins C dx (ns.zip vs)) ∧ ns.length = ds.length ∧ Reps K G ds vs := by
  cases h with
  | dat => obtain ⟨a, dx, vs, rfl, ho, hl, hr⟩ := Rep.objE r; exact ⟨a, dx, vs, rfl, e.gh _ _ ho, hl, hr⟩
  | cel hc =>
    obtain ⟨a, ha, rfl⟩ := r
    obtain ⟨_, _, _, dx, vs, hv, hl, hr⟩ := e.ce _ _ a hc ha
    exact ⟨a, dx, vs, rfl, hv, hl, hr⟩
theorem we_fld {f : Str} (h : WpE K F ta ρ fun x ρ1 => ∃ C ns ds d, IsO ρ1 x C ns ds ∧ Cls K C ∧ NoAttr K C f ∧ lookD ns ds f = some d ∧ k (.dat d) ρ1) : WpE K F (tFld K ta f) ρ k := fun as σ H G e Q q =>
  h as σ H G e _ fun x ρ1 vx as1 H1 G1 ⟨C, ns, ds, d, ho, cl, na, hl, hk⟩ e1 g1 r1 => by
    obtain ⟨a, dx, vs, rfl, hv, _, hr⟩ := ho.rep e1 r1
    obtain ⟨v, hlv, rv⟩ := look_rep hr hl
    exact ⟨a, C, dx, _, v, rfl, hv, cl, na, hlv, q _ _ _ _ _ _ hk e1 g1 rv⟩
theorem ws_fset {f : Str} (h : WpE K F tv ρ fun y ρ1 => WpE K F ta ρ1 fun x ρ2 => ∃ j C ns ds d ρ3, x = .cel j ∧ Frz [y] ρ2 [d] ρ3 ∧ ρ3.ce[j]? = some (.ins C ns ds) ∧ Cls K C ∧ NoAttr K C f ∧ Nat.ble ns.length 900 = true ∧ ks.nx (ρ3.cell j (.ins C (putN f ns) (putD f d ns ds)))) : WpS K F (sFld K ta tv f) ρ ks := fun as σ H G e D q =>
  h as σ H G e _ fun y ρ1 vy as1 H1 G1 h1 e1 g1 r1 => h1 as1 σ H1 G1 e1 _ fun x ρ2 vx as2 H2 G2 ⟨j, C, ns, ds, d, ρ3, ex, fz, hc, cl, na, hl, hk⟩ e2 g2 r2 => by
    subst ex
    obtain ⟨G3, e3, g3, r3⟩ := fz.run e2 (.cons (r1.mono g2) .nil)
    cases r3 with
    | cons ry rn =>
      cases rn
      obtain ⟨a, ha, rfl⟩ := r2
      obtain ⟨_, _, gn, dx, vs, hv, ln, hr⟩ := e3.ce j _ a hc ha
      obtain ⟨ws, ez, ln2, hr2⟩ := put_zip (f := f) ry hr ln
      have hl := Nat.le_of_ble_eq_true hl
      refine ⟨a, C, dx, ns.zip vs, rfl, hv, cl, na, by rw [List.length_zip]; omega, ?_⟩
      rw [ez]
      exact q.nx _ as2 σ _ G3 hk (e3.setO hc ha gn ⟨gn, dx, ws, upd_same, ln2, hr2⟩) (g1.trans (g2.trans g3))
theorem we_meth {C : Addr} {m : Str} {sp : Sp} {E : XK} (h : WpE K F ta ρ fun x ρ1 => ∃ ns ds, IsO ρ1 x C ns ds ∧ hasN m ns = false ∧ WpA K F t ρ1 fun xs ρ2 => WpSp K F sp (fun _ => E) (x :: xs) ρ2 k) : WpE K F (tMeth C m sp [] E ta t) ρ k := fun as σ H G e Q q =>
  h as σ H G e _ fun x ρ1 vx as1 H1 G1 ⟨ns, ds, ho, hn, h1⟩ e1 g1 r1 => by
    obtain ⟨a, dx, vs, rfl, hv, _, hr⟩ := ho.rep e1 r1
    refine ⟨a, dx, _, rfl, hv, look_none hn, h1 as1 σ H1 G1 e1 _ fun xs ρ2 ws as2 H2 G2 h2 e2 g2 r2 => ?_⟩
    rw [List.append_nil]
    exact h2 as2 σ H2 G2 _ e2 (.cons (r1.mono g2) r2) Q (q.imp (g1.trans g2) fun _ _ z => z)
def tMethS (C : Addr) (m : Str) (sp : Sp) (E : L2.St → XK) (ta : TE) (t : TA) : TE := fun u G Q => ta u G fun x G1 => ∃ a dx fs, x = .ref a ∧ G1 a = some (.ins C dx fs) ∧ fs.lookup m = none ∧ t u G1 fun vs G2 => sp (x :: vs) G2 Q (E u)
theorem we_methS {C : Addr} {m : Str} {sp : Sp} {E : L2.St → XK} (h : WpE K F ta ρ fun x ρ1 => ∃ ns ds, IsO ρ1 x C ns ds ∧ hasN m ns = false ∧ WpA K F t ρ1 fun xs ρ2 => WpSp K F sp E (x :: xs) ρ2 k) : WpE K F (tMethS C m sp E ta t) ρ k := fun as σ H G e Q q =>
  h as σ H G e _ fun x ρ1 vx as1 H1 G1 ⟨ns, ds, ho, hn, h1⟩ e1 g1 r1 => by
    obtain ⟨a, dx, vs, rfl, hv, _, hr⟩ := ho.rep e1 r1
    exact ⟨a, dx, _, rfl, hv, look_none hn, h1 as1 σ H1 G1 e1 _ fun xs ρ2 ws as2 H2 G2 h2 e2 g2 r2 => h2 as2 σ H2 G2 _ e2 (.cons (r1.mono g2) r2) Q (q.imp (g1.trans g2) fun _ _ z => z)⟩
/-- a method's call in a try -/
theorem pe_methT {X : Cx} {CT : CXT} {n : Nat} {C f : Addr} {fd : FuncData} {ps : List Str} {m : Str} {sp : Sp} {E : L2.St → XK} {o x : Expr} {es : List Expr} {p pos : Pos} {pl : Sem Bool} (he : PE X o ta) (c : Cls X.K C) (hm : Meth X.K C m f) (F0 : FnOk X.prog X.w X.K X.mg X.base CT n f fd ps sp) (hr : Room n X.A) (hb : Binds X.K fd ps []) (hx : ∀ u, PassesAt CT X u (E u)) (ha : PA X (x :: es) t)
    (s1 : starEach (x :: es) X.env = (false, eval x X.env) :: starEach es X.env := by rfl) (s2 : (backTo pos (starEach es X.env)).any (·.1) = false := by rfl)
    (s3 : eval (.Call (.Attribute o m p) (x :: es) [] pos) X.env = (do
      let r ← eval o X.env
      standAt p.atName
      let (g, a0) ← holding [r] (getMethod r m pl)
      callWith pos g a0 (backTo pos (starEach (x :: es) X.env)) (backToKw pos (keywordEach [] X.env))) := by rfl) : PE X (.Call (.Attribute o m p) (x :: es) [] pos) (tMethS C m sp E ta t) := by
  constructor
  intro pins s u G Q I h
  refine PySem.W.methodCall_KW (pl := pl) (thn (he.run pins s u G _ I h) ?_) s3
  rintro w s' ⟨v, G1, I1, r1, a, dx, fs, rfl, ho, hl, hq⟩
  obtain rfl : w = Value.ref a := r1
  refine getmeth_ok I1 ho c hm hl ?_
  refine PySem.W.callWith_K (first := [.ref a]) (h₀ := X.base) I.ok.mod.kin hm.kp (thn (ha.run pos pins s' u G1 _ I1 hq) ?_) s1 s2
  rintro us s4 ⟨vs, G2, I2, r2, q2⟩
  exact ⟨I2.kIn, run_fnS (us := .ref a :: us) (vs := .ref a :: vs) F0 hr hb (hx u) I2 (.cons rfl r2) q2⟩
/-- C(..) -/
theorem new_obj {as : List Addr} {σ : L2.St} {H G : Hp} {C x dx : Addr} (e : EnvOk K F ρ as σ H G) (hx : H x = none) (hd : H dx = none) (ne : dx ≠ x) : ∃ G', EnvOk K F (ρ.addO C) (as ++ [x]) σ (upd (upd H dx (.own x)) x (.ins C dx [])) G' ∧ Gr G as G' (as ++ [x]) ∧ as.length = ρ.ce.length := by
  obtain ⟨e1, g1⟩ := e.newG (o := .own x) hd
  have hx1 : upd H dx (.own x) x = none := by rw [upd_ne fun z => ne z.symm]; exact hx
  obtain ⟨e2, g2⟩ := e1.newO (o := .ins C dx []) (c0 := .ins C [] []) hx1 (fun gp => ⟨gp, dx, [], by rw [upd_same]; rfl, rfl, .nil⟩)
  exact ⟨_, e2, g1.trans g2, e.ln⟩
theorem we_make {C : Addr} {sp : Sp} {E : XK} (h : WpA K F t ρ fun xs ρ1 => ∃ ds ρ2, Frz xs ρ1 ds ρ2 ∧ WpSp K F sp (fun _ => E) (.cel ρ2.ce.length :: ds.map .dat) (ρ2.addO C) fun r ρ3 => r = .dat .non ∧ k (.cel ρ2.ce.length) ρ3) : WpE K F (tMake C sp [] E t) ρ k := fun as σ H G e Q q =>
  h as σ H G e _ fun xs ρ1 vs as1 H1 G1 ⟨ds, ρ2, fz, h1⟩ e1 g1 r1 x dx hx hd ne => by
    obtain ⟨G2, e2, g2, r2⟩ := fz.run e1 r1
    obtain ⟨G3, e3, g3, ln⟩ := new_obj (C := C) e2 hx hd ne
    have rl : RepA K G3 (as1 ++ [x]) (.cel ρ2.ce.length) (.ref x) := RepA.last ln
    rw [List.append_nil]
    refine h1 _ σ _ G3 _ e3 (.cons rl ((Reps.as (as := as1) r2).mono g3)) _ ?_
    rintro av ρ3 v as4 H4 G4 ⟨rfl, hk⟩ e4 g4 r4
    exact ⟨Rep.nonE r4, q _ _ _ _ _ _ hk e4 (g1.trans (g2.trans (g3.trans g4))) (rl.mono g4)⟩
/-- C(*xs) -/
theorem we_makeS {C : Addr} {sp : Sp} {E : XK} (h : WpE K F te ρ fun y ρ1 => ∃ ds, (IsL ρ1 y ds ∨ y = .dat (.tup ds)) ∧ WpSp K F sp (fun _ => E) (.cel ρ1.ce.length :: ds.map .dat) (ρ1.addO C) fun r ρ3 => r = .dat .non ∧ k (.cel ρ1.ce.length) ρ3) : WpE K F (tMakeS K C sp E te) ρ k := fun as σ H G e Q q =>
  h as σ H G e _ fun y ρ1 vy as1 H1 G1 ⟨ds, hy, h1⟩ e1 g1 r1 => by
    obtain ⟨a, vs, rfl, hs, hr⟩ : ∃ a vs, vy = .ref a ∧ (SqT K H1 a vs ∨ SqL K H1 a vs) ∧ Reps K G1 ds vs := by
      rcases hy with hy | rfl
      · obtain ⟨a, vs, e0, hs, hr⟩ := hy.rep e1 r1
        exact ⟨a, vs, e0, .inr hs, hr⟩
      · obtain ⟨a, vs, e0, hs, hr⟩ := Rep.tupE r1
        exact ⟨a, vs, e0, .inl (Same.seqT e1.gh hs), hr⟩
    refine ⟨a, vs, rfl, hs, fun x dx hx hd ne => ?_⟩
    obtain ⟨G3, e3, g3, ln⟩ := new_obj (C := C) e1 hx hd ne
    have rl : RepA K G3 (as1 ++ [x]) (.cel ρ1.ce.length) (.ref x) := RepA.last ln
    refine h1 _ σ _ G3 _ e3 (.cons rl ((Reps.as (as := as1) hr).mono g3)) _ ?_
    rintro av ρ3 v as4 H4 G4 ⟨rfl, hk⟩ e4 g4 r4
    exact ⟨Rep.nonE r4, q _ _ _ _ _ _ hk e4 (g1.trans (g3.trans g4)) (rl.mono g4)⟩
/-- a, *b = .. -/
theorem wg_star {g0 g1 : TG} {d : D} {ds : List D} {kn : En → Prop} (h : WpG K F g0 (.dat d) (ρ.add ds) fun ρ1 => WpG K F g1 (.cel ρ.ce.length) ρ1 kn) : WpG K F (gStar K g0 g1) (.dat (.tup (d :: ds))) ρ kn := fun as σ H G v e r Q q => by
  obtain ⟨a, vs, rfl, hs, hr⟩ := Rep.tupE r
  cases hr with
  | cons rx rs =>
    refine ⟨a, _, _, rfl, Same.seqT e.gh hs, fun l hl => ?_⟩
    obtain ⟨e2, g2⟩ := e.newC hl rs
    have rl : RepA K G (as ++ [l]) (.cel ρ.ce.length) (.ref l) := RepA.last e.ln
    exact h _ σ _ G _ e2 (Rep.mono (Same.refl _) _ _ rx) _ fun ρ1 as1 σ1 H1 G1 h1 e1 g1 => h1 as1 σ1 H1 G1 _ e1 (rl.mono g1) Q fun ρ2 as2 σ2 H2 G2 h2 e2 gg => q _ _ _ _ _ h2 e2 (g2.trans (g1.trans gg))
/-- a new thing that nobody writes to is data at once -/
def frzO (k : AV → En → Prop) : AV → En → Prop := fun av ρ' => ∃ j c d, av = .cel j ∧ ρ'.ce[j]? = some c ∧ celD c = some d ∧ k (.dat d) (ρ'.frzD j d)
theorem got_frzO {as : List Addr} {σ : L2.St} {G : Hp} {Q : VK} (q : Got K F ρ as σ G k Q) : Got K F ρ as σ G (frzO k) Q := fun av ρ' v as' H' G' ⟨j, c, d, ea, hc, hd, hk⟩ e' g' ra => by
  subst ea
  obtain ⟨a, ha, rfl⟩ := ra
  obtain ⟨o, e2, g2, rr⟩ := e'.frzD hc ha hd
  exact q _ _ _ as' H' _ hk e2 (g'.trans g2) rr
theorem we_frzO (h : WpE K F te ρ (frzO k)) : WpE K F te ρ k := fun as σ H G e Q q => h as σ H G e Q (got_frzO q)
theorem ws_frzO {t : TS} {j : Nat} {c : Cell} {d : D} (hj : ρ.ce[j]? = some c) (hd : celD c = some d) (h : WpS K F t (ρ.frzD j d) ks) : WpS K F t ρ ks := fun as σ H G e D q => by
  have hl : j < as.length := by rw [e.ln]; exact (List.getElem?_eq_some_iff.mp hj).1
  obtain ⟨o, e2, g2, _⟩ := e.frzD hj (List.getElem?_eq_getElem hl) hd
  exact h as σ H _ e2 D (EndsOk.grow K F q g2)
/-- isinstance of an own class -/
theorem wc_isO {x : AV} {C Y : Addr} {ns : List Str} {ds : List D} {b : Bool} (ho : IsO ρ x C ns ds) (ty : ∀ {H : Hp} {a dx : Addr} {fs : List (Str × V)}, H a = some (.ins C dx fs) → TyX K H (.ref a) (.ref C)) (hb : PySem.W.kitOne K (.ref C) (.ref Y) = some b) (hk : k (.dat (.bl b)) ρ) : WpC K F (rIsi K) [x, .dat (.cls Y)] ρ k := fun as σ H G vs e r Q q => by
  cases r with
  | cons r1 r2 =>
    cases r2 with
    | cons r2 r3 =>
      cases r3
      cases (show Rep K G (.cls Y) _ from r2)
      obtain ⟨a, dx, vs, rfl, hv, _, _⟩ := ho.rep e r1
      exact ⟨_, _, _, _, b, rfl, .own Y, ty hv, hb, q _ ρ _ as H G hk e .refl (Rep.bl _)⟩
/-- all of truths -/
theorem Reps.bls {G : Hp} : ∀ {bs : List Bool} {vs : List V}, Reps K G (bs.map D.bl) vs → vs = bs.map V.bl
  | [], _, h => by cases h; rfl
  | b :: bs, _, h => by
    cases h with
    | cons a c => cases a; rw [Reps.bls c]; rfl
theorem wc_all {x : AV} {bs : List Bool} (hx : IsL ρ x (bs.map D.bl)) (hk : k (.dat (.bl (bs.all id))) ρ) : WpC K F (rAll K) [x] ρ k := fun as σ H G vs e r Q q => by
  cases r with
  | cons r1 r2 =>
    cases r2
    obtain ⟨a, vs, rfl, hs, hr⟩ := hx.rep e r1
    rw [Reps.bls hr] at hs
    exact ⟨a, bs, rfl, hs, q _ ρ _ as H G hk e .refl (Rep.bl _)⟩
end
/-- a reading that is one of two -/
theorem we_or1 {K : PySem.W.Frag} {F : Fx} {ρ : En} {k : AV → En → Prop} {t1 t2 : TE} (h : WpE K F t1 ρ k) : WpE K F (fun σ H Q => t1 σ H Q ∨ t2 σ H Q) ρ k := fun as σ H G e Q q => .inl (h as σ H G e Q q)
theorem we_or2 {K : PySem.W.Frag} {F : Fx} {ρ : En} {k : AV → En → Prop} {t1 t2 : TE} (h : WpE K F t2 ρ k) : WpE K F (fun σ H Q => t1 σ H Q ∨ t2 σ H Q) ρ k := fun as σ H G e Q q => .inr (h as σ H G e Q q)
/-! ### a method's call with keywords alone -/
def tMethK (C : Addr) (m : Str) (sp : Sp) (n : Nat) (gV : List V → List V → List V) (E : XK) (ta : TE) (tk : TA) : TE := fun u G Q => ta u G fun x G1 => ∃ a dx fs, x = .ref a ∧ G1 a = some (.ins C dx fs) ∧ fs.lookup m = none ∧ tk u G1 fun zs G2 => zs.length = n ∧ sp (gV [x] zs) G2 Q E
theorem pe_methK0 {X : Cx} {CT : CXT} {n : Nat} {C f : Addr} {fd : FuncData} {ps ks : List Str} {m : Str} {sp : Sp} {E : XK} {o : Expr} {kws : List Keyword} {p pos : Pos} {pl : Sem Bool} {ta : TE} {tk : TA} {g : List Value → List Value → List Value} {gV : List V → List V → List V} (he : PE X o ta) (c : Cls X.K C) (hm : Meth X.K C m f) (F0 : FnOk X.prog X.w X.K X.mg X.base CT n f fd ps sp) (hr : Room n X.A) (hb : KBn X.K fd ps 1 ks g gV) (hx : Passes CT X E) (hkw : PK X kws tk)
    (hall : (backToKw pos (keywordEach kws X.env)).all (·.1.isSome) = true := by rfl) (hks : (backToKw pos (keywordEach kws X.env)).filterMap (·.1) = ks := by rfl)
    (hpl : ((backTo pos (starEach [] X.env)).any (·.1) || (backToKw pos (keywordEach kws X.env)).any (·.1.isNone)) = false := by rfl)
    (s3 : eval (.Call (.Attribute o m p) [] kws pos) X.env = (do
      let r ← eval o X.env
      standAt p.atName
      let (h, a0) ← holding [r] (getMethod r m pl)
      callWith pos h a0 (backTo pos (starEach [] X.env)) (backToKw pos (keywordEach kws X.env))) := by rfl) : PE X (.Call (.Attribute o m p) [] kws pos) (tMethK C m sp ks.length gV E ta tk) := by
  constructor
  intro pins s u G Q I h
  refine PySem.W.methodCall_KW (pl := pl) (thn (he.run pins s u G _ I h) ?_) s3
  rintro w s' ⟨v, G1, I1, r1, a, dx, fs, rfl, ho, hl, hq⟩
  obtain rfl : w = Value.ref a := r1
  refine getmeth_ok I1 ho c hm hl ?_
  refine PySem.W.callWith_KW0 (first := [.ref a]) (h₀ := X.base) I.ok.mod.kin hm.kp hall (thn (hkw.run pos pins s' u G1 _ I1 hq) ?_) hpl
  rintro ws s4 ⟨zs, G2, I2, rz, l2, q2⟩
  refine ⟨I2.kIn, ?_⟩
  rw [hks]
  exact run_fnN (us := [.ref a]) (vs := [.ref a]) F0 hr hb hx I2 (.cons rfl .nil) rz rfl l2 q2
section
variable {K : PySem.W.Frag} {F : Fx} {ρ : En} {k : AV → En → Prop} {ta tb tc : TE} {t tk : TA}
theorem we_methK {C : Addr} {m : Str} {sp : Sp} {n : Nat} {gV : List V → List V → List V} {E : XK} (h : WpE K F ta ρ fun x ρ1 => ∃ ns ds, IsO ρ1 x C ns ds ∧ hasN m ns = false ∧ WpA K F tk ρ1 fun ys ρ2 => ∃ zs, ys.length = n ∧ (∀ G as v ws, RepA K G as x v → RepAs K G as ys ws → RepAs K G as zs (gV [v] ws)) ∧ WpSp K F sp (fun _ => E) zs ρ2 k) : WpE K F (tMethK C m sp n gV E ta tk) ρ k := fun as σ H G e Q q =>
  h as σ H G e _ fun x ρ1 vx as1 H1 G1 ⟨ns, ds, ho, hn, h1⟩ e1 g1 r1 => by
    obtain ⟨a, dx, vs, rfl, hv, _, hr⟩ := ho.rep e1 r1
    exact ⟨a, dx, _, rfl, hv, look_none hn, h1 as1 σ H1 G1 e1 _ fun ys ρ2 ws as2 H2 G2 ⟨zs, hl, hg, h2⟩ e2 g2 r2 => ⟨by rw [r2.length]; exact hl, h2 as2 σ H2 G2 _ e2 (hg _ _ _ _ (r1.mono g2) r2) Q (q.imp (g1.trans g2) fun _ _ z => z)⟩⟩
/-- C(.., k=..) -/
theorem we_makeK {C : Addr} {n m : Nat} {sp : Sp} {gV : List V → List V → List V} {E : XK} (h : WpA K F t ρ fun xs ρ1 => WpA K F tk ρ1 fun ys ρ2 => ∃ ds es fs : List D, xs = ds.map .dat ∧ ys = es.map .dat ∧ ds.length = n ∧ es.length = m ∧ (∀ G as x vs ws, RepAs K G as xs vs → RepAs K G as ys ws → RepAs K G as (fs.map .dat) (gV (x :: vs) ws).tail ∧ (gV (x :: vs) ws).head? = some x) ∧ WpSp K F sp (fun _ => E) (.cel ρ2.ce.length :: fs.map .dat) (ρ2.addO C) fun r ρ3 => r = .dat .non ∧ k (.cel ρ2.ce.length) ρ3) : WpE K F (tMakeK C n m sp gV E t tk) ρ k := fun as σ H G e Q q =>
  h as σ H G e _ fun xs ρ1 vs as1 H1 G1 h1 e1 g1 r1 => h1 as1 σ H1 G1 e1 _ fun ys ρ2 ws as2 H2 G2 ⟨ds, es, fs, ex, ey, l1, l2, hg, h2⟩ e2 g2 r2 => by
    refine ⟨by rw [r1.length, ex, List.length_map]; exact l1, by rw [r2.length, ey, List.length_map]; exact l2, fun x dx hx hd ne => ?_⟩
    obtain ⟨G3, e3, g3, ln⟩ := new_obj (C := C) e2 hx hd ne
    have rl : RepA K G3 (as2 ++ [x]) (.cel ρ2.ce.length) (.ref x) := RepA.last ln
    obtain ⟨h3, h4⟩ := hg G3 (as2 ++ [x]) (.ref x) vs ws (r1.mono (g2.trans g3)) (r2.mono g3)
    obtain ⟨v0, us, eg⟩ : ∃ v0 us, gV (.ref x :: vs) ws = v0 :: us := by
      cases hh : gV (.ref x :: vs) ws with
      | nil => rw [hh] at h4; cases h4
      | cons v0 us => exact ⟨v0, us, rfl⟩
    rw [eg] at h3 h4 ⊢
    cases h4
    refine h2 _ σ _ G3 _ e3 (.cons rl h3) _ ?_
    rintro av ρ3 v as4 H4 G4 ⟨rfl, hk⟩ e4 g4 r4
    exact ⟨Rep.nonE r4, q _ _ _ _ _ _ hk e4 (g1.trans (g2.trans (g3.trans g4))) (rl.mono g4)⟩
theorem ch_var {i : Nat} {l : Int} {as : List Addr} {σ : L2.St} {H G : Hp} {Q : VK} (e : EnvOk K F ρ as σ H G) (h : ρ.sl[i]? = some (some (.dat (.int l)))) : Q (.int l) H → tVar i σ H Q := fun q => by
  obtain ⟨v, hv, r⟩ := e.sl i _ h
  exact ⟨v, hv, by rw [Rep.intE r]; exact q⟩
/-- .. where the last one is a name or a number that is written -/
theorem we_chV {g g' : Int → Int → Bool} {i : Nat} (h : WpE K F ta ρ fun x ρ1 => WpE K F tb ρ1 fun y ρ2 => ∃ a b l, x = .dat (.int a) ∧ y = .dat (.int b) ∧ ρ2.sl[i]? = some (some (.dat (.int l))) ∧ k (.dat (.bl (g a b && g' b l))) ρ2) : WpE K F (tChI g g' ta tb (tVar i)) ρ k := fun as σ H G e Q q =>
  h as σ H G e _ fun x ρ1 vx as1 H1 G1 h1 e1 g1 r1 => h1 as1 σ H1 G1 e1 _ fun y ρ2 vy as2 H2 G2 ⟨a, b, l, ex, ey, hs, hk⟩ e2 g2 r2 => by
    subst ex ey
    exact ch_var e2 hs ⟨a, b, l, Rep.intE (r1.mono g2), Rep.intE r2, rfl, rfl, q _ _ _ _ _ _ hk e2 (g1.trans g2) (Rep.bl _)⟩
theorem we_chC {g g' : Int → Int → Bool} {l : Int} (h : WpE K F ta ρ fun x ρ1 => WpE K F tb ρ1 fun y ρ2 => ∃ a b, x = .dat (.int a) ∧ y = .dat (.int b) ∧ k (.dat (.bl (g a b && g' b l))) ρ2) : WpE K F (tChI g g' ta tb (tC (.int l))) ρ k := fun as σ H G e Q q =>
  h as σ H G e _ fun x ρ1 vx as1 H1 G1 h1 e1 g1 r1 => h1 as1 σ H1 G1 e1 _ fun y ρ2 vy as2 H2 G2 ⟨a, b, ex, ey, hk⟩ e2 g2 r2 => by
    subst ex ey
    exact ⟨a, b, l, Rep.intE (r1.mono g2), Rep.intE r2, rfl, rfl, q _ _ _ _ _ _ hk e2 (g1.trans g2) (Rep.bl _)⟩
end
section
variable {K : PySem.W.Frag} {F : Fx} {ρ : En} {k : AV → En → Prop} {ta tb tc : TE}
/-- a < b < c, the second step only where the first is true -/
theorem we_chain {r r' : R2} (h : WpE K F ta ρ fun x ρ1 => WpE K F tb ρ1 fun y ρ2 => WpR K F r x y ρ2 fun z ρ3 => ∃ b, z = .dat (.bl b) ∧ if b = true then WpE K F tc ρ3 fun w ρ4 => WpR K F r' y w ρ4 k else k (.dat (.bl false)) ρ3) : WpE K F (tChain r r' ta tb tc) ρ k := fun as σ H G e Q q =>
  h as σ H G e _ fun x ρ1 vx as1 H1 G1 h1 e1 g1 r1 => h1 as1 σ H1 G1 e1 _ fun y ρ2 vy as2 H2 G2 h2 e2 g2 r2 => by
    refine h2 as2 σ H2 G2 vx vy e2 (r1.mono g2) r2 _ ?_
    rintro z ρ3 vz as3 H3 G3 ⟨b, rfl, h3⟩ e3 g3 r3
    refine ⟨b, Rep.blE r3, ?_⟩
    cases b with
    | true =>
      refine (show WpE K F tc ρ3 _ from h3) as3 σ H3 G3 e3 _ ?_
      exact fun w ρ4 vw as4 H4 G4 h4 e4 g4 r4 => h4 as4 σ H4 G4 vy vw e4 ((r2.mono g3).mono g4) r4 Q (q.imp (g1.trans (g2.trans (g3.trans g4))) fun _ _ z => z)
    | false => exact q _ ρ3 _ as3 H3 G3 h3 e3 (g1.trans (g2.trans g3)) (Rep.bl _)
end
/-! ### a well: a list of three whole numbers from which is drawn -/
def IsW (s : List D) : Prop := ∃ x y z : Int, s = [.int x, .int y, .int z]
/-! ### what follows a call, a def's end -/
theorem fin_dat {n : Nat} {post : RV → List Cell → Prop} {ρ : En} {d : D} (ng : noGone (ρ.ce.take n) = true) (q : post (.dat d) (ρ.ce.take n)) : (KS.fin n post).rt (.dat d) ρ := ⟨_, .dat d, ng, q⟩
section
variable {K : PySem.W.Frag} {F : Fx} {ρ : En} {k : AV → En → Prop} {x : AV}
theorem OfD.as {d : D} {xs : List AV} {ds : List D} (h : OfD ρ x d) (r : AsD ρ xs ds) : AsD ρ (x :: xs) (d :: ds) := by
  cases h with
  | dat => exact .dat r
  | cel hc => exact .cel hc r
theorem aft_hard {xs : List AV} {d : D} (h : hard d = true) (hk : k (.dat d) ρ) : aft ρ xs k (.dat d) := ⟨by rw [h, Bool.or_true], hk⟩
theorem aft_hards {xs : List AV} {ds : List D} (h : hards ds = true) (hk : k (.cel ρ.ce.length) (ρ.add ds)) : aft ρ xs k (.new ds) := ⟨by rw [h, Bool.or_true], hk⟩
end
/-! ### super().__init__(..) by data -/
section
variable {K : PySem.W.Frag} {F : Fx} {ρ : En} {ks : KS}
def tSup (o : Addr) (ta : TA) (sp0 : Sp) (t : TS) : TS := fun D u G => ta u G fun as G1 => sp0 (.ref o :: as) G1 (fun _ G2 => t D u G2) E0
theorem ws_sup {o : Addr} {ta : TA} {sp0 : Sp} {t : TS} (ho : F.as0.head? = some o) (h : WpA K F ta ρ fun xs ρ1 => WpSp K F sp0 (fun _ => E0) (.cel 0 :: xs) ρ1 fun _ ρ2 => WpS K F t ρ2 ks) : WpS K F (tSup o ta sp0 t) ρ ks := fun as σ H G e D q =>
  h as σ H G e _ fun xs ρ1 vs as1 H1 G1 h1 e1 g1 r1 => by
    have h0 : as1[0]? = some o := by
      obtain ⟨r, rfl⟩ := e1.pr
      cases hh : F.as0 with
      | nil => rw [hh] at ho; cases ho
      | cons a as0 => rw [hh] at ho; cases ho; rfl
    exact h1 as1 σ H1 G1 _ e1 (.cons ⟨o, h0, rfl⟩ r1) _ fun av ρ2 v as2 H2 G2 h2 e2 g2 r2 => h2 as2 σ H2 G2 e2 D (EndsOk.grow K F q (g1.trans g2))
/-- self of an __init__, which holds nothing yet -/
theorem self_of {W : PW0} {C : Addr} {vs : List V} {H : Hp} {Q : VK} {E : XK} (h : spG K W vs H Q E) (hW : ∀ xs cs post exc, W xs cs post exc → ∃ ds, xs = .cel 0 :: ds ∧ cs = [.ins C [] []]) : ∃ o d, vs.head? = some (.ref o) ∧ H o = some (.ins C d []) := by
  obtain ⟨G, as, xs, cs, post, exc, gh, ok, rx, hw, _⟩ := h
  obtain ⟨ds, rfl, rfl⟩ := hW _ _ _ _ hw
  cases rx with
  | cons r1 r2 =>
    obtain ⟨o, ho, rfl⟩ := r1
    obtain ⟨_, _, d, ws, hv, _⟩ := ok.ok 0 _ o rfl ho
    exact ⟨o, d, rfl, hv⟩
theorem enterS {N : List Str} {W : PW0} {C : Addr} {vs : List V} {H : Hp} {Q : VK} {E : XK} {o : Addr} {ta : TA} {sp0 : Sp} {t : TS} (h : spG K W vs H Q E) (hW : ∀ xs cs post exc, W xs cs post exc → ∃ ds, xs = .cel 0 :: ds ∧ cs = [.ins C [] []]) (ho : vs.head? = some (.ref o))
    (body : ∀ F xs cs post, F.E = E → F.as0.head? = some o → W xs cs post F.ex → WpS K F (tSup o ta sp0 t) (En.start N.length xs cs) (KS.fin cs.length post)) : ta (L2.start N vs) H fun as H1 => sp0 (.ref o :: as) H1 (fun _ H2 => t { nx := fun _ H' => Q .non H', rt := Q } (L2.start N vs) H2) E0 :=
  enterG (t := tSup o ta sp0 t) (fun _ => False) (fun _ _ z => z.elim) h fun F xs cs post _ hE rx hw => by
    refine body F xs cs post hE ?_ hw
    obtain ⟨ds, rfl, rfl⟩ := hW _ _ _ _ hw
    cases rx with
    | cons r1 r2 =>
      obtain ⟨a, ha, rfl⟩ := r1
      cases ho
      cases hh : F.as0 with
      | nil => rw [hh] at ha; cases ha
      | cons b bs => rw [hh] at ha; cases ha; rfl
end
/-- arguments as data -/
local macro_rules | `(tactic| walk_at "as") => `(tactic| first
  | exact AsD.nil
  | (apply AsD.dat; walk_at "as")
  | (apply AsD.cel rfl; walk_at "as")
  | fail)
local macro_rules | `(tactic| walk_at "fz") => `(tactic| first
  | exact Frz.nil
  | (apply Frz.dat; walk_at "fz")
  | (apply Frz.cel rfl; walk_at "fz")
  | (apply Frz.ins rfl; walk_at "fz")
  | fail)
local macro_rules | `(tactic| walk_at "il") => `(tactic| first
  | exact IsL.dat _
  | exact IsL.cel rfl
  | exact IsL.scr _
  | fail)
local macro_rules | `(tactic| walk_at "od") => `(tactic| first
  | exact OfD.dat _
  | exact OfD.cel rfl
  | fail)
local macro_rules | `(tactic| walk_at "on") => `(tactic| first
  | exact only_name (by simp)
  | (refine only_tup ?_; repeat first | exact onlys_nil | refine onlys_cons (by simp) ?_)
  | fail)
/-- a call: its arguments as data -/
local macro_rules | `(tactic| walk_at "c") => `(tactic| (refine' wspE ?q1 ?z9; (case q1 => walk_at "as")))
local macro_rules | `(tactic| walk_at "cx") => `(tactic| (refine' wspX ?q1 ?z9; (case q1 => walk_at "as")))
local macro_rules | `(tactic| walk_at "al") => `(tactic| first
  | exact AsL.nil
  | (apply AsL.dat; walk_at "al")
  | (apply AsL.own; walk_at "al")
  | (apply AsL.cel (Nat.ne_of_beq_eq_false rfl) rfl; walk_at "al")
  | fail)
/-- a call that is lent a cell -/
local macro_rules | `(tactic| walk_at "c1") => `(tactic| (refine' wsp1 ?q1 ?q2 ?q3 ?z9; (case q1 => rfl); (case q2 => rfl); (case q3 => rfl)))
local macro_rules | `(tactic| walk_at "c2") => `(tactic| (refine' wsp2 ?q1 ?q2 ?q3 ?z9; (case q1 => rfl); (case q2 => rfl); (case q3 => walk_at "al")))
local macro_rules | `(tactic| walk_at "cd") => `(tactic| (refine' wspD ?q1 ?q2 ?z9; (case q2 => walk_at "al"); (case q1 => rfl)))
/-- one step by data -/
local macro_rules | `(tactic| walk_at "d") => `(tactic| first
  | with_reducible refine ws_seq ?_
  | with_reducible refine ws_asg ?_
  | with_reducible refine ws_ret ?_
  | with_reducible refine ws_if ?_
  | with_reducible refine ws_drop ?_
  | with_reducible refine ws_par ?_
  | with_reducible refine ws_next ?_
  | with_reducible refine ws_retN ?_
  | with_reducible refine ws_break ?_
  | with_reducible refine ws_cont ?_
  | with_reducible refine ws_for ?_
  | ((with_reducible refine' we_var ?v1 ?z9); (case v1 => exact rfl))
  | with_reducible refine we_ci ?_
  | with_reducible refine we_cs ?_
  | with_reducible refine we_cn ?_
  | with_reducible refine we_cb ?_
  | with_reducible refine we_ct ?_
  | with_reducible refine we_op ?_
  | with_reducible refine we_un ?_
  | with_reducible refine we_tCB ?_
  | with_reducible refine wa_nil ?_
  | with_reducible refine wa_cons ?_
  | with_reducible refine we_andV ?_
  | with_reducible refine we_orV ?_
  | with_reducible refine we_notV ?_
  | with_reducible refine we_if ?_
  | with_reducible refine wt_test ?_
  | with_reducible refine wt_B ?_
  | with_reducible refine wt_and ?_
  | with_reducible refine wt_or ?_
  | with_reducible refine wt_not ?_
  | with_reducible refine wt_yes ?_
  | with_reducible refine wt_tru ?_
  | with_reducible refine we_tup ?_
  | with_reducible refine we_lst ?_
  | with_reducible refine we_call ?_
  | with_reducible refine we_callS ?_
  | with_reducible refine wo_none ?_
  | with_reducible refine wo_some ?_
  | with_reducible refine wi_rng1 ?_
  | with_reducible refine wi_rng2 ?_
  | with_reducible refine wg_name ?_
  | with_reducible refine wg_sub ?_
  | with_reducible refine wgs_nil ?_
  | with_reducible refine wgs_cons ?_
  | with_reducible refine wgs_consM ?_
  | with_reducible refine wgs_nilM ?_
  | with_reducible refine wr_I0i ?_
  | with_reducible refine wr_I0b ?_
  | with_reducible refine wr_isN ?_
  | with_reducible refine wr_notN ?_
  | with_reducible refine wr_isB ?_
  | with_reducible refine wr_isnotB ?_
  | (with_reducible refine wu_neg ?_)
  | with_reducible refine wc_abs ?_
  | ((with_reducible refine' wr_eq ?v1 ?z9); (case v1 => exact rfl))
  | ((with_reducible refine' wr_ne ?v1 ?z9); (case v1 => exact rfl))
  | ((with_reducible refine' we_lc ?v0 ?z9); (case v0 => walk_at "on"))
  | ((with_reducible refine' wm_append ?v0 ?v1 ?v2 ?z9); (case v0 => walk_at "fz"); (case v1 => exact rfl))
  | refine we_bm ?_
  | refine we_bm0 ?_
  | refine we_slL ?_
  | refine wi_list ?_
  | refine wi_tup ?_
  | ((refine' wg_tup ?v1 ?z9); (case v1 => exact rfl))
  | ((refine' wr_ixT ?v1 ?z9); (case v1 => exact rfl))
  | ((refine' wr_ixL ?v0 ?v1 ?z9); (case v0 => walk_at "il"); (case v1 => exact rfl))
  | refine wc_lenT ?_
  | ((refine' wc_lenL ?v0 ?z9); (case v0 => walk_at "il"))
  | ((refine' wc_isi ?v0 ?v1 ?z9); (case v0 => simp); (case v1 => exact rfl))
  | ((refine' wc_isiC ?v0 ?v1 ?z9); (case v0 => simp); (case v1 => exact rfl))
  | ((refine' wc_list ?v0 ?z9); (case v0 => walk_at "il"))
  | refine wc_listT ?_
  | ((refine' wc_tuple ?v0 ?z9); (case v0 => walk_at "il"))
  | (first | refine ⟨⟨_, _, rfl, rfl, rfl⟩, ?_⟩ | refine ⟨⟨_, _, rfl, rfl, fun z => by cases z⟩, ?_⟩ | fail)
  | ((with_reducible refine' frz_in ?v0 ?v1 ?z9); (case v0 => walk_at "fz"); (case v1 => exact rfl))
  | ((with_reducible refine' il_in ?v0 ?z9); (case v0 => walk_at "il"))
  | ((with_reducible refine' lc_in ?v0 ?v1 ?v2 ?z9); (case v0 => walk_at "fz"); (case v1 => exact rfl))
  | (refine ⟨_, rfl, ?_⟩)
  | (refine ⟨_, _, rfl, ?_⟩)
  | fail)
/-- steps, and ifs whose test is told -/
local macro_rules | `(tactic| walk_at "D") => `(tactic| repeat (first
  | walk_at "d"
  | refine ifT rfl ?_
  | refine ifF rfl ?_))
/-- the environment written out -/
local macro_rules | `(tactic| walk_at "nrm") => `(tactic| first | (dsimp only [En.put, En.add, En.cell, List.set_cons_zero, List.set_cons_succ, List.cons_append, List.nil_append, List.length_cons, List.length_nil, Nat.zero_add, Nat.reduceAdd]) | skip)

/-- .. with what was frozen and forgotten -/
local macro_rules | `(tactic| walk_at "nr2") => `(tactic| first | (dsimp only [En.start, En.put, En.add, En.cell, En.frz, En.frzD, En.clr, frzA_d, frzA_c, mapC, mapN, Option.map_some, Option.map_none, List.set_cons_zero, List.set_cons_succ, List.cons_append, List.nil_append, List.length_cons, List.length_nil, Nat.zero_add, Nat.reduceAdd, Nat.reduceSub, List.replicate_succ, List.replicate_zero, ↓reduceIte, Nat.reduceEqDiff, reduceCtorEq]) | skip)

local macro_rules | `(tactic| walk_at "nr4") => `(tactic| first | (simp only [En.start, En.put, En.add, En.cell, En.frz, En.frzD, En.clr, frzA_d, frzA_c, mapC, mapN, Option.map_some, Option.map_none, List.set_cons_zero, List.set_cons_succ, List.cons_append, List.nil_append, List.length_cons, List.length_nil, Nat.zero_add, Nat.reduceAdd, Nat.reduceSub, List.replicate_succ, List.replicate_zero, ↓reduceIte, Nat.reduceEqDiff, reduceCtorEq, Nat.succ_ne_self]) | skip)
section
variable {P : Program} {w : World} {K : PySem.W.Frag} {mg : Str → Option Value} {base : Heap}
/-! ### plain data -/
mutual
def pl : D → Bool
  | .tup ds => pls ds
  | .lst ds => pls ds
  | .scr _ => false
  | .obj _ _ _ => false
  | .ty _ => false
  | .cls _ => false
  | _ => true
def pls : List D → Bool
  | [] => true
  | d :: ds => pl d && pls ds
end
theorem pl_ty {d : D} (h : pl d = true) : (tyD d).isSome = true := by cases d <;> first | rfl | (simp [pl] at h)
theorem pls_cons {d : D} {ds : List D} (h : pls (d :: ds) = true) : pl d = true ∧ pls ds = true := by rw [pls, Bool.and_eq_true] at h; exact h
theorem pls_mem {ds : List D} (h : pls ds = true) : ∀ d ∈ ds, pl d = true := by
  induction ds with
  | nil => intro d m; cases m
  | cons e ds ih =>
    intro d m
    obtain ⟨a, b⟩ := pls_cons h
    rcases List.mem_cons.mp m with rfl | m
    · exact a
    · exact ih b d m
def isInt : D → Bool
  | .int _ => true
  | _ => false
def wNumber : PW0 := fun xs cs post _ => ∃ d, xs = [.dat d] ∧ cs = [] ∧ pl d = true ∧ post (.dat (.bl (isInt d))) []
theorem ok_is_number (T : TxtP P K mg) : FnOk P w K mg base CX0 1 T.a_is_number T.d_is_number ["thing"] (spG K wNumber) := by
  refine T.F_is_number.ok sc_is_number (fun vs H Q E h => spG_len h fun xs cs post exc ⟨a, e, _⟩ => by rw [e]; rfl) (fun cdv A outer s H vs Q E hr h => ⟨_, (pss_one (ps_ret (pe_and (pe_callB call_isi (by rfl) T.m_isinstance (by decide +kernel) (pa_cons (pv 0) (pa_cons (pe_bltn (v := .ty "int") (by rfl) T.m_int (by decide +kernel) rfl) pa_nil))) (pe_one (pe_not (pe_callB call_isi (by rfl) T.m_isinstance (by decide +kernel) (pa_cons (pv 0) (pa_cons (pe_bltn (v := .ty "bool") (by rfl) T.m_bool (by decide +kernel) rfl) pa_nil)))))))), enter h fun F xs cs post hE hw => ?_⟩)
  obtain ⟨d, rfl, rfl, hp, q⟩ := hw
  cases d <;> first
    | (exact Bool.noConfusion (show false = true by simpa [pl] using hp))
    | (walk_at "D"; exact fin_dat rfl q)
def wThing (f : D → Bool) : PW0 := fun xs cs post _ => ∃ d, xs = [.dat d] ∧ cs = [] ∧ pl d = true ∧ post (.dat (.bl (f d))) []
/-! ### whole numbers from low to high -/
def inR (lo hi : Int) : D → Bool
  | .int i => decide (lo ≤ i) && decide (i ≤ hi)
  | _ => false
theorem inR_of {lo hi : Int} {d : D} (h : inR lo hi d = true) : ∃ i, d = .int i ∧ lo ≤ i ∧ i ≤ hi := by
  cases d with
  | int i =>
    have h : (decide (lo ≤ i) && decide (i ≤ hi)) = true := h
    rw [Bool.and_eq_true, decide_eq_true_eq, decide_eq_true_eq] at h
    exact ⟨i, rfl, h.1, h.2⟩
  | _ => cases h
theorem inR_int {lo hi i : Int} (h1 : lo ≤ i) (h2 : i ≤ hi) : inR lo hi (.int i) = true := by
  show (decide (lo ≤ i) && decide (i ≤ hi)) = true
  rw [decide_eq_true h1, decide_eq_true h2]; rfl
def wWhole : PW0 := fun xs cs post _ => ∃ (d : D) (lo hi : Int), xs = [.dat d, .dat (.int lo), .dat (.int hi)] ∧ cs = [] ∧ pl d = true ∧ post (.dat (.bl (inR lo hi d))) []
theorem ok_is_whole (T : TxtP P K mg) : FnOk P w K mg base CX0 2 T.a_is_whole T.d_is_whole ["thing", "low", "high"] (spG K wWhole) := by
  refine T.F_is_whole.ok sc_is_whole (fun vs H Q E h => spG_len h fun xs cs post exc ⟨a, b, c, e, _⟩ => by rw [e]; rfl) (fun cdv A outer s H vs Q E hr h => ⟨_, (pss_one (ps_ret (pe_and (pe_call (ok_is_number T) (hr.mono (by decide)) (by rfl) T.g_is_number T.F_is_number.kp T.b_is_number .nil pass0 (pa_cons (pv 0) pa_nil)) (pe_one (pe_chainI op_le op_le (pv 1) (pv 0) (pv 2) mn_var mn_var mn_var sh_var))))), enter h fun F xs cs post hE hw => ?_⟩)
  obtain ⟨d, lo, hi, rfl, rfl, hp, q⟩ := hw
  walk_at "D"
  walk_at "c"
  refine ⟨d, rfl, rfl, hp, rfl, ?_⟩
  cases d with
  | int i =>
    walk_at "D"
    refine we_chV ?_
    walk_at "D"
    refine ⟨_, _, _, rfl, rfl, rfl, ?_⟩
    exact fin_dat rfl q
  | _ =>
    walk_at "D"
    exact fin_dat rfl q
def isRu : D → Bool
  | .tup [.str k, a] => decide (k = "plain") && inR 0 255 a
  | .tup [.str k, a, b, c] => decide (k = "moved") && (inR 1 200 a && (inR 0 15 b && inR 0 255 c))
  | .tup [.str k, a, b, c, d] => decide (k = "mixed") && (inR 1 200 a && (inR 0 15 b && (inR 1 200 c && inR 0 15 d)))
  | _ => false
/-! ### rules by data -/
theorem ok_is_value (T : TxtP P K mg) : FnOk P w K mg base CX0 3 T.a_is_value T.d_is_value ["thing"] (spG K (wThing (inR 0 255))) := by
  refine T.F_is_value.ok sc_is_value (fun vs H Q E h => spG_len h fun xs cs post exc ⟨a, e, _⟩ => by rw [e]; rfl) (fun cdv A outer s H vs Q E hr h => ⟨_, (pss_one (ps_ret (pe_call (ok_is_whole T) (hr.mono (by decide)) (by rfl) T.g_is_whole T.F_is_whole.kp T.b_is_whole .nil pass0 (pa_cons (pv 0) (pa_cons pe_int (pa_cons (pe_glob (v := .int 255) (by rfl) T.g_GREATEST_VALUE ⟨_, rfl⟩) pa_nil)))))), enter h fun F xs cs post hE hw => ?_⟩)
  obtain ⟨d, rfl, rfl, hp, q⟩ := hw
  walk_at "D"
  walk_at "c"
  exact ⟨d, 0, 255, rfl, rfl, hp, rfl, fin_dat rfl q⟩
theorem ok_is_back (T : TxtP P K mg) : FnOk P w K mg base CX0 3 T.a_is_back T.d_is_back ["thing"] (spG K (wThing (inR 1 200))) := by
  refine T.F_is_back.ok sc_is_back (fun vs H Q E h => spG_len h fun xs cs post exc ⟨a, e, _⟩ => by rw [e]; rfl) (fun cdv A outer s H vs Q E hr h => ⟨_, (pss_one (ps_ret (pe_call (ok_is_whole T) (hr.mono (by decide)) (by rfl) T.g_is_whole T.F_is_whole.kp T.b_is_whole .nil pass0 (pa_cons (pv 0) (pa_cons pe_int (pa_cons (pe_glob (v := .int 200) (by rfl) T.g_GREATEST_BACK ⟨_, rfl⟩) pa_nil)))))), enter h fun F xs cs post hE hw => ?_⟩)
  obtain ⟨d, rfl, rfl, hp, q⟩ := hw
  walk_at "D"
  walk_at "c"
  exact ⟨d, 1, 200, rfl, rfl, hp, rfl, fin_dat rfl q⟩
theorem ok_is_cell (T : TxtP P K mg) : FnOk P w K mg base CX0 3 T.a_is_cell T.d_is_cell ["thing"] (spG K (wThing (inR 0 15))) := by
  refine T.F_is_cell.ok sc_is_cell (fun vs H Q E h => spG_len h fun xs cs post exc ⟨a, e, _⟩ => by rw [e]; rfl) (fun cdv A outer s H vs Q E hr h => ⟨_, (pss_one (ps_ret (pe_call (ok_is_whole T) (hr.mono (by decide)) (by rfl) T.g_is_whole T.F_is_whole.kp T.b_is_whole .nil pass0 (pa_cons (pv 0) (pa_cons pe_int (pa_cons (pe_glob (v := .int 15) (by rfl) T.g_LAST_CELL ⟨_, rfl⟩) pa_nil)))))), enter h fun F xs cs post hE hw => ?_⟩)
  obtain ⟨d, rfl, rfl, hp, q⟩ := hw
  walk_at "D"
  walk_at "c"
  exact ⟨d, 0, 15, rfl, rfl, hp, rfl, fin_dat rfl q⟩
theorem isRu_str {k : Str} {ds : List D} (h1 : k ≠ "plain") (h2 : k ≠ "moved") (h3 : k ≠ "mixed") : isRu (.tup (.str k :: ds)) = false := by
  match ds with
  | [] => rfl
  | [a] => show (decide (k = "plain") && _) = false; rw [decide_eq_false h1]; rfl
  | [a, b] => rfl
  | [a, b, c] => show (decide (k = "moved") && _) = false; rw [decide_eq_false h2]; rfl
  | [a, b, c, d] => show (decide (k = "mixed") && _) = false; rw [decide_eq_false h3]; rfl
  | a :: b :: c :: d :: e :: r => rfl
theorem ok_is_rule (T : TxtP P K mg) : FnOk P w K mg base CX0 4 T.a_is_rule T.d_is_rule ["thing"] (spG K (wThing isRu)) := by
  refine T.F_is_rule.ok sc_is_rule (fun vs H Q E h => spG_len h fun xs cs post exc ⟨a, e, _⟩ => by rw [e]; rfl) (fun cdv A outer s H vs Q E hr h => ⟨_, (pss_cons (ps_if (PW.pt (pw_or (pt_not (pt_val (pe_callB call_isi (by rfl) T.m_isinstance (by decide +kernel) (pa_cons (pv 0) (pa_cons (pe_bltn (v := .ty "tuple") (by rfl) T.m_tuple (by decide +kernel) rfl) pa_nil))))) (pw_or (pt_cmpR op_lt (pe_callB call_len_seq (by rfl) T.m_len (by decide +kernel) (pa_cons (pv 0) pa_nil)) pe_int (nomark _)) (pw_or1 (pt_not (pt_val (pe_callB call_isi (by rfl) T.m_isinstance (by decide +kernel) (pa_cons (pe_ix ix_tup (pv 0) pe_int (fun _ _ => rfl)) (pa_cons (pe_bltn (v := .ty "str") (by rfl) T.m_str (by decide +kernel) rfl) pa_nil))))))))) (pss_one (ps_ret pe_bl)) pss_nil)
      (pss_cons (ps_set (i := 1) sc_is_rule.nd rfl (Or.inl rfl) (pe_ix ix_tup (pv 0) pe_int (fun _ _ => rfl)))
      (pss_cons (ps_if (pt_cmpR op_eq (pv 1) pe_str (nomark _)) (pss_one (ps_ret (pe_and (pe_cmpR op_eq (pe_callB call_len_seq (by rfl) T.m_len (by decide +kernel) (pa_cons (pv 0) pa_nil)) pe_int (nomark _)) (pe_one (pe_call (ok_is_value T) (hr.mono (by decide)) (by rfl) T.g_is_value T.F_is_value.kp T.b_is_value .nil pass0 (pa_cons (pe_ix ix_tup (pv 0) pe_int (fun _ _ => rfl)) pa_nil)))))) pss_nil)
      (pss_cons (ps_if (pt_cmpR op_eq (pv 1) pe_str (nomark _)) (pss_one (ps_ret (pe_and (pe_cmpR op_eq (pe_callB call_len_seq (by rfl) T.m_len (by decide +kernel) (pa_cons (pv 0) pa_nil)) pe_int (nomark _)) (pe_and (pe_call (ok_is_back T) (hr.mono (by decide)) (by rfl) T.g_is_back T.F_is_back.kp T.b_is_back .nil pass0 (pa_cons (pe_ix ix_tup (pv 0) pe_int (fun _ _ => rfl)) pa_nil)) (pe_and (pe_call (ok_is_cell T) (hr.mono (by decide)) (by rfl) T.g_is_cell T.F_is_cell.kp T.b_is_cell .nil pass0 (pa_cons (pe_ix ix_tup (pv 0) pe_int (fun _ _ => rfl)) pa_nil)) (pe_one (pe_call (ok_is_value T) (hr.mono (by decide)) (by rfl) T.g_is_value T.F_is_value.kp T.b_is_value .nil pass0 (pa_cons (pe_ix ix_tup (pv 0) pe_int (fun _ _ => rfl)) pa_nil)))))))) pss_nil)
      (pss_cons (ps_if (pt_cmpR op_eq (pv 1) pe_str (nomark _)) (pss_one (ps_ret (pe_and (pe_cmpR op_eq (pe_callB call_len_seq (by rfl) T.m_len (by decide +kernel) (pa_cons (pv 0) pa_nil)) pe_int (nomark _)) (pe_and (pe_call (ok_is_back T) (hr.mono (by decide)) (by rfl) T.g_is_back T.F_is_back.kp T.b_is_back .nil pass0 (pa_cons (pe_ix ix_tup (pv 0) pe_int (fun _ _ => rfl)) pa_nil)) (pe_and (pe_call (ok_is_cell T) (hr.mono (by decide)) (by rfl) T.g_is_cell T.F_is_cell.kp T.b_is_cell .nil pass0 (pa_cons (pe_ix ix_tup (pv 0) pe_int (fun _ _ => rfl)) pa_nil)) (pe_and (pe_call (ok_is_back T) (hr.mono (by decide)) (by rfl) T.g_is_back T.F_is_back.kp T.b_is_back .nil pass0 (pa_cons (pe_ix ix_tup (pv 0) pe_int (fun _ _ => rfl)) pa_nil)) (pe_one (pe_call (ok_is_cell T) (hr.mono (by decide)) (by rfl) T.g_is_cell T.F_is_cell.kp T.b_is_cell .nil pass0 (pa_cons (pe_ix ix_tup (pv 0) pe_int (fun _ _ => rfl)) pa_nil))))))))) pss_nil)
      (pss_one (ps_ret pe_bl))))))), enter h fun F xs cs post hE hw => ?_⟩)
  obtain ⟨d, rfl, rfl, hp, q⟩ := hw
  cases d with
  | tup ds =>
    match ds, hp, q with
    | [], hp, q => walk_at "D"; exact fin_dat rfl q
    | [a], hp, q =>
      rw [show isRu (.tup [a]) = false from by cases a <;> rfl] at q
      walk_at "D"; exact fin_dat rfl q
    | a :: b :: r, hp, q =>
      have hp0 : pls (a :: b :: r) = true := by rw [pl] at hp; exact hp
      obtain ⟨pa, hpb⟩ := pls_cons hp0
      obtain ⟨pb, hpr⟩ := pls_cons hpb
      walk_at "D"
      refine wr_ixT (atI_nat (j := 0) rfl) ?_
      cases a with
      | str k =>
        walk_at "D"
        refine wr_ixT (atI_nat (j := 0) rfl) ?_
        walk_at "D"
        have e1 : eqS (.str k) (.str "plain") = decide (k = "plain") := rfl
        have e2 : eqS (.str k) (.str "moved") = decide (k = "moved") := rfl
        have e3 : eqS (.str k) (.str "mixed") = decide (k = "mixed") := rfl
        rw [e1]
        refine ifC (fun c => ?_) (fun c => ?_)
        · have c := of_decide_eq_true c
          subst c
          walk_at "D"
          match r, hpr, q with
          | [], _, q =>
            walk_at "D"
            walk_at "c"
            exact ⟨b, rfl, rfl, pb, rfl, fin_dat rfl q⟩
          | c :: r, _, q =>
            rw [show isRu (.tup (.str "plain" :: b :: c :: r)) = false from by
              match r with
              | [] => rfl
              | [_] => rfl
              | [_, _] => rfl
              | _ :: _ :: _ :: _ => rfl] at q
            have hl : ¬ (((D.str "plain" :: b :: c :: r).length : Int) = 2) := by simp only [List.length_cons]; omega
            walk_at "D"
            first | exact fin_dat rfl q | (refine ifF (show eqS _ _ = false from decide_eq_false hl) ?_; walk_at "D"; exact fin_dat rfl q)
        · have n1 := of_decide_eq_false c
          walk_at "D"
          rw [e2]
          refine ifC (fun c => ?_) (fun c => ?_)
          · have c := of_decide_eq_true c
            subst c
            walk_at "D"
            match r, hpr, q with
            | [c, d], hpr, q =>
              obtain ⟨pc, hpd⟩ := pls_cons hpr
              obtain ⟨pd, _⟩ := pls_cons hpd
              rw [show isRu (.tup [.str "moved", b, c, d]) = (inR 1 200 b && (inR 0 15 c && inR 0 255 d)) from rfl] at q
              walk_at "D"
              walk_at "c"
              refine ⟨b, rfl, rfl, pb, rfl, ?_⟩
              cases hb : inR 1 200 b with
              | false => rw [hb] at q; walk_at "D"; exact fin_dat rfl q
              | true =>
                rw [hb] at q
                walk_at "D"
                walk_at "c"
                refine ⟨c, rfl, rfl, pc, rfl, ?_⟩
                cases hc : inR 0 15 c with
                | false => rw [hc] at q; walk_at "D"; exact fin_dat rfl q
                | true =>
                  rw [hc] at q
                  walk_at "D"
                  walk_at "c"
                  exact ⟨d, rfl, rfl, pd, rfl, fin_dat rfl q⟩
            | [], _, q => walk_at "D"; exact fin_dat rfl q
            | [c], _, q => walk_at "D"; exact fin_dat rfl q
            | c :: d :: e :: r, _, q =>
              rw [show isRu (.tup (.str "moved" :: b :: c :: d :: e :: r)) = false from by cases r <;> rfl] at q
              have hl : ¬ (((D.str "moved" :: b :: c :: d :: e :: r).length : Int) = 4) := by simp only [List.length_cons]; omega
              walk_at "D"
              first | exact fin_dat rfl q | (refine ifF (show eqS _ _ = false from decide_eq_false hl) ?_; walk_at "D"; exact fin_dat rfl q)
          · have n2 := of_decide_eq_false c
            walk_at "D"
            rw [e3]
            refine ifC (fun c => ?_) (fun c => ?_)
            · have c := of_decide_eq_true c
              subst c
              walk_at "D"
              match r, hpr, q with
              | [c, d, e], hpr, q =>
                obtain ⟨pc, hpd⟩ := pls_cons hpr
                obtain ⟨pd, hpe⟩ := pls_cons hpd
                obtain ⟨pe, _⟩ := pls_cons hpe
                rw [show isRu (.tup [.str "mixed", b, c, d, e]) = (inR 1 200 b && (inR 0 15 c && (inR 1 200 d && inR 0 15 e))) from rfl] at q
                walk_at "D"
                walk_at "c"
                refine ⟨b, rfl, rfl, pb, rfl, ?_⟩
                cases hb : inR 1 200 b with
                | false => rw [hb] at q; walk_at "D"; exact fin_dat rfl q
                | true =>
                  rw [hb] at q
                  walk_at "D"
                  walk_at "c"
                  refine ⟨c, rfl, rfl, pc, rfl, ?_⟩
                  cases hc : inR 0 15 c with
                  | false => rw [hc] at q; walk_at "D"; exact fin_dat rfl q
                  | true =>
                    rw [hc] at q
                    walk_at "D"
                    walk_at "c"
                    refine ⟨d, rfl, rfl, pd, rfl, ?_⟩
                    cases hd : inR 1 200 d with
                    | false => rw [hd] at q; walk_at "D"; exact fin_dat rfl q
                    | true =>
                      rw [hd] at q
                      walk_at "D"
                      walk_at "c"
                      exact ⟨e, rfl, rfl, pe, rfl, fin_dat rfl q⟩
              | [], _, q => walk_at "D"; exact fin_dat rfl q
              | [c], _, q => walk_at "D"; exact fin_dat rfl q
              | [c, d], _, q => walk_at "D"; exact fin_dat rfl q
              | c :: d :: e :: f :: r, _, q =>
                rw [show isRu (.tup (.str "mixed" :: b :: c :: d :: e :: f :: r)) = false from rfl] at q
                have hl : ¬ (((D.str "mixed" :: b :: c :: d :: e :: f :: r).length : Int) = 5) := by simp only [List.length_cons]; omega
                walk_at "D"
                first | exact fin_dat rfl q | (refine ifF (show eqS _ _ = false from decide_eq_false hl) ?_; walk_at "D"; exact fin_dat rfl q)
            · have n3 := of_decide_eq_false c
              walk_at "D"
              rw [isRu_str n1 n2 n3] at q
              exact fin_dat rfl q
      | _ =>
        rw [show isRu _ = false from rfl] at q
        walk_at "D"
        first | exact fin_dat rfl q | (exfalso; exact Bool.noConfusion (show false = true by simpa [pl] using pa))
  | obj => rw [pl] at hp; cases hp
  | scr => rw [pl] at hp; cases hp
  | ty => rw [pl] at hp; cases hp
  | cls => rw [pl] at hp; cases hp
  | _ => walk_at "D"; exact fin_dat rfl q
end

section
variable {P : Program} {w : World} {K : PySem.W.Frag} {mg : Str → Option Value} {base : Heap}
/-! ### rules as things -/
inductive Ru where
  | plain (v : Int)
  | moved (b c a : Int)
  | mixed (b c b2 c2 : Int)
def Ru.told : Ru → D
  | .plain v => .tup [.str "plain", .int v]
  | .moved b c a => .tup [.str "moved", .int b, .int c, .int a]
  | .mixed b c b2 c2 => .tup [.str "mixed", .int b, .int c, .int b2, .int c2]
def Ru.ok : Ru → Prop
  | .plain v => 0 ≤ v ∧ v ≤ 255
  | .moved b c a => (1 ≤ b ∧ b ≤ 200) ∧ (0 ≤ c ∧ c ≤ 15) ∧ (0 ≤ a ∧ a ≤ 255)
  | .mixed b c b2 c2 => (1 ≤ b ∧ b ≤ 200) ∧ (0 ≤ c ∧ c ≤ 15) ∧ (1 ≤ b2 ∧ b2 ≤ 200) ∧ (0 ≤ c2 ∧ c2 ≤ 15)
def Ru.ob (CP CM CX : Addr) : Ru → D
  | .plain v => .obj CP ["worth"] [.int v]
  | .moved b c a => .obj CM ["back", "cell", "added"] [.int b, .int c, .int a]
  | .mixed b c b2 c2 => .obj CX ["back", "cell", "other_back", "other_cell"] [.int b, .int c, .int b2, .int c2]
theorem Ru.pl_told (r : Ru) : pl r.told = true := by cases r <;> rfl
theorem Ru.hard_told (r : Ru) : hard r.told = true := by cases r <;> rfl
theorem Ru.hard_ob {CP CM CX : Addr} (r : Ru) : hard (r.ob CP CM CX) = true := by cases r <;> rfl
theorem isRu_told {r : Ru} (h : r.ok) : isRu r.told = true := by
  cases r with
  | plain v =>
    show (true && inR 0 255 (.int v)) = true
    rw [inR_int h.1 h.2]; rfl
  | moved b c a =>
    obtain ⟨⟨h1, h2⟩, ⟨h3, h4⟩, ⟨h5, h6⟩⟩ := h
    show (true && (inR 1 200 (.int b) && (inR 0 15 (.int c) && inR 0 255 (.int a)))) = true
    rw [inR_int h1 h2, inR_int h3 h4, inR_int h5 h6]; rfl
  | mixed b c b2 c2 =>
    obtain ⟨⟨h1, h2⟩, ⟨h3, h4⟩, ⟨h5, h6⟩, ⟨h7, h8⟩⟩ := h
    show (true && (inR 1 200 (.int b) && (inR 0 15 (.int c) && (inR 1 200 (.int b2) && inR 0 15 (.int c2))))) = true
    rw [inR_int h1 h2, inR_int h3 h4, inR_int h5 h6, inR_int h7 h8]; rfl
theorem isRu_of {d : D} (h : isRu d = true) : ∃ r : Ru, r.ok ∧ d = r.told := by
  unfold isRu at h
  split at h
  · rename_i k a
    rw [Bool.and_eq_true, decide_eq_true_eq] at h
    obtain ⟨rfl, h⟩ := h
    obtain ⟨v, rfl, h1, h2⟩ := inR_of h
    exact ⟨.plain v, ⟨h1, h2⟩, rfl⟩
  · rename_i k a b c
    rw [Bool.and_eq_true, Bool.and_eq_true, Bool.and_eq_true, decide_eq_true_eq] at h
    obtain ⟨rfl, ha, hb, hc⟩ := h
    obtain ⟨x, rfl, h1, h2⟩ := inR_of ha
    obtain ⟨y, rfl, h3, h4⟩ := inR_of hb
    obtain ⟨z, rfl, h5, h6⟩ := inR_of hc
    exact ⟨.moved x y z, ⟨⟨h1, h2⟩, ⟨h3, h4⟩, ⟨h5, h6⟩⟩, rfl⟩
  · rename_i k a b c d
    rw [Bool.and_eq_true, Bool.and_eq_true, Bool.and_eq_true, Bool.and_eq_true, decide_eq_true_eq] at h
    obtain ⟨rfl, ha, hb, hc, hd⟩ := h
    obtain ⟨x, rfl, h1, h2⟩ := inR_of ha
    obtain ⟨y, rfl, h3, h4⟩ := inR_of hb
    obtain ⟨z, rfl, h5, h6⟩ := inR_of hc
    obtain ⟨u, rfl, h7, h8⟩ := inR_of hd
    exact ⟨.mixed x y z u, ⟨⟨h1, h2⟩, ⟨h3, h4⟩, ⟨h5, h6⟩, ⟨h7, h8⟩⟩, rfl⟩
  · cases h
def wInit (C : Addr) (ns : List Str) : PW0 := fun xs cs post _ => ∃ ds : List D, xs = .cel 0 :: ds.map .dat ∧ cs = [.ins C [] []] ∧ ds.length = ns.length ∧ post (.dat .non) [.ins C ns ds]
theorem ok_Plain_init (T : TxtP P K mg) : FnOk P w K mg base CX0 1 T.a_Plain_init T.d_Plain_init ["self", "value"] (spG K (wInit T.c_Plain ["worth"])) := by
  refine T.F_Plain_init.ok sc_Plain_init (fun vs H Q E h => spG_len h fun xs cs post exc ⟨ds, e, _, hl, _⟩ => by rw [e, List.length_cons, List.length_map, hl]; rfl) (fun cdv A outer s H vs Q E hr h => ⟨_, (pss_one (ps_fld (pv 0) (pv 1) rfl)), enter h fun F xs cs post hE hw => ?_⟩)
  obtain ⟨ds, rfl, rfl, hl, q⟩ := hw
  match ds, hl, q with
  | [v], _, q =>
    walk_at "D"
    refine ws_fset ?_
    walk_at "D"
    refine ⟨0, _, [], [], _, _, rfl, by walk_at "fz", rfl, T.cl_Plain, T.na_Plain_worth, rfl, ?_⟩
    exact ⟨rfl, q⟩
theorem ok_Moved_init (T : TxtP P K mg) : FnOk P w K mg base CX0 1 T.a_Moved_init T.d_Moved_init ["self", "back", "cell", "add"] (spG K (wInit T.c_Moved ["back", "cell", "added"])) := by
  refine T.F_Moved_init.ok sc_Moved_init (fun vs H Q E h => spG_len h fun xs cs post exc ⟨ds, e, _, hl, _⟩ => by rw [e, List.length_cons, List.length_map, hl]; rfl) (fun cdv A outer s H vs Q E hr h => ⟨_, (pss_cons (ps_fld (pv 0) (pv 1) rfl)
      (pss_cons (ps_fld (pv 0) (pv 2) rfl)
      (pss_one (ps_fld (pv 0) (pv 3) rfl)))), enter h fun F xs cs post hE hw => ?_⟩)
  obtain ⟨ds, rfl, rfl, hl, q⟩ := hw
  match ds, hl, q with
  | [a, b, c], _, q =>
    walk_at "D"
    refine ws_fset ?_
    walk_at "D"
    refine ⟨0, _, [], [], _, _, rfl, by walk_at "fz", rfl, T.cl_Moved, T.na_Moved_back, rfl, ?_⟩
    walk_at "D"
    refine ws_fset ?_
    walk_at "D"
    refine ⟨0, _, _, _, _, _, rfl, by walk_at "fz", rfl, T.cl_Moved, T.na_Moved_cell, rfl, ?_⟩
    walk_at "D"
    refine ws_fset ?_
    walk_at "D"
    refine ⟨0, _, _, _, _, _, rfl, by walk_at "fz", rfl, T.cl_Moved, T.na_Moved_added, rfl, ?_⟩
    exact ⟨rfl, q⟩
theorem ok_Mixed_init (T : TxtP P K mg) : FnOk P w K mg base CX0 1 T.a_Mixed_init T.d_Mixed_init ["self", "back", "cell", "other_back", "other_cell"] (spG K (wInit T.c_Mixed ["back", "cell", "other_back", "other_cell"])) := by
  refine T.F_Mixed_init.ok sc_Mixed_init (fun vs H Q E h => spG_len h fun xs cs post exc ⟨ds, e, _, hl, _⟩ => by rw [e, List.length_cons, List.length_map, hl]; rfl) (fun cdv A outer s H vs Q E hr h => ⟨_, (pss_cons (ps_fld (pv 0) (pv 1) rfl)
      (pss_cons (ps_fld (pv 0) (pv 2) rfl)
      (pss_cons (ps_fld (pv 0) (pv 3) rfl)
      (pss_one (ps_fld (pv 0) (pv 4) rfl))))), enter h fun F xs cs post hE hw => ?_⟩)
  obtain ⟨ds, rfl, rfl, hl, q⟩ := hw
  match ds, hl, q with
  | [a, b, c, d], _, q =>
    walk_at "D"
    refine ws_fset ?_
    walk_at "D"
    refine ⟨0, _, [], [], _, _, rfl, by walk_at "fz", rfl, T.cl_Mixed, T.na_Mixed_back, rfl, ?_⟩
    walk_at "D"
    refine ws_fset ?_
    walk_at "D"
    refine ⟨0, _, _, _, _, _, rfl, by walk_at "fz", rfl, T.cl_Mixed, T.na_Mixed_cell, rfl, ?_⟩
    walk_at "D"
    refine ws_fset ?_
    walk_at "D"
    refine ⟨0, _, _, _, _, _, rfl, by walk_at "fz", rfl, T.cl_Mixed, T.na_Mixed_other_back, rfl, ?_⟩
    walk_at "D"
    refine ws_fset ?_
    walk_at "D"
    refine ⟨0, _, _, _, _, _, rfl, by walk_at "fz", rfl, T.cl_Mixed, T.na_Mixed_other_cell, rfl, ?_⟩
    exact ⟨rfl, q⟩
def wTold (CP CM CX : Addr) (f : Ru → Bool) : PW0 := fun xs cs post _ => ∃ r : Ru, f r = true ∧ xs = [.dat (r.ob CP CM CX)] ∧ cs = [] ∧ post (.dat r.told) []
def Ru.isP : Ru → Bool | .plain _ => true | _ => false
def Ru.isM : Ru → Bool | .moved _ _ _ => true | _ => false
def Ru.isX : Ru → Bool | .mixed _ _ _ _ => true | _ => false
theorem ok_Plain_told (T : TxtP P K mg) : FnOk P w K mg base CX0 1 T.a_Plain_told T.d_Plain_told ["self"] (spG K (wTold T.c_Plain T.c_Moved T.c_Mixed Ru.isP)) := by
  refine T.F_Plain_told.ok sc_Plain_told (fun vs H Q E h => spG_len h fun xs cs post exc ⟨r, _, e, _⟩ => by rw [e]; rfl) (fun cdv A outer s H vs Q E hr h => ⟨_, (pss_one (ps_ret (pe_tup (pa_cons pe_str (pa_cons (pe_fld (pv 0) rfl) pa_nil))))), enter h fun F xs cs post hE hw => ?_⟩)
  obtain ⟨r, hf, rfl, rfl, q⟩ := hw
  cases r with
  | plain v =>
    walk_at "D"
    refine we_fld ?_
    walk_at "D"
    refine ⟨_, _, _, _, .dat, T.cl_Plain, T.na_Plain_worth, rfl, ?_⟩
    walk_at "D"
    exact fin_dat rfl q
  | _ => cases hf
theorem ok_Moved_told (T : TxtP P K mg) : FnOk P w K mg base CX0 1 T.a_Moved_told T.d_Moved_told ["self"] (spG K (wTold T.c_Plain T.c_Moved T.c_Mixed Ru.isM)) := by
  refine T.F_Moved_told.ok sc_Moved_told (fun vs H Q E h => spG_len h fun xs cs post exc ⟨r, _, e, _⟩ => by rw [e]; rfl) (fun cdv A outer s H vs Q E hr h => ⟨_, (pss_one (ps_ret (pe_tup (pa_cons pe_str (pa_cons (pe_fld (pv 0) rfl) (pa_cons (pe_fld (pv 0) rfl) (pa_cons (pe_fld (pv 0) rfl) pa_nil))))))), enter h fun F xs cs post hE hw => ?_⟩)
  obtain ⟨r, hf, rfl, rfl, q⟩ := hw
  cases r with
  | moved b c a =>
    walk_at "D"
    refine we_fld ?_
    walk_at "D"
    refine ⟨_, _, _, _, .dat, T.cl_Moved, T.na_Moved_back, rfl, ?_⟩
    walk_at "D"
    refine we_fld ?_
    walk_at "D"
    refine ⟨_, _, _, _, .dat, T.cl_Moved, T.na_Moved_cell, rfl, ?_⟩
    walk_at "D"
    refine we_fld ?_
    walk_at "D"
    refine ⟨_, _, _, _, .dat, T.cl_Moved, T.na_Moved_added, rfl, ?_⟩
    walk_at "D"
    exact fin_dat rfl q
  | _ => cases hf
theorem ok_Mixed_told (T : TxtP P K mg) : FnOk P w K mg base CX0 1 T.a_Mixed_told T.d_Mixed_told ["self"] (spG K (wTold T.c_Plain T.c_Moved T.c_Mixed Ru.isX)) := by
  refine T.F_Mixed_told.ok sc_Mixed_told (fun vs H Q E h => spG_len h fun xs cs post exc ⟨r, _, e, _⟩ => by rw [e]; rfl) (fun cdv A outer s H vs Q E hr h => ⟨_, (pss_one (ps_ret (pe_tup (pa_cons pe_str (pa_cons (pe_fld (pv 0) rfl) (pa_cons (pe_fld (pv 0) rfl) (pa_cons (pe_fld (pv 0) rfl) (pa_cons (pe_fld (pv 0) rfl) pa_nil)))))))), enter h fun F xs cs post hE hw => ?_⟩)
  obtain ⟨r, hf, rfl, rfl, q⟩ := hw
  cases r with
  | mixed b c b2 c2 =>
    walk_at "D"
    refine we_fld ?_
    walk_at "D"
    refine ⟨_, _, _, _, .dat, T.cl_Mixed, T.na_Mixed_back, rfl, ?_⟩
    walk_at "D"
    refine we_fld ?_
    walk_at "D"
    refine ⟨_, _, _, _, .dat, T.cl_Mixed, T.na_Mixed_cell, rfl, ?_⟩
    walk_at "D"
    refine we_fld ?_
    walk_at "D"
    refine ⟨_, _, _, _, .dat, T.cl_Mixed, T.na_Mixed_other_back, rfl, ?_⟩
    walk_at "D"
    refine we_fld ?_
    walk_at "D"
    refine ⟨_, _, _, _, .dat, T.cl_Mixed, T.na_Mixed_other_cell, rfl, ?_⟩
    walk_at "D"
    exact fin_dat rfl q
  | _ => cases hf
/-- what a call of C(..) asks, with a promise wInit -/
theorem wsp_init {F : Fx} {ρ2 : En} {k : AV → En → Prop} {C : Addr} {ns : List Str} {ds : List D} {E : L2.St → XK} (hl : ds.length = ns.length) (hk : k (.dat (.obj C ns ds)) ⟨ρ2.sl.map (fun o => o.map (frzA ρ2.ce.length (.obj C ns ds))), ρ2.ce ++ [.gone]⟩) : WpSp K F (spG K (wInit C ns)) E (.cel ρ2.ce.length :: ds.map .dat) (ρ2.addO C) fun r ρ3 => r = .dat .non ∧ frzO k (.cel ρ2.ce.length) ρ3 := by
  have hj : (ρ2.addO C).ce[ρ2.ce.length]? = some (.ins C [] []) := by show (ρ2.ce ++ [_])[_]? = _; rw [List.getElem?_append_right (Nat.le_refl _), Nat.sub_self]; rfl
  have lend0 : (ds.map AV.dat).map lend = ds.map AV.dat := by rw [List.map_map]; rfl
  have onl : onlyC ρ2.ce.length (.cel ρ2.ce.length :: ds.map AV.dat) = true := by
    show (decide (ρ2.ce.length = ρ2.ce.length) && onlyC _ (ds.map AV.dat)) = true
    rw [decide_eq_true rfl]
    clear hk hl hj lend0
    induction ds with
    | nil => rfl
    | cons d ds ih => exact ih
  refine wsp1 hj rfl onl ⟨ds, by rw [List.map_cons, lend0]; rfl, rfl, hl, .ins C ns ds, rfl, rfl, rfl, ρ2.ce.length, .ins C ns ds, .obj C ns ds, rfl, ?_, rfl, ?_⟩
  · show ((ρ2.ce ++ [Cell.ins C [] []]).set ρ2.ce.length _)[ρ2.ce.length]? = _
    rw [List.set_append_right _ _ (Nat.le_refl _), Nat.sub_self, List.getElem?_append_right (Nat.le_refl _), Nat.sub_self]; rfl
  · have e1 : ((ρ2.addO C).cell ρ2.ce.length (.ins C ns ds)).frzD ρ2.ce.length (.obj C ns ds) = ⟨ρ2.sl.map (fun o => o.map (frzA ρ2.ce.length (.obj C ns ds))), ρ2.ce ++ [.gone]⟩ := by
      show En.mk _ (((ρ2.ce ++ [Cell.ins C [] []]).set ρ2.ce.length _).set ρ2.ce.length _) = _
      rw [List.set_append_right _ _ (Nat.le_refl _), Nat.sub_self, List.set_append_right _ _ (Nat.le_refl _), Nat.sub_self]
      rfl
    rw [e1]
    exact hk
def En.mkO (ρ : En) (C : Addr) (ns : List Str) (ds : List D) : En := ⟨ρ.sl.map (fun o => o.map (frzA ρ.ce.length (.obj C ns ds))), ρ.ce ++ [.gone]⟩
theorem we_mk {F : Fx} {ρ : En} {k : AV → En → Prop} {C : Addr} {ns : List Str} {E : XK} {t : TA} (h : WpA K F t ρ fun xs ρ1 => ∃ ds ρ2, Frz xs ρ1 ds ρ2 ∧ ds.length = ns.length ∧ k (.dat (.obj C ns ds)) (ρ2.mkO C ns ds)) : WpE K F (tMake C (spG K (wInit C ns)) [] E t) ρ k := by
  refine we_frzO (we_make ?_)
  intro as σ H G e Q q
  exact h as σ H G e Q fun avs ρ1 vs as1 H1 G1 ⟨ds, ρ2, fz, hl, hk⟩ e1 g1 r1 => q avs ρ1 vs as1 H1 G1 ⟨ds, ρ2, fz, wsp_init hl hk⟩ e1 g1 r1
theorem we_mkS {F : Fx} {ρ : En} {k : AV → En → Prop} {C : Addr} {ns : List Str} {E : XK} {te : TE} (h : WpE K F te ρ fun y ρ1 => ∃ ds, (IsL ρ1 y ds ∨ y = .dat (.tup ds)) ∧ ds.length = ns.length ∧ k (.dat (.obj C ns ds)) (ρ1.mkO C ns ds)) : WpE K F (tMakeS K C (spG K (wInit C ns)) E te) ρ k := by
  refine we_frzO (we_makeS (WpE.imp h ?_))
  exact fun y ρ1 ⟨ds, hy, hl, hk⟩ => ⟨ds, hy, wsp_init hl hk⟩
theorem we_mkK {F : Fx} {ρ : En} {k : AV → En → Prop} {C : Addr} {ns : List Str} {n m : Nat} {gV : List V → List V → List V} {E : XK} {t tk : TA} (h : WpA K F t ρ fun xs ρ1 => WpA K F tk ρ1 fun ys ρ2 => ∃ ds es fs : List D, xs = ds.map .dat ∧ ys = es.map .dat ∧ ds.length = n ∧ es.length = m ∧ (∀ G as x vs ws, RepAs K G as xs vs → RepAs K G as ys ws → RepAs K G as (fs.map .dat) (gV (x :: vs) ws).tail ∧ (gV (x :: vs) ws).head? = some x) ∧ fs.length = ns.length ∧ k (.dat (.obj C ns fs)) (ρ2.mkO C ns fs)) : WpE K F (tMakeK C n m (spG K (wInit C ns)) gV E t tk) ρ k := by
  refine we_frzO (we_makeK ?_)
  intro as σ H G e Q q
  refine h as σ H G e Q fun avs ρ1 vs as1 H1 G1 h1 e1 g1 r1 => q avs ρ1 vs as1 H1 G1 ?_ e1 g1 r1
  intro as2 σ2 H2 G2 e2 Q2 q2
  exact h1 as2 σ2 H2 G2 e2 Q2 fun ys ρ2 ws as3 H3 G3 ⟨ds, es, fs, a1, a2, a3, a4, a5, a6, a7⟩ e3 g3 r3 => q2 ys ρ2 ws as3 H3 G3 ⟨ds, es, fs, a1, a2, a3, a4, a5, wsp_init a6 a7⟩ e3 g3 r3
def wRuleOf (C CP CM CX : Addr) : PW0 := fun xs cs post exc => ∃ d, xs = [.dat d] ∧ cs = [] ∧ pl d = true ∧ (isRu d = false → exc C) ∧ ∀ r : Ru, r.ok → d = r.told → post (.dat (r.ob CP CM CX)) []
theorem ok_rule_of (T : TxtP P K mg) : FnOk P w K mg base (L2.CX P w) 5 T.a_rule_of T.d_rule_of ["told"] (spG K (wRuleOf T.c_NoRule T.c_Plain T.c_Moved T.c_Mixed)) := by
  refine T.F_rule_of.okX sc_rule_of (fun vs H Q E h => spG_len h fun xs cs post exc ⟨a, e, _⟩ => by rw [e]; rfl) (fun cdv A outer s H vs Q E hr h => ⟨_, (pss_cons (ps_if (pt_not (pt_val (pe_call (ok_is_rule T) (hr.mono (by decide)) (by rfl) T.g_is_rule T.F_is_rule.kp T.b_is_rule .nil pass0 (pa_cons (pv 0) pa_nil)))) (pss_one (ps_raise rfl (takes_of rfl rfl rfl rfl) (pmk_own PySem.F.excBase_ValueError T.x_NoRule T.g_NoRule T.k_NoRule (raises_own T.bb_NoRule T.t_NoRule) rfl))) pss_nil)
      (pss_cons (ps_asg (pv 0) (pg_star rfl (pg_name (i := 1) sc_rule_of.nd rfl (Or.inl rfl)) (pg_name (i := 2) sc_rule_of.nd rfl (Or.inl rfl))))
      (pss_cons (ps_if (pt_cmpR op_eq (pv 1) pe_str (nomark _)) (pss_one (ps_ret (pe_makeS T.mk_Plain (ok_Plain_init T) (hr.mono (by decide)) (by rfl) T.g_Plain T.b_Plain_init pass0 (pv 2)))) pss_nil)
      (pss_cons (ps_if (pt_cmpR op_eq (pv 1) pe_str (nomark _)) (pss_one (ps_ret (pe_makeS T.mk_Moved (ok_Moved_init T) (hr.mono (by decide)) (by rfl) T.g_Moved T.b_Moved_init pass0 (pv 2)))) pss_nil)
      (pss_one (ps_ret (pe_makeS T.mk_Mixed (ok_Mixed_init T) (hr.mono (by decide)) (by rfl) T.g_Mixed T.b_Mixed_init pass0 (pv 2)))))))), enter h fun F xs cs post hE hw => ?_⟩)
  obtain ⟨d, rfl, rfl, hp, q1, q2⟩ := hw
  subst hE
  walk_at "D"
  walk_at "c"
  refine ⟨d, rfl, rfl, hp, rfl, ?_⟩
  cases hd : isRu d with
  | false =>
    walk_at "D"
    exact ws_exc fun as σ H G D en => F.hE _ H (q1 hd) en.fh
  | true =>
    obtain ⟨r, ok, rfl⟩ := isRu_of hd
    have q2 := q2 r ok rfl
    cases r with
    | plain v =>
      walk_at "D"
      refine wg_star ?_
      walk_at "D"
      refine we_mkS ?_
      walk_at "D"
      exact ⟨_, .inl (.cel rfl), rfl, fin_dat rfl q2⟩
    | moved b c a =>
      walk_at "D"
      refine wg_star ?_
      walk_at "D"
      refine we_mkS ?_
      walk_at "D"
      exact ⟨_, .inl (.cel rfl), rfl, fin_dat rfl q2⟩
    | mixed b c b2 c2 =>
      walk_at "D"
      refine wg_star ?_
      walk_at "D"
      refine we_mkS ?_
      walk_at "D"
      exact ⟨_, .inl (.cel rfl), rfl, fin_dat rfl q2⟩
end

section
variable {P : Program} {w : World} {K : PySem.W.Frag} {mg : Str → Option Value} {base : Heap}
/-! ### leaves by data -/
inductive Lf where
  | full (b s : Int) (vs : List Int)
  | still (b s k : Int)
  | woven (b s : Int) (rs : List Ru)
def Lf.told : Lf → D
  | .full b s vs => .tup [.str "full", .int b, .int s, .tup (vs.map .int)]
  | .still b s k => .tup [.str "still", .int b, .int s, .int k]
  | .woven b s rs => .tup [.str "woven", .int b, .int s, .tup (rs.map Ru.told)]
/-- the classes of rules and leaves -/
structure Cs where
  p : Addr
  m : Addr
  x : Addr
  f : Addr
  s : Addr
  w : Addr
abbrev Cs.ru (c : Cs) (r : Ru) : D := r.ob c.p c.m c.x
def Lf.ob (c : Cs) : Lf → D
  | .full b s vs => .obj c.f ["begin", "span", "worths"] [.int b, .int s, .tup (vs.map .int)]
  | .still b s k => .obj c.s ["begin", "span", "back"] [.int b, .int s, .int k]
  | .woven b s rs => .obj c.w ["begin", "span", "rules"] [.int b, .int s, .lst (rs.map c.ru)]
def timeOk (b s : Int) : Prop := (0 ≤ b ∧ b ≤ 1000000000) ∧ (1 ≤ s ∧ s ≤ 1000000000)
def Lf.ok : Lf → Prop
  | .full b s vs => timeOk b s ∧ (1 ≤ vs.length ∧ vs.length ≤ 16) ∧ ∀ v ∈ vs, 0 ≤ v ∧ v ≤ 255
  | .still b s k => timeOk b s ∧ (1 ≤ k ∧ k ≤ 200)
  | .woven b s rs => timeOk b s ∧ (1 ≤ rs.length ∧ rs.length ≤ 16) ∧ ∀ r ∈ rs, r.ok
def isRow (f : D → Bool) : D → Bool
  | .tup ds => decide (1 ≤ ds.length) && decide (ds.length ≤ 16) && ds.all f
  | _ => false
def isLf : D → Bool
  | .tup [.str k, b, s, h] => inR 0 1000000000 b && (inR 1 1000000000 s && (if k = "full" then isRow (inR 0 255) h else if k = "still" then inR 1 200 h else if k = "woven" then isRow isRu h else false))
  | _ => false
theorem all_ints {lo hi : Int} : ∀ {ds : List D}, ds.all (inR lo hi) = true → ∃ vs : List Int, ds = vs.map .int ∧ ∀ v ∈ vs, lo ≤ v ∧ v ≤ hi
  | [], _ => ⟨[], rfl, fun _ m => nomatch m⟩
  | d :: ds, h => by
    rw [List.all_cons, Bool.and_eq_true] at h
    obtain ⟨i, rfl, h1, h2⟩ := inR_of h.1
    obtain ⟨vs, rfl, hv⟩ := all_ints h.2
    refine ⟨i :: vs, rfl, fun v m => ?_⟩
    rcases List.mem_cons.mp m with rfl | m
    · exact ⟨h1, h2⟩
    · exact hv v m
theorem all_rus : ∀ {ds : List D}, ds.all isRu = true → ∃ rs : List Ru, ds = rs.map Ru.told ∧ ∀ r ∈ rs, r.ok
  | [], _ => ⟨[], rfl, fun _ m => nomatch m⟩
  | d :: ds, h => by
    rw [List.all_cons, Bool.and_eq_true] at h
    obtain ⟨r, hr, rfl⟩ := isRu_of h.1
    obtain ⟨rs, rfl, hv⟩ := all_rus h.2
    refine ⟨r :: rs, rfl, fun v m => ?_⟩
    rcases List.mem_cons.mp m with rfl | m
    · exact hr
    · exact hv v m
theorem isRow_of {f : D → Bool} {d : D} (h : isRow f d = true) : ∃ ds, d = .tup ds ∧ (1 ≤ ds.length ∧ ds.length ≤ 16) ∧ ds.all f = true := by
  cases d with
  | tup ds =>
    have h : (decide (1 ≤ ds.length) && decide (ds.length ≤ 16) && ds.all f) = true := h
    rw [Bool.and_eq_true, Bool.and_eq_true, decide_eq_true_eq, decide_eq_true_eq] at h
    exact ⟨ds, rfl, h.1, h.2⟩
  | _ => cases h
theorem isLf_of {d : D} (h : isLf d = true) : ∃ l : Lf, l.ok ∧ d = l.told := by
  unfold isLf at h
  split at h
  · rename_i k b s hh
    rw [Bool.and_eq_true, Bool.and_eq_true] at h
    obtain ⟨h1, h2, h3⟩ := h
    obtain ⟨bi, rfl, b1, b2⟩ := inR_of h1
    obtain ⟨si, rfl, s1, s2⟩ := inR_of h2
    by_cases c1 : k = "full"
    · rw [if_pos c1] at h3
      obtain ⟨ds, rfl, hl, ha⟩ := isRow_of h3
      obtain ⟨vs, rfl, hv⟩ := all_ints ha
      rw [List.length_map] at hl
      exact ⟨.full bi si vs, ⟨⟨⟨b1, b2⟩, ⟨s1, s2⟩⟩, hl, hv⟩, by rw [c1]; rfl⟩
    · rw [if_neg c1] at h3
      by_cases c2 : k = "still"
      · rw [if_pos c2] at h3
        obtain ⟨ki, rfl, k1, k2⟩ := inR_of h3
        exact ⟨.still bi si ki, ⟨⟨⟨b1, b2⟩, ⟨s1, s2⟩⟩, ⟨k1, k2⟩⟩, by rw [c2]; rfl⟩
      · rw [if_neg c2] at h3
        by_cases c3 : k = "woven"
        · rw [if_pos c3] at h3
          obtain ⟨ds, rfl, hl, ha⟩ := isRow_of h3
          obtain ⟨rs, rfl, hv⟩ := all_rus ha
          rw [List.length_map] at hl
          exact ⟨.woven bi si rs, ⟨⟨⟨b1, b2⟩, ⟨s1, s2⟩⟩, hl, hv⟩, by rw [c3]; rfl⟩
        · rw [if_neg c3] at h3; cases h3
  · cases h
theorem isLf_told {l : Lf} (h : l.ok) : isLf l.told = true := by
  have row : ∀ {f : D → Bool} {ds : List D}, 1 ≤ ds.length → ds.length ≤ 16 → (∀ d ∈ ds, f d = true) → isRow f (.tup ds) = true := fun {f ds} h1 h2 h3 => by
    show (decide (1 ≤ ds.length) && decide (ds.length ≤ 16) && ds.all f) = true
    rw [decide_eq_true h1, decide_eq_true h2, List.all_eq_true.mpr h3]; rfl
  cases l with
  | full b s vs =>
    obtain ⟨⟨⟨b1, b2⟩, ⟨s1, s2⟩⟩, ⟨l1, l2⟩, hv⟩ := h
    show (inR 0 1000000000 (.int b) && (inR 1 1000000000 (.int s) && isRow (inR 0 255) (.tup (vs.map .int)))) = true
    rw [inR_int b1 b2, inR_int s1 s2, row (by rw [List.length_map]; exact l1) (by rw [List.length_map]; exact l2) fun d m => by obtain ⟨v, mv, rfl⟩ := List.mem_map.mp m; exact inR_int (hv v mv).1 (hv v mv).2]; rfl
  | still b s k =>
    obtain ⟨⟨⟨b1, b2⟩, ⟨s1, s2⟩⟩, ⟨k1, k2⟩⟩ := h
    show (inR 0 1000000000 (.int b) && (inR 1 1000000000 (.int s) && inR 1 200 (.int k))) = true
    rw [inR_int b1 b2, inR_int s1 s2, inR_int k1 k2]; rfl
  | woven b s rs =>
    obtain ⟨⟨⟨b1, b2⟩, ⟨s1, s2⟩⟩, ⟨l1, l2⟩, hv⟩ := h
    show (inR 0 1000000000 (.int b) && (inR 1 1000000000 (.int s) && isRow isRu (.tup (rs.map Ru.told)))) = true
    rw [inR_int b1 b2, inR_int s1 s2, row (by rw [List.length_map]; exact l1) (by rw [List.length_map]; exact l2) fun d m => by obtain ⟨v, mv, rfl⟩ := List.mem_map.mp m; exact isRu_told (hv v mv)]; rfl
theorem pls_ints (vs : List Int) : pls (vs.map .int) = true := by induction vs with | nil => rfl | cons v vs ih => exact ih
theorem pls_rus (rs : List Ru) : pls (rs.map Ru.told) = true := by
  induction rs with
  | nil => rfl
  | cons r rs ih => show (pl r.told && pls (rs.map Ru.told)) = true; rw [r.pl_told, ih]; rfl
theorem hards_ints (vs : List Int) : hards (vs.map .int) = true := by induction vs with | nil => rfl | cons v vs ih => exact ih
theorem hards_rus (rs : List Ru) : hards (rs.map Ru.told) = true := by
  induction rs with
  | nil => rfl
  | cons r rs ih => show (hard r.told && hards (rs.map Ru.told)) = true; rw [r.hard_told, ih]; rfl
theorem Lf.pl_told (l : Lf) : pl l.told = true := by
  cases l with
  | full b s vs => show (true && (true && (true && (pls (vs.map .int) && true)))) = true; rw [pls_ints]; rfl
  | still b s k => rfl
  | woven b s rs => show (true && (true && (true && (pls (rs.map Ru.told) && true)))) = true; rw [pls_rus]; rfl
theorem Lf.hard_told (l : Lf) : hard l.told = true := by
  cases l with
  | full b s vs => show (true && (true && (true && (hards (vs.map .int) && true)))) = true; rw [hards_ints]; rfl
  | still b s k => rfl
  | woven b s rs => show (true && (true && (true && (hards (rs.map Ru.told) && true)))) = true; rw [hards_rus]; rfl
/-- the rule of a cell, None where it is no cell -/
def Lf.rule : Lf → D → Option Ru
  | .full _ _ vs, d => if inR 0 ((vs.length : Int) - 1) d = true then (match d with | .int i => (vs[i.toNat]?).map .plain | _ => none) else none
  | .still _ _ k, d => if inR 0 15 d = true then (match d with | .int i => some (.moved k i 0) | _ => none) else none
  | .woven _ _ rs, d => if inR 0 ((rs.length : Int) - 1) d = true then (match d with | .int i => rs[i.toNat]? | _ => none) else none
def Lf.isF : Lf → Bool | .full _ _ _ => true | _ => false
def Lf.isS : Lf → Bool | .still _ _ _ => true | _ => false
def Lf.isWo : Lf → Bool | .woven _ _ _ => true | _ => false
/-! ### leaves as things -/
def wInitP (C : Addr) (m : Nat) (ns : List Str) (p : List D → List D → Prop) : PW0 := fun xs cs post _ => ∃ ds es : List D, xs = .cel 0 :: ds.map .dat ∧ cs = [.ins C [] []] ∧ ds.length = m ∧ es.length = ns.length ∧ p ds es ∧ post (.dat .non) [.ins C ns es]
theorem initP_self {C : Addr} {m : Nat} {ns : List Str} {p : List D → List D → Prop} : ∀ xs cs post exc, wInitP C m ns p xs cs post exc → ∃ ds, xs = .cel 0 :: ds ∧ cs = [.ins C [] []] := fun _ _ _ _ ⟨ds, _, h1, h2, _⟩ => ⟨_, h1, h2⟩
theorem wsp_initP {F : Fx} {ρ2 : En} {k : AV → En → Prop} {C : Addr} {m : Nat} {ns : List Str} {p : List D → List D → Prop} {ds es : List D} {E : L2.St → XK} (hl : ds.length = m) (hl2 : es.length = ns.length) (hp : p ds es) (hk : k (.dat (.obj C ns es)) (ρ2.mkO C ns es)) : WpSp K F (spG K (wInitP C m ns p)) E (.cel ρ2.ce.length :: ds.map .dat) (ρ2.addO C) fun r ρ3 => r = .dat .non ∧ frzO k (.cel ρ2.ce.length) ρ3 := by
  have hj : (ρ2.addO C).ce[ρ2.ce.length]? = some (.ins C [] []) := by show (ρ2.ce ++ [_])[_]? = _; rw [List.getElem?_append_right (Nat.le_refl _), Nat.sub_self]; rfl
  have lend0 : (ds.map AV.dat).map lend = ds.map AV.dat := by rw [List.map_map]; rfl
  have onl : onlyC ρ2.ce.length (.cel ρ2.ce.length :: ds.map AV.dat) = true := by
    show (decide (ρ2.ce.length = ρ2.ce.length) && onlyC _ (ds.map AV.dat)) = true
    rw [decide_eq_true rfl]
    clear hk hl hj lend0 hp
    induction ds with
    | nil => rfl
    | cons d ds ih => exact ih
  refine wsp1 hj rfl onl ⟨ds, es, by rw [List.map_cons, lend0]; rfl, rfl, hl, hl2, hp, .ins C ns es, rfl, rfl, rfl, ρ2.ce.length, .ins C ns es, .obj C ns es, rfl, ?_, rfl, ?_⟩
  · show ((ρ2.ce ++ [Cell.ins C [] []]).set ρ2.ce.length _)[ρ2.ce.length]? = _
    rw [List.set_append_right _ _ (Nat.le_refl _), Nat.sub_self, List.getElem?_append_right (Nat.le_refl _), Nat.sub_self]; rfl
  · have e1 : ((ρ2.addO C).cell ρ2.ce.length (.ins C ns es)).frzD ρ2.ce.length (.obj C ns es) = ρ2.mkO C ns es := by
      show En.mk _ (((ρ2.ce ++ [Cell.ins C [] []]).set ρ2.ce.length _).set ρ2.ce.length _) = _
      rw [List.set_append_right _ _ (Nat.le_refl _), Nat.sub_self, List.set_append_right _ _ (Nat.le_refl _), Nat.sub_self]
      rfl
    rw [e1]
    exact hk
theorem we_mkP {F : Fx} {ρ : En} {k : AV → En → Prop} {C : Addr} {m : Nat} {ns : List Str} {p : List D → List D → Prop} {E : XK} {t : TA} (h : WpA K F t ρ fun xs ρ1 => ∃ ds es ρ2, Frz xs ρ1 ds ρ2 ∧ ds.length = m ∧ es.length = ns.length ∧ p ds es ∧ k (.dat (.obj C ns es)) (ρ2.mkO C ns es)) : WpE K F (tMake C (spG K (wInitP C m ns p)) [] E t) ρ k := by
  refine we_frzO (we_make ?_)
  intro as σ H G e Q q
  exact h as σ H G e Q fun avs ρ1 vs as1 H1 G1 ⟨ds, es, ρ2, fz, hl, hl2, hp, hk⟩ e1 g1 r1 => q avs ρ1 vs as1 H1 G1 ⟨ds, ρ2, fz, wsp_initP hl hl2 hp hk⟩ e1 g1 r1
theorem we_mkKP {F : Fx} {ρ : En} {k : AV → En → Prop} {C : Addr} {mm : Nat} {ns : List Str} {p : List D → List D → Prop} {n m : Nat} {gV : List V → List V → List V} {E : XK} {t tk : TA} (h : WpA K F t ρ fun xs ρ1 => WpA K F tk ρ1 fun ys ρ2 => ∃ ds es fs gs : List D, xs = ds.map .dat ∧ ys = es.map .dat ∧ ds.length = n ∧ es.length = m ∧ (∀ G as x vs ws, RepAs K G as xs vs → RepAs K G as ys ws → RepAs K G as (fs.map .dat) (gV (x :: vs) ws).tail ∧ (gV (x :: vs) ws).head? = some x) ∧ fs.length = mm ∧ gs.length = ns.length ∧ p fs gs ∧ k (.dat (.obj C ns gs)) (ρ2.mkO C ns gs)) : WpE K F (tMakeK C n m (spG K (wInitP C mm ns p)) gV E t tk) ρ k := by
  refine we_frzO (we_makeK ?_)
  intro as σ H G e Q q
  refine h as σ H G e Q fun avs ρ1 vs as1 H1 G1 h1 e1 g1 r1 => q avs ρ1 vs as1 H1 G1 ?_ e1 g1 r1
  intro as2 σ2 H2 G2 e2 Q2 q2
  exact h1 as2 σ2 H2 G2 e2 Q2 fun ys ρ2 ws as3 H3 G3 ⟨ds, es, fs, gs, a1, a2, a3, a4, a5, a6, a7, a8, a9⟩ e3 g3 r3 => q2 ys ρ2 ws as3 H3 G3 ⟨ds, es, fs, a1, a2, a3, a4, a5, wsp_initP a6 a7 a8 a9⟩ e3 g3 r3
def wLeafInit (C : Addr) : PW0 := fun xs cs post _ => ∃ b s : D, xs = [.cel 0, .dat b, .dat s] ∧ cs = [.ins C [] []] ∧ post (.dat .non) [.ins C ["begin", "span"] [b, s]]
theorem ok_Leaf_init (T : TxtP P K mg) (C : Addr) (cl : Cls K C) (n1 : NoAttr K C "begin") (n2 : NoAttr K C "span") : FnOk P w K mg base CX0 1 T.a_Leaf_init T.d_Leaf_init ["self", "begin", "span"] (spG K (wLeafInit C)) := by
  refine T.F_Leaf_init.ok sc_Leaf_init (fun vs H Q E h => spG_len h fun xs cs post exc ⟨b, s, e, _⟩ => by rw [e]; rfl) (fun cdv A outer s H vs Q E hr h => ⟨_, (pss_cons (ps_fld (pv 0) (pv 1) rfl)
      (pss_one (ps_fld (pv 0) (pv 2) rfl))), enter h fun F xs cs post hE hw => ?_⟩)
  obtain ⟨b, s, rfl, rfl, q⟩ := hw
  walk_at "D"
  refine ws_fset ?_
  walk_at "D"
  refine ⟨0, _, [], [], _, _, rfl, by walk_at "fz", rfl, cl, n1, rfl, ?_⟩
  walk_at "D"
  refine ws_fset ?_
  walk_at "D"
  refine ⟨0, _, _, _, _, _, rfl, by walk_at "fz", rfl, cl, n2, rfl, ?_⟩
  exact ⟨rfl, q⟩
theorem wc_tupT {F : Fx} {ρ : En} {k : AV → En → Prop} {ds : List D} (hk : k (.dat (.tup ds)) ρ) : WpC K F (fun xs H Q => ∃ p ys, xs = [V.ref p] ∧ ((SqL K H p ys ∧ ∀ l, H l = none → Q (V.ref l) (upd H l (.tup ys))) ∨ (SqT K H p ys ∧ Q (V.ref p) H))) [.dat (.tup ds)] ρ k := fun as σ H G vs e r Q q => by
  cases r with
  | cons r1 r2 =>
    cases r2
    obtain ⟨a, ws, rfl, hs, hr⟩ := Rep.tupE r1
    exact ⟨a, ws, rfl, .inr ⟨Same.seqT e.gh hs, q _ ρ _ as H G hk e .refl r1⟩⟩
theorem Ru.told_inj {r s : Ru} (h : r.told = s.told) : r = s := by
  cases r <;> cases s <;> first
    | (simp only [Ru.told, D.tup.injEq, List.cons.injEq, D.int.injEq, and_true, true_and] at h; simp_all; done)
    | (exfalso; simp [Ru.told] at h)
theorem wsp_ruleof {F : Fx} {ρ : En} {k : AV → En → Prop} {C CP CM CX : Addr} {E : L2.St → XK} {r : Ru} (ok : r.ok) (hk : k (.dat (r.ob CP CM CX)) ρ) : WpSp K F (spG K (wRuleOf C CP CM CX)) E [.dat r.told] ρ k :=
  wspE (.dat .nil) ⟨_, rfl, rfl, r.pl_told, (fun z => by rw [isRu_told ok] at z; cases z), fun r' _ e => by rw [← Ru.told_inj e]; exact aft_hard (Ru.hard_ob r) hk⟩
theorem ok_Full_init (T : TxtP P K mg) : FnOk P w K mg base CX0 2 T.a_Full_init T.d_Full_init ["self", "begin", "span", "values"] (spG K (wInitP T.c_Full 3 ["begin", "span", "worths"] fun ds es => ∃ b s vs, ds = [b, s, .tup vs] ∧ es = ds)) := by
  refine fn_super T.S_Full_init sc_Full_init rfl (fun vs H Q E h => spG_len h fun xs cs post exc ⟨ds, es, e, _, hl, _⟩ => by rw [e, List.length_cons, List.length_map, hl]; rfl) ((ok_Leaf_init T T.c_Full T.cl_Full T.na_Full_begin T.na_Full_span).mono (by decide)) T.b_Leaf_init (fun _ => rfl) (fun _ => rfl) (fun _ => rfl) (fun _ => rfl) (fun A outer s H vs Q E hr h => ?_)
  obtain ⟨o, d, hv, ho⟩ := self_of h initP_self
  refine ⟨o, d, [], _, _, hv, by rw [T.eD_Full_init]; exact ho, (pa_cons (pv 1) (pa_cons (pv 2) pa_nil)), (pss_one (ps_fld (pv 0) (pe_callTy call_tuple_of (by rfl) T.m_tuple (by decide +kernel) (pa_cons (pv 3) pa_nil)) rfl)), enterS h initP_self hv fun F xs cs post hE hao hw => ?_⟩
  obtain ⟨ds, es, rfl, rfl, hl, hl2, ⟨b, s, vs, rfl, rfl⟩, q⟩ := hw
  refine ws_sup hao ?_
  walk_at "D"
  refine wsp1 (j := 0) rfl rfl rfl ?_
  refine ⟨b, s, rfl, rfl, .ins T.c_Full ["begin", "span"] [b, s], rfl, rfl, ?_⟩
  walk_at "D"
  refine ws_fset ?_
  walk_at "D"
  refine wc_tupT ?_
  walk_at "D"
  refine ⟨0, _, _, _, _, _, rfl, by walk_at "fz", rfl, T.cl_Full, T.na_Full_worths, rfl, ?_⟩
  exact ⟨rfl, q⟩
theorem ok_Still_init (T : TxtP P K mg) : FnOk P w K mg base CX0 2 T.a_Still_init T.d_Still_init ["self", "begin", "span", "back"] (spG K (wInitP T.c_Still 3 ["begin", "span", "back"] fun ds es => es = ds)) := by
  refine fn_super T.S_Still_init sc_Still_init rfl (fun vs H Q E h => spG_len h fun xs cs post exc ⟨ds, es, e, _, hl, _⟩ => by rw [e, List.length_cons, List.length_map, hl]; rfl) ((ok_Leaf_init T T.c_Still T.cl_Still T.na_Still_begin T.na_Still_span).mono (by decide)) T.b_Leaf_init (fun _ => rfl) (fun _ => rfl) (fun _ => rfl) (fun _ => rfl) (fun A outer s H vs Q E hr h => ?_)
  obtain ⟨o, d, hv, ho⟩ := self_of h initP_self
  refine ⟨o, d, [], _, _, hv, by rw [T.eD_Still_init]; exact ho, (pa_cons (pv 1) (pa_cons (pv 2) pa_nil)), (pss_one (ps_fld (pv 0) (pv 3) rfl)), enterS h initP_self hv fun F xs cs post hE hao hw => ?_⟩
  obtain ⟨ds, es, rfl, rfl, hl, hl2, rfl, q⟩ := hw
  match es, hl, q with
  | [b, s, k], _, q =>
    refine ws_sup hao ?_
    walk_at "D"
    refine wsp1 (j := 0) rfl rfl rfl ?_
    refine ⟨b, s, rfl, rfl, .ins T.c_Still ["begin", "span"] [b, s], rfl, rfl, ?_⟩
    walk_at "D"
    refine ws_fset ?_
    walk_at "D"
    refine ⟨0, _, _, _, _, _, rfl, by walk_at "fz", rfl, T.cl_Still, T.na_Still_back, rfl, ?_⟩
    exact ⟨rfl, q⟩
theorem ok_Woven_init (T : TxtP P K mg) : FnOk P w K mg base CX0 6 T.a_Woven_init T.d_Woven_init ["self", "begin", "span", "rules"] (spG K (wInitP T.c_Woven 3 ["begin", "span", "rules"] fun ds es => ∃ b s, ∃ rs : List Ru, (∀ r ∈ rs, r.ok) ∧ rs.length ≤ 16 ∧ ds = [b, s, .tup (rs.map Ru.told)] ∧ es = [b, s, .lst (rs.map fun r => r.ob T.c_Plain T.c_Moved T.c_Mixed)])) := by
  refine fn_super T.S_Woven_init sc_Woven_init rfl (fun vs H Q E h => spG_len h fun xs cs post exc ⟨ds, es, e, _, hl, _⟩ => by rw [e, List.length_cons, List.length_map, hl]; rfl) ((ok_Leaf_init T T.c_Woven T.cl_Woven T.na_Woven_begin T.na_Woven_span).mono (by decide)) T.b_Leaf_init (fun _ => rfl) (fun _ => rfl) (fun _ => rfl) (fun _ => rfl) (fun A outer s H vs Q E hr h => ?_)
  obtain ⟨o, d, hv, ho⟩ := self_of h initP_self
  refine ⟨o, d, [], _, _, hv, by rw [T.eD_Woven_init]; exact ho, (pa_cons (pv 1) (pa_cons (pv 2) pa_nil)), (pss_one (ps_fld (pv 0) (pe_lc (own := [("told", 4)]) (g := gName 4) (tt := tYes) (by rfl) sc_Woven_init.nd (pi_tup (pv 3)) (blkOk_by (own := [("told", 4)]) (N := N_Woven_init) (sc := defScope s_Woven_init) (by decide +kernel)) (fun _ _ _ _ _ => (pg_name (i := 4) sc_Woven_init.nd rfl (Or.inl rfl))) (fun _ _ _ _ _ => pts_nil) (fun _ _ _ _ _ => (pe_call (ok_rule_of T) (hr.mono (by decide)) (by rfl) T.g_rule_of T.F_rule_of.kp T.b_rule_of .nil passL (pa_cons (pv 4) pa_nil)))) rfl)), enterS h initP_self hv fun F xs cs post hE hao hw => ?_⟩
  obtain ⟨ds, es, rfl, rfl, hl, hl2, ⟨b, s, rs, ok, hrl, rfl, rfl⟩, q⟩ := hw
  refine ws_sup hao ?_
  walk_at "D"
  refine wsp1 (j := 0) rfl rfl rfl ?_
  refine ⟨b, s, rfl, rfl, .ins T.c_Woven ["begin", "span"] [b, s], rfl, rfl, ?_⟩
  walk_at "D"
  refine ws_fset ?_
  walk_at "D"
  refine loopC_by (fun dd ρ => ∃ done todo : List Ru, dd = todo.map Ru.told ∧ rs = done ++ todo ∧ ρ = ⟨[some (.cel 0), some (.dat b), some (.dat s), some (.dat (.tup (rs.map Ru.told))), none], [.ins T.c_Woven ["begin", "span"] [b, s], .lst (done.map fun r => r.ob T.c_Plain T.c_Moved T.c_Mixed)]⟩) ⟨[], rs, rfl, rfl, rfl⟩ ?_ ?_
  · rintro ρ ⟨done, todo, e1, e2, rfl⟩
    have : todo = [] := List.map_eq_nil_iff.mp e1.symm
    subst this
    rw [List.append_nil] at e2
    subst e2
    refine ⟨trivial, ?_⟩
    walk_at "D"
    refine ⟨0, _, _, _, _, _, rfl, by walk_at "fz", rfl, T.cl_Woven, T.na_Woven_rules, rfl, ?_⟩
    exact ⟨rfl, q⟩
  · rintro d dd ρ ⟨done, todo, e1, e2, rfl⟩
    cases todo with
    | nil => cases e1
    | cons r todo =>
      cases e1
      refine ⟨trivial, ?_⟩
      walk_at "D"
      refine wsp_ruleof (ok r (by rw [e2]; exact List.mem_append_right _ List.mem_cons_self)) ?_
      walk_at "D"
      · rw [List.length_map]
        have : rs.length = done.length + (todo.length + 1) := by rw [e2, List.length_append, List.length_cons]
        omega
      exact now ⟨done ++ [r], todo, rfl, by rw [e2, List.append_assoc]; rfl, by rw [List.map_append]; rfl⟩
end

section
variable {P : Program} {w : World} {K : PySem.W.Frag} {mg : Str → Option Value} {base : Heap}
/-! ### what leaves tell -/
theorem fin_cel {n : Nat} {post : RV → List Cell → Prop} {ρ : En} {j : Nat} {ds : List D} (hj : n ≤ j) (hc : ρ.ce[j]? = some (.lst ds)) (ng : noGone (ρ.ce.take n) = true) (q : post (.new ds) (ρ.ce.take n)) : (KS.fin n post).rt (.cel j) ρ := ⟨_, .cel hj hc, ng, q⟩
def cs0 (CP CM CX CF CS CW : Addr) : Cs := ⟨CP, CM, CX, CF, CS, CW⟩
def wLfTold (c : Cs) (f : Lf → Bool) : PW0 := fun xs cs post _ => ∃ l : Lf, f l = true ∧ l.ok ∧ xs = [.dat (l.ob c)] ∧ cs = [] ∧ post (.dat l.told) []
theorem ok_Full_told (T : TxtP P K mg) : FnOk P w K mg base CX0 1 T.a_Full_told T.d_Full_told ["self"] (spG K (wLfTold ⟨T.c_Plain, T.c_Moved, T.c_Mixed, T.c_Full, T.c_Still, T.c_Woven⟩ Lf.isF)) := by
  refine T.F_Full_told.ok sc_Full_told (fun vs H Q E h => spG_len h fun xs cs post exc ⟨r, _, _, e, _⟩ => by rw [e]; rfl) (fun cdv A outer s H vs Q E hr h => ⟨_, (pss_one (ps_ret (pe_tup (pa_cons pe_str (pa_cons (pe_fld (pv 0) rfl) (pa_cons (pe_fld (pv 0) rfl) (pa_cons (pe_fld (pv 0) rfl) pa_nil))))))), enter h fun F xs cs post hE hw => ?_⟩)
  obtain ⟨l, hf, ok, rfl, rfl, q⟩ := hw
  cases l with
  | full b s vs =>
    walk_at "D"
    refine we_fld ?_
    walk_at "D"
    refine ⟨_, _, _, _, .dat, T.cl_Full, T.na_Full_begin, rfl, ?_⟩
    walk_at "D"
    refine we_fld ?_
    walk_at "D"
    refine ⟨_, _, _, _, .dat, T.cl_Full, T.na_Full_span, rfl, ?_⟩
    walk_at "D"
    refine we_fld ?_
    walk_at "D"
    refine ⟨_, _, _, _, .dat, T.cl_Full, T.na_Full_worths, rfl, ?_⟩
    walk_at "D"
    exact fin_dat rfl q
  | _ => cases hf
theorem ok_Still_told (T : TxtP P K mg) : FnOk P w K mg base CX0 1 T.a_Still_told T.d_Still_told ["self"] (spG K (wLfTold ⟨T.c_Plain, T.c_Moved, T.c_Mixed, T.c_Full, T.c_Still, T.c_Woven⟩ Lf.isS)) := by
  refine T.F_Still_told.ok sc_Still_told (fun vs H Q E h => spG_len h fun xs cs post exc ⟨r, _, _, e, _⟩ => by rw [e]; rfl) (fun cdv A outer s H vs Q E hr h => ⟨_, (pss_one (ps_ret (pe_tup (pa_cons pe_str (pa_cons (pe_fld (pv 0) rfl) (pa_cons (pe_fld (pv 0) rfl) (pa_cons (pe_fld (pv 0) rfl) pa_nil))))))), enter h fun F xs cs post hE hw => ?_⟩)
  obtain ⟨l, hf, ok, rfl, rfl, q⟩ := hw
  cases l with
  | still b s k =>
    walk_at "D"
    refine we_fld ?_
    walk_at "D"
    refine ⟨_, _, _, _, .dat, T.cl_Still, T.na_Still_begin, rfl, ?_⟩
    walk_at "D"
    refine we_fld ?_
    walk_at "D"
    refine ⟨_, _, _, _, .dat, T.cl_Still, T.na_Still_span, rfl, ?_⟩
    walk_at "D"
    refine we_fld ?_
    walk_at "D"
    refine ⟨_, _, _, _, .dat, T.cl_Still, T.na_Still_back, rfl, ?_⟩
    walk_at "D"
    exact fin_dat rfl q
  | _ => cases hf
/-- r.told() of any rule -/
theorem we_rtold {F : Fx} {ρ : En} {k : AV → En → Prop} {CP CM CX : Addr} {E1 E2 E3 : XK} {i : Nat} {r : Ru} (hx : ρ.sl[i]? = some (some (.dat (r.ob CP CM CX)))) (hk : k (.dat r.told) ρ) :
    WpE K F (fun σ H Q => tMeth CP "told" (spG K (wTold CP CM CX Ru.isP)) [] E1 (tVar i) tNil σ H Q ∨ (tMeth CM "told" (spG K (wTold CP CM CX Ru.isM)) [] E2 (tVar i) tNil σ H Q ∨ tMeth CX "told" (spG K (wTold CP CM CX Ru.isX)) [] E3 (tVar i) tNil σ H Q)) ρ k := by
  cases r with
  | plain v => exact we_or1 (we_meth (we_var hx ⟨_, _, .dat, rfl, wa_nil (wspE (.dat .nil) ⟨.plain v, rfl, rfl, rfl, aft_hard (Ru.hard_told _) hk⟩)⟩))
  | moved b c a => exact we_or2 (we_or1 (we_meth (we_var hx ⟨_, _, .dat, rfl, wa_nil (wspE (.dat .nil) ⟨.moved b c a, rfl, rfl, rfl, aft_hard (Ru.hard_told _) hk⟩)⟩)))
  | mixed b c b2 c2 => exact we_or2 (we_or2 (we_meth (we_var hx ⟨_, _, .dat, rfl, wa_nil (wspE (.dat .nil) ⟨.mixed b c b2 c2, rfl, rfl, rfl, aft_hard (Ru.hard_told _) hk⟩)⟩)))
theorem ok_Woven_told (T : TxtP P K mg) : FnOk P w K mg base CX0 2 T.a_Woven_told T.d_Woven_told ["self"] (spG K (wLfTold ⟨T.c_Plain, T.c_Moved, T.c_Mixed, T.c_Full, T.c_Still, T.c_Woven⟩ Lf.isWo)) := by
  refine T.F_Woven_told.ok sc_Woven_told (fun vs H Q E h => spG_len h fun xs cs post exc ⟨r, _, _, e, _⟩ => by rw [e]; rfl) (fun cdv A outer s H vs Q E hr h => ⟨_, (pss_one (ps_ret (pe_tup (pa_cons pe_str (pa_cons (pe_fld (pv 0) rfl) (pa_cons (pe_fld (pv 0) rfl) (pa_cons (pe_callTy call_tuple_of (by rfl) T.m_tuple (by decide +kernel) (pa_cons (pe_lc (own := [("rule", 1)]) (g := gName 1) (tt := tYes) (by rfl) sc_Woven_told.nd (pi_list (pe_fld (pv 0) rfl)) (blkOk_by (own := [("rule", 1)]) (N := N_Woven_told) (sc := defScope s_Woven_told) (by decide +kernel)) (fun _ _ _ _ _ => (pg_name (i := 1) sc_Woven_told.nd rfl (Or.inl rfl))) (fun _ _ _ _ _ => pts_nil) (fun _ _ _ _ _ => (pe_either (pe_meth0 (pv 1) T.cl_Plain T.mt_Plain_told (ok_Plain_told T) (hr.mono (by decide)) T.b_Plain_told .nil pass0) (pe_either (pe_meth0 (pv 1) T.cl_Moved T.mt_Moved_told (ok_Moved_told T) (hr.mono (by decide)) T.b_Moved_told .nil pass0) (pe_meth0 (pv 1) T.cl_Mixed T.mt_Mixed_told (ok_Mixed_told T) (hr.mono (by decide)) T.b_Mixed_told .nil pass0))))) pa_nil)) pa_nil))))))), enter h fun F xs cs post hE hw => ?_⟩)
  obtain ⟨l, hf, ok, rfl, rfl, q⟩ := hw
  cases l with
  | woven b s rs =>
    walk_at "D"
    refine we_fld ?_
    walk_at "D"
    refine ⟨_, _, _, _, .dat, T.cl_Woven, T.na_Woven_begin, rfl, ?_⟩
    walk_at "D"
    refine we_fld ?_
    walk_at "D"
    refine ⟨_, _, _, _, .dat, T.cl_Woven, T.na_Woven_span, rfl, ?_⟩
    walk_at "D"
    refine we_fld ?_
    walk_at "D"
    refine ⟨_, _, _, _, .dat, T.cl_Woven, T.na_Woven_rules, rfl, ?_⟩
    walk_at "D"
    have hrl : rs.length ≤ 16 := ok.2.1.2
    refine loopC_by (fun dd ρ => ∃ done todo : List Ru, dd = todo.map (fun r => r.ob T.c_Plain T.c_Moved T.c_Mixed) ∧ rs = done ++ todo ∧ ρ = ⟨[some (.dat (.obj T.c_Woven ["begin", "span", "rules"] [.int b, .int s, .lst (rs.map fun r => r.ob T.c_Plain T.c_Moved T.c_Mixed)])), none], [.lst (done.map Ru.told)]⟩) ⟨[], rs, rfl, rfl, rfl⟩ ?_ ?_
    · rintro ρ ⟨done, todo, e1, e2, rfl⟩
      have : todo = [] := List.map_eq_nil_iff.mp e1.symm
      subst this
      rw [List.append_nil] at e2
      subst e2
      refine ⟨.dat _, ?_⟩
      walk_at "D"
      exact fin_dat rfl q
    · rintro d dd ρ ⟨done, todo, e1, e2, rfl⟩
      cases todo with
      | nil => cases e1
      | cons r todo =>
        cases e1
        refine ⟨.dat _, ?_⟩
        walk_at "D"
        refine we_rtold (r := r) rfl ?_
        walk_at "D"
        · rw [List.length_map]
          have : rs.length = done.length + (todo.length + 1) := by rw [e2, List.length_append, List.length_cons]
          omega
        exact now ⟨done ++ [r], todo, rfl, by rw [e2, List.append_assoc]; rfl, by rw [List.map_append]; rfl⟩
  | _ => cases hf
def wCells (c : Cs) (f : Lf → Bool) : PW0 := fun xs cs post _ => ∃ l : Lf, f l = true ∧ xs = [.dat (l.ob c)] ∧ cs = [] ∧ post (.dat (match l with | .full _ _ vs => .int vs.length | .still _ _ _ => .non | .woven _ _ rs => .int rs.length)) []
theorem ok_Full_cells (T : TxtP P K mg) : FnOk P w K mg base CX0 1 T.a_Full_cells T.d_Full_cells ["self"] (spG K (wCells ⟨T.c_Plain, T.c_Moved, T.c_Mixed, T.c_Full, T.c_Still, T.c_Woven⟩ Lf.isF)) := by
  refine T.F_Full_cells.ok sc_Full_cells (fun vs H Q E h => spG_len h fun xs cs post exc ⟨r, _, e, _⟩ => by rw [e]; rfl) (fun cdv A outer s H vs Q E hr h => ⟨_, (pss_one (ps_ret (pe_callB call_len_seq (by rfl) T.m_len (by decide +kernel) (pa_cons (pe_fld (pv 0) rfl) pa_nil)))), enter h fun F xs cs post hE hw => ?_⟩)
  obtain ⟨l, hf, rfl, rfl, q⟩ := hw
  cases l with
  | full b s vs =>
    walk_at "D"
    refine we_fld ?_
    walk_at "D"
    refine ⟨_, _, _, _, .dat, T.cl_Full, T.na_Full_worths, rfl, ?_⟩
    walk_at "D"
    rw [List.length_map]
    exact fin_dat rfl q
  | _ => cases hf
theorem ok_Still_cells (T : TxtP P K mg) : FnOk P w K mg base CX0 1 T.a_Still_cells T.d_Still_cells ["self"] (spG K (wCells ⟨T.c_Plain, T.c_Moved, T.c_Mixed, T.c_Full, T.c_Still, T.c_Woven⟩ Lf.isS)) := by
  refine T.F_Still_cells.ok sc_Still_cells (fun vs H Q E h => spG_len h fun xs cs post exc ⟨r, _, e, _⟩ => by rw [e]; rfl) (fun cdv A outer s H vs Q E hr h => ⟨_, (pss_one (ps_ret pe_non)), enter h fun F xs cs post hE hw => ?_⟩)
  obtain ⟨l, hf, rfl, rfl, q⟩ := hw
  cases l with
  | still b s k =>
    walk_at "D"
    exact fin_dat rfl q
  | _ => cases hf
theorem ok_Woven_cells (T : TxtP P K mg) : FnOk P w K mg base CX0 1 T.a_Woven_cells T.d_Woven_cells ["self"] (spG K (wCells ⟨T.c_Plain, T.c_Moved, T.c_Mixed, T.c_Full, T.c_Still, T.c_Woven⟩ Lf.isWo)) := by
  refine T.F_Woven_cells.ok sc_Woven_cells (fun vs H Q E h => spG_len h fun xs cs post exc ⟨r, _, e, _⟩ => by rw [e]; rfl) (fun cdv A outer s H vs Q E hr h => ⟨_, (pss_one (ps_ret (pe_callB call_len_seq (by rfl) T.m_len (by decide +kernel) (pa_cons (pe_fld (pv 0) rfl) pa_nil)))), enter h fun F xs cs post hE hw => ?_⟩)
  obtain ⟨l, hf, rfl, rfl, q⟩ := hw
  cases l with
  | woven b s rs =>
    walk_at "D"
    refine we_fld ?_
    walk_at "D"
    refine ⟨_, _, _, _, .dat, T.cl_Woven, T.na_Woven_rules, rfl, ?_⟩
    walk_at "D"
    rw [List.length_map]
    exact fin_dat rfl q
  | _ => cases hf
def wNoCell (C : Addr) : PW0 := fun xs cs post exc => ∃ (d : D) (n : Int), xs = [.dat d, .dat (.int n)] ∧ cs = [] ∧ pl d = true ∧ (inR 0 (n - 1) d = true → post (.dat .non) []) ∧ (inR 0 (n - 1) d = false → exc C)
theorem ok_refuse_no_cell (T : TxtP P K mg) : FnOk P w K mg base (L2.CX P w) 3 T.a_refuse_no_cell T.d_refuse_no_cell ["cell", "many"] (spG K (wNoCell T.c_NoCell)) := by
  refine T.F_refuse_no_cell.okX sc_refuse_no_cell (fun vs H Q E h => spG_len h fun xs cs post exc ⟨a, b, e, _⟩ => by rw [e]; rfl) (fun cdv A outer s H vs Q E hr h => ⟨_, (pss_one (ps_if (pt_not (pt_val (pe_call (ok_is_whole T) (hr.mono (by decide)) (by rfl) T.g_is_whole T.F_is_whole.kp T.b_is_whole .nil pass0 (pa_cons (pv 0) (pa_cons pe_int (pa_cons (pe_op op_sub (pv 1) pe_int) pa_nil)))))) (pss_one (ps_raise rfl (takes_of rfl rfl rfl rfl) (pmk_own PySem.F.excBase_ValueError T.x_NoCell T.g_NoCell T.k_NoCell (raises_own T.bb_NoCell T.t_NoCell) rfl))) pss_nil)), enter h fun F xs cs post hE hw => ?_⟩)
  obtain ⟨d, n, rfl, rfl, hp, q1, q2⟩ := hw
  subst hE
  walk_at "D"
  walk_at "c"
  refine ⟨d, 0, n - 1, rfl, rfl, hp, rfl, ?_⟩
  cases hd : inR 0 (n - 1) d with
  | false =>
    walk_at "D"
    exact ws_exc fun as σ H G D en => F.hE _ H (q2 hd) en.fh
  | true =>
    walk_at "D"
    exact ⟨rfl, q1 hd⟩
def wLfRule (C : Addr) (c : Cs) (f : Lf → Bool) : PW0 := fun xs cs post exc => ∃ (l : Lf) (d : D), f l = true ∧ xs = [.dat (l.ob c), .dat d] ∧ cs = [] ∧ pl d = true ∧ (∀ r, l.rule d = some r → post (.dat (c.ru r)) []) ∧ (l.rule d = none → exc C)
theorem ok_Full_rule (T : TxtP P K mg) : FnOk P w K mg base (L2.CX P w) 4 T.a_Full_rule T.d_Full_rule ["self", "cell"] (spG K (wLfRule T.c_NoCell ⟨T.c_Plain, T.c_Moved, T.c_Mixed, T.c_Full, T.c_Still, T.c_Woven⟩ Lf.isF)) := by
  refine T.F_Full_rule.okX sc_Full_rule (fun vs H Q E h => spG_len h fun xs cs post exc ⟨l, d, _, e, _⟩ => by rw [e]; rfl) (fun cdv A outer s H vs Q E hr h => ⟨_, (pss_cons (ps_expr (pe_call (ok_refuse_no_cell T) (hr.mono (by decide)) (by rfl) T.g_refuse_no_cell T.F_refuse_no_cell.kp T.b_refuse_no_cell .nil (passes_call (takes_of rfl rfl rfl rfl) (fun _ _ _ _ h => h)) (pa_cons (pv 1) (pa_cons (pe_callB call_len_seq (by rfl) T.m_len (by decide +kernel) (pa_cons (pe_fld (pv 0) rfl) pa_nil)) pa_nil))))
      (pss_one (ps_ret (pe_make T.mk_Plain (ok_Plain_init T) (hr.mono (by decide)) (by rfl) T.g_Plain T.b_Plain_init .nil pass0 (pa_cons (pe_ix ix_tup (pe_fld (pv 0) rfl) (pv 1) (fun _ _ => rfl)) pa_nil))))), enter h fun F xs cs post hE hw => ?_⟩)
  obtain ⟨l, d, hf, rfl, rfl, hp, q1, q2⟩ := hw
  subst hE
  cases l with
  | full b s vs =>
    walk_at "D"
    refine we_fld ?_
    walk_at "D"
    refine ⟨_, _, _, _, .dat, T.cl_Full, T.na_Full_worths, rfl, ?_⟩
    walk_at "D"
    rw [List.length_map]
    walk_at "cx"
    refine ⟨d, _, rfl, rfl, hp, fun hd => ⟨rfl, ?_⟩, fun hd => q2 (by show (if inR 0 ((vs.length : Int) - 1) d = true then _ else none) = none; rw [hd]; rfl)⟩
    obtain ⟨i, rfl, i0, i1⟩ := inR_of hd
    obtain ⟨n, rfl⟩ := Int.eq_ofNat_of_zero_le i0
    have hn : n < vs.length := by omega
    have q1 := q1 (.plain vs[n]) (by show (if inR 0 ((vs.length : Int) - 1) (.int n) = true then (vs[(n : Int).toNat]?).map Ru.plain else none) = _; rw [if_pos hd, Int.toNat_natCast, List.getElem?_eq_getElem hn]; rfl)
    walk_at "D"
    refine we_mk ?_
    walk_at "D"
    refine we_fld ?_
    walk_at "D"
    refine ⟨_, _, _, _, .dat, T.cl_Full, T.na_Full_worths, rfl, ?_⟩
    walk_at "D"
    refine wr_ixT (atI_nat (j := n) (v := D.int vs[n]) (by rw [List.getElem?_map, List.getElem?_eq_getElem hn]; rfl)) ?_
    walk_at "D"
    exact ⟨_, _, .dat .nil, rfl, fin_dat rfl q1⟩
  | _ => cases hf
theorem ok_Still_rule (T : TxtP P K mg) : FnOk P w K mg base (L2.CX P w) 4 T.a_Still_rule T.d_Still_rule ["self", "cell"] (spG K (wLfRule T.c_NoCell ⟨T.c_Plain, T.c_Moved, T.c_Mixed, T.c_Full, T.c_Still, T.c_Woven⟩ Lf.isS)) := by
  refine T.F_Still_rule.okX sc_Still_rule (fun vs H Q E h => spG_len h fun xs cs post exc ⟨l, d, _, e, _⟩ => by rw [e]; rfl) (fun cdv A outer s H vs Q E hr h => ⟨_, (pss_cons (ps_expr (pe_call (ok_refuse_no_cell T) (hr.mono (by decide)) (by rfl) T.g_refuse_no_cell T.F_refuse_no_cell.kp T.b_refuse_no_cell .nil (passes_call (takes_of rfl rfl rfl rfl) (fun _ _ _ _ h => h)) (pa_cons (pv 1) (pa_cons (pe_glob (v := .int 16) (by rfl) T.g_MOST_CELLS ⟨_, rfl⟩) pa_nil))))
      (pss_one (ps_ret (pe_make T.mk_Moved (ok_Moved_init T) (hr.mono (by decide)) (by rfl) T.g_Moved T.b_Moved_init .nil pass0 (pa_cons (pe_fld (pv 0) rfl) (pa_cons (pv 1) (pa_cons pe_int pa_nil))))))), enter h fun F xs cs post hE hw => ?_⟩)
  obtain ⟨l, d, hf, rfl, rfl, hp, q1, q2⟩ := hw
  subst hE
  cases l with
  | still b s k =>
    walk_at "D"
    walk_at "cx"
    refine ⟨d, 16, rfl, rfl, hp, fun hd => ⟨rfl, ?_⟩, fun hd => q2 (by show (if inR 0 15 d = true then _ else none) = none; rw [show inR 0 15 d = false from hd]; rfl)⟩
    obtain ⟨i, rfl, i0, i1⟩ := inR_of hd
    have q1 := q1 (.moved k i 0) (by show (if inR 0 15 (.int i) = true then some (Ru.moved k i 0) else none) = _; rw [if_pos (show inR 0 15 (D.int i) = true from hd)])
    walk_at "D"
    refine we_mk ?_
    walk_at "D"
    refine we_fld ?_
    walk_at "D"
    refine ⟨_, _, _, _, .dat, T.cl_Still, T.na_Still_back, rfl, ?_⟩
    walk_at "D"
    exact ⟨_, _, .dat (.dat (.dat .nil)), rfl, fin_dat rfl q1⟩
  | _ => cases hf
theorem ok_Woven_rule (T : TxtP P K mg) : FnOk P w K mg base (L2.CX P w) 4 T.a_Woven_rule T.d_Woven_rule ["self", "cell"] (spG K (wLfRule T.c_NoCell ⟨T.c_Plain, T.c_Moved, T.c_Mixed, T.c_Full, T.c_Still, T.c_Woven⟩ Lf.isWo)) := by
  refine T.F_Woven_rule.okX sc_Woven_rule (fun vs H Q E h => spG_len h fun xs cs post exc ⟨l, d, _, e, _⟩ => by rw [e]; rfl) (fun cdv A outer s H vs Q E hr h => ⟨_, (pss_cons (ps_expr (pe_call (ok_refuse_no_cell T) (hr.mono (by decide)) (by rfl) T.g_refuse_no_cell T.F_refuse_no_cell.kp T.b_refuse_no_cell .nil (passes_call (takes_of rfl rfl rfl rfl) (fun _ _ _ _ h => h)) (pa_cons (pv 1) (pa_cons (pe_callB call_len_seq (by rfl) T.m_len (by decide +kernel) (pa_cons (pe_fld (pv 0) rfl) pa_nil)) pa_nil))))
      (pss_one (ps_ret (pe_ix ix_list (pe_fld (pv 0) rfl) (pv 1) (fun _ _ => rfl))))), enter h fun F xs cs post hE hw => ?_⟩)
  obtain ⟨l, d, hf, rfl, rfl, hp, q1, q2⟩ := hw
  subst hE
  cases l with
  | woven b s rs =>
    walk_at "D"
    refine we_fld ?_
    walk_at "D"
    refine ⟨_, _, _, _, .dat, T.cl_Woven, T.na_Woven_rules, rfl, ?_⟩
    walk_at "D"
    rw [List.length_map]
    walk_at "cx"
    refine ⟨d, _, rfl, rfl, hp, fun hd => ⟨rfl, ?_⟩, fun hd => q2 (by show (if inR 0 ((rs.length : Int) - 1) d = true then _ else none) = none; rw [hd]; rfl)⟩
    obtain ⟨i, rfl, i0, i1⟩ := inR_of hd
    obtain ⟨n, rfl⟩ := Int.eq_ofNat_of_zero_le i0
    have hn : n < rs.length := by omega
    have q1 := q1 rs[n] (by show (if inR 0 ((rs.length : Int) - 1) (.int n) = true then rs[(n : Int).toNat]? else none) = _; rw [if_pos hd, Int.toNat_natCast, List.getElem?_eq_getElem hn])
    walk_at "D"
    refine we_fld ?_
    walk_at "D"
    refine ⟨_, _, _, _, .dat, T.cl_Woven, T.na_Woven_rules, rfl, ?_⟩
    walk_at "D"
    refine wr_ixL (.dat _) (atI_nat (j := n) (v := (rs[n]).ob T.c_Plain T.c_Moved T.c_Mixed) (by rw [List.getElem?_map, List.getElem?_eq_getElem hn]; rfl)) ?_
    exact fin_dat rfl q1
  | _ => cases hf
/-- .. of what an expression tells -/
theorem we_rtoldE {F : Fx} {ρ : En} {k : AV → En → Prop} {CP CM CX : Addr} {E1 E2 E3 : XK} {te : TE} {r : Ru} (h : WpE K F te ρ fun x ρ1 => x = .dat (r.ob CP CM CX) ∧ k (.dat r.told) ρ1) :
    WpE K F (fun σ H Q => tMeth CP "told" (spG K (wTold CP CM CX Ru.isP)) [] E1 te tNil σ H Q ∨ (tMeth CM "told" (spG K (wTold CP CM CX Ru.isM)) [] E2 te tNil σ H Q ∨ tMeth CX "told" (spG K (wTold CP CM CX Ru.isX)) [] E3 te tNil σ H Q)) ρ k := by
  cases r with
  | plain v => exact we_or1 (we_meth (WpE.imp h fun x ρ1 ⟨e, hk⟩ => by subst e; exact ⟨_, _, .dat, rfl, wa_nil (wspE (.dat .nil) ⟨.plain v, rfl, rfl, rfl, aft_hard (Ru.hard_told _) hk⟩)⟩))
  | moved b c a => exact we_or2 (we_or1 (we_meth (WpE.imp h fun x ρ1 ⟨e, hk⟩ => by subst e; exact ⟨_, _, .dat, rfl, wa_nil (wspE (.dat .nil) ⟨.moved b c a, rfl, rfl, rfl, aft_hard (Ru.hard_told _) hk⟩)⟩)))
  | mixed b c b2 c2 => exact we_or2 (we_or2 (we_meth (WpE.imp h fun x ρ1 ⟨e, hk⟩ => by subst e; exact ⟨_, _, .dat, rfl, wa_nil (wspE (.dat .nil) ⟨.mixed b c b2 c2, rfl, rfl, rfl, aft_hard (Ru.hard_told _) hk⟩)⟩)))
/-- l.rule(..) of any leaf, where it has one -/
theorem we_lfrule {F : Fx} {ρ : En} {k : AV → En → Prop} {C : Addr} {c : Cs} {E1 E2 E3 : XK} {i : Nat} {t : TA} {l : Lf} (hx : ρ.sl[i]? = some (some (.dat (l.ob c)))) (h : WpA K F t ρ fun xs ρ1 => ∃ d r, xs = [.dat d] ∧ pl d = true ∧ l.rule d = some r ∧ k (.dat (c.ru r)) ρ1) :
    WpE K F (fun σ H Q => tMeth c.f "rule" (spG K (wLfRule C c Lf.isF)) [] E1 (tVar i) t σ H Q ∨ (tMeth c.s "rule" (spG K (wLfRule C c Lf.isS)) [] E2 (tVar i) t σ H Q ∨ tMeth c.w "rule" (spG K (wLfRule C c Lf.isWo)) [] E3 (tVar i) t σ H Q)) ρ k := by
  have go : ∀ {f : Lf → Bool} {E : XK} {ρ1 : En} {d : D} {r : Ru}, f l = true → pl d = true → l.rule d = some r → k (.dat (c.ru r)) ρ1 → WpSp K F (spG K (wLfRule C c f)) (fun _ => E) [.dat (l.ob c), .dat d] ρ1 k := fun {f E ρ1 d r} hf hp hr hk =>
    wspE (.dat (.dat .nil)) ⟨l, d, hf, rfl, rfl, hp, (fun r' z => by rw [hr] at z; cases z; exact aft_hard (Ru.hard_ob r) hk), (fun z => by rw [hr] at z; cases z)⟩
  have fin : ∀ {f : Lf → Bool} {E : XK}, f l = true → WpA K F t ρ fun xs ρ2 => WpSp K F (spG K (wLfRule C c f)) (fun _ => E) (.dat (l.ob c) :: xs) ρ2 k := fun {f E} hf as σ H G e Q q =>
    h as σ H G e Q fun avs ρ1 vs as1 H1 G1 ⟨d, r, ex, hp, hr, hk⟩ e1 g1 r1 => q avs ρ1 vs as1 H1 G1 (by subst ex; exact go hf hp hr hk) e1 g1 r1
  cases l with
  | full b s vs => exact we_or1 (we_meth (we_var hx ⟨_, _, .dat, rfl, fin rfl⟩))
  | still b s n => exact we_or2 (we_or1 (we_meth (we_var hx ⟨_, _, .dat, rfl, fin rfl⟩)))
  | woven b s rs => exact we_or2 (we_or2 (we_meth (we_var hx ⟨_, _, .dat, rfl, fin rfl⟩)))
/-- .. by the argument's name -/
theorem we_lfruleK {F : Fx} {ρ : En} {k : AV → En → Prop} {C : Addr} {c : Cs} {E1 E2 E3 : XK} {g1 g2 g3 : List V → List V → List V} {i : Nat} {t : TA} {l : Lf} (hg1 : ∀ v w, g1 [v] [w] = [v, w]) (hg2 : ∀ v w, g2 [v] [w] = [v, w]) (hg3 : ∀ v w, g3 [v] [w] = [v, w]) (hx : ρ.sl[i]? = some (some (.dat (l.ob c)))) (h : WpA K F t ρ fun xs ρ1 => ∃ d r, xs = [.dat d] ∧ pl d = true ∧ l.rule d = some r ∧ k (.dat (c.ru r)) ρ1) :
    WpE K F (fun σ H Q => tMethK c.f "rule" (spG K (wLfRule C c Lf.isF)) 1 g1 E1 (tVar i) t σ H Q ∨ (tMethK c.s "rule" (spG K (wLfRule C c Lf.isS)) 1 g2 E2 (tVar i) t σ H Q ∨ tMethK c.w "rule" (spG K (wLfRule C c Lf.isWo)) 1 g3 E3 (tVar i) t σ H Q)) ρ k := by
  have fin : ∀ {f : Lf → Bool} {E : XK} {g : List V → List V → List V}, (∀ v w, g [v] [w] = [v, w]) → f l = true → WpA K F t ρ fun ys ρ2 => ∃ zs, ys.length = 1 ∧ (∀ G as v ws, RepA K G as (.dat (l.ob c)) v → RepAs K G as ys ws → RepAs K G as zs (g [v] ws)) ∧ WpSp K F (spG K (wLfRule C c f)) (fun _ => E) zs ρ2 k := fun {f E g} hg hf as σ H G e Q q =>
    h as σ H G e Q fun avs ρ1 vs as1 H1 G1 ⟨d, r, ex, hp, hr, hk⟩ e1 gg1 r1 => q avs ρ1 vs as1 H1 G1 (by
      subst ex
      refine ⟨[.dat (l.ob c), .dat d], rfl, fun G as v ws a b => ?_, wspE (.dat (.dat .nil)) ⟨l, d, hf, rfl, rfl, hp, (fun r' z => by rw [hr] at z; cases z; exact aft_hard (Ru.hard_ob r) hk), (fun z => by rw [hr] at z; cases z)⟩⟩
      cases b with
      | cons b b2 => cases b2; rw [hg]; exact .cons a (.cons b .nil)) e1 gg1 r1
  cases l with
  | full b s vs => exact we_or1 (we_methK (we_var hx ⟨_, _, .dat, rfl, fin hg1 rfl⟩))
  | still b s n => exact we_or2 (we_or1 (we_methK (we_var hx ⟨_, _, .dat, rfl, fin hg2 rfl⟩)))
  | woven b s rs => exact we_or2 (we_or2 (we_methK (we_var hx ⟨_, _, .dat, rfl, fin hg3 rfl⟩)))
end

section
variable {P : Program} {w : World} {K : PySem.W.Frag} {mg : Str → Option Value} {base : Heap}
/-! ### what is a leaf -/
def rowL : D → Bool
  | .tup ds => decide (1 ≤ ds.length) && decide (ds.length ≤ 16)
  | _ => false
theorem ok_is_row_of_cells (T : TxtP P K mg) : FnOk P w K mg base CX0 1 T.a_is_row_of_cells T.d_is_row_of_cells ["thing"] (spG K (wThing rowL)) := by
  refine T.F_is_row_of_cells.ok sc_is_row_of_cells (fun vs H Q E h => spG_len h fun xs cs post exc ⟨a, e, _⟩ => by rw [e]; rfl) (fun cdv A outer s H vs Q E hr h => ⟨_, (pss_one (ps_ret (pe_and (pe_callB call_isi (by rfl) T.m_isinstance (by decide +kernel) (pa_cons (pv 0) (pa_cons (pe_bltn (v := .ty "tuple") (by rfl) T.m_tuple (by decide +kernel) rfl) pa_nil))) (pe_one (pe_chain op_le op_le pe_int (pe_callB call_len_seq (by rfl) T.m_len (by decide +kernel) (pa_cons (pv 0) pa_nil)) (pe_glob (v := .int 16) (by rfl) T.g_MOST_CELLS ⟨_, rfl⟩)))))), enter h fun F xs cs post hE hw => ?_⟩)
  obtain ⟨d, rfl, rfl, hp, q⟩ := hw
  cases d with
  | tup ds =>
    have e0 : rowL (.tup ds) = (decide (1 ≤ ds.length) && decide (ds.length ≤ 16)) := rfl
    rw [e0] at q
    walk_at "D"
    refine we_chain ?_
    walk_at "D"
    by_cases c1 : 1 ≤ ds.length
    · rw [decide_eq_true c1] at q
      refine ifT (decide_eq_true (show (1 : Int) ≤ (ds.length : Int) by omega)) ?_
      walk_at "D"
      rw [show decide ((ds.length : Int) ≤ 16) = decide (ds.length ≤ 16) from decide_eq_decide.mpr (by omega)]
      exact fin_dat rfl q
    · rw [decide_eq_false c1] at q
      refine ifF (decide_eq_false (show ¬ (1 : Int) ≤ (ds.length : Int) by omega)) ?_
      exact fin_dat rfl q
  | obj => rw [pl] at hp; cases hp
  | scr => rw [pl] at hp; cases hp
  | ty => rw [pl] at hp; cases hp
  | cls => rw [pl] at hp; cases hp
  | _ => walk_at "D"; exact fin_dat rfl q
theorem isLf_str {k : Str} {b s h : D} : isLf (.tup [.str k, b, s, h]) = (inR 0 1000000000 b && (inR 1 1000000000 s && (if k = "full" then isRow (inR 0 255) h else if k = "still" then inR 1 200 h else if k = "woven" then isRow isRu h else false))) := rfl
theorem rowL_no {f : D → Bool} {d : D} (h : rowL d = false) : isRow f d = false := by
  cases d with
  | tup ds =>
    show (decide (1 ≤ ds.length) && decide (ds.length ≤ 16) && ds.all f) = false
    rw [show (decide (1 ≤ ds.length) && decide (ds.length ≤ 16)) = false from h]; rfl
  | _ => rfl
theorem rowL_yes {f : D → Bool} {d : D} (h : rowL d = true) : ∃ ds, d = .tup ds ∧ ds.length ≤ 16 ∧ isRow f d = ds.all f := by
  cases d with
  | tup ds =>
    have h : (decide (1 ≤ ds.length) && decide (ds.length ≤ 16)) = true := h
    refine ⟨ds, rfl, ?_, ?_⟩
    · rw [Bool.and_eq_true, decide_eq_true_eq, decide_eq_true_eq] at h; exact h.2
    · show (decide (1 ≤ ds.length) && decide (ds.length ≤ 16) && ds.all f) = _
      rw [h]; rfl
  | _ => cases h
theorem all_id {f : D → Bool} (ds : List D) : (ds.map f).all id = ds.all f := by induction ds with | nil => rfl | cons d ds ih => rw [List.map_cons, List.all_cons, List.all_cons, ih]; rfl
theorem ok_is_leaf (T : TxtP P K mg) : FnOk P w K mg base CX0 5 T.a_is_leaf T.d_is_leaf ["thing"] (spG K (wThing isLf)) := by
  refine T.F_is_leaf.ok sc_is_leaf (fun vs H Q E h => spG_len h fun xs cs post exc ⟨a, e, _⟩ => by rw [e]; rfl) (fun cdv A outer s H vs Q E hr h => ⟨_, (pss_cons (ps_if (PW.pt (pw_or (pt_not (pt_val (pe_callB call_isi (by rfl) T.m_isinstance (by decide +kernel) (pa_cons (pv 0) (pa_cons (pe_bltn (v := .ty "tuple") (by rfl) T.m_tuple (by decide +kernel) rfl) pa_nil))))) (pw_or (pt_cmpR op_ne (pe_callB call_len_seq (by rfl) T.m_len (by decide +kernel) (pa_cons (pv 0) pa_nil)) pe_int (nomark _)) (pw_or1 (pt_not (pt_val (pe_callB call_isi (by rfl) T.m_isinstance (by decide +kernel) (pa_cons (pe_ix ix_tup (pv 0) pe_int (fun _ _ => rfl)) (pa_cons (pe_bltn (v := .ty "str") (by rfl) T.m_str (by decide +kernel) rfl) pa_nil))))))))) (pss_one (ps_ret pe_bl)) pss_nil)
      (pss_cons (ps_asg (pv 0) (pg_tup rfl (pgs_cons (pg_name (i := 1) sc_is_leaf.nd rfl (Or.inl rfl)) (pgs_cons (pg_name (i := 2) sc_is_leaf.nd rfl (Or.inl rfl)) (pgs_cons (pg_name (i := 3) sc_is_leaf.nd rfl (Or.inl rfl)) (pgs_cons (pg_name (i := 4) sc_is_leaf.nd rfl (Or.inl rfl)) pgs_nil))))))
      (pss_cons (ps_if (PW.pt (pw_or (pt_not (pt_val (pe_call (ok_is_whole T) (hr.mono (by decide)) (by rfl) T.g_is_whole T.F_is_whole.kp T.b_is_whole .nil pass0 (pa_cons (pv 2) (pa_cons pe_int (pa_cons (pe_glob (v := .int 1000000000) (by rfl) T.g_GREATEST_TIME ⟨_, rfl⟩) pa_nil)))))) (pw_or1 (pt_not (pt_val (pe_call (ok_is_whole T) (hr.mono (by decide)) (by rfl) T.g_is_whole T.F_is_whole.kp T.b_is_whole .nil pass0 (pa_cons (pv 3) (pa_cons pe_int (pa_cons (pe_glob (v := .int 1000000000) (by rfl) T.g_GREATEST_TIME ⟨_, rfl⟩) pa_nil))))))))) (pss_one (ps_ret pe_bl)) pss_nil)
      (pss_cons (ps_if (pt_cmpR op_eq (pv 1) pe_str (nomark _)) (pss_one (ps_ret (pe_and (pe_call (ok_is_row_of_cells T) (hr.mono (by decide)) (by rfl) T.g_is_row_of_cells T.F_is_row_of_cells.kp T.b_is_row_of_cells .nil pass0 (pa_cons (pv 4) pa_nil)) (pe_one (pe_callB (cr_all rfl) (by rfl) T.m_all (by decide +kernel) (pa_cons (pe_lc (own := [("value", 5)]) (g := gName 5) (tt := tYes) (by rfl) sc_is_leaf.nd (pi_tup (pv 4)) (blkOk_by (own := [("value", 5)]) (N := N_is_leaf) (sc := defScope s_is_leaf) (by decide +kernel)) (fun _ _ _ _ _ => (pg_name (i := 5) sc_is_leaf.nd rfl (Or.inl rfl))) (fun _ _ _ _ _ => pts_nil) (fun _ _ _ _ _ => (pe_call (ok_is_value T) (hr.mono (by decide)) (by rfl) T.g_is_value T.F_is_value.kp T.b_is_value .nil pass0 (pa_cons (pv 5) pa_nil)))) pa_nil)))))) pss_nil)
      (pss_cons (ps_if (pt_cmpR op_eq (pv 1) pe_str (nomark _)) (pss_one (ps_ret (pe_call (ok_is_back T) (hr.mono (by decide)) (by rfl) T.g_is_back T.F_is_back.kp T.b_is_back .nil pass0 (pa_cons (pv 4) pa_nil)))) pss_nil)
      (pss_cons (ps_if (pt_cmpR op_eq (pv 1) pe_str (nomark _)) (pss_one (ps_ret (pe_and (pe_call (ok_is_row_of_cells T) (hr.mono (by decide)) (by rfl) T.g_is_row_of_cells T.F_is_row_of_cells.kp T.b_is_row_of_cells .nil pass0 (pa_cons (pv 4) pa_nil)) (pe_one (pe_callB (cr_all rfl) (by rfl) T.m_all (by decide +kernel) (pa_cons (pe_lc (own := [("rule", 6)]) (g := gName 6) (tt := tYes) (by rfl) sc_is_leaf.nd (pi_tup (pv 4)) (blkOk_by (own := [("rule", 6)]) (N := N_is_leaf) (sc := defScope s_is_leaf) (by decide +kernel)) (fun _ _ _ _ _ => (pg_name (i := 6) sc_is_leaf.nd rfl (Or.inl rfl))) (fun _ _ _ _ _ => pts_nil) (fun _ _ _ _ _ => (pe_call (ok_is_rule T) (hr.mono (by decide)) (by rfl) T.g_is_rule T.F_is_rule.kp T.b_is_rule .nil pass0 (pa_cons (pv 6) pa_nil)))) pa_nil)))))) pss_nil)
      (pss_one (ps_ret pe_bl)))))))), enter h fun F xs cs post hE hw => ?_⟩)
  obtain ⟨d, rfl, rfl, hp, q⟩ := hw
  cases d with
  | tup ds =>
    match ds, hp, q with
    | [], _, q => walk_at "D"; exact fin_dat rfl q
    | [a], _, q => rw [show isLf (.tup [a]) = false from by cases a <;> rfl] at q; walk_at "D"; exact fin_dat rfl q
    | [a, b], _, q => rw [show isLf (.tup [a, b]) = false from by cases a <;> rfl] at q; walk_at "D"; exact fin_dat rfl q
    | [a, b, c], _, q => rw [show isLf (.tup [a, b, c]) = false from by cases a <;> rfl] at q; walk_at "D"; exact fin_dat rfl q
    | a :: b :: c :: d :: e :: r, _, q =>
      rw [show isLf (.tup (a :: b :: c :: d :: e :: r)) = false from by cases a <;> rfl] at q
      walk_at "D"
      first | exact fin_dat rfl q | (refine ifT (show (!eqS (D.int _) (D.int 4)) = true from by show (!decide ((List.length (a :: b :: c :: d :: e :: r) : Int) = 4)) = true; rw [decide_eq_false (by simp only [List.length_cons]; omega)]; rfl) ?_; walk_at "D"; exact fin_dat rfl q)
    | [a, b, c, d], hp, q =>
      obtain ⟨pa, hpb⟩ := pls_cons (show pls [a, b, c, d] = true by rw [pl] at hp; exact hp)
      obtain ⟨pb, hpc⟩ := pls_cons hpb
      obtain ⟨pc, hpd⟩ := pls_cons hpc
      obtain ⟨pd, _⟩ := pls_cons hpd
      cases a with
      | str k =>
        rw [isLf_str] at q
        walk_at "D"
        walk_at "c"
        refine ⟨b, _, _, rfl, rfl, pb, rfl, ?_⟩
        cases hb : inR 0 1000000000 b with
        | false => rw [hb] at q; walk_at "D"; exact fin_dat rfl q
        | true =>
        rw [hb] at q
        walk_at "D"
        walk_at "c"
        refine ⟨c, _, _, rfl, rfl, pc, rfl, ?_⟩
        cases hc : inR 1 1000000000 c with
        | false => rw [hc] at q; walk_at "D"; exact fin_dat rfl q
        | true =>
        rw [hc] at q
        walk_at "D"
        refine ifC (fun c1 => ?_) (fun c1 => ?_)
        · have c1 := of_decide_eq_true c1
          subst c1
          rw [if_pos rfl] at q
          walk_at "D"
          walk_at "c"
          refine ⟨d, rfl, rfl, pd, rfl, ?_⟩
          cases hr2 : rowL d with
          | false => rw [rowL_no hr2] at q; walk_at "D"; exact fin_dat rfl q
          | true =>
            obtain ⟨es, rfl, hl, he⟩ := rowL_yes (f := (inR 0 255)) hr2
            rw [he] at q
            have pes : pls es = true := by rw [pl] at pd; exact pd
            walk_at "D"
            refine loopC_by (fun dd ρ => ∃ done todo : List D, dd = todo ∧ es = done ++ todo ∧ ρ = ⟨[some (.dat (.tup [.str "full", b, c, .tup es])), some (.dat (.str "full")), some (.dat b), some (.dat c), some (.dat (.tup es)), none, none], [.lst ((done.map (inR 0 255)).map .bl)]⟩) ⟨[], es, rfl, rfl, rfl⟩ ?_ ?_
            · rintro ρ ⟨done, todo, e1, e2, rfl⟩
              subst e1
              rw [List.append_nil] at e2
              subst e2
              refine ⟨trivial, ?_⟩
              walk_at "D"
              refine wc_all (.cel rfl) ?_
              rw [all_id]
              exact fin_dat rfl q
            · rintro x dd ρ ⟨done, todo, e1, e2, rfl⟩
              subst e1
              refine ⟨trivial, ?_⟩
              walk_at "D"
              walk_at "c"
              refine ⟨x, rfl, rfl, pls_mem pes x (by rw [e2]; exact List.mem_append_right _ List.mem_cons_self), rfl, ?_⟩
              walk_at "D"
              · rw [List.length_map, List.length_map]
                have : es.length = done.length + (dd.length + 1) := by rw [e2, List.length_append, List.length_cons]
                omega
              exact now ⟨done ++ [x], dd, rfl, by rw [e2, List.append_assoc]; rfl, by rw [List.map_append, List.map_append]; rfl⟩
        · have n1 := of_decide_eq_false c1
          rw [if_neg n1] at q
          walk_at "D"
          refine ifC (fun c1 => ?_) (fun c1 => ?_)
          · have c1 := of_decide_eq_true c1
            subst c1
            rw [if_pos rfl] at q
            walk_at "D"
            walk_at "c"
            exact ⟨d, rfl, rfl, pd, rfl, fin_dat rfl q⟩
          · have n2 := of_decide_eq_false c1
            rw [if_neg n2] at q
            walk_at "D"
            refine ifC (fun c1 => ?_) (fun c1 => ?_)
            · have c1 := of_decide_eq_true c1
              subst c1
              rw [if_pos rfl] at q
              walk_at "D"
              walk_at "c"
              refine ⟨d, rfl, rfl, pd, rfl, ?_⟩
              cases hr2 : rowL d with
              | false => rw [rowL_no hr2] at q; walk_at "D"; exact fin_dat rfl q
              | true =>
                obtain ⟨es, rfl, hl, he⟩ := rowL_yes (f := isRu) hr2
                rw [he] at q
                have pes : pls es = true := by rw [pl] at pd; exact pd
                walk_at "D"
                refine loopC_by (fun dd ρ => ∃ done todo : List D, dd = todo ∧ es = done ++ todo ∧ ρ = ⟨[some (.dat (.tup [.str "woven", b, c, .tup es])), some (.dat (.str "woven")), some (.dat b), some (.dat c), some (.dat (.tup es)), none, none], [.lst ((done.map isRu).map .bl)]⟩) ⟨[], es, rfl, rfl, rfl⟩ ?_ ?_
                · rintro ρ ⟨done, todo, e1, e2, rfl⟩
                  subst e1
                  rw [List.append_nil] at e2
                  subst e2
                  refine ⟨trivial, ?_⟩
                  walk_at "D"
                  refine wc_all (.cel rfl) ?_
                  rw [all_id]
                  exact fin_dat rfl q
                · rintro x dd ρ ⟨done, todo, e1, e2, rfl⟩
                  subst e1
                  refine ⟨trivial, ?_⟩
                  walk_at "D"
                  walk_at "c"
                  refine ⟨x, rfl, rfl, pls_mem pes x (by rw [e2]; exact List.mem_append_right _ List.mem_cons_self), rfl, ?_⟩
                  walk_at "D"
                  · rw [List.length_map, List.length_map]
                    have : es.length = done.length + (dd.length + 1) := by rw [e2, List.length_append, List.length_cons]
                    omega
                  exact now ⟨done ++ [x], dd, rfl, by rw [e2, List.append_assoc]; rfl, by rw [List.map_append, List.map_append]; rfl⟩
            · have n3 := of_decide_eq_false c1
              rw [if_neg n3] at q
              walk_at "D"
              exact fin_dat rfl q
      | _ =>
        walk_at "D"
        first | exact fin_dat rfl q | (exfalso; exact Bool.noConfusion (show false = true by simpa [pl] using pa))
  | obj => rw [pl] at hp; cases hp
  | scr => rw [pl] at hp; cases hp
  | ty => rw [pl] at hp; cases hp
  | cls => rw [pl] at hp; cases hp
  | _ => walk_at "D"; exact fin_dat rfl q
theorem Lf.told_inj {l m : Lf} (h : l.told = m.told) : l = m := by
  have ii : ∀ {a b : List Int}, a.map D.int = b.map D.int → a = b := fun {a b} h => by
    induction a generalizing b with
    | nil => cases b with | nil => rfl | cons => cases h
    | cons x a ih =>
      cases b with
      | nil => cases h
      | cons y b => simp only [List.map_cons, List.cons.injEq, D.int.injEq] at h; rw [h.1, ih h.2]
  have rr : ∀ {a b : List Ru}, a.map Ru.told = b.map Ru.told → a = b := fun {a b} h => by
    induction a generalizing b with
    | nil => cases b with | nil => rfl | cons => cases h
    | cons x a ih =>
      cases b with
      | nil => cases h
      | cons y b => simp only [List.map_cons, List.cons.injEq] at h; rw [Ru.told_inj h.1, ih h.2]
  cases l <;> cases m <;> first
    | (exfalso; simp [Lf.told] at h; done)
    | (exfalso; simp only [Lf.told, D.tup.injEq, List.cons.injEq] at h; exact absurd (D.str.inj h.1) (by decide))
    | (simp only [Lf.told, D.tup.injEq, List.cons.injEq, D.int.injEq, and_true, true_and] at h; obtain ⟨rfl, rfl, h⟩ := h; first | rw [ii h] | rw [rr h] | rw [h])
def wLeafOf (C : Addr) (c : Cs) : PW0 := fun xs cs post exc => ∃ d, xs = [.dat d] ∧ cs = [] ∧ pl d = true ∧ (isLf d = false → exc C) ∧ ∀ l : Lf, l.ok → d = l.told → post (.dat (l.ob c)) []
theorem ok_leaf_of (T : TxtP P K mg) : FnOk P w K mg base (L2.CX P w) 8 T.a_leaf_of T.d_leaf_of ["told"] (spG K (wLeafOf T.c_NoLeaf ⟨T.c_Plain, T.c_Moved, T.c_Mixed, T.c_Full, T.c_Still, T.c_Woven⟩)) := by
  refine T.F_leaf_of.okX sc_leaf_of (fun vs H Q E h => spG_len h fun xs cs post exc ⟨a, e, _⟩ => by rw [e]; rfl) (fun cdv A outer s H vs Q E hr h => ⟨_, (pss_cons (ps_if (pt_not (pt_val (pe_call (ok_is_leaf T) (hr.mono (by decide)) (by rfl) T.g_is_leaf T.F_is_leaf.kp T.b_is_leaf .nil pass0 (pa_cons (pv 0) pa_nil)))) (pss_one (ps_raise rfl (takes_of rfl rfl rfl rfl) (pmk_own PySem.F.excBase_ValueError T.x_NoLeaf T.g_NoLeaf T.k_NoLeaf (raises_own T.bb_NoLeaf T.t_NoLeaf) rfl))) pss_nil)
      (pss_cons (ps_asg (pv 0) (pg_tup rfl (pgs_cons (pg_name (i := 1) sc_leaf_of.nd rfl (Or.inl rfl)) (pgs_cons (pg_name (i := 2) sc_leaf_of.nd rfl (Or.inl rfl)) (pgs_cons (pg_name (i := 3) sc_leaf_of.nd rfl (Or.inl rfl)) (pgs_cons (pg_name (i := 4) sc_leaf_of.nd rfl (Or.inl rfl)) pgs_nil))))))
      (pss_cons (ps_if (pt_cmpR op_eq (pv 1) pe_str (nomark _)) (pss_one (ps_ret (pe_make T.mk_Full (ok_Full_init T) (hr.mono (by decide)) (by rfl) T.g_Full T.b_Full_init .nil pass0 (pa_cons (pv 2) (pa_cons (pv 3) (pa_cons (pv 4) pa_nil)))))) pss_nil)
      (pss_cons (ps_if (pt_cmpR op_eq (pv 1) pe_str (nomark _)) (pss_one (ps_ret (pe_make T.mk_Still (ok_Still_init T) (hr.mono (by decide)) (by rfl) T.g_Still T.b_Still_init .nil pass0 (pa_cons (pv 2) (pa_cons (pv 3) (pa_cons (pv 4) pa_nil)))))) pss_nil)
      (pss_one (ps_ret (pe_make T.mk_Woven (ok_Woven_init T) (hr.mono (by decide)) (by rfl) T.g_Woven T.b_Woven_init .nil pass0 (pa_cons (pv 2) (pa_cons (pv 3) (pa_cons (pv 4) pa_nil)))))))))), enter h fun F xs cs post hE hw => ?_⟩)
  obtain ⟨d, rfl, rfl, hp, q1, q2⟩ := hw
  subst hE
  walk_at "D"
  walk_at "c"
  refine ⟨d, rfl, rfl, hp, rfl, ?_⟩
  cases hd : isLf d with
  | false =>
    walk_at "D"
    exact ws_exc fun as σ H G D en => F.hE _ H (q1 hd) en.fh
  | true =>
    obtain ⟨l, ok, rfl⟩ := isLf_of hd
    have q2 := q2 l ok rfl
    cases l with
    | full b s vs =>
      walk_at "D"
      refine we_mkP ?_
      walk_at "D"
      exact ⟨_, _, _, .dat (.dat (.dat .nil)), rfl, rfl, ⟨_, _, _, rfl, rfl⟩, fin_dat rfl q2⟩
    | still b s k =>
      walk_at "D"
      refine we_mkP ?_
      walk_at "D"
      exact ⟨_, _, _, .dat (.dat (.dat .nil)), rfl, rfl, rfl, fin_dat rfl q2⟩
    | woven b s rs =>
      walk_at "D"
      refine we_mkP ?_
      walk_at "D"
      exact ⟨_, _, _, .dat (.dat (.dat .nil)), rfl, rfl, ⟨_, _, rs, ok.2.2, ok.2.1.2, rfl, rfl⟩, fin_dat rfl q2⟩
end

/-! ### a thing laid that nobody looks at -/
section
variable {K : PySem.W.Frag} {F : Fx} {ρ : En}
theorem EnvOk.newH {as : List Addr} {σ : L2.St} {H G : Hp} {p : Addr} {o : HO} (e : EnvOk K F ρ as σ H G) (hp : H p = none) : EnvOk K F ρ as σ (upd H p o) G := by
  refine ⟨fun a u h => upd_old hp (e.gh _ _ h), Same.new e.fh hp, e.fg, e.g0, e.nd, e.pr, e.ln, fun j c a hc ha => ?_, e.sn, e.sl⟩
  obtain ⟨f, ⟨u, hu⟩, ok⟩ := e.ce j c a hc ha
  refine ⟨f, ⟨u, upd_old hp hu⟩, ?_⟩
  cases c with
  | gone => trivial
  | lst ds => obtain ⟨g, vs, h, r⟩ := ok; exact ⟨g, vs, upd_old hp h, r⟩
  | ins C9 ns9 ds => obtain ⟨g, dx9, vs, h, ln9, r⟩ := ok; exact ⟨g, dx9, vs, upd_old hp h, ln9, r⟩
  | drw => obtain ⟨g, vs, h, r⟩ := ok; exact ⟨g, vs, upd_old hp h, r⟩
end
/-! ### isinstance of a caught error, of one class of several; {k: v} -/
section
variable {K : PySem.W.Frag} {F : Fx} {ρ : En} {k : AV → En → Prop}
theorem reps_cls {G : Hp} {as : List Addr} : ∀ {ys : List Addr} {vs : List V}, RepAs K G as (ys.map fun y => .dat (.cls y)) vs → vs = ys.map V.ref
  | [], _, h => by cases h; rfl
  | y :: ys, _, h => by
    cases h with
    | cons a b => cases (show Rep K G (.cls y) _ from a); rw [reps_cls b]; rfl
theorem paired_cls : ∀ (ys : List Addr), Paired ClsV (ys.map V.ref) (ys.map Value.ref)
  | [] => .nil
  | y :: ys => .cons (.own y) (paired_cls ys)
theorem we_isEs {i : Nat} {e C : Addr} (ys : List Addr) {ta : TA} {b : Bool} (hv : ρ.sl[i]? = some (some (.dat (.cls e)))) (hl : Nat.ble ys.length 1000 = true) (xc : ExcC K C) (ka : PySem.W.kitAny K (.ref C) (ys.map Value.ref) = some b) (hta : WpA K F ta ρ fun avs ρ1 => avs = ys.map (fun y => AV.dat (.cls y)) ∧ k (.dat (.bl b)) ρ1) :
    WpE K F (tCB (rIsEs K (.ref C) none e) (tCons (tVar i) (tCons (tTup ta) tNil))) ρ k := fun as σ H G en Q q => by
  obtain ⟨v, hs, rv⟩ := en.sl i _ hv
  cases (show Rep K G (.cls e) v from rv)
  refine ⟨_, hs, hta as σ H G en _ ?_⟩
  rintro avs ρ1 vs as1 H1 G1 ⟨rfl, hk⟩ e1 g1 r1
  have ev := reps_cls r1
  subst ev
  refine ⟨sz (by rw [List.length_map]; exact hl), fun p hp => ?_⟩
  refine ⟨C, p, ys.map V.ref, ys.map Value.ref, b, rfl, rfl, xc, rfl, upd_same, paired_cls ys, ka, ?_⟩
  exact q _ ρ1 _ as1 _ G1 hk (e1.newH hp) g1 (Rep.bl _)
theorem we_disp1 {x : Str} {i : Nat} {av : AV} (hv : ρ.sl[i]? = some (some av)) (h : k (.dat .dic) ρ) : WpE K F (tDisp [(tC (.str x), tVar i)]) ρ k := fun as σ H G e Q q p hp => by
  obtain ⟨v, hs, rv⟩ := e.sl i _ hv
  obtain ⟨e3, g3⟩ := e.newG (o := .dK (mergeK [] [((.inr x : Key), v)])) hp
  refine ⟨v, hs, upd_same, [(.inr x, v)], rfl, Nat.le_of_ble_eq_true rfl, ?_⟩
  rw [upd_upd]
  exact q _ _ _ _ _ _ h e3 g3 (Rep.dic upd_same)
end
/-! ### slices and sums of tuples by data -/
section
variable {K : PySem.W.Frag} {F : Fx} {ρ : En} {k : AV → En → Prop} {te : TE}
theorem we_slA {tl th : TO} (h : WpE K F te ρ fun x ρ1 => WpO K F tl ρ1 fun lo ρ2 => WpO K F th ρ2 fun hi ρ3 => ∃ ds, x = .dat (.tup ds) ∧ k (.dat (.tup (cutD ds lo hi))) ρ3) : WpE K F (tSl (rSlA K) te tl th) ρ k := fun as σ H G e Q q =>
  h as σ H G e _ fun x ρ1 vx as1 H1 G1 h1 e1 g1 r1 => h1 as1 σ H1 G1 e1 _ fun lo ρ2 as2 H2 G2 h2 e2 g2 => h2 as2 σ H2 G2 e2 _ fun hi ρ3 as3 H3 G3 ⟨ds, ex, h3⟩ e3 g3 => by
    subst ex
    have r3 := r1.mono (g2.trans g3)
    obtain ⟨a, vs, rfl, hs, hr⟩ := Rep.tupE r3
    have hs3 := Same.seqT e3.gh hs
    refine ⟨a, vs, rfl, hs3, fun z => ?_, fun _ p hp => ?_⟩
    · have ec : cutD ds lo hi = ds := by
        unfold cutD
        rw [← hr.length, z.1, z.2, List.drop_zero, Nat.sub_zero, hr.length, List.take_length]
      rw [ec] at h3
      exact q _ ρ3 _ as3 H3 G3 h3 e3 (g1.trans (g2.trans g3)) r3
    · obtain ⟨e4, g4⟩ := e3.newG (o := .tup (cutV vs lo hi)) hp
      exact q _ _ _ _ _ _ h3 e4 (g1.trans (g2.trans (g3.trans g4))) (Rep.tup (SqT.of upd_same) (Reps.mono g4.g _ _ (hr.cut lo hi)))
theorem wr_catA {ds es : List D} (hl : ds.length + es.length ≤ 1000) (hk : k (.dat (.tup (ds ++ es))) ρ) : WpR K F (rCatA K) (.dat (.tup ds)) (.dat (.tup es)) ρ k := fun as σ H G vx vy e r1 r2 Q q => by
  obtain ⟨a, vs, rfl, hs, hr⟩ := Rep.tupE r1
  obtain ⟨b, ws, rfl, hs2, hr2⟩ := Rep.tupE r2
  refine ⟨a, b, vs, ws, rfl, rfl, Same.seqT e.gh hs, Same.seqT e.gh hs2, szn (by rw [hr.length, hr2.length]; exact hl), fun z => ?_, fun _ z => ?_, fun _ _ p hp => ?_⟩
  · subst z
    have : ds = [] := List.length_eq_zero_iff.mp (by rw [← hr.length]; rfl)
    subst this
    exact q _ ρ _ as H G hk e .refl r2
  · subst z
    have : es = [] := List.length_eq_zero_iff.mp (by rw [← hr2.length]; rfl)
    subst this
    rw [List.append_nil] at hk
    exact q _ ρ _ as H G hk e .refl r1
  · obtain ⟨e4, g4⟩ := e.newG (o := .tup (vs ++ ws)) hp
    exact q _ _ _ _ _ _ hk e4 g4 (Rep.tup (SqT.of upd_same) (Reps.mono g4.g _ _ (hr.append hr2)))
end
section
variable {P : Program} {w : World} {K : PySem.W.Frag} {mg : Str → Option Value} {base : Heap}
/-! ### the law's own draws from a well -/
def wCell : PW0 := fun xs cs post _ => ∃ (ns : List Int) (k : Int), xs = [.dat (.scr (ns.map D.int)), .dat (.int k)] ∧ cs = [] ∧ 0 ≤ k ∧ ∀ n, post (.dat (.int n)) []
theorem ok_l_cell_at (T : TxtP P K mg) : FnOk P w K mg base CX0 1 T.a_l_cell_at T.d_l_cell_at ["_law_script", "_law_k"] (spG K wCell) := by
  refine T.F_l_cell_at.ok sc_l_cell_at (fun vs H Q E h => spG_len h fun xs cs post exc ⟨a, b, e, _⟩ => by rw [e]; rfl) (fun cdv A outer s H vs Q E hr h => ⟨_, (pss_cons (ps_if (pt_cmpR op_lt (pv 1) (pe_callB call_len_seq (by rfl) T.m_len (by decide +kernel) (pa_cons (pv 0) pa_nil)) (nomark _)) (pss_one (ps_ret (pe_ix ix_list (pv 0) (pv 1) (fun _ _ => rfl)))) pss_nil)
      (pss_cons (ps_if (pt_cmpR (op_eqD hr.units) (pv 0) (pe_lst pa_nil) (nomark _)) (pss_one (ps_ret (pv 1))) pss_nil)
      (pss_one (ps_ret (pe_op op_add (pe_ix ix_list (pv 0) (pe_op op_mod (pv 1) (pe_callB call_len_seq (by rfl) T.m_len (by decide +kernel) (pa_cons (pv 0) pa_nil))) (fun _ _ => rfl)) (pe_op op_mul pe_int (pv 1))))))), enter h fun F xs cs post hE hw => ?_⟩)
  obtain ⟨ns, k, rfl, rfl, k0, q⟩ := hw
  walk_at "D"
  refine ifC (fun c => ?_) (fun c => ?_)
  · have c := of_decide_eq_true c
    rw [List.length_map] at c
    walk_at "D"
    have hl : k.toNat < ns.length := by omega
    have ha : atI (ns.map D.int) k = some (D.int ns[k.toNat]) := by
      have e : ((k.toNat : Nat) : Int) = k := by omega
      have := atI_nat (xs := ns.map D.int) (j := k.toNat) (v := D.int ns[k.toNat]) (by rw [List.getElem?_map, List.getElem?_eq_getElem hl]; rfl)
      rw [e] at this
      exact this
    refine wr_ixL (.scr _) ha ?_
    exact fin_dat rfl (q _)
  · walk_at "D"
    have fn : ∀ n, fines n (ns.map D.int) = true := fun n => by
      clear c h q
      induction ns with
      | nil => cases n <;> rfl
      | cons x ns ih => cases n <;> exact ih
    refine wr_eqD 1 (by walk_at "od") (by walk_at "od") (by rw [fine]; exact fn 0) rfl (by decide) ?_
    refine ⟨_, rfl, ?_⟩
    refine ifC (fun z => ?_) (fun z => ?_)
    · walk_at "D"
      exact fin_dat rfl (q _)
    · have hn : 0 < ns.length := by
        cases ns with
        | nil => cases z
        | cons x ns => exact Nat.succ_pos _
      walk_at "D"
      refine wr_Ii (by rw [List.length_map]; omega) ?_
      rw [List.length_map]
      have m0 := Int.emod_nonneg k (show (ns.length : Int) ≠ 0 by omega)
      have m1 := Int.emod_lt_of_pos k (show (0 : Int) < ns.length by omega)
      generalize k % (ns.length : Int) = j at *
      have hl : j.toNat < ns.length := by omega
      have ha : atI (ns.map D.int) j = some (D.int ns[j.toNat]) := by
        have e : ((j.toNat : Nat) : Int) = j := by omega
        have := atI_nat (xs := ns.map D.int) (j := j.toNat) (v := D.int ns[j.toNat]) (by rw [List.getElem?_map, List.getElem?_eq_getElem hl]; rfl)
        rw [e] at this
        exact this
      refine wr_ixL (.scr _) ha ?_
      walk_at "D"
      refine wr_Ii (.inl (by decide)) ?_
      walk_at "D"
      exact fin_dat rfl (q _)
def wWell : PW0 := fun xs cs post _ => ∃ (ns : List Int) (k : Int), xs = [.dat (.scr (ns.map D.int)), .dat (.int k)] ∧ cs = [] ∧ 0 ≤ k ∧ ∀ s, IsW s → post (.new s) []
theorem ok_l_well (T : TxtP P K mg) : FnOk P w K mg base CX0 2 T.a_l_well T.d_l_well ["_law_script", "_law_k"] (spG K wWell) := by
  refine T.F_l_well.ok sc_l_well (fun vs H Q E h => spG_len h fun xs cs post exc ⟨a, b, e, _⟩ => by rw [e]; rfl) (fun cdv A outer s H vs Q E hr h => ⟨_, (pss_cons (ps_set (i := 2) sc_l_well.nd rfl (Or.inl rfl) (pe_call (ok_l_cell_at T) (hr.mono (by decide)) (by rfl) T.g_l_cell_at T.F_l_cell_at.kp T.b_l_cell_at .nil pass0 (pa_cons (pv 0) (pa_cons (pv 1) pa_nil))))
      (pss_one (ps_ret (pe_lst (pa_cons (pv 2) (pa_cons (pe_op op_mod (pv 2) pe_int) (pa_cons pe_int pa_nil))))))), enter h fun F xs cs post hE hw => ?_⟩)
  obtain ⟨ns, k, rfl, rfl, k0, q⟩ := hw
  walk_at "D"
  walk_at "c"
  refine ⟨ns, k, rfl, rfl, k0, fun n => ⟨rfl, ?_⟩⟩
  walk_at "D"
  refine wr_Ii (by decide) ?_
  walk_at "D"
  exact fin_cel (Nat.zero_le _) rfl rfl (q _ ⟨_, _, _, rfl⟩)
theorem lg_small {b : Int} (b0 : 0 < b) (b1 : b < 4294967296) : b.natAbs.log2 < 9000 := by
  have h : b.natAbs.log2 < 32 := (Nat.log2_lt (by omega)).mpr (by omega)
  omega
def wDraw : PW0 := fun xs cs post _ => ∃ (s : List D) (b : Int), xs = [.cel 0, .dat (.int b)] ∧ cs = [.lst s] ∧ IsW s ∧ 0 < b ∧ b < 4294967296 ∧ ∀ d s', 0 ≤ d → d < b → IsW s' → post (.dat (.int d)) [.lst s']
theorem ok_l_draw (T : TxtP P K mg) : FnOk P w K mg base CX0 1 T.a_l_draw T.d_l_draw ["_law_well_here", "_law_many"] (spG K wDraw) := by
  refine T.F_l_draw.ok sc_l_draw (fun vs H Q E h => spG_len h fun xs cs post exc ⟨a, b, e, _⟩ => by rw [e]; rfl) (fun cdv A outer s H vs Q E hr h => ⟨_, (pss_cons (ps_if (pt_cmpR op_ge (pe_ix ix_list (pv 0) pe_int (fun _ _ => rfl)) (pe_op op_pow pe_int pe_int) (nomark _)) (pss_cons (ps_set (i := 2) sc_l_draw.nd rfl (Or.inl rfl) (pe_op op_mod (pe_ix ix_list (pv 0) pe_int (fun _ _ => rfl)) (pv 1)))
      (pss_cons (ps_asg (pe_op op_fdivW (pe_ix ix_list (pv 0) pe_int (fun _ _ => rfl)) (pv 1)) (pg_sub (pv 0) pe_int set_list))
      (pss_one (ps_ret (pv 2))))) pss_nil)
      (pss_cons (ps_asg (pe_op op_add (pe_ix ix_list (pv 0) pe_int (fun _ _ => rfl)) pe_int) (pg_sub (pv 0) pe_int set_list))
      (pss_cons (ps_set (i := 3) sc_l_draw.nd rfl (Or.inl rfl) (pe_op op_mod (pe_op op_mul (pe_op op_add (pe_op op_add (pe_ix ix_list (pv 0) pe_int (fun _ _ => rfl)) (pe_op op_mul pe_int (pe_ix ix_list (pv 0) pe_int (fun _ _ => rfl)))) pe_int) pe_int) pe_int))
      (pss_cons (ps_set (i := 3) sc_l_draw.nd rfl (Or.inl rfl) (pe_op op_mod (pe_op op_mul (pv 3) (pe_op op_add (pe_op op_fdivW (pv 3) pe_int) pe_int)) pe_int))
      (pss_one (ps_ret (pe_op op_mod (pe_op op_mod (pe_op op_mul (pv 3) (pe_op op_add (pe_op op_fdivW (pv 3) pe_int) pe_int)) pe_int) (pv 1)))))))), enter h fun F xs cs post hE hw => ?_⟩)
  obtain ⟨st, b, rfl, rfl, ⟨x, y, z, rfl⟩, b0, b1, q⟩ := hw
  walk_at "D"
  refine wr_Ii ⟨by decide, by decide, by decide⟩ ?_
  walk_at "D"
  refine ifC (fun c => ?_) (fun c => ?_)
  · walk_at "D"
    refine wr_Ii b0 ?_
    walk_at "D"
    refine wr_Ii ⟨b0, lg_small b0 b1⟩ ?_
    walk_at "D"
    refine sub_in rfl rfl (by walk_at "fz") rfl (m := 0) rfl ?_
    walk_at "D"
    exact fin_dat rfl (q _ _ (Int.emod_nonneg _ (by omega)) (Int.emod_lt_of_pos _ b0) ⟨_, _, _, rfl⟩)
  · walk_at "D"
    refine sub_in rfl rfl (by walk_at "fz") rfl (m := 2) rfl ?_
    walk_at "D"
    refine wr_Ii (.inl (by decide)) ?_
    walk_at "D"
    refine wr_Ii (.inr (by decide)) ?_
    walk_at "D"
    refine wr_Ii (by decide) ?_
    have n0 := Int.emod_nonneg ((y + 7919 * (z + 1) + 1) * 48271) (show (2147483647 : Int) ≠ 0 by decide)
    have n1 := Int.emod_lt_of_pos ((y + 7919 * (z + 1) + 1) * 48271) (show (0 : Int) < 2147483647 by decide)
    walk_at "D"
    generalize (y + 7919 * (z + 1) + 1) * 48271 % 2147483647 = n at *
    refine wr_Ii ⟨by decide, by decide⟩ ?_
    walk_at "D"
    refine wr_Ii (.inl ⟨by omega, by omega⟩) ?_
    walk_at "D"
    refine wr_Ii (by decide) ?_
    have m0 := Int.emod_nonneg (n * (n / 1009 + 69621)) (show (2147483647 : Int) ≠ 0 by decide)
    have m1 := Int.emod_lt_of_pos (n * (n / 1009 + 69621)) (show (0 : Int) < 2147483647 by decide)
    walk_at "D"
    generalize n * (n / 1009 + 69621) % 2147483647 = m at *
    refine wr_Ii ⟨by decide, by decide⟩ ?_
    walk_at "D"
    refine wr_Ii (.inl ⟨by omega, by omega⟩) ?_
    walk_at "D"
    refine wr_Ii (by decide) ?_
    walk_at "D"
    refine wr_Ii b0 ?_
    exact fin_dat rfl (q _ _ (Int.emod_nonneg _ (by omega)) (Int.emod_lt_of_pos _ b0) ⟨_, _, _, rfl⟩)
theorem wsp_draw {F : Fx} {ρ : En} {k : AV → En → Prop} {E : L2.St → XK} {j : Nat} {s : List D} {b : Int} (hj : ρ.ce[j]? = some (.lst s)) (hs : IsW s) (b0 : 0 < b) (b1 : b < 4294967296) (h : ∀ d s', 0 ≤ d → d < b → IsW s' → k (.dat (.int d)) (ρ.cell j (.lst s'))) : WpSp K F (spG K wDraw) E [.cel j, .dat (.int b)] ρ k :=
  wsp1 hj rfl (by show (decide (j = j) && true) = true; rw [decide_eq_true rfl]; rfl) ⟨s, b, rfl, rfl, hs, b0, b1, fun d s' d0 d1 hs' => ⟨.lst s', rfl, rfl, h d s' d0 d1 hs'⟩⟩
theorem ok_l_whole (T : TxtP P K mg) : FnOk P w K mg base CX0 1 T.a_l_whole T.d_l_whole ["_law_thing_here"] (spG K (wThing isInt)) := by
  refine T.F_l_whole.ok sc_l_whole (fun vs H Q E h => spG_len h fun xs cs post exc ⟨a, e, _⟩ => by rw [e]; rfl) (fun cdv A outer s H vs Q E hr h => ⟨_, (pss_one (ps_ret (pe_and (pe_callB call_isi (by rfl) T.m_isinstance (by decide +kernel) (pa_cons (pv 0) (pa_cons (pe_bltn (v := .ty "int") (by rfl) T.m_int (by decide +kernel) rfl) pa_nil))) (pe_one (pe_not (pe_callB call_isi (by rfl) T.m_isinstance (by decide +kernel) (pa_cons (pv 0) (pa_cons (pe_bltn (v := .ty "bool") (by rfl) T.m_bool (by decide +kernel) rfl) pa_nil)))))))), enter h fun F xs cs post hE hw => ?_⟩)
  obtain ⟨d, rfl, rfl, hp, q⟩ := hw
  cases d <;> first
    | (exact Bool.noConfusion (show false = true by simpa [pl] using hp))
    | (walk_at "D"; exact fin_dat rfl q)
def wRuleD : PW0 := fun xs cs post _ => ∃ s : List D, xs = [.cel 0] ∧ cs = [.lst s] ∧ IsW s ∧ ∀ (r : Ru) s', r.ok → IsW s' → post (.dat r.told) [.lst s']
theorem ok_l_rule (T : TxtP P K mg) : FnOk P w K mg base CX0 2 T.a_l_rule T.d_l_rule ["_law_well_here"] (spG K wRuleD) := by
  refine T.F_l_rule.ok sc_l_rule (fun vs H Q E h => spG_len h fun xs cs post exc ⟨a, e, _⟩ => by rw [e]; rfl) (fun cdv A outer s H vs Q E hr h => ⟨_, (pss_cons (ps_set (i := 1) sc_l_rule.nd rfl (Or.inl rfl) (pe_call (ok_l_draw T) (hr.mono (by decide)) (by rfl) T.g_l_draw T.F_l_draw.kp T.b_l_draw .nil pass0 (pa_cons (pv 0) (pa_cons pe_int pa_nil))))
      (pss_cons (ps_if (pt_cmpR op_eq (pv 1) pe_int (nomark _)) (pss_one (ps_ret (pe_tup (pa_cons pe_str (pa_cons (pe_call (ok_l_draw T) (hr.mono (by decide)) (by rfl) T.g_l_draw T.F_l_draw.kp T.b_l_draw .nil pass0 (pa_cons (pv 0) (pa_cons pe_int pa_nil))) pa_nil))))) pss_nil)
      (pss_cons (ps_set (i := 2) sc_l_rule.nd rfl (Or.inl rfl) (pe_op op_add pe_int (pe_call (ok_l_draw T) (hr.mono (by decide)) (by rfl) T.g_l_draw T.F_l_draw.kp T.b_l_draw .nil pass0 (pa_cons (pv 0) (pa_cons pe_int pa_nil)))))
      (pss_cons (ps_set (i := 3) sc_l_rule.nd rfl (Or.inl rfl) (pe_call (ok_l_draw T) (hr.mono (by decide)) (by rfl) T.g_l_draw T.F_l_draw.kp T.b_l_draw .nil pass0 (pa_cons (pv 0) (pa_cons pe_int pa_nil))))
      (pss_cons (ps_if (pt_cmpR op_eq (pv 1) pe_int (nomark _)) (pss_one (ps_ret (pe_tup (pa_cons pe_str (pa_cons (pv 2) (pa_cons (pv 3) (pa_cons (pe_call (ok_l_draw T) (hr.mono (by decide)) (by rfl) T.g_l_draw T.F_l_draw.kp T.b_l_draw .nil pass0 (pa_cons (pv 0) (pa_cons pe_int pa_nil))) pa_nil))))))) pss_nil)
      (pss_one (ps_ret (pe_tup (pa_cons pe_str (pa_cons (pv 2) (pa_cons (pv 3) (pa_cons (pe_op op_add pe_int (pe_call (ok_l_draw T) (hr.mono (by decide)) (by rfl) T.g_l_draw T.F_l_draw.kp T.b_l_draw .nil pass0 (pa_cons (pv 0) (pa_cons pe_int pa_nil)))) (pa_cons (pe_call (ok_l_draw T) (hr.mono (by decide)) (by rfl) T.g_l_draw T.F_l_draw.kp T.b_l_draw .nil pass0 (pa_cons (pv 0) (pa_cons pe_int pa_nil))) pa_nil))))))))))))), enter h fun F xs cs post hE hw => ?_⟩)
  obtain ⟨st, rfl, rfl, hs, q⟩ := hw
  walk_at "D"
  refine wsp_draw (j := 0) rfl hs (by decide) (by decide) fun a s1 a0 a1 hs1 => ?_
  walk_at "D"
  refine ifC (fun c => ?_) (fun c => ?_)
  · walk_at "D"
    refine wsp_draw (j := 0) rfl hs1 (by decide) (by decide) fun v s2 v0 v1 hs2 => ?_
    walk_at "D"
    exact fin_dat rfl (q (.plain v) _ ⟨v0, by omega⟩ hs2)
  · walk_at "D"
    refine wsp_draw (j := 0) rfl hs1 (by decide) (by decide) fun b s2 b0 b1 hs2 => ?_
    walk_at "D"
    refine wsp_draw (j := 0) rfl hs2 (by decide) (by decide) fun c s3 c0 c1 hs3 => ?_
    walk_at "D"
    refine ifC (fun cc => ?_) (fun cc => ?_)
    · walk_at "D"
      refine wsp_draw (j := 0) rfl hs3 (by decide) (by decide) fun d s4 d0 d1 hs4 => ?_
      walk_at "D"
      exact fin_dat rfl (q (.moved (1 + b) c d) _ ⟨⟨by omega, by omega⟩, ⟨c0, by omega⟩, ⟨d0, by omega⟩⟩ hs4)
    · walk_at "D"
      refine wsp_draw (j := 0) rfl hs3 (by decide) (by decide) fun d s4 d0 d1 hs4 => ?_
      walk_at "D"
      refine wsp_draw (j := 0) rfl hs4 (by decide) (by decide) fun e s5 e0 e1 hs5 => ?_
      walk_at "D"
      exact fin_dat rfl (q (.mixed (1 + b) c (1 + d) e) _ ⟨⟨by omega, by omega⟩, ⟨c0, by omega⟩, ⟨by omega, by omega⟩, ⟨e0, by omega⟩⟩ hs5)
mutual
/-- no tuple within has more than so many parts -/
def lnD (m : Nat) : D → Bool
  | .tup ds => decide (ds.length ≤ m) && lnDs m ds
  | _ => true
def lnDs (m : Nat) : List D → Bool
  | [] => true
  | d :: ds => lnD m d && lnDs m ds
end
mutual
theorem lnD_up {m : Nat} : ∀ d : D, lnD m d = true → lnD (m + 1) d = true
  | .tup ds, h => by
    rw [lnD, Bool.and_eq_true, decide_eq_true_eq] at h ⊢
    exact ⟨by omega, lnDs_up ds h.2⟩
  | .non, _ => rfl
  | .bl _, _ => rfl
  | .int _, _ => rfl
  | .str _, _ => rfl
  | .lst _, _ => rfl
  | .scr _, _ => rfl
  | .obj _ _ _, _ => rfl
  | .dic, _ => rfl
  | .ty _, _ => rfl
  | .cls _, _ => rfl
theorem lnDs_up {m : Nat} : ∀ ds : List D, lnDs m ds = true → lnDs (m + 1) ds = true
  | [], _ => rfl
  | d :: ds, h => by
    rw [lnDs, Bool.and_eq_true] at h ⊢
    exact ⟨lnD_up d h.1, lnDs_up ds h.2⟩
end
theorem lnDs_ints {m : Nat} (vs : List Int) : lnDs m (vs.map .int) = true := by induction vs with | nil => rfl | cons v vs ih => exact ih
theorem lnDs_rus (rs : List Ru) : lnDs 17 (rs.map Ru.told) = true := by
  induction rs with
  | nil => rfl
  | cons r rs ih => show (lnD 17 r.told && lnDs 17 (rs.map Ru.told)) = true; rw [ih, show lnD 17 r.told = true from by cases r <;> rfl]; rfl
/-- things of plain parts that == may look at -/
def Row (n : Nat) (r : List D) : Prop := pls r = true ∧ fines n r = true ∧ lnDs 17 r = true
theorem fstr {n : Nat} {k : Str} (h : PyData.strOk k = true) : fine n (.str k) = true := by cases n <;> (rw [fine]; exact h)
theorem so_plain : PyData.strOk "plain" = true := by decide +kernel
theorem so_moved : PyData.strOk "moved" = true := by decide +kernel
theorem so_mixed : PyData.strOk "mixed" = true := by decide +kernel
theorem so_full : PyData.strOk "full" = true := by decide +kernel
theorem so_still : PyData.strOk "still" = true := by decide +kernel
theorem so_woven : PyData.strOk "woven" = true := by decide +kernel
theorem so_Full : PyData.strOk "Full" = true := by decide +kernel
theorem so_7 : PyData.strOk "7" = true := by decide +kernel
theorem so_nil : PyData.strOk "" = true := by decide +kernel
theorem fine_told (n : Nat) (r : Ru) : fine (n + 1) r.told = true := by
  cases r with
  | plain v => show (fine n (.str "plain") && fines n [.int v]) = true; rw [fstr so_plain]; cases n <;> rfl
  | moved b c a => show (fine n (.str "moved") && fines n [.int b, .int c, .int a]) = true; rw [fstr so_moved]; cases n <;> rfl
  | mixed b c b2 c2 => show (fine n (.str "mixed") && fines n [.int b, .int c, .int b2, .int c2]) = true; rw [fstr so_mixed]; cases n <;> rfl
theorem fines_ints {n : Nat} (vs : List Int) : fines n (vs.map .int) = true := by induction vs with | nil => cases n <;> rfl | cons v vs ih => cases n <;> exact ih
theorem fines_rus (n : Nat) (rs : List Ru) : fines (n + 1) (rs.map Ru.told) = true := by
  induction rs with
  | nil => rfl
  | cons r rs ih => show (fine (n + 1) r.told && fines (n + 1) (rs.map Ru.told)) = true; rw [ih, fine_told n r]; rfl
def wLeafG : PW0 := fun xs cs post _ => ∃ s : List D, xs = [.cel 0] ∧ cs = [.lst s] ∧ IsW s ∧ ∀ (r : List D) s', Row 2 r → r.length = 4 → IsW s' → post (.dat (.tup r)) [.lst s']
theorem ok_l_leaf (T : TxtP P K mg) : FnOk P w K mg base CX0 3 T.a_l_leaf T.d_l_leaf ["_law_well_here"] (spG K wLeafG) := by
  refine T.F_l_leaf.ok sc_l_leaf (fun vs H Q E h => spG_len h fun xs cs post exc ⟨a, e, _⟩ => by rw [e]; rfl) (fun cdv A outer s H vs Q E hr h => ⟨_, (pss_cons (ps_set (i := 1) sc_l_leaf.nd rfl (Or.inl rfl) (pe_call (ok_l_draw T) (hr.mono (by decide)) (by rfl) T.g_l_draw T.F_l_draw.kp T.b_l_draw .nil pass0 (pa_cons (pv 0) (pa_cons pe_int pa_nil))))
      (pss_cons (ps_set (i := 2) sc_l_leaf.nd rfl (Or.inl rfl) (pe_op op_add pe_int (pe_call (ok_l_draw T) (hr.mono (by decide)) (by rfl) T.g_l_draw T.F_l_draw.kp T.b_l_draw .nil pass0 (pa_cons (pv 0) (pa_cons pe_int pa_nil)))))
      (pss_cons (ps_if (pt_cmpR op_eq (pe_call (ok_l_draw T) (hr.mono (by decide)) (by rfl) T.g_l_draw T.F_l_draw.kp T.b_l_draw .nil pass0 (pa_cons (pv 0) (pa_cons pe_int pa_nil))) pe_int (nomark _)) (pss_one (ps_set (i := 2) sc_l_leaf.nd rfl (Or.inl rfl) pe_int)) pss_nil)
      (pss_cons (ps_set (i := 3) sc_l_leaf.nd rfl (Or.inl rfl) (pe_call (ok_l_draw T) (hr.mono (by decide)) (by rfl) T.g_l_draw T.F_l_draw.kp T.b_l_draw .nil pass0 (pa_cons (pv 0) (pa_cons (pe_op op_add (pe_op op_pow pe_int pe_int) pe_int) pa_nil))))
      (pss_cons (ps_set (i := 4) sc_l_leaf.nd rfl (Or.inl rfl) (pe_op op_add pe_int (pe_call (ok_l_draw T) (hr.mono (by decide)) (by rfl) T.g_l_draw T.F_l_draw.kp T.b_l_draw .nil pass0 (pa_cons (pv 0) (pa_cons (pe_op op_pow pe_int pe_int) pa_nil)))))
      (pss_cons (ps_if (pt_cmpR op_eq (pv 1) pe_int (nomark _)) (pss_one (ps_ret (pe_tup (pa_cons pe_str (pa_cons (pv 3) (pa_cons (pv 4) (pa_cons (pe_callTy call_tuple_of (by rfl) T.m_tuple (by decide +kernel) (pa_cons (pe_lc (own := [("_law_k", 5)]) (g := gName 5) (tt := tYes) (by rfl) sc_l_leaf.nd (pi_range1 (by rfl) T.m_range (pa_cons (pv 2) pa_nil)) (blkOk_by (own := [("_law_k", 5)]) (N := N_l_leaf) (sc := defScope s_l_leaf) (by decide +kernel)) (fun _ _ _ _ _ => (pg_name (i := 5) sc_l_leaf.nd rfl (Or.inl rfl))) (fun _ _ _ _ _ => pts_nil) (fun _ _ _ _ _ => (pe_call (ok_l_draw T) (hr.mono (by decide)) (by rfl) T.g_l_draw T.F_l_draw.kp T.b_l_draw .nil pass0 (pa_cons (pv 0) (pa_cons pe_int pa_nil))))) pa_nil)) pa_nil))))))) pss_nil)
      (pss_cons (ps_if (pt_cmpR op_eq (pv 1) pe_int (nomark _)) (pss_one (ps_ret (pe_tup (pa_cons pe_str (pa_cons (pv 3) (pa_cons (pv 4) (pa_cons (pe_op op_add pe_int (pe_call (ok_l_draw T) (hr.mono (by decide)) (by rfl) T.g_l_draw T.F_l_draw.kp T.b_l_draw .nil pass0 (pa_cons (pv 0) (pa_cons pe_int pa_nil)))) pa_nil))))))) pss_nil)
      (pss_one (ps_ret (pe_tup (pa_cons pe_str (pa_cons (pv 3) (pa_cons (pv 4) (pa_cons (pe_callTy call_tuple_of (by rfl) T.m_tuple (by decide +kernel) (pa_cons (pe_lc (own := [("_law_k", 5)]) (g := gName 5) (tt := tYes) (by rfl) sc_l_leaf.nd (pi_range1 (by rfl) T.m_range (pa_cons (pv 2) pa_nil)) (blkOk_by (own := [("_law_k", 5)]) (N := N_l_leaf) (sc := defScope s_l_leaf) (by decide +kernel)) (fun _ _ _ _ _ => (pg_name (i := 5) sc_l_leaf.nd rfl (Or.inl rfl))) (fun _ _ _ _ _ => pts_nil) (fun _ _ _ _ _ => (pe_call (ok_l_rule T) (hr.mono (by decide)) (by rfl) T.g_l_rule T.F_l_rule.kp T.b_l_rule .nil pass0 (pa_cons (pv 0) pa_nil)))) pa_nil)) pa_nil)))))))))))))), enter h fun F xs cs post hE hw => ?_⟩)
  obtain ⟨st, rfl, rfl, hs, q⟩ := hw
  have rowF : ∀ (b s : Int) (vs : List Int), vs.length ≤ 17 → Row 2 [.str "full", .int b, .int s, .tup (vs.map .int)] := fun b s vs hl => ⟨by show (true && (true && (true && (pls (vs.map .int) && true)))) = true; rw [pls_ints]; rfl, by show (fine 2 (.str "full") && (true && (true && (fines 1 (vs.map .int) && true)))) = true; rw [fstr so_full, fines_ints]; rfl, by show (decide ((vs.map D.int).length ≤ 17) && lnDs 17 (vs.map .int) && true) = true; rw [lnDs_ints, List.length_map, decide_eq_true hl]; rfl⟩
  have rowS : ∀ (b s k : Int), Row 2 [.str "still", .int b, .int s, .int k] := fun b s k => ⟨rfl, by show (fine 2 (.str "still") && true) = true; rw [fstr so_still]; rfl, rfl⟩
  have rowW : ∀ (b s : Int) (rs : List Ru), rs.length ≤ 17 → Row 2 [.str "woven", .int b, .int s, .tup (rs.map Ru.told)] := fun b s rs hl => ⟨by show (true && (true && (true && (pls (rs.map Ru.told) && true)))) = true; rw [pls_rus]; rfl, by show (fine 2 (.str "woven") && (true && (true && (fines 1 (rs.map Ru.told) && true)))) = true; rw [fstr so_woven, fines_rus]; rfl, by show (decide ((rs.map Ru.told).length ≤ 17) && lnDs 17 (rs.map Ru.told) && true) = true; rw [lnDs_rus, List.length_map, decide_eq_true hl]; rfl⟩
  walk_at "D"
  refine wsp_draw (j := 0) rfl hs (by decide) (by decide) fun a s1 a0 a1 hs1 => ?_
  walk_at "D"
  refine wsp_draw (j := 0) rfl hs1 (by decide) (by decide) fun wi s2 w0 w1 hs2 => ?_
  walk_at "D"
  refine wsp_draw (j := 0) rfl hs2 (by decide) (by decide) fun g s3 g0 g1 hs3 => ?_
  walk_at "D"
  refine ifC (fun _ => ?_) (fun _ => ?_)
  all_goals
    walk_at "D"
    refine wr_Ii ⟨by decide, by decide, by decide⟩ ?_
    rw [show (10 : Int) ^ (9 : Int).toNat = 1000000000 from by decide]
    walk_at "D"
    refine wsp_draw (j := 0) rfl hs3 (by decide) (by decide) fun b s4 b0 b1 hs4 => ?_
    walk_at "D"
    refine wr_Ii ⟨by decide, by decide, by decide⟩ ?_
    rw [show (10 : Int) ^ (9 : Int).toNat = 1000000000 from by decide]
    walk_at "D"
    refine wsp_draw (j := 0) rfl hs4 (by decide) (by decide) fun sp s5 p0 p1 hs5 => ?_
    walk_at "D"
    refine ifC (fun _ => ?_) (fun _ => ?_)
    · walk_at "D"
      refine ⟨by omega, ?_⟩
      walk_at "nr4"
      refine loopC_rng (fun i ρ => ∃ (vs : List Int) (s : List D) (W : Int), IsW s ∧ vs.length = i ∧ ρ = ⟨[some (.cel 0), some (.dat (.int a)), some (.dat (.int W)), some (.dat (.int b)), some (.dat (.int (1 + sp))), none], [.lst s, .lst (vs.map .int)]⟩) ⟨[], s5, _, hs5, rfl, rfl⟩ ?_ ?_
      · rintro ρ ⟨vs, s, W, hs, hl, rfl⟩
        refine ⟨trivial, ?_⟩
        walk_at "D"
        exact fin_dat rfl (q _ _ (rowF b (1 + sp) vs (by omega)) rfl hs)
      · rintro i ρ hi ⟨vs, s, W, hs, hl, rfl⟩
        refine ⟨trivial, ?_⟩
        walk_at "D"
        refine wsp_draw (j := 0) rfl hs (by decide) (by decide) fun v s' v0 v1 hs' => ?_
        walk_at "D"
        · rw [List.length_map]; omega
        exact now ⟨vs ++ [v], s', W, hs', by rw [List.length_append, hl]; rfl, by rw [List.map_append]; rfl⟩
    · walk_at "D"
      refine ifC (fun _ => ?_) (fun _ => ?_)
      · walk_at "D"
        refine wsp_draw (j := 0) rfl hs5 (by decide) (by decide) fun k s6 k0 k1 hs6 => ?_
        walk_at "D"
        exact fin_dat rfl (q _ _ (rowS b (1 + sp) (1 + k)) rfl hs6)
      · walk_at "D"
        refine ⟨by omega, ?_⟩
        walk_at "nr4"
        refine loopC_rng (fun i ρ => ∃ (rs : List Ru) (s : List D) (W : Int), IsW s ∧ rs.length = i ∧ ρ = ⟨[some (.cel 0), some (.dat (.int a)), some (.dat (.int W)), some (.dat (.int b)), some (.dat (.int (1 + sp))), none], [.lst s, .lst (rs.map Ru.told)]⟩) ⟨[], s5, _, hs5, rfl, rfl⟩ ?_ ?_
        · rintro ρ ⟨rs, s, W, hs, hl, rfl⟩
          refine ⟨trivial, ?_⟩
          walk_at "D"
          exact fin_dat rfl (q _ _ (rowW b (1 + sp) rs (by omega)) rfl hs)
        · rintro i ρ hi ⟨rs, s, W, hs, hl, rfl⟩
          refine ⟨trivial, ?_⟩
          walk_at "D"
          refine wsp1 (j := 0) rfl rfl rfl ⟨s, rfl, rfl, hs, fun r s' hr hs' => ⟨.lst s', rfl, rfl, ?_⟩⟩
          walk_at "D"
          · rw [List.length_map]; omega
          exact now ⟨rs ++ [r], s', W, hs', by rw [List.length_append, hl]; rfl, by rw [List.map_append]; rfl⟩
theorem all_cons {p : D → Prop} {a : D} {l : List D} (h : p a) (k : ∀ d ∈ l, p d) : ∀ d ∈ a :: l, p d := fun d m => by
  rcases List.mem_cons.mp m with rfl | m
  · exact h
  · exact k d m
theorem all_nil {p : D → Prop} : ∀ d ∈ ([] : List D), p d := fun _ m => nomatch m
/-- a part that is put in -/
def Pt (n : Nat) (d : D) : Prop := pl d = true ∧ fine n d = true ∧ lnD 4 d = true
def wOddNum : PW0 := fun xs cs post _ => ∃ s : List D, xs = [.cel 0] ∧ cs = [.lst s] ∧ IsW s ∧ ∀ d s', Pt 1 d → IsW s' → post (.dat d) [.lst s']
theorem ok_l_odd_number (T : TxtP P K mg) : FnOk P w K mg base CX0 2 T.a_l_odd_number T.d_l_odd_number ["_law_well_here"] (spG K wOddNum) := by
  refine T.F_l_odd_number.ok sc_l_odd_number (fun vs H Q E h => spG_len h fun xs cs post exc ⟨a, e, _⟩ => by rw [e]; rfl) (fun cdv A outer s H vs Q E hr h => ⟨_, (pss_cons (ps_set (i := 1) sc_l_odd_number.nd rfl (Or.inl rfl) (pe_call (ok_l_draw T) (hr.mono (by decide)) (by rfl) T.g_l_draw T.F_l_draw.kp T.b_l_draw .nil pass0 (pa_cons (pv 0) (pa_cons pe_int pa_nil))))
      (pss_cons (ps_set (i := 2) sc_l_odd_number.nd rfl (Or.inl rfl) (pe_lst (pa_cons (pe_un un_neg pe_int) (pa_cons pe_int (pa_cons pe_int (pa_cons pe_int (pa_cons pe_int (pa_cons pe_int (pa_cons pe_int (pa_cons pe_bl (pa_cons pe_bl (pa_cons pe_non (pa_cons pe_str (pa_cons (pe_tup (pa_cons pe_int pa_nil)) (pa_cons (pe_op op_pow pe_int pe_int) (pa_cons (pe_op op_add (pe_op op_pow pe_int pe_int) pe_int) (pa_cons pe_int pa_nil)))))))))))))))))
      (pss_cons (ps_if (pt_cmpR op_lt (pv 1) pe_int (nomark _)) (pss_one (ps_ret (pe_ix ix_list (pv 2) (pv 1) (fun _ _ => rfl)))) pss_nil)
      (pss_one (ps_ret (pe_op op_add pe_int (pe_call (ok_l_draw T) (hr.mono (by decide)) (by rfl) T.g_l_draw T.F_l_draw.kp T.b_l_draw .nil pass0 (pa_cons (pv 0) (pa_cons (pe_op op_mul pe_int (pe_op op_pow pe_int pe_int)) pa_nil))))))))), enter h fun F xs cs post hE hw => ?_⟩)
  obtain ⟨st, rfl, rfl, hs, q⟩ := hw
  walk_at "D"
  refine wsp_draw (j := 0) rfl hs (by decide) (by decide) fun a s1 a0 a1 hs1 => ?_
  walk_at "D"
  refine wr_Ii ⟨by decide, by decide, by decide⟩ ?_
  walk_at "D"
  refine wr_Ii ⟨by decide, by decide, by decide⟩ ?_
  walk_at "D"
  walk_at "nr4"
  refine ifC (fun c => ?_) (fun c => ?_)
  · have c := of_decide_eq_true c
    walk_at "D"
    refine wr_ixA (.cel rfl) a0 (show a < 15 from c) fun x m => ?_
    refine fin_dat rfl (q x _ ?_ hs1)
    exact all_cons (p := Pt 1) ⟨rfl, rfl, rfl⟩ (all_cons ⟨rfl, rfl, rfl⟩ (all_cons ⟨rfl, rfl, rfl⟩ (all_cons ⟨rfl, rfl, rfl⟩ (all_cons ⟨rfl, rfl, rfl⟩ (all_cons ⟨rfl, rfl, rfl⟩ (all_cons ⟨rfl, rfl, rfl⟩ (all_cons ⟨rfl, rfl, rfl⟩ (all_cons ⟨rfl, rfl, rfl⟩ (all_cons ⟨rfl, rfl, rfl⟩ (all_cons ⟨rfl, fstr so_7, rfl⟩ (all_cons ⟨rfl, rfl, rfl⟩ (all_cons ⟨rfl, rfl, rfl⟩ (all_cons ⟨rfl, rfl, rfl⟩ (all_cons ⟨rfl, rfl, rfl⟩ all_nil)))))))))))))) x m
  · walk_at "D"
    refine wr_Ii ⟨by decide, by decide, by decide⟩ ?_
    rw [show (10 : Int) ^ (9 : Int).toNat = 1000000000 from by decide]
    walk_at "D"
    refine wr_Ii (.inl (by decide)) ?_
    walk_at "D"
    refine wsp_draw (j := 0) rfl hs1 (by decide) (by decide) fun b s2 b0 b1 hs2 => ?_
    walk_at "D"
    exact fin_dat rfl (q _ _ ⟨rfl, rfl, rfl⟩ hs2)
def wOddPart : PW0 := fun xs cs post _ => ∃ s : List D, xs = [.cel 0] ∧ cs = [.lst s] ∧ IsW s ∧ ∀ d s', Pt 2 d → IsW s' → post (.dat d) [.lst s']
mutual
theorem fine_up : ∀ (n : Nat) (d : D), fine n d = true → fine (n + 1) d = true
  | _, .non, _ => rfl
  | _, .bl _, _ => rfl
  | _, .int _, _ => rfl
  | n, .str x, h => fstr (by cases n <;> (rw [fine] at h; exact h))
  | n + 1, .tup ds, h => by rw [fine] at h ⊢; exact fines_up n ds h
  | n + 1, .lst ds, h => by rw [fine] at h ⊢; exact fines_up n ds h
  | n + 1, .scr ds, h => by rw [fine] at h ⊢; exact fines_up n ds h
  | 0, .tup _, h => by simp [fine] at h
  | 0, .lst _, h => by simp [fine] at h
  | 0, .scr _, h => by simp [fine] at h
  | n, .obj _ _ _, h => by cases n <;> simp [fine] at h
  | n, .dic, h => by cases n <;> simp [fine] at h
  | n, .ty _, h => by cases n <;> simp [fine] at h
  | n, .cls _, h => by cases n <;> simp [fine] at h
theorem fines_up : ∀ (n : Nat) (ds : List D), fines n ds = true → fines (n + 1) ds = true
  | _, [], _ => rfl
  | n, d :: ds, h => by
    have h' : fine n d = true ∧ fines n ds = true := by cases n <;> (rw [fines, Bool.and_eq_true] at h; exact h)
    show (fine (n + 1) d && fines (n + 1) ds) = true
    rw [fine_up n d h'.1, fines_up n ds h'.2]; rfl
end
theorem Pt.up {n : Nat} {d : D} (h : Pt n d) : Pt (n + 1) d := ⟨h.1, fine_up n d h.2.1, h.2.2⟩
theorem ok_l_odd_part (T : TxtP P K mg) : FnOk P w K mg base CX0 3 T.a_l_odd_part T.d_l_odd_part ["_law_well_here"] (spG K wOddPart) := by
  refine T.F_l_odd_part.ok sc_l_odd_part (fun vs H Q E h => spG_len h fun xs cs post exc ⟨a, e, _⟩ => by rw [e]; rfl) (fun cdv A outer s H vs Q E hr h => ⟨_, (pss_cons (ps_set (i := 1) sc_l_odd_part.nd rfl (Or.inl rfl) (pe_call (ok_l_draw T) (hr.mono (by decide)) (by rfl) T.g_l_draw T.F_l_draw.kp T.b_l_draw .nil pass0 (pa_cons (pv 0) (pa_cons pe_int pa_nil))))
      (pss_cons (ps_set (i := 2) sc_l_odd_part.nd rfl (Or.inl rfl) (pe_lst (pa_cons pe_str (pa_cons pe_str (pa_cons pe_str (pa_cons pe_str (pa_cons (pe_tup pa_nil) (pa_cons (pe_lst (pa_cons pe_int pa_nil)) (pa_cons (pe_tup (pa_cons pe_str (pa_cons pe_int pa_nil))) (pa_cons (pe_tup (pa_cons (pe_tup (pa_cons pe_str (pa_cons pe_int pa_nil))) pa_nil)) (pa_cons (pe_tup (pa_cons pe_str (pa_cons pe_int (pa_cons pe_int (pa_cons pe_int pa_nil))))) pa_nil)))))))))))
      (pss_cons (ps_if (pt_cmpR op_lt (pv 1) pe_int (nomark _)) (pss_one (ps_ret (pe_ix ix_list (pv 2) (pv 1) (fun _ _ => rfl)))) pss_nil)
      (pss_one (ps_ret (pe_call (ok_l_odd_number T) (hr.mono (by decide)) (by rfl) T.g_l_odd_number T.F_l_odd_number.kp T.b_l_odd_number .nil pass0 (pa_cons (pv 0) pa_nil))))))), enter h fun F xs cs post hE hw => ?_⟩)
  obtain ⟨st, rfl, rfl, hs, q⟩ := hw
  walk_at "D"
  refine wsp_draw (j := 0) rfl hs (by decide) (by decide) fun a s1 a0 a1 hs1 => ?_
  walk_at "D"
  walk_at "nr4"
  walk_at "D"
  refine ifC (fun c => ?_) (fun c => ?_)
  · have c := of_decide_eq_true c
    walk_at "D"
    have pp : ∀ ds : List D, fines 1 ds = true → pls ds = true → lnD 4 (.tup ds) = true → Pt 2 (.tup ds) := fun ds h k l => ⟨by rw [pl]; exact k, by rw [fine]; exact h, l⟩
    refine wr_ixA (.cel rfl) a0 (show a < 9 from c) fun x m => ?_
    refine fin_dat rfl (q x _ ?_ hs1)
    exact all_cons (p := Pt 2) ⟨rfl, fstr so_full, rfl⟩ (all_cons ⟨rfl, fstr so_still, rfl⟩ (all_cons ⟨rfl, fstr so_woven, rfl⟩ (all_cons ⟨rfl, fstr so_Full, rfl⟩ (all_cons ⟨rfl, rfl, rfl⟩ (all_cons ⟨rfl, rfl, rfl⟩ (all_cons (pp _ (by show (fine 1 (.str "plain") && true) = true; rw [fstr so_plain]; rfl) rfl rfl) (all_cons (pp _ (by show (fine 1 (Ru.told (.plain 7)) && true) = true; rw [fine_told]; rfl) rfl rfl) (all_cons (pp _ (by show (fine 1 (.str "moved") && true) = true; rw [fstr so_moved]; rfl) rfl rfl) all_nil)))))))) x m
  · walk_at "D"
    refine wsp1 (j := 0) rfl rfl rfl ⟨s1, rfl, rfl, hs1, fun d s' hd hs' => ⟨.lst s', rfl, rfl, ?_⟩⟩
    exact fin_dat rfl (q _ _ hd.up hs')
end

section
variable {P : Program} {w : World} {K : PySem.W.Frag} {mg : Str → Option Value} {base : Heap}
/-- a part: plain, not too deep, not too long -/
def Pa (n m : Nat) (d : D) : Prop := pl d = true ∧ fine n d = true ∧ lnD m d = true
theorem Pa.up {n m : Nat} {d : D} (h : Pa n m d) : Pa (n + 1) m d := ⟨h.1, fine_up n d h.2.1, h.2.2⟩
theorem Pa.upm {n m : Nat} {d : D} (h : Pa n m d) : Pa n (m + 1) d := ⟨h.1, h.2.1, lnD_up d h.2.2⟩
theorem Pa.to {n m : Nat} {d : D} (h : Pa n m d) : ∀ k, Pa (n + k) m d
  | 0 => h
  | k + 1 => (h.to k).up
theorem pa_row {n m : Nat} {r : List D} (h : Pa (n + 1) m (.tup r)) : (∀ x ∈ r, Pa n m x) ∧ r.length ≤ m := by
  obtain ⟨h1, h2, h3⟩ := h
  rw [pl] at h1
  rw [fine] at h2
  rw [lnD, Bool.and_eq_true, decide_eq_true_eq] at h3
  obtain ⟨hl, h3⟩ := h3
  refine ⟨?_, hl⟩
  clear hl
  induction r with
  | nil => exact fun _ m => nomatch m
  | cons x r ih =>
    obtain ⟨a1, b1⟩ := pls_cons h1
    have h2' : fine n x = true ∧ fines n r = true := by cases n <;> (rw [fines, Bool.and_eq_true] at h2; exact h2)
    rw [lnDs, Bool.and_eq_true] at h3
    intro y my
    rcases List.mem_cons.mp my with rfl | my
    · exact ⟨a1, h2'.1, h3.1⟩
    · exact ih b1 h2'.2 h3.2 y my
theorem row_pa {n m : Nat} {r : List D} (h : ∀ x ∈ r, Pa n m x) (hl : r.length ≤ m) : Pa (n + 1) m (.tup r) := by
  have main : pls r = true ∧ fines n r = true ∧ lnDs m r = true := by
    clear hl
    induction r with
    | nil => exact ⟨rfl, by cases n <;> rfl, rfl⟩
    | cons x r ih =>
      obtain ⟨a, b, c⟩ := h x List.mem_cons_self
      obtain ⟨a2, b2, c2⟩ := ih fun y my => h y (List.mem_cons_of_mem _ my)
      refine ⟨?_, ?_, ?_⟩
      · show (pl x && pls r) = true; rw [a, a2]; rfl
      · have : (fine n x && fines n r) = true := by rw [b, b2]; rfl
        cases n <;> exact this
      · show (lnD m x && lnDs m r) = true; rw [c, c2]; rfl
  refine ⟨by rw [pl]; exact main.1, by rw [fine]; exact main.2.1, ?_⟩
  rw [lnD, main.2.2, decide_eq_true hl]; rfl
theorem lnD_le {a : Nat} {d : D} (h : lnD a d = true) : ∀ k, lnD (a + k) d = true
  | 0 => h
  | k + 1 => lnD_up d (lnD_le h k)
theorem pt_pa {n m : Nat} {d : D} (h : Pt n d) (k : Nat) (hm : 4 ≤ m) : Pa (n + k) m d := by
  have h0 : Pa n m d := ⟨h.1, h.2.1, by have := lnD_le h.2.2 (m - 4); rwa [show 4 + (m - 4) = m by omega] at this⟩
  exact h0.to k
theorem pa_lst {n m : Nat} {es : List D} (h : Pa n m (.tup es)) : Pa n m (.lst es) := by
  obtain ⟨h1, h2, _⟩ := h
  refine ⟨(show pls es = true from h1), ?_, rfl⟩
  cases n with
  | zero => simp [fine] at h2
  | succ n => exact (show fines n es = true from h2)
theorem cutT_hi {r : List D} {i : Nat} (h : i ≤ r.length) : cutD r none (some (i : Int)) = r.take i := by
  unfold cutD
  rw [HT.sIx_nat, HT.sIx_none, Nat.min_eq_left h]
  rfl
theorem cutT_lo {r : List D} {i : Nat} (h : i ≤ r.length) : cutD r (some (i : Int)) none = r.drop i := by
  unfold cutD
  rw [HT.sIx_nat, HT.sIx_none, Nat.min_eq_left h]
  exact List.take_of_length_le (by rw [List.length_drop]; exact Nat.le_refl _)
theorem wr_ixTn {F : Fx} {ρ : En} {k : AV → En → Prop} {ds : List D} {n : Nat} (h : n < ds.length) (hk : k (.dat ds[n]) ρ) : WpR K F (rIxT K) (.dat (.tup ds)) (.dat (.int n)) ρ k :=
  wr_ixT (atI_nat (j := n) (v := ds[n]) (List.getElem?_eq_getElem h)) hk
/-- what was put together of parts -/
theorem put_ok {n m : Nat} {r : List D} {a b : Nat} {xs : List D} (h : ∀ x ∈ r, Pa n m x) (hl : r.length ≤ m) (hx : ∀ x ∈ xs, Pa (n + 2) (m + 1) x) (hn : (r.take a ++ xs ++ r.drop b).length ≤ m + 1) : Pa (n + 3) (m + 1) (.tup (r.take a ++ xs ++ r.drop b)) := by
  refine row_pa (fun x mx => ?_) hn
  rcases List.mem_append.mp mx with mx | mx
  · rcases List.mem_append.mp mx with mx | mx
    · exact ((h x (List.mem_of_mem_take mx)).to 2).upm
    · exact hx x mx
  · exact ((h x (List.mem_of_mem_drop mx)).to 2).upm
def wChg (n : Nat) : PW0 := fun xs cs post _ => ∃ (s : List D) (row : List D) (m : Nat), xs = [.cel 0, .dat (.tup row)] ∧ cs = [.lst s] ∧ IsW s ∧ Pa n m (.tup row) ∧ 4 ≤ m ∧ m ≤ 100 ∧ ∀ row' s', IsW s' → Pa (n + 2) (m + 1) (.tup row') → post (.dat (.tup row')) [.lst s']
theorem chg_step (T : TxtP P K mg) {lv n : Nat} (hlv : 3 ≤ lv) (hn50 : n ≤ 50) (ih : FnOk P w K mg base CX0 lv T.a_l_changed T.d_l_changed ["_law_well_here", "_law_row"] (spG K (wChg n))) : FnOk P w K mg base CX0 (lv + 1) T.a_l_changed T.d_l_changed ["_law_well_here", "_law_row"] (spG K (wChg (n + 1))) := by
  refine T.F_l_changed.ok sc_l_changed (fun vs H Q E h => spG_len h fun xs cs post exc ⟨a, b, c, e, _⟩ => by rw [e]; rfl) (fun cdv A outer s H vs Q E hr h => ⟨_, (pss_cons (ps_set (i := 2) sc_l_changed.nd rfl (Or.inl rfl) (pe_call (ok_l_draw T) (hr.mono (by omega)) (by rfl) T.g_l_draw T.F_l_draw.kp T.b_l_draw .nil pass0 (pa_cons (pv 0) (pa_cons pe_int pa_nil))))
      (pss_cons (ps_set (i := 3) sc_l_changed.nd rfl (Or.inl rfl) (pe_call (ok_l_draw T) (hr.mono (by omega)) (by rfl) T.g_l_draw T.F_l_draw.kp T.b_l_draw .nil pass0 (pa_cons (pv 0) (pa_cons pe_int pa_nil))))
      (pss_cons (ps_if (pt_cmpR op_eq (pv 2) pe_int (nomark _)) (pss_cons (ps_set (i := 4) sc_l_changed.nd rfl (Or.inl rfl) (pe_op op_mod (pv 3) (pe_op op_add (pe_callB call_len_seq (by rfl) T.m_len (by decide +kernel) (pa_cons (pv 1) pa_nil)) pe_int)))
      (pss_one (ps_ret (pe_op op_catA (pe_op op_catA (pe_slice sl_tupA (pv 1) po_none (po_some (pv 4))) (pe_tup (pa_cons (pe_call (ok_l_odd_number T) (hr.mono (by omega)) (by rfl) T.g_l_odd_number T.F_l_odd_number.kp T.b_l_odd_number .nil pass0 (pa_cons (pv 0) pa_nil)) pa_nil))) (pe_slice sl_tupA (pv 1) (po_some (pv 4)) po_none))))) pss_nil)
      (pss_cons (ps_if (pt_cmpR (op_eqD hr.units) (pv 1) (pe_tup pa_nil) (nomark _)) (pss_one (ps_ret (pe_tup (pa_cons (pe_tup pa_nil) pa_nil)))) pss_nil)
      (pss_cons (ps_set (i := 4) sc_l_changed.nd rfl (Or.inl rfl) (pe_op op_mod (pv 3) (pe_callB call_len_seq (by rfl) T.m_len (by decide +kernel) (pa_cons (pv 1) pa_nil))))
      (pss_cons (ps_if (pt_cmpR op_eq (pv 2) pe_int (nomark _)) (pss_one (ps_ret (pe_op op_catA (pe_slice sl_tupA (pv 1) po_none (po_some (pv 4))) (pe_slice sl_tupA (pv 1) (po_some (pe_op op_add (pv 4) pe_int)) po_none)))) pss_nil)
      (pss_cons (ps_if (pt_cmpR op_eq (pv 2) pe_int (nomark _)) (pss_one (ps_ret (pe_op op_catA (pe_op op_catA (pe_slice sl_tupA (pv 1) po_none (po_some (pv 4))) (pe_tup (pa_cons (pe_call (ok_l_odd_part T) (hr.mono (by omega)) (by rfl) T.g_l_odd_part T.F_l_odd_part.kp T.b_l_odd_part .nil pass0 (pa_cons (pv 0) pa_nil)) pa_nil))) (pe_slice sl_tupA (pv 1) (po_some (pe_op op_add (pv 4) pe_int)) po_none)))) pss_nil)
      (pss_cons (ps_if (pt_val (pe_callB call_isi (by rfl) T.m_isinstance (by decide +kernel) (pa_cons (pe_ix ix_tup (pv 1) (pv 4) (fun _ _ => rfl)) (pa_cons (pe_bltn (v := .ty "tuple") (by rfl) T.m_tuple (by decide +kernel) rfl) pa_nil)))) (pss_cons (ps_if (pt_cmpR op_eq (pv 2) pe_int (nomark _)) (pss_one (ps_ret (pe_op op_catA (pe_op op_catA (pe_slice sl_tupA (pv 1) po_none (po_some (pv 4))) (pe_tup (pa_cons (pe_callTy call_list_of (by rfl) T.m_list (by decide +kernel) (pa_cons (pe_ix ix_tup (pv 1) (pv 4) (fun _ _ => rfl)) pa_nil)) pa_nil))) (pe_slice sl_tupA (pv 1) (po_some (pe_op op_add (pv 4) pe_int)) po_none)))) pss_nil)
      (pss_one (ps_ret (pe_op op_catA (pe_op op_catA (pe_slice sl_tupA (pv 1) po_none (po_some (pv 4))) (pe_tup (pa_cons (pe_call ih (hr.mono (by omega)) (by rfl) T.g_l_changed T.F_l_changed.kp T.b_l_changed .nil pass0 (pa_cons (pv 0) (pa_cons (pe_ix ix_tup (pv 1) (pv 4) (fun _ _ => rfl)) pa_nil))) pa_nil))) (pe_slice sl_tupA (pv 1) (po_some (pe_op op_add (pv 4) pe_int)) po_none))))) pss_nil)
      (pss_one (ps_ret (pe_op op_catA (pe_op op_catA (pe_slice sl_tupA (pv 1) po_none (po_some (pv 4))) (pe_tup (pa_cons (pe_call (ok_l_odd_number T) (hr.mono (by omega)) (by rfl) T.g_l_odd_number T.F_l_odd_number.kp T.b_l_odd_number .nil pass0 (pa_cons (pv 0) pa_nil)) pa_nil))) (pe_slice sl_tupA (pv 1) (po_some (pe_op op_add (pv 4) pe_int)) po_none)))))))))))), enter h fun F xs cs post hE hw => ?_⟩)
  obtain ⟨st, row, m, rfl, rfl, hs, hrow, m3, m100, q⟩ := hw
  obtain ⟨hpa, hlen⟩ := pa_row hrow
  walk_at "D"
  refine wsp_draw (j := 0) rfl hs (by decide) (by decide) fun wy s1 w0 w1 hs1 => ?_
  walk_at "D"
  refine wsp_draw (j := 0) rfl hs1 (by decide) (by decide) fun pc s2 p0 p1 hs2 => ?_
  walk_at "D"
  walk_at "nr4"
  have hfn : fine (n + 1) (.tup row) = true := hrow.2.1
  have hrl : (row.length : Int) ≤ 100 := by omega
  refine ifC (fun c => ?_) (fun c => ?_)
  · walk_at "D"
    refine wr_Ii (show (0 : Int) < (row.length : Int) + 1 by omega) ?_
    have i0 := Int.emod_nonneg pc (show (row.length : Int) + 1 ≠ 0 by omega)
    have i1 := Int.emod_lt_of_pos pc (show (0 : Int) < (row.length : Int) + 1 by omega)
    generalize pc % ((row.length : Int) + 1) = a at *
    obtain ⟨i, rfl⟩ := Int.eq_ofNat_of_zero_le i0
    walk_at "D"
    refine we_slA ?_
    walk_at "D"
    rw [cutT_hi (by omega)]
    refine wsp1 (j := 0) rfl rfl rfl ⟨s2, rfl, rfl, hs2, fun d s3 hd hs3 => ⟨.lst s3, rfl, rfl, ?_⟩⟩
    walk_at "D"
    refine wr_catA (by rw [List.length_take, List.length_singleton]; omega) ?_
    refine we_slA ?_
    walk_at "D"
    rw [cutT_lo (by omega)]
    refine wr_catA (by rw [List.length_append, List.length_take, List.length_singleton, List.length_drop]; omega) ?_
    refine fin_dat rfl (q _ _ hs3 (put_ok hpa hlen (fun x mx => ?_) (by rw [List.length_append, List.length_append, List.length_take, List.length_singleton, List.length_drop]; omega)))
    rw [List.mem_singleton] at mx
    subst mx
    have := pt_pa (m := m + 1) hd (n + 1) (by omega)
    rwa [show 1 + (n + 1) = n + 2 by omega] at this
  · walk_at "D"
    refine wr_eqD (n + 1) (.dat _) (.dat _) hfn (by rw [fine]; cases n <;> rfl) (by omega) ?_
    cases row with
    | nil =>
      walk_at "D"
      refine fin_dat rfl (q [.tup []] _ hs2 (row_pa (fun x mx => ?_) (by show 1 ≤ m + 1; omega)))
      rw [List.mem_singleton] at mx
      subst mx
      exact ((row_pa (n := 0) (m := m + 1) (r := []) (fun _ z => nomatch z) (Nat.zero_le _)).to (n + 1) |> fun z => by rwa [show 0 + 1 + (n + 1) = n + 2 by omega] at z)
    | cons x0 r0 =>
      generalize hrr : x0 :: r0 = row at *
      have hr0 : 0 < row.length := by rw [← hrr]; exact Nat.succ_pos _
      refine ⟨_, rfl, ?_⟩
      refine ifF (by rw [← hrr]; rfl) ?_
      walk_at "D"
      refine wr_Ii (show (0 : Int) < (row.length : Int) by omega) ?_
      have i0 := Int.emod_nonneg pc (show (row.length : Int) ≠ 0 by omega)
      have i1 := Int.emod_lt_of_pos pc (show (0 : Int) < (row.length : Int) by omega)
      generalize pc % (row.length : Int) = a at *
      obtain ⟨i, rfl⟩ := Int.eq_ofNat_of_zero_le i0
      have hi : i < row.length := by omega
      have hi1 : ((i : Int) + 1) = ((i + 1 : Nat) : Int) := by omega
      have hpi : Pa n m row[i] := hpa _ (List.getElem_mem hi)
      -- one part put in another's place
      have one : ∀ {d : D} {s' : List D}, Pa (n + 2) (m + 1) d → IsW s' → post (.dat (.tup (row.take i ++ [d] ++ row.drop (i + 1)))) [.lst s'] := fun {d s'} hd hs' => q _ _ hs' (put_ok hpa hlen (fun x mx => by rw [List.mem_singleton] at mx; subst mx; exact hd) (by rw [List.length_append, List.length_append, List.length_take, List.length_singleton, List.length_drop]; omega))
      walk_at "D"
      refine ifC (fun c1 => ?_) (fun c1 => ?_)
      · walk_at "D"
        refine we_slA ?_
        walk_at "D"
        rw [cutT_hi (by omega)]
        refine we_slA ?_
        walk_at "D"
        rw [hi1, cutT_lo (by omega)]
        refine wr_catA (by rw [List.length_take, List.length_drop]; omega) ?_
        refine fin_dat rfl (q _ _ hs2 ?_)
        have := put_ok (xs := []) (a := i) (b := i + 1) hpa hlen (fun _ z => nomatch z) (by rw [List.length_append, List.length_append, List.length_take, List.length_nil, List.length_drop]; omega)
        rwa [List.append_nil] at this
      · walk_at "D"
        refine ifC (fun c2 => ?_) (fun c2 => ?_)
        · walk_at "D"
          refine we_slA ?_
          walk_at "D"
          rw [cutT_hi (by omega)]
          refine wsp1 (j := 0) rfl rfl rfl ⟨s2, rfl, rfl, hs2, fun d s3 hd hs3 => ⟨.lst s3, rfl, rfl, ?_⟩⟩
          walk_at "D"
          refine wr_catA (by rw [List.length_take, List.length_singleton]; omega) ?_
          refine we_slA ?_
          walk_at "D"
          rw [hi1, cutT_lo (by omega)]
          refine wr_catA (by rw [List.length_append, List.length_take, List.length_singleton, List.length_drop]; omega) ?_
          refine fin_dat rfl (one ?_ hs3)
          have := pt_pa (m := m + 1) hd n (by omega)
          rwa [show 2 + n = n + 2 by omega] at this
        · walk_at "D"
          refine wr_ixTn hi ?_
          walk_at "D"
          refine wc_isi (by simp) (pl_ty hpi.1) ?_
          cases ht : isT "tuple" row[i] with
          | true =>
            obtain ⟨es, hes⟩ : ∃ es, row[i] = .tup es := by
              cases hx : row[i] with
              | tup es => exact ⟨es, rfl⟩
              | non => rw [hx] at ht; cases ht
              | bl => rw [hx] at ht; cases ht
              | int => rw [hx] at ht; cases ht
              | str => rw [hx] at ht; cases ht
              | lst => rw [hx] at ht; cases ht
              | scr => rw [hx] at hpi; cases hpi.1
              | obj => rw [hx] at hpi; cases hpi.1
              | dic => rw [hx] at ht; cases ht
              | ty => rw [hx] at hpi; cases hpi.1
              | cls => rw [hx] at hpi; cases hpi.1
            rw [hes] at hpi
            walk_at "D"
            refine ifC (fun c3 => ?_) (fun c3 => ?_)
            · walk_at "D"
              refine we_slA ?_
              walk_at "D"
              rw [cutT_hi (by omega)]
              refine wr_ixTn hi ?_
              rw [hes]
              walk_at "D"
              refine wr_catA (by rw [List.length_take, List.length_singleton]; omega) ?_
              walk_at "nr4"
              refine we_slA ?_
              walk_at "D"
              rw [hi1, cutT_lo (by omega)]
              refine wr_catA (by rw [List.length_append, List.length_take, List.length_singleton, List.length_drop]; omega) ?_
              exact fin_dat rfl (one ((pa_lst hpi).to 2).upm hs2)
            · walk_at "D"
              refine we_slA ?_
              walk_at "D"
              rw [cutT_hi (by omega)]
              refine wr_ixTn hi ?_
              rw [hes]
              walk_at "D"
              refine wsp1 (j := 0) rfl rfl rfl ⟨s2, es, m, rfl, rfl, hs2, hpi, m3, m100, fun row' s3 hs3 hp' => ⟨.lst s3, rfl, rfl, ?_⟩⟩
              walk_at "D"
              refine wr_catA (by rw [List.length_take, List.length_singleton]; omega) ?_
              refine we_slA ?_
              walk_at "D"
              rw [hi1, cutT_lo (by omega)]
              refine wr_catA (by rw [List.length_append, List.length_take, List.length_singleton, List.length_drop]; omega) ?_
              exact fin_dat rfl (one hp' hs3)
          | false =>
            walk_at "D"
            refine we_slA ?_
            walk_at "D"
            rw [cutT_hi (by omega)]
            refine wsp1 (j := 0) rfl rfl rfl ⟨s2, rfl, rfl, hs2, fun d s3 hd hs3 => ⟨.lst s3, rfl, rfl, ?_⟩⟩
            walk_at "D"
            refine wr_catA (by rw [List.length_take, List.length_singleton]; omega) ?_
            refine we_slA ?_
            walk_at "D"
            rw [hi1, cutT_lo (by omega)]
            refine wr_catA (by rw [List.length_append, List.length_take, List.length_singleton, List.length_drop]; omega) ?_
            refine fin_dat rfl (one ?_ hs3)
            have := pt_pa (m := m + 1) hd (n + 1) (by omega)
            rwa [show 1 + (n + 1) = n + 2 by omega] at this
theorem chg_no (T : TxtP P K mg) : FnOk P w K mg base CX0 13 T.a_l_changed T.d_l_changed ["_law_well_here", "_law_row"] (spG K (wChg 0)) := by
  have no : ∀ {xs cs post exc}, ¬ wChg 0 xs cs post exc := fun {xs cs post exc} ⟨_, _, _, _, _, _, hp, _⟩ => by have := hp.2.1; simp [fine] at this
  exact T.F_l_changed.ok sc_l_changed (fun vs H Q E h => by obtain ⟨_, _, _, _, _, _, _, _, _, hw, _⟩ := h; exact absurd hw no) (fun cdv A outer s H vs Q E hr h => by obtain ⟨_, _, _, _, _, _, _, _, _, hw, _⟩ := h; exact absurd hw no)
theorem chg_any (T : TxtP P K mg) : ∀ n, n ≤ 50 → FnOk P w K mg base CX0 (13 + n) T.a_l_changed T.d_l_changed ["_law_well_here", "_law_row"] (spG K (wChg n))
  | 0, _ => chg_no T
  | n + 1, h => chg_step T (Nat.le_trans (by decide : 3 ≤ 13) (Nat.le_add_right 13 n)) (by omega) (chg_any T n (by omega))
def wChgs : PW0 := fun xs cs post exc => ∃ n, n ≤ 7 ∧ wChg n xs cs post exc
theorem chgs_of {vs : List V} {H : Hp} {Q : VK} {E : XK} (h : spG K wChgs vs H Q E) : ∃ n, n ≤ 7 ∧ spG K (wChg n) vs H Q E := by
  obtain ⟨a1, a2, a3, a4, a5, a6, a7, a8, a9, ⟨n, hn, hw⟩, r⟩ := h
  exact ⟨n, hn, a1, a2, a3, a4, a5, a6, a7, a8, a9, hw, r⟩
theorem ok_l_changed (T : TxtP P K mg) : FnOk P w K mg base CX0 20 T.a_l_changed T.d_l_changed ["_law_well_here", "_law_row"] (spG K wChgs) :=
  ⟨fun vs H Q E h => by obtain ⟨n, hn, h⟩ := chgs_of h; exact (chg_any (P := P) (w := w) (base := base) T n (by omega)).len vs H Q E h, fun A outer s H args us vs Q E hr he hb hv hs => by obtain ⟨n, hn, h⟩ := chgs_of hs; exact ((chg_any T n (by omega)).mono (by omega)).run A outer s H args us vs Q E hr he hb hv h⟩
end

section
variable {P : Program} {w : World} {K : PySem.W.Frag} {mg : Str → Option Value} {base : Heap}
def wThingG : PW0 := fun xs cs post _ => ∃ (s row : List D), xs = [.cel 0, .dat (.tup row)] ∧ cs = [.lst s] ∧ IsW s ∧ pls row = true ∧ (∀ d s', IsW s' → pl d = true → post (.dat d) [.lst s']) ∧ (∀ ds s', IsW s' → pls ds = true → post (.new ds) [.lst s'])
theorem ok_l_thing (T : TxtP P K mg) : FnOk P w K mg base CX0 2 T.a_l_thing T.d_l_thing ["_law_well_here", "_law_row"] (spG K wThingG) := by
  refine T.F_l_thing.ok sc_l_thing (fun vs H Q E h => spG_len h fun xs cs post exc ⟨a, b, e, _⟩ => by rw [e]; rfl) (fun cdv A outer s H vs Q E hr h => ⟨_, (pss_cons (ps_set (i := 2) sc_l_thing.nd rfl (Or.inl rfl) (pe_call (ok_l_draw T) (hr.mono (by decide)) (by rfl) T.g_l_draw T.F_l_draw.kp T.b_l_draw .nil pass0 (pa_cons (pv 0) (pa_cons pe_int pa_nil))))
      (pss_cons (ps_set (i := 3) sc_l_thing.nd rfl (Or.inl rfl) (pe_lst (pa_cons pe_non (pa_cons pe_int (pa_cons pe_str (pa_cons pe_bl (pa_cons pe_dnewK (pa_cons pe_str (pa_cons (pe_lst (pa_cons (pv 1) pa_nil)) (pa_cons (pe_disp (pps_cons pe_str (pv 1) pps_nil) (by rfl) (by rfl) (fun z => by cases z) (by decide)) (pa_cons (pe_tup (pa_cons (pv 1) pa_nil)) (pa_cons (pe_tup (pa_cons (pe_tup pa_nil) (pa_cons (pe_tup pa_nil) (pa_cons (pe_tup pa_nil) (pa_cons (pe_tup pa_nil) pa_nil))))) pa_nil))))))))))))
      (pss_cons (ps_if (pt_cmpR op_lt (pv 2) pe_int (nomark _)) (pss_one (ps_ret (pe_ix ix_list (pv 3) (pv 2) (fun _ _ => rfl)))) pss_nil)
      (pss_one (ps_ret (pe_callTy call_list_of (by rfl) T.m_list (by decide +kernel) (pa_cons (pv 1) pa_nil))))))), enter h fun F xs cs post hE hw => ?_⟩)
  obtain ⟨st, row, rfl, rfl, hs, pr, q1, q2⟩ := hw
  walk_at "D"
  refine wsp_draw (j := 0) rfl hs (by decide) (by decide) fun wy s1 w0 w1 hs1 => ?_
  walk_at "D"
  refine we_dnew ?_
  walk_at "D"
  refine' we_disp1 ?hq1 ?hz9
  (case hq1 => exact rfl)
  walk_at "D"
  walk_at "nr4"
  walk_at "D"
  refine ifC (fun c => ?_) (fun c => ?_)
  · have c := of_decide_eq_true c
    walk_at "D"
    refine wr_ixA (.cel rfl) w0 (show wy < 10 from c) fun x m => ?_
    have pt : pl (.tup row) = true := by rw [pl]; exact pr
    refine fin_dat rfl (q1 x _ hs1 ?_)
    exact all_cons (p := fun d => pl d = true) rfl (all_cons rfl (all_cons rfl (all_cons rfl (all_cons rfl (all_cons rfl (all_cons (by show (pl (.tup row) && true) = true; rw [pt]; rfl) (all_cons rfl (all_cons (by show (pl (.tup row) && true) = true; rw [pt]; rfl) (all_cons rfl all_nil))))))))) x m
  · walk_at "D"
    exact fin_cel (Nat.le_of_ble_eq_true rfl) rfl rfl (q2 _ _ hs1 pr)
def wWithin : PW0 := fun xs cs post _ => ∃ (d : D) (lo hi : Int), xs = [.dat d, .dat (.int lo), .dat (.int hi)] ∧ cs = [] ∧ pl d = true ∧ post (.dat (.bl (inR lo hi d))) []
theorem ok_l_within (T : TxtP P K mg) : FnOk P w K mg base CX0 2 T.a_l_within T.d_l_within ["_law_thing_here", "_law_low", "_law_high"] (spG K wWithin) := by
  refine T.F_l_within.ok sc_l_within (fun vs H Q E h => spG_len h fun xs cs post exc ⟨a, b, c, e, _⟩ => by rw [e]; rfl) (fun cdv A outer s H vs Q E hr h => ⟨_, (pss_one (ps_ret (pe_and (pe_call (ok_l_whole T) (hr.mono (by decide)) (by rfl) T.g_l_whole T.F_l_whole.kp T.b_l_whole .nil pass0 (pa_cons (pv 0) pa_nil)) (pe_one (pe_chainI op_le op_le (pv 1) (pv 0) (pv 2) mn_var mn_var mn_var sh_var))))), enter h fun F xs cs post hE hw => ?_⟩)
  obtain ⟨d, lo, hi, rfl, rfl, hp, q⟩ := hw
  walk_at "D"
  walk_at "c"
  refine ⟨d, rfl, rfl, hp, rfl, ?_⟩
  cases d with
  | int i =>
    walk_at "D"
    refine we_chV ?_
    walk_at "D"
    refine ⟨_, _, _, rfl, rfl, rfl, ?_⟩
    exact fin_dat rfl q
  | _ =>
    walk_at "D"
    exact fin_dat rfl q
theorem ok_l_is_rule (T : TxtP P K mg) : FnOk P w K mg base CX0 3 T.a_l_is_rule T.d_l_is_rule ["_law_thing_here"] (spG K (wThing isRu)) := by
  refine T.F_l_is_rule.ok sc_l_is_rule (fun vs H Q E h => spG_len h fun xs cs post exc ⟨a, e, _⟩ => by rw [e]; rfl) (fun cdv A outer s H vs Q E hr h => ⟨_, (pss_cons (ps_if (PW.pt (pw_or (pt_not (pt_val (pe_callB call_isi (by rfl) T.m_isinstance (by decide +kernel) (pa_cons (pv 0) (pa_cons (pe_bltn (v := .ty "tuple") (by rfl) T.m_tuple (by decide +kernel) rfl) pa_nil))))) (pw_or (pt_cmpR op_eq (pe_callB call_len_seq (by rfl) T.m_len (by decide +kernel) (pa_cons (pv 0) pa_nil)) pe_int (nomark _)) (pw_or1 (pt_not (pt_val (pe_callB call_isi (by rfl) T.m_isinstance (by decide +kernel) (pa_cons (pe_ix ix_tup (pv 0) pe_int (fun _ _ => rfl)) (pa_cons (pe_bltn (v := .ty "str") (by rfl) T.m_str (by decide +kernel) rfl) pa_nil))))))))) (pss_one (ps_ret pe_bl)) pss_nil)
      (pss_cons (ps_if (pt_cmpR op_eq (pe_ix ix_tup (pv 0) pe_int (fun _ _ => rfl)) pe_str (nomark _)) (pss_one (ps_ret (pe_and (pe_cmpR op_eq (pe_callB call_len_seq (by rfl) T.m_len (by decide +kernel) (pa_cons (pv 0) pa_nil)) pe_int (nomark _)) (pe_one (pe_call (ok_l_within T) (hr.mono (by decide)) (by rfl) T.g_l_within T.F_l_within.kp T.b_l_within .nil pass0 (pa_cons (pe_ix ix_tup (pv 0) pe_int (fun _ _ => rfl)) (pa_cons pe_int (pa_cons pe_int pa_nil)))))))) pss_nil)
      (pss_cons (ps_if (PW.pt (pw_and (pt_cmpR op_ne (pe_ix ix_tup (pv 0) pe_int (fun _ _ => rfl)) pe_str (nomark _)) (pw_and1 (pt_cmpR op_ne (pe_ix ix_tup (pv 0) pe_int (fun _ _ => rfl)) pe_str (nomark _))))) (pss_one (ps_ret pe_bl)) pss_nil)
      (pss_cons (ps_if (PW.pt (pw_or (pt_cmpR op_lt (pe_callB call_len_seq (by rfl) T.m_len (by decide +kernel) (pa_cons (pv 0) pa_nil)) pe_int (nomark _)) (pw_or (pt_not (pt_val (pe_call (ok_l_within T) (hr.mono (by decide)) (by rfl) T.g_l_within T.F_l_within.kp T.b_l_within .nil pass0 (pa_cons (pe_ix ix_tup (pv 0) pe_int (fun _ _ => rfl)) (pa_cons pe_int (pa_cons pe_int pa_nil)))))) (pw_or1 (pt_not (pt_val (pe_call (ok_l_within T) (hr.mono (by decide)) (by rfl) T.g_l_within T.F_l_within.kp T.b_l_within .nil pass0 (pa_cons (pe_ix ix_tup (pv 0) pe_int (fun _ _ => rfl)) (pa_cons pe_int (pa_cons pe_int pa_nil)))))))))) (pss_one (ps_ret pe_bl)) pss_nil)
      (pss_cons (ps_if (pt_cmpR op_eq (pe_ix ix_tup (pv 0) pe_int (fun _ _ => rfl)) pe_str (nomark _)) (pss_one (ps_ret (pe_and (pe_cmpR op_eq (pe_callB call_len_seq (by rfl) T.m_len (by decide +kernel) (pa_cons (pv 0) pa_nil)) pe_int (nomark _)) (pe_one (pe_call (ok_l_within T) (hr.mono (by decide)) (by rfl) T.g_l_within T.F_l_within.kp T.b_l_within .nil pass0 (pa_cons (pe_ix ix_tup (pv 0) pe_int (fun _ _ => rfl)) (pa_cons pe_int (pa_cons pe_int pa_nil)))))))) pss_nil)
      (pss_one (ps_ret (pe_and (pe_cmpR op_eq (pe_callB call_len_seq (by rfl) T.m_len (by decide +kernel) (pa_cons (pv 0) pa_nil)) pe_int (nomark _)) (pe_and (pe_call (ok_l_within T) (hr.mono (by decide)) (by rfl) T.g_l_within T.F_l_within.kp T.b_l_within .nil pass0 (pa_cons (pe_ix ix_tup (pv 0) pe_int (fun _ _ => rfl)) (pa_cons pe_int (pa_cons pe_int pa_nil)))) (pe_one (pe_call (ok_l_within T) (hr.mono (by decide)) (by rfl) T.g_l_within T.F_l_within.kp T.b_l_within .nil pass0 (pa_cons (pe_ix ix_tup (pv 0) pe_int (fun _ _ => rfl)) (pa_cons pe_int (pa_cons pe_int pa_nil)))))))))))))), enter h fun F xs cs post hE hw => ?_⟩)
  obtain ⟨d, rfl, rfl, hp, q⟩ := hw
  cases d with
  | tup ds =>
    cases ds with
    | nil => walk_at "D"; exact fin_dat rfl q
    | cons a r =>
      obtain ⟨pa, pr⟩ := pls_cons (show pls (a :: r) = true from hp)
      walk_at "D"
      refine wr_ixT (atI_nat (j := 0) rfl) ?_
      cases a with
      | str k =>
        walk_at "D"
        refine wr_ixT (atI_nat (j := 0) rfl) ?_
        walk_at "D"
        have e1 : eqS (.str k) (.str "plain") = decide (k = "plain") := rfl
        have e2 : eqS (.str k) (.str "moved") = decide (k = "moved") := rfl
        have e3 : eqS (.str k) (.str "mixed") = decide (k = "mixed") := rfl
        rw [e1]
        refine ifC (fun c1 => ?_) (fun c1 => ?_)
        · have c1 := of_decide_eq_true c1
          subst c1
          walk_at "D"
          match r, pr, q with
          | [], _, q => walk_at "D"; exact fin_dat rfl q
          | [b], pr, q =>
            obtain ⟨pb, _⟩ := pls_cons pr
            walk_at "D"
            walk_at "c"
            exact ⟨b, 0, 255, rfl, rfl, pb, rfl, fin_dat rfl q⟩
          | b :: c :: r, _, q =>
            rw [show isRu (.tup (.str "plain" :: b :: c :: r)) = false from by
              match r with
              | [] => rfl
              | [_] => rfl
              | [_, _] => rfl
              | _ :: _ :: _ :: _ => rfl] at q
            walk_at "D"
            first | exact fin_dat rfl q | (refine ifF (show eqS _ _ = false from decide_eq_false (show ¬ (((D.str "plain" :: b :: c :: r).length : Int) = 2) by simp only [List.length_cons]; omega)) ?_; walk_at "D"; exact fin_dat rfl q)
        · have n1 := of_decide_eq_false c1
          walk_at "D"
          refine wr_ixT (atI_nat (j := 0) rfl) ?_
          walk_at "D"
          rw [e2]
          by_cases m2 : k = "moved"
          · subst m2
            walk_at "D"
            match r, pr, q with
            | [], _, q => walk_at "D"; exact fin_dat rfl q
            | [_], _, q => walk_at "D"; exact fin_dat rfl q
            | [_, _], _, q => walk_at "D"; exact fin_dat rfl q
            | b :: c :: d :: r, pr, q =>
              obtain ⟨pb, pr⟩ := pls_cons pr
              obtain ⟨pc, pr⟩ := pls_cons pr
              obtain ⟨pd, pr⟩ := pls_cons pr
              have n0 : inR 1 200 b = false ∨ inR 0 15 c = false → isRu (.tup (.str "moved" :: b :: c :: d :: r)) = false := fun h => by
                match r with
                | [] => show (inR 1 200 b && (inR 0 15 c && inR 0 255 d)) = false; rcases h with h | h <;> rw [h] <;> simp
                | [_] => rfl
                | _ :: _ :: _ => rfl
              walk_at "D"
              refine wr_ixT (atI_nat (j := 1) rfl) ?_
              walk_at "D"
              walk_at "c"
              refine ⟨b, _, _, rfl, rfl, pb, rfl, ?_⟩
              cases hb : inR 1 200 b with
              | false => rw [n0 (.inl hb)] at q; walk_at "D"; exact fin_dat rfl q
              | true =>
              walk_at "D"
              refine wr_ixT (atI_nat (j := 2) rfl) ?_
              walk_at "D"
              walk_at "c"
              refine ⟨c, _, _, rfl, rfl, pc, rfl, ?_⟩
              cases hc : inR 0 15 c with
              | false => rw [n0 (.inr hc)] at q; walk_at "D"; exact fin_dat rfl q
              | true =>
              walk_at "D"
              refine wr_ixT (atI_nat (j := 0) rfl) ?_
              walk_at "D"
              match r, pr, q with
              | [], _, q =>
                rw [show isRu (.tup [.str "moved", b, c, d]) = (inR 1 200 b && (inR 0 15 c && inR 0 255 d)) from rfl, hb, hc] at q
                walk_at "D"
                walk_at "c"
                exact ⟨d, _, _, rfl, rfl, pd, rfl, fin_dat rfl q⟩
              | e :: r, _, q =>
                rw [show isRu (.tup (.str "moved" :: b :: c :: d :: e :: r)) = false from by cases r <;> rfl] at q
                walk_at "D"
                first | exact fin_dat rfl q | (refine ifF (show eqS _ _ = false from decide_eq_false (show ¬ (((D.str "moved" :: b :: c :: d :: e :: r).length : Int) = 4) by simp only [List.length_cons]; omega)) ?_; walk_at "D"; exact fin_dat rfl q)
          · rw [decide_eq_false m2]
            walk_at "D"
            refine wr_ixT (atI_nat (j := 0) rfl) ?_
            walk_at "D"
            rw [e3]
            by_cases m3 : k = "mixed"
            · subst m3
              walk_at "D"
              match r, pr, q with
              | [], _, q => walk_at "D"; exact fin_dat rfl q
              | [_], _, q => walk_at "D"; exact fin_dat rfl q
              | [_, _], _, q => walk_at "D"; exact fin_dat rfl q
              | b :: c :: d :: r, pr, q =>
                obtain ⟨pb, pr⟩ := pls_cons pr
                obtain ⟨pc, pr⟩ := pls_cons pr
                obtain ⟨pd, pr⟩ := pls_cons pr
                have n0 : inR 1 200 b = false ∨ inR 0 15 c = false → isRu (.tup (.str "mixed" :: b :: c :: d :: r)) = false := fun h => by
                  match r with
                  | [] => rfl
                  | [e] => show (inR 1 200 b && (inR 0 15 c && (inR 1 200 d && inR 0 15 e))) = false; rcases h with h | h <;> rw [h] <;> simp
                  | _ :: _ :: _ => rfl
                walk_at "D"
                refine wr_ixT (atI_nat (j := 1) rfl) ?_
                walk_at "D"
                walk_at "c"
                refine ⟨b, _, _, rfl, rfl, pb, rfl, ?_⟩
                cases hb : inR 1 200 b with
                | false => rw [n0 (.inl hb)] at q; walk_at "D"; exact fin_dat rfl q
                | true =>
                walk_at "D"
                refine wr_ixT (atI_nat (j := 2) rfl) ?_
                walk_at "D"
                walk_at "c"
                refine ⟨c, _, _, rfl, rfl, pc, rfl, ?_⟩
                cases hc : inR 0 15 c with
                | false => rw [n0 (.inr hc)] at q; walk_at "D"; exact fin_dat rfl q
                | true =>
                walk_at "D"
                refine wr_ixT (atI_nat (j := 0) rfl) ?_
                walk_at "D"
                match r, pr, q with
                | [], _, q => walk_at "D"; exact fin_dat rfl q
                | [e], pr, q =>
                  obtain ⟨pe, _⟩ := pls_cons pr
                  rw [show isRu (.tup [.str "mixed", b, c, d, e]) = (inR 1 200 b && (inR 0 15 c && (inR 1 200 d && inR 0 15 e))) from rfl, hb, hc] at q
                  walk_at "D"
                  walk_at "c"
                  refine ⟨d, _, _, rfl, rfl, pd, rfl, ?_⟩
                  cases hd : inR 1 200 d with
                  | false => rw [hd] at q; walk_at "D"; exact fin_dat rfl q
                  | true =>
                  rw [hd] at q
                  walk_at "D"
                  walk_at "c"
                  exact ⟨e, _, _, rfl, rfl, pe, rfl, fin_dat rfl q⟩
                | e :: f :: r, _, q =>
                  rw [show isRu (.tup (.str "mixed" :: b :: c :: d :: e :: f :: r)) = false from by cases r <;> rfl] at q
                  walk_at "D"
                  first | exact fin_dat rfl q | (refine ifF (show eqS _ _ = false from decide_eq_false (show ¬ (((D.str "mixed" :: b :: c :: d :: e :: f :: r).length : Int) = 5) by simp only [List.length_cons]; omega)) ?_; walk_at "D"; exact fin_dat rfl q)
            · rw [decide_eq_false m3]
              rw [isRu_str n1 m2 m3] at q
              walk_at "D"
              exact fin_dat rfl q
      | _ =>
        rw [show isRu _ = false from rfl] at q
        walk_at "D"
        first | exact fin_dat rfl q | (exfalso; exact Bool.noConfusion (show false = true by simpa [pl] using pa))
  | obj => rw [pl] at hp; cases hp
  | scr => rw [pl] at hp; cases hp
  | ty => rw [pl] at hp; cases hp
  | cls => rw [pl] at hp; cases hp
  | _ => walk_at "D"; exact fin_dat rfl q
end

section
variable {P : Program} {w : World} {K : PySem.W.Frag} {mg : Str → Option Value} {base : Heap}
theorem ok_l_is_leaf (T : TxtP P K mg) : FnOk P w K mg base CX0 4 T.a_l_is_leaf T.d_l_is_leaf ["_law_thing_here"] (spG K (wThing isLf)) := by
  refine T.F_l_is_leaf.ok sc_l_is_leaf (fun vs H Q E h => spG_len h fun xs cs post exc ⟨a, e, _⟩ => by rw [e]; rfl) (fun cdv A outer s H vs Q E hr h => ⟨_, (pss_cons (ps_if (PW.pt (pw_or (pt_not (pt_val (pe_callB call_isi (by rfl) T.m_isinstance (by decide +kernel) (pa_cons (pv 0) (pa_cons (pe_bltn (v := .ty "tuple") (by rfl) T.m_tuple (by decide +kernel) rfl) pa_nil))))) (pw_or (pt_cmpR op_ne (pe_callB call_len_seq (by rfl) T.m_len (by decide +kernel) (pa_cons (pv 0) pa_nil)) pe_int (nomark _)) (pw_or1 (pt_not (pt_val (pe_callB call_isi (by rfl) T.m_isinstance (by decide +kernel) (pa_cons (pe_ix ix_tup (pv 0) pe_int (fun _ _ => rfl)) (pa_cons (pe_bltn (v := .ty "str") (by rfl) T.m_str (by decide +kernel) rfl) pa_nil))))))))) (pss_one (ps_ret pe_bl)) pss_nil)
      (pss_cons (ps_if (PW.pt (pw_or (pt_not (pt_val (pe_call (ok_l_within T) (hr.mono (by decide)) (by rfl) T.g_l_within T.F_l_within.kp T.b_l_within .nil pass0 (pa_cons (pe_ix ix_tup (pv 0) pe_int (fun _ _ => rfl)) (pa_cons pe_int (pa_cons (pe_op op_pow pe_int pe_int) pa_nil)))))) (pw_or1 (pt_not (pt_val (pe_call (ok_l_within T) (hr.mono (by decide)) (by rfl) T.g_l_within T.F_l_within.kp T.b_l_within .nil pass0 (pa_cons (pe_ix ix_tup (pv 0) pe_int (fun _ _ => rfl)) (pa_cons pe_int (pa_cons (pe_op op_pow pe_int pe_int) pa_nil))))))))) (pss_one (ps_ret pe_bl)) pss_nil)
      (pss_cons (ps_if (pt_cmpR op_eq (pe_ix ix_tup (pv 0) pe_int (fun _ _ => rfl)) pe_str (nomark _)) (pss_one (ps_ret (pe_call (ok_l_within T) (hr.mono (by decide)) (by rfl) T.g_l_within T.F_l_within.kp T.b_l_within .nil pass0 (pa_cons (pe_ix ix_tup (pv 0) pe_int (fun _ _ => rfl)) (pa_cons pe_int (pa_cons pe_int pa_nil)))))) pss_nil)
      (pss_cons (ps_if (PW.pt (pw_or (pt_not (pt_val (pe_callB call_isi (by rfl) T.m_isinstance (by decide +kernel) (pa_cons (pe_ix ix_tup (pv 0) pe_int (fun _ _ => rfl)) (pa_cons (pe_bltn (v := .ty "tuple") (by rfl) T.m_tuple (by decide +kernel) rfl) pa_nil))))) (pw_or1 (pt_not (pt_chain op_le op_le pe_int (pe_callB call_len_seq (by rfl) T.m_len (by decide +kernel) (pa_cons (pe_ix ix_tup (pv 0) pe_int (fun _ _ => rfl)) pa_nil)) pe_int))))) (pss_one (ps_ret pe_bl)) pss_nil)
      (pss_cons (ps_if (pt_cmpR op_eq (pe_ix ix_tup (pv 0) pe_int (fun _ _ => rfl)) pe_str (nomark _)) (pss_one (ps_ret (pe_callB (cr_all rfl) (by rfl) T.m_all (by decide +kernel) (pa_cons (pe_lc (own := [("_law_one", 1)]) (g := gName 1) (tt := tYes) (by rfl) sc_l_is_leaf.nd (pi_tup (pe_ix ix_tup (pv 0) pe_int (fun _ _ => rfl))) (blkOk_by (own := [("_law_one", 1)]) (N := N_l_is_leaf) (sc := defScope s_l_is_leaf) (by decide +kernel)) (fun _ _ _ _ _ => (pg_name (i := 1) sc_l_is_leaf.nd rfl (Or.inl rfl))) (fun _ _ _ _ _ => pts_nil) (fun _ _ _ _ _ => (pe_call (ok_l_within T) (hr.mono (by decide)) (by rfl) T.g_l_within T.F_l_within.kp T.b_l_within .nil pass0 (pa_cons (pv 1) (pa_cons pe_int (pa_cons pe_int pa_nil)))))) pa_nil)))) pss_nil)
      (pss_one (ps_ret (pe_and (pe_cmpR op_eq (pe_ix ix_tup (pv 0) pe_int (fun _ _ => rfl)) pe_str (nomark _)) (pe_one (pe_callB (cr_all rfl) (by rfl) T.m_all (by decide +kernel) (pa_cons (pe_lc (own := [("_law_one", 1)]) (g := gName 1) (tt := tYes) (by rfl) sc_l_is_leaf.nd (pi_tup (pe_ix ix_tup (pv 0) pe_int (fun _ _ => rfl))) (blkOk_by (own := [("_law_one", 1)]) (N := N_l_is_leaf) (sc := defScope s_l_is_leaf) (by decide +kernel)) (fun _ _ _ _ _ => (pg_name (i := 1) sc_l_is_leaf.nd rfl (Or.inl rfl))) (fun _ _ _ _ _ => pts_nil) (fun _ _ _ _ _ => (pe_call (ok_l_is_rule T) (hr.mono (by decide)) (by rfl) T.g_l_is_rule T.F_l_is_rule.kp T.b_l_is_rule .nil pass0 (pa_cons (pv 1) pa_nil)))) pa_nil))))))))))), enter h fun F xs cs post hE hw => ?_⟩)
  obtain ⟨d, rfl, rfl, hp, q⟩ := hw
  cases d with
  | tup ds =>
    match ds, hp, q with
    | [], _, q => walk_at "D"; exact fin_dat rfl q
    | [a], _, q => rw [show isLf (.tup [a]) = false from by cases a <;> rfl] at q; walk_at "D"; exact fin_dat rfl q
    | [a, b], _, q => rw [show isLf (.tup [a, b]) = false from by cases a <;> rfl] at q; walk_at "D"; exact fin_dat rfl q
    | [a, b, c], _, q => rw [show isLf (.tup [a, b, c]) = false from by cases a <;> rfl] at q; walk_at "D"; exact fin_dat rfl q
    | a :: b :: c :: d :: e :: r, _, q =>
      rw [show isLf (.tup (a :: b :: c :: d :: e :: r)) = false from by cases a <;> rfl] at q
      walk_at "D"
      first | exact fin_dat rfl q | (refine ifT (show (!eqS (D.int _) (D.int 4)) = true from by show (!decide ((List.length (a :: b :: c :: d :: e :: r) : Int) = 4)) = true; rw [decide_eq_false (by simp only [List.length_cons]; omega)]; rfl) ?_; walk_at "D"; exact fin_dat rfl q)
    | [a, b, c, d], hp, q =>
      obtain ⟨pa, hpb⟩ := pls_cons (show pls [a, b, c, d] = true by rw [pl] at hp; exact hp)
      obtain ⟨pb, hpc⟩ := pls_cons hpb
      obtain ⟨pc, hpd⟩ := pls_cons hpc
      obtain ⟨pd, _⟩ := pls_cons hpd
      walk_at "D"
      cases a with
      | str k =>
        rw [isLf_str] at q
        walk_at "D"
        refine wr_Ii ⟨by decide, by decide, by decide⟩ ?_
        rw [show (10 : Int) ^ (9 : Int).toNat = 1000000000 from by decide]
        walk_at "D"
        walk_at "c"
        refine ⟨b, _, _, rfl, rfl, pb, rfl, ?_⟩
        cases hb : inR 0 1000000000 b with
        | false => rw [hb] at q; walk_at "D"; exact fin_dat rfl q
        | true =>
        rw [hb] at q
        walk_at "D"
        refine wr_Ii ⟨by decide, by decide, by decide⟩ ?_
        rw [show (10 : Int) ^ (9 : Int).toNat = 1000000000 from by decide]
        walk_at "D"
        walk_at "c"
        refine ⟨c, _, _, rfl, rfl, pc, rfl, ?_⟩
        cases hc : inR 1 1000000000 c with
        | false => rw [hc] at q; walk_at "D"; exact fin_dat rfl q
        | true =>
        rw [hc] at q
        walk_at "D"
        refine ifC (fun c1 => ?_) (fun c1 => ?_)
        · have c1 := of_decide_eq_true c1
          subst c1
          rw [if_neg (show ¬ (Str.ofString "still" = "full") by decide +kernel), if_pos rfl] at q
          walk_at "D"
          walk_at "c"
          exact ⟨d, _, _, rfl, rfl, pd, rfl, fin_dat rfl q⟩
        · have n1 := of_decide_eq_false c1
          rw [if_neg n1] at q
          cases d with
          | tup es =>
            have pes : pls es = true := by rw [pl] at pd; exact pd
            walk_at "D"
            refine we_chain ?_
            walk_at "D"
            cases hl : rowL (.tup es) with
            | false =>
              have q : post (.dat (.bl false)) [] := by
                rw [rowL_no hl, rowL_no hl] at q
                rw [show (true && (true && if k = Str.ofString "full" then false else if k = Str.ofString "woven" then false else false)) = false from by
                  show (if k = Str.ofString "full" then false else if k = Str.ofString "woven" then false else false) = false
                  split
                  · rfl
                  · split <;> rfl] at q
                exact q
              by_cases c1 : 1 ≤ es.length
              · refine ifT (decide_eq_true (show (1 : Int) ≤ (es.length : Int) by omega)) ?_
                walk_at "D"
                have : ¬ es.length ≤ 16 := fun h => by
                  have : rowL (.tup es) = true := by show (decide (1 ≤ es.length) && decide (es.length ≤ 16)) = true; rw [decide_eq_true c1, decide_eq_true h]; rfl
                  rw [this] at hl; cases hl
                refine ifT (show (!decide ((es.length : Int) ≤ 16)) = true by rw [decide_eq_false (show ¬ (es.length : Int) ≤ 16 by omega)]; rfl) ?_
                walk_at "D"
                exact fin_dat rfl q
              · refine ifF (decide_eq_false (show ¬ (1 : Int) ≤ (es.length : Int) by omega)) ?_
                walk_at "D"
                exact fin_dat rfl q
            | true =>
              have hl : (decide (1 ≤ es.length) && decide (es.length ≤ 16)) = true := hl
              have h2 := (Bool.and_eq_true _ _).mp hl
              have l1 := of_decide_eq_true h2.1
              have l2 := of_decide_eq_true h2.2
              rw [show ∀ f, isRow f (.tup es) = es.all f from fun f => by show (decide (1 ≤ es.length) && decide (es.length ≤ 16) && es.all f) = _; rw [hl]; rfl] at q
              rw [show ∀ f, isRow f (.tup es) = es.all f from fun f => by show (decide (1 ≤ es.length) && decide (es.length ≤ 16) && es.all f) = _; rw [hl]; rfl] at q
              refine ifT (decide_eq_true (show (1 : Int) ≤ (es.length : Int) by omega)) ?_
              walk_at "D"
              refine ifF (show (!decide ((es.length : Int) ≤ 16)) = false by rw [decide_eq_true (show (es.length : Int) ≤ 16 by omega)]; rfl) ?_
              walk_at "D"
              refine ifC (fun c1 => ?_) (fun c1 => ?_)
              · have c1 := of_decide_eq_true c1
                subst c1
                rw [if_pos rfl] at q
                walk_at "D"
                refine loopC_by (fun dd ρ => ∃ done todo : List D, dd = todo ∧ es = done ++ todo ∧ ρ = ⟨[some (.dat (.tup [.str "full", b, c, .tup es])), none], [.lst ((done.map (inR 0 255)).map .bl)]⟩) ⟨[], es, rfl, rfl, rfl⟩ ?_ ?_
                · rintro ρ ⟨done, todo, e1, e2, rfl⟩
                  subst e1
                  rw [List.append_nil] at e2
                  subst e2
                  refine ⟨trivial, ?_⟩
                  walk_at "D"
                  refine wc_all (.cel rfl) ?_
                  rw [all_id]
                  exact fin_dat rfl q
                · rintro x dd ρ ⟨done, todo, e1, e2, rfl⟩
                  subst e1
                  refine ⟨trivial, ?_⟩
                  walk_at "D"
                  walk_at "c"
                  refine ⟨x, _, _, rfl, rfl, pls_mem pes x (by rw [e2]; exact List.mem_append_right _ List.mem_cons_self), rfl, ?_⟩
                  walk_at "D"
                  · rw [List.length_map, List.length_map]
                    have : es.length = done.length + (dd.length + 1) := by rw [e2, List.length_append, List.length_cons]
                    omega
                  exact now ⟨done ++ [x], dd, rfl, by rw [e2, List.append_assoc]; rfl, by rw [List.map_append, List.map_append]; rfl⟩
              · have n2 := of_decide_eq_false c1
                rw [if_neg n2] at q
                walk_at "D"
                refine ifC (fun c1 => ?_) (fun c1 => ?_)
                · have c1 := of_decide_eq_true c1
                  subst c1
                  rw [if_pos rfl] at q
                  walk_at "D"
                  refine loopC_by (fun dd ρ => ∃ done todo : List D, dd = todo ∧ es = done ++ todo ∧ ρ = ⟨[some (.dat (.tup [.str "woven", b, c, .tup es])), none], [.lst ((done.map isRu).map .bl)]⟩) ⟨[], es, rfl, rfl, rfl⟩ ?_ ?_
                  · rintro ρ ⟨done, todo, e1, e2, rfl⟩
                    subst e1
                    rw [List.append_nil] at e2
                    subst e2
                    refine ⟨trivial, ?_⟩
                    walk_at "D"
                    refine wc_all (.cel rfl) ?_
                    rw [all_id]
                    exact fin_dat rfl q
                  · rintro x dd ρ ⟨done, todo, e1, e2, rfl⟩
                    subst e1
                    refine ⟨trivial, ?_⟩
                    walk_at "D"
                    walk_at "c"
                    refine ⟨x, rfl, rfl, pls_mem pes x (by rw [e2]; exact List.mem_append_right _ List.mem_cons_self), rfl, ?_⟩
                    walk_at "D"
                    · rw [List.length_map, List.length_map]
                      have : es.length = done.length + (dd.length + 1) := by rw [e2, List.length_append, List.length_cons]
                      omega
                    exact now ⟨done ++ [x], dd, rfl, by rw [e2, List.append_assoc]; rfl, by rw [List.map_append, List.map_append]; rfl⟩
                · have n3 := of_decide_eq_false c1
                  rw [if_neg n3] at q
                  walk_at "D"
                  exact fin_dat rfl q
          | obj => rw [pl] at pd; cases pd
          | scr => rw [pl] at pd; cases pd
          | ty => rw [pl] at pd; cases pd
          | cls => rw [pl] at pd; cases pd
          | _ =>
            have q : post (.dat (.bl false)) [] := by
              rw [show (true && (true && if k = Str.ofString "full" then isRow (inR 0 255) _ else if k = Str.ofString "woven" then isRow isRu _ else false)) = false from by
                show (if k = Str.ofString "full" then false else if k = Str.ofString "woven" then false else false) = false
                split
                · rfl
                · split <;> rfl] at q
              exact q
            walk_at "D"
            exact fin_dat rfl q
      | _ =>
        walk_at "D"
        first | exact fin_dat rfl q | (exfalso; exact Bool.noConfusion (show false = true by simpa [pl] using pa))
  | obj => rw [pl] at hp; cases hp
  | scr => rw [pl] at hp; cases hp
  | ty => rw [pl] at hp; cases hp
  | cls => rw [pl] at hp; cases hp
  | _ => walk_at "D"; exact fin_dat rfl q
end

section
variable {P : Program} {w : World} {K : PySem.W.Frag} {mg : Str → Option Value} {base : Heap}
/-- l.told() of any leaf -/
theorem we_lftold {F : Fx} {ρ : En} {k : AV → En → Prop} {c : Cs} {E1 E2 E3 : XK} {i : Nat} {l : Lf} (ok : l.ok) (hx : ρ.sl[i]? = some (some (.dat (l.ob c)))) (hk : k (.dat l.told) ρ) :
    WpE K F (fun σ H Q => tMeth c.f "told" (spG K (wLfTold c Lf.isF)) [] E1 (tVar i) tNil σ H Q ∨ (tMeth c.s "told" (spG K (wLfTold c Lf.isS)) [] E2 (tVar i) tNil σ H Q ∨ tMeth c.w "told" (spG K (wLfTold c Lf.isWo)) [] E3 (tVar i) tNil σ H Q)) ρ k := by
  cases l with
  | full b s vs => exact we_or1 (we_meth (we_var hx ⟨_, _, .dat, rfl, wa_nil (wspE (.dat .nil) ⟨_, rfl, ok, rfl, rfl, aft_hard (Lf.hard_told _) hk⟩)⟩))
  | still b s n => exact we_or2 (we_or1 (we_meth (we_var hx ⟨_, _, .dat, rfl, wa_nil (wspE (.dat .nil) ⟨_, rfl, ok, rfl, rfl, aft_hard (Lf.hard_told _) hk⟩)⟩)))
  | woven b s rs => exact we_or2 (we_or2 (we_meth (we_var hx ⟨_, _, .dat, rfl, wa_nil (wspE (.dat .nil) ⟨_, rfl, ok, rfl, rfl, aft_hard (Lf.hard_told _) hk⟩)⟩)))
theorem noBs_ints (vs : List Int) : noBs (vs.map .int) = true := by induction vs with | nil => rfl | cons v vs ih => exact ih
theorem noBs_rus (rs : List Ru) : noBs (rs.map Ru.told) = true := by
  induction rs with
  | nil => rfl
  | cons r rs ih => show (noB r.told && noBs (rs.map Ru.told)) = true; rw [ih, show noB r.told = true from by cases r <;> rfl]; rfl
theorem good_leaf (l : Lf) : fine 3 l.told = true ∧ noB l.told = true := by
  cases l with
  | full b s vs =>
    refine ⟨?_, ?_⟩
    · show (fine 2 (.str "full") && (true && (true && (fines 1 (vs.map .int) && true)))) = true
      rw [fines_ints, fstr so_full]; rfl
    · show (true && (true && (true && (noBs (vs.map .int) && true)))) = true
      rw [noBs_ints]; rfl
  | still b s k => exact ⟨by show (fine 2 (.str "still") && true) = true; rw [fstr so_still]; rfl, rfl⟩
  | woven b s rs =>
    refine ⟨?_, ?_⟩
    · show (fine 2 (.str "woven") && (true && (true && (fines 1 (rs.map Ru.told) && true)))) = true
      rw [fines_rus, fstr so_woven]; rfl
    · show (true && (true && (true && (noBs (rs.map Ru.told) && true)))) = true
      rw [noBs_rus]; rfl
def wAsked : PW0 := fun xs cs post _ => ∃ d : D, xs = [.dat d] ∧ cs = [] ∧ pl d = true ∧ post (.dat (.bl true)) []
theorem ok_l_asked (T : TxtP P K mg) : FnOk P w K mg base CX0 9 T.a_l_asked T.d_l_asked ["_law_thing_here"] (spG K wAsked) := by
  refine T.F_l_asked.ok sc_l_asked (fun vs H Q E h => spG_len h fun xs cs post exc ⟨a, e, _⟩ => by rw [e]; rfl) (fun cdv A outer s H vs Q E hr h => ⟨_, (pss_cons (ps_set (i := 1) sc_l_asked.nd rfl (Or.inl rfl) pe_non)
      (pss_cons (ps_set (i := 2) sc_l_asked.nd rfl (Or.inl rfl) pe_bl)
      (pss_cons (ps_set (i := 3) sc_l_asked.nd rfl (Or.inl rfl) pe_bl)
      (pss_cons (ps_tryT rfl rfl takes0
        (fun W pn xe tk po => (pss_one (ps_set (i := 1) sc_l_asked.nd rfl (Or.inl rfl) (pe_callS (ok_leaf_of T) (hr.mono (by decide)) (by rfl) T.g_leaf_of T.F_leaf_of.kp T.b_leaf_of (fun σ => passAt tk σ) (pa_cons (pv 0) pa_nil)))))
        (.named (i := 4) sc_l_asked.nd rfl rfl ⟨rfl, by decide, .inl T.g_ScrollError⟩ (fun a oe cls d pn hz hf => (pss_cons (ps_set (i := 2) sc_l_asked.nd rfl (Or.inl rfl) (pe_and (pe_callB (call_isE2 (K := K) rfl hz hf) (by rfl) T.m_isinstance (by decide +kernel) (pa_cons (pv 4) (pa_cons (pe_glob (v := .ref T.c_NoLeaf) (by rfl) T.g_NoLeaf rfl) pa_nil))) (pe_one (pe_callB (call_isE2 (K := K) rfl hz hf) (by rfl) T.m_isinstance (by decide +kernel) (pa_cons (pv 4) (pa_cons (pe_bltn (v := .ty "ValueError") (by rfl) T.m_ValueError (by decide +kernel) rfl) pa_nil))))))
      (pss_one (ps_set (i := 3) sc_l_asked.nd rfl (Or.inl rfl) (pe_callB (call_isEs (K := K) rfl hz hf) (by rfl) T.m_isinstance (by decide +kernel) (pa_cons (pv 4) (pa_cons (pe_tup (pa_cons (pe_glob (v := .ref T.c_NoRule) (by rfl) T.g_NoRule rfl) (pa_cons (pe_glob (v := .ref T.c_NoCell) (by rfl) T.g_NoCell rfl) (pa_cons (pe_glob (v := .ref T.c_NoNumber) (by rfl) T.g_NoNumber rfl) (pa_cons (pe_glob (v := .ref T.c_NoFilm) (by rfl) T.g_NoFilm rfl) pa_nil))))) pa_nil))))))) .nil))
      (pss_cons (ps_if (pt_val (pv 3)) (pss_one (ps_ret pe_bl)) pss_nil)
      (pss_cons (ps_if (pt_val (pe_call (ok_l_is_leaf T) (hr.mono (by decide)) (by rfl) T.g_l_is_leaf T.F_l_is_leaf.kp T.b_l_is_leaf .nil pass0 (pa_cons (pv 0) pa_nil))) (pss_one (ps_ret (pe_and (pe_not (pv 2)) (pe_and (pe_callB call_isi (by rfl) T.m_isinstance (by decide +kernel) (pa_cons (pv 1) (pa_cons (pe_glob (v := .ref T.c_Leaf) (by rfl) T.g_Leaf rfl) pa_nil))) (pe_one (pe_cmpR (op_eqD hr.units) (pe_either (pe_meth0 (pv 1) T.cl_Full T.mt_Full_told (ok_Full_told T) (hr.mono (by decide)) T.b_Full_told .nil pass0) (pe_either (pe_meth0 (pv 1) T.cl_Still T.mt_Still_told (ok_Still_told T) (hr.mono (by decide)) T.b_Still_told .nil pass0) (pe_meth0 (pv 1) T.cl_Woven T.mt_Woven_told (ok_Woven_told T) (hr.mono (by decide)) T.b_Woven_told .nil pass0))) (pv 0) (nomark _))))))) pss_nil)
      (pss_one (ps_ret (pv 2))))))))), enter h fun F xs cs post hE hw => ?_⟩)
  obtain ⟨d, rfl, rfl, hp, q⟩ := hw
  walk_at "D"
  walk_at "nr2"
  cases hd : isLf d with
  | false =>
    refine ws_tryT (fun C ρ' => C = T.c_NoLeaf ∧ ρ' = ⟨[some (.dat d), some (.dat .non), some (.dat (.bl false)), some (.dat (.bl false)), none], []⟩) (fun F1 W _ hW => ?_) (fun C ρ' hx => ?_)
    · walk_at "D"
      exact wspT hW (by walk_at "as") ⟨d, rfl, rfl, hp, fun _ => ⟨rfl, rfl⟩, fun l ok e => by rw [e, isLf_told ok] at hd; cases hd⟩
    · obtain ⟨rfl, rfl⟩ := hx
      refine ⟨true, T.em_NoLeaf_ScrollError, fun e => ?_⟩
      walk_at "D"
      refine we_cr (fun _ => Rep.cls _) ?_
      walk_at "D"
      refine wc_isE T.xc_NoLeaf T.io_NoLeaf_NoLeaf ?_
      walk_at "D"
      refine wc_isEB T.xc_NoLeaf T.io_NoLeaf_ValueError ?_
      refine wg_name ?_
      show WpS K F (tAsg _ _) _ _
      refine ws_asg ?_
      refine' we_isEs [T.c_NoRule, T.c_NoCell, T.c_NoNumber, T.c_NoFilm] ?hv1 rfl T.xc_NoLeaf (b := false) (kitAny_cons T.io_NoLeaf_NoRule (fun _ => kitAny_cons T.io_NoLeaf_NoCell (fun _ => kitAny_cons T.io_NoLeaf_NoNumber (fun _ => kitAny_cons T.io_NoLeaf_NoFilm (fun _ => rfl) (fun z => nomatch z)) (fun z => nomatch z)) (fun z => nomatch z)) (fun z => nomatch z)) ?hz9
      (case hv1 => exact rfl)
      walk_at "D"
      refine we_cr (fun _ => Rep.cls _) ?_
      walk_at "D"
      refine we_cr (fun _ => Rep.cls _) ?_
      walk_at "D"
      refine we_cr (fun _ => Rep.cls _) ?_
      walk_at "D"
      refine we_cr (fun _ => Rep.cls _) ?_
      walk_at "D"
      refine ⟨rfl, ?_⟩
      walk_at "D"
      show WpS K F _ _ _
      walk_at "D"
      walk_at "c"
      refine ⟨d, rfl, rfl, hp, ?_⟩
      rw [hd]
      refine aft_hard rfl ?_
      walk_at "D"
      exact fin_dat rfl q
  | true =>
    obtain ⟨l, ok, rfl⟩ := isLf_of hd
    refine ws_tryT (fun C ρ' => False) (fun F1 W _ hW => ?_) (fun C ρ' hx => hx.elim)
    walk_at "D"
    refine wspT hW (by walk_at "as") ⟨_, rfl, rfl, hp, (fun z => by rw [hd] at z; cases z), fun l2 ok2 e => ?_⟩
    have e := Lf.told_inj e
    subst e
    refine ⟨rfl, ?_⟩
    walk_at "D"
    walk_at "c"
    refine ⟨l.told, rfl, rfl, hp, ?_⟩
    rw [hd]
    refine aft_hard rfl ?_
    walk_at "D"
    refine we_cr (fun _ => Rep.cls _) ?_
    walk_at "D"
    have gl := good_leaf l
    cases l with
    | full b s vs =>
      refine wc_isO .dat T.ty_Full T.ki_Full_Leaf ?_
      walk_at "D"
      refine' we_lftold (c := ⟨T.c_Plain, T.c_Moved, T.c_Mixed, T.c_Full, T.c_Still, T.c_Woven⟩) (l := .full b s vs) ok ?lq1 ?lz1
      (case lq1 => exact rfl)
      walk_at "D"
      refine wr_eqD 3 (.dat _) (.dat _) gl.1 gl.1 (by decide) ?_
      rw [(eqD_iff _ _ gl.2 gl.2).mpr rfl]
      exact fin_dat rfl q
    | still b s n =>
      refine wc_isO .dat T.ty_Still T.ki_Still_Leaf ?_
      walk_at "D"
      refine' we_lftold (c := ⟨T.c_Plain, T.c_Moved, T.c_Mixed, T.c_Full, T.c_Still, T.c_Woven⟩) (l := .still b s n) ok ?lq2 ?lz2
      (case lq2 => exact rfl)
      walk_at "D"
      refine wr_eqD 3 (.dat _) (.dat _) gl.1 gl.1 (by decide) ?_
      rw [(eqD_iff _ _ gl.2 gl.2).mpr rfl]
      exact fin_dat rfl q
    | woven b s rs =>
      refine wc_isO .dat T.ty_Woven T.ki_Woven_Leaf ?_
      walk_at "D"
      refine' we_lftold (c := ⟨T.c_Plain, T.c_Moved, T.c_Mixed, T.c_Full, T.c_Still, T.c_Woven⟩) (l := .woven b s rs) ok ?lq3 ?lz3
      (case lq3 => exact rfl)
      walk_at "D"
      refine wr_eqD 3 (.dat _) (.dat _) gl.1 gl.1 (by decide) ?_
      rw [(eqD_iff _ _ gl.2 gl.2).mpr rfl]
      exact fin_dat rfl q
end

/-! ### a call with keywords; a law's promise -/
theorem we_callN {K : PySem.W.Frag} {F : Fx} {ρ : En} {k : AV → En → Prop} {n m : Nat} {sp : Sp} {gV : List V → List V → List V} {E : XK} {t tk : TA} (h : WpA K F t ρ fun xs ρ1 => WpA K F tk ρ1 fun ys ρ2 => ∃ zs, xs.length = n ∧ ys.length = m ∧ (∀ G as vs ws, RepAs K G as xs vs → RepAs K G as ys ws → RepAs K G as zs (gV vs ws)) ∧ WpSp K F sp (fun _ => E) zs ρ2 k) : WpE K F (L2.tCallN n m sp gV E t tk) ρ k := fun as σ H G e Q q =>
  h as σ H G e _ fun xs ρ1 vs as1 H1 G1 h1 e1 g1 r1 => h1 as1 σ H1 G1 e1 _ fun ys ρ2 ws as2 H2 G2 ⟨zs, l1, l2, hg, h2⟩ e2 g2 r2 => ⟨by rw [r1.length]; exact l1, by rw [r2.length]; exact l2, h2 as2 σ H2 G2 _ e2 (hg _ _ _ _ (r1.mono g2) r2) Q (q.imp (g1.trans g2) fun _ _ z => z)⟩
def spLaw (K : PySem.W.Frag) : Sp := fun vs H Q _ => ∃ (a : Addr) (ns : List Int), vs = [.ref a] ∧ SqL K H a (ns.map V.int) ∧ ns.length ≤ 63 ∧ ∀ H', Q (.bl true) H'
def wLaw : PW0 := fun xs cs post _ => ∃ ns : List Int, xs = [.dat (.scr (ns.map D.int))] ∧ cs = [] ∧ ns.length ≤ 63 ∧ post (.dat (.bl true)) []
theorem law_of {K : PySem.W.Frag} {vs : List V} {H : Hp} {Q : VK} {E : XK} (h : spLaw K vs H Q E) : spG K wLaw vs H Q E := by
  obtain ⟨a, ns, rfl, hs, hl, q⟩ := h
  refine ⟨H, [], [.dat (.scr (ns.map D.int))], [], fun r _ => r = .dat (.bl true), fun _ => False, Same.refl _, ⟨rfl, List.nodup_nil, fun j c a hc => by simp at hc⟩, .cons (Rep.scr hs Reps.ofV) .nil, ⟨ns, rfl, rfl, hl, rfl⟩, ?_, fun _ _ z => z.elim⟩
  intro r cs v H' G' hp _ _ _ _ _ rr
  subst hp
  rw [Rep.blE rr]
  exact q H'
theorem cut_ints (ns : List Int) (lo hi : Option Int) : ∃ ms : List Int, cutD (ns.map D.int) lo hi = ms.map D.int ∧ ms.length ≤ ns.length := by
  refine ⟨(ns.drop (HT.sIx ns.length 0 lo)).take (HT.sIx ns.length ns.length hi - HT.sIx ns.length 0 lo), ?_, ?_⟩
  · unfold cutD
    rw [List.length_map, List.map_take, List.map_drop]
  · rw [List.length_take, List.length_drop]
    omega
section
variable {P : Program} {w : World} {K : PySem.W.Frag} {mg : Str → Option Value} {base : Heap}
theorem row_start {r : List D} (h : Row 2 r) (hl : r.length = 4) : Pa 3 17 (.tup r) := by
  obtain ⟨a, b, c⟩ := h
  refine ⟨by rw [pl]; exact a, by rw [fine]; exact b, ?_⟩
  rw [lnD, c, hl]; rfl
theorem wsp_asked {F : Fx} {ρ : En} {k : AV → En → Prop} {E : L2.St → XK} {x : AV} {d : D} (hx : OfD ρ x d) (hp : pl d = true) (hk : k (.dat (.bl true)) ρ) : WpSp K F (spG K wAsked) E [x] ρ k :=
  wspE (hx.as .nil) ⟨d, rfl, rfl, hp, aft_hard rfl hk⟩
theorem ok_law (T : TxtP P K mg) : FnOk P w K mg base CX0 21 T.a_law T.d_law ["_law_script"] (spLaw K) := by
  refine FnOk.imp (sp := spG K wLaw) ?_ (fun vs H Q E h => law_of h)
  refine T.F_law.ok sc_law (fun vs H Q E h => spG_len h fun xs cs post exc ⟨a, e, _⟩ => by rw [e]; rfl) (fun cdv A outer s H vs Q E hr h => ⟨_, (pss_cons (ps_set (i := 1) sc_law.nd rfl (Or.inl rfl) (pe_call (ok_l_leaf T) (hr.mono (by decide)) (by rfl) T.g_l_leaf T.F_l_leaf.kp T.b_l_leaf .nil pass0 (pa_cons (pe_call (ok_l_well T) (hr.mono (by decide)) (by rfl) T.g_l_well T.F_l_well.kp T.b_l_well .nil pass0 (pa_cons (pv 0) (pa_cons pe_int pa_nil))) pa_nil)))
      (pss_cons (ps_set (i := 2) sc_law.nd rfl (Or.inl rfl) (pe_call (ok_l_well T) (hr.mono (by decide)) (by rfl) T.g_l_well T.F_l_well.kp T.b_l_well .nil pass0 (pa_cons (pv 0) (pa_cons pe_int pa_nil))))
      (pss_cons (ps_set (i := 3) sc_law.nd rfl (Or.inl rfl) (pe_call (ok_l_draw T) (hr.mono (by decide)) (by rfl) T.g_l_draw T.F_l_draw.kp T.b_l_draw .nil pass0 (pa_cons (pv 2) (pa_cons pe_int pa_nil))))
      (pss_cons (ps_set (i := 4) sc_law.nd rfl (Or.inl rfl) (pe_cmpR op_eq (pe_call (ok_l_draw T) (hr.mono (by decide)) (by rfl) T.g_l_draw T.F_l_draw.kp T.b_l_draw .nil pass0 (pa_cons (pv 2) (pa_cons pe_int pa_nil))) pe_int (nomark _)))
      (pss_cons (ps_if (pt_cmpR op_eq (pv 3) pe_int (nomark _)) (pss_one (ps_ret (pe_and (pe_call (ok_l_asked T) (hr.mono (by decide)) (by rfl) T.g_l_asked T.F_l_asked.kp T.b_l_asked .nil pass0 (pa_cons (pe_call (ok_l_thing T) (hr.mono (by decide)) (by rfl) T.g_l_thing T.F_l_thing.kp T.b_l_thing .nil pass0 (pa_cons (pv 2) (pa_cons (pv 1) pa_nil))) pa_nil)) (pe_one (pe_call (ok_l_asked T) (hr.mono (by decide)) (by rfl) T.g_l_asked T.F_l_asked.kp T.b_l_asked .nil pass0 (pa_cons (pv 1) pa_nil)))))) pss_nil)
      (pss_cons (ps_set (i := 5) sc_law.nd rfl (Or.inl rfl) (pe_call (ok_l_changed T) (hr.mono (by decide)) (by rfl) T.g_l_changed T.F_l_changed.kp T.b_l_changed .nil pass0 (pa_cons (pv 2) (pa_cons (pv 1) pa_nil))))
      (pss_cons (ps_if (pt_val (pv 4)) (pss_one (ps_set (i := 5) sc_law.nd rfl (Or.inl rfl) (pe_call (ok_l_changed T) (hr.mono (by decide)) (by rfl) T.g_l_changed T.F_l_changed.kp T.b_l_changed .nil pass0 (pa_cons (pv 2) (pa_cons (pv 5) pa_nil))))) pss_nil)
      (pss_one (ps_ret (pe_and (pe_call (ok_l_asked T) (hr.mono (by decide)) (by rfl) T.g_l_asked T.F_l_asked.kp T.b_l_asked .nil pass0 (pa_cons (pv 5) pa_nil)) (pe_and (pe_call (ok_l_asked T) (hr.mono (by decide)) (by rfl) T.g_l_asked T.F_l_asked.kp T.b_l_asked .nil pass0 (pa_cons (pv 1) pa_nil)) (pe_and (pe_call (ok_l_asked T) (hr.mono (by decide)) (by rfl) T.g_l_asked T.F_l_asked.kp T.b_l_asked .nil pass0 (pa_cons (pe_callTy call_list_of (by rfl) T.m_list (by decide +kernel) (pa_cons (pv 1) pa_nil)) pa_nil)) (pe_one (pe_call (ok_l_asked T) (hr.mono (by decide)) (by rfl) T.g_l_asked T.F_l_asked.kp T.b_l_asked .nil pass0 (pa_cons (pv 5) pa_nil))))))))))))))), enter h fun F xs cs post hE hw => ?_⟩)
  obtain ⟨ns, rfl, rfl, hn, q⟩ := hw
  walk_at "D"
  walk_at "c"
  refine ⟨ns, 0, rfl, rfl, by decide, fun s1 hs1 => ⟨rfl, ?_⟩⟩
  walk_at "D"
  refine wsp1 (j := 0) rfl rfl rfl ⟨s1, rfl, rfl, hs1, fun r s1' hr hl hs1' => ⟨.lst s1', rfl, rfl, ?_⟩⟩
  walk_at "D"
  walk_at "c"
  refine ⟨ns, 1, rfl, rfl, by decide, fun s2 hs2 => ⟨rfl, ?_⟩⟩
  walk_at "D"
  refine wsp_draw (j := 1) rfl hs2 (by decide) (by decide) fun wy s3 w0 w1 hs3 => ?_
  walk_at "D"
  refine wsp_draw (j := 1) rfl hs3 (by decide) (by decide) fun tw s4 t0 t1 hs4 => ?_
  walk_at "D"
  have pr := row_start hr hl
  have prr : pls r = true := hr.1
  walk_at "nr4"
  refine ifC (fun _ => ?_) (fun _ => ?_)
  · walk_at "D"
    refine wsp1 (j := 1) rfl rfl rfl ⟨s4, r, rfl, rfl, hs4, prr, fun d s5 hs5 pd => ⟨.lst s5, rfl, rfl, ?_⟩, fun ds s5 hs5 pd => ⟨.lst s5, rfl, rfl, ?_⟩⟩
    · walk_at "D"
      refine wsp_asked (.dat d) pd ?_
      walk_at "D"
      refine wsp_asked (.dat _) pr.1 ?_
      exact fin_dat rfl q
    · walk_at "D"
      refine wsp_asked (.cel rfl) (by rw [pl]; exact pd) ?_
      walk_at "D"
      refine wsp_asked (.dat _) pr.1 ?_
      exact fin_dat rfl q
  · walk_at "D"
    refine wsp1 (j := 1) rfl rfl rfl ⟨3, by decide, s4, r, 17, rfl, rfl, hs4, pr, by decide, by decide, fun row' s5 hs5 hp' => ⟨.lst s5, rfl, rfl, ?_⟩⟩
    walk_at "D"
    refine ifC (fun _ => ?_) (fun _ => ?_)
    · walk_at "D"
      walk_at "nr4"
      refine wsp1 (j := 1) rfl rfl rfl ⟨5, by decide, s5, row', 18, rfl, rfl, hs5, hp', by decide, by decide, fun row2 s6 hs6 hp2 => ⟨.lst s6, rfl, rfl, ?_⟩⟩
      walk_at "D"
      walk_at "nr4"
      walk_at "D"
      refine wsp_asked (.dat _) hp2.1 ?_
      walk_at "D"
      refine wsp_asked (.dat _) pr.1 ?_
      walk_at "D"
      refine wsp_asked (.cel rfl) (by rw [pl]; exact prr) ?_
      walk_at "D"
      refine wsp_asked (.dat _) hp2.1 ?_
      exact fin_dat rfl q
    · walk_at "D"
      walk_at "nr4"
      walk_at "D"
      refine wsp_asked (.dat _) hp'.1 ?_
      walk_at "D"
      refine wsp_asked (.dat _) pr.1 ?_
      walk_at "D"
      refine wsp_asked (.cel rfl) (by rw [pl]; exact prr) ?_
      walk_at "D"
      refine wsp_asked (.dat _) hp'.1 ?_
      exact fin_dat rfl q
end
theorem sup_binds {P : Program} {K : PySem.W.Frag} {nm q me : Str} {ar : _} {bd : _} {sc : Scope} {f D fb cc co : Addr} {fd : FuncData} {ps : List Str} (_ : Sup P K nm q ar bd sc me f D fb cc co fd) (h : ∀ us : List Value, us.length = ps.length → bindArgs fd ⟨us, []⟩ = pure (ps.zip us)) : Binds K fd ps [] := .all h
theorem sup_kb {P : Program} {K : PySem.W.Frag} {nm q me : Str} {ar : _} {bd : _} {sc : Scope} {f D fb cc co : Addr} {fd : FuncData} {ps ks : List Str} {n : Nat} {g : {α : Type} → List α → List α → List α} (_ : Sup P K nm q ar bd sc me f D fb cc co fd) (h : ∀ us ws : List Value, us.length = n → ws.length = ks.length → bindArgs fd ⟨us, ks.zip ws⟩ = pure (ps.zip (g us ws))) (hrel : ∀ {vs : List V} {us : List Value} {zs : List V} {ws : List Value}, Vals vs us → Vals zs ws → Vals (g vs zs) (g us ws)) : KBn K fd ps n ks (fun us ws => g us ws) (fun us ws => g us ws) := ⟨fun s us ws _ h1 h2 => .of_eq (h us ws h1 h2), fun r1 r2 => hrel r1 r2⟩
theorem all_mk {l : PySem.W.OpenLaw} {w : World} {K : PySem.W.Frag} {h : Heap} {mg : Str → Option Value} {fa : Addr} (X : K.In h) (G : h.Ns mainGlobals mg) (hfa : mg "law" = some (.ref fa))
    {f0 : Addr} {od0 an0 : Option Addr} {sl0 : Array (Option Value)} {oc0 kV0 dc0 pm0 cd0 ct0 : Value}
    (a0 : PySem.W.nsIn K mainGlobals "is_number" = some (some (.ref f0)))
    (l0 : K.lookup f0 = some ⟨oc0, od0, .func (PySem.W.fnOf "is_number" "is_number" (defArgs s_is_number) (defBody s_is_number) (defScope s_is_number) .none kV0 dc0 pm0 an0 cd0 ct0), sl0⟩) (c0 : PySem.W.codeIn K cd0 "is_number" = true) (k0 : PySem.W.keepIn K (.ref f0) = true)
    {f1 : Addr} {od1 an1 : Option Addr} {sl1 : Array (Option Value)} {oc1 kV1 dc1 pm1 cd1 ct1 : Value}
    (a1 : PySem.W.nsIn K mainGlobals "is_whole" = some (some (.ref f1)))
    (l1 : K.lookup f1 = some ⟨oc1, od1, .func (PySem.W.fnOf "is_whole" "is_whole" (defArgs s_is_whole) (defBody s_is_whole) (defScope s_is_whole) .none kV1 dc1 pm1 an1 cd1 ct1), sl1⟩) (c1 : PySem.W.codeIn K cd1 "is_whole" = true) (k1 : PySem.W.keepIn K (.ref f1) = true)
    {f2 : Addr} {od2 an2 : Option Addr} {sl2 : Array (Option Value)} {oc2 kV2 dc2 pm2 cd2 ct2 : Value}
    {D2 : Addr} (y2 : PySem.W.nsIn K mainGlobals "Rule" = some (some (.ref D2))) (a2 : PySem.W.findIn K (.ref D2) "told" = some (some (.ref f2)))
    (l2 : K.lookup f2 = some ⟨oc2, od2, .func (PySem.W.fnOf "told" "Rule.told" (defArgs s_Rule_told) (defBody s_Rule_told) (defScope s_Rule_told) .none kV2 dc2 pm2 an2 cd2 ct2), sl2⟩) (c2 : PySem.W.codeIn K cd2 "Rule.told" = true) (k2 : PySem.W.keepIn K (.ref f2) = true)
    {f3 : Addr} {od3 an3 : Option Addr} {sl3 : Array (Option Value)} {oc3 kV3 dc3 pm3 cd3 ct3 : Value}
    {D3 : Addr} (y3 : PySem.W.nsIn K mainGlobals "Rule" = some (some (.ref D3))) (a3 : PySem.W.findIn K (.ref D3) "needs" = some (some (.ref f3)))
    (l3 : K.lookup f3 = some ⟨oc3, od3, .func (PySem.W.fnOf "needs" "Rule.needs" (defArgs s_Rule_needs) (defBody s_Rule_needs) (defScope s_Rule_needs) .none kV3 dc3 pm3 an3 cd3 ct3), sl3⟩) (c3 : PySem.W.codeIn K cd3 "Rule.needs" = true) (k3 : PySem.W.keepIn K (.ref f3) = true)
    {f4 : Addr} {od4 an4 : Option Addr} {sl4 : Array (Option Value)} {oc4 kV4 dc4 pm4 cd4 ct4 : Value}
    {D4 : Addr} (y4 : PySem.W.nsIn K mainGlobals "Rule" = some (some (.ref D4))) (a4 : PySem.W.findIn K (.ref D4) "value" = some (some (.ref f4)))
    (l4 : K.lookup f4 = some ⟨oc4, od4, .func (PySem.W.fnOf "value" "Rule.value" (defArgs s_Rule_value) (defBody s_Rule_value) (defScope s_Rule_value) .none kV4 dc4 pm4 an4 cd4 ct4), sl4⟩) (c4 : PySem.W.codeIn K cd4 "Rule.value" = true) (k4 : PySem.W.keepIn K (.ref f4) = true)
    {f5 : Addr} {od5 an5 : Option Addr} {sl5 : Array (Option Value)} {oc5 kV5 dc5 pm5 cd5 ct5 : Value}
    {D5 : Addr} (y5 : PySem.W.nsIn K mainGlobals "Plain" = some (some (.ref D5))) (a5 : PySem.W.findIn K (.ref D5) "__init__" = some (some (.ref f5)))
    (l5 : K.lookup f5 = some ⟨oc5, od5, .func (PySem.W.fnOf "__init__" "Plain.__init__" (defArgs s_Plain_init) (defBody s_Plain_init) (defScope s_Plain_init) .none kV5 dc5 pm5 an5 cd5 ct5), sl5⟩) (c5 : PySem.W.codeIn K cd5 "Plain.__init__" = true) (k5 : PySem.W.keepIn K (.ref f5) = true)
    {f6 : Addr} {od6 an6 : Option Addr} {sl6 : Array (Option Value)} {oc6 kV6 dc6 pm6 cd6 ct6 : Value}
    {D6 : Addr} (y6 : PySem.W.nsIn K mainGlobals "Plain" = some (some (.ref D6))) (a6 : PySem.W.findIn K (.ref D6) "__str__" = some (some (.ref f6)))
    (l6 : K.lookup f6 = some ⟨oc6, od6, .func (PySem.W.fnOf "__str__" "Plain.__str__" (defArgs s_Plain_str) (defBody s_Plain_str) (defScope s_Plain_str) .none kV6 dc6 pm6 an6 cd6 ct6), sl6⟩) (c6 : PySem.W.codeIn K cd6 "Plain.__str__" = true) (k6 : PySem.W.keepIn K (.ref f6) = true)
    {f7 : Addr} {od7 an7 : Option Addr} {sl7 : Array (Option Value)} {oc7 kV7 dc7 pm7 cd7 ct7 : Value}
    {D7 : Addr} (y7 : PySem.W.nsIn K mainGlobals "Plain" = some (some (.ref D7))) (a7 : PySem.W.findIn K (.ref D7) "told" = some (some (.ref f7)))
    (l7 : K.lookup f7 = some ⟨oc7, od7, .func (PySem.W.fnOf "told" "Plain.told" (defArgs s_Plain_told) (defBody s_Plain_told) (defScope s_Plain_told) .none kV7 dc7 pm7 an7 cd7 ct7), sl7⟩) (c7 : PySem.W.codeIn K cd7 "Plain.told" = true) (k7 : PySem.W.keepIn K (.ref f7) = true)
    {f8 : Addr} {od8 an8 : Option Addr} {sl8 : Array (Option Value)} {oc8 kV8 dc8 pm8 cd8 ct8 : Value}
    {D8 : Addr} (y8 : PySem.W.nsIn K mainGlobals "Plain" = some (some (.ref D8))) (a8 : PySem.W.findIn K (.ref D8) "needs" = some (some (.ref f8)))
    (l8 : K.lookup f8 = some ⟨oc8, od8, .func (PySem.W.fnOf "needs" "Plain.needs" (defArgs s_Plain_needs) (defBody s_Plain_needs) (defScope s_Plain_needs) .none kV8 dc8 pm8 an8 cd8 ct8), sl8⟩) (c8 : PySem.W.codeIn K cd8 "Plain.needs" = true) (k8 : PySem.W.keepIn K (.ref f8) = true)
    {f9 : Addr} {od9 an9 : Option Addr} {sl9 : Array (Option Value)} {oc9 kV9 dc9 pm9 cd9 ct9 : Value}
    {D9 : Addr} (y9 : PySem.W.nsIn K mainGlobals "Plain" = some (some (.ref D9))) (a9 : PySem.W.findIn K (.ref D9) "value" = some (some (.ref f9)))
    (l9 : K.lookup f9 = some ⟨oc9, od9, .func (PySem.W.fnOf "value" "Plain.value" (defArgs s_Plain_value) (defBody s_Plain_value) (defScope s_Plain_value) .none kV9 dc9 pm9 an9 cd9 ct9), sl9⟩) (c9 : PySem.W.codeIn K cd9 "Plain.value" = true) (k9 : PySem.W.keepIn K (.ref f9) = true)
    {f10 : Addr} {od10 an10 : Option Addr} {sl10 : Array (Option Value)} {oc10 kV10 dc10 pm10 cd10 ct10 : Value}
    {D10 : Addr} (y10 : PySem.W.nsIn K mainGlobals "Moved" = some (some (.ref D10))) (a10 : PySem.W.findIn K (.ref D10) "__init__" = some (some (.ref f10)))
    (l10 : K.lookup f10 = some ⟨oc10, od10, .func (PySem.W.fnOf "__init__" "Moved.__init__" (defArgs s_Moved_init) (defBody s_Moved_init) (defScope s_Moved_init) .none kV10 dc10 pm10 an10 cd10 ct10), sl10⟩) (c10 : PySem.W.codeIn K cd10 "Moved.__init__" = true) (k10 : PySem.W.keepIn K (.ref f10) = true)
    {f11 : Addr} {od11 an11 : Option Addr} {sl11 : Array (Option Value)} {oc11 kV11 dc11 pm11 cd11 ct11 : Value}
    {D11 : Addr} (y11 : PySem.W.nsIn K mainGlobals "Moved" = some (some (.ref D11))) (a11 : PySem.W.findIn K (.ref D11) "__str__" = some (some (.ref f11)))
    (l11 : K.lookup f11 = some ⟨oc11, od11, .func (PySem.W.fnOf "__str__" "Moved.__str__" (defArgs s_Moved_str) (defBody s_Moved_str) (defScope s_Moved_str) .none kV11 dc11 pm11 an11 cd11 ct11), sl11⟩) (c11 : PySem.W.codeIn K cd11 "Moved.__str__" = true) (k11 : PySem.W.keepIn K (.ref f11) = true)
    {f12 : Addr} {od12 an12 : Option Addr} {sl12 : Array (Option Value)} {oc12 kV12 dc12 pm12 cd12 ct12 : Value}
    {D12 : Addr} (y12 : PySem.W.nsIn K mainGlobals "Moved" = some (some (.ref D12))) (a12 : PySem.W.findIn K (.ref D12) "told" = some (some (.ref f12)))
    (l12 : K.lookup f12 = some ⟨oc12, od12, .func (PySem.W.fnOf "told" "Moved.told" (defArgs s_Moved_told) (defBody s_Moved_told) (defScope s_Moved_told) .none kV12 dc12 pm12 an12 cd12 ct12), sl12⟩) (c12 : PySem.W.codeIn K cd12 "Moved.told" = true) (k12 : PySem.W.keepIn K (.ref f12) = true)
    {f13 : Addr} {od13 an13 : Option Addr} {sl13 : Array (Option Value)} {oc13 kV13 dc13 pm13 cd13 ct13 : Value}
    {D13 : Addr} (y13 : PySem.W.nsIn K mainGlobals "Moved" = some (some (.ref D13))) (a13 : PySem.W.findIn K (.ref D13) "needs" = some (some (.ref f13)))
    (l13 : K.lookup f13 = some ⟨oc13, od13, .func (PySem.W.fnOf "needs" "Moved.needs" (defArgs s_Moved_needs) (defBody s_Moved_needs) (defScope s_Moved_needs) .none kV13 dc13 pm13 an13 cd13 ct13), sl13⟩) (c13 : PySem.W.codeIn K cd13 "Moved.needs" = true) (k13 : PySem.W.keepIn K (.ref f13) = true)
    {f14 : Addr} {od14 an14 : Option Addr} {sl14 : Array (Option Value)} {oc14 kV14 dc14 pm14 cd14 ct14 : Value}
    {D14 : Addr} (y14 : PySem.W.nsIn K mainGlobals "Moved" = some (some (.ref D14))) (a14 : PySem.W.findIn K (.ref D14) "value" = some (some (.ref f14)))
    (l14 : K.lookup f14 = some ⟨oc14, od14, .func (PySem.W.fnOf "value" "Moved.value" (defArgs s_Moved_value) (defBody s_Moved_value) (defScope s_Moved_value) .none kV14 dc14 pm14 an14 cd14 ct14), sl14⟩) (c14 : PySem.W.codeIn K cd14 "Moved.value" = true) (k14 : PySem.W.keepIn K (.ref f14) = true)
    {f15 : Addr} {od15 an15 : Option Addr} {sl15 : Array (Option Value)} {oc15 kV15 dc15 pm15 cd15 ct15 : Value}
    {D15 : Addr} (y15 : PySem.W.nsIn K mainGlobals "Mixed" = some (some (.ref D15))) (a15 : PySem.W.findIn K (.ref D15) "__init__" = some (some (.ref f15)))
    (l15 : K.lookup f15 = some ⟨oc15, od15, .func (PySem.W.fnOf "__init__" "Mixed.__init__" (defArgs s_Mixed_init) (defBody s_Mixed_init) (defScope s_Mixed_init) .none kV15 dc15 pm15 an15 cd15 ct15), sl15⟩) (c15 : PySem.W.codeIn K cd15 "Mixed.__init__" = true) (k15 : PySem.W.keepIn K (.ref f15) = true)
    {f16 : Addr} {od16 an16 : Option Addr} {sl16 : Array (Option Value)} {oc16 kV16 dc16 pm16 cd16 ct16 : Value}
    {D16 : Addr} (y16 : PySem.W.nsIn K mainGlobals "Mixed" = some (some (.ref D16))) (a16 : PySem.W.findIn K (.ref D16) "__str__" = some (some (.ref f16)))
    (l16 : K.lookup f16 = some ⟨oc16, od16, .func (PySem.W.fnOf "__str__" "Mixed.__str__" (defArgs s_Mixed_str) (defBody s_Mixed_str) (defScope s_Mixed_str) .none kV16 dc16 pm16 an16 cd16 ct16), sl16⟩) (c16 : PySem.W.codeIn K cd16 "Mixed.__str__" = true) (k16 : PySem.W.keepIn K (.ref f16) = true)
    {f17 : Addr} {od17 an17 : Option Addr} {sl17 : Array (Option Value)} {oc17 kV17 dc17 pm17 cd17 ct17 : Value}
    {D17 : Addr} (y17 : PySem.W.nsIn K mainGlobals "Mixed" = some (some (.ref D17))) (a17 : PySem.W.findIn K (.ref D17) "told" = some (some (.ref f17)))
    (l17 : K.lookup f17 = some ⟨oc17, od17, .func (PySem.W.fnOf "told" "Mixed.told" (defArgs s_Mixed_told) (defBody s_Mixed_told) (defScope s_Mixed_told) .none kV17 dc17 pm17 an17 cd17 ct17), sl17⟩) (c17 : PySem.W.codeIn K cd17 "Mixed.told" = true) (k17 : PySem.W.keepIn K (.ref f17) = true)
    {f18 : Addr} {od18 an18 : Option Addr} {sl18 : Array (Option Value)} {oc18 kV18 dc18 pm18 cd18 ct18 : Value}
    {D18 : Addr} (y18 : PySem.W.nsIn K mainGlobals "Mixed" = some (some (.ref D18))) (a18 : PySem.W.findIn K (.ref D18) "needs" = some (some (.ref f18)))
    (l18 : K.lookup f18 = some ⟨oc18, od18, .func (PySem.W.fnOf "needs" "Mixed.needs" (defArgs s_Mixed_needs) (defBody s_Mixed_needs) (defScope s_Mixed_needs) .none kV18 dc18 pm18 an18 cd18 ct18), sl18⟩) (c18 : PySem.W.codeIn K cd18 "Mixed.needs" = true) (k18 : PySem.W.keepIn K (.ref f18) = true)
    {f19 : Addr} {od19 an19 : Option Addr} {sl19 : Array (Option Value)} {oc19 kV19 dc19 pm19 cd19 ct19 : Value}
    {D19 : Addr} (y19 : PySem.W.nsIn K mainGlobals "Mixed" = some (some (.ref D19))) (a19 : PySem.W.findIn K (.ref D19) "value" = some (some (.ref f19)))
    (l19 : K.lookup f19 = some ⟨oc19, od19, .func (PySem.W.fnOf "value" "Mixed.value" (defArgs s_Mixed_value) (defBody s_Mixed_value) (defScope s_Mixed_value) .none kV19 dc19 pm19 an19 cd19 ct19), sl19⟩) (c19 : PySem.W.codeIn K cd19 "Mixed.value" = true) (k19 : PySem.W.keepIn K (.ref f19) = true)
    {f20 : Addr} {od20 an20 : Option Addr} {sl20 : Array (Option Value)} {oc20 kV20 dc20 pm20 cd20 ct20 : Value}
    (a20 : PySem.W.nsIn K mainGlobals "is_value" = some (some (.ref f20)))
    (l20 : K.lookup f20 = some ⟨oc20, od20, .func (PySem.W.fnOf "is_value" "is_value" (defArgs s_is_value) (defBody s_is_value) (defScope s_is_value) .none kV20 dc20 pm20 an20 cd20 ct20), sl20⟩) (c20 : PySem.W.codeIn K cd20 "is_value" = true) (k20 : PySem.W.keepIn K (.ref f20) = true)
    {f21 : Addr} {od21 an21 : Option Addr} {sl21 : Array (Option Value)} {oc21 kV21 dc21 pm21 cd21 ct21 : Value}
    (a21 : PySem.W.nsIn K mainGlobals "is_back" = some (some (.ref f21)))
    (l21 : K.lookup f21 = some ⟨oc21, od21, .func (PySem.W.fnOf "is_back" "is_back" (defArgs s_is_back) (defBody s_is_back) (defScope s_is_back) .none kV21 dc21 pm21 an21 cd21 ct21), sl21⟩) (c21 : PySem.W.codeIn K cd21 "is_back" = true) (k21 : PySem.W.keepIn K (.ref f21) = true)
    {f22 : Addr} {od22 an22 : Option Addr} {sl22 : Array (Option Value)} {oc22 kV22 dc22 pm22 cd22 ct22 : Value}
    (a22 : PySem.W.nsIn K mainGlobals "is_cell" = some (some (.ref f22)))
    (l22 : K.lookup f22 = some ⟨oc22, od22, .func (PySem.W.fnOf "is_cell" "is_cell" (defArgs s_is_cell) (defBody s_is_cell) (defScope s_is_cell) .none kV22 dc22 pm22 an22 cd22 ct22), sl22⟩) (c22 : PySem.W.codeIn K cd22 "is_cell" = true) (k22 : PySem.W.keepIn K (.ref f22) = true)
    {f23 : Addr} {od23 an23 : Option Addr} {sl23 : Array (Option Value)} {oc23 kV23 dc23 pm23 cd23 ct23 : Value}
    (a23 : PySem.W.nsIn K mainGlobals "is_rule" = some (some (.ref f23)))
    (l23 : K.lookup f23 = some ⟨oc23, od23, .func (PySem.W.fnOf "is_rule" "is_rule" (defArgs s_is_rule) (defBody s_is_rule) (defScope s_is_rule) .none kV23 dc23 pm23 an23 cd23 ct23), sl23⟩) (c23 : PySem.W.codeIn K cd23 "is_rule" = true) (k23 : PySem.W.keepIn K (.ref f23) = true)
    {f24 : Addr} {od24 an24 : Option Addr} {sl24 : Array (Option Value)} {oc24 kV24 dc24 pm24 cd24 ct24 : Value}
    (a24 : PySem.W.nsIn K mainGlobals "rule_of" = some (some (.ref f24)))
    (l24 : K.lookup f24 = some ⟨oc24, od24, .func (PySem.W.fnOf "rule_of" "rule_of" (defArgs s_rule_of) (defBody s_rule_of) (defScope s_rule_of) .none kV24 dc24 pm24 an24 cd24 ct24), sl24⟩) (c24 : PySem.W.codeIn K cd24 "rule_of" = true) (k24 : PySem.W.keepIn K (.ref f24) = true)
    {f25 : Addr} {od25 an25 : Option Addr} {sl25 : Array (Option Value)} {oc25 kV25 dc25 pm25 cd25 ct25 : Value}
    {D25 : Addr} (y25 : PySem.W.nsIn K mainGlobals "Leaf" = some (some (.ref D25))) (a25 : PySem.W.findIn K (.ref D25) "__init__" = some (some (.ref f25)))
    (l25 : K.lookup f25 = some ⟨oc25, od25, .func (PySem.W.fnOf "__init__" "Leaf.__init__" (defArgs s_Leaf_init) (defBody s_Leaf_init) (defScope s_Leaf_init) .none kV25 dc25 pm25 an25 cd25 ct25), sl25⟩) (c25 : PySem.W.codeIn K cd25 "Leaf.__init__" = true) (k25 : PySem.W.keepIn K (.ref f25) = true)
    {f26 : Addr} {od26 an26 : Option Addr} {sl26 : Array (Option Value)} {oc26 kV26 dc26 pm26 cd26 ct26 : Value}
    {D26 : Addr} (y26 : PySem.W.nsIn K mainGlobals "Leaf" = some (some (.ref D26))) (a26 : PySem.W.findIn K (.ref D26) "told" = some (some (.ref f26)))
    (l26 : K.lookup f26 = some ⟨oc26, od26, .func (PySem.W.fnOf "told" "Leaf.told" (defArgs s_Leaf_told) (defBody s_Leaf_told) (defScope s_Leaf_told) .none kV26 dc26 pm26 an26 cd26 ct26), sl26⟩) (c26 : PySem.W.codeIn K cd26 "Leaf.told" = true) (k26 : PySem.W.keepIn K (.ref f26) = true)
    {f27 : Addr} {od27 an27 : Option Addr} {sl27 : Array (Option Value)} {oc27 kV27 dc27 pm27 cd27 ct27 : Value}
    {D27 : Addr} (y27 : PySem.W.nsIn K mainGlobals "Leaf" = some (some (.ref D27))) (a27 : PySem.W.findIn K (.ref D27) "cells" = some (some (.ref f27)))
    (l27 : K.lookup f27 = some ⟨oc27, od27, .func (PySem.W.fnOf "cells" "Leaf.cells" (defArgs s_Leaf_cells) (defBody s_Leaf_cells) (defScope s_Leaf_cells) .none kV27 dc27 pm27 an27 cd27 ct27), sl27⟩) (c27 : PySem.W.codeIn K cd27 "Leaf.cells" = true) (k27 : PySem.W.keepIn K (.ref f27) = true)
    {f28 : Addr} {od28 an28 : Option Addr} {sl28 : Array (Option Value)} {oc28 kV28 dc28 pm28 cd28 ct28 : Value}
    {D28 : Addr} (y28 : PySem.W.nsIn K mainGlobals "Leaf" = some (some (.ref D28))) (a28 : PySem.W.findIn K (.ref D28) "rule" = some (some (.ref f28)))
    (l28 : K.lookup f28 = some ⟨oc28, od28, .func (PySem.W.fnOf "rule" "Leaf.rule" (defArgs s_Leaf_rule) (defBody s_Leaf_rule) (defScope s_Leaf_rule) .none kV28 dc28 pm28 an28 cd28 ct28), sl28⟩) (c28 : PySem.W.codeIn K cd28 "Leaf.rule" = true) (k28 : PySem.W.keepIn K (.ref f28) = true)
    {f29 : Addr} {od29 an29 : Option Addr} {sl29 : Array (Option Value)} {oc29 kV29 dc29 pm29 ct29 : Value}
    {cc29 co29 D29 : Addr} {ccl29 cel29 : Value} {cdd29 ced29 : Option Addr} {cvs29 : Array Value} {ccs29 ces29 : Array (Option Value)} {fl29 : Str} {tf29 : Tok} {cdD29 : ClassData} {ar29 : Arg}
    (y29 : PySem.W.nsIn K mainGlobals "Full" = some (some (.ref D29))) (a29 : PySem.W.findIn K (.ref D29) "__init__" = some (some (.ref f29)))
    (l29 : K.lookup f29 = some ⟨oc29, od29, .func (PySem.W.ksFn "__init__" "Full.__init__" (defArgs s_Full_init) (defBody s_Full_init) (defScope s_Full_init) .none kV29 dc29 pm29 an29 (.ref co29) ct29 cc29), sl29⟩) (c29 : PySem.W.codeIn K (.ref co29) "Full.__init__" = true)
    (u1_29 : K.lookup co29 = some ⟨ccl29, cdd29, .fields cvs29, ccs29⟩) (u2_29 : cvs29[2]? = some (.str fl29 tf29)) (u3_29 : ((l.prog.main.file : Str) == fl29) = true) (u4_29 : K.lookup cc29 = some ⟨cel29, ced29, .cell (some (.ref D29)), ces29⟩) (u5_29 : PySem.W.clsIn K D29 = some cdD29) (u6_29 : PySem.W.mroIn K D29 (.ref D29) = some true) (u7_29 : PySem.W.nsIn K mainGlobals "super" = some none) (u8_29 : (l.prog.main.scope.names.lookup ("super" : Str)).isSome = false)
    (u9_29 : PySem.W.ks_superIn K D29 D29 "__init__" = some (some (.ref f25))) (v1_29 : PySem.W.typeIn K (.ref f25) = some (.type "function")) (v2_29 : PySem.W.fnIn K f25 = true) (v3_29 : PySem.W.nsIn K cStatics "thirdparty.any" = some none)
    (v4_29 : ((defArgs s_Full_init).posonlyargs ++ (defArgs s_Full_init).args).head? = some ar29) (v5_29 : ar29.arg = ("self" : Str)) (k29 : PySem.W.keepIn K (.ref f29) = true)
    {f30 : Addr} {od30 an30 : Option Addr} {sl30 : Array (Option Value)} {oc30 kV30 dc30 pm30 cd30 ct30 : Value}
    {D30 : Addr} (y30 : PySem.W.nsIn K mainGlobals "Full" = some (some (.ref D30))) (a30 : PySem.W.findIn K (.ref D30) "told" = some (some (.ref f30)))
    (l30 : K.lookup f30 = some ⟨oc30, od30, .func (PySem.W.fnOf "told" "Full.told" (defArgs s_Full_told) (defBody s_Full_told) (defScope s_Full_told) .none kV30 dc30 pm30 an30 cd30 ct30), sl30⟩) (c30 : PySem.W.codeIn K cd30 "Full.told" = true) (k30 : PySem.W.keepIn K (.ref f30) = true)
    {f31 : Addr} {od31 an31 : Option Addr} {sl31 : Array (Option Value)} {oc31 kV31 dc31 pm31 cd31 ct31 : Value}
    {D31 : Addr} (y31 : PySem.W.nsIn K mainGlobals "Full" = some (some (.ref D31))) (a31 : PySem.W.findIn K (.ref D31) "cells" = some (some (.ref f31)))
    (l31 : K.lookup f31 = some ⟨oc31, od31, .func (PySem.W.fnOf "cells" "Full.cells" (defArgs s_Full_cells) (defBody s_Full_cells) (defScope s_Full_cells) .none kV31 dc31 pm31 an31 cd31 ct31), sl31⟩) (c31 : PySem.W.codeIn K cd31 "Full.cells" = true) (k31 : PySem.W.keepIn K (.ref f31) = true)
    {f32 : Addr} {od32 an32 : Option Addr} {sl32 : Array (Option Value)} {oc32 kV32 dc32 pm32 cd32 ct32 : Value}
    {D32 : Addr} (y32 : PySem.W.nsIn K mainGlobals "Full" = some (some (.ref D32))) (a32 : PySem.W.findIn K (.ref D32) "rule" = some (some (.ref f32)))
    (l32 : K.lookup f32 = some ⟨oc32, od32, .func (PySem.W.fnOf "rule" "Full.rule" (defArgs s_Full_rule) (defBody s_Full_rule) (defScope s_Full_rule) .none kV32 dc32 pm32 an32 cd32 ct32), sl32⟩) (c32 : PySem.W.codeIn K cd32 "Full.rule" = true) (k32 : PySem.W.keepIn K (.ref f32) = true)
    {f33 : Addr} {od33 an33 : Option Addr} {sl33 : Array (Option Value)} {oc33 kV33 dc33 pm33 ct33 : Value}
    {cc33 co33 D33 : Addr} {ccl33 cel33 : Value} {cdd33 ced33 : Option Addr} {cvs33 : Array Value} {ccs33 ces33 : Array (Option Value)} {fl33 : Str} {tf33 : Tok} {cdD33 : ClassData} {ar33 : Arg}
    (y33 : PySem.W.nsIn K mainGlobals "Still" = some (some (.ref D33))) (a33 : PySem.W.findIn K (.ref D33) "__init__" = some (some (.ref f33)))
    (l33 : K.lookup f33 = some ⟨oc33, od33, .func (PySem.W.ksFn "__init__" "Still.__init__" (defArgs s_Still_init) (defBody s_Still_init) (defScope s_Still_init) .none kV33 dc33 pm33 an33 (.ref co33) ct33 cc33), sl33⟩) (c33 : PySem.W.codeIn K (.ref co33) "Still.__init__" = true)
    (u1_33 : K.lookup co33 = some ⟨ccl33, cdd33, .fields cvs33, ccs33⟩) (u2_33 : cvs33[2]? = some (.str fl33 tf33)) (u3_33 : ((l.prog.main.file : Str) == fl33) = true) (u4_33 : K.lookup cc33 = some ⟨cel33, ced33, .cell (some (.ref D33)), ces33⟩) (u5_33 : PySem.W.clsIn K D33 = some cdD33) (u6_33 : PySem.W.mroIn K D33 (.ref D33) = some true) (u7_33 : PySem.W.nsIn K mainGlobals "super" = some none) (u8_33 : (l.prog.main.scope.names.lookup ("super" : Str)).isSome = false)
    (u9_33 : PySem.W.ks_superIn K D33 D33 "__init__" = some (some (.ref f25))) (v1_33 : PySem.W.typeIn K (.ref f25) = some (.type "function")) (v2_33 : PySem.W.fnIn K f25 = true) (v3_33 : PySem.W.nsIn K cStatics "thirdparty.any" = some none)
    (v4_33 : ((defArgs s_Still_init).posonlyargs ++ (defArgs s_Still_init).args).head? = some ar33) (v5_33 : ar33.arg = ("self" : Str)) (k33 : PySem.W.keepIn K (.ref f33) = true)
    {f34 : Addr} {od34 an34 : Option Addr} {sl34 : Array (Option Value)} {oc34 kV34 dc34 pm34 cd34 ct34 : Value}
    {D34 : Addr} (y34 : PySem.W.nsIn K mainGlobals "Still" = some (some (.ref D34))) (a34 : PySem.W.findIn K (.ref D34) "told" = some (some (.ref f34)))
    (l34 : K.lookup f34 = some ⟨oc34, od34, .func (PySem.W.fnOf "told" "Still.told" (defArgs s_Still_told) (defBody s_Still_told) (defScope s_Still_told) .none kV34 dc34 pm34 an34 cd34 ct34), sl34⟩) (c34 : PySem.W.codeIn K cd34 "Still.told" = true) (k34 : PySem.W.keepIn K (.ref f34) = true)
    {f35 : Addr} {od35 an35 : Option Addr} {sl35 : Array (Option Value)} {oc35 kV35 dc35 pm35 cd35 ct35 : Value}
    {D35 : Addr} (y35 : PySem.W.nsIn K mainGlobals "Still" = some (some (.ref D35))) (a35 : PySem.W.findIn K (.ref D35) "cells" = some (some (.ref f35)))
    (l35 : K.lookup f35 = some ⟨oc35, od35, .func (PySem.W.fnOf "cells" "Still.cells" (defArgs s_Still_cells) (defBody s_Still_cells) (defScope s_Still_cells) .none kV35 dc35 pm35 an35 cd35 ct35), sl35⟩) (c35 : PySem.W.codeIn K cd35 "Still.cells" = true) (k35 : PySem.W.keepIn K (.ref f35) = true)
    {f36 : Addr} {od36 an36 : Option Addr} {sl36 : Array (Option Value)} {oc36 kV36 dc36 pm36 cd36 ct36 : Value}
    {D36 : Addr} (y36 : PySem.W.nsIn K mainGlobals "Still" = some (some (.ref D36))) (a36 : PySem.W.findIn K (.ref D36) "rule" = some (some (.ref f36)))
    (l36 : K.lookup f36 = some ⟨oc36, od36, .func (PySem.W.fnOf "rule" "Still.rule" (defArgs s_Still_rule) (defBody s_Still_rule) (defScope s_Still_rule) .none kV36 dc36 pm36 an36 cd36 ct36), sl36⟩) (c36 : PySem.W.codeIn K cd36 "Still.rule" = true) (k36 : PySem.W.keepIn K (.ref f36) = true)
    {f37 : Addr} {od37 an37 : Option Addr} {sl37 : Array (Option Value)} {oc37 kV37 dc37 pm37 ct37 : Value}
    {cc37 co37 D37 : Addr} {ccl37 cel37 : Value} {cdd37 ced37 : Option Addr} {cvs37 : Array Value} {ccs37 ces37 : Array (Option Value)} {fl37 : Str} {tf37 : Tok} {cdD37 : ClassData} {ar37 : Arg}
    (y37 : PySem.W.nsIn K mainGlobals "Woven" = some (some (.ref D37))) (a37 : PySem.W.findIn K (.ref D37) "__init__" = some (some (.ref f37)))
    (l37 : K.lookup f37 = some ⟨oc37, od37, .func (PySem.W.ksFn "__init__" "Woven.__init__" (defArgs s_Woven_init) (defBody s_Woven_init) (defScope s_Woven_init) .none kV37 dc37 pm37 an37 (.ref co37) ct37 cc37), sl37⟩) (c37 : PySem.W.codeIn K (.ref co37) "Woven.__init__" = true)
    (u1_37 : K.lookup co37 = some ⟨ccl37, cdd37, .fields cvs37, ccs37⟩) (u2_37 : cvs37[2]? = some (.str fl37 tf37)) (u3_37 : ((l.prog.main.file : Str) == fl37) = true) (u4_37 : K.lookup cc37 = some ⟨cel37, ced37, .cell (some (.ref D37)), ces37⟩) (u5_37 : PySem.W.clsIn K D37 = some cdD37) (u6_37 : PySem.W.mroIn K D37 (.ref D37) = some true) (u7_37 : PySem.W.nsIn K mainGlobals "super" = some none) (u8_37 : (l.prog.main.scope.names.lookup ("super" : Str)).isSome = false)
    (u9_37 : PySem.W.ks_superIn K D37 D37 "__init__" = some (some (.ref f25))) (v1_37 : PySem.W.typeIn K (.ref f25) = some (.type "function")) (v2_37 : PySem.W.fnIn K f25 = true) (v3_37 : PySem.W.nsIn K cStatics "thirdparty.any" = some none)
    (v4_37 : ((defArgs s_Woven_init).posonlyargs ++ (defArgs s_Woven_init).args).head? = some ar37) (v5_37 : ar37.arg = ("self" : Str)) (k37 : PySem.W.keepIn K (.ref f37) = true)
    {f38 : Addr} {od38 an38 : Option Addr} {sl38 : Array (Option Value)} {oc38 kV38 dc38 pm38 cd38 ct38 : Value}
    {D38 : Addr} (y38 : PySem.W.nsIn K mainGlobals "Woven" = some (some (.ref D38))) (a38 : PySem.W.findIn K (.ref D38) "told" = some (some (.ref f38)))
    (l38 : K.lookup f38 = some ⟨oc38, od38, .func (PySem.W.fnOf "told" "Woven.told" (defArgs s_Woven_told) (defBody s_Woven_told) (defScope s_Woven_told) .none kV38 dc38 pm38 an38 cd38 ct38), sl38⟩) (c38 : PySem.W.codeIn K cd38 "Woven.told" = true) (k38 : PySem.W.keepIn K (.ref f38) = true)
    {f39 : Addr} {od39 an39 : Option Addr} {sl39 : Array (Option Value)} {oc39 kV39 dc39 pm39 cd39 ct39 : Value}
    {D39 : Addr} (y39 : PySem.W.nsIn K mainGlobals "Woven" = some (some (.ref D39))) (a39 : PySem.W.findIn K (.ref D39) "cells" = some (some (.ref f39)))
    (l39 : K.lookup f39 = some ⟨oc39, od39, .func (PySem.W.fnOf "cells" "Woven.cells" (defArgs s_Woven_cells) (defBody s_Woven_cells) (defScope s_Woven_cells) .none kV39 dc39 pm39 an39 cd39 ct39), sl39⟩) (c39 : PySem.W.codeIn K cd39 "Woven.cells" = true) (k39 : PySem.W.keepIn K (.ref f39) = true)
    {f40 : Addr} {od40 an40 : Option Addr} {sl40 : Array (Option Value)} {oc40 kV40 dc40 pm40 cd40 ct40 : Value}
    {D40 : Addr} (y40 : PySem.W.nsIn K mainGlobals "Woven" = some (some (.ref D40))) (a40 : PySem.W.findIn K (.ref D40) "rule" = some (some (.ref f40)))
    (l40 : K.lookup f40 = some ⟨oc40, od40, .func (PySem.W.fnOf "rule" "Woven.rule" (defArgs s_Woven_rule) (defBody s_Woven_rule) (defScope s_Woven_rule) .none kV40 dc40 pm40 an40 cd40 ct40), sl40⟩) (c40 : PySem.W.codeIn K cd40 "Woven.rule" = true) (k40 : PySem.W.keepIn K (.ref f40) = true)
    {f41 : Addr} {od41 an41 : Option Addr} {sl41 : Array (Option Value)} {oc41 kV41 dc41 pm41 cd41 ct41 : Value}
    (a41 : PySem.W.nsIn K mainGlobals "refuse_no_cell" = some (some (.ref f41)))
    (l41 : K.lookup f41 = some ⟨oc41, od41, .func (PySem.W.fnOf "refuse_no_cell" "refuse_no_cell" (defArgs s_refuse_no_cell) (defBody s_refuse_no_cell) (defScope s_refuse_no_cell) .none kV41 dc41 pm41 an41 cd41 ct41), sl41⟩) (c41 : PySem.W.codeIn K cd41 "refuse_no_cell" = true) (k41 : PySem.W.keepIn K (.ref f41) = true)
    {f42 : Addr} {od42 an42 : Option Addr} {sl42 : Array (Option Value)} {oc42 kV42 dc42 pm42 cd42 ct42 : Value}
    (a42 : PySem.W.nsIn K mainGlobals "is_row_of_cells" = some (some (.ref f42)))
    (l42 : K.lookup f42 = some ⟨oc42, od42, .func (PySem.W.fnOf "is_row_of_cells" "is_row_of_cells" (defArgs s_is_row_of_cells) (defBody s_is_row_of_cells) (defScope s_is_row_of_cells) .none kV42 dc42 pm42 an42 cd42 ct42), sl42⟩) (c42 : PySem.W.codeIn K cd42 "is_row_of_cells" = true) (k42 : PySem.W.keepIn K (.ref f42) = true)
    {f43 : Addr} {od43 an43 : Option Addr} {sl43 : Array (Option Value)} {oc43 kV43 dc43 pm43 cd43 ct43 : Value}
    (a43 : PySem.W.nsIn K mainGlobals "is_leaf" = some (some (.ref f43)))
    (l43 : K.lookup f43 = some ⟨oc43, od43, .func (PySem.W.fnOf "is_leaf" "is_leaf" (defArgs s_is_leaf) (defBody s_is_leaf) (defScope s_is_leaf) .none kV43 dc43 pm43 an43 cd43 ct43), sl43⟩) (c43 : PySem.W.codeIn K cd43 "is_leaf" = true) (k43 : PySem.W.keepIn K (.ref f43) = true)
    {f44 : Addr} {od44 an44 : Option Addr} {sl44 : Array (Option Value)} {oc44 kV44 dc44 pm44 cd44 ct44 : Value}
    (a44 : PySem.W.nsIn K mainGlobals "leaf_of" = some (some (.ref f44)))
    (l44 : K.lookup f44 = some ⟨oc44, od44, .func (PySem.W.fnOf "leaf_of" "leaf_of" (defArgs s_leaf_of) (defBody s_leaf_of) (defScope s_leaf_of) .none kV44 dc44 pm44 an44 cd44 ct44), sl44⟩) (c44 : PySem.W.codeIn K cd44 "leaf_of" = true) (k44 : PySem.W.keepIn K (.ref f44) = true)
    {f45 : Addr} {od45 an45 : Option Addr} {sl45 : Array (Option Value)} {oc45 kV45 dc45 pm45 cd45 ct45 : Value}
    (a45 : PySem.W.nsIn K mainGlobals "_law_cell_at" = some (some (.ref f45)))
    (l45 : K.lookup f45 = some ⟨oc45, od45, .func (PySem.W.fnOf "_law_cell_at" "_law_cell_at" (defArgs s_l_cell_at) (defBody s_l_cell_at) (defScope s_l_cell_at) .none kV45 dc45 pm45 an45 cd45 ct45), sl45⟩) (c45 : PySem.W.codeIn K cd45 "_law_cell_at" = true) (k45 : PySem.W.keepIn K (.ref f45) = true)
    {f46 : Addr} {od46 an46 : Option Addr} {sl46 : Array (Option Value)} {oc46 kV46 dc46 pm46 cd46 ct46 : Value}
    (a46 : PySem.W.nsIn K mainGlobals "_law_well" = some (some (.ref f46)))
    (l46 : K.lookup f46 = some ⟨oc46, od46, .func (PySem.W.fnOf "_law_well" "_law_well" (defArgs s_l_well) (defBody s_l_well) (defScope s_l_well) .none kV46 dc46 pm46 an46 cd46 ct46), sl46⟩) (c46 : PySem.W.codeIn K cd46 "_law_well" = true) (k46 : PySem.W.keepIn K (.ref f46) = true)
    {f47 : Addr} {od47 an47 : Option Addr} {sl47 : Array (Option Value)} {oc47 kV47 dc47 pm47 cd47 ct47 : Value}
    (a47 : PySem.W.nsIn K mainGlobals "_law_draw" = some (some (.ref f47)))
    (l47 : K.lookup f47 = some ⟨oc47, od47, .func (PySem.W.fnOf "_law_draw" "_law_draw" (defArgs s_l_draw) (defBody s_l_draw) (defScope s_l_draw) .none kV47 dc47 pm47 an47 cd47 ct47), sl47⟩) (c47 : PySem.W.codeIn K cd47 "_law_draw" = true) (k47 : PySem.W.keepIn K (.ref f47) = true)
    {f48 : Addr} {od48 an48 : Option Addr} {sl48 : Array (Option Value)} {oc48 kV48 dc48 pm48 cd48 ct48 : Value}
    (a48 : PySem.W.nsIn K mainGlobals "_law_whole" = some (some (.ref f48)))
    (l48 : K.lookup f48 = some ⟨oc48, od48, .func (PySem.W.fnOf "_law_whole" "_law_whole" (defArgs s_l_whole) (defBody s_l_whole) (defScope s_l_whole) .none kV48 dc48 pm48 an48 cd48 ct48), sl48⟩) (c48 : PySem.W.codeIn K cd48 "_law_whole" = true) (k48 : PySem.W.keepIn K (.ref f48) = true)
    {f49 : Addr} {od49 an49 : Option Addr} {sl49 : Array (Option Value)} {oc49 kV49 dc49 pm49 cd49 ct49 : Value}
    (a49 : PySem.W.nsIn K mainGlobals "_law_rule" = some (some (.ref f49)))
    (l49 : K.lookup f49 = some ⟨oc49, od49, .func (PySem.W.fnOf "_law_rule" "_law_rule" (defArgs s_l_rule) (defBody s_l_rule) (defScope s_l_rule) .none kV49 dc49 pm49 an49 cd49 ct49), sl49⟩) (c49 : PySem.W.codeIn K cd49 "_law_rule" = true) (k49 : PySem.W.keepIn K (.ref f49) = true)
    {f50 : Addr} {od50 an50 : Option Addr} {sl50 : Array (Option Value)} {oc50 kV50 dc50 pm50 cd50 ct50 : Value}
    (a50 : PySem.W.nsIn K mainGlobals "_law_leaf" = some (some (.ref f50)))
    (l50 : K.lookup f50 = some ⟨oc50, od50, .func (PySem.W.fnOf "_law_leaf" "_law_leaf" (defArgs s_l_leaf) (defBody s_l_leaf) (defScope s_l_leaf) .none kV50 dc50 pm50 an50 cd50 ct50), sl50⟩) (c50 : PySem.W.codeIn K cd50 "_law_leaf" = true) (k50 : PySem.W.keepIn K (.ref f50) = true)
    {f51 : Addr} {od51 an51 : Option Addr} {sl51 : Array (Option Value)} {oc51 kV51 dc51 pm51 cd51 ct51 : Value}
    (a51 : PySem.W.nsIn K mainGlobals "_law_odd_number" = some (some (.ref f51)))
    (l51 : K.lookup f51 = some ⟨oc51, od51, .func (PySem.W.fnOf "_law_odd_number" "_law_odd_number" (defArgs s_l_odd_number) (defBody s_l_odd_number) (defScope s_l_odd_number) .none kV51 dc51 pm51 an51 cd51 ct51), sl51⟩) (c51 : PySem.W.codeIn K cd51 "_law_odd_number" = true) (k51 : PySem.W.keepIn K (.ref f51) = true)
    {f52 : Addr} {od52 an52 : Option Addr} {sl52 : Array (Option Value)} {oc52 kV52 dc52 pm52 cd52 ct52 : Value}
    (a52 : PySem.W.nsIn K mainGlobals "_law_odd_part" = some (some (.ref f52)))
    (l52 : K.lookup f52 = some ⟨oc52, od52, .func (PySem.W.fnOf "_law_odd_part" "_law_odd_part" (defArgs s_l_odd_part) (defBody s_l_odd_part) (defScope s_l_odd_part) .none kV52 dc52 pm52 an52 cd52 ct52), sl52⟩) (c52 : PySem.W.codeIn K cd52 "_law_odd_part" = true) (k52 : PySem.W.keepIn K (.ref f52) = true)
    {f53 : Addr} {od53 an53 : Option Addr} {sl53 : Array (Option Value)} {oc53 kV53 dc53 pm53 cd53 ct53 : Value}
    (a53 : PySem.W.nsIn K mainGlobals "_law_changed" = some (some (.ref f53)))
    (l53 : K.lookup f53 = some ⟨oc53, od53, .func (PySem.W.fnOf "_law_changed" "_law_changed" (defArgs s_l_changed) (defBody s_l_changed) (defScope s_l_changed) .none kV53 dc53 pm53 an53 cd53 ct53), sl53⟩) (c53 : PySem.W.codeIn K cd53 "_law_changed" = true) (k53 : PySem.W.keepIn K (.ref f53) = true)
    {f54 : Addr} {od54 an54 : Option Addr} {sl54 : Array (Option Value)} {oc54 kV54 dc54 pm54 cd54 ct54 : Value}
    (a54 : PySem.W.nsIn K mainGlobals "_law_thing" = some (some (.ref f54)))
    (l54 : K.lookup f54 = some ⟨oc54, od54, .func (PySem.W.fnOf "_law_thing" "_law_thing" (defArgs s_l_thing) (defBody s_l_thing) (defScope s_l_thing) .none kV54 dc54 pm54 an54 cd54 ct54), sl54⟩) (c54 : PySem.W.codeIn K cd54 "_law_thing" = true) (k54 : PySem.W.keepIn K (.ref f54) = true)
    {f55 : Addr} {od55 an55 : Option Addr} {sl55 : Array (Option Value)} {oc55 kV55 dc55 pm55 cd55 ct55 : Value}
    (a55 : PySem.W.nsIn K mainGlobals "_law_within" = some (some (.ref f55)))
    (l55 : K.lookup f55 = some ⟨oc55, od55, .func (PySem.W.fnOf "_law_within" "_law_within" (defArgs s_l_within) (defBody s_l_within) (defScope s_l_within) .none kV55 dc55 pm55 an55 cd55 ct55), sl55⟩) (c55 : PySem.W.codeIn K cd55 "_law_within" = true) (k55 : PySem.W.keepIn K (.ref f55) = true)
    {f56 : Addr} {od56 an56 : Option Addr} {sl56 : Array (Option Value)} {oc56 kV56 dc56 pm56 cd56 ct56 : Value}
    (a56 : PySem.W.nsIn K mainGlobals "_law_is_rule" = some (some (.ref f56)))
    (l56 : K.lookup f56 = some ⟨oc56, od56, .func (PySem.W.fnOf "_law_is_rule" "_law_is_rule" (defArgs s_l_is_rule) (defBody s_l_is_rule) (defScope s_l_is_rule) .none kV56 dc56 pm56 an56 cd56 ct56), sl56⟩) (c56 : PySem.W.codeIn K cd56 "_law_is_rule" = true) (k56 : PySem.W.keepIn K (.ref f56) = true)
    {f57 : Addr} {od57 an57 : Option Addr} {sl57 : Array (Option Value)} {oc57 kV57 dc57 pm57 cd57 ct57 : Value}
    (a57 : PySem.W.nsIn K mainGlobals "_law_is_leaf" = some (some (.ref f57)))
    (l57 : K.lookup f57 = some ⟨oc57, od57, .func (PySem.W.fnOf "_law_is_leaf" "_law_is_leaf" (defArgs s_l_is_leaf) (defBody s_l_is_leaf) (defScope s_l_is_leaf) .none kV57 dc57 pm57 an57 cd57 ct57), sl57⟩) (c57 : PySem.W.codeIn K cd57 "_law_is_leaf" = true) (k57 : PySem.W.keepIn K (.ref f57) = true)
    {f58 : Addr} {od58 an58 : Option Addr} {sl58 : Array (Option Value)} {oc58 kV58 dc58 pm58 cd58 ct58 : Value}
    (a58 : PySem.W.nsIn K mainGlobals "_law_asked" = some (some (.ref f58)))
    (l58 : K.lookup f58 = some ⟨oc58, od58, .func (PySem.W.fnOf "_law_asked" "_law_asked" (defArgs s_l_asked) (defBody s_l_asked) (defScope s_l_asked) .none kV58 dc58 pm58 an58 cd58 ct58), sl58⟩) (c58 : PySem.W.codeIn K cd58 "_law_asked" = true) (k58 : PySem.W.keepIn K (.ref f58) = true)
    {f59 : Addr} {od59 an59 : Option Addr} {sl59 : Array (Option Value)} {oc59 kV59 dc59 pm59 cd59 ct59 : Value}
    (a59 : PySem.W.nsIn K mainGlobals "law" = some (some (.ref f59)))
    (l59 : K.lookup f59 = some ⟨oc59, od59, .func (PySem.W.fnOf "law" "law" (defArgs s_law) (defBody s_law) (defScope s_law) .none kV59 dc59 pm59 an59 cd59 ct59), sl59⟩) (c59 : PySem.W.codeIn K cd59 "law" = true) (k59 : PySem.W.keepIn K (.ref f59) = true)
    (z_ValueError : PySem.W.nsIn K mainGlobals "ValueError" = some none)
    (z_all : PySem.W.nsIn K mainGlobals "all" = some none)
    (z_bool : PySem.W.nsIn K mainGlobals "bool" = some none)
    (z_int : PySem.W.nsIn K mainGlobals "int" = some none)
    (z_isinstance : PySem.W.nsIn K mainGlobals "isinstance" = some none)
    (z_len : PySem.W.nsIn K mainGlobals "len" = some none)
    (z_list : PySem.W.nsIn K mainGlobals "list" = some none)
    (z_range : PySem.W.nsIn K mainGlobals "range" = some none)
    (z_str : PySem.W.nsIn K mainGlobals "str" = some none)
    (z_tuple : PySem.W.nsIn K mainGlobals "tuple" = some none)
    {ct_GREATEST_VALUE : Tok} (g_GREATEST_VALUE : PySem.W.nsIn K mainGlobals "GREATEST_VALUE" = some (some (.int 255 ct_GREATEST_VALUE)))
    {ct_GREATEST_BACK : Tok} (g_GREATEST_BACK : PySem.W.nsIn K mainGlobals "GREATEST_BACK" = some (some (.int 200 ct_GREATEST_BACK)))
    {ct_LAST_CELL : Tok} (g_LAST_CELL : PySem.W.nsIn K mainGlobals "LAST_CELL" = some (some (.int 15 ct_LAST_CELL)))
    {ct_GREATEST_TIME : Tok} (g_GREATEST_TIME : PySem.W.nsIn K mainGlobals "GREATEST_TIME" = some (some (.int 1000000000 ct_GREATEST_TIME)))
    {ct_MOST_CELLS : Tok} (g_MOST_CELLS : PySem.W.nsIn K mainGlobals "MOST_CELLS" = some (some (.int 16 ct_MOST_CELLS)))
    {C_ScrollError : Addr} (g_ScrollError : PySem.W.nsIn K mainGlobals "ScrollError" = some (some (.ref C_ScrollError)))
    {C_NoRule : Addr} (g_NoRule : PySem.W.nsIn K mainGlobals "NoRule" = some (some (.ref C_NoRule)))
    (x_NoRule : PySem.W.excIn K C_NoRule [.type "ValueError", .type "Exception", .type "BaseException", .type "object"] "ValueError.__new__" = true) (kc_NoRule : PySem.W.keepIn K (.ref C_NoRule) = true) (bb_NoRule : PySem.W.subIn K (.ref C_NoRule) (.type "BaseException") = some true) (t_NoRule : PySem.W.typeIn K (.ref C_NoRule) = some (.type "type"))
    (xa_NoRule : PySem.W.findIn K (.ref C_NoRule) "__getattribute__" = some (some (.builtin "BaseException.__getattribute__"))) (xb_NoRule : PySem.W.findIn K (.ref C_NoRule) "__getattr__" = some none) (xc_NoRule : PySem.W.hasDictIn K C_NoRule = true) (xd_NoRule : PySem.W.findIn K (.ref C_NoRule) "__class__" = some (some (.builtin "object.__class__")))
    (xe_NoRule : PySem.W.specialIn K (.builtin "object.__class__") "__get__" = some (some (.builtin "getset_descriptor.__get__"))) (xf_NoRule : PySem.W.takesIn K (.builtin "object.__class__") = some true) (xg_NoRule : PySem.W.mroIn K C_NoRule (.type "object") = some true)
    {C_NoLeaf : Addr} (g_NoLeaf : PySem.W.nsIn K mainGlobals "NoLeaf" = some (some (.ref C_NoLeaf)))
    (x_NoLeaf : PySem.W.excIn K C_NoLeaf [.type "ValueError", .type "Exception", .type "BaseException", .type "object"] "ValueError.__new__" = true) (kc_NoLeaf : PySem.W.keepIn K (.ref C_NoLeaf) = true) (bb_NoLeaf : PySem.W.subIn K (.ref C_NoLeaf) (.type "BaseException") = some true) (t_NoLeaf : PySem.W.typeIn K (.ref C_NoLeaf) = some (.type "type"))
    (xa_NoLeaf : PySem.W.findIn K (.ref C_NoLeaf) "__getattribute__" = some (some (.builtin "BaseException.__getattribute__"))) (xb_NoLeaf : PySem.W.findIn K (.ref C_NoLeaf) "__getattr__" = some none) (xc_NoLeaf : PySem.W.hasDictIn K C_NoLeaf = true) (xd_NoLeaf : PySem.W.findIn K (.ref C_NoLeaf) "__class__" = some (some (.builtin "object.__class__")))
    (xe_NoLeaf : PySem.W.specialIn K (.builtin "object.__class__") "__get__" = some (some (.builtin "getset_descriptor.__get__"))) (xf_NoLeaf : PySem.W.takesIn K (.builtin "object.__class__") = some true) (xg_NoLeaf : PySem.W.mroIn K C_NoLeaf (.type "object") = some true)
    {C_NoCell : Addr} (g_NoCell : PySem.W.nsIn K mainGlobals "NoCell" = some (some (.ref C_NoCell)))
    (x_NoCell : PySem.W.excIn K C_NoCell [.type "ValueError", .type "Exception", .type "BaseException", .type "object"] "ValueError.__new__" = true) (kc_NoCell : PySem.W.keepIn K (.ref C_NoCell) = true) (bb_NoCell : PySem.W.subIn K (.ref C_NoCell) (.type "BaseException") = some true) (t_NoCell : PySem.W.typeIn K (.ref C_NoCell) = some (.type "type"))
    (xa_NoCell : PySem.W.findIn K (.ref C_NoCell) "__getattribute__" = some (some (.builtin "BaseException.__getattribute__"))) (xb_NoCell : PySem.W.findIn K (.ref C_NoCell) "__getattr__" = some none) (xc_NoCell : PySem.W.hasDictIn K C_NoCell = true) (xd_NoCell : PySem.W.findIn K (.ref C_NoCell) "__class__" = some (some (.builtin "object.__class__")))
    (xe_NoCell : PySem.W.specialIn K (.builtin "object.__class__") "__get__" = some (some (.builtin "getset_descriptor.__get__"))) (xf_NoCell : PySem.W.takesIn K (.builtin "object.__class__") = some true) (xg_NoCell : PySem.W.mroIn K C_NoCell (.type "object") = some true)
    {C_NoFilm : Addr} (g_NoFilm : PySem.W.nsIn K mainGlobals "NoFilm" = some (some (.ref C_NoFilm)))
    {C_NoNumber : Addr} (g_NoNumber : PySem.W.nsIn K mainGlobals "NoNumber" = some (some (.ref C_NoNumber)))
    {C_Rule : Addr} (g_Rule : PySem.W.nsIn K mainGlobals "Rule" = some (some (.ref C_Rule)))
    {C_Plain : Addr} (g_Plain : PySem.W.nsIn K mainGlobals "Plain" = some (some (.ref C_Plain)))
    {C_Moved : Addr} (g_Moved : PySem.W.nsIn K mainGlobals "Moved" = some (some (.ref C_Moved)))
    {C_Mixed : Addr} (g_Mixed : PySem.W.nsIn K mainGlobals "Mixed" = some (some (.ref C_Mixed)))
    {C_Leaf : Addr} (g_Leaf : PySem.W.nsIn K mainGlobals "Leaf" = some (some (.ref C_Leaf)))
    {C_Full : Addr} (g_Full : PySem.W.nsIn K mainGlobals "Full" = some (some (.ref C_Full)))
    {C_Still : Addr} (g_Still : PySem.W.nsIn K mainGlobals "Still" = some (some (.ref C_Still)))
    {C_Woven : Addr} (g_Woven : PySem.W.nsIn K mainGlobals "Woven" = some (some (.ref C_Woven)))
    (p1_Rule : PySem.W.plainGet K C_Rule Str.empty = true) (p2_Rule : PySem.W.hasDictIn K C_Rule = true) (p3_Rule : PySem.W.plainOver K C_Rule = true) (p4_Rule : PySem.W.findIn K (.ref C_Rule) "__setattr__" = some (some (.builtin "object.__setattr__"))) (p5_Rule : PySem.W.makesIn K C_Rule = true) (p6_Rule : PySem.W.keepIn K (.ref C_Rule) = true)
    (na_Rule_worth : PySem.W.findIn K (.ref C_Rule) "worth" = some none)
    (na_Rule_back : PySem.W.findIn K (.ref C_Rule) "back" = some none)
    (na_Rule_cell : PySem.W.findIn K (.ref C_Rule) "cell" = some none)
    (na_Rule_added : PySem.W.findIn K (.ref C_Rule) "added" = some none)
    (na_Rule_other_back : PySem.W.findIn K (.ref C_Rule) "other_back" = some none)
    (na_Rule_other_cell : PySem.W.findIn K (.ref C_Rule) "other_cell" = some none)
    (na_Rule_begin : PySem.W.findIn K (.ref C_Rule) "begin" = some none)
    (na_Rule_span : PySem.W.findIn K (.ref C_Rule) "span" = some none)
    (na_Rule_worths : PySem.W.findIn K (.ref C_Rule) "worths" = some none)
    (na_Rule_rules : PySem.W.findIn K (.ref C_Rule) "rules" = some none)
    (ma_Rule_told : PySem.W.findIn K (.ref C_Rule) "told" = some (some (.ref f2))) (mb_Rule_told : PySem.W.isFn K (.ref f2) = true)
    (ma_Rule_needs : PySem.W.findIn K (.ref C_Rule) "needs" = some (some (.ref f3))) (mb_Rule_needs : PySem.W.isFn K (.ref f3) = true)
    (ma_Rule_value : PySem.W.findIn K (.ref C_Rule) "value" = some (some (.ref f4))) (mb_Rule_value : PySem.W.isFn K (.ref f4) = true)
    (p1_Plain : PySem.W.plainGet K C_Plain Str.empty = true) (p2_Plain : PySem.W.hasDictIn K C_Plain = true) (p3_Plain : PySem.W.plainOver K C_Plain = true) (p4_Plain : PySem.W.findIn K (.ref C_Plain) "__setattr__" = some (some (.builtin "object.__setattr__"))) (p5_Plain : PySem.W.makesIn K C_Plain = true) (p6_Plain : PySem.W.keepIn K (.ref C_Plain) = true)
    (na_Plain_worth : PySem.W.findIn K (.ref C_Plain) "worth" = some none)
    (na_Plain_back : PySem.W.findIn K (.ref C_Plain) "back" = some none)
    (na_Plain_cell : PySem.W.findIn K (.ref C_Plain) "cell" = some none)
    (na_Plain_added : PySem.W.findIn K (.ref C_Plain) "added" = some none)
    (na_Plain_other_back : PySem.W.findIn K (.ref C_Plain) "other_back" = some none)
    (na_Plain_other_cell : PySem.W.findIn K (.ref C_Plain) "other_cell" = some none)
    (na_Plain_begin : PySem.W.findIn K (.ref C_Plain) "begin" = some none)
    (na_Plain_span : PySem.W.findIn K (.ref C_Plain) "span" = some none)
    (na_Plain_worths : PySem.W.findIn K (.ref C_Plain) "worths" = some none)
    (na_Plain_rules : PySem.W.findIn K (.ref C_Plain) "rules" = some none)
    (ma_Plain_init : PySem.W.findIn K (.ref C_Plain) "__init__" = some (some (.ref f5))) (mb_Plain_init : PySem.W.isFn K (.ref f5) = true)
    (ma_Plain_str : PySem.W.findIn K (.ref C_Plain) "__str__" = some (some (.ref f6))) (mb_Plain_str : PySem.W.isFn K (.ref f6) = true)
    (ma_Plain_told : PySem.W.findIn K (.ref C_Plain) "told" = some (some (.ref f7))) (mb_Plain_told : PySem.W.isFn K (.ref f7) = true)
    (ma_Plain_needs : PySem.W.findIn K (.ref C_Plain) "needs" = some (some (.ref f8))) (mb_Plain_needs : PySem.W.isFn K (.ref f8) = true)
    (ma_Plain_value : PySem.W.findIn K (.ref C_Plain) "value" = some (some (.ref f9))) (mb_Plain_value : PySem.W.isFn K (.ref f9) = true)
    (p1_Moved : PySem.W.plainGet K C_Moved Str.empty = true) (p2_Moved : PySem.W.hasDictIn K C_Moved = true) (p3_Moved : PySem.W.plainOver K C_Moved = true) (p4_Moved : PySem.W.findIn K (.ref C_Moved) "__setattr__" = some (some (.builtin "object.__setattr__"))) (p5_Moved : PySem.W.makesIn K C_Moved = true) (p6_Moved : PySem.W.keepIn K (.ref C_Moved) = true)
    (na_Moved_worth : PySem.W.findIn K (.ref C_Moved) "worth" = some none)
    (na_Moved_back : PySem.W.findIn K (.ref C_Moved) "back" = some none)
    (na_Moved_cell : PySem.W.findIn K (.ref C_Moved) "cell" = some none)
    (na_Moved_added : PySem.W.findIn K (.ref C_Moved) "added" = some none)
    (na_Moved_other_back : PySem.W.findIn K (.ref C_Moved) "other_back" = some none)
    (na_Moved_other_cell : PySem.W.findIn K (.ref C_Moved) "other_cell" = some none)
    (na_Moved_begin : PySem.W.findIn K (.ref C_Moved) "begin" = some none)
    (na_Moved_span : PySem.W.findIn K (.ref C_Moved) "span" = some none)
    (na_Moved_worths : PySem.W.findIn K (.ref C_Moved) "worths" = some none)
    (na_Moved_rules : PySem.W.findIn K (.ref C_Moved) "rules" = some none)
    (ma_Moved_init : PySem.W.findIn K (.ref C_Moved) "__init__" = some (some (.ref f10))) (mb_Moved_init : PySem.W.isFn K (.ref f10) = true)
    (ma_Moved_str : PySem.W.findIn K (.ref C_Moved) "__str__" = some (some (.ref f11))) (mb_Moved_str : PySem.W.isFn K (.ref f11) = true)
    (ma_Moved_told : PySem.W.findIn K (.ref C_Moved) "told" = some (some (.ref f12))) (mb_Moved_told : PySem.W.isFn K (.ref f12) = true)
    (ma_Moved_needs : PySem.W.findIn K (.ref C_Moved) "needs" = some (some (.ref f13))) (mb_Moved_needs : PySem.W.isFn K (.ref f13) = true)
    (ma_Moved_value : PySem.W.findIn K (.ref C_Moved) "value" = some (some (.ref f14))) (mb_Moved_value : PySem.W.isFn K (.ref f14) = true)
    (p1_Mixed : PySem.W.plainGet K C_Mixed Str.empty = true) (p2_Mixed : PySem.W.hasDictIn K C_Mixed = true) (p3_Mixed : PySem.W.plainOver K C_Mixed = true) (p4_Mixed : PySem.W.findIn K (.ref C_Mixed) "__setattr__" = some (some (.builtin "object.__setattr__"))) (p5_Mixed : PySem.W.makesIn K C_Mixed = true) (p6_Mixed : PySem.W.keepIn K (.ref C_Mixed) = true)
    (na_Mixed_worth : PySem.W.findIn K (.ref C_Mixed) "worth" = some none)
    (na_Mixed_back : PySem.W.findIn K (.ref C_Mixed) "back" = some none)
    (na_Mixed_cell : PySem.W.findIn K (.ref C_Mixed) "cell" = some none)
    (na_Mixed_added : PySem.W.findIn K (.ref C_Mixed) "added" = some none)
    (na_Mixed_other_back : PySem.W.findIn K (.ref C_Mixed) "other_back" = some none)
    (na_Mixed_other_cell : PySem.W.findIn K (.ref C_Mixed) "other_cell" = some none)
    (na_Mixed_begin : PySem.W.findIn K (.ref C_Mixed) "begin" = some none)
    (na_Mixed_span : PySem.W.findIn K (.ref C_Mixed) "span" = some none)
    (na_Mixed_worths : PySem.W.findIn K (.ref C_Mixed) "worths" = some none)
    (na_Mixed_rules : PySem.W.findIn K (.ref C_Mixed) "rules" = some none)
    (ma_Mixed_init : PySem.W.findIn K (.ref C_Mixed) "__init__" = some (some (.ref f15))) (mb_Mixed_init : PySem.W.isFn K (.ref f15) = true)
    (ma_Mixed_str : PySem.W.findIn K (.ref C_Mixed) "__str__" = some (some (.ref f16))) (mb_Mixed_str : PySem.W.isFn K (.ref f16) = true)
    (ma_Mixed_told : PySem.W.findIn K (.ref C_Mixed) "told" = some (some (.ref f17))) (mb_Mixed_told : PySem.W.isFn K (.ref f17) = true)
    (ma_Mixed_needs : PySem.W.findIn K (.ref C_Mixed) "needs" = some (some (.ref f18))) (mb_Mixed_needs : PySem.W.isFn K (.ref f18) = true)
    (ma_Mixed_value : PySem.W.findIn K (.ref C_Mixed) "value" = some (some (.ref f19))) (mb_Mixed_value : PySem.W.isFn K (.ref f19) = true)
    (p1_Leaf : PySem.W.plainGet K C_Leaf Str.empty = true) (p2_Leaf : PySem.W.hasDictIn K C_Leaf = true) (p3_Leaf : PySem.W.plainOver K C_Leaf = true) (p4_Leaf : PySem.W.findIn K (.ref C_Leaf) "__setattr__" = some (some (.builtin "object.__setattr__"))) (p5_Leaf : PySem.W.makesIn K C_Leaf = true) (p6_Leaf : PySem.W.keepIn K (.ref C_Leaf) = true)
    (na_Leaf_worth : PySem.W.findIn K (.ref C_Leaf) "worth" = some none)
    (na_Leaf_back : PySem.W.findIn K (.ref C_Leaf) "back" = some none)
    (na_Leaf_cell : PySem.W.findIn K (.ref C_Leaf) "cell" = some none)
    (na_Leaf_added : PySem.W.findIn K (.ref C_Leaf) "added" = some none)
    (na_Leaf_other_back : PySem.W.findIn K (.ref C_Leaf) "other_back" = some none)
    (na_Leaf_other_cell : PySem.W.findIn K (.ref C_Leaf) "other_cell" = some none)
    (na_Leaf_begin : PySem.W.findIn K (.ref C_Leaf) "begin" = some none)
    (na_Leaf_span : PySem.W.findIn K (.ref C_Leaf) "span" = some none)
    (na_Leaf_worths : PySem.W.findIn K (.ref C_Leaf) "worths" = some none)
    (na_Leaf_rules : PySem.W.findIn K (.ref C_Leaf) "rules" = some none)
    (ma_Leaf_init : PySem.W.findIn K (.ref C_Leaf) "__init__" = some (some (.ref f25))) (mb_Leaf_init : PySem.W.isFn K (.ref f25) = true)
    (ma_Leaf_told : PySem.W.findIn K (.ref C_Leaf) "told" = some (some (.ref f26))) (mb_Leaf_told : PySem.W.isFn K (.ref f26) = true)
    (ma_Leaf_cells : PySem.W.findIn K (.ref C_Leaf) "cells" = some (some (.ref f27))) (mb_Leaf_cells : PySem.W.isFn K (.ref f27) = true)
    (ma_Leaf_rule : PySem.W.findIn K (.ref C_Leaf) "rule" = some (some (.ref f28))) (mb_Leaf_rule : PySem.W.isFn K (.ref f28) = true)
    (p1_Full : PySem.W.plainGet K C_Full Str.empty = true) (p2_Full : PySem.W.hasDictIn K C_Full = true) (p3_Full : PySem.W.plainOver K C_Full = true) (p4_Full : PySem.W.findIn K (.ref C_Full) "__setattr__" = some (some (.builtin "object.__setattr__"))) (p5_Full : PySem.W.makesIn K C_Full = true) (p6_Full : PySem.W.keepIn K (.ref C_Full) = true)
    (na_Full_worth : PySem.W.findIn K (.ref C_Full) "worth" = some none)
    (na_Full_back : PySem.W.findIn K (.ref C_Full) "back" = some none)
    (na_Full_cell : PySem.W.findIn K (.ref C_Full) "cell" = some none)
    (na_Full_added : PySem.W.findIn K (.ref C_Full) "added" = some none)
    (na_Full_other_back : PySem.W.findIn K (.ref C_Full) "other_back" = some none)
    (na_Full_other_cell : PySem.W.findIn K (.ref C_Full) "other_cell" = some none)
    (na_Full_begin : PySem.W.findIn K (.ref C_Full) "begin" = some none)
    (na_Full_span : PySem.W.findIn K (.ref C_Full) "span" = some none)
    (na_Full_worths : PySem.W.findIn K (.ref C_Full) "worths" = some none)
    (na_Full_rules : PySem.W.findIn K (.ref C_Full) "rules" = some none)
    (ma_Full_init : PySem.W.findIn K (.ref C_Full) "__init__" = some (some (.ref f29))) (mb_Full_init : PySem.W.isFn K (.ref f29) = true)
    (ma_Full_told : PySem.W.findIn K (.ref C_Full) "told" = some (some (.ref f30))) (mb_Full_told : PySem.W.isFn K (.ref f30) = true)
    (ma_Full_cells : PySem.W.findIn K (.ref C_Full) "cells" = some (some (.ref f31))) (mb_Full_cells : PySem.W.isFn K (.ref f31) = true)
    (ma_Full_rule : PySem.W.findIn K (.ref C_Full) "rule" = some (some (.ref f32))) (mb_Full_rule : PySem.W.isFn K (.ref f32) = true)
    (p1_Still : PySem.W.plainGet K C_Still Str.empty = true) (p2_Still : PySem.W.hasDictIn K C_Still = true) (p3_Still : PySem.W.plainOver K C_Still = true) (p4_Still : PySem.W.findIn K (.ref C_Still) "__setattr__" = some (some (.builtin "object.__setattr__"))) (p5_Still : PySem.W.makesIn K C_Still = true) (p6_Still : PySem.W.keepIn K (.ref C_Still) = true)
    (na_Still_worth : PySem.W.findIn K (.ref C_Still) "worth" = some none)
    (na_Still_back : PySem.W.findIn K (.ref C_Still) "back" = some none)
    (na_Still_cell : PySem.W.findIn K (.ref C_Still) "cell" = some none)
    (na_Still_added : PySem.W.findIn K (.ref C_Still) "added" = some none)
    (na_Still_other_back : PySem.W.findIn K (.ref C_Still) "other_back" = some none)
    (na_Still_other_cell : PySem.W.findIn K (.ref C_Still) "other_cell" = some none)
    (na_Still_begin : PySem.W.findIn K (.ref C_Still) "begin" = some none)
    (na_Still_span : PySem.W.findIn K (.ref C_Still) "span" = some none)
    (na_Still_worths : PySem.W.findIn K (.ref C_Still) "worths" = some none)
    (na_Still_rules : PySem.W.findIn K (.ref C_Still) "rules" = some none)
    (ma_Still_init : PySem.W.findIn K (.ref C_Still) "__init__" = some (some (.ref f33))) (mb_Still_init : PySem.W.isFn K (.ref f33) = true)
    (ma_Still_told : PySem.W.findIn K (.ref C_Still) "told" = some (some (.ref f34))) (mb_Still_told : PySem.W.isFn K (.ref f34) = true)
    (ma_Still_cells : PySem.W.findIn K (.ref C_Still) "cells" = some (some (.ref f35))) (mb_Still_cells : PySem.W.isFn K (.ref f35) = true)
    (ma_Still_rule : PySem.W.findIn K (.ref C_Still) "rule" = some (some (.ref f36))) (mb_Still_rule : PySem.W.isFn K (.ref f36) = true)
    (p1_Woven : PySem.W.plainGet K C_Woven Str.empty = true) (p2_Woven : PySem.W.hasDictIn K C_Woven = true) (p3_Woven : PySem.W.plainOver K C_Woven = true) (p4_Woven : PySem.W.findIn K (.ref C_Woven) "__setattr__" = some (some (.builtin "object.__setattr__"))) (p5_Woven : PySem.W.makesIn K C_Woven = true) (p6_Woven : PySem.W.keepIn K (.ref C_Woven) = true)
    (na_Woven_worth : PySem.W.findIn K (.ref C_Woven) "worth" = some none)
    (na_Woven_back : PySem.W.findIn K (.ref C_Woven) "back" = some none)
    (na_Woven_cell : PySem.W.findIn K (.ref C_Woven) "cell" = some none)
    (na_Woven_added : PySem.W.findIn K (.ref C_Woven) "added" = some none)
    (na_Woven_other_back : PySem.W.findIn K (.ref C_Woven) "other_back" = some none)
    (na_Woven_other_cell : PySem.W.findIn K (.ref C_Woven) "other_cell" = some none)
    (na_Woven_begin : PySem.W.findIn K (.ref C_Woven) "begin" = some none)
    (na_Woven_span : PySem.W.findIn K (.ref C_Woven) "span" = some none)
    (na_Woven_worths : PySem.W.findIn K (.ref C_Woven) "worths" = some none)
    (na_Woven_rules : PySem.W.findIn K (.ref C_Woven) "rules" = some none)
    (ma_Woven_init : PySem.W.findIn K (.ref C_Woven) "__init__" = some (some (.ref f37))) (mb_Woven_init : PySem.W.isFn K (.ref f37) = true)
    (ma_Woven_told : PySem.W.findIn K (.ref C_Woven) "told" = some (some (.ref f38))) (mb_Woven_told : PySem.W.isFn K (.ref f38) = true)
    (ma_Woven_cells : PySem.W.findIn K (.ref C_Woven) "cells" = some (some (.ref f39))) (mb_Woven_cells : PySem.W.isFn K (.ref f39) = true)
    (ma_Woven_rule : PySem.W.findIn K (.ref C_Woven) "rule" = some (some (.ref f40))) (mb_Woven_rule : PySem.W.isFn K (.ref f40) = true)
    (sb_NoCell_ScrollError : PySem.W.subIn K (.ref C_NoCell) (.ref C_ScrollError) = some true) (bs_NoCell_ScrollError : PySem.W.subIn K (.ref C_ScrollError) (.type "BaseException") = some true) (ts_NoCell_ScrollError : PySem.W.typeIn K (.ref C_ScrollError) = some (.type "type")) (is_NoCell_ScrollError : PySem.W.isClsIn K C_ScrollError = true)
    (sb_NoLeaf_ScrollError : PySem.W.subIn K (.ref C_NoLeaf) (.ref C_ScrollError) = some true) (bs_NoLeaf_ScrollError : PySem.W.subIn K (.ref C_ScrollError) (.type "BaseException") = some true) (ts_NoLeaf_ScrollError : PySem.W.typeIn K (.ref C_ScrollError) = some (.type "type")) (is_NoLeaf_ScrollError : PySem.W.isClsIn K C_ScrollError = true)
    (sb_NoRule_ScrollError : PySem.W.subIn K (.ref C_NoRule) (.ref C_ScrollError) = some true) (bs_NoRule_ScrollError : PySem.W.subIn K (.ref C_ScrollError) (.type "BaseException") = some true) (ts_NoRule_ScrollError : PySem.W.typeIn K (.ref C_ScrollError) = some (.type "type")) (is_NoRule_ScrollError : PySem.W.isClsIn K C_ScrollError = true)
    (ki_Rule_Leaf : PySem.W.kitOne K (.ref C_Rule) (.ref C_Leaf) = some false)
    (ki_Plain_Leaf : PySem.W.kitOne K (.ref C_Plain) (.ref C_Leaf) = some false)
    (ki_Moved_Leaf : PySem.W.kitOne K (.ref C_Moved) (.ref C_Leaf) = some false)
    (ki_Mixed_Leaf : PySem.W.kitOne K (.ref C_Mixed) (.ref C_Leaf) = some false)
    (ki_Leaf_Leaf : PySem.W.kitOne K (.ref C_Leaf) (.ref C_Leaf) = some true)
    (ki_Full_Leaf : PySem.W.kitOne K (.ref C_Full) (.ref C_Leaf) = some true)
    (ki_Still_Leaf : PySem.W.kitOne K (.ref C_Still) (.ref C_Leaf) = some true)
    (ki_Woven_Leaf : PySem.W.kitOne K (.ref C_Woven) (.ref C_Leaf) = some true)
    (t1_Rule : PySem.W.findIn K (.ref C_Rule) "__class__" = some (some (.builtin "object.__class__"))) (t2_Rule : PySem.W.specialIn K (.builtin "object.__class__") "__get__" = some (some (.builtin "getset_descriptor.__get__"))) (t3_Rule : PySem.W.takesIn K (.builtin "object.__class__") = some true) (t4_Rule : PySem.W.mroIn K C_Rule (.type "object") = some true)
    (t1_Plain : PySem.W.findIn K (.ref C_Plain) "__class__" = some (some (.builtin "object.__class__"))) (t2_Plain : PySem.W.specialIn K (.builtin "object.__class__") "__get__" = some (some (.builtin "getset_descriptor.__get__"))) (t3_Plain : PySem.W.takesIn K (.builtin "object.__class__") = some true) (t4_Plain : PySem.W.mroIn K C_Plain (.type "object") = some true)
    (t1_Moved : PySem.W.findIn K (.ref C_Moved) "__class__" = some (some (.builtin "object.__class__"))) (t2_Moved : PySem.W.specialIn K (.builtin "object.__class__") "__get__" = some (some (.builtin "getset_descriptor.__get__"))) (t3_Moved : PySem.W.takesIn K (.builtin "object.__class__") = some true) (t4_Moved : PySem.W.mroIn K C_Moved (.type "object") = some true)
    (t1_Mixed : PySem.W.findIn K (.ref C_Mixed) "__class__" = some (some (.builtin "object.__class__"))) (t2_Mixed : PySem.W.specialIn K (.builtin "object.__class__") "__get__" = some (some (.builtin "getset_descriptor.__get__"))) (t3_Mixed : PySem.W.takesIn K (.builtin "object.__class__") = some true) (t4_Mixed : PySem.W.mroIn K C_Mixed (.type "object") = some true)
    (t1_Leaf : PySem.W.findIn K (.ref C_Leaf) "__class__" = some (some (.builtin "object.__class__"))) (t2_Leaf : PySem.W.specialIn K (.builtin "object.__class__") "__get__" = some (some (.builtin "getset_descriptor.__get__"))) (t3_Leaf : PySem.W.takesIn K (.builtin "object.__class__") = some true) (t4_Leaf : PySem.W.mroIn K C_Leaf (.type "object") = some true)
    (t1_Full : PySem.W.findIn K (.ref C_Full) "__class__" = some (some (.builtin "object.__class__"))) (t2_Full : PySem.W.specialIn K (.builtin "object.__class__") "__get__" = some (some (.builtin "getset_descriptor.__get__"))) (t3_Full : PySem.W.takesIn K (.builtin "object.__class__") = some true) (t4_Full : PySem.W.mroIn K C_Full (.type "object") = some true)
    (t1_Still : PySem.W.findIn K (.ref C_Still) "__class__" = some (some (.builtin "object.__class__"))) (t2_Still : PySem.W.specialIn K (.builtin "object.__class__") "__get__" = some (some (.builtin "getset_descriptor.__get__"))) (t3_Still : PySem.W.takesIn K (.builtin "object.__class__") = some true) (t4_Still : PySem.W.mroIn K C_Still (.type "object") = some true)
    (t1_Woven : PySem.W.findIn K (.ref C_Woven) "__class__" = some (some (.builtin "object.__class__"))) (t2_Woven : PySem.W.specialIn K (.builtin "object.__class__") "__get__" = some (some (.builtin "getset_descriptor.__get__"))) (t3_Woven : PySem.W.takesIn K (.builtin "object.__class__") = some true) (t4_Woven : PySem.W.mroIn K C_Woven (.type "object") = some true)
    (io_NoCell_NoRule : PySem.W.kitOne K (.ref C_NoCell) (.ref C_NoRule) = some false)
    (io_NoLeaf_NoRule : PySem.W.kitOne K (.ref C_NoLeaf) (.ref C_NoRule) = some false)
    (io_NoRule_NoRule : PySem.W.kitOne K (.ref C_NoRule) (.ref C_NoRule) = some true)
    (io_NoCell_NoCell : PySem.W.kitOne K (.ref C_NoCell) (.ref C_NoCell) = some true)
    (io_NoLeaf_NoCell : PySem.W.kitOne K (.ref C_NoLeaf) (.ref C_NoCell) = some false)
    (io_NoRule_NoCell : PySem.W.kitOne K (.ref C_NoRule) (.ref C_NoCell) = some false)
    (io_NoCell_NoNumber : PySem.W.kitOne K (.ref C_NoCell) (.ref C_NoNumber) = some false)
    (io_NoLeaf_NoNumber : PySem.W.kitOne K (.ref C_NoLeaf) (.ref C_NoNumber) = some false)
    (io_NoRule_NoNumber : PySem.W.kitOne K (.ref C_NoRule) (.ref C_NoNumber) = some false)
    (io_NoCell_NoFilm : PySem.W.kitOne K (.ref C_NoCell) (.ref C_NoFilm) = some false)
    (io_NoLeaf_NoFilm : PySem.W.kitOne K (.ref C_NoLeaf) (.ref C_NoFilm) = some false)
    (io_NoRule_NoFilm : PySem.W.kitOne K (.ref C_NoRule) (.ref C_NoFilm) = some false)
    (io_NoCell_NoLeaf : PySem.W.kitOne K (.ref C_NoCell) (.ref C_NoLeaf) = some false)
    (io_NoLeaf_NoLeaf : PySem.W.kitOne K (.ref C_NoLeaf) (.ref C_NoLeaf) = some true)
    (io_NoRule_NoLeaf : PySem.W.kitOne K (.ref C_NoRule) (.ref C_NoLeaf) = some false)
    (io_NoCell_ValueError : PySem.W.kitOne K (.ref C_NoCell) (.type "ValueError") = some true)
    (io_NoLeaf_ValueError : PySem.W.kitOne K (.ref C_NoLeaf) (.type "ValueError") = some true)
    (io_NoRule_ValueError : PySem.W.kitOne K (.ref C_NoRule) (.type "ValueError") = some true)
    : ∃ fd : FuncData, (∀ (s : Shared) (v : Value), BindsTo s fd ⟨[v], []⟩ [("_law_script", v)]) ∧ ∀ base : Heap, K.In base → base.Ns mainGlobals mg → FnOk l.prog w K mg base CX0 21 fa fd ["_law_script"] (spLaw K) := by
  have e := hfa.symm.trans (PySem.W.mg_of X G a59)
  cases e
  have F0 := fun_mk (st := s_is_number) l0 c0 k0
  have F1 := fun_mk (st := s_is_whole) l1 c1 k1
  have F2 := fun_mk (st := s_Rule_told) l2 c2 k2
  have F3 := fun_mk (st := s_Rule_needs) l3 c3 k3
  have F4 := fun_mk (st := s_Rule_value) l4 c4 k4
  have F5 := fun_mk (st := s_Plain_init) l5 c5 k5
  have F6 := fun_mk (st := s_Plain_str) l6 c6 k6
  have F7 := fun_mk (st := s_Plain_told) l7 c7 k7
  have F8 := fun_mk (st := s_Plain_needs) l8 c8 k8
  have F9 := fun_mk (st := s_Plain_value) l9 c9 k9
  have F10 := fun_mk (st := s_Moved_init) l10 c10 k10
  have F11 := fun_mk (st := s_Moved_str) l11 c11 k11
  have F12 := fun_mk (st := s_Moved_told) l12 c12 k12
  have F13 := fun_mk (st := s_Moved_needs) l13 c13 k13
  have F14 := fun_mk (st := s_Moved_value) l14 c14 k14
  have F15 := fun_mk (st := s_Mixed_init) l15 c15 k15
  have F16 := fun_mk (st := s_Mixed_str) l16 c16 k16
  have F17 := fun_mk (st := s_Mixed_told) l17 c17 k17
  have F18 := fun_mk (st := s_Mixed_needs) l18 c18 k18
  have F19 := fun_mk (st := s_Mixed_value) l19 c19 k19
  have F20 := fun_mk (st := s_is_value) l20 c20 k20
  have F21 := fun_mk (st := s_is_back) l21 c21 k21
  have F22 := fun_mk (st := s_is_cell) l22 c22 k22
  have F23 := fun_mk (st := s_is_rule) l23 c23 k23
  have F24 := fun_mk (st := s_rule_of) l24 c24 k24
  have F25 := fun_mk (st := s_Leaf_init) l25 c25 k25
  have F26 := fun_mk (st := s_Leaf_told) l26 c26 k26
  have F27 := fun_mk (st := s_Leaf_cells) l27 c27 k27
  have F28 := fun_mk (st := s_Leaf_rule) l28 c28 k28
  have F29 : Sup l.prog K "__init__" "Full.__init__" (defArgs s_Full_init) (defBody s_Full_init) (defScope s_Full_init) "self" f29 D29 f25 cc29 co29 _ := ⟨⟨_, _, _, _, _, _, _, _, rfl, l29⟩, c29, ⟨_, _, _, _, _, _, u1_29, u2_29, u3_29⟩, ⟨_, _, _, u4_29⟩, ⟨_, u5_29⟩, u6_29, u7_29, u8_29, u9_29, v1_29, v2_29, v3_29, ⟨_, v4_29, v5_29⟩⟩
  have F30 := fun_mk (st := s_Full_told) l30 c30 k30
  have F31 := fun_mk (st := s_Full_cells) l31 c31 k31
  have F32 := fun_mk (st := s_Full_rule) l32 c32 k32
  have F33 : Sup l.prog K "__init__" "Still.__init__" (defArgs s_Still_init) (defBody s_Still_init) (defScope s_Still_init) "self" f33 D33 f25 cc33 co33 _ := ⟨⟨_, _, _, _, _, _, _, _, rfl, l33⟩, c33, ⟨_, _, _, _, _, _, u1_33, u2_33, u3_33⟩, ⟨_, _, _, u4_33⟩, ⟨_, u5_33⟩, u6_33, u7_33, u8_33, u9_33, v1_33, v2_33, v3_33, ⟨_, v4_33, v5_33⟩⟩
  have F34 := fun_mk (st := s_Still_told) l34 c34 k34
  have F35 := fun_mk (st := s_Still_cells) l35 c35 k35
  have F36 := fun_mk (st := s_Still_rule) l36 c36 k36
  have F37 : Sup l.prog K "__init__" "Woven.__init__" (defArgs s_Woven_init) (defBody s_Woven_init) (defScope s_Woven_init) "self" f37 D37 f25 cc37 co37 _ := ⟨⟨_, _, _, _, _, _, _, _, rfl, l37⟩, c37, ⟨_, _, _, _, _, _, u1_37, u2_37, u3_37⟩, ⟨_, _, _, u4_37⟩, ⟨_, u5_37⟩, u6_37, u7_37, u8_37, u9_37, v1_37, v2_37, v3_37, ⟨_, v4_37, v5_37⟩⟩
  have F38 := fun_mk (st := s_Woven_told) l38 c38 k38
  have F39 := fun_mk (st := s_Woven_cells) l39 c39 k39
  have F40 := fun_mk (st := s_Woven_rule) l40 c40 k40
  have F41 := fun_mk (st := s_refuse_no_cell) l41 c41 k41
  have F42 := fun_mk (st := s_is_row_of_cells) l42 c42 k42
  have F43 := fun_mk (st := s_is_leaf) l43 c43 k43
  have F44 := fun_mk (st := s_leaf_of) l44 c44 k44
  have F45 := fun_mk (st := s_l_cell_at) l45 c45 k45
  have F46 := fun_mk (st := s_l_well) l46 c46 k46
  have F47 := fun_mk (st := s_l_draw) l47 c47 k47
  have F48 := fun_mk (st := s_l_whole) l48 c48 k48
  have F49 := fun_mk (st := s_l_rule) l49 c49 k49
  have F50 := fun_mk (st := s_l_leaf) l50 c50 k50
  have F51 := fun_mk (st := s_l_odd_number) l51 c51 k51
  have F52 := fun_mk (st := s_l_odd_part) l52 c52 k52
  have F53 := fun_mk (st := s_l_changed) l53 c53 k53
  have F54 := fun_mk (st := s_l_thing) l54 c54 k54
  have F55 := fun_mk (st := s_l_within) l55 c55 k55
  have F56 := fun_mk (st := s_l_is_rule) l56 c56 k56
  have F57 := fun_mk (st := s_l_is_leaf) l57 c57 k57
  have F58 := fun_mk (st := s_l_asked) l58 c58 k58
  have F59 := fun_mk (st := s_law) l59 c59 k59
  have b0 := F0.binds (ps := ["thing"]) fun _ _ _ _ _ _ us hl => match us, hl with | [_], _ => rfl
  have b1 := F1.binds (ps := ["thing", "low", "high"]) fun _ _ _ _ _ _ us hl => match us, hl with | [_, _, _], _ => rfl
  have b2 := F2.binds (ps := ["self"]) fun _ _ _ _ _ _ us hl => match us, hl with | [_], _ => rfl
  have b3 := F3.binds (ps := ["self"]) fun _ _ _ _ _ _ us hl => match us, hl with | [_], _ => rfl
  have b4 := F4.binds (ps := ["self", "found"]) fun _ _ _ _ _ _ us hl => match us, hl with | [_, _], _ => rfl
  have b5 := F5.binds (ps := ["self", "value"]) fun _ _ _ _ _ _ us hl => match us, hl with | [_, _], _ => rfl
  have b6 := F6.binds (ps := ["self"]) fun _ _ _ _ _ _ us hl => match us, hl with | [_], _ => rfl
  have b7 := F7.binds (ps := ["self"]) fun _ _ _ _ _ _ us hl => match us, hl with | [_], _ => rfl
  have b8 := F8.binds (ps := ["self"]) fun _ _ _ _ _ _ us hl => match us, hl with | [_], _ => rfl
  have b9 := F9.binds (ps := ["self", "found"]) fun _ _ _ _ _ _ us hl => match us, hl with | [_, _], _ => rfl
  have b10 := F10.binds (ps := ["self", "back", "cell", "add"]) fun _ _ _ _ _ _ us hl => match us, hl with | [_, _, _, _], _ => rfl
  have b11 := F11.binds (ps := ["self"]) fun _ _ _ _ _ _ us hl => match us, hl with | [_], _ => rfl
  have b12 := F12.binds (ps := ["self"]) fun _ _ _ _ _ _ us hl => match us, hl with | [_], _ => rfl
  have b13 := F13.binds (ps := ["self"]) fun _ _ _ _ _ _ us hl => match us, hl with | [_], _ => rfl
  have b14 := F14.binds (ps := ["self", "found"]) fun _ _ _ _ _ _ us hl => match us, hl with | [_, _], _ => rfl
  have b15 := F15.binds (ps := ["self", "back", "cell", "other_back", "other_cell"]) fun _ _ _ _ _ _ us hl => match us, hl with | [_, _, _, _, _], _ => rfl
  have b16 := F16.binds (ps := ["self"]) fun _ _ _ _ _ _ us hl => match us, hl with | [_], _ => rfl
  have b17 := F17.binds (ps := ["self"]) fun _ _ _ _ _ _ us hl => match us, hl with | [_], _ => rfl
  have b18 := F18.binds (ps := ["self"]) fun _ _ _ _ _ _ us hl => match us, hl with | [_], _ => rfl
  have b19 := F19.binds (ps := ["self", "found"]) fun _ _ _ _ _ _ us hl => match us, hl with | [_, _], _ => rfl
  have b20 := F20.binds (ps := ["thing"]) fun _ _ _ _ _ _ us hl => match us, hl with | [_], _ => rfl
  have b21 := F21.binds (ps := ["thing"]) fun _ _ _ _ _ _ us hl => match us, hl with | [_], _ => rfl
  have b22 := F22.binds (ps := ["thing"]) fun _ _ _ _ _ _ us hl => match us, hl with | [_], _ => rfl
  have b23 := F23.binds (ps := ["thing"]) fun _ _ _ _ _ _ us hl => match us, hl with | [_], _ => rfl
  have b24 := F24.binds (ps := ["told"]) fun _ _ _ _ _ _ us hl => match us, hl with | [_], _ => rfl
  have b25 := F25.binds (ps := ["self", "begin", "span"]) fun _ _ _ _ _ _ us hl => match us, hl with | [_, _, _], _ => rfl
  have b26 := F26.binds (ps := ["self"]) fun _ _ _ _ _ _ us hl => match us, hl with | [_], _ => rfl
  have b27 := F27.binds (ps := ["self"]) fun _ _ _ _ _ _ us hl => match us, hl with | [_], _ => rfl
  have b28 := F28.binds (ps := ["self", "cell"]) fun _ _ _ _ _ _ us hl => match us, hl with | [_, _], _ => rfl
  have b29 := sup_binds (ps := ["self", "begin", "span", "values"]) F29 (fun us hl => match us, hl with | [_, _, _, _], _ => rfl)
  have b30 := F30.binds (ps := ["self"]) fun _ _ _ _ _ _ us hl => match us, hl with | [_], _ => rfl
  have b31 := F31.binds (ps := ["self"]) fun _ _ _ _ _ _ us hl => match us, hl with | [_], _ => rfl
  have b32 := F32.binds (ps := ["self", "cell"]) fun _ _ _ _ _ _ us hl => match us, hl with | [_, _], _ => rfl
  have b33 := sup_binds (ps := ["self", "begin", "span", "back"]) F33 (fun us hl => match us, hl with | [_, _, _, _], _ => rfl)
  have b34 := F34.binds (ps := ["self"]) fun _ _ _ _ _ _ us hl => match us, hl with | [_], _ => rfl
  have b35 := F35.binds (ps := ["self"]) fun _ _ _ _ _ _ us hl => match us, hl with | [_], _ => rfl
  have b36 := F36.binds (ps := ["self", "cell"]) fun _ _ _ _ _ _ us hl => match us, hl with | [_, _], _ => rfl
  have b37 := sup_binds (ps := ["self", "begin", "span", "rules"]) F37 (fun us hl => match us, hl with | [_, _, _, _], _ => rfl)
  have b38 := F38.binds (ps := ["self"]) fun _ _ _ _ _ _ us hl => match us, hl with | [_], _ => rfl
  have b39 := F39.binds (ps := ["self"]) fun _ _ _ _ _ _ us hl => match us, hl with | [_], _ => rfl
  have b40 := F40.binds (ps := ["self", "cell"]) fun _ _ _ _ _ _ us hl => match us, hl with | [_, _], _ => rfl
  have b41 := F41.binds (ps := ["cell", "many"]) fun _ _ _ _ _ _ us hl => match us, hl with | [_, _], _ => rfl
  have b42 := F42.binds (ps := ["thing"]) fun _ _ _ _ _ _ us hl => match us, hl with | [_], _ => rfl
  have b43 := F43.binds (ps := ["thing"]) fun _ _ _ _ _ _ us hl => match us, hl with | [_], _ => rfl
  have b44 := F44.binds (ps := ["told"]) fun _ _ _ _ _ _ us hl => match us, hl with | [_], _ => rfl
  have b45 := F45.binds (ps := ["_law_script", "_law_k"]) fun _ _ _ _ _ _ us hl => match us, hl with | [_, _], _ => rfl
  have b46 := F46.binds (ps := ["_law_script", "_law_k"]) fun _ _ _ _ _ _ us hl => match us, hl with | [_, _], _ => rfl
  have b47 := F47.binds (ps := ["_law_well_here", "_law_many"]) fun _ _ _ _ _ _ us hl => match us, hl with | [_, _], _ => rfl
  have b48 := F48.binds (ps := ["_law_thing_here"]) fun _ _ _ _ _ _ us hl => match us, hl with | [_], _ => rfl
  have b49 := F49.binds (ps := ["_law_well_here"]) fun _ _ _ _ _ _ us hl => match us, hl with | [_], _ => rfl
  have b50 := F50.binds (ps := ["_law_well_here"]) fun _ _ _ _ _ _ us hl => match us, hl with | [_], _ => rfl
  have b51 := F51.binds (ps := ["_law_well_here"]) fun _ _ _ _ _ _ us hl => match us, hl with | [_], _ => rfl
  have b52 := F52.binds (ps := ["_law_well_here"]) fun _ _ _ _ _ _ us hl => match us, hl with | [_], _ => rfl
  have b53 := F53.binds (ps := ["_law_well_here", "_law_row"]) fun _ _ _ _ _ _ us hl => match us, hl with | [_, _], _ => rfl
  have b54 := F54.binds (ps := ["_law_well_here", "_law_row"]) fun _ _ _ _ _ _ us hl => match us, hl with | [_, _], _ => rfl
  have b55 := F55.binds (ps := ["_law_thing_here", "_law_low", "_law_high"]) fun _ _ _ _ _ _ us hl => match us, hl with | [_, _, _], _ => rfl
  have b56 := F56.binds (ps := ["_law_thing_here"]) fun _ _ _ _ _ _ us hl => match us, hl with | [_], _ => rfl
  have b57 := F57.binds (ps := ["_law_thing_here"]) fun _ _ _ _ _ _ us hl => match us, hl with | [_], _ => rfl
  have b58 := F58.binds (ps := ["_law_thing_here"]) fun _ _ _ _ _ _ us hl => match us, hl with | [_], _ => rfl
  have b59 := F59.binds (ps := ["_law_script"]) fun _ _ _ _ _ _ us hl => match us, hl with | [_], _ => rfl
  exact ⟨_, fun s v => .of_eq rfl, fun base _ _ => ok_law { a_is_number := _, d_is_number := _, F_is_number := F0, b_is_number := b0, g_is_number := PySem.W.mg_of X G a0, a_is_whole := _, d_is_whole := _, F_is_whole := F1, b_is_whole := b1, g_is_whole := PySem.W.mg_of X G a1, a_Rule_told := _, d_Rule_told := _, F_Rule_told := F2, b_Rule_told := b2, a_Rule_needs := _, d_Rule_needs := _, F_Rule_needs := F3, b_Rule_needs := b3, a_Rule_value := _, d_Rule_value := _, F_Rule_value := F4, b_Rule_value := b4, a_Plain_init := _, d_Plain_init := _, F_Plain_init := F5, b_Plain_init := b5, a_Plain_str := _, d_Plain_str := _, F_Plain_str := F6, b_Plain_str := b6, a_Plain_told := _, d_Plain_told := _, F_Plain_told := F7, b_Plain_told := b7, a_Plain_needs := _, d_Plain_needs := _, F_Plain_needs := F8, b_Plain_needs := b8, a_Plain_value := _, d_Plain_value := _, F_Plain_value := F9, b_Plain_value := b9, a_Moved_init := _, d_Moved_init := _, F_Moved_init := F10, b_Moved_init := b10, a_Moved_str := _, d_Moved_str := _, F_Moved_str := F11, b_Moved_str := b11, a_Moved_told := _, d_Moved_told := _, F_Moved_told := F12, b_Moved_told := b12, a_Moved_needs := _, d_Moved_needs := _, F_Moved_needs := F13, b_Moved_needs := b13, a_Moved_value := _, d_Moved_value := _, F_Moved_value := F14, b_Moved_value := b14, a_Mixed_init := _, d_Mixed_init := _, F_Mixed_init := F15, b_Mixed_init := b15, a_Mixed_str := _, d_Mixed_str := _, F_Mixed_str := F16, b_Mixed_str := b16, a_Mixed_told := _, d_Mixed_told := _, F_Mixed_told := F17, b_Mixed_told := b17, a_Mixed_needs := _, d_Mixed_needs := _, F_Mixed_needs := F18, b_Mixed_needs := b18, a_Mixed_value := _, d_Mixed_value := _, F_Mixed_value := F19, b_Mixed_value := b19, a_is_value := _, d_is_value := _, F_is_value := F20, b_is_value := b20, g_is_value := PySem.W.mg_of X G a20, a_is_back := _, d_is_back := _, F_is_back := F21, b_is_back := b21, g_is_back := PySem.W.mg_of X G a21, a_is_cell := _, d_is_cell := _, F_is_cell := F22, b_is_cell := b22, g_is_cell := PySem.W.mg_of X G a22, a_is_rule := _, d_is_rule := _, F_is_rule := F23, b_is_rule := b23, g_is_rule := PySem.W.mg_of X G a23, a_rule_of := _, d_rule_of := _, F_rule_of := F24, b_rule_of := b24, g_rule_of := PySem.W.mg_of X G a24, a_Leaf_init := _, d_Leaf_init := _, F_Leaf_init := F25, b_Leaf_init := b25, a_Leaf_told := _, d_Leaf_told := _, F_Leaf_told := F26, b_Leaf_told := b26, a_Leaf_cells := _, d_Leaf_cells := _, F_Leaf_cells := F27, b_Leaf_cells := b27, a_Leaf_rule := _, d_Leaf_rule := _, F_Leaf_rule := F28, b_Leaf_rule := b28, a_Full_init := _, d_Full_init := _, cc_Full_init := _, co_Full_init := _, cD_Full_init := _, S_Full_init := F29, b_Full_init := b29, eD_Full_init := Value.ref.inj (Option.some.inj (Option.some.inj (y29.symm.trans g_Full))), a_Full_told := _, d_Full_told := _, F_Full_told := F30, b_Full_told := b30, a_Full_cells := _, d_Full_cells := _, F_Full_cells := F31, b_Full_cells := b31, a_Full_rule := _, d_Full_rule := _, F_Full_rule := F32, b_Full_rule := b32, a_Still_init := _, d_Still_init := _, cc_Still_init := _, co_Still_init := _, cD_Still_init := _, S_Still_init := F33, b_Still_init := b33, eD_Still_init := Value.ref.inj (Option.some.inj (Option.some.inj (y33.symm.trans g_Still))), a_Still_told := _, d_Still_told := _, F_Still_told := F34, b_Still_told := b34, a_Still_cells := _, d_Still_cells := _, F_Still_cells := F35, b_Still_cells := b35, a_Still_rule := _, d_Still_rule := _, F_Still_rule := F36, b_Still_rule := b36, a_Woven_init := _, d_Woven_init := _, cc_Woven_init := _, co_Woven_init := _, cD_Woven_init := _, S_Woven_init := F37, b_Woven_init := b37, eD_Woven_init := Value.ref.inj (Option.some.inj (Option.some.inj (y37.symm.trans g_Woven))), a_Woven_told := _, d_Woven_told := _, F_Woven_told := F38, b_Woven_told := b38, a_Woven_cells := _, d_Woven_cells := _, F_Woven_cells := F39, b_Woven_cells := b39, a_Woven_rule := _, d_Woven_rule := _, F_Woven_rule := F40, b_Woven_rule := b40, a_refuse_no_cell := _, d_refuse_no_cell := _, F_refuse_no_cell := F41, b_refuse_no_cell := b41, g_refuse_no_cell := PySem.W.mg_of X G a41, a_is_row_of_cells := _, d_is_row_of_cells := _, F_is_row_of_cells := F42, b_is_row_of_cells := b42, g_is_row_of_cells := PySem.W.mg_of X G a42, a_is_leaf := _, d_is_leaf := _, F_is_leaf := F43, b_is_leaf := b43, g_is_leaf := PySem.W.mg_of X G a43, a_leaf_of := _, d_leaf_of := _, F_leaf_of := F44, b_leaf_of := b44, g_leaf_of := PySem.W.mg_of X G a44, a_l_cell_at := _, d_l_cell_at := _, F_l_cell_at := F45, b_l_cell_at := b45, g_l_cell_at := PySem.W.mg_of X G a45, a_l_well := _, d_l_well := _, F_l_well := F46, b_l_well := b46, g_l_well := PySem.W.mg_of X G a46, a_l_draw := _, d_l_draw := _, F_l_draw := F47, b_l_draw := b47, g_l_draw := PySem.W.mg_of X G a47, a_l_whole := _, d_l_whole := _, F_l_whole := F48, b_l_whole := b48, g_l_whole := PySem.W.mg_of X G a48, a_l_rule := _, d_l_rule := _, F_l_rule := F49, b_l_rule := b49, g_l_rule := PySem.W.mg_of X G a49, a_l_leaf := _, d_l_leaf := _, F_l_leaf := F50, b_l_leaf := b50, g_l_leaf := PySem.W.mg_of X G a50, a_l_odd_number := _, d_l_odd_number := _, F_l_odd_number := F51, b_l_odd_number := b51, g_l_odd_number := PySem.W.mg_of X G a51, a_l_odd_part := _, d_l_odd_part := _, F_l_odd_part := F52, b_l_odd_part := b52, g_l_odd_part := PySem.W.mg_of X G a52, a_l_changed := _, d_l_changed := _, F_l_changed := F53, b_l_changed := b53, g_l_changed := PySem.W.mg_of X G a53, a_l_thing := _, d_l_thing := _, F_l_thing := F54, b_l_thing := b54, g_l_thing := PySem.W.mg_of X G a54, a_l_within := _, d_l_within := _, F_l_within := F55, b_l_within := b55, g_l_within := PySem.W.mg_of X G a55, a_l_is_rule := _, d_l_is_rule := _, F_l_is_rule := F56, b_l_is_rule := b56, g_l_is_rule := PySem.W.mg_of X G a56, a_l_is_leaf := _, d_l_is_leaf := _, F_l_is_leaf := F57, b_l_is_leaf := b57, g_l_is_leaf := PySem.W.mg_of X G a57, a_l_asked := _, d_l_asked := _, F_l_asked := F58, b_l_asked := b58, g_l_asked := PySem.W.mg_of X G a58, a_law := _, d_law := _, F_law := F59, b_law := b59, g_law := PySem.W.mg_of X G a59, m_ValueError := PySem.W.mg_none_of X G z_ValueError, m_all := PySem.W.mg_none_of X G z_all, m_bool := PySem.W.mg_none_of X G z_bool, m_int := PySem.W.mg_none_of X G z_int, m_isinstance := PySem.W.mg_none_of X G z_isinstance, m_len := PySem.W.mg_none_of X G z_len, m_list := PySem.W.mg_none_of X G z_list, m_range := PySem.W.mg_none_of X G z_range, m_str := PySem.W.mg_none_of X G z_str, m_tuple := PySem.W.mg_none_of X G z_tuple, ct_GREATEST_VALUE := ct_GREATEST_VALUE, g_GREATEST_VALUE := PySem.W.mg_of X G g_GREATEST_VALUE, ct_GREATEST_BACK := ct_GREATEST_BACK, g_GREATEST_BACK := PySem.W.mg_of X G g_GREATEST_BACK, ct_LAST_CELL := ct_LAST_CELL, g_LAST_CELL := PySem.W.mg_of X G g_LAST_CELL, ct_GREATEST_TIME := ct_GREATEST_TIME, g_GREATEST_TIME := PySem.W.mg_of X G g_GREATEST_TIME, ct_MOST_CELLS := ct_MOST_CELLS, g_MOST_CELLS := PySem.W.mg_of X G g_MOST_CELLS, c_ScrollError := C_ScrollError, g_ScrollError := PySem.W.mg_of X G g_ScrollError, c_NoRule := C_NoRule, g_NoRule := PySem.W.mg_of X G g_NoRule, x_NoRule := x_NoRule, k_NoRule := kc_NoRule, bb_NoRule := bb_NoRule, t_NoRule := t_NoRule, xc_NoRule := ⟨xa_NoRule, xb_NoRule, bb_NoRule, xc_NoRule, xd_NoRule, xe_NoRule, xf_NoRule, xg_NoRule⟩, c_NoLeaf := C_NoLeaf, g_NoLeaf := PySem.W.mg_of X G g_NoLeaf, x_NoLeaf := x_NoLeaf, k_NoLeaf := kc_NoLeaf, bb_NoLeaf := bb_NoLeaf, t_NoLeaf := t_NoLeaf, xc_NoLeaf := ⟨xa_NoLeaf, xb_NoLeaf, bb_NoLeaf, xc_NoLeaf, xd_NoLeaf, xe_NoLeaf, xf_NoLeaf, xg_NoLeaf⟩, c_NoCell := C_NoCell, g_NoCell := PySem.W.mg_of X G g_NoCell, x_NoCell := x_NoCell, k_NoCell := kc_NoCell, bb_NoCell := bb_NoCell, t_NoCell := t_NoCell, xc_NoCell := ⟨xa_NoCell, xb_NoCell, bb_NoCell, xc_NoCell, xd_NoCell, xe_NoCell, xf_NoCell, xg_NoCell⟩, c_NoFilm := C_NoFilm, g_NoFilm := PySem.W.mg_of X G g_NoFilm, c_NoNumber := C_NoNumber, g_NoNumber := PySem.W.mg_of X G g_NoNumber, c_Rule := C_Rule, g_Rule := PySem.W.mg_of X G g_Rule, c_Plain := C_Plain, g_Plain := PySem.W.mg_of X G g_Plain, c_Moved := C_Moved, g_Moved := PySem.W.mg_of X G g_Moved, c_Mixed := C_Mixed, g_Mixed := PySem.W.mg_of X G g_Mixed, c_Leaf := C_Leaf, g_Leaf := PySem.W.mg_of X G g_Leaf, c_Full := C_Full, g_Full := PySem.W.mg_of X G g_Full, c_Still := C_Still, g_Still := PySem.W.mg_of X G g_Still, c_Woven := C_Woven, g_Woven := PySem.W.mg_of X G g_Woven, cl_Rule := ⟨p1_Rule, p2_Rule, p3_Rule, p4_Rule⟩, mkk_Rule := p5_Rule, na_Rule_worth := na_Rule_worth, na_Rule_back := na_Rule_back, na_Rule_cell := na_Rule_cell, na_Rule_added := na_Rule_added, na_Rule_other_back := na_Rule_other_back, na_Rule_other_cell := na_Rule_other_cell, na_Rule_begin := na_Rule_begin, na_Rule_span := na_Rule_span, na_Rule_worths := na_Rule_worths, na_Rule_rules := na_Rule_rules, mt_Rule_told := ⟨ma_Rule_told, mb_Rule_told, k2⟩, mt_Rule_needs := ⟨ma_Rule_needs, mb_Rule_needs, k3⟩, mt_Rule_value := ⟨ma_Rule_value, mb_Rule_value, k4⟩, cl_Plain := ⟨p1_Plain, p2_Plain, p3_Plain, p4_Plain⟩, mkk_Plain := p5_Plain, na_Plain_worth := na_Plain_worth, na_Plain_back := na_Plain_back, na_Plain_cell := na_Plain_cell, na_Plain_added := na_Plain_added, na_Plain_other_back := na_Plain_other_back, na_Plain_other_cell := na_Plain_other_cell, na_Plain_begin := na_Plain_begin, na_Plain_span := na_Plain_span, na_Plain_worths := na_Plain_worths, na_Plain_rules := na_Plain_rules, mk_Plain := ⟨p5_Plain, ma_Plain_init, mb_Plain_init, p6_Plain⟩, mt_Plain_str := ⟨ma_Plain_str, mb_Plain_str, k6⟩, mt_Plain_told := ⟨ma_Plain_told, mb_Plain_told, k7⟩, mt_Plain_needs := ⟨ma_Plain_needs, mb_Plain_needs, k8⟩, mt_Plain_value := ⟨ma_Plain_value, mb_Plain_value, k9⟩, cl_Moved := ⟨p1_Moved, p2_Moved, p3_Moved, p4_Moved⟩, mkk_Moved := p5_Moved, na_Moved_worth := na_Moved_worth, na_Moved_back := na_Moved_back, na_Moved_cell := na_Moved_cell, na_Moved_added := na_Moved_added, na_Moved_other_back := na_Moved_other_back, na_Moved_other_cell := na_Moved_other_cell, na_Moved_begin := na_Moved_begin, na_Moved_span := na_Moved_span, na_Moved_worths := na_Moved_worths, na_Moved_rules := na_Moved_rules, mk_Moved := ⟨p5_Moved, ma_Moved_init, mb_Moved_init, p6_Moved⟩, mt_Moved_str := ⟨ma_Moved_str, mb_Moved_str, k11⟩, mt_Moved_told := ⟨ma_Moved_told, mb_Moved_told, k12⟩, mt_Moved_needs := ⟨ma_Moved_needs, mb_Moved_needs, k13⟩, mt_Moved_value := ⟨ma_Moved_value, mb_Moved_value, k14⟩, cl_Mixed := ⟨p1_Mixed, p2_Mixed, p3_Mixed, p4_Mixed⟩, mkk_Mixed := p5_Mixed, na_Mixed_worth := na_Mixed_worth, na_Mixed_back := na_Mixed_back, na_Mixed_cell := na_Mixed_cell, na_Mixed_added := na_Mixed_added, na_Mixed_other_back := na_Mixed_other_back, na_Mixed_other_cell := na_Mixed_other_cell, na_Mixed_begin := na_Mixed_begin, na_Mixed_span := na_Mixed_span, na_Mixed_worths := na_Mixed_worths, na_Mixed_rules := na_Mixed_rules, mk_Mixed := ⟨p5_Mixed, ma_Mixed_init, mb_Mixed_init, p6_Mixed⟩, mt_Mixed_str := ⟨ma_Mixed_str, mb_Mixed_str, k16⟩, mt_Mixed_told := ⟨ma_Mixed_told, mb_Mixed_told, k17⟩, mt_Mixed_needs := ⟨ma_Mixed_needs, mb_Mixed_needs, k18⟩, mt_Mixed_value := ⟨ma_Mixed_value, mb_Mixed_value, k19⟩, cl_Leaf := ⟨p1_Leaf, p2_Leaf, p3_Leaf, p4_Leaf⟩, mkk_Leaf := p5_Leaf, na_Leaf_worth := na_Leaf_worth, na_Leaf_back := na_Leaf_back, na_Leaf_cell := na_Leaf_cell, na_Leaf_added := na_Leaf_added, na_Leaf_other_back := na_Leaf_other_back, na_Leaf_other_cell := na_Leaf_other_cell, na_Leaf_begin := na_Leaf_begin, na_Leaf_span := na_Leaf_span, na_Leaf_worths := na_Leaf_worths, na_Leaf_rules := na_Leaf_rules, mk_Leaf := ⟨p5_Leaf, ma_Leaf_init, mb_Leaf_init, p6_Leaf⟩, mt_Leaf_told := ⟨ma_Leaf_told, mb_Leaf_told, k26⟩, mt_Leaf_cells := ⟨ma_Leaf_cells, mb_Leaf_cells, k27⟩, mt_Leaf_rule := ⟨ma_Leaf_rule, mb_Leaf_rule, k28⟩, cl_Full := ⟨p1_Full, p2_Full, p3_Full, p4_Full⟩, mkk_Full := p5_Full, na_Full_worth := na_Full_worth, na_Full_back := na_Full_back, na_Full_cell := na_Full_cell, na_Full_added := na_Full_added, na_Full_other_back := na_Full_other_back, na_Full_other_cell := na_Full_other_cell, na_Full_begin := na_Full_begin, na_Full_span := na_Full_span, na_Full_worths := na_Full_worths, na_Full_rules := na_Full_rules, mk_Full := ⟨p5_Full, ma_Full_init, mb_Full_init, p6_Full⟩, mt_Full_told := ⟨ma_Full_told, mb_Full_told, k30⟩, mt_Full_cells := ⟨ma_Full_cells, mb_Full_cells, k31⟩, mt_Full_rule := ⟨ma_Full_rule, mb_Full_rule, k32⟩, cl_Still := ⟨p1_Still, p2_Still, p3_Still, p4_Still⟩, mkk_Still := p5_Still, na_Still_worth := na_Still_worth, na_Still_back := na_Still_back, na_Still_cell := na_Still_cell, na_Still_added := na_Still_added, na_Still_other_back := na_Still_other_back, na_Still_other_cell := na_Still_other_cell, na_Still_begin := na_Still_begin, na_Still_span := na_Still_span, na_Still_worths := na_Still_worths, na_Still_rules := na_Still_rules, mk_Still := ⟨p5_Still, ma_Still_init, mb_Still_init, p6_Still⟩, mt_Still_told := ⟨ma_Still_told, mb_Still_told, k34⟩, mt_Still_cells := ⟨ma_Still_cells, mb_Still_cells, k35⟩, mt_Still_rule := ⟨ma_Still_rule, mb_Still_rule, k36⟩, cl_Woven := ⟨p1_Woven, p2_Woven, p3_Woven, p4_Woven⟩, mkk_Woven := p5_Woven, na_Woven_worth := na_Woven_worth, na_Woven_back := na_Woven_back, na_Woven_cell := na_Woven_cell, na_Woven_added := na_Woven_added, na_Woven_other_back := na_Woven_other_back, na_Woven_other_cell := na_Woven_other_cell, na_Woven_begin := na_Woven_begin, na_Woven_span := na_Woven_span, na_Woven_worths := na_Woven_worths, na_Woven_rules := na_Woven_rules, mk_Woven := ⟨p5_Woven, ma_Woven_init, mb_Woven_init, p6_Woven⟩, mt_Woven_told := ⟨ma_Woven_told, mb_Woven_told, k38⟩, mt_Woven_cells := ⟨ma_Woven_cells, mb_Woven_cells, k39⟩, mt_Woven_rule := ⟨ma_Woven_rule, mb_Woven_rule, k40⟩, em_NoCell_ScrollError := exm_by bs_NoCell_ScrollError is_NoCell_ScrollError ts_NoCell_ScrollError sb_NoCell_ScrollError, em_NoLeaf_ScrollError := exm_by bs_NoLeaf_ScrollError is_NoLeaf_ScrollError ts_NoLeaf_ScrollError sb_NoLeaf_ScrollError, em_NoRule_ScrollError := exm_by bs_NoRule_ScrollError is_NoRule_ScrollError ts_NoRule_ScrollError sb_NoRule_ScrollError, ki_Rule_Leaf := ki_Rule_Leaf, ki_Plain_Leaf := ki_Plain_Leaf, ki_Moved_Leaf := ki_Moved_Leaf, ki_Mixed_Leaf := ki_Mixed_Leaf, ki_Leaf_Leaf := ki_Leaf_Leaf, ki_Full_Leaf := ki_Full_Leaf, ki_Still_Leaf := ki_Still_Leaf, ki_Woven_Leaf := ki_Woven_Leaf, ty_Rule := fun e => .base (.ins e ⟨p1_Rule, p2_Rule, p3_Rule, p4_Rule⟩ t1_Rule t2_Rule t3_Rule t4_Rule), ty_Plain := fun e => .base (.ins e ⟨p1_Plain, p2_Plain, p3_Plain, p4_Plain⟩ t1_Plain t2_Plain t3_Plain t4_Plain), ty_Moved := fun e => .base (.ins e ⟨p1_Moved, p2_Moved, p3_Moved, p4_Moved⟩ t1_Moved t2_Moved t3_Moved t4_Moved), ty_Mixed := fun e => .base (.ins e ⟨p1_Mixed, p2_Mixed, p3_Mixed, p4_Mixed⟩ t1_Mixed t2_Mixed t3_Mixed t4_Mixed), ty_Leaf := fun e => .base (.ins e ⟨p1_Leaf, p2_Leaf, p3_Leaf, p4_Leaf⟩ t1_Leaf t2_Leaf t3_Leaf t4_Leaf), ty_Full := fun e => .base (.ins e ⟨p1_Full, p2_Full, p3_Full, p4_Full⟩ t1_Full t2_Full t3_Full t4_Full), ty_Still := fun e => .base (.ins e ⟨p1_Still, p2_Still, p3_Still, p4_Still⟩ t1_Still t2_Still t3_Still t4_Still), ty_Woven := fun e => .base (.ins e ⟨p1_Woven, p2_Woven, p3_Woven, p4_Woven⟩ t1_Woven t2_Woven t3_Woven t4_Woven), io_NoCell_NoRule := io_NoCell_NoRule, io_NoLeaf_NoRule := io_NoLeaf_NoRule, io_NoRule_NoRule := io_NoRule_NoRule, io_NoCell_NoCell := io_NoCell_NoCell, io_NoLeaf_NoCell := io_NoLeaf_NoCell, io_NoRule_NoCell := io_NoRule_NoCell, io_NoCell_NoNumber := io_NoCell_NoNumber, io_NoLeaf_NoNumber := io_NoLeaf_NoNumber, io_NoRule_NoNumber := io_NoRule_NoNumber, io_NoCell_NoFilm := io_NoCell_NoFilm, io_NoLeaf_NoFilm := io_NoLeaf_NoFilm, io_NoRule_NoFilm := io_NoRule_NoFilm, io_NoCell_NoLeaf := io_NoCell_NoLeaf, io_NoLeaf_NoLeaf := io_NoLeaf_NoLeaf, io_NoRule_NoLeaf := io_NoRule_NoLeaf, io_NoCell_ValueError := io_NoCell_ValueError, io_NoLeaf_ValueError := io_NoLeaf_ValueError, io_NoRule_ValueError := io_NoRule_ValueError }⟩
end LK
open PySem PySem.W PyProof.Rows
set_option maxHeartbeats 0 in
theorem PySem.Challenge.cw_lanescroll_k07_no_leaves_holds : PySem.Challenge.rw_lanescroll_k07_no_leaves.Holds := by
  w_on; o_law; k_head; (case hw => w_witness2)
  k_fill
  refine L2.walk_of (l := PySem.Challenge.rw_lanescroll_k07_no_leaves) (n := 63) (k := 21) (x := "_law_script") (CX := fun _ => L2.CX0) (sp := fun w => LK.spLaw _) rfl (by decide) rfl ⟨rfl, by decide, by decide⟩ (fun w h Y => PySem.W.kIn_of Y) ?F (fun _ _ a ns hl _ hS => ⟨a, ns, rfl, hS, hl, fun _ => rfl⟩) (fun _ _ _ _ _ h => h)
  case F =>
    intro w mg fa h KX G hmg
    refine' LK.all_mk KX G hmg ?a0 ?l0 ?c0 ?k0 ?a1 ?l1 ?c1 ?k1 ?y2 ?a2 ?l2 ?c2 ?k2 ?y3 ?a3 ?l3 ?c3 ?k3 ?y4 ?a4 ?l4 ?c4 ?k4 ?y5 ?a5 ?l5 ?c5 ?k5 ?y6 ?a6 ?l6 ?c6 ?k6 ?y7 ?a7 ?l7 ?c7 ?k7 ?y8 ?a8 ?l8 ?c8 ?k8 ?y9 ?a9 ?l9 ?c9 ?k9 ?y10 ?a10 ?l10 ?c10 ?k10 ?y11 ?a11 ?l11 ?c11 ?k11 ?y12 ?a12 ?l12 ?c12 ?k12 ?y13 ?a13 ?l13 ?c13 ?k13 ?y14 ?a14 ?l14 ?c14 ?k14 ?y15 ?a15 ?l15 ?c15 ?k15 ?y16 ?a16 ?l16 ?c16 ?k16 ?y17 ?a17 ?l17 ?c17 ?k17 ?y18 ?a18 ?l18 ?c18 ?k18 ?y19 ?a19 ?l19 ?c19 ?k19 ?a20 ?l20 ?c20 ?k20 ?a21 ?l21 ?c21 ?k21 ?a22 ?l22 ?c22 ?k22 ?a23 ?l23 ?c23 ?k23 ?a24 ?l24 ?c24 ?k24 ?y25 ?a25 ?l25 ?c25 ?k25 ?y26 ?a26 ?l26 ?c26 ?k26 ?y27 ?a27 ?l27 ?c27 ?k27 ?y28 ?a28 ?l28 ?c28 ?k28 ?y29 ?a29 ?l29 ?c29 ?u1_29 ?u2_29 ?u3_29 ?u4_29 ?u5_29 ?u6_29 ?u7_29 ?u8_29 ?u9_29 ?v1_29 ?v2_29 ?v3_29 ?v4_29 ?v5_29 ?k29 ?y30 ?a30 ?l30 ?c30 ?k30 ?y31 ?a31 ?l31 ?c31 ?k31 ?y32 ?a32 ?l32 ?c32 ?k32 ?y33 ?a33 ?l33 ?c33 ?u1_33 ?u2_33 ?u3_33 ?u4_33 ?u5_33 ?u6_33 ?u7_33 ?u8_33 ?u9_33 ?v1_33 ?v2_33 ?v3_33 ?v4_33 ?v5_33 ?k33 ?y34 ?a34 ?l34 ?c34 ?k34 ?y35 ?a35 ?l35 ?c35 ?k35 ?y36 ?a36 ?l36 ?c36 ?k36 ?y37 ?a37 ?l37 ?c37 ?u1_37 ?u2_37 ?u3_37 ?u4_37 ?u5_37 ?u6_37 ?u7_37 ?u8_37 ?u9_37 ?v1_37 ?v2_37 ?v3_37 ?v4_37 ?v5_37 ?k37 ?y38 ?a38 ?l38 ?c38 ?k38 ?y39 ?a39 ?l39 ?c39 ?k39 ?y40 ?a40 ?l40 ?c40 ?k40 ?a41 ?l41 ?c41 ?k41 ?a42 ?l42 ?c42 ?k42 ?a43 ?l43 ?c43 ?k43 ?a44 ?l44 ?c44 ?k44 ?a45 ?l45 ?c45 ?k45 ?a46 ?l46 ?c46 ?k46 ?a47 ?l47 ?c47 ?k47 ?a48 ?l48 ?c48 ?k48 ?a49 ?l49 ?c49 ?k49 ?a50 ?l50 ?c50 ?k50 ?a51 ?l51 ?c51 ?k51 ?a52 ?l52 ?c52 ?k52 ?a53 ?l53 ?c53 ?k53 ?a54 ?l54 ?c54 ?k54 ?a55 ?l55 ?c55 ?k55 ?a56 ?l56 ?c56 ?k56 ?a57 ?l57 ?c57 ?k57 ?a58 ?l58 ?c58 ?k58 ?a59 ?l59 ?c59 ?k59 ?z_ValueError ?z_all ?z_bool ?z_int ?z_isinstance ?z_len ?z_list ?z_range ?z_str ?z_tuple ?g_GREATEST_VALUE ?g_GREATEST_BACK ?g_LAST_CELL ?g_GREATEST_TIME ?g_MOST_CELLS ?g_ScrollError ?g_NoRule ?x_NoRule ?kc_NoRule ?bb_NoRule ?t_NoRule ?xa_NoRule ?xb_NoRule ?xc_NoRule ?xd_NoRule ?xe_NoRule ?xf_NoRule ?xg_NoRule ?g_NoLeaf ?x_NoLeaf ?kc_NoLeaf ?bb_NoLeaf ?t_NoLeaf ?xa_NoLeaf ?xb_NoLeaf ?xc_NoLeaf ?xd_NoLeaf ?xe_NoLeaf ?xf_NoLeaf ?xg_NoLeaf ?g_NoCell ?x_NoCell ?kc_NoCell ?bb_NoCell ?t_NoCell ?xa_NoCell ?xb_NoCell ?xc_NoCell ?xd_NoCell ?xe_NoCell ?xf_NoCell ?xg_NoCell ?g_NoFilm ?g_NoNumber ?g_Rule ?g_Plain ?g_Moved ?g_Mixed ?g_Leaf ?g_Full ?g_Still ?g_Woven ?p1_Rule ?p2_Rule ?p3_Rule ?p4_Rule ?p5_Rule ?p6_Rule ?na_Rule_worth ?na_Rule_back ?na_Rule_cell ?na_Rule_added ?na_Rule_other_back ?na_Rule_other_cell ?na_Rule_begin ?na_Rule_span ?na_Rule_worths ?na_Rule_rules ?ma_Rule_told ?mb_Rule_told ?ma_Rule_needs ?mb_Rule_needs ?ma_Rule_value ?mb_Rule_value ?p1_Plain ?p2_Plain ?p3_Plain ?p4_Plain ?p5_Plain ?p6_Plain ?na_Plain_worth ?na_Plain_back ?na_Plain_cell ?na_Plain_added ?na_Plain_other_back ?na_Plain_other_cell ?na_Plain_begin ?na_Plain_span ?na_Plain_worths ?na_Plain_rules ?ma_Plain_init ?mb_Plain_init ?ma_Plain_str ?mb_Plain_str ?ma_Plain_told ?mb_Plain_told ?ma_Plain_needs ?mb_Plain_needs ?ma_Plain_value ?mb_Plain_value ?p1_Moved ?p2_Moved ?p3_Moved ?p4_Moved ?p5_Moved ?p6_Moved ?na_Moved_worth ?na_Moved_back ?na_Moved_cell ?na_Moved_added ?na_Moved_other_back ?na_Moved_other_cell ?na_Moved_begin ?na_Moved_span ?na_Moved_worths ?na_Moved_rules ?ma_Moved_init ?mb_Moved_init ?ma_Moved_str ?mb_Moved_str ?ma_Moved_told ?mb_Moved_told ?ma_Moved_needs ?mb_Moved_needs ?ma_Moved_value ?mb_Moved_value ?p1_Mixed ?p2_Mixed ?p3_Mixed ?p4_Mixed ?p5_Mixed ?p6_Mixed ?na_Mixed_worth ?na_Mixed_back ?na_Mixed_cell ?na_Mixed_added ?na_Mixed_other_back ?na_Mixed_other_cell ?na_Mixed_begin ?na_Mixed_span ?na_Mixed_worths ?na_Mixed_rules ?ma_Mixed_init ?mb_Mixed_init ?ma_Mixed_str ?mb_Mixed_str ?ma_Mixed_told ?mb_Mixed_told ?ma_Mixed_needs ?mb_Mixed_needs ?ma_Mixed_value ?mb_Mixed_value ?p1_Leaf ?p2_Leaf ?p3_Leaf ?p4_Leaf ?p5_Leaf ?p6_Leaf ?na_Leaf_worth ?na_Leaf_back ?na_Leaf_cell ?na_Leaf_added ?na_Leaf_other_back ?na_Leaf_other_cell ?na_Leaf_begin ?na_Leaf_span ?na_Leaf_worths ?na_Leaf_rules ?ma_Leaf_init ?mb_Leaf_init ?ma_Leaf_told ?mb_Leaf_told ?ma_Leaf_cells ?mb_Leaf_cells ?ma_Leaf_rule ?mb_Leaf_rule ?p1_Full ?p2_Full ?p3_Full ?p4_Full ?p5_Full ?p6_Full ?na_Full_worth ?na_Full_back ?na_Full_cell ?na_Full_added ?na_Full_other_back ?na_Full_other_cell ?na_Full_begin ?na_Full_span ?na_Full_worths ?na_Full_rules ?ma_Full_init ?mb_Full_init ?ma_Full_told ?mb_Full_told ?ma_Full_cells ?mb_Full_cells ?ma_Full_rule ?mb_Full_rule ?p1_Still ?p2_Still ?p3_Still ?p4_Still ?p5_Still ?p6_Still ?na_Still_worth ?na_Still_back ?na_Still_cell ?na_Still_added ?na_Still_other_back ?na_Still_other_cell ?na_Still_begin ?na_Still_span ?na_Still_worths ?na_Still_rules ?ma_Still_init ?mb_Still_init ?ma_Still_told ?mb_Still_told ?ma_Still_cells ?mb_Still_cells ?ma_Still_rule ?mb_Still_rule ?p1_Woven ?p2_Woven ?p3_Woven ?p4_Woven ?p5_Woven ?p6_Woven ?na_Woven_worth ?na_Woven_back ?na_Woven_cell ?na_Woven_added ?na_Woven_other_back ?na_Woven_other_cell ?na_Woven_begin ?na_Woven_span ?na_Woven_worths ?na_Woven_rules ?ma_Woven_init ?mb_Woven_init ?ma_Woven_told ?mb_Woven_told ?ma_Woven_cells ?mb_Woven_cells ?ma_Woven_rule ?mb_Woven_rule ?sb_NoCell_ScrollError ?bs_NoCell_ScrollError ?ts_NoCell_ScrollError ?is_NoCell_ScrollError ?sb_NoLeaf_ScrollError ?bs_NoLeaf_ScrollError ?ts_NoLeaf_ScrollError ?is_NoLeaf_ScrollError ?sb_NoRule_ScrollError ?bs_NoRule_ScrollError ?ts_NoRule_ScrollError ?is_NoRule_ScrollError ?ki_Rule_Leaf ?ki_Plain_Leaf ?ki_Moved_Leaf ?ki_Mixed_Leaf ?ki_Leaf_Leaf ?ki_Full_Leaf ?ki_Still_Leaf ?ki_Woven_Leaf ?t1_Rule ?t2_Rule ?t3_Rule ?t4_Rule ?t1_Plain ?t2_Plain ?t3_Plain ?t4_Plain ?t1_Moved ?t2_Moved ?t3_Moved ?t4_Moved ?t1_Mixed ?t2_Mixed ?t3_Mixed ?t4_Mixed ?t1_Leaf ?t2_Leaf ?t3_Leaf ?t4_Leaf ?t1_Full ?t2_Full ?t3_Full ?t4_Full ?t1_Still ?t2_Still ?t3_Still ?t4_Still ?t1_Woven ?t2_Woven ?t3_Woven ?t4_Woven ?io_NoCell_NoRule ?io_NoLeaf_NoRule ?io_NoRule_NoRule ?io_NoCell_NoCell ?io_NoLeaf_NoCell ?io_NoRule_NoCell ?io_NoCell_NoNumber ?io_NoLeaf_NoNumber ?io_NoRule_NoNumber ?io_NoCell_NoFilm ?io_NoLeaf_NoFilm ?io_NoRule_NoFilm ?io_NoCell_NoLeaf ?io_NoLeaf_NoLeaf ?io_NoRule_NoLeaf ?io_NoCell_ValueError ?io_NoLeaf_ValueError ?io_NoRule_ValueError
    (case a0 => k_is)
    (case l0 => k_is)
    (case c0 => k_is)
    (case k0 => k_is)
    (case a1 => k_is)
    (case l1 => k_is)
    (case c1 => k_is)
    (case k1 => k_is)
    (case y2 => k_is)
    (case a2 => k_is)
    (case l2 => k_is)
    (case c2 => k_is)
    (case k2 => k_is)
    (case y3 => k_is)
    (case a3 => k_is)
    (case l3 => k_is)
    (case c3 => k_is)
    (case k3 => k_is)
    (case y4 => k_is)
    (case a4 => k_is)
    (case l4 => k_is)
    (case c4 => k_is)
    (case k4 => k_is)
    (case y5 => k_is)
    (case a5 => k_is)
    (case l5 => k_is)
    (case c5 => k_is)
    (case k5 => k_is)
    (case y6 => k_is)
    (case a6 => k_is)
    (case l6 => k_is)
    (case c6 => k_is)
    (case k6 => k_is)
    (case y7 => k_is)
    (case a7 => k_is)
    (case l7 => k_is)
    (case c7 => k_is)
    (case k7 => k_is)
    (case y8 => k_is)
    (case a8 => k_is)
    (case l8 => k_is)
    (case c8 => k_is)
    (case k8 => k_is)
    (case y9 => k_is)
    (case a9 => k_is)
    (case l9 => k_is)
    (case c9 => k_is)
    (case k9 => k_is)
    (case y10 => k_is)
    (case a10 => k_is)
    (case l10 => k_is)
    (case c10 => k_is)
    (case k10 => k_is)
    (case y11 => k_is)
    (case a11 => k_is)
    (case l11 => k_is)
    (case c11 => k_is)
    (case k11 => k_is)
    (case y12 => k_is)
    (case a12 => k_is)
    (case l12 => k_is)
    (case c12 => k_is)
    (case k12 => k_is)
    (case y13 => k_is)
    (case a13 => k_is)
    (case l13 => k_is)
    (case c13 => k_is)
    (case k13 => k_is)
    (case y14 => k_is)
    (case a14 => k_is)
    (case l14 => k_is)
    (case c14 => k_is)
    (case k14 => k_is)
    (case y15 => k_is)
    (case a15 => k_is)
    (case l15 => k_is)
    (case c15 => k_is)
    (case k15 => k_is)
    (case y16 => k_is)
    (case a16 => k_is)
    (case l16 => k_is)
    (case c16 => k_is)
    (case k16 => k_is)
    (case y17 => k_is)
    (case a17 => k_is)
    (case l17 => k_is)
    (case c17 => k_is)
    (case k17 => k_is)
    (case y18 => k_is)
    (case a18 => k_is)
    (case l18 => k_is)
    (case c18 => k_is)
    (case k18 => k_is)
    (case y19 => k_is)
    (case a19 => k_is)
    (case l19 => k_is)
    (case c19 => k_is)
    (case k19 => k_is)
    (case a20 => k_is)
    (case l20 => k_is)
    (case c20 => k_is)
    (case k20 => k_is)
    (case a21 => k_is)
    (case l21 => k_is)
    (case c21 => k_is)
    (case k21 => k_is)
    (case a22 => k_is)
    (case l22 => k_is)
    (case c22 => k_is)
    (case k22 => k_is)
    (case a23 => k_is)
    (case l23 => k_is)
    (case c23 => k_is)
    (case k23 => k_is)
    (case a24 => k_is)
    (case l24 => k_is)
    (case c24 => k_is)
    (case k24 => k_is)
    (case y25 => k_is)
    (case a25 => k_is)
    (case l25 => k_is)
    (case c25 => k_is)
    (case k25 => k_is)
    (case y26 => k_is)
    (case a26 => k_is)
    (case l26 => k_is)
    (case c26 => k_is)
    (case k26 => k_is)
    (case y27 => k_is)
    (case a27 => k_is)
    (case l27 => k_is)
    (case c27 => k_is)
    (case k27 => k_is)
    (case y28 => k_is)
    (case a28 => k_is)
    (case l28 => k_is)
    (case c28 => k_is)
    (case k28 => k_is)
    (case y29 => k_is)
    (case a29 => k_is)
    (case l29 => k_is)
    (case c29 => k_is)
    (case u1_29 => k_is)
    (case u2_29 => first | rfl | decide +kernel | k_is)
    (case u3_29 => first | rfl | decide +kernel | k_is)
    (case u4_29 => k_is)
    (case u5_29 => k_is)
    (case u6_29 => k_is)
    (case u7_29 => k_is)
    (case u8_29 => first | rfl | decide +kernel | k_is)
    (case u9_29 => ks_is)
    (case v1_29 => k_is)
    (case v2_29 => k_is)
    (case v3_29 => k_is)
    (case v4_29 => first | rfl | decide +kernel | k_is)
    (case v5_29 => first | rfl | decide +kernel | k_is)
    (case k29 => k_is)
    (case y30 => k_is)
    (case a30 => k_is)
    (case l30 => k_is)
    (case c30 => k_is)
    (case k30 => k_is)
    (case y31 => k_is)
    (case a31 => k_is)
    (case l31 => k_is)
    (case c31 => k_is)
    (case k31 => k_is)
    (case y32 => k_is)
    (case a32 => k_is)
    (case l32 => k_is)
    (case c32 => k_is)
    (case k32 => k_is)
    (case y33 => k_is)
    (case a33 => k_is)
    (case l33 => k_is)
    (case c33 => k_is)
    (case u1_33 => k_is)
    (case u2_33 => first | rfl | decide +kernel | k_is)
    (case u3_33 => first | rfl | decide +kernel | k_is)
    (case u4_33 => k_is)
    (case u5_33 => k_is)
    (case u6_33 => k_is)
    (case u7_33 => k_is)
    (case u8_33 => first | rfl | decide +kernel | k_is)
    (case u9_33 => ks_is)
    (case v1_33 => k_is)
    (case v2_33 => k_is)
    (case v3_33 => k_is)
    (case v4_33 => first | rfl | decide +kernel | k_is)
    (case v5_33 => first | rfl | decide +kernel | k_is)
    (case k33 => k_is)
    (case y34 => k_is)
    (case a34 => k_is)
    (case l34 => k_is)
    (case c34 => k_is)
    (case k34 => k_is)
    (case y35 => k_is)
    (case a35 => k_is)
    (case l35 => k_is)
    (case c35 => k_is)
    (case k35 => k_is)
    (case y36 => k_is)
    (case a36 => k_is)
    (case l36 => k_is)
    (case c36 => k_is)
    (case k36 => k_is)
    (case y37 => k_is)
    (case a37 => k_is)
    (case l37 => k_is)
    (case c37 => k_is)
    (case u1_37 => k_is)
    (case u2_37 => first | rfl | decide +kernel | k_is)
    (case u3_37 => first | rfl | decide +kernel | k_is)
    (case u4_37 => k_is)
    (case u5_37 => k_is)
    (case u6_37 => k_is)
    (case u7_37 => k_is)
    (case u8_37 => first | rfl | decide +kernel | k_is)
    (case u9_37 => ks_is)
    (case v1_37 => k_is)
    (case v2_37 => k_is)
    (case v3_37 => k_is)
    (case v4_37 => first | rfl | decide +kernel | k_is)
    (case v5_37 => first | rfl | decide +kernel | k_is)
    (case k37 => k_is)
    (case y38 => k_is)
    (case a38 => k_is)
    (case l38 => k_is)
    (case c38 => k_is)
    (case k38 => k_is)
    (case y39 => k_is)
    (case a39 => k_is)
    (case l39 => k_is)
    (case c39 => k_is)
    (case k39 => k_is)
    (case y40 => k_is)
    (case a40 => k_is)
    (case l40 => k_is)
    (case c40 => k_is)
    (case k40 => k_is)
    (case a41 => k_is)
    (case l41 => k_is)
    (case c41 => k_is)
    (case k41 => k_is)
    (case a42 => k_is)
    (case l42 => k_is)
    (case c42 => k_is)
    (case k42 => k_is)
    (case a43 => k_is)
    (case l43 => k_is)
    (case c43 => k_is)
    (case k43 => k_is)
    (case a44 => k_is)
    (case l44 => k_is)
    (case c44 => k_is)
    (case k44 => k_is)
    (case a45 => k_is)
    (case l45 => k_is)
    (case c45 => k_is)
    (case k45 => k_is)
    (case a46 => k_is)
    (case l46 => k_is)
    (case c46 => k_is)
    (case k46 => k_is)
    (case a47 => k_is)
    (case l47 => k_is)
    (case c47 => k_is)
    (case k47 => k_is)
    (case a48 => k_is)
    (case l48 => k_is)
    (case c48 => k_is)
    (case k48 => k_is)
    (case a49 => k_is)
    (case l49 => k_is)
    (case c49 => k_is)
    (case k49 => k_is)
    (case a50 => k_is)
    (case l50 => k_is)
    (case c50 => k_is)
    (case k50 => k_is)
    (case a51 => k_is)
    (case l51 => k_is)
    (case c51 => k_is)
    (case k51 => k_is)
    (case a52 => k_is)
    (case l52 => k_is)
    (case c52 => k_is)
    (case k52 => k_is)
    (case a53 => k_is)
    (case l53 => k_is)
    (case c53 => k_is)
    (case k53 => k_is)
    (case a54 => k_is)
    (case l54 => k_is)
    (case c54 => k_is)
    (case k54 => k_is)
    (case a55 => k_is)
    (case l55 => k_is)
    (case c55 => k_is)
    (case k55 => k_is)
    (case a56 => k_is)
    (case l56 => k_is)
    (case c56 => k_is)
    (case k56 => k_is)
    (case a57 => k_is)
    (case l57 => k_is)
    (case c57 => k_is)
    (case k57 => k_is)
    (case a58 => k_is)
    (case l58 => k_is)
    (case c58 => k_is)
    (case k58 => k_is)
    (case a59 => k_is)
    (case l59 => k_is)
    (case c59 => k_is)
    (case k59 => k_is)
    (case z_ValueError => k_is)
    (case z_all => k_is)
    (case z_bool => k_is)
    (case z_int => k_is)
    (case z_isinstance => k_is)
    (case z_len => k_is)
    (case z_list => k_is)
    (case z_range => k_is)
    (case z_str => k_is)
    (case z_tuple => k_is)
    (case g_GREATEST_VALUE => k_is)
    (case g_GREATEST_BACK => k_is)
    (case g_LAST_CELL => k_is)
    (case g_GREATEST_TIME => k_is)
    (case g_MOST_CELLS => k_is)
    (case g_ScrollError => k_is)
    (case g_NoRule => k_is)
    (case x_NoRule => k_exc)
    (case kc_NoRule => k_is)
    (case bb_NoRule => k_is)
    (case t_NoRule => k_is)
    (case xa_NoRule => k_is)
    (case xb_NoRule => k_is)
    (case xc_NoRule => k_is)
    (case xd_NoRule => k_is)
    (case xe_NoRule => k_is)
    (case xf_NoRule => k_is)
    (case xg_NoRule => k_is)
    (case g_NoLeaf => k_is)
    (case x_NoLeaf => k_exc)
    (case kc_NoLeaf => k_is)
    (case bb_NoLeaf => k_is)
    (case t_NoLeaf => k_is)
    (case xa_NoLeaf => k_is)
    (case xb_NoLeaf => k_is)
    (case xc_NoLeaf => k_is)
    (case xd_NoLeaf => k_is)
    (case xe_NoLeaf => k_is)
    (case xf_NoLeaf => k_is)
    (case xg_NoLeaf => k_is)
    (case g_NoCell => k_is)
    (case x_NoCell => k_exc)
    (case kc_NoCell => k_is)
    (case bb_NoCell => k_is)
    (case t_NoCell => k_is)
    (case xa_NoCell => k_is)
    (case xb_NoCell => k_is)
    (case xc_NoCell => k_is)
    (case xd_NoCell => k_is)
    (case xe_NoCell => k_is)
    (case xf_NoCell => k_is)
    (case xg_NoCell => k_is)
    (case g_NoFilm => k_is)
    (case g_NoNumber => k_is)
    (case g_Rule => k_is)
    (case g_Plain => k_is)
    (case g_Moved => k_is)
    (case g_Mixed => k_is)
    (case g_Leaf => k_is)
    (case g_Full => k_is)
    (case g_Still => k_is)
    (case g_Woven => k_is)
    (case p1_Rule => k_is)
    (case p2_Rule => k_is)
    (case p3_Rule => k_is)
    (case p4_Rule => k_is)
    (case p5_Rule => k_is)
    (case p6_Rule => k_is)
    (case na_Rule_worth => k_is)
    (case na_Rule_back => k_is)
    (case na_Rule_cell => k_is)
    (case na_Rule_added => k_is)
    (case na_Rule_other_back => k_is)
    (case na_Rule_other_cell => k_is)
    (case na_Rule_begin => k_is)
    (case na_Rule_span => k_is)
    (case na_Rule_worths => k_is)
    (case na_Rule_rules => k_is)
    (case ma_Rule_told => k_is)
    (case mb_Rule_told => k_is)
    (case ma_Rule_needs => k_is)
    (case mb_Rule_needs => k_is)
    (case ma_Rule_value => k_is)
    (case mb_Rule_value => k_is)
    (case p1_Plain => k_is)
    (case p2_Plain => k_is)
    (case p3_Plain => k_is)
    (case p4_Plain => k_is)
    (case p5_Plain => k_is)
    (case p6_Plain => k_is)
    (case na_Plain_worth => k_is)
    (case na_Plain_back => k_is)
    (case na_Plain_cell => k_is)
    (case na_Plain_added => k_is)
    (case na_Plain_other_back => k_is)
    (case na_Plain_other_cell => k_is)
    (case na_Plain_begin => k_is)
    (case na_Plain_span => k_is)
    (case na_Plain_worths => k_is)
    (case na_Plain_rules => k_is)
    (case ma_Plain_init => k_is)
    (case mb_Plain_init => k_is)
    (case ma_Plain_str => k_is)
    (case mb_Plain_str => k_is)
    (case ma_Plain_told => k_is)
    (case mb_Plain_told => k_is)
    (case ma_Plain_needs => k_is)
    (case mb_Plain_needs => k_is)
    (case ma_Plain_value => k_is)
    (case mb_Plain_value => k_is)
    (case p1_Moved => k_is)
    (case p2_Moved => k_is)
    (case p3_Moved => k_is)
    (case p4_Moved => k_is)
    (case p5_Moved => k_is)
    (case p6_Moved => k_is)
    (case na_Moved_worth => k_is)
    (case na_Moved_back => k_is)
    (case na_Moved_cell => k_is)
    (case na_Moved_added => k_is)
    (case na_Moved_other_back => k_is)
    (case na_Moved_other_cell => k_is)
    (case na_Moved_begin => k_is)
    (case na_Moved_span => k_is)
    (case na_Moved_worths => k_is)
    (case na_Moved_rules => k_is)
    (case ma_Moved_init => k_is)
    (case mb_Moved_init => k_is)
    (case ma_Moved_str => k_is)
    (case mb_Moved_str => k_is)
    (case ma_Moved_told => k_is)
    (case mb_Moved_told => k_is)
    (case ma_Moved_needs => k_is)
    (case mb_Moved_needs => k_is)
    (case ma_Moved_value => k_is)
    (case mb_Moved_value => k_is)
    (case p1_Mixed => k_is)
    (case p2_Mixed => k_is)
    (case p3_Mixed => k_is)
    (case p4_Mixed => k_is)
    (case p5_Mixed => k_is)
    (case p6_Mixed => k_is)
    (case na_Mixed_worth => k_is)
    (case na_Mixed_back => k_is)
    (case na_Mixed_cell => k_is)
    (case na_Mixed_added => k_is)
    (case na_Mixed_other_back => k_is)
    (case na_Mixed_other_cell => k_is)
    (case na_Mixed_begin => k_is)
    (case na_Mixed_span => k_is)
    (case na_Mixed_worths => k_is)
    (case na_Mixed_rules => k_is)
    (case ma_Mixed_init => k_is)
    (case mb_Mixed_init => k_is)
    (case ma_Mixed_str => k_is)
    (case mb_Mixed_str => k_is)
    (case ma_Mixed_told => k_is)
    (case mb_Mixed_told => k_is)
    (case ma_Mixed_needs => k_is)
    (case mb_Mixed_needs => k_is)
    (case ma_Mixed_value => k_is)
    (case mb_Mixed_value => k_is)
    (case p1_Leaf => k_is)
    (case p2_Leaf => k_is)
    (case p3_Leaf => k_is)
    (case p4_Leaf => k_is)
    (case p5_Leaf => k_is)
    (case p6_Leaf => k_is)
    (case na_Leaf_worth => k_is)
    (case na_Leaf_back => k_is)
    (case na_Leaf_cell => k_is)
    (case na_Leaf_added => k_is)
    (case na_Leaf_other_back => k_is)
    (case na_Leaf_other_cell => k_is)
    (case na_Leaf_begin => k_is)
    (case na_Leaf_span => k_is)
    (case na_Leaf_worths => k_is)
    (case na_Leaf_rules => k_is)
    (case ma_Leaf_init => k_is)
    (case mb_Leaf_init => k_is)
    (case ma_Leaf_told => k_is)
    (case mb_Leaf_told => k_is)
    (case ma_Leaf_cells => k_is)
    (case mb_Leaf_cells => k_is)
    (case ma_Leaf_rule => k_is)
    (case mb_Leaf_rule => k_is)
    (case p1_Full => k_is)
    (case p2_Full => k_is)
    (case p3_Full => k_is)
    (case p4_Full => k_is)
    (case p5_Full => k_is)
    (case p6_Full => k_is)
    (case na_Full_worth => k_is)
    (case na_Full_back => k_is)
    (case na_Full_cell => k_is)
    (case na_Full_added => k_is)
    (case na_Full_other_back => k_is)
    (case na_Full_other_cell => k_is)
    (case na_Full_begin => k_is)
    (case na_Full_span => k_is)
    (case na_Full_worths => k_is)
    (case na_Full_rules => k_is)
    (case ma_Full_init => k_is)
    (case mb_Full_init => k_is)
    (case ma_Full_told => k_is)
    (case mb_Full_told => k_is)
    (case ma_Full_cells => k_is)
    (case mb_Full_cells => k_is)
    (case ma_Full_rule => k_is)
    (case mb_Full_rule => k_is)
    (case p1_Still => k_is)
    (case p2_Still => k_is)
    (case p3_Still => k_is)
    (case p4_Still => k_is)
    (case p5_Still => k_is)
    (case p6_Still => k_is)
    (case na_Still_worth => k_is)
    (case na_Still_back => k_is)
    (case na_Still_cell => k_is)
    (case na_Still_added => k_is)
    (case na_Still_other_back => k_is)
    (case na_Still_other_cell => k_is)
    (case na_Still_begin => k_is)
    (case na_Still_span => k_is)
    (case na_Still_worths => k_is)
    (case na_Still_rules => k_is)
    (case ma_Still_init => k_is)
    (case mb_Still_init => k_is)
    (case ma_Still_told => k_is)
    (case mb_Still_told => k_is)
    (case ma_Still_cells => k_is)
    (case mb_Still_cells => k_is)
    (case ma_Still_rule => k_is)
    (case mb_Still_rule => k_is)
    (case p1_Woven => k_is)
    (case p2_Woven => k_is)
    (case p3_Woven => k_is)
    (case p4_Woven => k_is)
    (case p5_Woven => k_is)
    (case p6_Woven => k_is)
    (case na_Woven_worth => k_is)
    (case na_Woven_back => k_is)
    (case na_Woven_cell => k_is)
    (case na_Woven_added => k_is)
    (case na_Woven_other_back => k_is)
    (case na_Woven_other_cell => k_is)
    (case na_Woven_begin => k_is)
    (case na_Woven_span => k_is)
    (case na_Woven_worths => k_is)
    (case na_Woven_rules => k_is)
    (case ma_Woven_init => k_is)
    (case mb_Woven_init => k_is)
    (case ma_Woven_told => k_is)
    (case mb_Woven_told => k_is)
    (case ma_Woven_cells => k_is)
    (case mb_Woven_cells => k_is)
    (case ma_Woven_rule => k_is)
    (case mb_Woven_rule => k_is)
    (case sb_NoCell_ScrollError => first | rfl | k_is | k_exc)
    (case bs_NoCell_ScrollError => k_is)
    (case ts_NoCell_ScrollError => k_is)
    (case is_NoCell_ScrollError => k_is)
    (case sb_NoLeaf_ScrollError => first | rfl | k_is | k_exc)
    (case bs_NoLeaf_ScrollError => k_is)
    (case ts_NoLeaf_ScrollError => k_is)
    (case is_NoLeaf_ScrollError => k_is)
    (case sb_NoRule_ScrollError => first | rfl | k_is | k_exc)
    (case bs_NoRule_ScrollError => k_is)
    (case ts_NoRule_ScrollError => k_is)
    (case is_NoRule_ScrollError => k_is)
    (case ki_Rule_Leaf => first | rfl | k_is | k_exc)
    (case ki_Plain_Leaf => first | rfl | k_is | k_exc)
    (case ki_Moved_Leaf => first | rfl | k_is | k_exc)
    (case ki_Mixed_Leaf => first | rfl | k_is | k_exc)
    (case ki_Leaf_Leaf => first | rfl | k_is | k_exc)
    (case ki_Full_Leaf => first | rfl | k_is | k_exc)
    (case ki_Still_Leaf => first | rfl | k_is | k_exc)
    (case ki_Woven_Leaf => first | rfl | k_is | k_exc)
    (case t1_Rule => k_is)
    (case t2_Rule => k_is)
    (case t3_Rule => k_is)
    (case t4_Rule => k_is)
    (case t1_Plain => k_is)
    (case t2_Plain => k_is)
    (case t3_Plain => k_is)
    (case t4_Plain => k_is)
    (case t1_Moved => k_is)
    (case t2_Moved => k_is)
    (case t3_Moved => k_is)
    (case t4_Moved => k_is)
    (case t1_Mixed => k_is)
    (case t2_Mixed => k_is)
    (case t3_Mixed => k_is)
    (case t4_Mixed => k_is)
    (case t1_Leaf => k_is)
    (case t2_Leaf => k_is)
    (case t3_Leaf => k_is)
    (case t4_Leaf => k_is)
    (case t1_Full => k_is)
    (case t2_Full => k_is)
    (case t3_Full => k_is)
    (case t4_Full => k_is)
    (case t1_Still => k_is)
    (case t2_Still => k_is)
    (case t3_Still => k_is)
    (case t4_Still => k_is)
    (case t1_Woven => k_is)
    (case t2_Woven => k_is)
    (case t3_Woven => k_is)
    (case t4_Woven => k_is)
    (case io_NoCell_NoRule => first | rfl | k_is | k_exc)
    (case io_NoLeaf_NoRule => first | rfl | k_is | k_exc)
    (case io_NoRule_NoRule => first | rfl | k_is | k_exc)
    (case io_NoCell_NoCell => first | rfl | k_is | k_exc)
    (case io_NoLeaf_NoCell => first | rfl | k_is | k_exc)
    (case io_NoRule_NoCell => first | rfl | k_is | k_exc)
    (case io_NoCell_NoNumber => first | rfl | k_is | k_exc)
    (case io_NoLeaf_NoNumber => first | rfl | k_is | k_exc)
    (case io_NoRule_NoNumber => first | rfl | k_is | k_exc)
    (case io_NoCell_NoFilm => first | rfl | k_is | k_exc)
    (case io_NoLeaf_NoFilm => first | rfl | k_is | k_exc)
    (case io_NoRule_NoFilm => first | rfl | k_is | k_exc)
    (case io_NoCell_NoLeaf => first | rfl | k_is | k_exc)
    (case io_NoLeaf_NoLeaf => first | rfl | k_is | k_exc)
    (case io_NoRule_NoLeaf => first | rfl | k_is | k_exc)
    (case io_NoCell_ValueError => first | rfl | k_is | k_exc)
    (case io_NoLeaf_ValueError => first | rfl | k_is | k_exc)
    (case io_NoRule_ValueError => first | rfl | k_is | k_exc)
