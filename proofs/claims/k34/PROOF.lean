import PyProof.Rows.All
import Wide.All
import OpenK.AllK
import Wide.FinOn
import KE.KExcSuper
import HandS.ForMost
import HandS.ForExc
import HandS.ExcInit
import PyProof.InstNe
import KE.KExcIs
import HandS.ExcIs
import HandS.SetFor
import HandS.IsInst
import HandS.Walk
import HandS.FStr
import HandS.More
import HandS.Codes
import HandS.Conv
import HandS.Defaults
import HandS.MakeKwOnly
import HandS.Property
import HandS.TupSets
import HandS.SetKeys
import HandS.SetTxt0
import HandS.Strs
import PyProof.Rows.SortShellAny
import HandS.SortRule
import HandS.SortOrd
import HandS.DictComp
import KE.GoesMore
import KE.KEqDict
import HandS.Lambda
import KE.KDflt
import HandS.Style
import HandS.TupAny
import HandS.Star
import KE.KRevSl
import HandS.ExcField
import HandS.TupLen
import HandS.RaiseMore
import HandS.ExcOwn
import HandS.FStrTup
import KE.DataMinMax
import KE.KDictWalk
import HandS.Iter
import HandS.Deep
import HandS.SetBool
import KE.SortData
import PyProof.Transfer
import KE.KDictSum
import HandS.DictTup
import PyProof.NeKinds
import HandS.List
import HandS.Call
import HandS.Flow
import HandS.Comp
import PyProof.DictUpdate
import KE.DatumOrd
import HandS.TupMul
import HandS.HotCalls
import HandS.SuiteRaise
import HandS.ExcInitHot
import HandS.EndTab
import KE.KNestM
import KE.RegKIsAll
import PySem.Challenge.RW_halfsetup_k34_diversions_by_places
set_option Elab.async false
set_option linter.all false
set_option maxRecDepth 100000
set_option maxHeartbeats 8000000
/-! a def (the own __init__ of an exception class) whose first statement is super().__init__(e) -/
namespace L2
open PySem PySem.Spec PyProof.Rows
theorem zip_rev_lookup : ∀ {ps : List Str} {us : List Value} {i : Nat} {y : Str} {u : Value}, ps.Nodup → ps[i]? = some y → us[i]? = some u → (ps.zip us).reverse.lookup y = some u
  | [], _, i, _, _, _, h, _ => by simp at h
  | p :: ps, [], i, _, _, _, _, h => by simp at h
  | p :: ps, u0 :: us, 0, y, u, nd, h1, h2 => by
    have e1 : p = y := by simpa using h1
    have e2 : u0 = u := by simpa using h2
    subst e1 e2
    have hp : p ∉ ps := (List.nodup_cons.mp nd).1
    have q : ((ps.zip us).reverse).lookup p = none := by
      rw [List.lookup_eq_none_iff]
      intro z hz
      have n : p ≠ z.1 := fun e' => hp (by rw [e']; exact (List.of_mem_zip (List.mem_reverse.mp hz)).1)
      simpa using n
    rw [List.zip_cons_cons, List.reverse_cons, List.lookup_append, q]
    simp [List.lookup]
  | p :: ps, u0 :: us, i + 1, y, u, nd, h1, h2 => by
    have ih := zip_rev_lookup (ps := ps) (us := us) (i := i) (y := y) (u := u) (List.nodup_cons.mp nd).2 (by simpa using h1) (by simpa using h2)
    rw [List.zip_cons_cons, List.reverse_cons, List.lookup_append, ih]
    rfl
/-- what a slot holds at the start is an argument -/
theorem start_val {N : List Str} {vs : List V} {i : Nat} {v : V} (h : (start N vs)[i]? = some (some v)) : vs[i]? = some v := by
  rcases Nat.lt_or_ge i vs.length with lt | ge
  · rw [show start N vs = vs.map some ++ List.replicate (N.length - vs.length) none from rfl, List.getElem?_append_left (by rwa [List.length_map]), List.getElem?_map, List.getElem?_eq_getElem lt] at h
    rw [List.getElem?_eq_getElem lt]
    exact Option.some.inj h
  · rw [show start N vs = vs.map some ++ List.replicate (N.length - vs.length) none from rfl, List.getElem?_append_right (by rwa [List.length_map])] at h
    exact nomatch (List.mem_replicate.mp (List.mem_of_getElem? h)).2
structure SupScope (N P : List Str) (sc : Scope) : Prop where
  kind : sc.kind = .function
  co : sc.isCoroutine = false
  gen : sc.isGenerator = false
  nd : N.Nodup
  pre : N.take P.length = P
  par : ∀ x ∈ P, sc.names.lookup x = some .local
  nocell : ∀ y ∈ sc.names, y.2 ≠ .cell
  free : ∀ y ∈ sc.names, y.2 = .free → y.1 = ("__class__" : Str)
  hs : sc.names.lookup ("super" : Str) = some .globalImplicit
  hc : sc.names.lookup ("__class__" : Str) = some .free
def cxSup (CX : CXT) (P : Program) (w : World) (K : PySem.W.Frag) (mg : Str → Option Value) (base : Heap) (N : List Str) (qual : Str) (scope : Scope) (f : Addr) (cd : Value) (cc : Addr) (A : Around) (outer : List Env) (s : Shared) (H : Hp) (E : XK) : Cx where
  prog := P
  w := w
  K := K
  mg := mg
  base := base
  A := A.deeper (PySem.W.ksEnv qual scope s.heap.objs.size f cd cc)
  N := N
  s_0 := s
  H_0 := H
  env := PySem.W.ksEnv qual scope s.heap.objs.size f cd cc
  outer := outer
  stack := PySem.W.ksEnv qual scope s.heap.objs.size f cd cc :: outer
  ex := []
  calm := true
  fn := fun _ => false
  pn := []
  xe := fun e s' => wpAny (model P w) (A.deeper (PySem.W.ksEnv qual scope s.heap.objs.size f cd cc)) (leaving (PySem.W.ksEnv qual scope s.heap.objs.size f cd cc) e) (fun _ s'' => CX outer H s E e s'') (fun e' s'' => CX outer H s E e' s'') s'
theorem inv_startS {CX : CXT} {P : Program} {w : World} {K : PySem.W.Frag} {mg : Str → Option Value} {base : Heap} {N ps : List Str} {qual : Str} {scope : Scope} {f cc : Addr} {cd : Value} {A : Around} {outer : List Env} {s : Shared} {H : Hp} {E : XK} {us : List Value} {vs : List V} {h₀ : Heap} {tk : Nat}
    {oc : Obj} {cv : Option Value} (S : SupScope N ps scope) (hd : A.handled = none) (e0 : Env0 P w K mg base A outer s H) (hl : vs.length = ps.length) (r : Vals vs us) (hcell : K.lookup cc = some oc) (hcd : oc.data = .cell cv)
    (hns : h₀.Ns s.heap.objs.size (fun x => (ps.zip us).reverse.lookup x)) (kp : ∀ b o, s.heap.get? b = some o → h₀.get? b = some o) :
    Inv (cxSup CX P w K mg base N qual scope f cd cc A outer s H E) [] (start N vs) H { s with heap := h₀, toks := tk } := by
  have hpl : ps.length ≤ N.length := by have := congrArg List.length S.pre; rw [List.length_take] at this; omega
  have noA : ∀ b : Addr, b ∉ (cxSup CX P w K mg base N qual scope f cd cc A outer s H E).ex := fun b z => absurd (show b ∈ ([] : List Addr) from z) (by simp)
  have hb := e0.bs cc oc (e0.mod.kin _ _ hcell)
  have lk : ∀ {y : Str} {c : Addr}, ([(("__class__" : Str), cc)] : List (Str × Addr)).lookup y = some c → y = ("__class__" : Str) ∧ c = cc := fun {y c} e => by
    simp only [List.lookup] at e
    split at e
    · rename_i q
      exact ⟨by simpa using q, (Option.some.inj e).symm⟩
    · cases e
  refine ⟨⟨e0.mod, S.kind, rfl, rfl, Nat.le_refl _, fun y z c h1 h2 => ?_, fun y hy => ?_, fun y c z _ => ?_, fun _ => hd, Around.frames_deeper e0.frames, .inr ⟨rfl, rfl⟩, fun b z => absurd z (noA b), e0.bs, e0.bsz, fun b _ _ => noA b, fun b z => absurd z (noA b), e0.funs, e0.frf⟩,
    rfl, e0.bare, Un.kept kp, ⟨_, hns, fun i y v h1 h2 h3 => ?_⟩, fun y c h => ?_, e0.hok.fresh (Nat.le_refl _), fun y c h => ?_, fun p hp => absurd (show p ∈ ([] : List (Addr × Obj)) from hp) (by simp), e0.hok.kept kp, ?_⟩
  · exact (lk h1).1.trans (lk h2).1.symm
  · have hy : scope.names.lookup y = some .cell ∨ scope.names.lookup y = some .free := hy
    rcases hy with hy | hy
    · exact absurd rfl (S.nocell _ (PySem.mem_of_lookup hy))
    · have e := S.free _ (PySem.mem_of_lookup hy) rfl
      have e : y = ("__class__" : Str) := e
      subst e
      exact ⟨cc, by show ([(("__class__" : Str), cc)] : List (Str × Addr)).lookup _ = _; simp [List.lookup]⟩
  · have z : false = true := z
    cases z
  · have ha := start_val h2
    have hi := (List.getElem?_eq_some_iff.mp ha).1
    obtain ⟨u, hu, rv⟩ := r.get ha
    have hp : ps[i]? = some y := by rw [← S.pre, List.getElem?_take_of_lt (by omega)]; exact h1
    have ndP : ps.Nodup := by rw [← S.pre]; exact S.nd.sublist (List.take_sublist _ _)
    exact ⟨u, rv, .inl ⟨S.par y (List.mem_of_getElem? hp), zip_rev_lookup ndP hp hu⟩⟩
  · have e := (lk h).2
    subst e
    exact ⟨cv, oc, kp _ _ hb.1, hcd⟩
  · have e := (lk h).2
    subst e
    exact hb.2
  · unfold start
    show _ = N.length
    rw [List.length_append, List.length_map, List.length_replicate]
    omega
/-- the built-in __init__, bound to the exception at a, called -/
theorem call_mw {P : Program} {w : World} {A : Around} {E : Value → Shared → Prop} {h : Heap} {g : Array GenState} {d : Drawn} {t : Nat} {os : OsState} {nm q : Str} {C N : Addr} {bs bm : List Value} {hdct : Bool} {sn : List Str} {sub : List Value} {ab : Bool} {col : Option Bool} {dd : Option Addr} {k0 k1 k2 k3 k5 : Option Value}
    {u e t0 : Addr} {rest : List Value} {Q : Value → Shared → Prop}
    (hC : h.get? C = some (excClassObj nm q C N bs bm hdct sn sub ab col dd k0 k1 k2 k3 k5 "ValueError.__new__")) (he : h.get? e = some (HandSPX.excO C t0)) (hu : h.get? u = some (PySem.W.kxs_mw "ValueError.__init__" e)) (hz : rest.length ≤ sizeLine)
    (hq : ∀ h' t1, (∀ b o, b ≠ e → h.get? b = some o → h'.get? b = some o) → h'.get? e = some (HandSPX.excO C t1) → Q .none ⟨h', g, d, t, os⟩) :
    wpAny (model P w) A (call (.ref u) rest) Q E ⟨h, g, d, t, os⟩ := by
  have FB := F.excBase_ValueError
  refine wpAny_call (codeAny_of_tree ?_); show wpAny _ A.in1 (callAny (.ref u) ⟨rest, []⟩) _ _ _
  simp only [callAny]; refine wpAny_bind (wpAny_load hu ?_)
  simp only [PySem.W.kxs_mw, show (Value.type "method-wrapper" == Value.type "method" || Value.type "method-wrapper" == Value.type "builtin_function_or_method" || Value.type "method-wrapper" == Value.type "method-wrapper") = true by decide, if_true]
  refine PySem.W.KFB.if_so (by decide) (wpAny_bind (PySem.W.check_bound_init FB.toExcCallFacts hC he rfl (wpAny_bind (wpAny_pure (wpAny_pure ⟨plainId_quiet FB.init.plain _, codeAny_builtin FB.initEntry ?_⟩)))))
  exact PySem.W.exc_init_tree (cls := .ref C) (t0 := t0) (dv := none) (c2 := .none) (c3 := .none) (b4 := .bool false) he hz fun h' k hx _ => hq h' h.objs.size k hx
/-- what the written part says besides, for super() in the __init__ of the class at D -/
structure SupC (P : Program) (K : PySem.W.Frag) (mg : Str → Option Value) (D : Addr) : Prop where
  oex : OexC K D
  sub : PySem.W.mroIn K D (.ref D) = some true
  sup : PySem.W.ks_superIn K D D "__init__" = some (some (.builtin "ValueError.__init__"))
  ve : PySem.W.subIn K (.ref D) (.type "ValueError") = some true
  op : PySem.W.nsIn K cStatics "thirdparty.any" = some none
  mgs : mg "super" = none
  top : (P.main.scope.names.lookup ("super" : Str)).isSome = false
theorem fn_sup {CX : CXT} {P : Program} {w : World} {K : PySem.W.Frag} {mg : Str → Option Value} {base : Heap} {k : Nat} {f cc D cda : Addr} {name qual : Str} {params : Arguments} {body rest : List Stmt} {scope : Scope} {dV kV doc pm ct oc : Value} {an od : Option Addr}
    {osl : Array (Option Value)} {N ps : List Str} {sp : Sp} {e : Expr} {p0 p1 p2 p3 p4 : Pos} {pl : Sem Bool} {ar : Arg} {vsc : Array Value} {file : Str} {tf : Tok} {ccl : Value} {cdd : Option Addr} {ccs : Array (Option Value)} {cl : Value} {cld : Option Addr} {csl : Array (Option Value)}
    (lk : K.lookup f = some ⟨oc, od, .func (PySem.W.ksFn name qual params body scope dV kV doc pm an (.ref cda) ct cc), osl⟩) (hcd : PySem.W.codeIn K (.ref cda) qual = true) (S : SupScope N ps scope)
    (hb : body = .Expr (.Call (.Attribute (.Call (.Name "super" p0) [] [] p1) "__init__" p2) [e] [] p3) p4 :: rest)
    (hp : (params.posonlyargs ++ params.args).head? = some ar) (hps : ps[0]? = some ar.arg)
    (hcode : K.lookup cda = some ⟨ccl, cdd, .fields vsc, ccs⟩) (hvs : vsc[2]? = some (.str file tf)) (hfile : ((P.main.file : Str) == file) = true)
    (hcell : K.lookup cc = some ⟨cl, cld, .cell (some (.ref D)), csl⟩) (T : SupC P K mg D)
    (len : ∀ vs H Q E, sp vs H Q E → vs.length = ps.length)
    (he : ∀ L : Addr, starEach [e] (PySem.W.ksEnv qual scope L f (.ref cda) cc) = [(false, eval e (PySem.W.ksEnv qual scope L f (.ref cda) cc))])
    (hsw : ∀ L : Addr, swapsWith (.Call (.Attribute (.Call (.Name "super" p0) [] [] p1) "__init__" p2) [e] [] p3) none p4.line (PySem.W.ksEnv qual scope L f (.ref cda) cc) = pure false)
    (hev : ∀ L : Addr, eval (.Call (.Attribute (.Call (.Name "super" p0) [] [] p1) "__init__" p2) [e] [] p3) (PySem.W.ksEnv qual scope L f (.ref cda) cc) = (do
      let ov ← attributeBase (.Call (.Name "super" p0) [] [] p1) "__init__" (PySem.W.ksEnv qual scope L f (.ref cda) cc) (eval (.Call (.Name "super" p0) [] [] p1) (PySem.W.ksEnv qual scope L f (.ref cda) cc))
      standAt p2.atName
      let (fn, first) ← holding [ov] (getMethod ov "__init__" pl)
      callWith p3 fn first (backTo p3 (starEach [e] (PySem.W.ksEnv qual scope L f (.ref cda) cc))) []))
    (hbody : ∀ (A : Around) (outer : List Env) (s : Shared) (H : Hp) (vs : List V) (Q : VK) (E : XK), Room k (A.deeper (PySem.W.ksEnv qual scope s.heap.objs.size f (.ref cda) cc)) → sp vs H Q E →
      ∃ (a : Addr) (ta : TA) (t : TS), vs[0]? = some (.ref a) ∧ H a = some (exo a D none) ∧ PA (cxSup CX P w K mg base N qual scope f (.ref cda) cc A outer s H E) [e] ta ∧ PSs (cxSup CX P w K mg base N qual scope f (.ref cda) cc A outer s H E) rest t ∧
        ta (start N vs) H fun ws H1 => ws.length ≤ 1000 ∧ H1 a = some (exo a D none) ∧ t { nx := fun _ H' => Q .non H', rt := Q } (start N vs) H1) :
    FnOk P w K mg base CX (k + 1) f (PySem.W.ksFn name qual params body scope dV kV doc pm an (.ref cda) ct cc) ps sp := by
  refine ⟨len, fun A outer s H args us vs Q E hr e0 hbd r hsp => ?_⟩
  have hl := len _ _ _ _ hsp
  have KX : K.In s.heap := e0.mod.kin.keeps fun b o e => (e0.bs b o e).1
  have lim : s.heap.NoLimit := e0.mod.nolimit.keeps fun b o e => (e0.bs b o e).1
  obtain ⟨a, ta, t, hv0, ha, hpa, hpss, hq⟩ := hbody A outer s H vs Q E (hr.deeper _) hsp
  subst hb
  refine ks_codeAny_call_defAt (fd := PySem.W.ksFn name qual params _ scope dV kV doc pm an (.ref cda) ct cc) (binds := ps.zip us) hr.depth (KX _ _ lk) rfl lim (PySem.W.codeRec_of KX hcd) rfl hbd S.nocell (fun y hy => S.par _ (List.of_mem_zip hy).1) (fun h₀ hns kp => ?_) S.co S.gen S.kind
  have I := inv_startS (CX := CX) (E := E) (qual := qual) (f := f) (cd := .ref cda) (tk := s.toks + (ps.zip us).length) S hr.hd e0 hl r hcell rfl hns kp
  obtain ⟨u0, hu0, ru0⟩ := r.get hv0
  obtain rfl : u0 = Value.ref a := ru0
  have ndP : ps.Nodup := by rw [← S.pre]; exact S.nd.sublist (List.take_sublist _ _)
  have hself := zip_rev_lookup ndP hps hu0
  have KX0 : K.In h₀ := KX.keeps kp
  obtain ⟨nm, q, N', bs, bm, sn, sub, ab, col, dd, k0, k1, k2, k3, k5, hC, hbm⟩ := T.oex.cls
  have hcl : PySem.W.clsIn K D = some { name := nm, bases := bs, mro := .ref D :: bm, ns := N', qualname := q, hasDict := true, slotNames := sn, subclasses := sub, abstract := ab, collection := col, hasDel := false } := by unfold PySem.W.clsIn; rw [hC] <;> rfl
  obtain ⟨t1, ho⟩ := exo_at I.hok ha
  obtain ⟨mb, hmb, hbl⟩ := e0.mod.blt
  have bk : ∀ b o, base.get? b = some o → h₀.get? b = some o := fun b o e => kp b o (e0.bs b o e).1
  refine ks_wpAt_execs_cons (ks_wpAt_Expr_any (ks_wpAt_MethodCall (env := PySem.W.ksEnv qual scope s.heap.objs.size f (.ref cda) cc) ?_ (hev _)) I.quiet (hsw _))
  refine ks_wpAt_super_base (env := PySem.W.ksEnv qual scope s.heap.objs.size f (.ref cda) cc) S.hs S.hc (by decide) rfl (KX0 _ _ lk) rfl hp rfl (KX0 _ _ hcode) rfl hvs hfile T.top ?_
  refine PySem.W.ks_loadName_global S.kind S.hs (Calls.loadGlobal_builtin (e0.mod.glob.keeps bk) T.mgs (hmb.keeps bk) ((hbl _ (by decide)).trans (show bootBuiltins "super" = some (.type "super") by decide +kernel)) ⟨rfl, ?_⟩)
  refine wpAny_loadName_free S.kind S.hc rfl ⟨_, KX0 _ _ hcell, rfl⟩ ?_
  refine wpAny_loadName_local S.kind (S.par _ (List.mem_of_getElem? hps)) hns hself ?_
  refine ks_wpAny_isType_cls (KX0 _ _ hC) rfl ⟨rfl, ?_⟩
  obtain ⟨hs0, g, d, tk, os⟩ := s
  refine ks_wpAny_call_super (KX0 _ _ hC) rfl ho rfl (fun c z => by cases z) (PySem.W.looks_mroIn KX0 T.sub) (fun h1 e1 kp1 => ?_)
  have hsup := T.sup
  unfold PySem.W.ks_superIn at hsup
  rw [hcl] at hsup
  have KX1 : K.In h1 := KX0.keeps kp1
  have ho1 := kp1 _ _ ho
  have aD : a ≠ D := fun z => by
    rw [z] at ho1
    have := ho1.symm.trans (KX1 _ _ hC)
    cases this
  refine PySem.W.kxs_getMethod PySem.W.kxs_ValueError e1 (PySem.W.looks_opaque KX1 T.op) (fun A Q E s k q => wpAny_bind ((PySem.W.looks_clsIn KX1 hcl) A _ E s k (wpAny_pure q))) rfl KX1 hsup
    (PySem.W.InstAt.type (od := none) ⟨ho1, rfl, rfl, trivial⟩ |>.andThen (PySem.W.looks_subIn KX1 T.ve)) aD (by decide) ?_
  have kp2 : ∀ b o, h₀.get? b = some o → (h1.push (PySem.W.kxs_mw "ValueError.__init__" a)).get? b = some o := fun b o e => Heap.get?_push_of_some _ (kp1 b o e)
  have I2 := (I.kept (t' := tk + (ps.zip us).length + 1) kp2).pins_of (pins' := [(h1.objs.size, PySem.W.kxs_mw "ValueError.__init__" a)]) fun p hp => by
    have e : p = (h1.objs.size, PySem.W.kxs_mw "ValueError.__init__" a) := by simpa using hp
    subst e
    have big : h₀.objs.size ≤ h1.objs.size := by
      refine Nat.le_of_lt (Nat.lt_of_le_of_lt ?_ (Heap.lt_size e1))
      exact Nat.le_refl _
    refine ⟨Heap.get?_push_at rfl rfl, I.hok.fresh big, ?_, I.nofs big, fun v z => by cases z⟩
    exact Nat.ne_of_gt (Nat.lt_of_lt_of_le I.lt big)
  refine PySem.W.kxs_callWith (i := "ValueError.__init__") (x := a) (by rw [he _]; rfl) ?_
  rw [he _]
  refine Calls.evalArgs_plain ?_
  have hrun := hpa.run p3 _ _ (start N vs) H _ I2 hq
  have he' : starEach [e] (cxSup CX P w K mg base N qual scope f (.ref cda) cc A outer ⟨hs0, g, d, tk, os⟩ H E).env = _ := he _
  rw [he'] at hrun
  refine thn hrun fun ws s2 ⟨vs2, H1, I3, r3, hlen, ha1, ht⟩ => ?_
  obtain ⟨hu, _⟩ := I3.pin (h1.objs.size, PySem.W.kxs_mw "ValueError.__init__" a) (by simp)
  refine ⟨hu, ?_⟩
  obtain ⟨t2, ho2⟩ := exo_at I3.hok ha1
  obtain ⟨hp2, g2, d2, tk2, os2⟩ := s2
  refine call_mw (I3.kIn _ _ hC) ho2 hu (by rw [List.nil_append, ← Paired.length r3, sizeLine_eq]; omega) fun h' t3 k' hx => ?_
  have J0 := I3.write (t' := tk2) (x := a) (e := a) (o := exo a D none) (by rw [ha1]; exact True.intro) (.inl rfl) k' ⟨_, hx⟩ (exo_ok hx)
  have eu : upd H1 a (exo a D none) = H1 := by
    funext b
    by_cases hb : b = a
    · rw [hb, upd_same, ha1]
    · rw [upd_ne hb]
  rw [eu] at J0
  refine wpAt_of_wpAny (wpAny_mono (hpss.run _ _ (start N vs) H1 _ J0 ht) (fun fl s' hs => ?_) fun e s' hs => hs)
  have fin : ∀ {σ' : St} {H' : Hp} {v : V} {u : Value}, Inv (cxSup CX P w K mg base N qual scope f (.ref cda) cc A outer ⟨hs0, g, d, tk, os⟩ H E) [(h1.objs.size, PySem.W.kxs_mw "ValueError.__init__" a)] σ' H' s' → RelV v u → Q v H' → CE outer P w H ⟨hs0, g, d, tk, os⟩ Q u s' :=
    fun {σ' H' v u} J rv q => ⟨v, H', J.os, J.bare, J.base, J.hok, rv, q⟩
  match fl, hs with
  | .ret _, ⟨_, _, _, J, rv, q⟩ => exact fin J rv q
  | .next, ⟨_, _, J, q⟩ => exact fin (v := .non) J rfl q
  | .brk, ⟨_, _, _, q⟩ => exact q.elim
  | .cont, ⟨_, _, _, q⟩ => exact q.elim
end L2

namespace L2
open PySem PySem.Spec PyProof.Rows
/-! ### isinstance of a caught error, with or without a dict of its own -/
def rIsX (K : PySem.W.Frag) (a : Addr) (cls : Value) (d : Option Addr) : List V → Hp → VK → Prop := fun xs H Q => ∃ (c : V) (cv : Value) (b : Bool) (D : Addr), xs = [.ref a, c] ∧ (∀ u, RelV c u → u = cv) ∧ cls = .ref D ∧ ExcC K D ∧ PySem.W.kitOne K (.ref D) cv = some b ∧
  (d = none ∨ ∃ dd fs, d = some dd ∧ H dd = some (.xd fs)) ∧ Q (.bl b) H
theorem call_isX {X : Cx} {a : Addr} {oe : Obj} {cls : Value} {d : Option Addr} {pn : List (Addr × Obj)} (hz : Zc cls d oe) (hf : ∃ vs, oe.data = .fields vs) : CallR (X.suite a ((a, oe) :: pn)) (.builtin "isinstance") (rIsX X.K a cls d) := by
  intro pins s σ H xs us Q I r h
  obtain ⟨c, cv, b, D, rfl, hcv, rfl, C, e, hd, q⟩ := h
  cases r with
  | cons rx rr =>
    cases rr with
    | cons rt rr =>
      cases rr
      cases rx
      have ec := hcv _ rt
      subst ec
      obtain ⟨hget, _⟩ := I.pin (a, oe) (List.mem_append.mpr (.inl List.mem_cons_self))
      obtain ⟨vs, hv⟩ := hf
      have J : ∃ od, PySem.W.InstAt s.heap a oe D od := by
        rcases hd with hd | ⟨dd, fs, hd, hxd⟩
        · exact ⟨none, hget, hz.1, by unfold PySem.W.notCls; rw [hv] <;> rfl, by rw [hz.2, hd]; trivial⟩
        · obtain ⟨mA, hns, _⟩ := (show ObjOk X.prog X.w H s.heap dd (.xd fs) from I.hok dd _ hxd)
          obtain ⟨od, ho, _⟩ := lookIn_ns hns
          exact ⟨some od, hget, hz.1, by unfold PySem.W.notCls; rw [hv] <;> rfl, by rw [hz.2, hd]; exact ho⟩
      obtain ⟨od, J⟩ := J
      have hcl : (PySem.W.clsIn X.K D).isSome = true := by
        obtain ⟨cd, hc, _⟩ := PySem.W.any_some C.hd
        rw [hc]
        rfl
      exact PySem.W.kia_one (PySem.W.kitx_exc hcl C.hg C.hk C.hs C.ha C.hn C.ht C.hm) I.kIn J e (fun z => nomatch z) fun tk => ⟨.bl b, H, I.kept (t' := tk) fun _ _ z => z, rfl, q⟩
/-! ### xs.count(True), a list of True and False -/
def eqb (v : Value) : Bool := match v with
  | .bool b => b
  | _ => false
theorem eqb_all {A : Around} {s : Shared} : ∀ {us : List Value} {bs : List Bool}, Vals (bs.map V.bl) us → (∀ y ∈ us, SeqAt.EqAt A s y (.bool true) (eqb y)) ∧ us.countP eqb = bs.count true
  | _, [], h => by
    cases h
    refine ⟨fun y hy => ?_, rfl⟩; cases hy
  | _, b :: bs, h => by
    cases h with
    | @cons _ u _ us r t =>
      obtain ⟨h1, h2⟩ := eqb_all (A := A) (s := s) t
      obtain rfl : u = Value.bool b := r
      refine ⟨fun y hy => ?_, ?_⟩
      · rcases List.mem_cons.mp hy with e | e
        · rw [e]
          have z := eqAt_V (A := A) (s := s) (y := .bl b) (x := .bl true) (u := .bool b) (v := .bool true) rfl rfl rfl rfl
          have e2 : eqV (.bl b) (.bl true) = eqb (.bool b) := by cases b <;> decide
          rw [e2] at z
          exact z
        · exact h1 y e
      · rw [List.countP_cons, List.count_cons, h2]
        cases b <;> rfl
def rCntB (K : PySem.W.Frag) : V → List V → Hp → VK → Prop := fun x xs H Q => ∃ (p : Addr) (bs : List Bool), x = .ref p ∧ xs = [.bl true] ∧ SqL K H p (bs.map V.bl) ∧ Q (.int (bs.count true : Nat)) H
theorem mt_countB {X : Cx} : MtR X "list.count" (rCntB X.K) := by
  intro pins s σ H x xs v us Q I rx rxs h
  obtain ⟨p, bs, rfl, rfl, hS, q⟩ := h
  cases rx
  obtain ⟨u, rfl, ru⟩ := rxs.one
  obtain rfl : u = Value.bool true := ru
  obtain ⟨its, r, ⟨⟨cls, dd, data, sl⟩, n, ho, hc, hdn, hd⟩, z⟩ := I.list hS
  simp only at hc hd
  subst hc hd
  refine call_meets PySem.F.slot_list_count ⟨_, ho, rfl⟩ PySem.F.entry_list_count (PySem.F.args_list_count_2 _ _) (SeqAt.list_countAt p its.toArray n dd sl (.bool true) eqb) ⟨ho, fun y hy => (eqb_all r).1 y (by simpa using hy), ?_⟩
  have ec : its.toArray.toList.countP eqb = bs.count true := (eqb_all (A := X.A) (s := s) r).2
  refine ⟨.int (bs.count true : Nat), H, I.tok _, ⟨s.toks, congrArg (fun n : Nat => Value.int (n : Int) s.toks) ec⟩, q⟩
/-! ### == and != of two instances of a class with its own __eq__, whatever it answers -/
theorem ns_someX {K : PySem.W.Frag} {h : Heap} {N : Addr} {m : Str → Option Value} {n : Str} {v : Value} (X : K.In h) (G : h.Ns N m) (e : PySem.W.nsIn K N n = some (some v)) : m n = some v := by
  obtain ⟨o, es, ep, ho, hd, _, hf⟩ := G
  unfold PySem.W.nsIn at e; split at e
  · rename_i c d es' n' sl q
    have z := X _ _ q; rw [ho] at z; cases z; cases hd
    split at e
    · rename_i ent he
      rw [← hf]; unfold nsFind findBy; rw [← Array.find?_toList, he]
      simpa using e
    · split at e <;> cases e
  · cases e
structure OwnEqC (K : PySem.W.Frag) (C f : Addr) : Prop where
  cls : ∃ nm q N bs hd sn sub ab col dd k0 k1 k2 k3 k5 newId, K.lookup C = some (excClassObj nm q C N bs [.type "object"] hd sn sub ab col dd k0 k1 k2 k3 k5 newId) ∧ PySem.W.nsIn K N "__eq__" = some (some (.ref f)) ∧ PySem.W.nsIn K N "__ne__" = some none ∧ PySem.W.nsOkIn K N = true
  fi : PySem.W.findIn K (.ref C) "__eq__" = some (some (.ref f))
  fn : PySem.W.isFn K (.ref f) = true
def rEqO (C : Addr) (sp : Sp) (fl : Bool → Bool) : R2 := fun x y H Q => ∃ a b dx dy fs gs, x = .ref a ∧ y = .ref b ∧ H a = some (.ins C dx fs) ∧ H b = some (.ins C dy gs) ∧ sp [.ref a, .ref b] H (fun v H' => ∃ r, v = .bl r ∧ Q (.bl (fl r)) H') E0
section
variable {X : Cx} {C f : Addr} {fd : FuncData} {ps : List Str} {sp : Sp} {k : Nat}
theorem call_eqO (F : FnOk X.prog X.w X.K X.mg X.base CX0 k f fd ps sp) (hb : Binds X.K fd ps []) {A : Around} (hr : Room k A) (hA : A.frames = X.A.frames) {pins : List (Addr × Obj)} {s : Shared} {σ : St} {H : Hp} {a b : Addr} {Q : VK} {E : Value → Shared → Prop} (I : Inv X pins σ H s) (hsp : sp [.ref a, .ref b] H Q E0) :
    wpAny (model X.prog X.w) A (call (.ref f) [.ref a, .ref b]) (EP X pins σ Q) E s := by
  have e0 : Env0 X.prog X.w X.K X.mg X.base A X.stack s H := by
    have e := I.env0
    exact ⟨by rw [hA]; exact e.frames, e.mod, e.bs, e.bsz, e.funs, e.frf, e.hok, e.bare⟩
  have hl := F.len _ _ _ _ hsp
  have r2 : Vals [V.ref a, V.ref b] [Value.ref a, Value.ref b] := .cons rfl (.cons rfl .nil)
  have hbd := hb s [.ref a, .ref b] I.kIn (by simpa using hl)
  rw [List.append_nil] at hbd
  refine wpAny_call (codeAny_mono (F.run A X.stack s H ⟨[.ref a, .ref b], []⟩ [.ref a, .ref b] [.ref a, .ref b] _ E0 hr e0 hbd r2 hsp) fun r s' hq => ?_)
  cases r with
  | error e => exact (show False from hq).elim
  | ok fl =>
    cases fl with
    | ret w => exact I.after hq
    | next => exact False.elim hq
    | brk => exact False.elim hq
    | cont => exact False.elim hq
theorem op_eqO (F : FnOk X.prog X.w X.K X.mg X.base CX0 k f fd ps sp) (T : OwnEqC X.K C f) (hb : Binds X.K fd ps []) (hr : Room k X.A) : OpR X (compareOp .Eq) (rEqO C sp id) := by
  intro pins s σ H x y v u Q I rx ry hq
  obtain ⟨a, b, dx, dy, fs, gs, rfl, rfl, ha, hb', hsp⟩ := hq
  cases rx
  cases ry
  obtain ⟨mA, J, _⟩ := ins_get I.hok ha
  obtain ⟨mB, J', _⟩ := ins_get I.hok hb'
  obtain ⟨od, J, _⟩ := J.look
  obtain ⟨od', J', _⟩ := J'.look
  obtain ⟨m, hF⟩ := I.fr
  show wpAny (model X.prog X.w) X.A (richCompare .Eq (.ref a) (.ref b)) (EP X pins σ Q) X.xe s
  refine PySem.W.cmp_K (op := .Eq) (tb := .ref C) hr.units0 hF I.ok.mod.kin J J'.type (by simp [PySem.W.notFirst]) T.fi T.fn ?_
  refine thn (call_eqO F hb hr rfl I hsp) fun w s' hw => ?_
  obtain ⟨z, H', I', rz, r, rfl, q⟩ := hw
  obtain rfl : w = Value.bool r := rz
  exact ⟨.bl r, H', I', rfl, q⟩
theorem op_neO (F : FnOk X.prog X.w X.K X.mg X.base CX0 k f fd ps sp) (T : OwnEqC X.K C f) (hb : Binds X.K fd ps []) (hr : Room (k + 1) X.A) : OpR X (compareOp .NotEq) (rEqO C sp not) := by
  intro pins s σ H x y v u Q I rx ry hq
  obtain ⟨a, b, dx, dy, fs, gs, rfl, rfl, ha, hb', hsp⟩ := hq
  cases rx
  cases ry
  obtain ⟨mA, J, _⟩ := ins_get I.hok ha
  obtain ⟨mB, J', _⟩ := ins_get I.hok hb'
  obtain ⟨od, J, _⟩ := J.look
  obtain ⟨od', J', _⟩ := J'.look
  obtain ⟨nm, q, N, bs, hd, sn, sub, ab, col, dd, k0, k1, k2, k3, k5, newId, hC, he, hn, hok⟩ := T.cls
  have KX := I.kIn
  obtain ⟨of, hof, hofc⟩ : ∃ of, s.heap.get? f = some of ∧ of.cls = .type "function" := by
    have z := T.fn
    unfold PySem.W.isFn at z
    cases e : X.K.lookup f with
    | none => simp [PySem.W.typeIn, e] at z
    | some of => exact ⟨of, KX _ _ e, by simpa [PySem.W.typeIn, e] using z⟩
  have hN := Heap.Ns.of_isNs (PySem.W.isNs_of_in KX hok)
  have h1 := ns_someX KX hN he
  have h2 := PySem.W.ns_none_of KX hN hn
  obtain ⟨hp, g, d, t, os⟩ := s
  refine compareOp_ne_ownEq (C := C) (f := f) PySem.F.cmp_object ⟨_, of, nm, q, N, bs, hd, sn, sub, ab, col, dd, k0, k1, k2, k3, k5, newId, _, _, J.at_, J.cls, KX _ _ hC, hN, h1, hof, hofc, PySem.F.mro_object, PySem.F.cmp_object.eq.lookup, h2⟩ J'.at_ J'.cls (hu_of hr) ?_
  refine thn (call_eqO F hb hr.in1 rfl I hsp) fun w s' hw => ?_
  obtain ⟨z, H', I', rz, r, rfl, q⟩ := hw
  obtain rfl : w = Value.bool r := rz
  exact ⟨r, rfl, .bl (!r), H', I', rfl, q⟩
end
end L2

namespace Half
open PySem PySem.Spec PyProof.Rows L2
def top (i : Nat) : Stmt := PySem.Challenge.pw_halfsetup_k34_diversions_by_places.main.body.getD i (.Pass ⟨0, 0, 0, 0⟩)
abbrev sTaken : Stmt := top 55
/-- the row of draws: the script, how many of its cells were read, the seed, what is left of a great cell -/
def Row (K : PySem.W.Frag) (H : Hp) (r a : Addr) : Prop := ∃ (ns : List Int) (i g l : Int), H r = some (.lst [.ref a, .int i, .int g, .int l]) ∧ SqL K H a (ns.map V.int) ∧ ns.length ≤ 63 ∧ 0 ≤ i
/-- a draw: some number below the bound; the row alone is changed -/
def spTaken (K : PySem.W.Frag) : Sp := fun vs H Q _ => ∃ (r : Addr) (m : Int) (a : Addr), vs = [.ref r, .int m] ∧ Row K H r a ∧ 0 < m ∧ m < 1073741824 ∧
  ∀ (v : Int) (o : HO), 0 ≤ v → v < m → Row K (upd H r o) r a → Q (.int v) (upd H r o)
theorem seqNe {K : PySem.W.Frag} {H : Hp} {r a : Addr} {o : HO} {xs : List V} (h : SqL K H a xs) (n : r ≠ a) : SqL K (upd H r o) a xs := by
  rcases h with (h | ⟨q, h⟩) | h
  · exact .inl (.inl (by rw [upd_ne (Ne.symm n)]; exact h))
  · exact .inl (.inr ⟨q, by rw [upd_ne (Ne.symm n)]; exact h⟩)
  · exact .inr h
theorem Row.seq {K : PySem.W.Frag} {H : Hp} {r a b : Addr} {o : HO} {ns : List Int} {l : List V} (hr : H r = some (.lst (.ref b :: l))) (h : SqL K H a (ns.map V.int)) : SqL K (upd H r o) a (ns.map V.int) := by
  have z : HO.lst (ns.map V.int) ≠ HO.lst (.ref b :: l) := fun z => by
    have z' : ns.map V.int = .ref b :: l := by injection z
    cases ns with
    | nil => cases z'
    | cons n ns => cases z'
  rcases h with (h | ⟨q, h⟩) | h
  · exact .inl (.inl (by rw [upd_ne (ne_of h hr z)]; exact h))
  · exact .inl (.inr ⟨q, by rw [upd_ne (ne_of h hr (fun w => by cases w))]; exact h⟩)
  · exact .inr h
structure TxtD (mg : Str → Option Value) : Prop where
  int : mg "int" = none
  len : mg "len" = none
section
variable {P : Program} {w : World} {K : PySem.W.Frag} {mg : Str → Option Value} {base : Heap}
theorem scTaken : FnScope ["_law_row", "_law_many", "_law_found", "_law_cell"] ["_law_row", "_law_many"] (defScope sTaken) := ⟨rfl, rfl, rfl, by decide +kernel, rfl, by decide +kernel, by decide +kernel⟩
theorem ok_taken {f : Addr} {fd : FuncData} (F : Fun K "_law_taken" "_law_taken" sTaken f fd) (T : TxtD mg) : FnOk P w K mg base CX0 1 f fd ["_law_row", "_law_many"] (spTaken K) := by
  refine F.ok scTaken (fun vs H Q E h => ?_) (fun cdv A outer s H vs Q E hr h => ?_)
  · obtain ⟨r, m, a, rfl, _⟩ := h
    rfl
  · obtain ⟨r, m, a, rfl, ⟨ns, i, g, l, hR, hS, hlen, hi⟩, hm0, hm1, k⟩ := h
    have nd := scTaken.nd
    refine ⟨_, pss_cons (ps_if (pt_cmpR op_gt (pe_ix ix_list (pv 0) pe_int (fun _ _ => rfl)) pe_int (nomark _))
        (pss_cons (ps_set (i := 2) nd rfl (Or.inl rfl) (pe_op op_mod (pe_callTy call_int1 (by rfl) T.int (by decide +kernel) (pa_cons (pe_ix ix_list (pv 0) pe_int (fun _ _ => rfl)) pa_nil)) (pv 1)))
        (pss_cons (ps_asg (pe_op op_fdiv (pe_ix ix_list (pv 0) pe_int (fun _ _ => rfl)) (pv 1)) (pg_sub (pv 0) pe_int set_list))
        (pss_one (ps_ret (pv 2))))) pss_nil)
      (pss_cons (ps_asg (pe_op op_add (pe_ix ix_list (pv 0) pe_int (fun _ _ => rfl)) pe_int) (pg_sub (pv 0) pe_int set_list))
      (pss_cons (ps_if (pt_cmpR op_gt (pe_ix ix_list (pv 0) pe_int (fun _ _ => rfl)) (pe_callB call_len_seq (by rfl) T.len PySem.boot_len (pa_cons (pe_ix ix_list (pv 0) pe_int (fun _ _ => rfl)) pa_nil)) (nomark _))
        (pss_cons (ps_asg (pe_op op_mod (pe_callTy call_int1 (by rfl) T.int (by decide +kernel) (pa_cons (pe_op op_add (pe_op op_mul (pe_ix ix_list (pv 0) pe_int (fun _ _ => rfl)) pe_int) pe_int) pa_nil)) pe_int) (pg_sub (pv 0) pe_int set_list))
        (pss_one (ps_ret (pe_op op_mod (pe_callTy call_int1 (by rfl) T.int (by decide +kernel) (pa_cons (pe_op op_fdiv (pe_ix ix_list (pv 0) pe_int (fun _ _ => rfl)) pe_int) pa_nil)) (pv 1))))) pss_nil)
      (pss_cons (ps_set (i := 3) nd rfl (Or.inl rfl) (pe_ix ix_list (pe_ix ix_list (pv 0) pe_int (fun _ _ => rfl)) (pe_op op_sub (pe_ix ix_list (pv 0) pe_int (fun _ _ => rfl)) pe_int) (fun _ _ => rfl)))
      (pss_cons (ps_asg (pe_op op_mod (pe_callTy call_int1 (by rfl) T.int (by decide +kernel) (pa_cons (pe_op op_add (pe_op op_add (pe_op op_mul (pe_ix ix_list (pv 0) pe_int (fun _ _ => rfl)) pe_int) (pv 3)) pe_int) pa_nil)) pe_int) (pg_sub (pv 0) pe_int set_list))
      (pss_cons (ps_if (pt_cmpR op_ge (pv 3) (pe_op op_pow pe_int pe_int) (nomark _)) (pss_one (ps_asg (pe_op op_fdiv (pv 3) (pv 1)) (pg_sub (pv 0) pe_int set_list))) pss_nil)
      (pss_one (ps_ret (pe_op op_mod (pe_callTy call_int1 (by rfl) T.int (by decide +kernel) (pa_cons (pv 3) pa_nil)) (pv 1))))))))), ?_⟩
    have mk : ∀ (i' g' l' : Int), 0 ≤ i' → ∀ o, o = HO.lst [.ref a, .int i', .int g', .int l'] → Row K (upd H r o) r a := fun i' g' l' h o e => ⟨ns, i', g', l', by rw [upd_same, e], Row.seq hR hS, hlen, h⟩
    refine ⟨_, rfl, r, _, _, _, rfl, rfl, SqL.of hR, rfl, _, _, rfl, rfl, _, rfl, ?_⟩
    refine ite2 (fun c => ?_) (fun c => ?_)
    · refine ⟨_, rfl, r, _, _, _, rfl, rfl, SqL.of hR, rfl, .inl ⟨_, rfl, _, rfl, _, _, rfl, rfl, hm0, ?_⟩⟩
      refine ⟨_, rfl, r, _, _, _, rfl, rfl, SqL.of hR, rfl, _, rfl, _, _, rfl, rfl, ⟨hm0, hm1⟩, _, rfl, r, _, _, _, rfl, rfl, hR, rfl, ?_⟩
      refine ⟨_, rfl, ?_⟩
      exact k _ _ (Int.emod_nonneg _ (by omega)) (Int.emod_lt_of_pos _ hm0) (mk i g (l / m) hi _ rfl)
    · refine ⟨_, rfl, r, _, _, _, rfl, rfl, SqL.of hR, rfl, _, _, rfl, rfl, _, rfl, r, _, _, _, rfl, rfl, hR, rfl, ?_⟩
      have hR1 : ∀ o : HO, (upd H r o) r = some o := fun o => upd_same
      refine ⟨_, rfl, r, _, _, _, rfl, rfl, SqL.of (hR1 _), rfl, _, rfl, r, _, _, _, rfl, rfl, SqL.of (hR1 _), rfl, a, _, rfl, .inl (Row.seq hR hS), _, _, rfl, rfl, _, rfl, ?_⟩
      refine ite2 (fun c2 => ?_) (fun c2 => ?_)
      · refine ⟨_, rfl, r, _, _, _, rfl, rfl, SqL.of (hR1 _), rfl, _, _, rfl, rfl, .inr ⟨by decide, by decide⟩, _, _, rfl, rfl, .inl ⟨_, rfl, _, _, rfl, rfl, (by show (0 : Int) < 2147483647; decide), _, rfl, r, _, _, _, rfl, rfl, hR1 _, rfl, ?_⟩⟩
        rw [upd_upd]
        refine ⟨_, rfl, r, _, _, _, rfl, rfl, SqL.of (hR1 _), rfl, _, _, rfl, rfl, ⟨by decide, by decide⟩, .inl ⟨_, rfl, _, rfl, _, _, rfl, rfl, hm0, ?_⟩⟩
        exact k _ _ (Int.emod_nonneg _ (by omega)) (Int.emod_lt_of_pos _ hm0) (mk (i + 1) _ l (by omega) _ rfl)
      · have c3 : ¬ ((ns.map V.int).length : Int) < i + 1 := fun z => c2 (decide_eq_true z)
        rw [List.length_map] at c3
        have hin : i.toNat < ns.length := by omega
        have hat : atI (ns.map V.int) ((i + 1) - 1) = some (V.int ns[i.toNat]) := by
          have e : (i + 1) - 1 = ((i.toNat : Nat) : Int) := by omega
          rw [e]
          refine atI_nat ?_
          rw [List.getElem?_map, List.getElem?_eq_getElem hin]
          rfl
        refine ⟨_, rfl, r, _, _, _, rfl, rfl, SqL.of (hR1 _), rfl, _, rfl, r, _, _, _, rfl, rfl, SqL.of (hR1 _), rfl, _, _, rfl, rfl, a, _, _, _, rfl, rfl, Row.seq hR hS, hat, ?_⟩
        refine ⟨_, rfl, r, _, _, _, rfl, rfl, SqL.of (hR1 _), rfl, _, _, rfl, rfl, .inr ⟨by decide, by decide⟩, _, rfl, _, _, rfl, rfl, _, _, rfl, rfl, .inl ⟨_, rfl, _, _, rfl, rfl, (by show (0 : Int) < 2147483647; decide), _, rfl, r, _, _, _, rfl, rfl, hR1 _, rfl, ?_⟩⟩
        rw [upd_upd]
        refine ⟨_, rfl, _, _, rfl, rfl, ⟨by decide, by decide, by decide⟩, _, _, rfl, rfl, _, rfl, ?_⟩
        refine ite2 (fun c4 => ?_) (fun c4 => ?_)
        · refine ⟨_, rfl, _, rfl, _, _, rfl, rfl, ⟨hm0, hm1⟩, _, rfl, r, _, _, _, rfl, rfl, hR1 _, rfl, ?_⟩
          rw [upd_upd]
          refine ⟨_, rfl, .inl ⟨_, rfl, _, rfl, _, _, rfl, rfl, hm0, ?_⟩⟩
          exact k _ _ (Int.emod_nonneg _ (by omega)) (Int.emod_lt_of_pos _ hm0) (mk (i + 1) _ _ (by omega) _ rfl)
        · refine ⟨_, rfl, .inl ⟨_, rfl, _, rfl, _, _, rfl, rfl, hm0, ?_⟩⟩
          exact k _ _ (Int.emod_nonneg _ (by omega)) (Int.emod_lt_of_pos _ hm0) (mk (i + 1) _ _ (by omega) _ rfl)
end
end Half

namespace Half
open PySem PySem.Spec PyProof.Rows L2
abbrev sWord : Stmt := top 11
abbrev sNumber : Stmt := top 12
abbrev sAscends : Stmt := top 13
abbrev sVersion : Stmt := top 18
abbrev sScripts : Stmt := top 19
abbrev sOthers : Stmt := top 20
abbrev sPair : Stmt := top 21
abbrev sNeeds : Stmt := top 22
/-! comprehensions that make one item of each -/
def MapP (H1 : Hp) (D : Addr) (ys : List V) : Nat → Hp → Prop := fun i H => Same H1 H ∧ H D = some (.lst (ys.take i))
theorem MapP.zero {H1 : Hp} {D : Addr} {ys : List V} (hD : H1 D = none) : MapP H1 D ys 0 (upd H1 D (.lst [])) :=
  ⟨fun b o e => by rw [upd_ne (ne_of_none e hD)]; exact e, upd_same⟩
theorem MapP.step {H1 H H4 : Hp} {D : Addr} {ys : List V} {i : Nat} {y : V} (p : MapP H1 D ys i H) (hD : H1 D = none) (hy : ys[i]? = some y) (hl : ys.length ≤ 1000) (e : Same H H4) :
    ∃ acc, H4 D = some (.lst acc) ∧ acc.length < sizeLine ∧ MapP H1 D ys (i + 1) (upd H4 D (.lst (acc ++ [y]))) := by
  refine ⟨_, e _ _ p.2, small1000 (by rw [List.length_take]; omega), fun b o q => ?_, ?_⟩
  · rw [upd_ne (ne_of_none q hD)]
    exact e _ _ (p.1 b o q)
  · rw [upd_same, List.take_add_one, hy]
    rfl
theorem MapP.done {H1 H : Hp} {D : Addr} {ys : List V} {n : Nat} (p : MapP H1 D ys n H) (hn : n = ys.length) : Same H1 H ∧ H D = some (.lst ys) := by
  refine ⟨p.1, ?_⟩
  rw [p.2, hn, List.take_length]
theorem iteNT {c A B : Prop} [Decidable c] (hc : ¬ c) (h : A) : if (!decide c) = true then A else B := by
  rw [decide_eq_false hc]
  exact iteT h
/-! the mirror -/
def LET : Str := "abcdefghijklmnopqrstuvwxyz"
def isWord (z : Str) : Bool := decide (1 ≤ (z.length : Int)) && decide ((z.length : Int) ≤ 8) && z.cps.toList.all fun c => decide (c ∈ LET.cps.toList)
/-- what the top says -/
structure TxtC (K : PySem.W.Frag) (mg : Str → Option Value) (fW fN fA fV fO fP : Addr) (tS : Addr) : Prop where
  d : TxtD mg
  isi : mg "isinstance" = none
  str : mg "str" = none
  boo : mg "bool" = none
  tup : mg "tuple" = none
  all : mg "all" = none
  ran : mg "range" = none
  lets : ∃ t, mg "LETTERS" = some (.str LET t)
  lon : ∃ t, mg "LONGEST_WORD" = some (.int 8 t)
section
variable {P : Program} {w : World} {K : PySem.W.Frag} {mg : Str → Option Value} {base : Heap} {fW fN fA fV fO fP tS : Addr}
def spWord : Sp := fun vs H Q _ => ∃ z : Str, vs = [.str z] ∧ z.length ≤ 1000 ∧ ∀ H', Same H H' → Q (.bl (isWord z)) H'
theorem scWord : FnScope ["text", "letter"] ["text"] (defScope sWord) := ⟨rfl, rfl, rfl, by decide +kernel, rfl, by decide +kernel, by decide +kernel⟩
theorem ok_word {f : Addr} {fd : FuncData} (F : Fun K "is_word" "is_word" sWord f fd) (T : TxtC K mg fW fN fA fV fO fP tS) : FnOk P w K mg base CX0 1 f fd ["text"] spWord := by
  refine F.ok scWord (fun vs H Q E h => ?_) (fun cdv A outer s H vs Q E hr h => ?_)
  · obtain ⟨z, rfl, _⟩ := h
    rfl
  · obtain ⟨z, rfl, hz, k⟩ := h
    obtain ⟨tl, gl⟩ := T.lets
    obtain ⟨t8, g8⟩ := T.lon
    have nd := scWord.nd
    refine ⟨_, pss_cons (ps_if (PW.pt (pw_or (pt_not (pt_val (pe_callB call_isi (by rfl) T.isi (by decide +kernel) (pa_cons (pv 0) (pa_cons (pe_bltn (v := .ty "str") (by rfl) T.str (by decide +kernel) rfl) pa_nil)))))
        (pw_or1 (pt_not (pt_chain op_le op_le pe_int (pe_callB call_len_str (by rfl) T.d.len PySem.boot_len (pa_cons (pv 0) pa_nil)) (pe_glob (v := .int 8) rfl g8 ⟨_, rfl⟩))))))
        (pss_one (ps_ret pe_bl)) pss_nil)
      (pss_one (ps_ret (pe_callB (cr_all rfl) (by rfl) T.all (by decide +kernel) (pa_cons
        (pe_lc (own := [("letter", 1)]) (g := gName 1) (tt := tYes) rfl nd (pi_str (pv 0)) (blkOk_by (N := ["text", "letter"]) (sc := defScope sWord) (by decide +kernel))
          (fun _ _ _ _ _ => pg_name (i := 1) nd rfl (Or.inl rfl)) (fun _ _ _ _ _ => pts_nil)
          (fun _ _ _ _ _ => pe_cmpR op_in_sign (pv 1) (pe_glob (v := .str LET) rfl gl ⟨_, rfl⟩) rfl)) pa_nil)))), ?_⟩
    refine ⟨_, rfl, _, _, _, _, _, rfl, .ty _, .base (.str _), kit_ty (r := true) (by decide +kernel), _, rfl, iteF ?_⟩
    refine ⟨_, rfl, _, rfl, Nat.le_trans hz (by decide), _, _, rfl, rfl, _, rfl, ?_⟩
    have bad : isWord z = false → Q (.bl false) H := fun e => by
      have q := k H (Same.refl H)
      rw [e] at q
      exact q
    refine ite2 (fun c1 => ?_) (fun c1 => ?_)
    · refine ⟨_, _, rfl, rfl, _, rfl, ?_⟩
      by_cases c2 : (z.length : Int) ≤ 8
      · refine iteNS c2 ?_
        refine ⟨_, rfl, z, rfl, fun D hD => lc_it walk_str (MapP H D (z.cps.toList.map fun c => V.bl (decide (c ∈ LET.cps.toList)))) (MapP.zero hD) (fun _ _ _ _ => trivial) ?_ ?_⟩
        · rintro i x H1 H2 hi p ⟨rfl, c, hc, rfl⟩
          refine ⟨rfl, _, rfl, c, _, rfl, rfl, ?_⟩
          refine p.step hD ?_ (by rw [List.length_map, Array.length_toList]; exact hz) (Same.refl _)
          rw [List.getElem?_map, Array.getElem?_toList, hc]
          rfl
        · intro H2 p
          obtain ⟨s2, hl⟩ := p.done (by rw [List.length_map, Array.length_toList])
          refine ⟨D, z.cps.toList.map fun c => decide (c ∈ LET.cps.toList), rfl, SqL.of (by rw [hl, List.map_map]; rfl), ?_⟩
          have e : isWord z = (z.cps.toList.map fun c => decide (c ∈ LET.cps.toList)).all id := by
            unfold isWord
            rw [c1, decide_eq_true c2, List.all_map]
            rfl
          rw [← e]
          exact k H2 s2
      · refine iteNT c2 ?_
        exact bad (by unfold isWord; rw [decide_eq_false c2, Bool.and_false, Bool.false_and])
    · have c1' : decide (1 ≤ (z.length : Int)) = false := by simpa using c1
      refine ⟨_, rfl, iteT ?_⟩
      exact bad (by unfold isWord; rw [c1', Bool.false_and, Bool.false_and])
end
end Half

namespace Half
open PySem PySem.Spec PyProof.Rows L2
/-! ### a def that is known by its promise -/
structure Def (P : Program) (w : World) (K : PySem.W.Frag) (mg : Str → Option Value) (base : Heap) (k : Nat) (x : Str) (ps : List Str) (sp : Sp) : Prop where
  ex : ∃ f fd, FnOk P w K mg base CX0 k f fd ps sp ∧ mg x = some (.ref f) ∧ PySem.W.keepIn K (.ref f) = true ∧ Binds K fd ps []
theorem pe_def {X : Cx} {k : Nat} {x : Str} {ps : List Str} {sp : Sp} {e : Expr} {es : List Expr} {t : TA} {p pos : Pos} (D : Def X.prog X.w X.K X.mg X.base k x ps sp) (hr : Room k X.A) (hg : Gl X x) (ha : PA X (e :: es) t)
    (hdb : (x == ("__debug__" : Str)) = false := by decide) (he : starEach (e :: es) X.env = (false, eval e X.env) :: starEach es X.env := by rfl) (hpl : (backTo pos (starEach es X.env)).any (·.1) = false := by rfl) :
    PE X (.Call (.Name x p) (e :: es) [] pos) (tCall sp [] E0 t) := by
  obtain ⟨f, fd, F, hm, hk, hb⟩ := D.ex
  exact pe_call F hr hg hm hk hb .nil pass0 ha hdb he hpl
theorem _root_.L2.Same.sqT {K : PySem.W.Frag} {H H' : Hp} {a : Addr} {xs : List V} (e : Same H H') (h : SqT K H a xs) : SqT K H' a xs := by
  rcases h with (h | ⟨o, h⟩) | h
  · exact .inl (.inl (e _ _ h))
  · exact .inl (.inr ⟨o, e _ _ h⟩)
  · exact .inr h
theorem tyT {K : PySem.W.Frag} {H : Hp} {a : Addr} {xs : List V} (h : SqT K H a xs) : TyX K H (.ref a) (.type "tuple") := by
  rcases h with (h | ⟨o, h⟩) | ⟨o, its, n, h1, h2, _⟩
  · exact .base (.tup h)
  · exact .fTuple h
  · exact .kTuple h1 h2
theorem _root_.L2.Same.upd_new {H : Hp} {p : Addr} {o : HO} (h : H p = none) : Same H (upd H p o) := fun b u e => by rw [upd_ne (ne_of_none e h)]; exact e
/-! ### the mirror -/
def inR (v : V) (lo hi : Int) : Bool := match v with
  | .int n => decide (lo ≤ n) && decide (n ≤ hi)
  | _ => false
def strLt (a b : Str) : Bool := decide (a.cps.toList < b.cps.toList)
def ascS (ss : List Str) : Bool := (List.range (ss.length - 1)).all fun i => strLt (ss.getD i "") (ss.getD (i + 1) "")
def SCR : List Str := ["clean", "enter", "leave", "setup"]
def areScripts (ss : List Str) : Bool := (ss.all fun z => inV (.str z) (SCR.map V.str)) && ascS ss
def areOthers (ss : List Str) (nm : Str) : Bool := (ss.all fun z => isWord z && !decide (V.str z = V.str nm)) && ascS ss
def areNeeds (ps : List (Str × Int)) (nm : Str) : Bool := (ps.all fun p => inR (.int p.2) 1 99) && areOthers (ps.map (·.1)) nm
/-- needs: a tuple of pairs -/
def NeedsAt (K : PySem.W.Frag) (H : Hp) (a : Addr) (ps : List (Str × Int)) : Prop := ∃ ts : List Addr, SqT K H a (ts.map V.ref) ∧ ts.length = ps.length ∧ ∀ (i : Nat) t p, ts[i]? = some t → ps[i]? = some p → SqT K H t [.str p.1, .int p.2]
theorem NeedsAt.same {K : PySem.W.Frag} {H H' : Hp} {a : Addr} {ps : List (Str × Int)} (e : Same H H') (h : NeedsAt K H a ps) : NeedsAt K H' a ps := by
  obtain ⟨ts, h1, h2, h3⟩ := h
  exact ⟨ts, e.sqT h1, h2, fun i t p q r => e.sqT (h3 i t p q r)⟩
/-! ### promises -/
def spNumber : Sp := fun vs H Q _ => ∃ (v : V) (lo hi : Int), vs = [v, .int lo, .int hi] ∧ ((∃ n, v = .int n) ∨ ∃ b, v = .bl b) ∧ Q (.bl (inR v lo hi)) H
def spVersion : Sp := fun vs H Q _ => ∃ v : V, vs = [v] ∧ ((∃ n, v = .int n) ∨ ∃ b, v = .bl b) ∧ Q (.bl (inR v 1 99)) H
def spAsc (K : PySem.W.Frag) : Sp := fun vs H Q _ => ∃ (a : Addr) (ss : List Str), vs = [.ref a] ∧ SqT K H a (ss.map V.str) ∧ ss.length ≤ 100 ∧ ∀ H', Same H H' → Q (.bl (ascS ss)) H'
def spScripts (K : PySem.W.Frag) : Sp := fun vs H Q _ => ∃ (a : Addr) (ss : List Str), vs = [.ref a] ∧ SqT K H a (ss.map V.str) ∧ ss.length ≤ 100 ∧ ∀ H', Same H H' → Q (.bl (areScripts ss)) H'
def spOthers (K : PySem.W.Frag) : Sp := fun vs H Q _ => ∃ (a : Addr) (ss : List Str) (nm : Str), vs = [.ref a, .str nm] ∧ SqT K H a (ss.map V.str) ∧ ss.length ≤ 100 ∧ (∀ z ∈ ss, z.length ≤ 1000) ∧ ∀ H', Same H H' → Q (.bl (areOthers ss nm)) H'
def spPair (K : PySem.W.Frag) : Sp := fun vs H Q _ => ∃ (t : Addr) (n : Str) (v : Int), vs = [.ref t] ∧ SqT K H t [.str n, .int v] ∧ Q (.bl (inR (.int v) 1 99)) H
def spNeeds (K : PySem.W.Frag) : Sp := fun vs H Q _ => ∃ (a : Addr) (ps : List (Str × Int)) (nm : Str), vs = [.ref a, .str nm] ∧ NeedsAt K H a ps ∧ ps.length ≤ 100 ∧ (∀ p ∈ ps, p.1.length ≤ 1000) ∧ ∀ H', Same H H' → Q (.bl (areNeeds ps nm)) H'
structure TxtE (K : PySem.W.Frag) (mg : Str → Option Value) : Prop where
  d : TxtD mg
  isi : mg "isinstance" = none
  str : mg "str" = none
  boo : mg "bool" = none
  tup : mg "tuple" = none
  all : mg "all" = none
  ran : mg "range" = none
  lv : ∃ t, mg "LEAST_VERSION" = some (.int 1 t)
  mv : ∃ t, mg "MOST_VERSION" = some (.int 99 t)
  scr : ∃ a, mg "SCRIPTS" = some (.ref a) ∧ ∀ H, SqT K H a (SCR.map V.str)
section
variable {P : Program} {w : World} {K : PySem.W.Frag} {mg : Str → Option Value} {base : Heap}
theorem scNumber : FnScope ["value", "least", "most"] ["value", "least", "most"] (defScope sNumber) := ⟨rfl, rfl, rfl, by decide +kernel, rfl, by decide +kernel, by decide +kernel⟩
theorem ok_number {f : Addr} {fd : FuncData} (F : Fun K "is_number" "is_number" sNumber f fd) (T : TxtE K mg) : FnOk P w K mg base CX0 1 f fd ["value", "least", "most"] spNumber := by
  refine F.ok scNumber (fun vs H Q E h => ?_) (fun cdv A outer s H vs Q E hr h => ?_)
  · obtain ⟨v, lo, hi, rfl, _⟩ := h
    rfl
  · obtain ⟨v, lo, hi, rfl, hv, k⟩ := h
    refine ⟨_, pss_cons (ps_if (PW.pt (pw_or (pt_val (pe_callB call_isi (by rfl) T.isi (by decide +kernel) (pa_cons (pv 0) (pa_cons (pe_bltn (v := .ty "bool") (by rfl) T.boo (by decide +kernel) rfl) pa_nil))))
        (pw_or1 (pt_not (pt_val (pe_callB call_isi (by rfl) T.isi (by decide +kernel) (pa_cons (pv 0) (pa_cons (pe_bltn (v := .ty "int") (by rfl) T.d.int (by decide +kernel) rfl) pa_nil))))))))
        (pss_one (ps_ret pe_bl)) pss_nil)
      (pss_one (ps_ret (pe_chain op_le op_le (pv 1) (pv 0) (pv 2)))), ?_⟩
    rcases hv with ⟨n, rfl⟩ | ⟨b, rfl⟩
    · refine ⟨_, rfl, _, _, _, _, _, rfl, .ty _, .base (.int _), kit_ty (r := false) (by decide +kernel), _, rfl, ?_⟩
      refine iteF ?_
      refine ⟨_, rfl, _, _, _, _, _, rfl, .ty _, .base (.int _), kit_ty (r := true) (by decide +kernel), _, rfl, ?_⟩
      refine iteF ?_
      refine ⟨_, rfl, _, rfl, _, _, rfl, rfl, _, rfl, ?_⟩
      refine ite2 (fun c => ?_) (fun c => ?_)
      · refine ⟨_, rfl, _, _, rfl, rfl, ?_⟩
        have e : inR (.int n) lo hi = decide (n ≤ hi) := by show (decide (lo ≤ n) && decide (n ≤ hi)) = _; rw [c, Bool.true_and]
        rw [e] at k
        exact k
      · have c' : decide (lo ≤ n) = false := by simpa using c
        have e : inR (.int n) lo hi = false := by show (decide (lo ≤ n) && decide (n ≤ hi)) = _; rw [c', Bool.false_and]
        rw [e] at k
        exact k
    · refine ⟨_, rfl, _, _, _, _, _, rfl, .ty _, .base (.bl _), kit_ty (r := true) (by decide +kernel), _, rfl, ?_⟩
      exact k
theorem scVersion : FnScope ["value"] ["value"] (defScope sVersion) := ⟨rfl, rfl, rfl, by decide +kernel, rfl, by decide +kernel, by decide +kernel⟩
theorem ok_version {f : Addr} {fd : FuncData} (F : Fun K "is_version" "is_version" sVersion f fd) (T : TxtE K mg) (dN : Def P w K mg base 1 "is_number" ["value", "least", "most"] spNumber) : FnOk P w K mg base CX0 2 f fd ["value"] spVersion := by
  refine F.ok scVersion (fun vs H Q E h => ?_) (fun cdv A outer s H vs Q E hr h => ?_)
  · obtain ⟨v, rfl, _⟩ := h
    rfl
  · obtain ⟨v, rfl, hv, k⟩ := h
    obtain ⟨t1, g1⟩ := T.lv
    obtain ⟨t2, g2⟩ := T.mv
    refine ⟨_, pss_one (ps_ret (pe_def dN hr rfl (pa_cons (pv 0) (pa_cons (pe_glob (v := .int 1) rfl g1 ⟨_, rfl⟩) (pa_cons (pe_glob (v := .int 99) rfl g2 ⟨_, rfl⟩) pa_nil))))), ?_⟩
    exact ⟨_, rfl, v, 1, 99, rfl, hv, k⟩
theorem scAsc : FnScope ["values", "at"] ["values"] (defScope sAscends) := ⟨rfl, rfl, rfl, by decide +kernel, rfl, by decide +kernel, by decide +kernel⟩
theorem ok_asc {f : Addr} {fd : FuncData} (F : Fun K "ascends" "ascends" sAscends f fd) (T : TxtE K mg) : FnOk P w K mg base CX0 1 f fd ["values"] (spAsc K) := by
  refine F.ok scAsc (fun vs H Q E h => ?_) (fun cdv A outer s H vs Q E hr h => ?_)
  · obtain ⟨a, ss, rfl, _⟩ := h
    rfl
  · obtain ⟨a, ss, rfl, hS, hl, k⟩ := h
    have nd := scAsc.nd
    refine ⟨_, pss_one (ps_ret (pe_callB (cr_all rfl) (by rfl) T.all (by decide +kernel) (pa_cons
        (pe_lc (own := [("at", 1)]) (g := gName 1) (tt := tYes) rfl nd (pi_range2 (by rfl) T.ran (pa_cons pe_int (pa_cons (pe_callB call_len_seq (by rfl) T.d.len PySem.boot_len (pa_cons (pv 0) pa_nil)) pa_nil))) (blkOk_by (N := ["values", "at"]) (sc := defScope sAscends) (by decide +kernel))
          (fun _ _ _ _ _ => pg_name (i := 1) nd rfl (Or.inl rfl)) (fun _ _ _ _ _ => pts_nil)
          (fun _ _ _ _ _ => pe_cmpR op_lt_str (pe_ix (ix_tup : IxR _ (rIxT K)) (pv 0) (pe_op op_sub (pv 1) pe_int) (fun _ _ => rfl)) (pe_ix (ix_tup : IxR _ (rIxT K)) (pv 0) (pv 1) (fun _ _ => rfl)) (nomark _))) pa_nil))), ?_⟩
    have hlm : (ss.map V.str).length = ss.length := List.length_map ..
    have hn : (((ss.map V.str).length : Int) - 1).toNat = ss.length - 1 := by omega
    refine ⟨_, rfl, a, _, rfl, .inr hS, 1, _, rfl, ⟨by decide, by decide, by omega, by omega⟩, ?_⟩
    rw [hn]
    refine fun D hD => lc_it walk_range (MapP H D ((List.range (ss.length - 1)).map fun i => V.bl (strLt (ss.getD i "") (ss.getD (i + 1) "")))) (MapP.zero hD) (fun _ _ _ _ => trivial) ?_ ?_
    · rintro i x H1 H2 hi p ⟨rfl, rfl⟩
      have e1 : atI (ss.map V.str) ((1 + (i : Int)) - 1) = some (V.str (ss.getD i "")) := by
        have e : (1 + (i : Int)) - 1 = ((i : Nat) : Int) := by omega
        rw [e]
        refine atI_nat ?_
        rw [List.getElem?_map, List.getD_eq_getElem?_getD, List.getElem?_eq_getElem (by omega)]
        rfl
      have e2 : atI (ss.map V.str) (1 + (i : Int)) = some (V.str (ss.getD (i + 1) "")) := by
        have e : (1 + (i : Int)) = ((i + 1 : Nat) : Int) := by omega
        rw [e]
        refine atI_nat ?_
        rw [List.getElem?_map, List.getD_eq_getElem?_getD, List.getElem?_eq_getElem (by omega)]
        rfl
      refine ⟨rfl, _, rfl, _, rfl, _, _, rfl, rfl, a, _, _, _, rfl, rfl, p.1.sqT hS, e1, _, rfl, _, rfl, a, _, _, _, rfl, rfl, p.1.sqT hS, e2, _, _, rfl, rfl, ?_⟩
      refine p.step hD ?_ (by rw [List.length_map, List.length_range]; omega) (Same.refl _)
      rw [List.getElem?_map, List.getElem?_range hi]
      rfl
    · intro H2 p
      obtain ⟨s2, hl2⟩ := p.done (by rw [List.length_map, List.length_range])
      refine ⟨D, (List.range (ss.length - 1)).map fun i => strLt (ss.getD i "") (ss.getD (i + 1) ""), rfl, SqL.of (by rw [hl2, List.map_map]; rfl), ?_⟩
      have e : ascS ss = ((List.range (ss.length - 1)).map fun i => strLt (ss.getD i "") (ss.getD (i + 1) "")).all id := by
        rw [List.all_map]
        rfl
      rw [← e]
      exact k H2 s2
end
end Half

namespace Half
open PySem PySem.Spec PyProof.Rows L2
theorem all_map_bl {α : Type} (l : List α) (f : α → Bool) : (l.map f).all id = l.all f := by rw [List.all_map]; rfl
theorem flat_strs (l : List Str) : (l.map V.str).all flatV = true := by
  rw [List.all_map, List.all_eq_true]
  intro x _
  rfl
theorem getE {α : Type} {l : List α} {i : Nat} {β : Type} {f : α → β} {y : β} (h : (l.map f)[i]? = some y) : ∃ a, l[i]? = some a ∧ y = f a := by
  rw [List.getElem?_map] at h
  cases e : l[i]? with
  | none => rw [e] at h; cases h
  | some a => rw [e] at h; exact ⟨a, rfl, (Option.some.inj h).symm⟩
section
variable {P : Program} {w : World} {K : PySem.W.Frag} {mg : Str → Option Value} {base : Heap}
theorem scScripts : FnScope ["values", "value"] ["values"] (defScope sScripts) := ⟨rfl, rfl, rfl, by decide +kernel, rfl, by decide +kernel, by decide +kernel⟩
theorem ok_scripts {f : Addr} {fd : FuncData} (F : Fun K "are_scripts" "are_scripts" sScripts f fd) (T : TxtE K mg) (dA : Def P w K mg base 1 "ascends" ["values"] (spAsc K)) : FnOk P w K mg base CX0 2 f fd ["values"] (spScripts K) := by
  refine F.ok scScripts (fun vs H Q E h => ?_) (fun cdv A outer s H vs Q E hr h => ?_)
  · obtain ⟨a, ss, rfl, _⟩ := h
    rfl
  · obtain ⟨a, ss, rfl, hS, hl, k⟩ := h
    have nd := scScripts.nd
    obtain ⟨aS, gS, hSC⟩ := T.scr
    refine ⟨_, pss_cons (ps_if (pt_not (pt_val (pe_callB call_isi (by rfl) T.isi (by decide +kernel) (pa_cons (pv 0) (pa_cons (pe_bltn (v := .ty "tuple") (by rfl) T.tup (by decide +kernel) rfl) pa_nil)))))
        (pss_one (ps_ret pe_bl)) pss_nil)
      (pss_one (ps_ret (pe_and (pe_callB (cr_all rfl) (by rfl) T.all (by decide +kernel) (pa_cons
        (pe_lc (own := [("value", 1)]) (g := gName 1) (tt := tYes) rfl nd (pi_tup (pv 0)) (blkOk_by (N := ["values", "value"]) (sc := defScope sScripts) (by decide +kernel))
          (fun _ _ _ _ _ => pg_name (i := 1) nd rfl (Or.inl rfl)) (fun _ _ _ _ _ => pts_nil)
          (fun _ _ _ _ _ => pe_cmpR (op_in_seq : OpR _ _ (rIn K false)) (pv 1) (pe_glob (v := .ref aS) rfl gS rfl) (by rfl))) pa_nil))
        (pe_one (pe_def dA hr rfl (pa_cons (pv 0) pa_nil)))))), ?_⟩
    refine ⟨_, rfl, _, _, _, _, _, rfl, .ty _, tyT hS, kit_ty (r := true) (by decide +kernel), _, rfl, ?_⟩
    refine iteF ?_
    refine ⟨_, rfl, a, rfl, ⟨_, hS⟩, fun D hD => lc_it (walk_tup (xs := ss.map V.str)) (MapP H D (ss.map fun z => V.bl (inV (.str z) (SCR.map V.str)))) (MapP.zero hD) (fun _ _ _ p => p.1.sqT hS) ?_ ?_⟩
    · rintro i x H1 H2 hi p ⟨rfl, hx⟩
      obtain ⟨z, hz, rfl⟩ := getE hx
      refine ⟨rfl, _, rfl, aS, _, rfl, .inr (hSC _), rfl, flat_strs _, ?_⟩
      refine p.step hD ?_ (by rw [List.length_map]; omega) (Same.refl _)
      rw [List.getElem?_map, hz]
      rfl
    · intro H2 p
      obtain ⟨s2, hl2⟩ := p.done (by rw [List.length_map, List.length_map])
      refine ⟨D, ss.map fun z => inV (.str z) (SCR.map V.str), rfl, SqL.of (by rw [hl2, List.map_map]; rfl), _, rfl, ?_⟩
      rw [all_map_bl]
      refine ite2 (fun c => ?_) (fun c => ?_)
      · refine ⟨_, rfl, a, ss, rfl, s2.sqT hS, hl, fun H3 s3 => ?_⟩
        have e : areScripts ss = ascS ss := by unfold areScripts; rw [c, Bool.true_and]
        rw [← e]
        exact k H3 (s2.trans s3)
      · have c' : (ss.all fun z => inV (.str z) (SCR.map V.str)) = false := by simpa using c
        have e : areScripts ss = false := by unfold areScripts; rw [c', Bool.false_and]
        rw [← e]
        exact k H2 s2
theorem scOthers : FnScope ["values", "name", "value"] ["values", "name"] (defScope sOthers) := ⟨rfl, rfl, rfl, by decide +kernel, rfl, by decide +kernel, by decide +kernel⟩
theorem ok_others {f : Addr} {fd : FuncData} (F : Fun K "are_other_names" "are_other_names" sOthers f fd) (T : TxtE K mg) (dA : Def P w K mg base 1 "ascends" ["values"] (spAsc K)) (dW : Def P w K mg base 1 "is_word" ["text"] spWord) : FnOk P w K mg base CX0 2 f fd ["values", "name"] (spOthers K) := by
  refine F.ok scOthers (fun vs H Q E h => ?_) (fun cdv A outer s H vs Q E hr h => ?_)
  · obtain ⟨a, ss, nm, rfl, _⟩ := h
    rfl
  · obtain ⟨a, ss, nm, rfl, hS, hl, hw, k⟩ := h
    have nd := scOthers.nd
    refine ⟨_, pss_cons (ps_if (pt_not (pt_val (pe_callB call_isi (by rfl) T.isi (by decide +kernel) (pa_cons (pv 0) (pa_cons (pe_bltn (v := .ty "tuple") (by rfl) T.tup (by decide +kernel) rfl) pa_nil)))))
        (pss_one (ps_ret pe_bl)) pss_nil)
      (pss_one (ps_ret (pe_and (pe_callB (cr_all rfl) (by rfl) T.all (by decide +kernel) (pa_cons
        (pe_lc (own := [("value", 2)]) (g := gName 2) (tt := tYes) rfl nd (pi_tup (pv 0)) (blkOk_by (N := ["values", "name", "value"]) (sc := defScope sOthers) (by decide +kernel))
          (fun _ _ _ _ _ => pg_name (i := 2) nd rfl (Or.inl rfl)) (fun _ _ _ _ _ => pts_nil)
          (fun _ _ _ _ _ => pe_and (pe_def dW hr rfl (pa_cons (pv 2) pa_nil)) (pe_one (pe_cmpR op_ne (pv 2) (pv 1) (nomark _))))) pa_nil))
        (pe_one (pe_def dA hr rfl (pa_cons (pv 0) pa_nil)))))), ?_⟩
    refine ⟨_, rfl, _, _, _, _, _, rfl, .ty _, tyT hS, kit_ty (r := true) (by decide +kernel), _, rfl, ?_⟩
    refine iteF ?_
    refine ⟨_, rfl, a, rfl, ⟨_, hS⟩, fun D hD => lc_it (walk_tup (xs := ss.map V.str)) (MapP H D (ss.map fun z => V.bl (isWord z && !decide (V.str z = V.str nm)))) (MapP.zero hD) (fun _ _ _ p => p.1.sqT hS) ?_ ?_⟩
    · rintro i x H1 H2 hi p ⟨rfl, hx⟩
      obtain ⟨z, hz, rfl⟩ := getE hx
      refine ⟨rfl, _, rfl, z, rfl, hw z (List.mem_of_getElem? hz), fun H3 s3 => ⟨_, rfl, ?_⟩⟩
      have fin : ∀ b, b = (isWord z && !decide (V.str z = V.str nm)) → ∃ acc, H3 D = some (.lst acc) ∧ acc.length < sizeLine ∧ MapP H D (ss.map fun z => V.bl (isWord z && !decide (V.str z = V.str nm))) (i + 1) (upd H3 D (.lst (acc ++ [V.bl b]))) := fun b e => by
        refine p.step hD ?_ (by rw [List.length_map]; omega) s3
        rw [List.getElem?_map, hz, e]
        rfl
      refine ite2 (fun c => ?_) (fun c => ?_)
      · refine ⟨_, rfl, _, rfl, rfl, ?_⟩
        exact fin _ (by rw [c, Bool.true_and])
      · have c' : isWord z = false := by simpa using c
        exact fin _ (by rw [c', Bool.false_and])
    · intro H2 p
      obtain ⟨s2, hl2⟩ := p.done (by rw [List.length_map, List.length_map])
      refine ⟨D, ss.map fun z => (isWord z && !decide (V.str z = V.str nm)), rfl, SqL.of (by rw [hl2, List.map_map]; rfl), _, rfl, ?_⟩
      rw [all_map_bl]
      refine ite2 (fun c => ?_) (fun c => ?_)
      · refine ⟨_, rfl, a, ss, rfl, s2.sqT hS, hl, fun H3 s3 => ?_⟩
        have e : areOthers ss nm = ascS ss := by unfold areOthers; rw [c, Bool.true_and]
        rw [← e]
        exact k H3 (s2.trans s3)
      · have c' : (ss.all fun z => (isWord z && !decide (V.str z = V.str nm))) = false := by simpa using c
        have e : areOthers ss nm = false := by unfold areOthers; rw [c', Bool.false_and]
        rw [← e]
        exact k H2 s2
theorem scPair : FnScope ["value"] ["value"] (defScope sPair) := ⟨rfl, rfl, rfl, by decide +kernel, rfl, by decide +kernel, by decide +kernel⟩
theorem ok_pair {f : Addr} {fd : FuncData} (F : Fun K "is_pair_with_version" "is_pair_with_version" sPair f fd) (T : TxtE K mg) (dV : Def P w K mg base 2 "is_version" ["value"] spVersion) : FnOk P w K mg base CX0 3 f fd ["value"] (spPair K) := by
  refine F.ok scPair (fun vs H Q E h => ?_) (fun cdv A outer s H vs Q E hr h => ?_)
  · obtain ⟨t, n, v, rfl, _⟩ := h
    rfl
  · obtain ⟨t, n, v, rfl, hS, k⟩ := h
    refine ⟨_, pss_one (ps_ret (pe_and (pe_callB call_isi (by rfl) T.isi (by decide +kernel) (pa_cons (pv 0) (pa_cons (pe_bltn (v := .ty "tuple") (by rfl) T.tup (by decide +kernel) rfl) pa_nil)))
      (pe_and (pe_cmpR op_eq (pe_callB call_len_seq (by rfl) T.d.len PySem.boot_len (pa_cons (pv 0) pa_nil)) pe_int (nomark _))
        (pe_one (pe_def dV hr rfl (pa_cons (pe_ix ix_tup (pv 0) pe_int (fun _ _ => rfl)) pa_nil)))))), ?_⟩
    refine ⟨_, rfl, _, _, _, _, _, rfl, .ty _, tyT hS, kit_ty (r := true) (by decide +kernel), _, rfl, ?_⟩
    refine iteT ?_
    refine ⟨_, rfl, t, _, rfl, .inr hS, rfl, true, rfl, ?_⟩
    refine iteT ?_
    exact ⟨_, rfl, t, _, _, _, rfl, rfl, hS, rfl, _, rfl, .inl ⟨_, rfl⟩, k⟩
theorem scNeeds : FnScope ["values", "name", "value"] ["values", "name"] (defScope sNeeds) := ⟨rfl, rfl, rfl, by decide +kernel, rfl, by decide +kernel, by decide +kernel⟩
theorem ok_needs {f : Addr} {fd : FuncData} (F : Fun K "are_needs" "are_needs" sNeeds f fd) (T : TxtE K mg) (dP : Def P w K mg base 3 "is_pair_with_version" ["value"] (spPair K)) (dO : Def P w K mg base 2 "are_other_names" ["values", "name"] (spOthers K)) : FnOk P w K mg base CX0 4 f fd ["values", "name"] (spNeeds K) := by
  refine F.ok scNeeds (fun vs H Q E h => ?_) (fun cdv A outer s H vs Q E hr h => ?_)
  · obtain ⟨a, ps, nm, rfl, _⟩ := h
    rfl
  · obtain ⟨a, ps, nm, rfl, hN, hl, hw, k⟩ := h
    have nd := scNeeds.nd
    obtain ⟨ts, hS, htl, hts⟩ := id hN
    refine ⟨_, pss_cons (ps_if (PW.pt (pw_or (pt_not (pt_val (pe_callB call_isi (by rfl) T.isi (by decide +kernel) (pa_cons (pv 0) (pa_cons (pe_bltn (v := .ty "tuple") (by rfl) T.tup (by decide +kernel) rfl) pa_nil)))))
        (pw_or1 (pt_not (pt_val (pe_callB (cr_all rfl) (by rfl) T.all (by decide +kernel) (pa_cons
          (pe_lc (own := [("value", 2)]) (g := gName 2) (tt := tYes) rfl nd (pi_tup (pv 0)) (blkOk_by (N := ["values", "name", "value"]) (sc := defScope sNeeds) (by decide +kernel))
            (fun _ _ _ _ _ => pg_name (i := 2) nd rfl (Or.inl rfl)) (fun _ _ _ _ _ => pts_nil)
            (fun _ _ _ _ _ => pe_def dP hr rfl (pa_cons (pv 2) pa_nil))) pa_nil)))))))
        (pss_one (ps_ret pe_bl)) pss_nil)
      (pss_one (ps_ret (pe_def dO (hr.mono (by decide)) rfl (pa_cons (pe_callTy call_tuple_of (by rfl) T.tup (by decide +kernel) (pa_cons
          (pe_lc (own := [("value", 2)]) (g := gName 2) (tt := tYes) rfl nd (pi_tup (pv 0)) (blkOk_by (N := ["values", "name", "value"]) (sc := defScope sNeeds) (by decide +kernel))
            (fun _ _ _ _ _ => pg_name (i := 2) nd rfl (Or.inl rfl)) (fun _ _ _ _ _ => pts_nil)
            (fun _ _ _ _ _ => pe_ix (ix_tup : IxR _ (rIxT K)) (pv 2) pe_int (fun _ _ => rfl))) pa_nil)) (pa_cons (pv 1) pa_nil))))), ?_⟩
    refine ⟨_, rfl, _, _, _, _, _, rfl, .ty _, tyT hS, kit_ty (r := true) (by decide +kernel), _, rfl, ?_⟩
    refine iteF ?_
    refine ⟨_, rfl, a, rfl, ⟨_, hS⟩, fun D hD => lc_it (walk_tup (xs := ts.map V.ref)) (MapP H D (ps.map fun p => V.bl (inR (.int p.2) 1 99))) (MapP.zero hD) (fun _ _ _ p => p.1.sqT hS) ?_ ?_⟩
    · rintro i x H1 H2 hi p ⟨rfl, hx⟩
      obtain ⟨t, ht, rfl⟩ := getE hx
      have hip : i < ps.length := by rw [List.length_map] at hi; omega
      refine ⟨rfl, _, rfl, t, _, _, rfl, p.1.sqT (hts i t _ ht (List.getElem?_eq_getElem hip)), ?_⟩
      refine p.step hD ?_ (by rw [List.length_map]; omega) (Same.refl _)
      rw [List.getElem?_map, List.getElem?_eq_getElem hip]
      rfl
    · intro H2 p
      obtain ⟨s2, hl2⟩ := p.done (by rw [List.length_map, List.length_map, htl])
      refine ⟨D, ps.map fun p => inR (.int p.2) 1 99, rfl, SqL.of (by rw [hl2, List.map_map]; rfl), _, rfl, ?_⟩
      rw [all_map_bl]
      cases c : (ps.all fun p => inR (.int p.2) 1 99) with
      | false =>
        refine iteT ?_
        have e : areNeeds ps nm = false := by unfold areNeeds; rw [c, Bool.false_and]
        have q := k H2 s2
        rw [e] at q
        exact q
      | true =>
        refine iteF ?_
        refine ⟨_, rfl, a, rfl, ⟨_, s2.sqT hS⟩, fun D2 hD2 => lc_it (walk_tup (xs := ts.map V.ref)) (MapP H2 D2 (ps.map fun p => V.str p.1)) (MapP.zero hD2) (fun _ _ _ p => (s2.trans p.1).sqT hS) ?_ ?_⟩
        · rintro i x H3 H4 hi p2 ⟨rfl, hx⟩
          obtain ⟨t, ht, rfl⟩ := getE hx
          have hip : i < ps.length := by rw [List.length_map] at hi; omega
          refine ⟨rfl, _, rfl, t, _, _, _, rfl, rfl, (s2.trans p2.1).sqT (hts i t _ ht (List.getElem?_eq_getElem hip)), rfl, ?_⟩
          refine p2.step hD2 ?_ (by rw [List.length_map]; omega) (Same.refl _)
          rw [List.getElem?_map, List.getElem?_eq_getElem hip]
          rfl
        · intro H3 p2
          obtain ⟨s3, hl3⟩ := p2.done (by rw [List.length_map, List.length_map, htl])
          refine ⟨D2, _, rfl, .inl ⟨SqL.of hl3, fun tp htp => ⟨_, rfl, tp, ps.map (·.1), nm, rfl, .inl (.inl ?_), ?_, ?_, fun H5 s5 => ?_⟩⟩⟩
          · rw [upd_same, List.map_map]
            rfl
          · rw [List.length_map]
            exact hl
          · intro z hz
            obtain ⟨p, hp, rfl⟩ := List.mem_map.mp hz
            exact hw p hp
          · have e : areNeeds ps nm = areOthers (ps.map (·.1)) nm := by unfold areNeeds; rw [c, Bool.true_and]
            rw [← e]
            exact k H5 (s2.trans (s3.trans ((Same.upd_new htp).trans s5)))
end
end Half

namespace Half
open PySem PySem.Spec PyProof.Rows L2
abbrev sWrong : Stmt := top 23
/-- an edition's parameters -/
structure Ed where
  name : Str
  version : V
  scripts : List Str
  needs : List (Str × Int)
  first : List (Str × Int)
  against : List Str
def Ed.checks (e : Ed) : List (Str × Bool) := [("name", isWord e.name), ("version", inR e.version 1 99), ("scripts", areScripts e.scripts), ("needs", areNeeds e.needs e.name), ("first", areNeeds e.first e.name), ("against", areOthers e.against e.name)]
def Ed.wrong (e : Ed) : Option Str := (e.checks.find? fun q => !q.2).map (·.1)
def optV : Option Str → V
  | none => .non
  | some x => .str x
/-- sizes that no check is beyond -/
structure Ed.Small (e : Ed) : Prop where
  name : e.name.length ≤ 1000
  version : (∃ n, e.version = .int n) ∨ ∃ b, e.version = .bl b
  scripts : e.scripts.length ≤ 100
  needs : e.needs.length ≤ 100 ∧ ∀ p ∈ e.needs, p.1.length ≤ 1000
  first : e.first.length ≤ 100 ∧ ∀ p ∈ e.first, p.1.length ≤ 1000
  against : e.against.length ≤ 100 ∧ ∀ z ∈ e.against, z.length ≤ 1000
/-- its six values -/
structure EdAt (K : PySem.W.Frag) (H : Hp) (e : Ed) (s n f g : Addr) : Prop where
  scripts : SqT K H s (e.scripts.map V.str)
  needs : NeedsAt K H n e.needs
  first : NeedsAt K H f e.first
  against : SqT K H g (e.against.map V.str)
theorem EdAt.same {K : PySem.W.Frag} {H H' : Hp} {e : Ed} {s n f g : Addr} (S : Same H H') (h : EdAt K H e s n f g) : EdAt K H' e s n f g :=
  ⟨S.sqT h.scripts, h.needs.same S, h.first.same S, S.sqT h.against⟩
theorem find_first {l : List (Str × Bool)} {i : Nat} {p : Str × Bool} (h : ∀ j q, j < i → l[j]? = some q → q.2 = true) (hi : l[i]? = some p) (hp : p.2 = false) : l.find? (fun q => !q.2) = some p := by
  induction l generalizing i with
  | nil => simp at hi
  | cons a l ih =>
    cases i with
    | zero =>
      have e : a = p := by simpa using hi
      subst e
      simp [hp]
    | succ i =>
      have ha : a.2 = true := h 0 a (Nat.succ_pos _) rfl
      rw [List.find?_cons_of_neg (by simp [ha])]
      exact ih (i := i) (fun j q hj e => h (j + 1) q (Nat.succ_lt_succ hj) (by simpa using e)) (by simpa using hi)
theorem find_none {l : List (Str × Bool)} (h : ∀ j q, j < l.length → l[j]? = some q → q.2 = true) : l.find? (fun q => !q.2) = none := by
  rw [List.find?_eq_none]
  intro q hq
  obtain ⟨j, hj, e⟩ := List.mem_iff_getElem.mp hq
  have := h j q hj (by rw [List.getElem?_eq_getElem hj, e])
  simp [this]
def spWrong (K : PySem.W.Frag) : Sp := fun vs H Q _ => ∃ (e : Ed) (s n f g : Addr), vs = [.str e.name, e.version, .ref s, .ref n, .ref f, .ref g] ∧ EdAt K H e s n f g ∧ e.Small ∧ ∀ H', Same H H' → Q (optV e.wrong) H'
structure Checks (P : Program) (w : World) (K : PySem.W.Frag) (mg : Str → Option Value) (base : Heap) : Prop where
  wo : Def P w K mg base 1 "is_word" ["text"] spWord
  ve : Def P w K mg base 2 "is_version" ["value"] spVersion
  sc : Def P w K mg base 2 "are_scripts" ["values"] (spScripts K)
  ne : Def P w K mg base 4 "are_needs" ["values", "name"] (spNeeds K)
  ot : Def P w K mg base 2 "are_other_names" ["values", "name"] (spOthers K)
section
variable {P : Program} {w : World} {K : PySem.W.Frag} {mg : Str → Option Value} {base : Heap}
theorem scWrong : FnScope ["name", "version", "scripts", "needs", "first", "against", "checked", "part", "right"] ["name", "version", "scripts", "needs", "first", "against"] (defScope sWrong) := ⟨rfl, rfl, rfl, by decide +kernel, rfl, by decide +kernel, by decide +kernel⟩
theorem two_le : 2 ≤ sizeLine := by decide
theorem ok_wrong {f : Addr} {fd : FuncData} (F : Fun K "wrong_part" "wrong_part" sWrong f fd) (T : TxtE K mg) (C : Checks P w K mg base) : FnOk P w K mg base CX0 5 f fd ["name", "version", "scripts", "needs", "first", "against"] (spWrong K) := by
  refine F.ok scWrong (fun vs H Q E h => ?_) (fun cdv A outer s H vs Q E hr h => ?_)
  · obtain ⟨e, s, n, f, g, rfl, _⟩ := h
    rfl
  · obtain ⟨e, as, an, af, ag, rfl, hE, hz, k⟩ := h
    have nd := scWrong.nd
    have r1 : Room 1 _ := hr.mono (by decide)
    have r2 : Room 2 _ := hr.mono (by decide)
    refine ⟨_, pss_cons (ps_set (i := 6) nd rfl (Or.inl rfl) (pe_tup
        (pa_cons (pe_tup (pa_cons pe_str (pa_cons (pe_def C.wo r1 rfl (pa_cons (pv 0) pa_nil)) pa_nil)))
        (pa_cons (pe_tup (pa_cons pe_str (pa_cons (pe_def C.ve r2 rfl (pa_cons (pv 1) pa_nil)) pa_nil)))
        (pa_cons (pe_tup (pa_cons pe_str (pa_cons (pe_def C.sc r2 rfl (pa_cons (pv 2) pa_nil)) pa_nil)))
        (pa_cons (pe_tup (pa_cons pe_str (pa_cons (pe_def C.ne hr rfl (pa_cons (pv 3) (pa_cons (pv 0) pa_nil))) pa_nil)))
        (pa_cons (pe_tup (pa_cons pe_str (pa_cons (pe_def C.ne hr rfl (pa_cons (pv 4) (pa_cons (pv 0) pa_nil))) pa_nil)))
        (pa_cons (pe_tup (pa_cons pe_str (pa_cons (pe_def C.ot r2 rfl (pa_cons (pv 5) (pa_cons (pv 0) pa_nil))) pa_nil))) pa_nil))))))))
      (pss_cons (ps_for PassesOwn.never rfl (pi_tup (pv 6)) (pg_tup rfl (pgs_cons (pg_name (i := 7) nd rfl (Or.inl rfl)) (pgs_cons (pg_name (i := 8) nd rfl (Or.inl rfl)) pgs_nil)))
        (pss_one (ps_if (pt_not (pt_val (pv 8))) (pss_one (ps_ret (pv 7))) pss_nil)))
      (pss_one (ps_ret pe_non))), ?_⟩
    refine ⟨_, rfl, e.name, rfl, hz.name, fun H1 s1 => ⟨two_le, fun t1 n1 => ?_⟩⟩
    refine ⟨_, rfl, e.version, rfl, hz.version, two_le, fun t2 n2 => ?_⟩
    have s2 := (s1.trans (Same.upd_new (o := .tup [.str "name", .bl (isWord e.name)]) n1)).trans (Same.upd_new (o := .tup [.str "version", .bl (inR e.version 1 99)]) n2)
    refine ⟨_, rfl, as, _, rfl, s2.sqT hE.scripts, hz.scripts, fun H3 s3 => ⟨two_le, fun t3 n3 => ?_⟩⟩
    have s3' := (s2.trans s3).trans (Same.upd_new (o := .tup [.str "scripts", .bl (areScripts e.scripts)]) n3)
    refine ⟨_, rfl, _, rfl, an, _, _, rfl, hE.needs.same s3', hz.needs.1, hz.needs.2, fun H4 s4 => ⟨two_le, fun t4 n4 => ?_⟩⟩
    have s4' := (s3'.trans s4).trans (Same.upd_new (o := .tup [.str "needs", .bl (areNeeds e.needs e.name)]) n4)
    refine ⟨_, rfl, _, rfl, af, _, _, rfl, hE.first.same s4', hz.first.1, hz.first.2, fun H5 s5 => ⟨two_le, fun t5 n5 => ?_⟩⟩
    have s5' := (s4'.trans s5).trans (Same.upd_new (o := .tup [.str "first", .bl (areNeeds e.first e.name)]) n5)
    refine ⟨_, rfl, _, rfl, ag, _, _, rfl, s5'.sqT hE.against, hz.against.1, hz.against.2, fun H6 s6 => ⟨two_le, fun t6 n6 => ⟨(by show 6 ≤ sizeLine; decide), fun TT nT => ?_⟩⟩⟩
    have z6 := Same.upd_new (o := .tup [.str "against", .bl (areOthers e.against e.name)]) n6
    have zT := Same.upd_new (o := .tup [.ref t1, .ref t2, .ref t3, .ref t4, .ref t5, .ref t6]) nT
    have zz := z6.trans zT
    have z5 := ((Same.upd_new (o := .tup [.str "first", .bl (areNeeds e.first e.name)]) n5).trans s6).trans zz
    have z4 := ((Same.upd_new (o := .tup [.str "needs", .bl (areNeeds e.needs e.name)]) n4).trans s5).trans z5
    have z3 := ((Same.upd_new (o := .tup [.str "scripts", .bl (areScripts e.scripts)]) n3).trans s4).trans z4
    have z2 := ((Same.upd_new (o := .tup [.str "version", .bl (inR e.version 1 99)]) n2).trans s3).trans z3
    have z1 := (Same.upd_new (o := .tup [.str "name", .bl (isWord e.name)]) n1).trans z2
    have hAll := (s5'.trans s6).trans zz
    generalize hHF : upd (upd H6 t6 _) TT _ = HF at *
    have hts : ∀ (i : Nat) x p, ([t1, t2, t3, t4, t5, t6] : List Addr)[i]? = some x → e.checks[i]? = some p → SqT K HF x [.str p.1, .bl p.2] := by
      have a1 : HF t1 = _ := z2 _ _ upd_same
      have a2 : HF t2 = _ := z3 _ _ (s3 _ _ upd_same)
      have a3 : HF t3 = _ := z4 _ _ (s4 _ _ upd_same)
      have a4 : HF t4 = _ := z5 _ _ (s5 _ _ upd_same)
      have a5 : HF t5 = _ := zz _ _ (s6 _ _ upd_same)
      have a6 : HF t6 = _ := zT _ _ upd_same
      intro i x p hx hp
      match i with
      | 0 => cases hx; cases hp; exact .inl (.inl a1)
      | 1 => cases hx; cases hp; exact .inl (.inl a2)
      | 2 => cases hx; cases hp; exact .inl (.inl a3)
      | 3 => cases hx; cases hp; exact .inl (.inl a4)
      | 4 => cases hx; cases hp; exact .inl (.inl a5)
      | 5 => cases hx; cases hp; exact .inl (.inl a6)
      | i + 6 => simp at hx
    have hTT : SqT K HF TT ([t1, t2, t3, t4, t5, t6].map V.ref) := .inl (.inl (by rw [← hHF]; exact upd_same))
    refine ⟨_, rfl, TT, rfl, ⟨_, hTT⟩, for_it (walk_tup (xs := [t1, t2, t3, t4, t5, t6].map V.ref)) (fun i σ H' => H' = HF ∧ (∃ v7 v8, σ = [some (.str e.name), some e.version, some (.ref as), some (.ref an), some (.ref af), some (.ref ag), some (.ref TT), v7, v8]) ∧ ∀ j q, j < i → e.checks[j]? = some q → q.2 = true)
      ⟨rfl, ⟨none, none, rfl⟩, fun j q hj => absurd hj (Nat.not_lt_zero _)⟩ (fun i σ H' _ h => by rw [h.1]; exact hTT) ?_ ?_⟩
    · rintro i x σ H' H'' hi ⟨rfl, ⟨v7, v8, rfl⟩, hbef⟩ ⟨rfl, hx⟩
      obtain ⟨t, ht, rfl⟩ := getE hx
      have hip : i < e.checks.length := hi
      have hp := List.getElem?_eq_getElem hip
      refine ⟨t, _, rfl, hts i t _ ht hp, rfl, _, _, rfl, _, _, rfl, rfl, ?_⟩
      refine ⟨_, rfl, _, rfl, ?_⟩
      cases c : e.checks[i].2 with
      | false =>
        refine iteT ?_
        refine ⟨_, rfl, ?_⟩
        have e1 : e.wrong = some e.checks[i].1 := by
          unfold Ed.wrong
          rw [find_first hbef hp c]
          rfl
        have q := k H'' hAll
        rw [e1] at q
        exact q
      | true =>
        refine iteF ?_
        refine ⟨rfl, ⟨_, _, rfl⟩, fun j q hj hq => ?_⟩
        by_cases hji : j = i
        · subst hji
          rw [hp] at hq
          rw [← Option.some.inj hq]
          exact c
        · exact hbef j q (by omega) hq
    · rintro σ H' ⟨rfl, _, hbef⟩
      have e1 : e.wrong = none := by
        unfold Ed.wrong
        rw [find_none fun j q hj hq => hbef j q hj hq]
        rfl
      have q := k H' hAll
      rw [e1] at q
      exact q
end
end Half

namespace Half
open PySem PySem.Spec PyProof.Rows L2
abbrev sIe : Stmt := inClass (top 2) 0
/-- what stands of an error class with its own __init__ (one parameter, super().__init__(..), one field fl) -/
def spErr (C : Addr) (fl : Str) : Sp := fun vs H Q _ => ∃ (a : Addr) (p : Str), vs = [.ref a, .str p] ∧ H a = some (exo a C none) ∧ p.length ≤ 1000 ∧
  ∀ dx, H dx = none → dx ≠ a → Q .non (upd (upd H dx (exd dx [(fl, .str p)])) a (exo a C (some dx)))
/-- the __init__ at f as the top has made it -/
structure ErrFn (P : Program) (K : PySem.W.Frag) (C : Addr) (qual : Str) (st : Stmt) (f : Addr) (fd : FuncData) : Prop where
  ex : ∃ (oc : Value) (od : Option Addr) (kV doc pm : Value) (an : Option Addr) (cda cc : Addr) (ct : Value) (osl : Array (Option Value)) (ccl : Value) (cdd : Option Addr) (vsc : Array Value) (ccs : Array (Option Value)) (file : Str) (tf : Tok) (cl : Value) (cld : Option Addr) (csl : Array (Option Value)),
    fd = PySem.W.ksFn "__init__" qual (defArgs st) (defBody st) (defScope st) .none kV doc pm an (.ref cda) ct cc ∧ K.lookup f = some ⟨oc, od, .func fd, osl⟩ ∧ PySem.W.codeIn K (.ref cda) qual = true ∧
    K.lookup cda = some ⟨ccl, cdd, .fields vsc, ccs⟩ ∧ vsc[2]? = some (.str file tf) ∧ ((P.main.file : Str) == file) = true ∧ K.lookup cc = some ⟨cl, cld, .cell (some (.ref C)), csl⟩
theorem scIe : SupScope ["self", "part"] ["self", "part"] (defScope sIe) := ⟨rfl, rfl, rfl, by decide +kernel, rfl, by decide +kernel, by decide +kernel, by decide +kernel, rfl, rfl⟩
theorem app_len (a b : Str) : (a ++ b).length = a.length + b.length := by
  show (a.cps ++ b.cps).size = _
  rw [Array.size_append]
  rfl
section
variable {P : Program} {w : World} {K : PySem.W.Frag} {mg : Str → Option Value} {base : Heap}
theorem ok_ie {C f : Addr} {fd : FuncData} (F : ErrFn P K C "InvalidEdition.__init__" sIe f fd) (T : SupC P K mg C) (nF : PySem.W.findIn K (.ref C) "part" = some none) : FnOk P w K mg base CX0 1 f fd ["self", "part"] (spErr C "part") := by
  obtain ⟨oc, od, kV, doc, pm, an, cda, cc, ct, osl, ccl, cdd, vsc, ccs, file, tf, cl, cld, csl, rfl, lk, hcd, hcode, hvs, hfile, hcell⟩ := F.ex
  refine fn_sup (N := ["self", "part"]) lk hcd scIe rfl rfl rfl hcode hvs hfile hcell T (fun vs H Q E h => ?_) (fun _ => rfl) (fun _ => rfl) (fun _ => rfl) (fun A outer s H vs Q E hr h => ?_)
  · obtain ⟨a, p, rfl, _⟩ := h
    rfl
  · obtain ⟨a, p, rfl, ha, hp, k⟩ := h
    refine ⟨a, _, _, rfl, ha, pa_cons (pe_joined (.cons pe_str (.cons (pe_fmt (pv 1)) (.cons pe_str .nil)))) pa_nil, pss_one (ps_ost (pv 0) (pv 1)), ?_⟩
    have l1 : ∀ x y : Str, x.length ≤ 100 → y.length ≤ 1200 → (x ++ y).length ≤ sizeLine := fun x y hx hy => by rw [app_len, sizeLine_eq]; omega
    refine ⟨_, rfl, (by decide), _, rfl, .inl ⟨p, rfl, Nat.le_trans hp (by decide), p, rfl, ?_, _, rfl, ?_, ?_⟩⟩
    · rw [app_len, app_len, sizeLine_eq]
      have : ("this cannot be the " : Str).length = 19 := by decide
      have e0 : (Str.empty).length = 0 := by decide
      omega
    · rw [app_len, app_len, app_len, sizeLine_eq]
      have : ("this cannot be the " : Str).length = 19 := by decide
      have : (" of an edition" : Str).length = 14 := by decide
      have e0 : (Str.empty).length = 0 := by decide
      omega
    · refine ⟨by show 1 ≤ 1000; decide, ha, ?_⟩
      refine ⟨_, rfl, _, rfl, a, C, rfl, T.oex, nF, .inl ⟨ha, fun dx h1 h2 => k dx h1 h2⟩⟩
end
end Half

namespace Half
open PySem PySem.Spec PyProof.Rows L2
abbrev sEi : Stmt := inClass (top 24) 0
abbrev sGet (i : Nat) : Stmt := inClass (top 24) (i + 1)
abbrev sEq : Stmt := inClass (top 24) 7
/-- all but the object at x stands as it stood -/
def SameBut (x : Addr) (H H' : Hp) : Prop := ∀ b o, b ≠ x → H b = some o → H' b = some o
/-- an edition at a -/
structure EdObj (K : PySem.W.Frag) (H : Hp) (C : Addr) (a : Addr) (e : Ed) (s n f g : Addr) : Prop where
  ob : ∃ dx p, H a = some (.ins C dx [("parts", .ref p)]) ∧ H p = some (.tup [.str e.name, e.version, .ref s, .ref n, .ref f, .ref g])
  at_ : EdAt K H e s n f g
theorem EdObj.same {K : PySem.W.Frag} {H H' : Hp} {C a : Addr} {e : Ed} {s n f g : Addr} (S : Same H H') (h : EdObj K H C a e s n f g) : EdObj K H' C a e s n f g := by
  obtain ⟨⟨dx, p, h1, h2⟩, h3⟩ := h
  exact ⟨⟨dx, p, S _ _ h1, S _ _ h2⟩, h3.same S⟩
def EiNames : List Str := ["self", "name", "version", "scripts", "needs", "first", "against"]
def spEi (K : PySem.W.Frag) (C CE : Addr) : Sp := fun vs H Q E => ∃ (x dx : Addr) (e : Ed) (s n f g : Addr), vs = [.ref x, .str e.name, e.version, .ref s, .ref n, .ref f, .ref g] ∧ H x = some (.ins C dx []) ∧ EdAt K H e s n f g ∧ e.Small ∧
  (e.wrong = none → ∀ H', SameBut x H H' → EdObj K H' C x e s n f g → Q .non H') ∧
  (∀ p, e.wrong = some p → ∀ H' d, Same H H' → H' d = some (.xd [("part", .str p)]) → E (.ref CE) (some d) H')
structure TxtG (P : Program) (K : PySem.W.Frag) (mg : Str → Option Value) (C CE fI : Addr) (fdI : FuncData) : Prop where
  cl : Cls K C
  nP : NoAttr K C "parts"
  mgC : mg "Edition" = some (.ref C)
  mgE : mg "InvalidEdition" = some (.ref CE)
  sup : SupC P K mg CE
  nF : PySem.W.findIn K (.ref CE) "part" = some none
  iC : PySem.W.findIn K (.ref CE) "__init__" = some (some (.ref fI))
  tI : PySem.W.typeIn K (.ref fI) = some (.type "function")
  er : ErrFn P K CE "InvalidEdition.__init__" sIe fI fdI
  bI : Binds K fdI ["self", "part"] []
section
variable {P : Program} {w : World} {K : PySem.W.Frag} {mg : Str → Option Value} {base : Heap} {C CE fI : Addr} {fdI : FuncData}
theorem scEi : FnScope ["self", "name", "version", "scripts", "needs", "first", "against", "part"] ["self", "name", "version", "scripts", "needs", "first", "against"] (defScope sEi) := ⟨rfl, rfl, rfl, by decide +kernel, rfl, by decide +kernel, by decide +kernel⟩
theorem wrong_small (e : Ed) {p : Str} (h : e.wrong = some p) : p.length ≤ 1000 := by
  unfold Ed.wrong at h
  cases q : e.checks.find? (fun q => !q.2) with
  | none => rw [q] at h; cases h
  | some r =>
    rw [q] at h
    have hp : r.1 = p := by simpa using h
    have hm := List.mem_of_find?_eq_some q
    rw [← hp]
    unfold Ed.checks at hm
    simp only [List.mem_cons, List.not_mem_nil, or_false] at hm
    rcases hm with rfl | rfl | rfl | rfl | rfl | rfl <;> (dsimp only; decide)
theorem ok_ei {f : Addr} {fd : FuncData} {kws : List (Str × V)} (F : FunD K "__init__" "Edition.__init__" (defArgs sEi) (defBody sEi) (defScope sEi) [] kws f fd) (T : TxtG P K mg C CE fI fdI) (dW : Def P w K mg base 5 "wrong_part" ["name", "version", "scripts", "needs", "first", "against"] (spWrong K)) :
    FnOk P w K mg base (L2.CX P w) 6 f fd ["self", "name", "version", "scripts", "needs", "first", "against"] (spEi K C CE) := by
  refine F.ok scEi (fun vs H Q E h => ?_) (fun cdv A outer s H vs Q E hr h => ?_)
  · obtain ⟨x, dx, e, s, n, f, g, rfl, _⟩ := h
    rfl
  · obtain ⟨x, dx, e, as, an, af, ag, rfl, hx, hE, hz, kOk, kBad⟩ := h
    have nd := scEi.nd
    have FI : FnOk P w K mg base CX0 1 fI fdI ["self", "part"] (spErr CE "part") := ok_ie T.er T.sup T.nF
    refine ⟨_, pss_cons (ps_set (i := 7) nd rfl (Or.inl rfl) (pe_def dW hr rfl (pa_cons (pv 1) (pa_cons (pv 2) (pa_cons (pv 3) (pa_cons (pv 4) (pa_cons (pv 5) (pa_cons (pv 6) pa_nil))))))))
      (pss_cons (ps_if (pt_cmp (pc_notN (pv 7))) (pss_one (ps_raise rfl (takes_of rfl rfl rfl rfl) (pmk_oex T.sup.oex T.iC T.tI FI (hr.mono (by decide)) T.bI .nil (fun _ _ _ _ _ _ _ h => h.elim) rfl T.mgE (pa_cons (pv 7) pa_nil)))) pss_nil)
      (pss_one (ps_fld (pv 0) (pe_tup (pa_cons (pv 1) (pa_cons (pv 2) (pa_cons (pv 3) (pa_cons (pv 4) (pa_cons (pv 5) (pa_cons (pv 6) pa_nil))))))) rfl))), ?_⟩
    refine ⟨_, rfl, _, rfl, _, rfl, _, rfl, _, rfl, _, rfl, e, as, an, af, ag, rfl, hE, hz, fun H1 s1 => ?_⟩
    cases hw : e.wrong with
    | some p =>
      refine ⟨_, rfl, true, rfl, ?_⟩
      refine iteT ?_
      refine ⟨_, rfl, (by show 1 ≤ 1000; decide), fun a ha => ⟨a, p, rfl, upd_same, wrong_small e hw, fun d hd1 hd2 => ⟨rfl, d, [("part", .str p)], upd_same, ?_, ?_, ?_⟩⟩⟩
      · rw [upd_ne hd2, upd_same]
      · rw [upd_ne hd2] at hd1
        exact hd1
      · rw [upd_ne hd2] at hd1
        refine kBad p hw _ d (fun b o q => ?_) upd_same
        have q1 := s1 b o q
        have nb : b ≠ d := ne_of_none q1 hd1
        have na : b ≠ a := ne_of_none q1 ha
        rw [upd_ne nb, del_ne na, upd_ne na, upd_ne nb, upd_ne na]
        exact q1
    | none =>
      refine ⟨_, rfl, false, rfl, ?_⟩
      refine iteF ?_
      refine ⟨_, rfl, _, rfl, _, rfl, _, rfl, _, rfl, _, rfl, (by show 6 ≤ sizeLine; decide), fun p hp => ?_⟩
      have nx : x ≠ p := ne_of_none (s1 _ _ hx) hp
      refine ⟨_, rfl, x, C, dx, [], rfl, (by rw [upd_ne nx]; exact s1 _ _ hx), T.cl, T.nP, (by show 0 < 1000; decide), ?_⟩
      have sb : SameBut x H (upd (upd H1 p (.tup [.str e.name, e.version, .ref as, .ref an, .ref af, .ref ag])) x (.ins C dx (putF "parts" (.ref p) []))) := fun b o hb q => by
        rw [upd_ne hb, upd_ne (ne_of_none (s1 _ _ q) hp)]
        exact s1 _ _ q
      refine kOk hw _ sb ⟨⟨dx, p, upd_same, by rw [upd_ne (Ne.symm nx), upd_same]⟩, ?_⟩
      have hE1 : EdAt K (upd H1 p (.tup [.str e.name, e.version, .ref as, .ref an, .ref af, .ref ag])) e as an af ag := hE.same (s1.trans (Same.upd_new hp))
      have tr : ∀ {a xs}, SqT K (upd H1 p (.tup [.str e.name, e.version, .ref as, .ref an, .ref af, .ref ag])) a xs → SqT K (upd (upd H1 p (.tup [.str e.name, e.version, .ref as, .ref an, .ref af, .ref ag])) x (.ins C dx (putF "parts" (.ref p) []))) a xs := fun {a xs} h => by
        have hxx : (upd H1 p (.tup [.str e.name, e.version, .ref as, .ref an, .ref af, .ref ag])) x = some (.ins C dx []) := by rw [upd_ne nx]; exact s1 _ _ hx
        rcases h with (h | ⟨o, h⟩) | h
        · exact .inl (.inl (by rw [upd_ne (ne_of h hxx (by intro z; cases z))]; exact h))
        · exact .inl (.inr ⟨o, by rw [upd_ne (ne_of h hxx (by intro z; cases z))]; exact h⟩)
        · exact .inr h
      have trN : ∀ {a ps}, NeedsAt K (upd H1 p (.tup [.str e.name, e.version, .ref as, .ref an, .ref af, .ref ag])) a ps → NeedsAt K (upd (upd H1 p (.tup [.str e.name, e.version, .ref as, .ref an, .ref af, .ref ag])) x (.ins C dx (putF "parts" (.ref p) []))) a ps := fun {a ps} h => by
        obtain ⟨ts, h1, h2, h3⟩ := h
        exact ⟨ts, tr h1, h2, fun i t p q r => tr (h3 i t p q r)⟩
      exact ⟨tr hE1.scripts, trN hE1.needs, trN hE1.first, tr hE1.against⟩
end
end Half

namespace Half
open PySem PySem.Spec PyProof.Rows L2
/-! ### the six properties -/
def spGet (C : Addr) (i : Nat) : Sp := fun vs H Q _ => ∃ (a dx p : Addr) (xs : List V) (v : V), vs = [.ref a] ∧ H a = some (.ins C dx [("parts", .ref p)]) ∧ H p = some (.tup xs) ∧ xs[i]? = some v ∧ Q v H
section
variable {P : Program} {w : World} {K : PySem.W.Frag} {mg : Str → Option Value} {base : Heap} {C : Addr}
theorem scGet {i : Nat} (h : i < 6) : FnScope ["self"] ["self"] (defScope (sGet i)) := by
  match i, h with
  | 0, _ => exact ⟨rfl, rfl, rfl, by decide +kernel, rfl, by decide +kernel, by decide +kernel⟩
  | 1, _ => exact ⟨rfl, rfl, rfl, by decide +kernel, rfl, by decide +kernel, by decide +kernel⟩
  | 2, _ => exact ⟨rfl, rfl, rfl, by decide +kernel, rfl, by decide +kernel, by decide +kernel⟩
  | 3, _ => exact ⟨rfl, rfl, rfl, by decide +kernel, rfl, by decide +kernel, by decide +kernel⟩
  | 4, _ => exact ⟨rfl, rfl, rfl, by decide +kernel, rfl, by decide +kernel, by decide +kernel⟩
  | 5, _ => exact ⟨rfl, rfl, rfl, by decide +kernel, rfl, by decide +kernel, by decide +kernel⟩
theorem getBody {i : Nat} (h : i < 6) : ∃ p1 p2 p3 p4 p5 : Pos, ∃ j, defBody (sGet i) = [.Return (some (.Subscript (.Attribute (.Name "self" p1) "parts" p2) (.Constant (.int i) j p3) p4)) p5] := by
  match i, h with
  | 0, _ => exact ⟨_, _, _, _, _, _, rfl⟩
  | 1, _ => exact ⟨_, _, _, _, _, _, rfl⟩
  | 2, _ => exact ⟨_, _, _, _, _, _, rfl⟩
  | 3, _ => exact ⟨_, _, _, _, _, _, rfl⟩
  | 4, _ => exact ⟨_, _, _, _, _, _, rfl⟩
  | 5, _ => exact ⟨_, _, _, _, _, _, rfl⟩
theorem ok_get {f : Addr} {fd : FuncData} {x qual : Str} {i : Nat} (hi : i < 6) (F : Fun K x qual (sGet i) f fd) (cl : Cls K C) (nP : NoAttr K C "parts") : FnOk P w K mg base CX0 1 f fd ["self"] (spGet C i) := by
  refine F.ok (scGet hi) (fun vs H Q E h => ?_) (fun cdv A outer s H vs Q E hr h => ?_)
  · obtain ⟨a, dx, p, xs, v, rfl, _⟩ := h
    rfl
  · obtain ⟨a, dx, p, xs, v, rfl, ha, hp, hv, k⟩ := h
    obtain ⟨p1, p2, p3, p4, p5, j, hb⟩ := getBody hi
    rw [hb]
    have hvis : Vis (defScope (sGet i)) "self" := ((scGet hi).par "self" (List.Mem.head _)).elim (fun z => .inl z) (fun z => .inr (.inl z))
    refine ⟨_, pss_one (ps_ret (pe_ix ix_tup (pe_fld (pe_var (i := 0) rfl hvis) rfl) pe_int (fun _ _ => rfl))), ?_⟩
    exact ⟨_, rfl, a, C, dx, _, _, rfl, ha, cl, nP, rfl, p, xs, _, v, rfl, rfl, .inl (.inl hp), atI_nat hv, k⟩
/-! ### == -/
def pairD (p : Str × Int) : PyData := .tuple [.str p.1, .int p.2]
def verD : V → PyData
  | .int n => .int n
  | .bl b => .bool b
  | _ => .none
def Ed.data (e : Ed) : PyData := .tuple [.str e.name, verD e.version, .tuple (e.scripts.map PyData.str), .tuple (e.needs.map pairD), .tuple (e.first.map pairD), .tuple (e.against.map PyData.str)]
theorem dpStrs {H : Hp} : ∀ l : List Str, DpAll K H (l.map V.str) (l.map PyData.str)
  | [] => .nil
  | x :: l => .cons (.str x) (dpStrs l)
theorem dpPairs {H : Hp} : ∀ (ts : List Addr) (ps : List (Str × Int)), ts.length = ps.length → (∀ (i : Nat) t p, ts[i]? = some t → ps[i]? = some p → SqT K H t [.str p.1, .int p.2]) → DpAll K H (ts.map V.ref) (ps.map pairD)
  | [], [], _, _ => .nil
  | t :: ts, p :: ps, hl, h => .cons (.tup (h 0 t p rfl rfl) (.cons (.str _) (.cons (.int _) .nil))) (dpPairs ts ps (by simpa using hl) fun i t' p' h1 h2 => h (i + 1) t' p' (by simpa using h1) (by simpa using h2))
  | [], _ :: _, hl, _ => by simp at hl
  | _ :: _, [], hl, _ => by simp at hl
theorem NeedsAt.dp {H : Hp} {a : Addr} {ps : List (Str × Int)} (h : NeedsAt K H a ps) : Dp K H (.ref a) (.tuple (ps.map pairD)) := by
  obtain ⟨ts, h1, h2, h3⟩ := h
  exact .tup h1 (dpPairs ts ps h2 h3)
theorem verDp {H : Hp} {v : V} (h : (∃ n, v = .int n) ∨ ∃ b, v = .bl b) : Dp K H v (verD v) := by
  rcases h with ⟨n, rfl⟩ | ⟨b, rfl⟩
  · exact .int n
  · exact .bl b
theorem EdObj.dp {H : Hp} {p s n f g : Addr} {e : Ed} (hp : H p = some (.tup [.str e.name, e.version, .ref s, .ref n, .ref f, .ref g])) (hE : EdAt K H e s n f g) (hv : (∃ n, e.version = .int n) ∨ ∃ b, e.version = .bl b) : Dp K H (.ref p) e.data :=
  .tup (.inl (.inl hp)) (.cons (.str _) (.cons (verDp hv) (.cons (.tup hE.scripts (dpStrs _)) (.cons hE.needs.dp (.cons hE.first.dp (.cons (.tup hE.against (dpStrs _)) .nil))))))
/-- an edition's promise of ==: what the data say -/
def EdIs (K : PySem.W.Frag) (H : Hp) (C a : Addr) (e : Ed) : Prop := (∃ s n f g, EdObj K H C a e s n f g) ∧ ((∃ n, e.version = .int n) ∨ ∃ b, e.version = .bl b) ∧ SeqAt.shaped e.data = true
theorem EdIs.same {H H' : Hp} {a : Addr} {e : Ed} (S : Same H H') (h : EdIs K H C a e) : EdIs K H' C a e := by
  obtain ⟨⟨s, n, f, g, h1⟩, h2⟩ := h
  exact ⟨⟨s, n, f, g, h1.same S⟩, h2⟩
def spEq (K : PySem.W.Frag) (C : Addr) : Sp := fun vs H Q _ => ∃ (a b : Addr) (e e' : Ed), vs = [.ref a, .ref b] ∧ EdIs K H C a e ∧ EdIs K H C b e' ∧ Q (.bl (PyData.eqv e.data e'.data)) H
structure TxtI (K : PySem.W.Frag) (mg : Str → Option Value) (C : Addr) : Prop where
  cl : Cls K C
  nP : NoAttr K C "parts"
  mgC : mg "Edition" = some (.ref C)
  isi : mg "isinstance" = none
  ha : PySem.W.findIn K (.ref C) "__class__" = some (some (.builtin "object.__class__"))
  hn : PySem.W.specialIn K (.builtin "object.__class__") "__get__" = some (some (.builtin "getset_descriptor.__get__"))
  ht : PySem.W.takesIn K (.builtin "object.__class__") = some true
  hm : PySem.W.mroIn K C (.type "object") = some true
  ki : PySem.W.kitOne K (.ref C) (.ref C) = some true
theorem scEq : FnScope ["self", "other"] ["self", "other"] (defScope sEq) := ⟨rfl, rfl, rfl, by decide +kernel, rfl, by decide +kernel, by decide +kernel⟩
theorem ok_eq {f : Addr} {fd : FuncData} (F : Fun K "__eq__" "Edition.__eq__" sEq f fd) (T : TxtI K mg C) : FnOk P w K mg base CX0 1 f fd ["self", "other"] (spEq K C) := by
  refine F.ok scEq (fun vs H Q E h => ?_) (fun cdv A outer s H vs Q E hr h => ?_)
  · obtain ⟨a, b, e, e', rfl, _⟩ := h
    rfl
  · obtain ⟨a, b, e, e', rfl, ⟨⟨s1, n1, f1, g1, ⟨dx, p, ha, hp⟩, hE⟩, hv, hs⟩, ⟨⟨s2, n2, f2, g2, ⟨dy, q, hb, hq⟩, hE'⟩, hv', hs'⟩, k⟩ := h
    refine ⟨_, pss_one (ps_ret (pe_and (pe_callB call_isi (by rfl) T.isi (by decide +kernel) (pa_cons (pv 1) (pa_cons (pe_glob (v := .ref C) rfl T.mgC rfl) pa_nil)))
      (pe_one (pe_cmpR (op_eqD hr.units) (pe_fld (pv 0) rfl) (pe_fld (pv 1) rfl) (nomark _))))), ?_⟩
    refine ⟨_, rfl, _, _, _, _, _, rfl, .own C, .base (.ins hb T.cl T.ha T.hn T.ht T.hm), T.ki, _, rfl, ?_⟩
    refine iteT ?_
    refine ⟨_, rfl, a, C, dx, _, _, rfl, ha, T.cl, T.nP, rfl, _, rfl, b, C, dy, _, _, rfl, hb, T.cl, T.nP, rfl, _, _, EdObj.dp hp hE hv, EdObj.dp hq hE' hv', hs, hs', k⟩
end
end Half

/-! sets whose items are tuples of ints and texts: s.add(t), t in s -/
namespace L2
open PySem PySem.Spec PyProof.Rows
abbrev kh (P : Program) (w : World) (k : List Key) : Int := tupleKeyHash (mixKind P w) k
abbrev TupK (P : Program) (w : World) (h : Heap) (k : List Key) (a : Addr) : Prop := IsTupleKey (mixKind P w) h k a
section
variable {P : Program} {w : World} {A : Around} {E : Value → Shared → Prop} {s : Shared}
def flatKey (v : Value) : Prop := (∃ i t, v = Value.int i t) ∨ ∃ x t, v = Value.str x t
theorem items_flat {k : List Key} {vs : List Value} (h : ItemsAre (mixKind P w) k vs) : ∀ v ∈ vs, flatKey v := by
  induction h with
  | nil => exact fun v hv => nomatch hv
  | @cons c u ks us one _ more =>
    intro v hv
    rcases List.mem_cons.mp hv with rfl | hv
    · rcases keyIs_shape (k := c) (v := v) one with ⟨i, t, _, e⟩ | ⟨x, t, _, e⟩
      · exact .inl ⟨i, t, e⟩
      · exact .inr ⟨x, t, e⟩
    · exact more v hv
theorem cls_flat {n : Nat} {v : Value} (h : flatKey v) : ofAClassStatement n v = pure false := by
  rcases h with ⟨i, t, rfl⟩ | ⟨x, t, rfl⟩ <;> cases n <;> rfl
theorem val_flat {n : Nat} {v : Value} (h : flatKey v) : ∃ b, hashByValue n v = pure b := by
  rcases h with ⟨i, t, rfl⟩ | ⟨x, t, rfl⟩
  · exact ⟨true, by cases n <;> rfl⟩
  · exact ⟨false, by cases n <;> rfl⟩
theorem cls_tup {k : List Key} {b : Addr} {Q : Bool → Shared → Prop} (T : TupK P w s.heap k b) (q : Q false s) : wpAny (model P w) A (ofAClassStatement 8 (.ref b)) Q E s := by
  have ty := T.typeIs
  obtain ⟨o, its, n, go, _, gd, gi⟩ := T
  unfold ofAClassStatement
  refine wpAny_bind (wpAny_typeOf ty ?_)
  dsimp only
  simp only [show (("tuple" : String) == "tuple") = true by decide, if_true, Bool.not_true, Bool.false_eq_true, if_false]
  first
    | refine wpAny_bind (wpAny_pure ?_)
    | skip
  try simp only [Bool.not_true, Bool.false_eq_true, if_false]
  show wpAny _ _ (seqItems? (.ref b) >>= _) _ _ s
  refine wpAny_bind (wpAny_seqItems go gd ?_)
  dsimp only
  refine wpAny_bind ?_
  show wpAny _ _ (forIn its _ _) _ _ s
  rw [← Array.forIn_toList]
  refine wpAny_forIn_list _ (fun rest r s' => r.1 = none ∧ s' = s ∧ ∀ v ∈ rest, flatKey v) _ ?_ ?_ _ _ ⟨rfl, rfl, items_flat gi⟩
  · rintro v rest r z ⟨hr, rfl, hall⟩
    rw [cls_flat (hall v List.mem_cons_self)]
    refine wpAny_bind (wpAny_pure ?_)
    simp only [Bool.false_eq_true, if_false]
    exact wpAny_pure ⟨rfl, rfl, fun u hu' => hall u (.tail _ hu')⟩
  · rintro ⟨r1, r2⟩ z ⟨hr, rfl, _⟩
    simp only at hr
    subst hr
    exact wpAny_pure q
theorem val_tup {k : List Key} {b : Addr} {Q : Bool → Shared → Prop} (T : TupK P w s.heap k b) (q : ∀ c, Q c s) : wpAny (model P w) A (hashByValue 8 (.ref b)) Q E s := by
  have ty := T.typeIs
  obtain ⟨o, its, n, go, _, gd, gi⟩ := T
  unfold hashByValue
  refine wpAny_bind (wpAny_specialOf ty F.slot_tuple_hash.lookup ?_)
  show wpAny _ _ (seqItems? (.ref b) >>= _) _ _ s
  refine wpAny_bind (wpAny_seqItems go gd ?_)
  refine wpAny_bind ?_
  show wpAny _ _ (forIn its _ _) _ _ s
  rw [← Array.forIn_toList]
  refine wpAny_forIn_list _ (fun rest r s' => (∀ c, r.1 = some c → c = false) ∧ s' = s ∧ ∀ v ∈ rest, flatKey v) _ ?_ ?_ _ _ ⟨(fun c h => nomatch h), rfl, items_flat gi⟩
  · rintro v rest r z ⟨hr, rfl, hall⟩
    obtain ⟨c, e⟩ := val_flat (n := 7) (hall v List.mem_cons_self)
    rw [e]
    refine wpAny_bind (wpAny_pure ?_)
    cases c
    · simp only [Bool.not_false, if_true]
      exact wpAny_pure (wpAny_pure (q false))
    · simp only [Bool.not_true, Bool.false_eq_true, if_false]
      exact wpAny_pure ⟨(fun c h => nomatch h), rfl, fun u hu' => hall u (.tail _ hu')⟩
  · rintro ⟨r1, r2⟩ z ⟨hr, rfl, _⟩
    cases r1 with
    | none => exact wpAny_pure (q true)
    | some c => exact wpAny_pure (q c)
theorem unseen {k : List Key} {b : Addr} {Q : Bool → Shared → Prop} (T : TupK P w s.heap k b) {ys : List Value} (hy : ∀ y ∈ ys, ∃ k' c, y = Value.ref c ∧ TupK P w s.heap k' c) (q : Q false s) :
    wpAny (model P w) A (searchCouldBeSeen (.ref b) ys) Q E s := by
  unfold searchCouldBeSeen
  refine wpAny_bind ?_
  refine wpAny_forIn_list _ (fun rest r s' => r.1 = none ∧ s' = s ∧ ∀ y ∈ rest, ∃ k' c, y = Value.ref c ∧ TupK P w s.heap k' c) _ ?_ ?_ _ _ ⟨rfl, rfl, hy⟩
  · rintro v rest r z ⟨hr, rfl, hall⟩
    obtain ⟨k', c, rfl, hc⟩ := hall v List.mem_cons_self
    have more : ∀ y ∈ rest, ∃ k' c, y = Value.ref c ∧ TupK P w z.heap k' c := fun u m => hall u (.tail _ m)
    dsimp only
    by_cases hv : (b == c || (carriedByValue (.ref b) && carriedByValue (.ref c))) = true
    · exact wp_if_pos hv (wpAny_pure ⟨rfl, rfl, more⟩)
    · refine wp_if_neg hv (wpAny_bind (wpAny_eqIsQuiet_tuple T ?_))
      simp only [Bool.not_true, Bool.false_eq_true, if_false]
      refine wpAny_bind (wpAny_eqIsQuiet_tuple hc ?_)
      simp only [Bool.not_true, Bool.false_eq_true, if_false]
      refine wpAny_bind (cls_tup T ?_)
      simp only [Bool.false_eq_true, if_false]
      refine wpAny_bind (cls_tup hc ?_)
      simp only [Bool.false_eq_true, if_false]
      exact wpAny_pure ⟨rfl, rfl, more⟩
  · rintro ⟨r1, r2⟩ z ⟨hr, rfl, _⟩
    simp only at hr
    subst hr
    exact wpAny_pure q
/-! the table of such a set -/
def ents (P : Program) (w : World) (L : List (Addr × List Key)) : List (Int × Value) := L.map fun p => (kh P w p.2, Value.ref p.1)
structure SetTK (P : Program) (w : World) (h : Heap) (a : Addr) (L : List (Addr × List Key)) (es : Array (Int × Value)) (ep : Nat) (t : SetTable) : Prop where
  ob : ∃ o, h.get? a = some o ∧ o.ExactSet ∧ o.data = .set es ep t
  row : es.toList = ents P w L
  tab : TabOk t (L.map fun p => kh P w p.2)
  one : (L.map (·.2)).Nodup
  room : L.length * 5 < t.mask * 3
  few : L.length < 64
  led : w.params.followText "set-order" = true ∨ t.led = true
variable {a : Addr} {L : List (Addr × List Key)} {es : Array (Int × Value)} {ep : Nat} {t : SetTable} {h : Heap}
theorem ents_len (e : es.toList = ents P w L) : es.size = L.length := by
  have z := congrArg List.length e
  unfold ents at z
  rwa [Array.length_toList, List.length_map] at z
theorem fit_of (n : es.size = L.length) (z : t.place.size = L.length) (d : t.dummies = #[]) (r : L.length ≤ t.mask) : t.fits es.size = true := by
  unfold SetTable.fits SetTable.fill
  rw [d, Bool.and_eq_true, beq_iff_eq, decide_eq_true_eq]
  exact ⟨z.trans n.symm, by show t.place.size + 0 ≤ t.mask; omega⟩
theorem SetTK.psz (R : SetTK P w h a L es ep t) : t.place.size = L.length := by
  have z := R.tab.sz
  rwa [List.length_map] at z
theorem SetTK.fit (R : SetTK P w h a L es ep t) : t.fits es.size = true := fit_of (ents_len R.row) R.psz R.tab.dm (by have := R.room; omega)
theorem SetTK.at (R : SetTK P w h a L es ep t) {i : Nat} {p : Addr × List Key} (m : L[i]? = some p) : es[i]? = some (kh P w p.2, Value.ref p.1) := by
  rw [← Array.getElem?_toList, R.row]
  unfold ents
  rw [List.getElem?_map, m] <;> rfl
theorem SetTK.odd (R : SetTK P w h a L es ep t) : ¬ t.gaveWay = true := by
  unfold SetTable.gaveWay
  rw [mask_odd R.tab.mok] <;> decide
/-- the c-th probe of the key -/
abbrev prb (P : Program) (w : World) (t : SetTable) (k : List Key) (c : Nat) : SetTable.Probe := nth t.mask (runAt t.mask (SetTable.bits (kh P w k) % (t.mask + 1)) (SetTable.bits (kh P w k))) c
theorem nth_dummy (m : Nat) : ∀ (n : Nat) (p : SetTable.Probe), p.dummy = none → (nth m p n).dummy = none
  | 0, _, e => e
  | n + 1, p, e => nth_dummy m n (adv m p) (by unfold adv; split <;> exact e)
/-- a search for a key, in a table that has its first free place at the K-th step -/
theorem look_from {ad : Bool} (R : SetTK P w s.heap a L es ep t) (TT : ∀ p ∈ L, TupK P w s.heap p.2 p.1) {x : Addr} {k : List Key} (hx : TupK P w s.heap k x) (hu : A.units < cLine) {K : Nat} (hKf : K < 10 * SetTable.turns t.mask)
    (free : way t.mask (kh P w k) K ∉ t.place.toList) (busy : ∀ c, c < K → way t.mask (kh P w k) c ∈ t.place.toList) {Q : SetFound → Shared → Prop}
    (yes : ∀ r, (ad = false → r.isSome = true) → k ∈ L.map (·.2) → Q (.there r) s) (no : k ∉ L.map (·.2) → Q (.free (way t.mask (kh P w k) K) false) s) :
    ∀ (f c : Nat) (stand : Option SetTable.Probe), stand.getD (t.probeStart (kh P w k)) = prb P w t k c → c ≤ K → K - c < f →
      (∀ (i : Nat) p, L[i]? = some p → p.2 = k → ∃ c', c ≤ c' ∧ c' < K ∧ t.place.toList[i]? = some (way t.mask (kh P w k) c')) →
      wpAny (model P w) A (setSearchFrom a (.ref x) (kh P w k) ad f stand) Q E s
  | 0, c, stand, _, _, hf, _ => absurd hf (Nat.not_lt_zero _)
  | f + 1, c, stand, hst, hc, hf, hre => by
    obtain ⟨o, go, gx, gd⟩ := R.ob
    rw [setSearchFrom_succ]
    refine wpAny_bind (wpAny_setState_of go gd R.fit ?_)
    dsimp only
    refine wp_if_neg R.odd ?_
    first
      | refine wpAny_bind (wpAny_pure ?_)
      | skip
    have nod : (prb P w t k c).dummy = none := nth_dummy t.mask c _ rfl
    have sh : ∀ q, nth t.mask (prb P w t k c) q = prb P w t k (c + q) := fun q => (nth_add t.mask c _ q).symm
    have e1 : ∀ q, (nth t.mask (prb P w t k c) q).j = way t.mask (kh P w k) (c + q) := fun q => congrArg SetTable.Probe.j (sh q)
    have spec := go_spec t R.tab.ris R.tab.dm (fun i => (es[i]?.map (·.1)).getD 0) (kh P w k) (10 * SetTable.turns t.mask) (K - c) _ nod (by omega)
      (fun q hq => by rw [e1]; exact busy (c + q) (by omega)) (by rw [e1, show c + (K - c) = K by omega]; exact free)
    have hsh : ∀ (i : Nat) p, L[i]? = some p → (fun i => (es[i]?.map (·.1)).getD 0) i = kh P w p.2 := fun i p hp => by
      show (es[i]?.map (·.1)).getD 0 = _
      rw [R.at hp] <;> rfl
    rcases spec with ⟨q, i, hq, hi, hh, hno, hpr⟩ | ⟨hno, hpr⟩
    · have met : t.probe (fun i => (es[i]?.map (·.1)).getD 0) (kh P w k) (stand.getD (t.probeStart (kh P w k))) = some (.candidate (way t.mask (kh P w k) (c + q)) i (prb P w t k (c + (q + 1)))) := by
        rw [hst, ← e1, ← sh]
        exact hpr
      rw [met]
      dsimp only
      rw [e1] at hi
      have hil : i < L.length := by
        have h1 := (List.getElem?_eq_some_iff.mp hi).1
        rw [Array.length_toList, R.psz] at h1
        exact h1
      have hp : L[i]? = some L[i] := List.getElem?_eq_getElem hil
      generalize L[i] = p at hp
      have hm : p ∈ L := List.mem_of_getElem? hp
      have live : t.slot (way t.mask (kh P w k) (c + q)) = .live i := slot_live R.tab.ris hi
      have rest : wpAny (model P w) A (searchRest a (.ref x) (kh P w k) ad f es t (way t.mask (kh P w k) (c + q)) i (prb P w t k (c + (q + 1)))) Q E s := by
        unfold searchRest
        rw [R.at hp]
        dsimp only
        refine wpAny_bind (wpAny_holding (wpAny_eqBool_tuple hu (TT p hm) hx ?_))
        refine wpAny_bind (wpAny_setState_of go gd R.fit ?_)
        dsimp only
        by_cases both : (ad && decide (p.2 = k)) = true
        · refine wp_if_pos both (wpAny_pure (yes none (fun z => ?_) ?_))
          · rw [z] at both; exact nomatch both
          · exact List.mem_map.mpr ⟨p, hm, of_decide_eq_true (Bool.and_eq_true _ _ ▸ both).2⟩
        · refine wp_if_neg both ?_
          first
            | refine wpAny_bind (wpAny_pure ?_)
            | skip
          rw [sameMem]
          dsimp only
          simp only [if_true, live, R.at hp]
          refine wpAny_bind (wpAny_isSame_ref_self (wpAny_bind (wpAny_pure ?_)))
          simp only [if_true]
          by_cases same : p.2 = k
          · exact wp_if_pos (by simp [same]) (wpAny_pure (yes (some i) (fun _ => rfl) (List.mem_map.mpr ⟨p, hm, same⟩)))
          · refine wp_if_neg (by simp [same]) ?_
            refine look_from R TT hx hu hKf free busy yes no f (c + (q + 1)) _ rfl (by omega) (by omega) fun i0 p0 h0 hk0 => ?_
            obtain ⟨c', a1, a2, a3⟩ := hre i0 p0 h0 hk0
            refine ⟨c', ?_, a2, a3⟩
            rcases Nat.lt_trichotomy c' (c + q) with z | z | z
            · exact (hno (c' - c) i0 (by omega) (by rw [e1, show c + (c' - c) = c' by omega]; exact a3) ((hsh i0 p0 h0).trans (congrArg (kh P w) hk0))).elim
            · rw [z] at a3
              have s0 := live.symm.trans (slot_live R.tab.ris a3)
              injection s0 with s0
              rw [← s0, hp] at h0
              exact absurd ((congrArg Prod.snd (Option.some.inj h0)).trans hk0) same
            · omega
      by_cases hl : t.led = true
      · refine wp_if_neg (by simp [hl]) ?_
        first
          | exact rest
          | exact wpAny_bind (wpAny_pure rest)
      · refine wp_if_pos (by simp [hl]) (wpAny_bind (unseen hx (fun y hy => ?_) ?_))
        · obtain ⟨e, he, ee⟩ := List.mem_map.mp hy
          have he1 : e ∈ es ∧ e.1 = kh P w k := by simpa using he
          have he2 : e ∈ es.toList := by simpa using he1.1
          rw [R.row] at he2
          obtain ⟨p2, hp2, e2⟩ := List.mem_map.mp he2
          exact ⟨p2.2, p2.1, by rw [← ee, ← e2], TT p2 hp2⟩
        · refine wp_if_neg (by decide) ?_
          first
            | exact rest
            | exact wpAny_bind (wpAny_pure rest)
    · have met : t.probe (fun i => (es[i]?.map (·.1)).getD 0) (kh P w k) (stand.getD (t.probeStart (kh P w k))) = some (.empty (way t.mask (kh P w k) K) none) := by
        have e2 : way t.mask (kh P w k) K = (nth t.mask (prb P w t k c) (K - c)).j := by rw [e1, show c + (K - c) = K by omega]
        rw [hst, e2]
        exact hpr
      rw [met]
      dsimp only
      refine wpAny_pure (no fun hm => ?_)
      obtain ⟨p0, h0, hk0⟩ := List.mem_map.mp hm
      obtain ⟨i0, hi0, e0⟩ := List.getElem_of_mem h0
      have h00 : L[i0]? = some p0 := by rw [List.getElem?_eq_getElem hi0, e0]
      obtain ⟨c', a1, a2, a3⟩ := hre i0 p0 h00 hk0
      exact hno (c' - c) i0 (by omega) (by rw [e1, show c + (c' - c) = c' by omega]; exact a3) ((hsh i0 p0 h00).trans (congrArg (kh P w) hk0))
theorem look_at {ad : Bool} (R : SetTK P w s.heap a L es ep t) (TT : ∀ p ∈ L, TupK P w s.heap p.2 p.1) {x : Addr} {k : List Key} (hx : TupK P w s.heap k x) (hu : A.units < cLine) {Q : SetFound → Shared → Prop}
    (yes : ∀ r, (ad = false → r.isSome = true) → k ∈ L.map (·.2) → Q (.there r) s)
    (no : ∀ K, k ∉ L.map (·.2) → way t.mask (kh P w k) K ∉ t.place.toList → (∀ c, c < K → way t.mask (kh P w k) c ∈ t.place.toList) → Q (.free (way t.mask (kh P w k) K) false) s) :
    wpAny (model P w) A (setSearch a (.ref x) (kh P w k) ad) Q E s := by
  have hroom := R.room
  obtain ⟨K, hKf, free, busy⟩ := R.tab.first (by rw [List.length_map]; omega) (kh P w k)
  have small : 10 * SetTable.turns t.mask ≤ 1420 := by
    unfold SetTable.turns
    rcases R.tab.mok with e | e | e <;> omega
  unfold setSearch
  refine look_from R TT hx hu hKf free busy yes (fun hn => no K hn free busy) 100000 0 none rfl (Nat.zero_le _) (by omega) fun i p hp hk => ?_
  have hil : i < t.place.toList.length := by
    rw [Array.length_toList, R.psz]
    exact (List.getElem?_eq_some_iff.mp hp).1
  have hj := List.getElem?_eq_getElem hil
  obtain ⟨c, hc, e⟩ := R.tab.before free (by rw [List.getElem?_map, hp, ← hk] <;> rfl) hj
  exact ⟨c, Nat.zero_le _, hc, by rw [hj, e]⟩
/-! adding -/
theorem tup_same {h h' : Heap} {k : List Key} {a b : Addr} {o : Obj} {es : Array (Int × Value)} {ep : Nat} {t : SetTable} (T : TupK P w h k b) (ho : h.get? a = some o) (hd : o.data = .set es ep t) (sb : Heap.SameBut a h h') : TupK P w h' k b := by
  obtain ⟨z, its, n, go, gc, gd, gi⟩ := T
  have ne : b ≠ a := by
    rintro rfl
    obtain rfl : z = o := Option.some.inj (go.symm.trans ho)
    rw [hd] at gd
    exact nomatch gd
  exact ⟨z, its, n, (sb.2 b ne).trans go, gc, gd, gi⟩
theorem ents_put (L : List (Addr × List Key)) (p : Nat) (x : Addr) (k : List Key) : ents P w (L.take p ++ (x, k) :: L.drop p) = (ents P w L).take p ++ (kh P w k, Value.ref x) :: (ents P w L).drop p := by
  unfold ents
  rw [List.map_append, List.map_cons, List.map_take, List.map_drop]
theorem pick_all {α : Type} (L : List α) : (List.range L.length).filterMap (fun i => L[i]?) = L := by
  have key : ∀ n, n ≤ L.length → (List.range n).filterMap (fun i => L[i]?) = L.take n := by
    intro n
    induction n with
    | zero => exact fun _ => rfl
    | succ n more =>
      intro hn
      rw [List.range_succ, List.filterMap_append, more (Nat.le_of_succ_le hn), List.take_succ, List.getElem?_eq_getElem hn, List.filterMap_cons_some (List.getElem?_eq_getElem hn)] <;> rfl
  rw [key _ (Nat.le_refl _), List.take_length]
theorem ents_order (L : List (Addr × List Key)) (es : Array (Int × Value)) (order : Array Nat) (hr : es.toList = ents P w L) (hp : order.toList.Perm (List.range L.length)) :
    ∃ L2, (order.filterMap (es[·]?)).toList = ents P w L2 ∧ L2.Perm L ∧ (L2.map fun p => kh P w p.2) = order.toList.map fun i => (es.map (·.1)).getD i 0 := by
  have sz := ents_len hr
  have ent : ∀ i (h : i < L.length), es[i]? = some (kh P w (L[i]).2, Value.ref (L[i]).1) := fun i h => by
    rw [← Array.getElem?_toList, hr]
    unfold ents
    rw [List.getElem?_map, List.getElem?_eq_getElem h] <;> rfl
  have key : ∀ l : List Nat, (∀ i ∈ l, i < L.length) → l.filterMap (fun i => es[i]?) = ents P w (l.filterMap (fun i => L[i]?)) ∧ ((l.filterMap (fun i => L[i]?)).map fun p => kh P w p.2) = l.map fun i => (es.map (·.1)).getD i 0 := by
    intro l
    induction l with
    | nil => exact fun _ => ⟨rfl, rfl⟩
    | cons i l more =>
      intro hl
      have hi := hl i List.mem_cons_self
      obtain ⟨e1, e2⟩ := more fun j hj => hl j (.tail _ hj)
      have e4 : (es.map (·.1)).getD i 0 = kh P w (L[i]).2 := by
        have e5 : (es.map (·.1))[i]? = some (kh P w (L[i]).2) := by rw [Array.getElem?_map, ent i hi] <;> rfl
        simp [Array.getD_eq_getD_getElem?, e5]
      rw [List.filterMap_cons_some (List.getElem?_eq_getElem hi), List.filterMap_cons_some (ent i hi), e1, List.map_cons, List.map_cons, e2, e4]
      exact ⟨rfl, rfl⟩
  obtain ⟨e1, e2⟩ := key order.toList fun i hi => List.mem_range.mp (hp.mem_iff.mp hi)
  refine ⟨_, by first | (rw [Array.toList_filterMap]; exact e1) | simpa using e1, ?_, e2⟩
  have h1 := hp.filterMap (fun i => L[i]?)
  rwa [pick_all] at h1
theorem relay_key {o : Obj} (ho : s.heap.get? a = some o) (hex : o.ExactSet) (hd : o.data = .set es ep t) (row : es.toList = ents P w L) (psz : t.place.size = L.length) (hdm : t.dummies = #[]) (hfl : L.length ≤ t.mask)
    (one : (L.map (·.2)).Nodup) (few : L.length < 64) (ld : w.params.followText "set-order" = true ∨ t.led = true) {wanted M : Nat} (hw : SetTable.sizeAbove wanted - 1 = M) (hM : MaskOk M) (hw2 : SetTable.sizeAbove wanted ≤ 128) (hn : L.length * 5 < M * 3) {Q : Unit → Shared → Prop}
    (q : ∀ h' L' es' ep' t', Heap.SameBut a s.heap h' → SetTK P w h' a L' es' ep' t' → L'.Perm L → Q () { s with heap := h' }) : wpAny (model P w) A (setRelay a wanted) Q E s := by
  have sz := ents_len row
  obtain ⟨t', order, e, hp, T, em, el, _, ed⟩ := relaid_ok t (hs := es.map (·.1)) (wanted := wanted) hw hM (by rw [Array.size_map, sz]; omega)
  rw [Array.size_map, sz] at hp
  obtain ⟨L2, r1, r2, r3⟩ := ents_order L es order row hp
  rw [← r3] at T
  have hs2 : (order.filterMap (es[·]?)).size = es.size := by rw [ents_len r1, r2.length_eq, sz]
  rw [setRelay_eq]
  refine wpAny_bind (wpAny_setState_of ho hd (fit_of sz psz hdm hfl) ?_)
  dsimp only
  refine wp_if_neg (by rw [sizeLine_eq]; omega) ?_
  first
    | refine wpAny_bind (wpAny_pure ?_)
    | skip
  rw [e]
  dsimp only
  refine wpAny_bind (wp_if_neg (by rw [hs2]; simp) ?_)
  first
    | refine wpAny_bind (wpAny_pure (wpAny_pure ?_))
    | refine wpAny_pure ?_
  dsimp only
  refine wpAny_storeSet_of ho hd ?_ (by rw [hs2, sz, sizeLine_eq]; omega)
  refine q _ L2 (order.filterMap (es[·]?)) (ep + 1) t' (Heap.SameBut.update ..) ⟨⟨_, store_at ho hd, ⟨hex.1, hex.2.1, hex.2.2⟩, rfl⟩, r1, T, (r2.map (·.2)).nodup_iff.mpr one, ?_, by rw [r2.length_eq]; exact few, by rw [el]; exact ld⟩ r2
  rw [r2.length_eq, em]
  exact hn
theorem add_key (R : SetTK P w s.heap a L es ep t) (TT : ∀ p ∈ L, TupK P w s.heap p.2 p.1) {x : Addr} {k : List Key} (hx : TupK P w s.heap k x) (hu : A.units < cLine) (hfew : L.length + 1 < 64) {Q : Bool → Shared → Prop}
    (q : ∀ b h' L' es' ep' t', Heap.SameBut a s.heap h' → SetTK P w h' a L' es' ep' t' → (k ∈ L.map (·.2) → L' = L) → (k ∉ L.map (·.2) → L'.Perm ((x, k) :: L)) → Q b { s with heap := h' }) :
    wpAny (model P w) A (setAddHashed a (.ref x) (kh P w k)) Q E s := by
  obtain ⟨o, go, gx, gd⟩ := R.ob
  have sz := ents_len R.row
  have room := R.room
  unfold setAddHashed
  refine wpAny_holding ?_
  rw [show (100000 : Nat) = 99999 + 1 from rfl, setAddHashedIn_succ]
  refine wpAny_bind (wpAny_setState_of go gd R.fit ?_)
  dsimp only
  refine wp_if_neg (by simp [byScan, Value.scannable]) ?_
  first
    | refine wpAny_bind (wpAny_pure ?_)
    | skip
  refine wpAny_bind (look_at R TT hx hu (fun r _ hm => ?_) fun K hm free busy => ?_)
  · exact wpAny_pure (q false s.heap L es ep t (Heap.SameBut.refl a s.heap) R (fun _ => rfl) fun z => absurd hm z)
  · dsimp only
    refine wpAny_bind (wpAny_setState_of go gd R.fit ?_)
    dsimp only
    obtain ⟨q1, q2, q3, q4, q5, q6, q7, q8, q9⟩ := R.tab.put free busy
    generalize t.put (way t.mask (kh P w k) K) = pt at q1 q3 q4 q5 q6 q7 q8 q9 ⊢
    obtain ⟨t1, p⟩ := pt
    dsimp only at q1 q3 q4 q5 q6 q7 q8 q9 ⊢
    subst q1
    have ins : (SetTable.insertAt es (SetTable.below t.place (way t.mask (kh P w k) K)) (kh P w k, Value.ref x)).toList = ents P w (L.take (SetTable.below t.place (way t.mask (kh P w k) K)) ++ (x, k) :: L.drop (SetTable.below t.place (way t.mask (kh P w k) K))) := by
      rw [SetTable.toList_insertAt, ents_put, R.row]
    generalize SetTable.below t.place (way t.mask (kh P w k) K) = p at q2 q3 ins ⊢
    have pm := put_perm L p (x, k)
    have hhs : (L.take p ++ (x, k) :: L.drop p).map (fun p => kh P w p.2) = (L.map fun p => kh P w p.2).take p ++ kh P w k :: (L.map fun p => kh P w p.2).drop p := by
      rw [List.map_append, List.map_cons, List.map_take, List.map_drop]
    rw [← hhs] at q3
    generalize L.take p ++ (x, k) :: L.drop p = L1 at pm q3 ins hhs
    have len1 : L1.length = L.length + 1 := pm.length_eq
    have one1 : (L1.map (·.2)).Nodup := (pm.map (·.2)).nodup_iff.mpr (by rw [List.map_cons]; exact List.nodup_cons.mpr ⟨hm, R.one⟩)
    have hes := (ents_len ins).trans len1
    generalize SetTable.insertAt es p (kh P w k, Value.ref x) = es1 at ins hes ⊢
    have body : ∀ t2 : SetTable, t2 = t1 ∨ t2 = { t1 with plain := false } → wpAny (model P w) A (do
        storeSet a es1 t2
        if !false && t2.tooFull then setRelay a (SetTable.grown (es.size + 1))
        return true) Q E s := fun t2 ht2 => by
      have q32 : TabOk t2 (L1.map fun p => kh P w p.2) := by
        rcases ht2 with rfl | rfl
        · exact q3
        · exact ⟨q3.ris, q3.dm, q3.sz, q3.mok, q3.bd, q3.reach⟩
      have q42 : t2.mask = t.mask := by rcases ht2 with rfl | rfl <;> exact q4
      have ld2 : w.params.followText "set-order" = true ∨ t2.led = true := by
        have e : t2.led = t.led := by rcases ht2 with rfl | rfl <;> exact q5
        rw [e]
        exact R.led
      have full : t2.tooFull = t1.tooFull := by rcases ht2 with rfl | rfl <;> rfl
      refine wpAny_bind (wpAny_storeSet_of go gd ?_ (by rw [hes, sizeLine_eq]; omega))
      have sb : Heap.SameBut a s.heap (s.heap.update a (Obj.putSet es1 t2)) := Heap.SameBut.update ..
      have ho1 := store_at (es' := es1) (t' := t2) go gd
      generalize s.heap.update a (Obj.putSet es1 t2) = h1 at sb ho1 ⊢
      have psz2 : t2.place.size = L1.length := by
        have z := q32.sz
        rwa [List.length_map] at z
      have say : t1.tooFull = decide ((L.length + 1) * 5 ≥ t1.mask * 3) := by
        unfold SetTable.tooFull
        rw [q9, List.length_map]
      by_cases hf : t2.tooFull = true
      · first
          | (refine wpAny_bind ?_; refine wp_if_pos (by simp [hf]) ?_)
          | (refine wp_if_pos (by simp [hf]) ?_; refine wpAny_bind ?_)
        have big : (L.length + 1) * 5 ≥ t.mask * 3 := by
          rw [full, say, decide_eq_true_eq, q4] at hf
          exact hf
        rw [sz]
        have two : (t.mask = 7 ∧ L.length = 4) ∨ (t.mask = 31 ∧ L.length = 18) := by
          rcases R.tab.mok with e | e | e
          · exact .inl ⟨e, by rw [e] at big room; omega⟩
          · exact .inr ⟨e, by rw [e] at big room; omega⟩
          · rw [e] at big; omega
        have go2 : ∀ M, SetTable.sizeAbove (SetTable.grown (L.length + 1)) - 1 = M → MaskOk M → SetTable.sizeAbove (SetTable.grown (L.length + 1)) ≤ 128 → (L.length + 1) * 5 < M * 3 →
            wpAny (model P w) A (setRelay a (SetTable.grown (L.length + 1))) (fun _ s' => wpAny (model P w) A (pure true) Q E s') E { s with heap := h1 } := fun M b1 b2 b3 b4 =>
          relay_key (s := { s with heap := h1 }) ho1 ⟨gx.1, gx.2.1, gx.2.2⟩ rfl ins psz2 q32.dm (by rw [len1, q42]; rcases two with ⟨e, e2⟩ | ⟨e, e2⟩ <;> omega) one1 (by rw [len1]; exact hfew) ld2 b1 b2 b3 (by rw [len1]; exact b4)
            fun h2 L2 es2 ep2 t2 sb2 R2 pm2 => wpAny_pure (q true h2 L2 es2 ep2 t2 (sb.trans sb2) R2 (fun z => absurd z hm) fun _ => pm2.trans pm)
        rcases two with ⟨_, e2⟩ | ⟨_, e2⟩
        · exact go2 31 (by rw [e2, size_20]) (.inr (.inl rfl)) (by rw [e2, size_20]; decide) (by omega)
        · exact go2 127 (by rw [e2, size_76]) (.inr (.inr rfl)) (by rw [e2, size_76]; decide) (by omega)
      · first
          | refine wp_if_neg (by simp [hf]) ?_
          | (refine wpAny_bind ?_; refine wp_if_neg (by simp [hf]) ?_; refine wpAny_pure ?_)
        refine wpAny_pure (q true h1 L1 es1 (ep + 1) t2 sb ⟨⟨_, ho1, ⟨gx.1, gx.2.1, gx.2.2⟩, rfl⟩, ins, q32, one1, ?_, by rw [len1]; exact hfew, ld2⟩ (fun z => absurd z hm) fun _ => pm)
        rw [full, say, decide_eq_true_eq, q4] at hf
        rw [len1, q42]
        omega
    by_cases hp1 : t1.plain = true
    · first
        | (refine wpAny_bind ?_; refine wp_if_pos hp1 ?_; refine val_tup hx fun c => ?_)
        | refine wp_if_pos hp1 (wpAny_bind (val_tup hx fun c => ?_))
      cases c
      · exact body _ (.inr rfl)
      · exact body _ (.inl rfl)
    · first
        | (refine wpAny_bind ?_; refine wp_if_neg hp1 ?_; refine wpAny_pure ?_)
        | refine wp_if_neg hp1 (wpAny_bind (wpAny_pure ?_))
      exact body _ (.inl rfl)
end
end L2

namespace L2
open PySem PySem.Spec PyProof.Rows
/-- the set at a: tuples of ints and texts, each with its address -/
def TsO (P : Program) (w : World) (a : Addr) (L : List (Addr × List Key)) : HO := .ext fun h => ∃ es ep t, SetTK P w h a L es ep t
/-- its tuples stand where they stood -/
def TupsIn (H : Hp) (L : List (Addr × List Key)) : Prop := ∀ p ∈ L, H p.1 = some (.tup (p.2.map kV))
/-- the key is among them -/
def hasK (L : List (Addr × List Key)) (k : List Key) : Bool := L.any fun p => decide (p.2 = k)
theorem hasK_iff {L : List (Addr × List Key)} {k : List Key} : hasK L k = true ↔ k ∈ L.map (·.2) := by simp [hasK]
theorem hasK_no {L : List (Addr × List Key)} {k : List Key} (h : k ∉ L.map (·.2)) : hasK L k = false := by
  cases e : hasK L k
  · rfl
  · exact absurd (hasK_iff.mp e) h
section
variable {X : Cx} {P : Program} {w : World}
theorem setTK_move {h h' : Heap} {a : Addr} {L : List (Addr × List Key)} {es : Array (Int × Value)} {ep : Nat} {t : SetTable} (R : SetTK P w h a L es ep t) (k : ∀ o, h.get? a = some o → h'.get? a = some o) : SetTK P w h' a L es ep t := by
  obtain ⟨o, go, r⟩ := R.ob
  exact ⟨⟨o, k o go, r⟩, R.row, R.tab, R.one, R.room, R.few, R.led⟩
theorem tsO_new {H : Hp} {h : Heap} {a : Addr} {L : List (Addr × List Key)} {es : Array (Int × Value)} {ep : Nat} {t : SetTable} (R : SetTK P w h a L es ep t) : ObjOk P w H h a (TsO P w a L) := by
  have ⟨o, go, _⟩ := R.ob
  exact ⟨⟨es, ep, t, R⟩, ⟨o, go⟩, fun h1 h2 ⟨e1, p1, t1, p⟩ k => ⟨e1, p1, t1, setTK_move p k⟩⟩
theorem tsO_get {pins : List (Addr × Obj)} {σ : St} {H : Hp} {s : Shared} {a : Addr} {L : List (Addr × List Key)} (I : Inv X pins σ H s) (ha : H a = some (TsO X.prog X.w a L)) : ∃ es ep t, SetTK X.prog X.w s.heap a L es ep t := (I.hok a _ ha).1
theorem setTK_type {s : Shared} {a : Addr} {L : List (Addr × List Key)} {es : Array (Int × Value)} {ep : Nat} {t : SetTable} (R : SetTK P w s.heap a L es ep t) : s.TypeIs (.ref a) "set" := by
  obtain ⟨o, go, gx, _⟩ := R.ob
  exact ⟨o, go, gx.1⟩
/-- set(), that tuples will be put into -/
def rSet0T (P : Program) (w : World) : List V → Hp → VK → Prop := fun xs H Q => xs = [] ∧ ∀ p, H p = none → Q (.ref p) (upd H p (TsO P w p []))
theorem setTK_nil {h : Heap} {a : Addr} (ho : h.get? a = some { cls := .type "set", dict := none, data := .set #[] 0 (.fresh 0 0 (!w.params.followText "set-order")) }) : SetTK P w h a [] #[] 0 (.fresh 0 0 (!w.params.followText "set-order")) :=
  ⟨⟨_, ho, ⟨rfl, rfl, rfl⟩, rfl⟩, rfl, ⟨.nil, rfl, rfl, .inl rfl, (fun x hx => nomatch hx), fun i h j hi => by simp at hi⟩, .nil, by show 0 * 5 < 7 * 3; decide, by show 0 < 64; decide, by show _ ∨ (!w.params.followText "set-order") = true; cases w.params.followText "set-order" <;> simp⟩
theorem cr_set0T : CallR X (.type "set") (rSet0T X.prog X.w) := by
  intro pins s σ H xs us Q I r h
  obtain ⟨rfl, q⟩ := h
  cases r
  refine setR_new fun _ => ?_
  refine ⟨.ref _, upd H s.heap.objs.size (TsO X.prog X.w s.heap.objs.size []), I.laid (t' := s.toks) (fun b u e => Heap.get?_push_of_some _ e) (Nat.le_refl _) (tsO_new (setTK_nil (Heap.get?_push_size _ rfl))), rfl, q _ (I.hok.fresh (Nat.le_refl _))⟩
theorem tupK_of {pins : List (Addr × Obj)} {σ : St} {H : Hp} {s : Shared} {b : Addr} {k : List Key} (I : Inv X pins σ H s) (e : H b = some (.tup (k.map kV))) : TupK X.prog X.w s.heap k b := key_of I.hok e
/-- s.add(t) -/
def rSAddT (P : Program) (w : World) : V → List V → Hp → VK → Prop := fun x xs H Q => ∃ (a b : Addr) (k : List Key) (L : List (Addr × List Key)), x = V.ref a ∧ xs = [.ref b] ∧ H b = some (.tup (k.map kV)) ∧ H a = some (TsO P w a L) ∧ TupsIn H L ∧ L.length + 1 < 64 ∧
  (k ∈ L.map (·.2) → Q .non (upd H a (TsO P w a L))) ∧ (k ∉ L.map (·.2) → ∀ L', L'.Perm ((b, k) :: L) → Q .non (upd H a (TsO P w a L')))
theorem mt_saddT (hu : X.A.units + 1 < cLine) : MtR X "set.add" (rSAddT X.prog X.w) := by
  intro pins s σ H x xs v us Q I rx rxs h
  obtain ⟨a, b, k, L, rfl, rfl, hb, ha, hL, room, q1, q2⟩ := h
  cases rx
  obtain ⟨u, rfl, ru⟩ := rxs.one
  cases ru
  obtain ⟨es, ep, t, R⟩ := tsO_get I ha
  have T := tupK_of I hb
  refine wpAny_call_entry F.slot_set_add (setTK_type R) F.entry_set_add ?_ (F.args_set_add_2 _ _)
  simp only [Builtin.«set.add», Builtin.Frozenset.oneOther, Builtin.Frozenset.addrOf, setAdd, List.isEmpty_nil, bind_assoc]
  refine wpAny_bind (wpAny_pure (wpAny_bind (wpAny_pure (wpAny_bind (wpAny_holding (wpAny_bind (wpAny_pyHash_tuple (A := X.A.in1) hu T ?_)))))))
  refine add_key (s := { s with toks := s.toks + (k.length + 1) }) R (fun p hp => tupK_of (s := s) I (hL p hp)) T (by exact hu) room fun c h' L' es' ep' t' sb R' y n => ?_
  show wpAny _ _ (ret Value.none) _ _ _
  refine wpAny_pure ⟨_, rfl, ?_⟩
  have he : ∃ u, h'.get? a = some u := by
    have ⟨o, go, _⟩ := R'.ob
    exact ⟨o, go⟩
  refine ⟨.non, upd H a (TsO X.prog X.w a L'), I.write (e := a) (t' := s.toks + (k.length + 1)) (by rw [ha]; trivial) (.inl rfl) (fun b u hb hu => (sb.2 b hb).trans hu) he (tsO_new R'), rfl, ?_⟩
  by_cases m : k ∈ L.map (·.2)
  · rw [y m]; exact q1 m
  · exact q2 m L' (n m)
def tSAddT (P : Program) (w : World) (to : TE) (t : TA) : TE := fun σ H Q => to σ H fun x H1 => (∃ a L, x = V.ref a ∧ H1 a = some (TsO P w a L)) ∧ t σ H1 fun xs H2 => rSAddT P w x xs H2 Q
theorem pe_saddT {o e : Expr} {es : List Expr} {to : TE} {t : TA} {apos cpos : Pos} (hu : X.A.units + 1 < cLine) (ho : PE X o to) (ha : PA X (e :: es) t)
    (h1 : attributeBase o "add" X.env (eval o X.env) = eval o X.env := by rfl)
    (h2 : ((backTo cpos (starEach (e :: es) X.env)).all (fun x => !x.1) && (backToKw cpos (keywordEach [] X.env)).all (fun x => x.1.isSome) && decide ((e :: es).length + ([] : List Keyword).length + (if ([] : List Keyword).isEmpty then 0 else 1) < 30)) = true := by rfl)
    (h3 : (apos.endLine == cpos.line) = true := by rfl) (h4 : starEach (e :: es) X.env = (false, eval e X.env) :: starEach es X.env := by rfl) (h5 : (backTo cpos (starEach es X.env)).any (·.1) = false := by rfl) :
    PE X (.Call (.Attribute o "add" apos) (e :: es) [] cpos) (tSAddT X.prog X.w to t) := by
  refine ⟨fun pins s σ H Q I h => ?_⟩
  refine wpAny_Call_method_late h1 h2 h3 rfl (thn (ho.run pins s σ H _ I h) fun v s1 ⟨x, H1, I1, r1, ty, q1⟩ => ?_)
  obtain ⟨a, L, rfl, hka⟩ := ty
  obtain ⟨ee, ep, tt, R⟩ := tsO_get I1 hka
  cases r1
  refine ⟨"set", "set.add", F.plainAttrs_set, F.slot_set_add, F.type_set_add, setTK_type R, (fun b e => ?_), ?_⟩
  · injection e with e
    subst e
    have ⟨o, go, gx, _⟩ := R.ob
    exact ⟨o, go, gx.2.1⟩
  have hA := ha.run cpos pins s1 σ H1 _ I1 q1
  rw [h4] at hA ⊢
  refine Calls.callWith_builtin (by show (false || (backTo cpos (starEach es X.env)).any (·.1)) = false; rw [h5] <;> rfl) (Calls.evalArgs_plain ?_)
  exact thn hA fun us s2 ⟨vs, H2, I2, r2, q2⟩ => mt_saddT hu pins s2 σ H2 (.ref a) vs (.ref a) us Q I2 rfl r2 q2
/-- t in s -/
def rSInT (P : Program) (w : World) : V → V → Hp → VK → Prop := fun x y H Q => ∃ (a b : Addr) (k : List Key) (L : List (Addr × List Key)), x = .ref b ∧ y = .ref a ∧ H b = some (.tup (k.map kV)) ∧ H a = some (TsO P w a L) ∧ TupsIn H L ∧ Q (.bl (hasK L k)) H
theorem find_key {A : Around} {E : Value → Shared → Prop} {s : Shared} {a : Addr} {L : List (Addr × List Key)} {es : Array (Int × Value)} {ep : Nat} {t : SetTable} (R : SetTK P w s.heap a L es ep t) (TT : ∀ p ∈ L, TupK P w s.heap p.2 p.1) {x : Addr} {k : List Key} (hx : TupK P w s.heap k x) (hu : A.units < cLine) {Q : Option Nat → Shared → Prop}
    (q : ∀ r : Option Nat, r.isSome = hasK L k → Q r s) : wpAny (model P w) A (setFind a (.ref x) (kh P w k)) Q E s := by
  obtain ⟨o, go, gx, gd⟩ := R.ob
  unfold setFind setFindIn
  refine wpAny_bind (wpAny_setState_of go gd R.fit ?_)
  dsimp only
  refine wp_if_neg (by simp [byScan, Value.scannable]) ?_
  first
    | refine wpAny_bind (wpAny_pure ?_)
    | skip
  refine wpAny_bind (look_at (ad := false) R TT hx hu (fun r hr m => ?_) fun K m _ _ => ?_)
  · exact wpAny_pure (q r (by rw [hr rfl, hasK_iff.mpr m]))
  · exact wpAny_pure (q none (by rw [hasK_no m] <;> rfl))
/-- x in s, s a set: the set's own __contains__ is asked -/
theorem set_asked {A : Around} {E : Value → Shared → Prop} {s : Shared} {a b : Addr} {Q : Bool → Shared → Prop} (ty : s.TypeIs (.ref a) "set") (h : ∀ X, wpAny (model P w) A.in1 (setContains a (.ref b)) Q X s) : wpAny (model P w) A (contains (.ref a) (.ref b)) Q E s := by
  have own : ¬ (some (Value.builtin "set.__contains__") == some Value.none) = true := by rw [beq_builtin_none]; exact Bool.false_ne_true
  refine wpAny_holding ?_
  refine wpAny_bind (wpAny_specialOf ty F.slot_set_contains.lookup ?_)
  refine wp_if_neg own (wpAny_bind (wpAny_callSpecialUnlessNone?_slot (name := Str.ofString "__contains__") ty F.slot_set_contains (wpAny_call_entry F.slot_set_contains ty entry_set_contains ?_ (F.args_set_contains_2 _ _))))
  simp only [Builtin.«frozenset.__contains__», Builtin.Frozenset.oneOther, Builtin.Frozenset.addrOf, Builtin.Frozenset.withSetAsKey, List.isEmpty_nil, bind_assoc]
  exact wpAny_bind (wpAny_pure (wpAny_bind (wpAny_pure (wpAny_bind (wpAny_tryCatch (wpAny_mono (h _) (fun r z q => wpAny_pure ⟨_, rfl, wpAny_truthy_bool q⟩) fun _ _ q => q))))))
theorem or_sinT (hu : X.A.units + 1 < cLine) : OpR X (compareOp .In) (rSInT X.prog X.w) := by
  intro pins s σ H x y v u Q I rx ry h
  obtain ⟨a, b, k, L, rfl, rfl, hb, ha, hL, q⟩ := h
  cases rx
  cases ry
  obtain ⟨es, ep, t, R⟩ := tsO_get I ha
  have T := tupK_of I hb
  have ty := setTK_type R
  refine wpAny_bind (set_asked ty fun _ => wpAny_holding (wpAny_bind (wpAny_pyHash_tuple (A := X.A.in1) hu T ?_)))
  refine wpAny_bind (find_key (s := { s with toks := s.toks + (k.length + 1) }) R (fun p hp => tupK_of (s := s) I (hL p hp)) T (by exact hu) fun r hr => ?_)
  exact wpAny_pure (wpAny_pure ⟨.bl (hasK L k), H, I.tok _, by rw [hr]; rfl, q⟩)
/-- len(s), a set of ints and texts -/
def rLenSK (P : Program) (w : World) : List V → Hp → VK → Prop := fun xs H Q => ∃ (a : Addr) (S : Key → Bool) (n : Nat), xs = [.ref a] ∧ H a = some (SetK P w a S n) ∧ Q (.int n) H
theorem call_lenSK : CallR X (.builtin "len") (rLenSK X.prog X.w) := by
  intro pins s σ H xs us Q I r h
  obtain ⟨a, S, n, rfl, ha, q⟩ := h
  rw [Vals.ref1 r]
  obtain ⟨o, es, ep, t, ho, hex, hd, _, _, hb, hf, hn⟩ := setK_get I ha
  have hb' : es.size < 4096 := hb
  refine call_len_set ho hex hd hf (by omega) ⟨.int n, H, I.tok _, ⟨_, by rw [hn]⟩, q⟩
end
end L2

/-! set(l) of a list: the shell, and the loop that puts the items in -/
namespace L2
open PySem PySem.Froz PyProof.Rows PySem.Spec
section
variable {P : Program} {w : World} {A : Around} {E : Value → Shared → Prop} {s : Shared}
/-- the set that set() begins with -/
def bareSet (w : World) : Obj := { cls := .type "set", dict := none, data := .set #[] 0 (.fresh 0 0 (!w.params.followText "set-order")) }
/-- set(l): what the loop that puts the items in makes of the bare set is the set -/
theorem set_made {l : Addr} {xs : Array Value} {Q : Value → Shared → Prop} (Gd : Heap → Prop) (hl : s.heap.IsList l xs) (hh : A.handled = none)
    (loop : ∀ B : Around, B.handled = none → codeAny (model P w) B (.builtin "set.update.loop" ⟨[.ref s.heap.objs.size, .ref (s.heap.objs.size + 1)], []⟩)
      (fun r z => r = .ok (.ret .none) ∧ ∃ h' tk, z = { s with heap := h', toks := tk } ∧ Gd h' ∧ ∀ b o, s.heap.get? b = some o → h'.get? b = some o)
      { s with heap := (s.heap.push (bareSet w)).push { cls := .type "list_iterator", data := .fields #[.ref l, .int 0 0] } })
    (q : ∀ h' tk, Gd h' → (∀ b o, s.heap.get? b = some o → h'.get? b = some o) → Q (.ref s.heap.objs.size) { s with heap := h', toks := tk }) : wpAny (model P w) A (call (.type "set") [.ref l]) Q E s := by
  obtain ⟨c, tl, hmro⟩ := F.called_set.mro
  have f1 := F.called_set.made
  have f2 := F.called_set.sub
  have f3 := F.called_set.notType
  have f4 := F.called_set.canCreate
  have f5 := F.typeCall_set_1 (.ref l)
  refine wpAny_call (codeAny_of_tree (?_ : wpAny _ _ (callAny (.type "set") _) _ _ _))
  refine wpAny_pure ⟨Code.quiet_builtin _ (by decide +kernel), codeAny_builtin F.entry_type_call ?_⟩
  rw [Around.under_plain (weight_type_call_type "set" [.ref l] []) rfl]
  repeat (any_goals (first | assumption | wp_step))
  refine codeAny_mono (code_set_led1 (.ref l) (E := E) (Q₁ := fun v z => v = .ref s.heap.objs.size ∧ z = { s with heap := s.heap.push (bareSet w) }) ⟨rfl, rfl⟩) fun r z hr => ?_
  match r, hr with
  | .error e, hr => exact hr
  | .ok .next, hr => exact hr.elim
  | .ok .brk, hr => exact hr.elim
  | .ok .cont, hr => exact hr.elim
  | .ok (.ret v), hr =>
    obtain ⟨rfl, rfl⟩ := hr
    have own : (s.heap.push (bareSet w)).get? s.heap.objs.size = some (bareSet w) := Heap.get?_push_size _ rfl
    have ty : Shared.TypeIs { s with heap := s.heap.push (bareSet w) } (.ref s.heap.objs.size) "set" := ⟨_, own, rfl⟩
    have f6 := F.called_set.init.lookup
    have f7 := F.called_set.init.bind (.ref s.heap.objs.size)
    repeat (any_goals (first | assumption | wp_step))
    refine codeAny_mono (codeAny_call_builtin (R := wants (fun v z => v = .none ∧ ∃ h' tk, z = { s with heap := h', toks := tk } ∧ Gd h' ∧ ∀ b o, s.heap.get? b = some o → h'.get? b = some o) E) F.called_set.init.plain F.entry_set_init (check_set_init_1 ty ?init)) fun r2 z2 hr2 => ?_
    case init =>
      obtain ⟨⟨cl, dc, dt, sl⟩, g, gc, n, gd⟩ := hl
      simp only at gc gd
      subst gc gd
      have g1 : (s.heap.push (bareSet w)).get? l = some ⟨.type "list", dc, .seq xs n, sl⟩ := Heap.get?_push_of_some _ g
      have li : (s.heap.push (bareSet w)).IsList l xs := ⟨_, g1, rfl, n, rfl⟩
      have k1 := F.sub_list_set
      have k2 := F.sub_list_frozenset
      have k3 : (Value.type "list" == Value.type "dict") = false := by decide
      unfold Builtin.«set.__init__» noKeywords Builtin.Frozenset.updateFrom
      generalize hi : pyIter = PI
      wp_walk
      subst hi
      refine wpAny_pyIter_list li (wpAny_bind (wpAny_runValue ?_))
      have lo := loop A.in1.in1 (by simp [hh])
      rw [Heap.size_push]
      refine codeAny_mono lo fun r3 z3 h3 => ?_
      obtain ⟨rfl, h', tk, rfl, gd, keep⟩ := h3
      exact wpAny_pure (wpAny_pure ⟨rfl, h', tk, rfl, gd, keep⟩)
    match r2, hr2 with
    | .error e, hr2 => exact hr2
    | .ok .next, hr2 => exact hr2.elim
    | .ok .brk, hr2 => exact hr2.elim
    | .ok .cont, hr2 => exact hr2.elim
    | .ok (.ret v), hr2 =>
      obtain ⟨rfl, h', tk, rfl, gd, keep⟩ := hr2
      repeat (any_goals (first | assumption | wp_step))
      exact q h' tk gd keep
/-- the loop over a list: J tells what the set at S is behind i items -/
theorem fill_list {S I l : Addr} {items : Array Value} (J : Nat → Heap → Prop) (calm : A.handled = none) (apart : S ≠ I ∧ S ≠ l ∧ l ≠ I) (stay : ∀ i h h', (∀ o, h.get? S = some o → h'.get? S = some o) → J i h → J i h')
    (add : ∀ i x (z : Shared) (Q : Bool → Shared → Prop) (X : Value → Shared → Prop), items[i]? = some x → J i z.heap → (∀ b h', Heap.SameBut S z.heap h' → J (i + 1) h' → Q b { z with heap := h', toks := z.toks + 1 }) → wpAny (model P w) A.in1 (setAdd S x) Q X z) :
    ∀ (n i : Nat) (z : Shared), n + i = items.size → z.heap.IsListIter I l i → z.heap.IsList l items → J i z.heap → codeAny (model P w) A (.builtin "set.update.loop" ⟨[.ref S, .ref I], []⟩)
      (fun r y => r = .ok (.ret .none) ∧ ∃ h' tk, y = { z with heap := h', toks := tk } ∧ J items.size h' ∧ ∀ b o, b ≠ S → b ≠ I → z.heap.get? b = some o → h'.get? b = some o) z := by
  intro n
  induction n with
  | zero =>
    intro i z en it li j
    obtain rfl : i = items.size := by omega
    exact codeAny_builtin F.entry_set_update_loop ((Around.under_plainId F.plain_set_update_loop _).symm ▸ wpAny_bind (wpAny_pyNext_list_end calm it li (Array.getElem?_eq_none (Nat.le_refl _)) fun h' ext => wpAny_pure ⟨rfl, h', z.toks, rfl, stay _ _ _ (fun o e => ext S o apart.1 e) j, fun b o _ bI e => ext b o bI e⟩))
  | succ n more =>
    intro i z en it li j
    have lt : i < items.size := by omega
    refine codeAny_builtin F.entry_set_update_loop ((Around.under_plainId F.plain_set_update_loop _).symm ▸ wpAny_bind (wpAny_pyNext_list_item it li (Array.getElem?_eq_getElem lt) fun h1 it1 sb1 => ?_))
    refine wpAny_bind (wpAny_holding (add i _ { z with heap := h1 } _ _ (Array.getElem?_eq_getElem lt) (stay _ _ _ (fun o e => (sb1.2 S apart.1).trans e) j) fun b h2 sb2 j2 => wpAny_pure ⟨plainId_quiet F.plain_set_update_loop _, ?_⟩))
    have li1 : h1.IsList l items := li.at fun o e => (sb1.2 l apart.2.2).trans e
    refine codeAny_mono (more (i + 1) { z with heap := h2, toks := z.toks + 1 } (by omega) (it1.at fun o e => (sb2.2 I (Ne.symm apart.1)).trans e) (li1.at fun o e => (sb2.2 l (Ne.symm apart.2.1)).trans e) j2) ?_
    rintro r y ⟨rfl, h', tk, rfl, jn, far⟩
    exact ⟨rfl, h', tk, rfl, jn, fun b o bS bI e => far b o bS bI ((sb2.2 b bS).trans ((sb1.2 b bI).trans e))⟩
end
end L2

/-! sets of texts, made of a list; sorted of them -/
namespace L2
open PySem PySem.Spec PyProof.Rows PySem.Froz
/-- the payload of a set of the texts l -/
structure TxS (P : Program) (w : World) (D : SD) (l : List Str) : Prop where
  ok : TxOk P w D l
  one : l.Nodup
  ris : Ris D.2.2.place.toList
  led : w.params.followText "set-order" = true ∨ D.2.2.led = true
section
variable {P : Program} {w : World} {A : Around} {E : Value → Shared → Prop} {s : Shared}
theorem add_tab (D : SD) (h : Int) (v : Value) (r : Ris D.2.2.place.toList) : Ris (addTx h v D).2.2.place.toList ∧ (addTx h v D).2.2.led = D.2.2.led := by
  obtain ⟨es, ep, t⟩ := D
  have a1 := layNew_ris t es h v r
  have a2 := layNew_led t es h v
  unfold addTx
  dsimp only
  generalize layNew t es h v = L at a1 a2
  obtain ⟨es1, t1, wd, gv⟩ := L
  dsimp only at a1 a2 ⊢
  have b1 : Ris (if t1.plain = true then { t1 with plain := false } else t1).place.toList := by split <;> exact a1
  have b2 : (if t1.plain = true then { t1 with plain := false } else t1).led = t.led := by split <;> exact a2
  generalize (if t1.plain = true then { t1 with plain := false } else t1) = t2 at b1 b2
  unfold tailTx
  split
  · exact ⟨relayAll_ris _ _ _, (relayAll_led _ _ _).trans b2⟩
  · exact ⟨b1, b2⟩
theorem TxS.more {D : SD} {l : List Str} (R : TxS P w D l) {k : Str} (u : Tok) (hk : k ∉ l) : TxS P w (addTx (hashStr w k) (.str k u) D) (k :: l) := by
  obtain ⟨a, b⟩ := add_tab D (hashStr w k) (.str k u) R.ris
  exact ⟨add_ok u R.ok, List.nodup_cons.mpr ⟨hk, R.one⟩, a, by rw [b]; exact R.led⟩
/-- adding a text that is there -/
theorem add_there {a : Addr} {D : SD} {l : List Str} {k : Str} {u : Tok} {Q : Bool → Shared → Prop} (ho : s.heap.get? a = some (sObj "set" D)) (F : TxOk P w D l) (hk : k ∈ l) (hb : l.length < scanBound) (q : Q false s) :
    wpAny (model P w) A (setAddHashed a (.str k u) (hashStr w k)) Q E s := by
  obtain ⟨es, ep, t⟩ := D
  have gd : (sObj "set" (es, ep, t)).data = .set es ep t := rfl
  have gf : t.fits es.size = true := F.fit
  have gel : ElemsOf (strKind P w) es.toList := F.el
  have gsz : es.size = l.length := F.sz
  have gk : (strKind P w).is k (.str k u) = true := is_str k u
  obtain ⟨j, hj⟩ : ∃ j, List.findIdx? (fun e => (strKind P w).is k e.2) es.toList = some j := by
    cases hr : List.findIdx? (fun e => (strKind P w).is k e.2) es.toList with
    | some j => exact ⟨j, rfl⟩
    | none =>
      obtain ⟨e, he, z⟩ := (F.mem k).mp hk
      have z' := List.findIdx?_eq_none_iff.mp hr e he
      rw [z] at z'
      exact nomatch z'
  unfold setAddHashed setAddHashedIn
  refine wpAny_holding (wpAny_bind (wpAny_setState_of ho gd gf ?_))
  dsimp only
  rw [byScan_of rfl (by omega) gel]
  simp only [↓reduceIte]
  unfold setAddByScan
  refine wpAny_bind (wpAny_bind (wpAny_rule ?_))
  refine wpAny_bind (wpAny_setScan_of (knd := strKind P w) (k := k) gk ho gd gf gel ?_)
  rw [hj]
  dsimp only
  exact wpAny_pure (wpAny_pure q)
/-- a text is put in, be it there or not -/
theorem add_text {S : Addr} {D : SD} {l : List Str} {x : Str} {u : Tok} {Q : Bool → Shared → Prop} (at_ : s.heap.get? S = some (sObj "set" D)) (T : TxS P w D l) (few : l.length + 1 < scanBound)
    (q : ∀ b h' D' l', Heap.SameBut S s.heap h' → h'.get? S = some (sObj "set" D') → TxS P w D' l' → l'.length ≤ l.length + 1 → (∀ z, z ∈ l' ↔ z = x ∨ z ∈ l) → Q b { s with heap := h', toks := s.toks + 1 }) :
    wpAny (model P w) A (setAdd S (.str x u)) Q E s := by
  refine wpAny_holding (wpAny_bind ((strKind P w).pyHash (is_str x u) ?_))
  by_cases there : x ∈ l
  · refine add_there (s := { s with toks := s.toks + 1 }) at_ T.ok there (by omega) (q _ s.heap D l (Heap.SameBut.refl S _) at_ T (by omega) fun z => ⟨.inr, ?_⟩)
    rintro (rfl | h)
    · exact there
    · exact h
  · exact add_x (s := { s with toks := s.toks + 1 }) at_ T.ok there few (q _ _ _ (x :: l) (Heap.SameBut.update ..) (get_upd _ at_ rfl) (T.more u there) (Nat.le_refl _) fun z => List.mem_cons)
/-- set(xs), xs a list of texts -/
theorem set_texts {l : Addr} {items : Array Value} (xs : List Str) {Q : Value → Shared → Prop} (hh : A.handled = none) (hl : s.heap.IsList l items) (hit : StrsAre items.toList xs) (few : xs.length < 64)
    (q : ∀ (h' : Heap) (tk : Nat) D ys, h'.get? s.heap.objs.size = some (sObj "set" D) → TxS P w D ys → ys.length ≤ xs.length → (∀ z, z ∈ ys ↔ z ∈ xs) → (∀ b o, s.heap.get? b = some o → h'.get? b = some o) → Q (.ref s.heap.objs.size) { s with heap := h', toks := tk }) :
    wpAny (model P w) A (call (.type "set") [.ref l]) Q E s := by
  have size : items.size = xs.length := by rw [← Array.length_toList]; exact hit.length
  have low : l < s.heap.objs.size := let ⟨_, g, _⟩ := hl; Heap.lt_size g
  have led : w.params.followText "set-order" = true ∨ (!w.params.followText "set-order") = true := by cases w.params.followText "set-order" <;> simp
  refine set_made (fun h' => ∃ D ys, h'.get? s.heap.objs.size = some (sObj "set" D) ∧ TxS P w D ys ∧ ys.length ≤ items.size ∧ ∀ z, z ∈ ys ↔ z ∈ xs.take items.size) hl hh (fun B hB => ?_) fun h' tk ⟨D, ys, g, T, le, mem⟩ keep => ?_
  · have top : ((s.heap.push (bareSet w)).push { cls := .type "list_iterator", data := .fields #[.ref l, .int 0 0] }).get? (s.heap.objs.size + 1) = some { cls := .type "list_iterator", data := .fields #[.ref l, .int 0 0] } := by
      rw [← Heap.size_push s.heap (bareSet w)]
      exact Heap.get?_push_size _ rfl
    refine codeAny_mono (fill_list (A := B) (fun i h => ∃ D ys, h.get? s.heap.objs.size = some (sObj "set" D) ∧ TxS P w D ys ∧ ys.length ≤ i ∧ ∀ z, z ∈ ys ↔ z ∈ xs.take i) hB ⟨Nat.ne_of_lt (Nat.lt_succ_self _), Nat.ne_of_gt low, Nat.ne_of_lt (Nat.lt_succ_of_lt low)⟩
      (fun i h h' k ⟨D, ys, g, r⟩ => ⟨D, ys, k _ g, r⟩) (fun i x z Q' X hx ⟨D, ys, g, T, le, mem⟩ k => ?_) items.size 0 _ rfl ⟨_, top, rfl, rfl⟩ ((hl.push _).push _) ?_) ?_
    · have lt : i < xs.length := by rw [← size]; exact (Array.getElem?_eq_some_iff.mp hx).1
      obtain ⟨t, e⟩ := SS.strs_at hit i x (by rw [Array.getElem?_toList]; exact hx)
      have e' : x = .str xs[i] t := by rw [e, List.getD_eq_getElem?_getD, List.getElem?_eq_getElem lt] <;> rfl
      rw [e']
      refine add_text g T (by unfold scanBound; omega) fun b h' D' l' sb g' T' le' mem' => k b h' sb ⟨D', l', g', T', by omega, fun z => ?_⟩
      rw [mem', mem, take_next (List.getElem?_eq_getElem lt), List.mem_append, List.mem_singleton, or_comm]
    · exact ⟨(#[], 0, .fresh 0 0 (!w.params.followText "set-order")), [], Heap.get?_push_of_some _ (Heap.get?_push_size _ rfl), ⟨TxOk.nil rfl, .nil, .nil, led⟩, Nat.le_refl _, fun z => by rw [List.take_zero]⟩
    · rintro r y ⟨rfl, h', tk, rfl, J, far⟩
      exact ⟨rfl, h', tk, rfl, J, fun b o e => far b o (Nat.ne_of_lt (Heap.lt_size e)) (Nat.ne_of_lt (Nat.lt_succ_of_lt (Heap.lt_size e))) (Heap.get?_push_of_some _ (Heap.get?_push_of_some _ e))⟩
  · refine q h' tk D ys g T (by rw [← size]; exact le) (fun z => ?_) keep
    rw [mem, size, List.take_length]
end
end L2

namespace L2
open PySem PySem.Spec PyProof.Rows PySem.Froz
/-- a set of the texts l -/
def TxO (P : Program) (w : World) (a : Addr) (l : List Str) : HO := .ext fun h => ∃ D, h.get? a = some (sObj "set" D) ∧ TxS P w D l
section
variable {X : Cx} {P : Program} {w : World} {A : Around} {E : Value → Shared → Prop} {s : Shared}
theorem txO_new {H : Hp} {h : Heap} {a : Addr} {l : List Str} {D : SD} (g : h.get? a = some (sObj "set" D)) (T : TxS P w D l) : ObjOk P w H h a (TxO P w a l) :=
  ⟨⟨D, g, T⟩, ⟨_, g⟩, fun h1 h2 ⟨D', g', T'⟩ k => ⟨D', k _ g', T'⟩⟩
/-- set(xs), xs a list of texts -/
def rSetTx (K : PySem.W.Frag) (P : Program) (w : World) : List V → Hp → VK → Prop := fun vs H Q => ∃ (p : Addr) (xs : List Str), vs = [.ref p] ∧ SqL K H p (xs.map V.str) ∧ xs.length < 64 ∧
  ∀ (a : Addr) (l : List Str), l.Nodup → (∀ z, z ∈ l ↔ z ∈ xs) → l.length ≤ xs.length → H a = none → Q (.ref a) (upd H a (TxO P w a l))
theorem cr_setTx (hc : X.calm = true) : CallR X (.type "set") (rSetTx X.K X.prog X.w) := by
  intro pins s σ H vs us Q I r h
  obtain ⟨p, xs, rfl, hs, few, q⟩ := h
  obtain ⟨its, rv, hl, _⟩ := I.list hs
  rw [Vals.ref1 r]
  refine set_texts xs (I.ok.hd hc) hl.isList (by simpa using rv.strs) few fun h' tk D ys g T hlen hm keep => ?_
  exact ⟨.ref _, upd H s.heap.objs.size (TxO X.prog X.w s.heap.objs.size ys), I.laid (t' := tk) (fun b u e => keep b u e) (Nat.le_refl _) (txO_new g T), rfl, q _ ys T.one hm hlen (I.hok.fresh (Nat.le_refl _))⟩
theorem texts_of {D : SD} {l : List Str} (T : TxOk P w D l) : ∃ ss, StrsAre (D.1.toList.map (·.2)) ss ∧ (∀ z, z ∈ ss ↔ z ∈ l) ∧ ss.length = l.length := by
  have key : ∀ es : List (Int × Value), ElemsOf (strKind P w) es → ∃ ss, StrsAre (es.map (·.2)) ss ∧ (∀ z, z ∈ ss ↔ ∃ e ∈ es, (strKind P w).is z e.2 = true) ∧ ss.length = es.length := by
    intro es
    induction es with
    | nil => exact fun _ => ⟨[], .nil, fun z => by simp, rfl⟩
    | cons e es more =>
      intro h
      obtain ⟨ss, h1, h2, h3⟩ := more h.tail
      obtain ⟨⟨k, hk, _⟩, _⟩ := h.head
      obtain ⟨t, et⟩ := Value.isStrOf_shape (x := k) (v := e.2) hk
      refine ⟨k :: ss, by rw [List.map_cons, et]; exact .cons k t h1, fun z => ?_, by rw [List.length_cons, List.length_cons, h3]⟩
      rw [List.mem_cons, h2 z]
      constructor
      · rintro (rfl | ⟨f, hf, q⟩)
        · exact ⟨e, List.mem_cons_self, hk⟩
        · exact ⟨f, .tail _ hf, q⟩
      · rintro ⟨f, hf, q⟩
        rcases List.mem_cons.mp hf with rfl | hf
        · exact .inl ((strKind P w).inj f.2 z k q hk)
        · exact .inr ⟨f, hf, q⟩
  obtain ⟨ss, h1, h2, h3⟩ := key D.1.toList T.el
  exact ⟨ss, h1, fun z => (h2 z).trans (T.mem z).symm, by rw [h3, Array.length_toList, T.sz]⟩
/-- as many different ones as there are: one order of the others -/
theorem perm_of_len {α : Type} [DecidableEq α] : ∀ {l m : List α}, l.Nodup → (∀ z, z ∈ l → z ∈ m) → m.length ≤ l.length → m.Perm l
  | [], [], _, _, _ => .nil
  | [], _ :: _, _, _, h => absurd h (by simp)
  | x :: l, m, hn, hs, hle => by
    have hx := hs x List.mem_cons_self
    obtain ⟨n1, n2⟩ := List.nodup_cons.mp hn
    have hm := List.perm_cons_erase hx
    have hlen := hm.length_eq
    rw [List.length_cons] at hlen hle
    refine hm.trans (.cons x (perm_of_len n2 (fun z hz => ?_) (by omega)))
    have hne : z ≠ x := fun e => n1 (e ▸ hz)
    exact (List.mem_erase_of_ne hne).mpr (hs z (.tail _ hz))
/-- sorted(s), s a set of texts -/
def rSortTx (P : Program) (w : World) : List V → Hp → VK → Prop := fun vs H Q => ∃ (a : Addr) (l : List Str), vs = [.ref a] ∧ H a = some (TxO P w a l) ∧ l.length < 64 ∧
  ∀ (ys : List Str) (p : Addr), ys.Perm l → sortedS ys = true → H p = none → Q (.ref p) (upd H p (.lst (ys.map V.str)))
theorem cr_sortTx (hc : X.calm = true) : CallR X (.builtin "sorted") (rSortTx X.prog X.w) := by
  intro pins s σ H vs us Q I r h
  obtain ⟨a, l, rfl, ha, few, q⟩ := h
  obtain ⟨D, g, T⟩ : ∃ D, s.heap.get? a = some (sObj "set" D) ∧ TxS X.prog X.w D l := (I.hok a _ ha).1
  rw [Vals.ref1 r]
  obtain ⟨es, ep, t⟩ := D
  have sz : es.size = l.length := T.ok.sz
  obtain ⟨ss, s1, s2, s3⟩ := texts_of T.ok
  refine Calls.call_function_entry kind_sorted plain_sorted entry_sorted (args_sorted1 _) ?_
  unfold Builtin.«sorted»
  refine wpAny_bind (m := checkCount "sorted" 1 1 _) (wpAny_pure ?_)
  refine wpAny_bind (collect_set (A := X.A.in1) (I.ok.hd hc) ⟨_, g, rfl, rfl⟩ T.ok.fit (by show es.size < 4096; omega) T.ris T.led fun z vs keep hz g1 o1 pm => ?_)
  have vlen : vs.length = l.length := by rw [pm.length_eq, List.length_map, Array.length_toList, sz]
  obtain ⟨ss', p1, p2⟩ : ∃ ss', StrsAre vs ss' ∧ ss'.Perm ss := by
    refine ⟨vs.map strOf, strsAre_map vs fun v hv => s1.all _ (pm.mem_iff.mp hv), ?_⟩
    have e := pm.map strOf
    rwa [s1.strs] at e
  have pl : ss.Perm l := perm_of_len T.one (fun z hz => (s2 z).mpr hz) (Nat.le_of_eq s3)
  refine wpAny_bind (wpAny_newList ?_ (by rw [vlen, sizeLine_eq]; omega))
  have hoL : (z.heap.push (seqObj "list" vs.toArray 0)).get? z.heap.objs.size = some (seqObj "list" vs.toArray 0) := Heap.get?_push_size _ rfl
  refine wpAny_bind (wpAny_holding (wpAny_call_entry slot_list_sort ⟨_, hoL, rfl⟩ entry_list_sort (list_sort_treeKAny strKind_oneLt hoL p1.keysOf (fun v₁ v₂ rest e => keyKind_strs (by rw [← e]; exact p1)) (by rw [vlen, sizeLine_eq]; omega) fun st' a1 a2 => ⟨_, rfl, ?_⟩) (args_list_sort _)))
  obtain ⟨ys, b1, b2, b3⟩ := sorted_out_str p1 a1 a2
  obtain ⟨c, hcn⟩ := sortedHeap_at (vs := vs) (out := (arrOf st').map (·.2)) hoL
  refine wpAny_pure ⟨_, rfl, ?_⟩
  generalize (arrOf st').map (·.2) = out at b1 hcn ⊢
  have perm : ys.Perm l := b2.trans (p2.trans pl)
  have hlen : (ys.map V.str).length ≤ sizeLine := by rw [List.length_map, perm.length_eq, sizeLine_eq]; omega
  have hn : H z.heap.objs.size = none := I.hok.fresh hz
  have keep2 : ∀ b u, s.heap.get? b = some u → (sortedHeap (z.heap.push (seqObj "list" vs.toArray 0)) z.heap.objs.size vs out).get? b = some u := fun b u e => by
    have k := keep b u e
    have hlt := Heap.lt_size k
    rw [sortedHeap_old (Nat.ne_of_lt hlt) (by rw [size_push']; exact Nat.lt_succ_of_lt hlt)]
    exact Heap.get?_push_of_some _ k
  obtain ⟨zh, zg, zd, zt, zo⟩ := z
  dsimp only at *
  subst g1 o1
  refine ⟨.ref zh.objs.size, upd H zh.objs.size (.lst (ys.map V.str)), ?_, rfl, q ys _ perm b3 hn⟩
  exact I.call (ch := []) (d' := zd) (t' := zt) (Un.laid keep2 hz hn) (I.hok.laid (o := .lst (ys.map V.str)) keep2 hz ⟨hlen, out.toList, c, vals_of_strs b1, hcn⟩) I.bare (fun _ z => nomatch z)
end
end L2

/-! sorted(xs), xs a list of pairs of a text and an int -/
namespace L2
open PySem PySem.Spec PyProof.Rows
def txLt (x y : Str) : Bool := decide (x.cps.toList < y.cps.toList)
theorem tx_irr (x : Str) : txLt x x = false := PyProof.Rows.strKind.irrefl x.cps.toList
theorem tx_tr {x y z : Str} (h1 : txLt x y = true) (h2 : txLt y z = true) : txLt x z = true := PyProof.Rows.strKind.trans x.cps.toList y.cps.toList z.cps.toList h1 h2
theorem str_ext {x y : Str} (h : x.cps.toList = y.cps.toList) : x = y := by
  cases x; cases y
  congr 1
  exact Array.toList_inj.mp h
theorem tx_tot {x y : Str} (h1 : txLt x y = false) (h2 : txLt y x = false) : x = y := str_ext (PyProof.Rows.strKind.total x.cps.toList y.cps.toList h1 h2)
theorem tx_as {x y : Str} (h : txLt x y = true) : txLt y x = false := by
  cases e : txLt y x
  · rfl
  · have z := tx_tr h e
    rw [tx_irr] at z
    exact nomatch z
/-- x before y: by the text, then by the number -/
def pLt (p q : Str × Int) : Bool := if p.1 = q.1 then decide (p.2 < q.2) else txLt p.1 q.1
theorem pLt_iff {p q : Str × Int} : pLt p q = true ↔ txLt p.1 q.1 = true ∨ (p.1 = q.1 ∧ p.2 < q.2) := by
  unfold pLt
  by_cases e : p.1 = q.1
  · rw [if_pos e, decide_eq_true_eq, e, tx_irr]
    simp
  · rw [if_neg e]
    simp [e]
theorem pLt_as {p q : Str × Int} (h : pLt p q = true) : pLt q p = false := by
  cases e : pLt q p
  · rfl
  · rcases pLt_iff.mp h with a | ⟨a, b⟩ <;> rcases pLt_iff.mp e with c | ⟨c, d⟩
    · rw [tx_as a] at c; exact nomatch c
    · rw [c, tx_irr] at a; exact nomatch a
    · rw [a, tx_irr] at c; exact nomatch c
    · omega
theorem pLt_no {p q : Str × Int} (h : pLt p q = false) : txLt q.1 p.1 = true ∨ (q.1 = p.1 ∧ q.2 ≤ p.2) := by
  unfold pLt at h
  by_cases e : p.1 = q.1
  · rw [if_pos e] at h
    exact .inr ⟨e.symm, Int.not_lt.mp (of_decide_eq_false h)⟩
  · rw [if_neg e] at h
    cases c : txLt q.1 p.1
    · exact absurd (tx_tot h c) e
    · exact .inl rfl
theorem pLt_ge {p q : Str × Int} (h : txLt q.1 p.1 = true ∨ (q.1 = p.1 ∧ q.2 ≤ p.2)) : pLt p q = false := by
  cases e : pLt p q
  · rfl
  · rcases pLt_iff.mp e with a | ⟨a, b⟩ <;> rcases h with c | ⟨c, d⟩
    · rw [tx_as a] at c; exact nomatch c
    · rw [c, tx_irr] at a; exact nomatch a
    · rw [a, tx_irr] at c; exact nomatch c
    · omega
theorem pLt_swo {α : Type} (k : α → Str × Int) : SrtO.Swo fun x y => pLt (k x) (k y) := by
  refine ⟨fun x y h => pLt_as h, fun x y z h1 h2 => pLt_ge ?_⟩
  rcases pLt_no h1 with a | ⟨a, b⟩ <;> rcases pLt_no h2 with c | ⟨c, d⟩
  · exact .inl (tx_tr a c)
  · exact .inl (by rw [← c]; exact a)
  · exact .inl (by rw [a]; exact c)
  · exact .inr ⟨a.trans c, Int.le_trans b d⟩
def PairTI (h : Heap) (v : Value) (x : Str) (y : Int) : Prop := ∃ a o t u n, v = .ref a ∧ h.get? a = some o ∧ o.cls = .type "tuple" ∧ o.data = .seq #[.str x t, .int y u] n
section
variable {prog : Program} {w : World} {A : Around} {E : Value → Shared → Prop} {s : Shared}
theorem pairTI_firsts {h : Heap} : ∀ {vs : List Value}, (∀ v ∈ vs, ∃ x y, PairTI h v x y) → ∃ fs : List Value, PySem.W.KatTups h vs fs ∧ fs.length = vs.length ∧ ∀ f ∈ fs, ∃ x t, f = Value.str x t
  | [], _ => ⟨[], .nil, rfl, fun _ hm => nomatch hm⟩
  | v :: vs, hp => by
    obtain ⟨fs, h1, h2, h3⟩ := pairTI_firsts (vs := vs) fun v' hm => hp v' (.tail _ hm)
    obtain ⟨x, y, a, o, t, u, n, e, ho, hc, hd⟩ := hp v List.mem_cons_self
    subst e
    exact ⟨.str x t :: fs, PySem.W.KatTups.cons ho hc hd rfl h1, congrArg (· + 1) h2, fun f hm => (List.mem_cons.mp hm).elim (fun z => ⟨x, t, z⟩) (h3 f)⟩
theorem pairTI_cmp {vs : List Value} {k : Value → Str × Int} (hp : ∀ v ∈ vs, PairTI s.heap v (k v).1 (k v).2) : SrtO.Cmp prog w A s (tuples' true) (fun p => p.1 ∈ vs) (SrtO.lt2 fun v u => pLt (k v) (k u)) := by
  rintro ⟨v, v0⟩ ⟨v', v0'⟩ m m'
  have goal : ∀ (P1 P2 : Str × Int), PairTI s.heap v P1.1 P1.2 → PairTI s.heap v' P2.1 P2.2 → wpAny (model prog w) A (keyLt' (tuples' true) v v') (fun r s' => s' = s ∧ r = pLt P1 P2) (fun _ _ => False) s := by
    rintro ⟨x, y⟩ ⟨x', y'⟩ ⟨a, o, t, u, n, rfl, ho, -, hd⟩ ⟨a', o', t', u', n', rfl, ho', -, hd'⟩
    refine PySem.W.kat_lt ho hd ho' hd' (PySem.W.kat_cons (SeqAt.EqAt.str_str x t x' t' prog w _ _ (PySem.W.kat_go (fun same => ?_) fun less => ?_)))
    · obtain rfl : x = x' := by simpa using same
      refine PySem.W.kat_yes (PySem.W.kat_cons (SeqAt.EqAt.int_int y u y' u' prog w _ _ (PySem.W.kat_go (fun same2 => ?_) fun _ => PySem.W.kat_no (PySem.W.kat_one _ _ (PyProof.Rows.lt_int ⟨rfl, (if_pos rfl).symm⟩)))))
      obtain rfl : y = y' := by simpa using same2
      refine PySem.W.kat_yes (PySem.W.kat_nil ⟨rfl, ?_⟩)
      rw [pLt, if_pos rfl, decide_eq_false (Int.lt_irrefl y)]
      rfl
    · have diff : ¬ x = x' := by simpa using less
      exact PySem.W.kat_no (PyProof.Rows.strKind_oneLt _ _ _ _ _ _ _ x.cps.toList x'.cps.toList rfl rfl ⟨rfl, (if_neg diff).symm⟩)
  exact goal (k v) (k v') (hp v m) (hp v' m')
theorem pairTI_sortable {a : Addr} {vs : List Value} {k : Value → Str × Int} (h0 : 0 < vs.length) (hp : ∀ v ∈ vs, PairTI s.heap v (k v).1 (k v).2) (ha : ∀ o, s.heap.get? a = some o → o.cls ≠ .type "tuple") : SrtO.SortableO prog w A s a vs fun v u => pLt (k v) (k u) := by
  intro h' keep
  have hp' : ∀ v ∈ vs, PairTI h' v (k v).1 (k v).2 := fun v hm => by
    obtain ⟨b, o, t, u, n, e, ho, hc, hd⟩ := hp v hm
    exact ⟨b, o, t, u, n, e, keep b o (fun z => by subst z; exact ha o ho hc) ho, hc, hd⟩
  obtain ⟨fs, h1, h2, h3⟩ := pairTI_firsts fun v hm => ⟨_, _, hp' v hm⟩
  refine ⟨tuples' true, fun Q E hq => ?_, pairTI_cmp hp'⟩
  refine PySem.W.kat_kind (T := .type "str") h1 (by omega) (fun f hm => ?_) (by rfl) ?_
  · obtain ⟨x, t, rfl⟩ := h3 f hm
    exact PySem.W.Looks.now
  · rw [show (Value.type "str" != Value.type "tuple") = true by first | decide +kernel | rfl | decide]
    exact hq
end
def rSortTI (K : PySem.W.Frag) : List V → Hp → VK → Prop := fun vs H Q => ∃ (a : Addr) (xs : List V) (k : V → Str × Int), vs = [V.ref a] ∧ SqL K H a xs ∧ (∀ x ∈ xs, ∃ t, x = V.ref t ∧ H t = some (.tup [.str (k x).1, .int (k x).2])) ∧
  ∀ ys p, ys.Pairwise (fun x y => pLt (k y) (k x) = false) → ys.Perm xs → H p = none → Q (.ref p) (upd H p (.lst ys))
section
variable {X : Cx}
theorem cr_sortTI : CallR X (.builtin "sorted") (rSortTI X.K) := by
  intro pins s σ H vs us Q I r h
  obtain ⟨a, xs, k, rfl, hs, hx, q⟩ := h
  obtain ⟨its, rv, hl, hz⟩ := I.list hs
  rw [Vals.ref1 r]
  obtain ⟨e1, e2⟩ := refs_back rv fun x m => by
    obtain ⟨t, e, _⟩ := hx x m
    exact ⟨t, e⟩
  have hp : ∀ v ∈ its, PairTI s.heap v (k (backV v)).1 (k (backV v)).2 := fun v hv => by
    obtain ⟨t, rfl⟩ := e2 v hv
    obtain ⟨t', e, ht⟩ := hx (.ref t) (by rw [e1]; exact List.mem_map.mpr ⟨_, hv, rfl⟩)
    cases e
    obtain ⟨_, its2, r2, o, ho, hc, n, hd⟩ := I.hok _ _ ht
    obtain ⟨u1, u2, rfl, ri, rj⟩ := vals2 r2
    obtain ⟨t1, rfl⟩ := ri
    obtain ⟨t2, rfl⟩ := rj
    exact ⟨t, o, t1, t2, n, rfl, ho, hc, hd⟩
  refine SrtO.sorted_ord (pLt_swo fun u => k (backV u)) hl.isList (by rw [← rv.length]; exact hz) (fun h2 h₁ a ha kk => ?_) fun out h1 h2 => ?_
  · refine pairTI_sortable (k := fun u => k (backV u)) (s := { s with heap := h₁ }) (by omega) (fun v hm => ?_) fun o e => ?_
    · obtain ⟨b, o, t, u, n, e, ho, hc, hd⟩ := hp v hm
      exact ⟨b, o, t, u, n, e, (kk b o ho).2, hc, hd⟩
    · cases (e.symm.trans ha : some o = some (seqObj "list" its.toArray 0))
      exact fun c => absurd (Value.type.inj c) (by decide)
  · have same : (out.map backV).Perm xs := e1 ▸ h2.perm.map backV
    have ⟨n, hn⟩ := sortedAll_at s.heap its out.toArray
    exact ⟨.ref _, upd H _ (.lst (out.map backV)), I.laid (t' := s.toks) (fun _ _ e => sortedAll_old e) (Nat.le_succ _) ⟨same.length_eq ▸ hz, out, n, vals_back fun u hu => e2 u (h2.perm.mem_iff.mp hu), hn⟩, rfl, q _ _ (List.pairwise_map.mpr h1) same (I.hok.fresh (Nat.le_succ _))⟩
end
end L2

/-! {k: v for x in xs} of any keys that a dict can have: ints and texts, or tuples of them -/
namespace L2
open PySem PySem.Spec PyProof.Rows
/-- an entry put in, as a display or a comprehension does it -/
theorem dput_any {X : Cx} {pins : List (Addr × Obj)} {σ : St} {H H' : Hp} {s : Shared} {A : Around} {E : Value → Shared → Prop} {D : Addr} {y v : V} {u r : Value} {Q : Unit → Shared → Prop} (hu : A.units + 1 < cLine) (I : Inv X pins σ H s) (g : DPut H D y v H') (ry : RelV y u) (rv : RelV v r)
    (q : ∀ z, Inv X pins σ H' z → Q () z) : wpAny (model X.prog X.w) A (dictSet D u r) Q E s := by
  rcases g with ⟨kvs, k, e, rfl, l, rfl⟩ | ⟨kvs, k, b, e, rfl, eb, l, rfl⟩
  · obtain ⟨z, hd, vs, rel, dd⟩ := dk_of I.hok e
    have sml : (putK kvs k v).length ≤ sizeLine := Nat.le_trans (length_putK kvs k v) l
    refine wpAny_dictSet_pairs (hsz := by rw [← rel.length]; exact z) (kV_is ry) dd fun h' dd' hs => q _ ?_
    exact d_write I (by rw [e]; exact True.intro) hs (let ⟨q, _, _, hq, _⟩ := dd'; ⟨q, hq⟩) (dk_new sml hd (rel.put k rv) dd')
  · cases (show u = Value.ref b from ry)
    obtain ⟨z, hd, xs, rel, dd⟩ := dt_of I.hok e
    have sml : (putK kvs k v).length ≤ sizeLine := Nat.le_trans (length_putK kvs k v) l
    refine wpAny_dictSet_heap (hsz := by rw [← Paired.length rel]; exact z) (show A.units < cLine by omega) (key_of I.hok eb) dd fun h' dd' hs => q _ ?_
    obtain ⟨o, es, ep, hq, h2, h3, h4, _, h5⟩ := dd'
    refine d_write I (by rw [e]; exact True.intro) hs ⟨o, hq⟩ ⟨sml, hd, _, (rel.put k eb rv).keeps fun c ys ec => ?_, o, es, ep, hq, h2, h3, h4, h5⟩
    rw [upd_ne (ne_of ec e (fun z => nomatch z))]
    exact ec
/-- the dict that is begun with -/
inductive Bare : HO → Prop
  | k : Bare (.dK [])
  | t : Bare (.dT [])
theorem bare_ok {P : Program} {w : World} {H : Hp} {o : HO} (b : Bare o) (h : Heap) (hb : sysModules < h.objs.size) : ObjOk P w H (h.push { cls := .type "dict", data := .dict #[] }) h.objs.size o := by
  cases b
  · exact dk_empty h hb
  · exact dt_empty h hb
section
variable {X : Cx}
def tDcG (o : HO) (wi : TI) (g : TG) (tt : TT) (tk tv : TE) (vs : List Nat) : TE := fun σ H Q => wi σ H fun J H1 => ∀ D, H1 D = none → ∃ W : Nat → Nat → Hp → Prop, (∃ m, W 0 m (upd H1 D o)) ∧ ∀ i m H, W i m H →
  (J.stop i H ∧ Q (.ref D) H) ∨ (J.go i H ∧ ∃ Nx : Hp → Prop, (∀ H', Nx H' → ∃ m', m' < m ∧ W (i + 1) m' H') ∧ ∀ x H', J.yld i H x H' → g x (wipe σ vs) H' fun σ2 H2 => wipe σ2 vs = wipe σ vs ∧ tt σ2 H2 fun b H3 =>
    if b = true then tk σ2 H3 fun y H4 => tv σ2 H4 fun z H5 => ∃ H6, DPut H5 D y z H6 ∧ Nx H6 else Nx H3)
abbrev InBlk (X : Cx) (scope : Scope) (T : Cx → Prop) : Prop := ∀ (s : Shared) (H : Hp) (C : Addr) (cl : List (Str × Addr)) (fp : List Addr), T (X.blk s H scope (compEnvC scope cl C X.env) fp)
theorem pe_dcG {o : HO} {kx vx tg iter : Expr} {ifs : List Expr} {scope : Scope} {own : List (Str × Nat)} {pos : Pos} {wi : TI} {g : TG} {tt : TT} {tk tv : TE} (bo : Bare o) (hu : X.A.units + 1 < cLine) (hc : X.calm = true) (hN : X.N.Nodup) (hi : PI X tg iter wi) (ok : BlkOk X.N X.env.scope scope own)
    (hg : InBlk X scope fun B => PG B tg g) (ht : InBlk X scope fun B => PTs B ifs tt) (hk : InBlk X scope fun B => PE B kx tk) (he : InBlk X scope fun B => PE B vx tv) (hs : ∀ x, foldedSetIterable iter X.env x = pure x := by intro _; rfl) :
    PE X (.DictComp kx vx [⟨tg, iter, ifs, 0⟩] scope pos) (tDcG o wi g tt tk tv (own.map (·.2))) := by
  refine ⟨fun pins s σ H Q I h => ?_⟩
  rw [arm_eval_DictComp]
  have frees : ∀ y ∈ scope.names, y.2 = .free → ∃ c, X.env.cells.lookup y.1 = some c := fun y hy e => (ok.free y hy e).elim (fun k => I.ok.has _ (.inl k)) fun k => I.ok.has _ (.inr k)
  refine wpAny_comprehension_free (use := none) rfl hs (closure_ok frees) ok.kind (fun y hy e => by rw [ok.uniq y hy, e]) (thn (hi.run pins s σ H _ I h) fun xv s1 hx => thn hx fun itv s2 h2 => ?_)
  obtain ⟨it, fp, tn, J, H2, rfl, I2, T, st2, f2, q⟩ := h2
  refine wpAny_newObj_type (newEnv_comp ?_)
  generalize hD : s2.heap.objs.size = D
  have new : H2 D = none := I2.hok.fresh (Nat.le_of_eq hD)
  obtain ⟨W, ⟨m0, w0⟩, turn⟩ := q D new
  generalize es3 : ({ s2 with heap := s2.heap.push { cls := .type "dict", data := .dict #[] } } : Shared) = s3
  have h3 : s3.heap = s2.heap.push { cls := .type "dict", data := .dict #[] } := by rw [← es3]
  have I3 : Inv X pins σ (upd H2 D o) s3 := by
    rw [← es3]
    refine I2.laid (t' := s2.toks) (fun b u e => Heap.get?_push_of_some _ e) (Nat.le_of_eq hD) ?_
    rw [← hD]
    exact bare_ok bo s2.heap I2.big
  have low : ∀ b ∈ fp, b < s2.heap.objs.size := fun b hb => by
    obtain ⟨u, e, _⟩ := T.obj _ _ st2 b hb
    exact Heap.lt_size e
  have f3 : ∀ b ∈ fp, FpOk X pins (upd H2 D o) b ∧ b < s3.heap.objs.size := fun b hb => by
    refine ⟨⟨?_, (f2 b hb).2⟩, by rw [h3, Heap.size_push]; exact Nat.lt_succ_of_lt (low b hb)⟩
    rw [upd_ne (by rw [← hD]; exact Nat.ne_of_lt (low b hb))]
    exact (f2 b hb).1
  have st3 : tn 0 s3.heap := T.keep _ _ _ st2 fun b _ u e => by rw [h3]; exact Heap.get?_push_of_some _ e
  have I4 := block_start I3 ok hN f3
  have pg := hg s3 (upd H2 D o) s3.heap.objs.size (cellsFrom (s3.heap.objs.size + 1) scope.names (cloFrom X.env.cells scope.names [])) fp
  have pt := ht s3 (upd H2 D o) s3.heap.objs.size (cellsFrom (s3.heap.objs.size + 1) scope.names (cloFrom X.env.cells scope.names [])) fp
  have pk := hk s3 (upd H2 D o) s3.heap.objs.size (cellsFrom (s3.heap.objs.size + 1) scope.names (cloFrom X.env.cells scope.names [])) fp
  have pe := he s3 (upd H2 D o) s3.heap.objs.size (cellsFrom (s3.heap.objs.size + 1) scope.names (cloFrom X.env.cells scope.names [])) fp
  have nfp : ∀ b ∈ fp, (upd H2 D o) b = none := fun b hb => (f3 b hb).1.1
  show codeAny _ _ (.compStart (.DictComp kx vx [⟨tg, iter, ifs, 0⟩] scope pos) 0 (.ref it) (.ref D) (compEnvC scope (cellsFrom (s3.heap.objs.size + 1) scope.names (cloFrom X.env.cells scope.names [])) s3.heap.objs.size X.env)) (compPost (model X.prog X.w) X.A X.xe none _ (.ref D) s3.heap.objs.size) { s3 with heap := pushCells (s3.heap.push { cls := .type "dict", data := .dict #[] }) scope.names }
  generalize ece : compEnvC scope (cellsFrom (s3.heap.objs.size + 1) scope.names (cloFrom X.env.cells scope.names [])) s3.heap.objs.size X.env = ce at I4 pg pt pk pe ⊢
  have loc : ce.locals = s3.heap.objs.size := by subst ece; rfl
  generalize upd H2 D o = H3 at I3 I4 pg pt pk pe w0 nfp f3
  generalize es4 : ({ s3 with heap := pushCells (s3.heap.push { cls := .type "dict", data := .dict #[] }) scope.names } : Shared) = s4 at I4 ⊢
  have st4 : tn 0 s4.heap := T.keep _ _ _ st3 fun b _ u e => by rw [← es4]; exact pushCells_keeps _ _ _ _ (Heap.get?_push_of_some _ e)
  have quiet : ∀ {σ' : St} {H' : Hp} {z : Shared}, Inv (X.blk s3 H3 scope ce fp) [] σ' H' z → (∀ b ∈ fp, H' b = none) → ∀ b ∈ fp, FpOk (X.blk s3 H3 scope ce fp) [] H' b := fun {σ' H' z} I' hn b hb =>
    ⟨hn b hb, (I'.ok.exf b hb).1, I'.ok.exfs b hb, .inl hb, fun x c e => (I'.ok.exf b hb).2 x c e, fun p hp => absurd (show p ∈ ([] : List (Addr × Obj)) ++ [] from hp) (by simp)⟩
  have loop : codeAny (model X.prog X.w) X.A (.compLoop (.DictComp kx vx [⟨tg, iter, ifs, 0⟩] scope pos) 0 (.ref it) (.ref D) ce) (compPost (model X.prog X.w) X.A X.xe none (EP X pins σ Q) (.ref D) s3.heap.objs.size) s4 := by
    refine compLoop_anyD (fun n z => ∃ i H', Inv (X.blk s3 H3 scope ce fp) [] (wipe σ (own.map (·.2))) H' z ∧ tn i z.heap ∧ (∀ b ∈ fp, H' b = none) ∧ W i n H') ?_ m0 ⟨0, H3, I4, st4, nfp, w0⟩
    rintro n s5 ⟨i, H5, I5, st5, n5, w5⟩
    rcases turn i n H5 w5 with ⟨stop, qq⟩ | ⟨go, Nx, hNx, step⟩
    · refine thnF (T.done (X.blk s3 H3 scope ce fp) rfl rfl rfl hc i [] s5 _ H5 (fun _ _ => False) I5 (quiet I5 n5) st5 stop) fun r s6 ⟨hr, I6⟩ => ?_
      subst hr
      have I7 : Inv X pins σ H5 s6 := I3.call' (ch := fp) I6.os I6.base I6.hok I6.bare fun b hb => ⟨(f3 b hb).1.2.2.2.1, (f3 b hb).1.2.1, (f3 b hb).1.2.2.2.2.1, (f3 b hb).1.2.2.2.2.2⟩
      have nC : H5 s3.heap.objs.size = none := by
        have z : H5 ce.locals = none := I6.free
        rwa [loc] at z
      obtain ⟨m, hn, _⟩ := I6.loc
      have hn : s6.heap.Ns ce.locals m := hn
      rw [loc] at hn
      refine ⟨m, hn, fun h'' sb => ?_⟩
      obtain ⟨f0, f1, f2, f3, f4, f5⟩ := I3.fpOk (Nat.le_refl _) nC
      exact ⟨.ref D, H5, I7.turned (t' := s6.toks) (fun b u hb e => (sb.2 b hb).trans e) f0 f1 f3 f4 f5, rfl, qq⟩
    · refine thnF (T.item (X.blk s3 H3 scope ce fp) rfl rfl rfl hc i [] s5 _ H5 (fun _ _ => False) I5 (quiet I5 n5) st5 go) fun r s6 ⟨u, hr, h6⟩ => ?_
      subst hr
      refine thnF h6 fun _ s7 ⟨x, H7, I7, r7, y7, st7, n7⟩ => ?_
      refine thnF (pg.run _ s7 _ H7 x u _ (I7.pinned (quiet I7 n7) (T.obj _ _ st7)) r7 (step x H7 y7)) fun _ s8 ⟨σ8, H8, I8, hw8, q8⟩ => ?_
      refine thnF (pt.run _ s8 σ8 H8 _ I8 q8) fun b s9 ⟨H9, I9, q9⟩ => ?_
      have fin : ∀ {z : Shared} {H' : Hp}, Inv (X.blk s3 H3 scope ce fp) ([] ++ pinsAt fp s7.heap) σ8 H' z → Nx H' → ∃ m, m < n ∧ ∃ i H', Inv (X.blk s3 H3 scope ce fp) [] (wipe σ (own.map (·.2))) H' z ∧ tn i z.heap ∧ (∀ b ∈ fp, H' b = none) ∧ W i m H' := fun {z H'} I' nx => by
        obtain ⟨m', hm, w'⟩ := hNx H' nx
        have pin' : ∀ b ∈ fp, ∀ u, s7.heap.get? b = some u → z.heap.get? b = some u ∧ H' b = none := fun b hb u e =>
          let k := I'.pin (b, u) (List.mem_append_right _ (List.mem_append_right _ (mem_pinsAt hb e)))
          ⟨k.1, k.2.1⟩
        refine ⟨m', hm, i + 1, H', (I'.unpinned (pins := [])).weak (by rw [← hw8, wipe_length]) (fun j v e => ?_), T.keep _ _ _ st7 fun b hb u e => (pin' b hb u e).1, fun b hb => ?_, w'⟩
        · rw [← hw8] at e
          exact (wipe_some e).1
        · obtain ⟨u, e, _⟩ := T.obj _ _ st7 b hb
          exact (pin' b hb u e).2
      cases b with
      | false =>
        simp only [Bool.false_eq_true, if_false] at q9 ⊢
        exact fin I9 q9
      | true =>
        simp only [if_true] at q9 ⊢
        refine thnF (pk.run _ s9 σ8 H9 _ I9 q9) fun z s10 ⟨yk, H10, I10, r10, q10⟩ => ?_
        refine thnF (pe.run _ s10 σ8 H10 _ I10 q10) fun z2 s11 ⟨yv, H11, I11, r11, H12, put, nx⟩ => ?_
        exact dput_any (X := X.blk s3 H3 scope ce fp) hu I11 put r10 r11 fun s12 I12 => fin I12 nx
  exact codeAny_compStart_dict loop (T.self X.A 0 _ _ _ st4 loop)
/-- the turns, by an invariant -/
theorem dcG_it {J : It} {n : Nat} {G : Hp → Prop} {Y : Nat → Hp → V → Hp → Prop} (w : Walk J n G Y) {o : HO} {g : TG} {tt : TT} {tk tv : TE} {vs : List Nat} {σ : St} {H1 : Hp} {D : Addr} {Qd : Hp → Prop} (Pv : Nat → Hp → Prop) (h0 : Pv 0 (upd H1 D o)) (hG : ∀ i H, i ≤ n → Pv i H → G H)
    (hs : ∀ i x H H', i < n → Pv i H → Y i H x H' → g x (wipe σ vs) H' fun σ2 H2 => wipe σ2 vs = wipe σ vs ∧ tt σ2 H2 fun b H3 =>
      if b = true then tk σ2 H3 fun y H4 => tv σ2 H4 fun z H5 => ∃ H6, DPut H5 D y z H6 ∧ Pv (i + 1) H6 else Pv (i + 1) H3) (hd : ∀ H, Pv n H → Qd H) :
    ∃ W : Nat → Nat → Hp → Prop, (∃ m, W 0 m (upd H1 D o)) ∧ ∀ i m H, W i m H →
      (J.stop i H ∧ Qd H) ∨ (J.go i H ∧ ∃ Nx : Hp → Prop, (∀ H', Nx H' → ∃ m', m' < m ∧ W (i + 1) m' H') ∧ ∀ x H', J.yld i H x H' → g x (wipe σ vs) H' fun σ2 H2 => wipe σ2 vs = wipe σ vs ∧ tt σ2 H2 fun b H3 =>
        if b = true then tk σ2 H3 fun y H4 => tv σ2 H4 fun z H5 => ∃ H6, DPut H5 D y z H6 ∧ Nx H6 else Nx H3) := by
  refine ⟨fun i m H => m = n - i ∧ i ≤ n ∧ Pv i H, ⟨n, by simp, Nat.zero_le _, h0⟩, ?_⟩
  rintro i m H ⟨rfl, hi, p⟩
  have q := hG i H hi p
  rcases Nat.lt_or_ge i n with hlt | hge
  · exact .inr ⟨w.goes i H hlt q, Pv (i + 1), fun H' p' => ⟨n - (i + 1), by omega, rfl, hlt, p'⟩, fun x H' y => hs i x H H' hlt p (w.yields i H x H' hlt q y)⟩
  · obtain rfl : i = n := Nat.le_antisymm hi hge
    exact .inl ⟨w.stops H q, hd H p⟩
end
end L2

/-! for i, x in enumerate(t), t a tuple: the library's Begins and Draws of a tuple, put together -/
namespace L2
open PySem PyProof.Rows PySem.Spec
/-- a new enumerate over the iterator at j -/
abbrev enObj (j : Addr) : Obj := { cls := .type "enumerate", data := .fields #[.none, .bool false, .ref j, rawInt 0, .none, .none] }
theorem enum_one {v : Value} {o : Obj} {G : Heap → Prop} (B : Begins v o G) : Meets (Builtin.«enumerate.__new__» ⟨[.type "enumerate", v], []⟩) fun _ R s =>
    G s.heap ∧ R (.ok (.ret (.ref (s.heap.push o).objs.size))) { s with heap := (s.heap.push o).push (enObj s.heap.objs.size) } :=
  .of_wp fun P w _ R ⟨h, gs, dr, tk, os⟩ ⟨g, q⟩ => by
    have sub0 := sub_enumerate
    have goes : ∀ {A' : Around} {E' : Value → Shared → Prop} {Q' : Value → Shared → Prop}, Q' (.ref h.objs.size) ⟨h.push o, gs, dr, tk, os⟩ → wpAny (model P w) A' (pyIter v) Q' E' ⟨h, gs, dr, tk, os⟩ := fun z => B.iter P w _ _ _ _ g z
    wp_walk using goes
    refine wpAny_stack_any fun _ => wpAny_pure ?_
    split
    all_goals first
      | (rename_i c _ _ _ _ _; cases (c == Value.type "enumerate") <;> (wp_walk using goes; exact ⟨_, rfl, q⟩))
      | (wp_walk using goes; exact ⟨_, rfl, q⟩)
theorem enum_call {P : Program} {w : World} {A : Around} {E : Value → Shared → Prop} {s : Shared} {v : Value} {o : Obj} {G : Heap → Prop} {Q : Value → Shared → Prop} (B : Begins v o G) (g : G s.heap)
    (q : ∀ n h', n = s.heap.objs.size → IsEnum h' (n + 1) n 0 .none → h'.get? n = some o → (∀ b u, s.heap.get? b = some u → h'.get? b = some u) → Q (.ref (n + 1)) { s with heap := h' }) :
    wpAny (model P w) A (call (.type "enumerate") [v]) Q E s := by
  have up : ∀ (b : Addr) (u : Obj), (s.heap.push o).get? b = some u → ((s.heap.push o).push (enObj s.heap.objs.size)).get? b = some u := fun b u e => Heap.get?_push_of_some _ e
  have top := Heap.get?_push_size (s.heap.push o) (o := enObj s.heap.objs.size) rfl
  refine callType_new F.called_enumerate (by decide) (F.typeCall_enumerate_1 _) (F.newCall_enumerate_1 _) (fun c => F.args_object_init_2 c _) F.entry_enumerate_new (enum_one B) ⟨g, ?_⟩
  rw [Heap.size_push] at top
  rw [show (s.heap.push o).objs.size = s.heap.objs.size + 1 from Heap.size_push ..]
  exact ⟨⟨_, top, rfl⟩, q _ _ rfl top (up _ _ (Heap.get?_push_size _ B.free)) fun b u e => up b u (Heap.get?_push_of_some _ e)⟩
/-- the tuple at a, each item in a new pair -/
def Itq (K : PySem.W.Frag) (a : Addr) : It :=
  ⟨fun i H => ∃ (xs : List V) (x : V), SqT K H a xs ∧ xs[i]? = some x, fun i H v H' => ∃ T x, v = .ref T ∧ H T = none ∧ H' = upd H T (.tup [.int (i : Nat), x]) ∧ ∀ xs, SqT K H a xs → xs[i]? = some x, fun i H => ∃ xs : List V, SqT K H a xs ∧ xs.length ≤ i⟩
/-- enumerate at e, its iterator at j, the tuple at a: i items are drawn -/
structure EnT (a e j : Addr) (i : Nat) (h : Heap) : Prop where
  en : ∃ old, IsEnum h e j ((i : Nat) : Int) old
  it : h.IsTupleIter j a i
  ne : e ≠ j
theorem EnT.apart {a e j : Addr} {i : Nat} {h : Heap} {xs : Array Value} (T : EnT a e j i h) (p : h.IsTuple a xs) : a ≠ j ∧ a ≠ e := by
  obtain ⟨o, ho, hc, -⟩ := p
  obtain ⟨u, hu, hk, -⟩ := T.it
  obtain ⟨old, he⟩ := T.en
  refine ⟨fun z => ?_, fun z => ?_⟩
  · rw [← z, ho] at hu
    rw [← Option.some.inj hu, hc] at hk
    exact absurd (Value.type.inj hk) (by decide)
  · have y : h.get? e = some _ := he
    rw [← z, ho] at y
    rw [Option.some.inj y] at hc
    exact absurd (Value.type.inj hc) (by decide)
theorem turn_enumT {P : Program} {w : World} {K : PySem.W.Frag} {elts : List Expr} {kk : Nat} {tpos : Pos} (a e j : Addr) : Turn P w K (.Tuple elts kk tpos) (Itq K a) [e, j] e (EnT a e j) where
  mem := List.mem_cons_self ..
  obj i h T b hb := by
    rcases List.mem_cons.mp hb with z | z
    · rw [z]
      exact ⟨_, T.en.choose_spec, fun _ y => nomatch y⟩
    · rw [List.mem_singleton.mp z]
      obtain ⟨o, ho, -, hd⟩ := T.it
      exact ⟨o, ho, fun _ y => nomatch (hd.symm.trans y)⟩
  keep _ _ _ T k := ⟨T.en.imp fun _ y => k e (List.mem_cons_self ..) _ y, T.it.at fun o y => k j (List.mem_cons_of_mem _ (List.mem_cons_self ..)) o y, T.ne⟩
  item := by
    rintro X rfl rfl rfl calm i pins s σ H E I fp T ⟨xs, x, hq, hx⟩
    obtain ⟨us, rel, isT, -⟩ := I.tuple hq
    obtain ⟨u, hu, ru⟩ := rel.get hx
    obtain ⟨aj, ae⟩ := T.apart isT
    obtain ⟨old, en⟩ := T.en
    have lt : i < us.toArray.size := by rw [List.size_toArray]; exact (List.getElem?_eq_some_iff.mp hu).1
    have low : ∀ b ∈ [e, j], b < s.heap.objs.size := fun b hb => by
      rcases List.mem_cons.mp hb with z | z
      · rw [z]; exact Heap.lt_size en
      · rw [List.mem_singleton.mp z]; exact Heap.lt_size T.it.choose_spec.1
    have out : e ∉ [j, a] := fun z => by
      rcases List.mem_cons.mp z with z | z
      · exact T.ne z
      · exact ae (List.mem_singleton.mp z).symm
    refine wpAny_pyNext_enum_itemD (Draws.tuple (A := X.A.in1) (I.ok.hd calm) j a aj us.toArray) en ⟨T.it, isT⟩ lt T.ne out fun y h1 tk hy eo T1 pr _ kp => ⟨_, rfl, wpAny_letOwnedTupleGo_enum (s := { s with heap := h1, toks := tk + 1 }) eo fun h2 e2 sb => ?_⟩
    have ey : y = u := Option.some.inj (hy.symm.trans (by rw [List.getElem?_toArray]; exact hu))
    rw [ey] at pr e2
    have far : ∀ b, b ∉ [e, j] → b ≠ e ∧ b ≠ j := fun b hb => ⟨fun z => hb (by rw [z]; exact List.mem_cons_self ..), fun z => hb (by rw [z]; exact List.mem_cons_of_mem _ (List.mem_cons_self ..))⟩
    have keeps : ∀ b o, b ∉ [e, j] → s.heap.get? b = some o → h2.get? b = some o := fun b o hb y => (sb.2 b (far b hb).1).trans (kp b o (far b hb).1 (far b hb).2 y)
    have at2 := (sb.2 _ (Nat.ne_of_gt (low e (List.mem_cons_self ..)))).trans pr
    have ok2 : ObjOk X.prog X.w (upd H s.heap.objs.size (.tup [.int (i : Nat), x])) h2 s.heap.objs.size (.tup [.int (i : Nat), x]) := ⟨(by decide : 2 ≤ sizeLine), [_, u], .cons ⟨tk, rfl⟩ (.cons ru .nil), _, at2, rfl, _, rfl⟩
    exact ⟨.ref s.heap.objs.size, _, I.turnedNew keeps fp (Nat.le_refl _) ok2, rfl, ⟨_, x, rfl, I.hok.fresh (Nat.le_refl _), rfl, fun zs hz => I.tuple_inj hz hq ▸ hx⟩,
      ⟨⟨u, by rw [show ((i + 1 : Nat) : Int) = (i : Int) + 1 from rfl]; exact e2⟩, T1.1.at fun o z => (sb.2 j (Ne.symm T.ne)).trans z, T.ne⟩, fun b hb => (upd_ne (Nat.ne_of_lt (low b hb))).trans (fp b hb).1⟩
  done := by
    rintro X rfl rfl rfl calm i pins s σ H E I fp T ⟨xs, hq, hl⟩
    obtain ⟨us, rel, isT, -⟩ := I.tuple hq
    obtain ⟨old, en⟩ := T.en
    obtain ⟨n1, n2, -, n3, n4, n5⟩ := fp j (List.mem_cons_of_mem _ (List.mem_cons_self ..))
    have D : Draws X.prog X.w X.A.in1 j [j, a] i (fun _ _ => False) (fun n h => n = i ∧ h.IsTupleIter j a i ∧ h.IsTuple a us.toArray) :=
      ⟨fun _ _ st => ⟨_, st.2.1.choose_spec.1⟩, fun _ _ _ st k => ⟨st.1, st.2.1.at fun o z => k j (List.mem_cons_self ..) o z, st.2.2.at fun o z => k a (List.mem_cons_of_mem _ (List.mem_cons_self ..)) o z⟩,
        fun n _ _ _ lt st _ => absurd st.1 (Nat.ne_of_lt lt), fun _ _ _ st k => wpAny_nextOf_tuple_end (I.ok.hd calm) st.2.1 st.2.2 (by rw [List.getElem?_toArray, List.getElem?_eq_none]; rw [← rel.length]; exact hl) k⟩
    exact wpAny_pyNext_enum_endD D en ⟨rfl, T.it, isT⟩ fun h1 k => ⟨rfl, I.turned (t' := s.toks) k n1 n2 n3 n4 n5⟩
  self _ _ _ _ _ T q := wpAny_pyIter_enum T.en.choose_spec q
def iEnumT (K : PySem.W.Frag) (ta : TA) : TI := fun σ H R => ta σ H fun vs H1 => ∃ a xs, vs = [.ref a] ∧ SqT K H1 a xs ∧ R (Itq K a) H1
theorem pi_enumT {X : Cx} {e : Expr} {ta : TA} {p pos tpos : Pos} {elts : List Expr} {kk : Nat} (hg : Gl X "enumerate") (hm : X.mg "enumerate" = none) (ha : PA X [e] ta) (hs : starEach [e] X.env = [(false, eval e X.env)] := by rfl) :
    PI X (.Tuple elts kk tpos) (.Call (.Name "enumerate" p) [e] [] pos) (iEnumT X.K ta) where
  run pins s σ H R I h := by
    refine Call_ (ld_blt I hg hm boot_enumerate (PyProof.Rows.callWith_type1 (thn (ha.run pos pins s σ H _ I h) ?_) hs rfl))
    rintro us s1 ⟨vs, H1, I1, rel, a, xs, rfl, hq, k⟩
    rw [Vals.ref1 rel]
    obtain ⟨its, -, isT, -⟩ := I1.tuple hq
    refine enum_call (begins_tuple a its.toArray) isT fun n h' hn en it0 kp => wpAny_pyIter_enum en ⟨n + 1, [n + 1, n], EnT a (n + 1) n, Itq X.K a, H1, rfl, I1.kept (t' := s1.toks) kp, turn_enumT a (n + 1) n, ⟨⟨_, en⟩, ⟨_, it0, rfl, rfl⟩, Nat.succ_ne_self n⟩, ?_, k⟩
    intro b hb
    have le : s1.heap.objs.size ≤ b := by
      rcases List.mem_cons.mp hb with z | z
      · rw [z, ← hn]; exact Nat.le_succ _
      · rw [List.mem_singleton.mp z, hn]; exact Nat.le_refl _
    exact I1.fpOk le (I1.hok.fresh le)
theorem walk_enumT {K : PySem.W.Frag} {a : Addr} {xs : List V} : Walk (Itq K a) xs.length (fun H => SqT K H a xs) (YPair (fun i => some (.int (i : Nat))) (fun i => xs[i]?)) where
  goes i H lt g := ⟨xs, xs[i], g, List.getElem?_eq_getElem lt⟩
  stops H g := ⟨xs, g, Nat.le_refl _⟩
  yields i H x H' lt g y := let ⟨T, z, e, n, e', h⟩ := y; ⟨T, .int (i : Nat), z, e, n, e', rfl, h xs g⟩
end L2

/-! tuple(d), d a dict of ints and texts -/
namespace L2
open PySem PySem.Spec PyProof.Rows
section
variable {prog : Program} {w : World} {A : Around} {E : Value → Shared → Prop} {s : Shared} {T : String} {r d : Addr} {n : Nat} {P : Nat → Value → Prop} {OK : Heap → Prop}
theorem collect_src {Q : List Value → Shared → Prop} (K : PySem.W.KdlSrc prog w T r d n P OK) (hh : A.handled = none) (hok : OK s.heap) (hn : n ≤ sizeLine)
    (q : ∀ (h' : Heap) (tk : Nat) (acc : Array Value), (∀ b o, s.heap.get? b = some o → h'.get? b = some o) → ItemsOf P acc n → Q acc.toList { s with heap := h', toks := tk }) : wpAny (model prog w) A (collect (.ref r)) Q E s := by
  have lt := K.there _ hok
  unfold collect
  refine wpAny_bind (wpAny_runValue (codeAny_builtin F.entry_proto_collect ?_))
  rw [Around.under_plainId F.plain_proto_collect _]
  show wpAny _ A.in1 (newList [] >>= fun l => again (.builtin "list.__iadd__" ⟨[l, .ref r], []⟩)) _ _ s
  refine wpAny_bind (wpAny_newObj_type (wpAny_pure ⟨plainId_quiet F.plain_list_iadd _, codeAny_builtin F.entry_list_iadd ?_⟩))
  rw [Around.under_plainId F.plain_list_iadd _]
  show wpAny _ A.in1 (Builtin.List.listExtendWith (.ref s.heap.objs.size) (.ref r) (.ref s.heap.objs.size)) _ _ _
  have gS : (s.heap.push { cls := .type "list", data := .seq ([] : List Value).toArray }).get? s.heap.objs.size = some { cls := .type "list", data := .seq #[] 0 } := Heap.get?_push_size _ rfl
  have go := PySem.W.kdl_extend (A := A) (R := fun rr z => rr = .ok (.ret (.ref s.heap.objs.size)) ∧ ∃ (h' : Heap) (tk : Nat) (acc : Array Value) (c' : Nat), z = { s with heap := h', toks := tk } ∧
      (∀ b o, s.heap.get? b = some o → h'.get? b = some o) ∧ h'.get? s.heap.objs.size = some { cls := .type "list", dict := none, data := .seq acc c', slots := #[] } ∧ ItemsOf P acc n)
    (s := { s with heap := s.heap.push { cls := .type "list", data := .seq ([] : List Value).toArray } }) K hh (K.keep _ _ hok fun b _ o e => Heap.get?_push_of_some _ e) s.heap.objs.size (Nat.ne_of_gt lt.1) (Nat.ne_of_gt lt.2) (.ref s.heap.objs.size) 0 gS
    (fun h' tk acc c' hk e hi => ⟨rfl, h', tk, acc, c', rfl, fun b o y => hk b o (Nat.ne_of_lt (Heap.lt_size y)) (Heap.get?_push_of_some _ y), e, hi⟩) hn
  refine wpAny_mono go (fun fin z x => ?_) fun e z x => absurd x.1 (by simp)
  cases fin with
  | done f =>
    obtain ⟨e, h', tk, acc, c', rfl, hk, hS', hi⟩ := x
    cases e
    show wpAny _ A (load s.heap.objs.size >>= _) _ _ _
    exact wpAny_bind (wpAny_load hS' (wpAny_pure (q h' tk acc hk hi)))
  | again c =>
    refine ⟨x.1, codeAny_mono x.2 fun rr y hr' => ?_⟩
    obtain ⟨rfl, h', tk, acc, c', rfl, hk, hS', hi⟩ := hr'
    show wpAny _ A (load s.heap.objs.size >>= _) _ _ _
    exact wpAny_bind (wpAny_load hS' (wpAny_pure (q h' tk acc hk hi)))
theorem tuple_src {Q : Value → Shared → Prop} (K : PySem.W.KdlSrc prog w T r d n P OK) (hh : A.handled = none) (hok : OK s.heap) (hn : n ≤ sizeLine)
    (q : ∀ (h' : Heap) (tk : Nat) (acc : Array Value), (∀ b o, s.heap.get? b = some o → h'.get? b = some o) → ItemsOf P acc n → Q (.ref h'.objs.size) { s with heap := h'.push { cls := .type "tuple", data := .seq acc }, toks := tk }) :
    wpAny (model prog w) A (call (.type "tuple") [.ref r]) Q E s := by
  refine callType_codes (Q₁ := fun obj s₁ => s₁.TypeIs obj "tuple" ∧ Q obj s₁) F.called_tuple (F.typeCall_tuple_1 _) F.entry_object_init (codeAny_of_tree ?_) fun obj s₁ h₁ => ⟨h₁.1, F.args_object_init_2 obj _, object_init_meets F.called_tuple.init.lookup F.called_tuple.made (by decide) prog w A.in1 _ s₁ ⟨h₁.1, rfl, h₁.2⟩⟩
  show wpAny _ A.in1.in1 (do checkBuiltinCall "tuple.__new__" ⟨[.type "tuple", .ref r], []⟩; again (.builtin "tuple.__new__" ⟨[.type "tuple", .ref r], []⟩)) _ _ s
  refine wpAny_bind (wpAny_of_eq (F.newCall_tuple_1 _) (wpAny_pure ⟨plainId_quiet F.plain_tuple_new _, codeAny_builtin F.entry_tuple_new ?_⟩))
  rw [Around.under_plainId F.plain_tuple_new _]
  have hsub := sub_tuple_self
  have hinit := init_tuple_lookup
  have hmh := madeHere_tuple
  have ty : s.TypeIs (.ref r) T := K.type s hok
  have nt := K.notTuple
  have nl := K.notList
  have hh2 : A.in1.in1.handled = none := hh
  wp_walk using wpAny_typeOf ty, collect_src (A := A.in1.in1) K hh2 hok hn
  intro h' tk acc hk hacc
  show wpAny _ _ (Builtin.Tuple.tupleExact acc.toList.toArray >>= fun v => ret v) _ _ _
  unfold Builtin.Tuple.tupleExact
  rw [Array.toArray_toList]
  refine wpAny_bind (wpAny_newObj_type (wpAny_pure ?_) (by show acc.size ≤ sizeLine; rw [hacc.1]; exact hn))
  exact ⟨⟨_, Heap.get?_push_size _ rfl, rfl⟩, q h' tk acc hk hacc⟩
end
theorem dk_items {P : Program} {w : World} {kvs : List (Key × V)} {vs : List (Key × Value)} {acc : Array Value} (rk : KV kvs vs) (ia : ItemsOf (fun i v => ∃ k x, vs[i]? = some (k, x) ∧ (mixKind P w).is k v = true) acc vs.length) : Vals (kvs.map fun kv => kV kv.1) acc.toList := by
  refine vals_of_at (by rw [List.length_map]; exact (Paired.length rk).trans (ia.1.symm.trans Array.length_toList.symm)) fun j x u h1 h2 => ?_
  obtain ⟨k, y, hky, hi⟩ := ia.2 j u (by rw [← Array.getElem?_toList]; exact h2)
  have e1 : (kvs.map (·.1))[j]? = some k := by rw [KV.keys rk, List.getElem?_map, hky] <;> rfl
  rw [show (kvs.map fun kv => kV kv.1) = (kvs.map (·.1)).map kV by rw [List.map_map] <;> rfl, List.getElem?_map, e1] at h1
  cases h1
  exact keyIs_rel hi
def rTupD : List V → Hp → VK → Prop := fun xs H Q => ∃ p kvs, xs = [.ref p] ∧ H p = some (.dK kvs) ∧ ∀ q, H q = none → Q (.ref q) (upd H q (.tup (kvs.map fun kv => kV kv.1)))
theorem call_tuple_dK {X : Cx} (hc : X.calm = true) : CallR X (.type "tuple") rTupD := by
  intro pins s σ H xs us Q I r h
  obtain ⟨p, kvs, rfl, hk, q⟩ := h
  rw [Vals.ref1 r]
  obtain ⟨z, lo, vs, rk, hd⟩ := (show ObjOk X.prog X.w H s.heap p (.dK kvs) from I.hok p _ hk)
  obtain ⟨ep, hat⟩ := hd.dictAt
  have hl : kvs.length = vs.length := Paired.length rk
  refine tuple_src (PySem.W.kdl_dict (knd := mixKind X.prog X.w) (kvs := vs) (ep := ep) lo) (I.ok.hd hc) hat (by rw [← hl]; exact z) fun h' tk acc keep ia => ?_
  have I1 : Inv X pins σ H { s with heap := h', toks := tk } := I.kept (t' := tk) keep
  refine ⟨.ref h'.objs.size, upd H h'.objs.size (.tup (kvs.map fun kv => kV kv.1)), I1.laid (t' := tk) (fun b o e => Heap.get?_push_of_some _ e) (Nat.le_refl _) (show ObjOk X.prog X.w _ _ _ (.tup (kvs.map fun kv => kV kv.1)) from ⟨?_, acc.toList, dk_items rk ia, by rw [Array.toArray_toList]; exact IsTup.new _ _⟩), rfl, q _ (I1.hok.fresh (Nat.le_refl _))⟩
  rw [List.length_map]
  exact z
end L2

/-! len(o), k in o, o[k] by own __len__, __contains__, __getitem__ -/
namespace L2
open PySem PySem.Spec PyProof.Rows
section
variable {X : Cx} {CX : CXT} {C f : Addr} {fd : FuncData} {ps : List Str} {sp : Sp} {k : Nat} {E : XK}
theorem call_ownA (F : FnOk X.prog X.w X.K X.mg X.base CX k f fd ps sp) (hb : Binds X.K fd ps []) {A : Around} (hr : Room k A) (hA : A.frames = X.A.frames) (hx : Passes CX X E) {pins : List (Addr × Obj)} {s : Shared} {σ : St} {H : Hp} {us : List Value} {vs : List V} {Q : VK}
    (I : Inv X pins σ H s) (r : Vals vs us) (h : sp vs H Q E) : wpAny (model X.prog X.w) A (call (.ref f) us) (EP X pins σ Q) X.xe s := by
  have e := I.env0
  have e0 : Env0 X.prog X.w X.K X.mg X.base A X.stack s H := ⟨by rw [hA]; exact e.frames, e.mod, e.bs, e.bsz, e.funs, e.frf, e.hok, e.bare⟩
  have hl : us.length = ps.length := by rw [← r.length]; exact F.len _ _ _ _ h
  have hbd := hb s us I.kIn (by simpa using hl)
  rw [List.append_nil] at hbd
  refine wpAny_call (codeAny_mono (F.run A X.stack s H ⟨us, []⟩ us vs Q E hr e0 hbd r h) fun r z hq => ?_)
  cases r with
  | error e => exact hx pins σ H s e z I hq
  | ok fl =>
    cases fl with
    | ret w => exact I.after hq
    | next => exact False.elim hq
    | brk => exact False.elim hq
    | cont => exact False.elim hq
/-- an own special method -/
structure OwnSp (K : PySem.W.Frag) (C f : Addr) (name : Str) : Prop where
  fi : PySem.W.findIn K (.ref C) name = some (some (.ref f))
  fn : PySem.W.isFn K (.ref f) = true
def rInO (C : Addr) (sp : Sp) (E : XK) (fl : Bool → Bool) : R2 := fun x y H Q => ∃ a dx fs, y = .ref a ∧ H a = some (.ins C dx fs) ∧ sp [.ref a, x] H (fun v H' => ∃ r, v = .bl r ∧ Q (.bl (fl r)) H') E
theorem has_own (F : FnOk X.prog X.w X.K X.mg X.base CX k f fd ps sp) (T : OwnSp X.K C f "__contains__") (hb : Binds X.K fd ps []) (hr : Room k X.A) (hx : Passes CX X E) {pins : List (Addr × Obj)} {s : Shared} {σ : St} {H : Hp} {a dx : Addr} {fs : List (Str × V)} {x : V} {v : Value} {Q : Bool → Shared → Prop} {R : Bool → Hp → Prop} (I : Inv X pins σ H s) (rx : RelV x v) (ha : H a = some (.ins C dx fs))
    (h : sp [.ref a, x] H (fun v H' => ∃ r, v = .bl r ∧ R r H') E) (q : ∀ r z H', Inv X pins σ H' z → R r H' → Q r z) : wpAny (model X.prog X.w) X.A (contains (.ref a) v) Q X.xe s := by
  obtain ⟨mA, J, _⟩ := ins_get I.hok ha
  obtain ⟨od, J, _⟩ := J.look
  have KX := I.kIn
  have sp : PySem.W.Looks (model X.prog X.w) s.heap (specialOf (.ref a) "__contains__") (some (.ref f)) := J.type.andThen (PySem.W.looks_findIn KX T.fi)
  unfold contains
  refine wpAny_holding ?_
  rw [show stdlibNamesSay? (.ref a) v = none by rfl]
  dsimp only
  refine wpAny_bind (sp.here ?_)
  refine wp_if_neg (by rw [show ((some (Value.ref f) : Option Value) == some Value.none) = false by rfl]; exact Bool.false_ne_true) ?_
  first
    | refine wpAny_bind ?_
    | refine wpAny_bind (wpAny_pure (wpAny_bind ?_))
  unfold callSpecialUnlessNone?
  refine wpAny_bind (sp.here (wpAny_holding (wpAny_bind ((PySem.W.bind_fn KX _ (beq_iff_eq.mp T.fn)).here ?_))))
  dsimp only
  refine wp_if_neg (by rw [show (Value.ref f == Value.none) = false by rfl]; exact Bool.false_ne_true) ?_
  first
    | refine wpAny_bind ?_
    | refine wpAny_bind (wpAny_pure (wpAny_bind ?_))
  refine thn (call_ownA F hb hr rfl hx I (.cons (show RelV (.ref a) (.ref a) from rfl) (.cons rx .nil)) h) fun w z hw => ?_
  obtain ⟨y, H', I', ry, r, rfl, qq⟩ := hw
  obtain rfl : w = Value.bool r := ry
  exact wpAny_pure (wpAny_truthy_bool (q r z H' I' qq))
theorem op_inO (F : FnOk X.prog X.w X.K X.mg X.base CX k f fd ps sp) (T : OwnSp X.K C f "__contains__") (hb : Binds X.K fd ps []) (hr : Room k X.A) (hx : Passes CX X E) : OpR X (compareOp .In) (rInO C sp E id) := by
  intro pins s σ H x y v u Q I rx ry h
  obtain ⟨a, dx, fs, rfl, ha, h⟩ := h
  cases ry
  show wpAny _ _ (do return Value.bool (← contains (.ref a) v)) _ _ s
  exact wpAny_bind (has_own (R := fun r H' => Q (.bl r) H') F T hb hr hx I rx ha h fun r z H' I' q => wpAny_pure ⟨.bl r, H', I', rfl, q⟩)
theorem op_notinO (F : FnOk X.prog X.w X.K X.mg X.base CX k f fd ps sp) (T : OwnSp X.K C f "__contains__") (hb : Binds X.K fd ps []) (hr : Room k X.A) (hx : Passes CX X E) : OpR X (compareOp .NotIn) (rInO C sp E not) := by
  intro pins s σ H x y v u Q I rx ry h
  obtain ⟨a, dx, fs, rfl, ha, h⟩ := h
  cases ry
  show wpAny _ _ (do return Value.bool (!(← contains (.ref a) v))) _ _ s
  exact wpAny_bind (has_own (R := fun r H' => Q (.bl (!r)) H') F T hb hr hx I rx ha h fun r z H' I' q => wpAny_pure ⟨.bl (!r), H', I', rfl, q⟩)
/-- len(o) -/
def rLenO (C : Addr) (sp : Sp) (E : XK) : List V → Hp → VK → Prop := fun xs H Q => ∃ a dx fs, xs = [.ref a] ∧ H a = some (.ins C dx fs) ∧ sp [.ref a] H (fun v H' => ∃ n : Nat, v = .int n ∧ n < 2 ^ 62 ∧ Q (.int n) H') E
theorem call_lenO (F : FnOk X.prog X.w X.K X.mg X.base CX k f fd ps sp) (T : OwnSp X.K C f "__len__") (hb : Binds X.K fd ps []) (hr : Room k X.A.in1) (hx : Passes CX X E) : CallR X (.builtin "len") (rLenO C sp E) := by
  intro pins s σ H xs us Q I r h
  obtain ⟨a, dx, fs, rfl, ha, h⟩ := h
  rw [Vals.ref1 r]
  obtain ⟨mA, J, _⟩ := ins_get I.hok ha
  obtain ⟨od, J, _⟩ := J.look
  refine Calls.call_function_entry kind_len plain_len entry_len (args_len1 _) ?_
  unfold Builtin.«len»
  refine wpAny_bind (m := oneArg "len" _) (wpAny_pure ?_)
  refine wpAny_bind (m := callSpecial? (.ref a) (Str.ofString "__len__")) (PySem.W.special_fn (name := Str.ofString "__len__") I.kIn J T.fi (beq_iff_eq.mp T.fn) ?_)
  refine thn (call_ownA (A := X.A.in1) F hb hr rfl hx I (.cons (show RelV (.ref a) (.ref a) from rfl) .nil) h) fun w z hw => ?_
  obtain ⟨y, H', I', ry, n, rfl, hn, q⟩ := hw
  obtain ⟨t, rfl⟩ := ry
  dsimp only
  refine wpAny_bind (wpAny_holding (wpAny_pure ?_))
  refine wpAny_bind (wpAny_letGo ?_)
  have h1 : ¬ ((n : Int) < 0) := by omega
  have h2 : ¬ ((n : Int) ≥ 2 ^ 63) := by omega
  refine wp_if_neg h1 ?_
  first
    | refine wp_if_neg h2 ?_
    | refine wpAny_bind (wpAny_pure (wp_if_neg h2 ?_))
  first
    | exact wpAny_bind (wpAny_mkInt (wpAny_pure ⟨_, rfl, .int n, H', I'.tok _, ⟨_, rfl⟩, q⟩))
    | exact wpAny_bind (wpAny_pure (wpAny_bind (wpAny_mkInt (wpAny_pure ⟨_, rfl, .int n, H', I'.tok _, ⟨_, rfl⟩, q⟩))))
/-- o[k] -/
def rIxO (C : Addr) (sp : Sp) (E : XK) : R2 := fun x y H Q => ∃ a dx fs, x = .ref a ∧ H a = some (.ins C dx fs) ∧ sp [.ref a, y] H Q E
theorem pe_ixO {a b : Expr} {ta tb : TE} {pos : Pos} (F : FnOk X.prog X.w X.K X.mg X.base CX k f fd ps sp) (T : OwnSp X.K C f "__getitem__") (hf : PySem.W.fnIn X.K f = true) (hb : Binds X.K fd ps []) (hr : Room k X.A.in1) (hx : Passes CX X E) (ha : PE X a ta) (hbb : PE X b tb)
    (hs : ∀ o i, subscripted b true o i = runValue (.builtin "lifetime.subscript" ⟨[o, i], []⟩) := by intro _ _; rfl) : PE X (.Subscript a b pos) (tOp (rIxO C sp E) ta tb) := by
  refine ⟨fun pins s σ H Q I h => ?_⟩
  refine Subscript_ (binT ha hbb I h fun v u s2 x y H2 I2 rx ry q => ?_)
  obtain ⟨p, dx, fs, rfl, hp, q⟩ := q
  cases rx
  obtain ⟨mA, J, _⟩ := ins_get I2.hok hp
  obtain ⟨od, J, _⟩ := J.look
  obtain ⟨m, hF⟩ := I2.fr
  exact PySem.W.sub_K hF I2.ok.mod.kin J T.fi hf T.fn (call_ownA (A := X.A.in1) F hb hr rfl hx I2 (.cons (show RelV (.ref p) (.ref p) from rfl) (.cons ry .nil)) q) (hs _ _)
end
end L2

/-! == of two dicts with tuple keys that hold the very same objects, or that are of unlike lengths -/
namespace L2
open PySem PySem.Spec PyProof.Rows
section
variable {prog : Program} {w : World} {K : Type} [DecidableEq K] {knd : HeapKind prog w K} {A : Around} {E : Value → Shared → Prop} {s : Shared}
theorem same_objs {nm : String} {a b : Addr} {xa xb : List (K × Addr × Value)} {Q : Bool → Shared → Prop} (hu : knd.room A) (ha : (a == sysModules) = false) (hb : (b == sysModules) = false) (da : s.heap.DictOfH knd a xa) (db : s.heap.DictOfH knd b xb)
    (hits : xa.length = xb.length → ∀ x ∈ xa, ∃ q r, x.2.2 = .ref r ∧ (x.1, q, Value.ref r) ∈ xb) (q : Q (decide (xa.length = xb.length)) s) : wpAny (model prog w) A (Builtin.Dict.samePairs nm a b) Q E s := by
  obtain ⟨oa, ea, pa, goa, _, gda, hea, hia, hna⟩ := da
  obtain ⟨ob, eb, pb, gob, _, gdb, heb, hib, hnb⟩ := db
  have sa : ea.size = xa.length := size_of_entries hea
  have sb : eb.size = xb.length := size_of_entries heb
  unfold Builtin.Dict.samePairs Builtin.Dict.showsAll
  rw [if_neg (show ¬ (a == sysModules) = true by rw [ha]; exact Bool.false_ne_true), if_neg (show ¬ (b == sysModules) = true by rw [hb]; exact Bool.false_ne_true)]
  refine wpAny_bind (wpAny_pure (wpAny_bind (wpAny_pure ?_)))
  refine wpAny_bind (wpAny_dictEntries goa gda ?_)
  dsimp only
  refine wpAny_bind (wpAny_dictEntries gob gdb ?_)
  by_cases hsz : xa.length = xb.length
  case neg =>
    rw [decide_eq_false hsz] at q
    refine wp_if_pos (by rw [sa, sb]; simpa using hsz) ?_
    exact wpAny_bind (wpAny_rule (wpAny_pure q))
  case pos =>
    rw [decide_eq_true hsz] at q
    have hits := hits hsz
    refine wp_if_neg (by rw [sa, sb, hsz]; simp) ?_
    first
      | refine wpAny_bind (wpAny_dictEpoch goa gda ?_)
      | refine wpAny_bind (wpAny_pure (wpAny_bind (wpAny_dictEpoch goa gda ?_)))
    refine wpAny_bind ?_
    rw [Std.Legacy.Range.forIn_eq_forIn_range']
    simp only [Std.Legacy.Range.size, Nat.sub_zero, Nat.add_sub_cancel, Nat.div_one]
    refine wpAny_forIn_list _ (fun rest r z => z = s ∧ r = (none, ()) ∧ ∀ i ∈ rest, i < xa.length) _ ?_ ?_ _ _ ⟨rfl, rfl, fun i hi => ?_⟩
    · rintro i rest r z ⟨rfl, rfl, hall⟩
      have hlt := hall i List.mem_cons_self
      have hx : xa[i]? = some xa[i] := List.getElem?_eq_getElem hlt
      have hm : xa[i] ∈ xa := List.getElem_mem hlt
      generalize xa[i] = x at hx hm
      obtain ⟨k, p, v⟩ := x
      obtain ⟨y, t, e, hy⟩ := hits _ hm
      dsimp only at e hy
      subst e
      refine wpAny_bind (wpAny_dictEntries goa gda ?_)
      rw [entry_at hea i, hx]
      show wpAny _ _ (holding [Value.ref p, Value.ref t] _ >>= _) _ _ _
      obtain ⟨j, hj, ej⟩ := List.getElem_of_mem hy
      have hjj : xb[j]? = some (k, y, Value.ref t) := by rw [List.getElem?_eq_getElem hj, ej]
      refine wpAny_bind (wpAny_holding (wpAny_bind (wpAny_dictFind_heap hu (hia _ hm) gob gdb heb hib hnb (fun no => absurd hjj (no j _)) fun j' pq hj' => ?_)))
      obtain rfl : j' = j := idxH_unique hnb hj' hjj
      refine wpAny_bind (wpAny_dictEntries gob gdb ?_)
      rw [entry_at heb j', hjj]
      refine wpAny_holding ?_
      show wpAny _ _ (eqBool (.ref t) (.ref t)) _ _ _
      unfold eqBool
      refine wpAny_holding (wp_if_pos (by simp) (wpAny_bind (wpAny_rule (wpAny_pure ?_))))
      simp only [Bool.not_true, Bool.false_eq_true, if_false]
      first
        | refine wpAny_bind (wpAny_dictEpoch goa gda ?_)
        | refine wpAny_bind (wpAny_pure (wpAny_bind (wpAny_dictEpoch goa gda ?_)))
      refine wp_if_neg (by simp) ?_
      first
        | exact wpAny_pure ⟨rfl, rfl, fun i hi => hall i (.tail _ hi)⟩
        | exact wpAny_bind (wpAny_pure (wpAny_pure ⟨rfl, rfl, fun i hi => hall i (.tail _ hi)⟩))
    · rintro r z ⟨rfl, rfl, _⟩
      exact wpAny_pure q
    · rw [sa] at hi
      have := List.mem_range'.mp hi
      omega
theorem eq_objs {a b : Addr} {xa xb : List (K × Addr × Value)} {Q : Value → Shared → Prop} (hu : knd.room A.in1) (hu2 : A.units < cLine) (ha : (a == sysModules) = false) (hb : (b == sysModules) = false) (da : s.heap.DictOfH knd a xa) (db : s.heap.DictOfH knd b xb)
    (hits : xa.length = xb.length → ∀ x ∈ xa, ∃ q r, x.2.2 = .ref r ∧ (x.1, q, Value.ref r) ∈ xb) (q : Q (.bool (decide (xa.length = xb.length))) s) : wpAny (model prog w) A (compareOp .Eq (.ref a) (.ref b)) Q E s := by
  have ta : s.TypeIs (.ref a) "dict" := let ⟨o, _, _, ho, hx, _⟩ := da; ⟨o, ho, hx.1⟩
  have tb : s.TypeIs (.ref b) "dict" := let ⟨o, _, _, ho, hx, _⟩ := db; ⟨o, ho, hx.1⟩
  refine wpAny_richCompare_same_room (op := .Eq) ta tb PySem.F.slot_dict_eq (wpAny_call_entry PySem.F.slot_dict_eq ta PySem.F.entry_dict_eq ?_ (PySem.F.args_dict_eq_2 _ _)) hu2
  show wpAny _ _ (Builtin.Dict.dictSlotArgs "__eq__" ⟨[.ref a, .ref b], []⟩ >>= _) _ _ s
  refine wpAny_bind ?_
  unfold Builtin.Dict.dictSlotArgs
  refine wpAny_bind (wpAny_notOrdered_dict ta ?_)
  show wpAny _ _ (pure (Value.ref a, Value.ref b)) _ _ s
  refine wpAny_pure (wpAny_bind (wpAny_isInstance (T := "dict") tb PySem.F.sub_dict_dict ?_))
  simp only [Bool.not_true, Bool.false_eq_true, if_false]
  refine wpAny_bind (wpAny_pure (wpAny_bind (wpAny_pure ?_)))
  refine wpAny_bind (same_objs hu ha hb da db hits ?_)
  refine wpAny_pure ⟨_, rfl, (fun x => nomatch x), ?_⟩
  simpa using q
end
theorem kt_hits {H : Hp} {ls : List (List Key × V)} {xb : List (List Key × Addr × Value)} (rb : KT H ls xb) : ∀ {ks : List (List Key × V)} {xa : List (List Key × Addr × Value)}, KT H ks xa → (∀ p ∈ ks, ∃ r, p.2 = .ref r ∧ valV ls p.1 = some (.ref r)) → ∀ x ∈ xa, ∃ q r, x.2.2 = Value.ref r ∧ (x.1, q, Value.ref r) ∈ xb := by
  intro ks xa ra
  induction ra with
  | nil => exact fun _ x hx => nomatch hx
  | @cons p x ks xa h _ more =>
    intro hp y hy
    rcases List.mem_cons.mp hy with rfl | hy
    · obtain ⟨r, e, hv⟩ := hp p List.mem_cons_self
      obtain ⟨e1, _, e3⟩ := h
      rw [e] at e3
      have ev : y.2.2 = Value.ref r := e3
      have z := rb.val p.1
      rw [hv] at z
      cases hk : atKey xb p.1 with
      | none => rw [hk] at z; exact (show False from z).elim
      | some m =>
        rw [hk] at z
        have z : m.2 = Value.ref r := z
        refine ⟨m.1, r, ev, ?_⟩
        unfold atKey at hk
        obtain ⟨t, ht, et⟩ := Option.map_eq_some_iff.mp hk
        have h1 := List.mem_of_find?_eq_some ht
        have h2 : t.1 = p.1 := by simpa using List.find?_some ht
        rw [show (y.1, m.1, Value.ref r) = t by rw [← e1, ← h2, ← et, ← z, ← et]]
        exact h1
    · exact more (fun q hq => hp q (.tail _ hq)) y hy
/-- d == e -/
def rEqT : R2 := fun x y H Q => ∃ a b ks ls, x = .ref a ∧ y = .ref b ∧ H a = some (.dT ks) ∧ H b = some (.dT ls) ∧ (ks.length = ls.length → ∀ p ∈ ks, ∃ r, p.2 = .ref r ∧ valV ls p.1 = some (.ref r)) ∧ Q (.bl (decide (ks.length = ls.length))) H
theorem op_eqT {X : Cx} (hu : X.A.units + 1 < cLine) : OpR X (compareOp .Eq) rEqT := by
  intro pins s σ H x y v u Q I rx ry h
  obtain ⟨a, b, ks, ls, rfl, rfl, ha, hb, hits, q⟩ := h
  cases rx
  cases ry
  obtain ⟨_, ya, xa, ra, da⟩ := dt_of I.hok ha
  obtain ⟨_, yb, xb, rb, db⟩ := dt_of I.hok hb
  have la : ks.length = xa.length := Paired.length ra
  have lb : ls.length = xb.length := Paired.length rb
  refine eq_objs (show X.A.in1.units < cLine from hu) (by omega) ya yb da db (fun e => kt_hits rb ra (hits (by omega))) ⟨.bl (decide (ks.length = ls.length)), H, I, ?_, q⟩
  rw [la, lb]
  rfl
end L2

/-! x(lambda a=e: body): a lambda with one default that it does not read -/
namespace LamX
open L2 PySem PyProof.Rows PySem.Spec
/-- the lambda's name in the tables of code, and what it holds of the names around it -/
abbrev lq (X : Cx) : Str := X.env.qual ++ "<lambda>"
abbrev lclo (X : Cx) (scope : Scope) : List (Str × Addr) := cloFrom X.env.cells scope.names []
/-- the lambda at f, its code at c, the tuple of its default u at D; nobody holds f and D -/
structure LamAt (X : Cx) (H : Hp) (h : Heap) (params : Arguments) (body : Expr) (scope : Scope) (u : Value) (f c D : Addr) : Prop where
  fn : ∃ doc pm ct, h.get? f = some (PySem.W.kdv_obj "<lambda>" (lq X) params (.expr body) scope (lclo X scope) (.ref D) doc pm c ct)
  tup : h.get? D = some (PySem.W.kdv_tup [u])
  off : ∀ b, b = f ∨ b = D → H b = none ∧ b ∉ frs X.stack
/-- a table of codes with one row more -/
def grown (H : Hp) (P : Addr) (ps : Array Value) (pos : Pos) (c : Addr) (q : Str) : Hp := upd (upd H P (.tbl (ps ++ #[rawInt pos.line, rawInt pos.col, .ref c]))) c (CodeO c q)
section
variable {T : List (Addr × Str)} {H : Hp} {P c : Addr} {ps : Array Value} {pos : Pos} {q : Str}
theorem grown_ext (hP : H P = some (.tbl ps)) (new : H c = none) : ExtN H (grown H P ps pos c q) := by
  intro b o hb nt
  have b1 : b ≠ c := ne_of_none hb new
  have b2 : b ≠ P := by
    intro z
    rw [z] at hb
    exact nt ps (Option.some.inj (hb.symm.trans hP))
  exact (upd_ne b1).trans ((upd_ne b2).trans hb)
theorem grown_tabs (hT : Tabs T H) (hP : H P = some (.tbl ps)) (ok : TriplesOk ps.toList) (one : ∀ p ∈ T, p.1 = P → p.2 = q) (new : H c = none) : Tabs T (grown H P ps pos c q) := by
  intro p hp
  obtain ⟨rs, at0, ok0, codes⟩ := hT p hp
  have old : ∀ {d : Addr}, H d = some (CodeO d p.2) → grown H P ps pos c q d = some (CodeO d p.2) := fun h => grown_ext hP new _ _ h codeO_ne
  by_cases same : p.1 = P
  · have er : rs = ps := by
      rw [same, hP] at at0
      injection at0 with z
      injection z with z
      exact z.symm
    subst er
    have el : (rs ++ #[rawInt pos.line, rawInt pos.col, Value.ref c]).toList = rs.toList ++ [rawInt pos.line, rawInt pos.col, .ref c] := Array.toList_append
    refine ⟨_, ?_, by rw [el]; exact PySem.TriplesOk_snoc _ _ _ _ ok, ?_⟩
    · rw [same]
      exact (upd_ne (ne_of_none hP new)).trans upd_same
    · intro p' cv found
      rw [el] at found
      refine (among_app _ ok found).elim (fun z => ?_) fun z => ⟨c, z, by rw [one p hp same]; exact upd_same⟩
      obtain ⟨d, e, k⟩ := codes p' cv z
      exact ⟨d, e, old k⟩
  · refine ⟨rs, (upd_ne (ne_of_none at0 new)).trans ((upd_ne same).trans at0), ok0, fun p' cv found => ?_⟩
    obtain ⟨d, e, k⟩ := codes p' cv found
    exact ⟨d, e, old k⟩
end
section
variable {X : Cx} {pins : List (Addr × Obj)} {σ : L2.St} {H : Hp} {s : Shared}
/-- a new address is nobody's and no frame -/
theorem new_off (I : Inv X pins σ H s) {b : Addr} (le : s.heap.objs.size ≤ b) : H b = none ∧ b ∉ frs X.stack := by
  refine ⟨I.hok.fresh le, fun z => ?_⟩
  cases List.mem_cons.mp (I.stkSub b z) with
  | inl e => exact absurd I.lt (by rw [← e]; exact Nat.not_lt_of_le le)
  | inr e => exact I.nofs le e
theorem lam_made {T : List (Addr × Str)} {c P : Addr} {params : Arguments} {body : Expr} {scope : Scope} {pos : Pos} {E : Value → Shared → Prop} {Q : Value → Shared → Prop} {u : Value} (I : Inv X pins σ H s) (TB : TabB X.base X.mg c P) (code : X.env.code = .ref c)
    (mem : (P, lq X) ∈ T) (one : ∀ p ∈ T, p.1 = P → p.2 = lq X) (hT : Tabs T H) (frees : ∀ y ∈ scope.names, y.2 = .free → ∃ c, X.env.cells.lookup y.1 = some c) (kw : params.kwonlyargs = [])
    (q : ∀ f d D H1 s1, Inv X pins σ H1 s1 → ExtN H H1 → Tabs T H1 → H1 d = some (CodeO d (lq X)) → LamAt X H1 s1.heap params body scope u f d D → Q (.ref f) s1) :
    wpAny (model X.prog X.w) X.A (makeFunction "<lambda>" (lq X) params (.expr body) scope X.env [u] [] [] pos pos.line) Q E s := by
  rw [makeFunction_eq]
  simp only [kw, List.zip_nil_left, List.filterMap_nil, List.isEmpty_nil, List.isEmpty_cons, Bool.false_eq_true, if_false, if_true, pure_bind]
  have I0 : Inv X pins σ H { s with heap := s.heap.push (PySem.W.kdv_tup [u]), toks := s.toks } := I.kept fun _ _ e => Heap.get?_push_of_some _ e
  have hD : (s.heap.push (PySem.W.kdv_tup [u])).get? s.heap.objs.size = some (PySem.W.kdv_tup [u]) := Heap.get?_push_size _ rfl
  have oD := new_off I (Nat.le_refl s.heap.objs.size)
  refine wpAny_bind (wpAny_newTextTuple ?_)
  have sz0 : s.heap.objs.size < (s.heap.push (PySem.W.kdv_tup [u])).objs.size := Heap.lt_size hD
  show wpAny _ _ _ _ _ { s with heap := s.heap.push (PySem.W.kdv_tup [u]), toks := s.toks }
  generalize hz : ({ s with heap := s.heap.push (PySem.W.kdv_tup [u]), toks := s.toks } : Shared) = z at I0
  have ez : z.heap = s.heap.push (PySem.W.kdv_tup [u]) := by rw [← hz]
  rw [← ez] at hD sz0
  generalize s.heap.objs.size = D at hD oD sz0
  obtain ⟨ps, hP, ok, codes⟩ := hT _ mem
  have gP : z.heap.get? P = some (PySem.W.tabObj ps) := I0.hok P _ hP
  have main := I0.mod.glob.keeps I0.bk
  have code0 := TB.code.keeps I0.bk
  have bts := TB.bm.keeps I0.bk
  cases found : codeAmong pos ps.toList with
  | some cv =>
    obtain ⟨d, rfl, hd⟩ := codes pos cv found
    refine PySem.W.kdv_makeTailHit (closure_ok frees) I0.ok.glob main code code0 gP ok found bts fun ct doc h' tk kp le => ?_
    have up : ∀ b o, z.heap.get? b = some o → (h'.push (PySem.W.kdv_obj "<lambda>" (lq X) params (.expr body) scope (lclo X scope) (.ref D) doc ((X.mg "__name__").getD .none) d ct)).get? b = some o := fun b o e => Heap.get?_push_of_some _ (kp b o e)
    refine q _ d D H _ (I0.kept up) (ExtN.refl H) hT hd ⟨⟨doc, _, ct, Heap.get?_push_size _ rfl⟩, up _ _ hD, fun b hb => ?_⟩
    rcases hb with rfl | rfl
    · exact new_off I0 le
    · exact oD
  | none =>
    refine PySem.W.kdv_makeTail (closure_ok frees) I0.ok.glob main code code0 gP ok found TB.gP bts fun d ct doc h' tk ext ge lt rec tab => ?_
    obtain ⟨d', oc, vs, t, e, r1, r2, r3⟩ := rec
    injection e with e
    subst e
    have nd := I0.hok.fresh ge
    have nP : D ≠ P := fun y => by
      rw [y, hP] at oD
      exact nomatch oD.1
    have lay := inv_table (h' := h'.push (PySem.W.kdv_obj "<lambda>" (lq X) params (.expr body) scope (lclo X scope) (.ref D) doc ((X.mg "__name__").getD .none) d ct)) (t' := tk) I0 hP (fun b o nb e => Heap.get?_push_of_some _ (ext b o nb e)) (Heap.get?_push_of_some _ tab) ge ⟨oc, vs, t, Heap.get?_push_of_some _ r1, r2, r3⟩
    have big := Nat.le_trans ge (Nat.le_of_lt lt)
    refine q _ d D (grown H P ps pos d (lq X)) _ lay (grown_ext hP nd) (grown_tabs hT hP ok one nd) upd_same ⟨⟨doc, _, ct, Heap.get?_push_size _ rfl⟩, Heap.get?_push_of_some _ (ext D _ nP hD), fun b hb => ?_⟩
    rcases hb with rfl | rfl
    · exact ⟨(upd_ne (Nat.ne_of_gt lt)).trans ((upd_ne (Nat.ne_of_gt (Nat.lt_of_lt_of_le (Heap.lt_size gP) big))).trans (I0.hok.fresh big)), (new_off I0 big).2⟩
    · exact ⟨(upd_ne (Nat.ne_of_lt (Nat.lt_of_lt_of_le sz0 ge))).trans ((upd_ne nP).trans oD.1), oD.2⟩
/-- one parameter a that the def around does not have, no other own names -/
structure LamD (N : List Str) (a : Str) (sc scope : Scope) : Prop where
  fun_ : scope.kind = .function ∧ scope.isCoroutine = false ∧ scope.isGenerator = false
  own : ∀ y ∈ scope.names, y.2 ≠ .cell ∧ (y.2 = .local → y.1 = a)
  held : ∀ y ∈ scope.names, y.2 = .free → (sc.names.lookup y.1 = some .cell ∨ sc.names.lookup y.1 = some .free)
  par : scope.names.lookup a = some .local
  out : a ∉ N
def lamDB (N : List Str) (a : Str) (sc scope : Scope) : Bool :=
  decide (scope.kind = .function) && !scope.isCoroutine && !scope.isGenerator && (scope.names.all fun y => !decide (y.2 = .cell) && (!decide (y.2 = .local) || y.1 == a) && (!decide (y.2 = .free) || decide (sc.names.lookup y.1 = some .cell) || decide (sc.names.lookup y.1 = some .free))) && decide (scope.names.lookup a = some .local) && !N.any (· == a)
theorem lamD_by {N : List Str} {a : Str} {sc scope : Scope} (h : lamDB N a sc scope = true) : LamD N a sc scope := by
  unfold lamDB at h
  simp only [Bool.and_eq_true, Bool.or_eq_true, Bool.not_eq_true', decide_eq_true_eq, decide_eq_false_iff_not, List.all_eq_true, beq_iff_eq] at h
  obtain ⟨⟨⟨⟨⟨h1, h2⟩, h3⟩, h4⟩, h5⟩, h6⟩ := h
  refine ⟨⟨h1, h2, h3⟩, fun y hy => ⟨(h4 y hy).1.1, fun e => (h4 y hy).1.2.resolve_left fun k => k e⟩, fun y hy e => ?_, h5, fun hm => ?_⟩
  · exact (or_assoc.mp (h4 y hy).2).resolve_left fun k => k e
  · have h7 : (N.any fun x => x == a) = true := List.any_eq_true.mpr ⟨a, hm, beq_self_eq_true a⟩
    exact nomatch h7.symm.trans h6
theorem LamD.has {N : List Str} {a : Str} {scope : Scope} (L : LamD N a X.env.scope scope) (ok : X.Ok) : ∀ y ∈ scope.names, y.2 = .free → ∃ c, X.env.cells.lookup y.1 = some c := fun y hy e => ok.has _ (L.held y hy e)
/-- a cell that the lambda holds is the cell around it, and each free name has one -/
theorem LamD.cell {N : List Str} {a : Str} {scope : Scope} (L : LamD N a X.env.scope scope) (ok : X.Ok) {y : Str} {c : Addr} (h : (lclo X scope).lookup y = some c) : X.env.cells.lookup y = some c := by
  rcases cloFrom_mem (PySem.mem_of_lookup h) with z | ⟨m, e⟩
  · exact nomatch z
  · have ⟨c1, h1⟩ := L.has ok _ m rfl
    rw [e, show X.env.cells.lookup y = some c1 from h1]
    rfl
theorem clo_has {scope : Scope} {y : Str} (h : scope.names.lookup y = some .free) : ∃ c, (lclo X scope).lookup y = some c := mem_lookup (cloFrom_has (acc := []) (PySem.mem_of_lookup h))
/-- the context of the body, when the call has laid its frame -/
theorem lam_entered {HZ : Hp} {s1 : Shared} {a : Str} {m : Str → Option Value} {A : Around} {outer : List Env} {E : XK} {scope : Scope} {f c : Addr} {h1 : Heap} {tk : Nat} (I : Inv X pins σ H s) (L : LamD X.N a X.env.scope scope) (e0 : Env0 X.prog X.w X.K X.mg X.base A outer s1 HZ) (calm : A.handled = none)
    (un : Un (frs X.stack) [] H HZ s.heap s1.heap) (ns : h1.Ns s1.heap.objs.size m) (kp : ∀ b o, s1.heap.get? b = some o → h1.get? b = some o) : Inv (lamCx X A outer s1 HZ E scope f c) [] σ HZ { s1 with heap := h1, toks := tk } := by
  have none_ : ∀ {b : Addr}, b ∉ ([] : List Addr) := fun z => nomatch z
  have through : ∀ {d : Addr} {v : Option Value}, H d = none → s.heap.IsCell d v → h1.IsCell d v := by
    rintro d v n ⟨o, ho, hd⟩
    obtain ⟨sl, ho'⟩ := un.any ho n none_
    exact ⟨_, kp _ _ ho', hd⟩
  have okL : (lamCx X A outer s1 HZ E scope f c).Ok :=
    { mod := e0.mod, kind := L.fun_.1, glob := rfl, blt := rfl, above := Nat.le_refl _, inj := fun x y d h1 h2 => I.ok.inj x y d (L.cell I.ok h1) (L.cell I.ok h2),
      has := fun x hx => (show scope.names.lookup x = some .cell ∨ scope.names.lookup x = some .free from hx).elim (fun z => absurd rfl (L.own _ (PySem.mem_of_lookup z)).1) clo_has,
      cab := fun _ _ z => (nomatch z), hd := fun _ => calm, frames := Around.frames_deeper e0.frames, stk := .inr ⟨rfl, rfl⟩, exf := fun _ z => absurd z none_, bs := e0.bs, bsz := e0.bsz, noex := fun _ _ _ => none_, exfs := fun _ z => absurd z none_, funs := e0.funs, frf := e0.frf }
  refine { ok := okL, os := rfl, bare := e0.bare, base := Un.kept kp, loc := ⟨_, ns, fun i y v hy hv vis => ?_⟩, cell := fun y d h => ?_, free := e0.hok.fresh (Nat.le_refl _), freeC := fun y d h => ?_, pin := fun p hp => (nomatch hp), hok := e0.hok.kept kp, len := I.len }
  · have vis : Vis scope y := vis
    have hy : X.N[i]? = some y := hy
    rcases vis with k | k | k
    · have ea : y = a := (L.own _ (PySem.mem_of_lookup k)).2 rfl
      exact absurd (List.mem_of_getElem? (ea ▸ hy)) L.out
    · exact absurd rfl (L.own _ (PySem.mem_of_lookup k)).1
    · have up := L.held _ (PySem.mem_of_lookup k) rfl
      obtain ⟨m0, -, look⟩ := I.loc
      obtain ⟨r, hr, at0⟩ := look i y v hy hv (.inr up)
      obtain ⟨d, hd⟩ := clo_has (X := X) k
      have hd0 := L.cell I.ok hd
      refine ⟨r, hr, .inr ⟨.inr k, d, hd, ?_⟩⟩
      rcases at0 with ⟨loc, -⟩ | ⟨-, d1, h2, isc⟩
      · have loc : X.env.scope.names.lookup y = some .local := loc
        rcases up with z | z <;> exact nomatch loc.symm.trans z
      · obtain rfl : d = d1 := Option.some.inj (hd0.symm.trans h2)
        exact through (I.freeC y d hd0) isc
  · have hd := L.cell I.ok h
    exact (I.cell y d hd).imp fun v z => through (I.freeC y d hd) z
  · have hd := L.cell I.ok h
    obtain ⟨v, o, ho, -⟩ := I.cell y d hd
    exact un.free d o ho (I.freeC y d hd) none_
/-- what a call ends in is the value of the call's expression -/
theorem call_ends {CX : CXT} {E : XK} {Q : VK} {Y : Cx} {pinsY : List (Addr × Obj)} {τ : L2.St} {G : Hp} {z : Shared} {v : Value} {us : List Value} (J : Inv Y pinsY τ G z) (pass : Passes CX Y E)
    (run : codeAny (model Y.prog Y.w) Y.A (.call v ⟨us, []⟩) (CR CX Y.stack Y.prog Y.w G z Q E) z) : wpAny (model Y.prog Y.w) Y.A (call v us) (EP Y pinsY τ Q) Y.xe z := by
  refine wpAny_call (codeAny_mono run ?_)
  rintro (e | fl) z' k
  · exact pass pinsY τ G z e z' J k
  · cases fl with
    | ret r => exact J.after k
    | _ => exact k.elim
/-- the lambda called with nothing, in the def that got it -/
theorem pe_actD {CXg : CXT} {Eg : XK} {Ng : List Str} {qg : Str} {sg : Scope} {g f c D : Addr} {cdg u : Value} {params : Arguments} {body : Expr} {scope : Scope} {k i : Nat} {a par : Str} {pn : List (Addr × Obj)} {xe : Value → Shared → Prop} {W : WX} {E : XK} {tb : TE} {p1 p2 : Pos} {Y : Cx}
    (eY : Y = (cxOf CXg X.prog X.w X.K X.mg X.base Ng qg sg g cdg X.A X.stack s H Eg).tr pn xe) (I : Inv X pins σ H s) (L : LamD X.N par X.env.scope scope) (F : LamAt X H s.heap params body scope u f c D)
    (binds : ∀ doc pm ct, ∃ k, bindArgs (PySem.W.kdv_fn "<lambda>" (lq X) params (.expr body) scope (lclo X scope) (.ref D) doc pm (.ref c) ct) ⟨[], []⟩ = seqItems? (.ref D) >>= k ∧ k (some #[u]) = pure [(par, u)])
    (tk : Takes Y W) (up : ∀ cls d τ G, E cls d G → W cls d τ G) (room : Room (k + 1) (X.A.deeper (envOfC qg sg s.heap.objs.size g cdg)))
    (hb : ∀ A outer s H, Room k (A.deeper (lamEnv X scope s.heap.objs.size f c)) → PE (lamCx X A outer s H E scope f c) body tb)
    (hN : Ng[i]? = some a) (vis : Vis sg a) (hd : (a == ("__debug__" : Str)) = false) (hcd : (a == ("__classdict__" : Str)) = false) :
    PE Y (.Call (.Name a p1) [] [] p2) fun τ G Q => τ[i]? = some (some (.ref f)) ∧ G c = some (CodeO c (lq X)) ∧ tb σ G Q := by
  subst eY
  constructor
  rintro pinsY sY τ G Q J ⟨at0, cod, rd⟩
  refine wpAny_Call_Name_kw (thn ((pe_var (pos := p1) hN vis hd hcd).run pinsY sY τ G (fun v G' => v = .ref f ∧ G' = G) J ⟨_, at0, rfl, rfl⟩) ?_)
  rintro y s1 ⟨v, G1, J1, rel, rfl, rfl⟩
  obtain rfl : y = Value.ref f := rel
  obtain ⟨doc, pm, ct, hf⟩ := F.fn
  have un : Un (frs X.stack) [] H G1 s.heap s1.heap := J1.base
  have hf1 := un.keep f _ hf (F.off f (.inl rfl)).1 (F.off f (.inl rfl)).2 (fun z => nomatch z)
  have hD1 := un.keep D _ F.tup (F.off D (.inr rfl)).1 (F.off D (.inr rfl)).2 (fun z => nomatch z)
  obtain ⟨⟨oc, vs, t, k1, k2, k3⟩, -, -⟩ := J1.hok c _ cod
  refine PySem.W.callWith_F0 ⟨_, _, _, _, hf1⟩ ?_
  refine call_ends (us := []) J1 (passes_call tk up) (PySem.W.kla_callFunE room.depth hf1 rfl L.fun_.2.1 L.fun_.2.2 rfl ⟨c, oc, vs, t, rfl, k1, k2, k3⟩ ?_)
  obtain ⟨kk, b1, b2⟩ := binds doc pm ct
  rw [b1]
  refine wpAny_bind (wpAny_seqItems hD1 rfl ?_)
  rw [show [u].toArray = #[u] from rfl, b2]
  refine wpAny_pure (wpAny_newFunctionEnv (fun y hy => (L.own y hy).1) (fun y hy => List.mem_singleton.mp hy ▸ L.par) (fun h1 ns sb => ⟨J1.nolimit.fresh _ sb, ?_⟩) L.fun_.1)
  have ent := lam_entered (E := E) (f := f) (c := c) (tk := s1.toks + [(par, u)].length) I L J1.env0 room.hd un ns fun b o e => sb.extBut b o (Nat.ne_of_lt (Heap.lt_size e)) (Heap.get?_push_of_some _ e)
  exact PySem.W.kla_codeExpr (wpAny_mono ((hb _ _ s1 G1 (room.deeper _)).run [] _ _ G1 Q ent rd) (fun _ _ ⟨w', G2, J2, rv, fin⟩ => ⟨w', G2, J2.os, J2.bare, J2.base, J2.hok, rv, fin⟩) fun _ _ z => z)
/-- x(lambda par=e: body) -/
theorem pe_lamcallD {T : List (Addr × Str)} {TT : (XK → Hp → VK → Prop) → Hp → VK → Prop} {x a par : Str} {g c P : Addr} {k : Nat} {pg : Arguments} {bg : List Stmt} {sg : Scope} {dV kV doc pm cdv ct oc : Value} {an od : Option Addr} {osl : Array (Option Value)} {Ng : List Str}
    {params : Arguments} {body e : Expr} {scope : Scope} {t : XK → TE} {p lpos pos : Pos} {n : Int} (hg : Gl X x) (hm : X.mg x = some (.ref g)) (hk : PySem.W.keepIn X.K (.ref g) = true)
    (lk : X.K.lookup g = some ⟨oc, od, .func (PySem.W.fnOf x x pg bg sg dV kV doc pm an cdv ct), osl⟩) (cg : PySem.W.codeIn X.K cdv x = true) (bs : L2.Binds X.K (PySem.W.fnOf x x pg bg sg dV kV doc pm an cdv ct) [a] []) (Sg : FnScope Ng [a] sg) (hNg : Ng[0]? = some a) (vis : Vis sg a)
    (hG : GivesTo X Ng x sg g cdv bg a (lq X) TT) (TB : TabB X.base X.mg c P) (code : X.env.code = .ref c) (mem : (P, lq X) ∈ T) (one : ∀ p ∈ T, p.1 = P → p.2 = lq X) (room : Room (k + 2) X.A) (L : LamD X.N par X.env.scope scope) (he : PE X e (tC (.int n))) (dfs : defaultsOf params X.env = ([eval e X.env], [])) (kw : params.kwonlyargs = [])
    (binds : ∀ (q : Str) (cl : List (Str × Addr)) (pm cv ctv u : Value) (D : Addr) (doc : Value), ∃ k, bindArgs (PySem.W.kdv_fn "<lambda>" q params (.expr body) scope cl (.ref D) doc pm cv ctv) ⟨[], []⟩ = seqItems? (.ref D) >>= k ∧ k (some #[u]) = pure [(par, u)])
    (hb : ∀ (A : Around) (outer : List Env) (s : Shared) (H : Hp) (E : XK) (f c : Addr), Room k (A.deeper (lamEnv X scope s.heap.objs.size f c)) → PE (lamCx X A outer s H E scope f c) body (t E))
    (h1 : (x == ("__debug__" : Str)) = false := by decide) (h2 : (a == ("__debug__" : Str)) = false := by decide) (h3 : (a == ("__classdict__" : Str)) = false := by decide) : PE X (.Call (.Name x p) [.Lambda params body scope lpos] [] pos) (tLam T TT t) where
  run pins s σ H Q I := by
    rintro ⟨tabs, give⟩
    have arm : wpAny (model X.prog X.w) X.A (eval (.Lambda params body scope lpos) X.env) (fun v s1 => ∃ f d D H1, v = .ref f ∧ Inv X pins σ H1 s1 ∧ ExtN H H1 ∧ Tabs T H1 ∧ H1 d = some (CodeO d (lq X)) ∧ ∃ u, LamAt X H1 s1.heap params body scope u f d D) X.xe s := by
      rw [arm_eval_Lambda, dfs]
      refine wpAny_bind (wpAny_bind (thn (he.run pins s σ H (fun _ G => G = H) I rfl) ?_))
      rintro u s0 ⟨_, _, I0, -, rfl⟩
      refine wpAny_bind (wpAny_holding (wpAny_pure (wpAny_pure (wpAny_bind (wpAny_holding (wpAny_pure ?_))))))
      exact lam_made I0 TB code mem one tabs (L.has I0.ok) kw fun f d D H1 s1 I1 ext tabs1 cod F => ⟨f, d, D, H1, rfl, I1, ext, tabs1, cod, u, F⟩
    refine wpAny_Call_Name_kw (ld_glob I hg hm (PySem.W.callWith_K (h₀ := X.base) I.ok.mod.kin hk ?_ (by rfl) (by rfl)) h1)
    show wpAny _ _ (spliced ((false, eval (.Lambda params body scope lpos) X.env) :: backTo pos (starEach [] X.env))) _ _ s
    refine Calls.spliced_cons (thn arm ?_)
    rintro v s1 ⟨f, d, D, H1, rfl, I1, ext, tabs1, cod, u, F⟩
    refine Calls.spliced_nil ⟨I1.kIn, call_ends (CX := C8.CX0) (E := C8.E0) I1 pass0 (run_ofS (N := Ng) (ps := [a]) (us := [.ref f]) (vs := [.ref f]) lk cg Sg room I1.env0 (bs s1 [.ref f] I1.kIn rfl) (.cons rfl .nil) rfl fun room1 => ?_)⟩
    obtain ⟨t1, ps1, rd1⟩ := hG f d s1 H1 Q (fun E G Q' => t E σ G Q') (fun W pn xe E p1 p2 tk up => pe_actD rfl I1 L F (fun doc pm ct => binds _ _ pm _ ct u D doc) tk up room1 (fun A outer s H r => hb A outer s H E f d r) hNg vis h2 h3) cod (give H1 ext tabs1)
    exact ⟨t1, ps1.nox, rd1⟩
end
end LamX

/-! t[::-1], t a tuple -/
namespace L2
open PySem PySem.Spec PyProof.Rows
section
variable {prog : Program} {w : World} {A : Around} {E : Value → Shared → Prop} {s : Shared}
theorem adjust_back (n : Nat) : Builtin.Slice.sliceAdjust none none (-1) (n : Int) = ((n : Int) - 1, -1) := by
  unfold Builtin.Slice.sliceAdjust
  simp
theorem places_back (n : Nat) : Builtin.Slice.slicePlaces ((n : Int) - 1) (-1) (-1) = n := by
  unfold Builtin.Slice.slicePlaces
  simp only [show ¬ ((-1 : Int) > 0) by decide, if_false, show (- -1 : Int) = 1 by decide, Int.ediv_one]
  split <;> omega
theorem pick_back (xs : Array Value) : ((List.range xs.size).filterMap fun (k : Nat) => xs[(((xs.size : Int) - 1) + (k : Int) * -1).toNat]?).toArray = xs.toList.reverse.toArray := by
  rw [← PySem.W.krv_pick]
  unfold slicePick
  rw [PySem.W.krv_bounds]
  show _ = ((sliceRange ((xs.size : Int) - 1) (-1) (-1)).filterMap (xs[·]?)).toArray
  rw [PySem.W.krv_sliceRange, List.filterMap_map]
  have same : ∀ l : List Nat, (∀ k ∈ l, k < xs.size) → l.filterMap (fun (k : Nat) => xs[(((xs.size : Int) - 1) + (k : Int) * -1).toNat]?) = l.filterMap ((fun x => xs[x]?) ∘ fun k => xs.size - 1 - k) := by
    intro l
    induction l with
    | nil => exact fun _ => rfl
    | cons k l more =>
      intro h
      have hk := h k List.mem_cons_self
      rw [List.filterMap_cons, List.filterMap_cons, more fun j hj => h j (.tail _ hj), show (((xs.size : Int) - 1) + (k : Int) * -1).toNat = xs.size - 1 - k by omega]
      rfl
  rw [same _ fun k hk => List.mem_range.mp hk]
theorem getItem_tuple_back {t sl : Addr} {items : Array Value} {vl vu vs : Value} {Q : Value → Shared → Prop} (ht : IsTup s.heap t items) (hs : s.heap.IsSliceOf sl vl vu vs) (pl : IsPart vl none) (pu : IsPart vu none) (ps : IsPart vs (some (-1)))
    (h : Q (.ref s.heap.objs.size) { s with heap := s.heap.push { cls := .type "tuple", data := .seq items.toList.reverse.toArray } }) (hsz : items.size ≤ sizeLine) : wpAny (model prog w) A (getItem (.ref t) (.ref sl)) Q E s := by
  have fit : sizeOk (.seq items.toList.reverse.toArray) := by
    show items.toList.reverse.toArray.size ≤ sizeLine
    rwa [List.size_toArray, List.length_reverse, Array.length_toList]
  obtain ⟨os, gos, gcs, gds⟩ := id hs
  have tys : s.TypeIs (.ref sl) "slice" := ⟨os, gos, gcs⟩
  unfold getItem
  try with_reducible refine wpAny_holding ?_
  first | refine wpAny_bind (wpAny_pure ?_) | skip
  refine wpAny_bind (wpAny_sequenceKey ht.typeIs (by decide) ?_)
  refine wpAny_bind (wpAny_callSpecial?_slot (name := Str.ofString "__getitem__") ht.typeIs PyProof.Rows.slot_tuple_getitem (wpAny_call_entry PyProof.Rows.slot_tuple_getitem ht.typeIs entry_tuple_getitem ?_ (args_tuple_getitem _ _)))
  show wpAny _ _ (Builtin.Tuple.tupleItemsOf (.ref t) >>= _) _ _ s
  refine wpAny_bind (tupleItemsOf_ ht (wpAny_bind (wpAny_typeOf tys ?_)))
  rw [if_pos (by decide)]
  refine wpAny_bind (m := Builtin.Slice.sliceApplied (.ref sl) (pure ((items.size : Nat) : Int))) ?_
  unfold Builtin.Slice.sliceApplied Builtin.Slice.sliceFields
  refine wpAny_bind (wpAny_bind (wpAny_field gos gds (x := vl) rfl (wpAny_bind (wpAny_field gos gds (x := vu) rfl (wpAny_bind (wpAny_field gos gds (x := vs) rfl (wpAny_pure ?_)))))))
  refine wpAny_bind (HT.slicePart_ ps ?_)
  refine wp_if_neg (by decide) ?_
  refine wpAny_bind (HT.slicePart_ pl (wpAny_bind (HT.slicePart_ pu (wpAny_bind (wpAny_pure ?_)))))
  show wpAny _ _ (match Builtin.Slice.sliceAdjust none none (-1) (items.size : Int) with | (lo, hi) => pure (lo, (-1 : Int), Builtin.Slice.slicePlaces lo hi (-1))) _ _ s
  rw [adjust_back]
  show wpAny _ _ (pure ((items.size : Int) - 1, (-1 : Int), Builtin.Slice.slicePlaces ((items.size : Int) - 1) (-1) (-1))) _ _ s
  rw [places_back]
  refine wpAny_pure ?_
  dsimp only
  refine wp_if_neg (by simp) ?_
  rw [pick_back]
  first
    | exact wpAny_bind (m := Builtin.Tuple.tupleExact _) (wpAny_newObj_type (wpAny_pure ⟨_, rfl, wpAny_pure h⟩) fit)
    | exact wpAny_bind (m := Builtin.Tuple.tupleExact _) (wpAny_newObj_type (wpAny_bind (wpAny_pure (wpAny_pure ⟨_, rfl, wpAny_pure h⟩))) fit)
    | exact wpAny_bind (wpAny_bind (m := Builtin.Tuple.tupleExact _) (wpAny_newObj_type (wpAny_pure (wpAny_pure ⟨_, rfl, wpAny_pure h⟩)) fit))
    | exact wpAny_bind (wpAny_bind (m := Builtin.Tuple.tupleExact _) (wpAny_newObj_type (wpAny_pure ⟨_, rfl, wpAny_pure h⟩) fit))
end
section
variable {X : Cx}
def tRevT (K : PySem.W.Frag) (te : TE) : TE := fun σ H Q => te σ H fun x H1 => ∃ a xs, x = .ref a ∧ SqT K H1 a xs ∧ ∀ p, H1 p = none → Q (.ref p) (upd H1 p (.tup xs.reverse))
theorem pe_revT {e : Expr} {te : TE} {k : Nat} {p1 p2 p3 pos : Pos} (he : PE X e te) : PE X (.Subscript e (.Slice none none (some (.UnaryOp .USub (.Constant (.int 1) k p1) p2)) p3) pos) (tRevT X.K te) := by
  refine ⟨fun pins s σ H Q I h => ?_⟩
  refine Subscript_ (thn (he.run pins s σ H _ I h) fun v s1 ⟨x, H1, I1, r1, q1⟩ => ?_)
  obtain ⟨a, xs, rfl, hx, q⟩ := q1
  cases r1
  have back : PO X (some (.UnaryOp .USub (.Constant (.int 1) k p1) p2)) (tPart (tUn (rU fun i => .int (-i)) (tC (.int 1)))) := po_some (pe_un un_neg pe_int)
  refine wpAny_Slice (thn (po_none.run pins s1 σ H1 (fun o H2 => o = none ∧ H2 = H1) I1 ⟨rfl, rfl⟩) fun vl s2 ⟨l, H2, I2, pl, el, e2⟩ => ?_)
  subst el e2
  refine thn (po_none.run pins s2 σ H2 (fun o H3 => o = none ∧ H3 = H2) I2 ⟨rfl, rfl⟩) fun vu s3 ⟨u, H3, I3, pu, eu, e3⟩ => ?_
  subst eu e3
  refine thn (back.run pins s3 σ H3 (fun o H4 => o = some (-1) ∧ H4 = H3) I3 ⟨1, rfl, -1, rfl, rfl, rfl⟩) fun vs s4 ⟨o, H4, I4, ps, eo, e4⟩ => ?_
  subst eo e4
  have I5 : Inv X pins σ H4 { s4 with heap := s4.heap.push { cls := .type "slice", data := .fields #[vl, vu, vs] } } := I4.kept (t' := s4.toks) fun b ob q => Heap.get?_push_of_some _ q
  obtain ⟨its, r, ht, hz⟩ := I5.tuple hx
  show wpAny (model X.prog X.w) X.A (subscriptTail e (.Slice none none (some (.UnaryOp .USub (.Constant (.int 1) k p1) p2)) p3) (.ref a) (.ref s4.heap.objs.size)) (EP X pins σ Q) X.xe { s4 with heap := s4.heap.push { cls := .type "slice", data := .fields #[vl, vu, vs] } }
  refine tail_any (ops := [.ref a, .ref s4.heap.objs.size]) ht.typeIs PyProof.Rows.slot_tuple_getitem.lookup ?_ (by with_unfolding_all rfl)
  have hlen := r.length
  refine getItem_tuple_back ht (Heap.IsSliceOf.new _ vl vu vs) pl pu ps ?_ (by rw [List.size_toArray]; omega)
  refine ⟨.ref _, _, I5.laid (t' := s4.toks) (o := .tup xs.reverse) (fun b ob q => Heap.get?_push_of_some _ q) (Nat.le_refl _) ?_, rfl, q _ (I5.hok.fresh (Nat.le_refl _))⟩
  exact ⟨by rw [List.length_reverse]; exact hz, _, r.reverse, IsTup.new _ _⟩
end
end L2

namespace Half
open PySem PySem.Spec PyProof.Rows L2
/-! ### data of texts, numbers and tuples -/
mutual
inductive TD (K : PySem.W.Frag) (H : Hp) : V → PyData → Prop
  | bl (b : Bool) : TD K H (.bl b) (.bool b)
  | int (i : Int) : TD K H (.int i) (.int i)
  | str (x : Str) : TD K H (.str x) (.str x)
  | tup {a : Addr} {xs : List V} {ds : List PyData} : SqT K H a xs → TDAll K H xs ds → TD K H (.ref a) (.tuple ds)
inductive TDAll (K : PySem.W.Frag) (H : Hp) : List V → List PyData → Prop
  | nil : TDAll K H [] []
  | cons {v : V} {vs : List V} {d : PyData} {ds : List PyData} : TD K H v d → TDAll K H vs ds → TDAll K H (v :: vs) (d :: ds)
end
/-- every tuple stands -/
def Kp (K : PySem.W.Frag) (H H' : Hp) : Prop := ∀ a xs, SqT K H a xs → SqT K H' a xs
theorem _root_.L2.Same.kp {K : PySem.W.Frag} {H H' : Hp} (s : Same H H') : Kp K H H' := fun _ _ h => s.sqT h
theorem Kp.refl {K : PySem.W.Frag} {H : Hp} : Kp K H H := fun _ _ h => h
theorem Kp.trans {K : PySem.W.Frag} {H H1 H2 : Hp} (a : Kp K H H1) (b : Kp K H1 H2) : Kp K H H2 := fun _ _ h => b _ _ (a _ _ h)
theorem Kp.upd {K : PySem.W.Frag} {H : Hp} {p : Addr} {o u : HO} (hp : H p = some o) (h1 : ∀ xs, o ≠ .tup xs) (h2 : ∀ q xs, o ≠ .frz q (.tup xs)) : Kp K H (L2.upd H p u) := fun a xs h => by
  rcases h with (h | ⟨q, h⟩) | h
  · exact .inl (.inl (by rw [upd_ne (ne_of h hp (fun z => h1 _ z.symm))]; exact h))
  · exact .inl (.inr ⟨q, by rw [upd_ne (ne_of h hp (fun z => h2 _ _ z.symm))]; exact h⟩)
  · exact .inr h
mutual
theorem TD.kp {K : PySem.W.Frag} {H H' : Hp} (k : Kp K H H') : ∀ {v : V} {d : PyData}, TD K H v d → TD K H' v d
  | _, _, .bl b => .bl b
  | _, _, .int i => .int i
  | _, _, .str x => .str x
  | _, _, .tup h hs => .tup (k _ _ h) (TDAll.kp k hs)
theorem TDAll.kp {K : PySem.W.Frag} {H H' : Hp} (k : Kp K H H') : ∀ {vs : List V} {ds : List PyData}, TDAll K H vs ds → TDAll K H' vs ds
  | _, _, .nil => .nil
  | _, _, .cons h hs => .cons (TD.kp k h) (TDAll.kp k hs)
end
mutual
theorem TD.dp {K : PySem.W.Frag} {H : Hp} : ∀ {v : V} {d : PyData}, TD K H v d → Dp K H v d
  | _, _, .bl b => .bl b
  | _, _, .int i => .int i
  | _, _, .str x => .str x
  | _, _, .tup h hs => .tup h (TDAll.dp hs)
theorem TDAll.dp {K : PySem.W.Frag} {H : Hp} : ∀ {vs : List V} {ds : List PyData}, TDAll K H vs ds → DpAll K H vs ds
  | _, _, .nil => .nil
  | _, _, .cons h hs => .cons (TD.dp h) (TDAll.dp hs)
end
theorem TDAll.len {K : PySem.W.Frag} {H : Hp} : ∀ {vs : List V} {ds : List PyData}, TDAll K H vs ds → vs.length = ds.length
  | _, _, .nil => rfl
  | _, _, .cons _ hs => congrArg Nat.succ hs.len
theorem TDAll.strs {K : PySem.W.Frag} {H : Hp} : ∀ {vs : List V} {ss : List Str}, TDAll K H vs (ss.map PyData.str) → vs = ss.map V.str
  | _, [], h => by cases h; rfl
  | _, z :: ss, h => by
    cases h with
    | cons h hs =>
      cases h
      rw [TDAll.strs hs]
      rfl
theorem TDAll.pairs {K : PySem.W.Frag} {H : Hp} : ∀ {vs : List V} {ps : List (Str × Int)}, TDAll K H vs (ps.map pairD) → ∃ ts : List Addr, vs = ts.map V.ref ∧ ts.length = ps.length ∧ ∀ (i : Nat) t p, ts[i]? = some t → ps[i]? = some p → SqT K H t [.str p.1, .int p.2]
  | _, [], h => by cases h; exact ⟨[], rfl, rfl, fun i t p h _ => by simp at h⟩
  | _, q :: ps, h => by
    cases h with
    | cons h hs =>
      obtain ⟨ts, rfl, hl, ht⟩ := TDAll.pairs hs
      cases h with
      | @tup a xs ds hq hd =>
        cases hd with
        | cons h1 hd =>
          cases hd with
          | cons h2 hd =>
            cases hd
            cases h1
            cases h2
            refine ⟨a :: ts, rfl, by simp [hl], fun i t p e1 e2 => ?_⟩
            cases i with
            | zero =>
              have z1 : a = t := by simpa using e1
              have z2 : q = p := by simpa using e2
              subst z1 z2
              exact hq
            | succ i => exact ht i t p (by simpa using e1) (by simpa using e2)
theorem TD.strs {K : PySem.W.Frag} {H : Hp} {v : V} {ss : List Str} (h : TD K H v (.tuple (ss.map PyData.str))) : ∃ a, v = .ref a ∧ SqT K H a (ss.map V.str) := by
  cases h with
  | tup hq hd =>
    rw [hd.strs] at hq
    exact ⟨_, rfl, hq⟩
theorem TD.needs {K : PySem.W.Frag} {H : Hp} {v : V} {ps : List (Str × Int)} (h : TD K H v (.tuple (ps.map pairD))) : ∃ a, v = .ref a ∧ NeedsAt K H a ps := by
  cases h with
  | tup hq hd =>
    obtain ⟨ts, rfl, hl, ht⟩ := hd.pairs
    exact ⟨_, rfl, ts, hq, hl, ht⟩
/-! ### displays of written data -/
def Y (K : PySem.W.Frag) (t : TE) (d : PyData) : Prop := ∀ σ H Q, (∀ v H', Same H H' → TD K H' v d → Q v H') → t σ H Q
def YA (K : PySem.W.Frag) (t : TA) (ds : List PyData) : Prop := ∀ σ H Q, (∀ vs H', Same H H' → TDAll K H' vs ds → Q vs H') → t σ H Q
section
variable {K : PySem.W.Frag}
theorem Y.str {z : Str} : Y K (tC (.str z)) (.str z) := fun _ H _ h => h _ H (Same.refl H) (.str z)
theorem Y.int {i : Int} : Y K (tC (.int i)) (.int i) := fun _ H _ h => h _ H (Same.refl H) (.int i)
theorem Y.bl {b : Bool} : Y K (tC (.bl b)) (.bool b) := fun _ H _ h => h _ H (Same.refl H) (.bl b)
theorem YA.nil : YA K tNil [] := fun _ H _ h => h _ H (Same.refl H) .nil
theorem YA.cons {t : TE} {ts : TA} {d : PyData} {ds : List PyData} (a : Y K t d) (b : YA K ts ds) : YA K (tCons t ts) (d :: ds) := fun σ H Q h =>
  a σ H _ fun v H1 s1 t1 => b σ H1 _ fun vs H2 s2 t2 => h (v :: vs) H2 (s1.trans s2) (.cons (t1.kp s2.kp) t2)
theorem Y.tup {ta : TA} {ds : List PyData} (a : YA K ta ds) (hl : ds.length ≤ 100 := by simp) : Y K (tTup ta) (.tuple ds) := fun σ H Q h =>
  a σ H _ fun vs H1 s1 t1 => ⟨by rw [t1.len, sizeLine_eq]; omega, fun p hp => h (.ref p) _ (s1.trans (Same.upd_new hp)) (.tup (.inl (.inl upd_same)) (t1.kp (Same.upd_new hp).kp))⟩
end
/-! ### d[k] = v as a target -/
theorem set_dict {X : Cx} (hu : X.A.units + 1 < cLine) : PSet X (fun o i v H Q => ∃ a H4, o = .ref a ∧ DPut H a i v H4 ∧ Q H4) := by
  intro pins s σ H o i v ov iv u Q I ro ri rv h
  obtain ⟨a, H4, rfl, g, q⟩ := h
  cases ro
  exact d_setItem hu I g ri rv fun s4 I4 => ⟨H4, I4, q⟩
end Half

namespace Half
open PySem PySem.Spec PyProof.Rows L2
abbrev EiPs : List Str := ["self", "name", "version", "scripts", "needs", "first", "against"]
/-- Edition's __init__ as the top has made it, with its defaults -/
structure EdF (P : Program) (w : World) (K : PySem.W.Frag) (mg : Str → Option Value) (base : Heap) (C CE : Addr) (f : Addr) (fd : FuncData) (aS z1 z2 z3 : Addr) : Prop where
  ok : FnOk P w K mg base (L2.CX P w) 6 f fd EiPs (spEi K C CE)
  fn : FunD K "__init__" "Edition.__init__" (defArgs sEi) (defBody sEi) (defScope sEi) [] [("scripts", .ref aS), ("needs", .ref z1), ("first", .ref z2), ("against", .ref z3)] f fd
  make : Mk K C f
  mgC : mg "Edition" = some (.ref C)
  tS : ∀ H, SqT K H aS (SCR.map V.str)
  t1 : ∀ H, SqT K H z1 []
  t2 : ∀ H, SqT K H z2 []
  t3 : ∀ H, SqT K H z3 []
section
variable {P : Program} {w : World} {K : PySem.W.Frag} {mg : Str → Option Value} {base : Heap} {C CE : Addr} {f : Addr} {fd : FuncData} {aS z1 z2 z3 : Addr}
theorem EdF.kb4 (D : EdF P w K mg base C CE f fd aS z1 z2 z3) : ∃ g, KBn K fd EiPs 3 ["scripts", "needs", "first", "against"] g (fun vs zs => vs ++ zs) := by
  obtain ⟨mv, h⟩ := D.fn.kbinds0 (ps := EiPs) 3 ["scripts", "needs", "first", "against"] [] (fun us _ ws => us ++ ws) (by simp) (fun q h => by cases h) (fun r1 _ r3 => r1.append r3)
    (fun D doc pm an cdv ct us mv ws h1 h2 h3 => match us, ws, h1, h3 with | [_, _, _], [_, _, _, _], _, _ => rfl)
  exact ⟨_, h⟩
theorem EdF.kb1 (D : EdF P w K mg base C CE f fd aS z1 z2 z3) : ∃ g, KBn K fd EiPs 3 ["scripts"] g (fun vs zs => vs ++ zs ++ [.ref z1, .ref z2, .ref z3]) := by
  obtain ⟨mv, h⟩ := D.fn.kbinds0 (ps := EiPs) 3 ["scripts"] [("needs", .ref z1), ("first", .ref z2), ("against", .ref z3)] (fun us mv ws => us ++ ws ++ mv) (by simp) (fun q h => List.mem_cons_of_mem _ h) (fun r1 r2 r3 => (r1.append r3).append r2)
    (fun D doc pm an cdv ct us mv ws h1 h2 h3 => match us, mv, ws, h1, h2, h3 with | [_, _, _], [_, _, _], [_], _, _, _ => ⟨_, _, _, _, _, _, rfl, rfl, _, _, _, _, _, _, rfl, rfl, _, _, _, _, _, _, rfl, rfl, rfl⟩)
  exact ⟨_, h⟩
theorem EdF.b0 (D : EdF P w K mg base C CE f fd aS z1 z2 z3) : ∃ ds, Vals [.ref aS, .ref z1, .ref z2, .ref z3] ds ∧ Binds K fd EiPs ds :=
  D.fn.binds0 (ps := EiPs) 3 (by simp) rfl (fun D doc pm an cdv ct us ks h1 h2 => match us, ks, h1, h2 with | [_, _, _], [_, _, _, _], _, _ => ⟨_, _, _, _, _, _, rfl, rfl, _, _, _, _, _, _, rfl, rfl, _, _, _, _, _, _, rfl, rfl, _, _, _, _, _, _, rfl, rfl, rfl⟩)
end
end Half

namespace Half
open PySem PySem.Spec PyProof.Rows L2
/-- a property -/
structure Prp (P : Program) (w : World) (K : PySem.W.Frag) (mg : Str → Option Value) (base : Heap) (C : Addr) (x : Str) (i : Nat) : Prop where
  ex : ∃ p g fd, PropOf K C x p g ∧ FnOk P w K mg base CX0 1 g fd ["self"] (spGet C i) ∧ Binds K fd ["self"] []
theorem pe_prp {X : Cx} {C : Addr} {x : Str} {i : Nat} {e : Expr} {pos : Pos} {ta : TE} (D : Prp X.prog X.w X.K X.mg X.base C x i) (cl : Cls X.K C) (hr : Room 2 X.A) (he : PE X e ta) (hab : attributeBase e x X.env (eval e X.env) = eval e X.env := by rfl) :
    PE X (.Attribute e x pos) (tProp C (spGet C i) [] E0 ta) := by
  obtain ⟨p, g, fd, h1, h2, h3⟩ := D.ex
  exact pe_prop he cl h1 h2 hr h3 .nil pass0 hab
/-- == of editions -/
structure EqF (P : Program) (w : World) (K : PySem.W.Frag) (mg : Str → Option Value) (base : Heap) (C : Addr) : Prop where
  ex : ∃ f fd, FnOk P w K mg base CX0 1 f fd ["self", "other"] (spEq K C) ∧ OwnEqC K C f ∧ Binds K fd ["self", "other"] []
theorem op_eqE {X : Cx} {C : Addr} (D : EqF X.prog X.w X.K X.mg X.base C) (hr : Room 2 X.A) : OpR X (compareOp .Eq) (rEqO C (spEq X.K C) id) := by
  obtain ⟨f, fd, h1, h2, h3⟩ := D.ex
  exact op_eqO h1 h2 h3 (hr.mono (by decide))
theorem op_neE {X : Cx} {C : Addr} (D : EqF X.prog X.w X.K X.mg X.base C) (hr : Room 2 X.A) : OpR X (compareOp .NotEq) (rEqO C (spEq X.K C) not) := by
  obtain ⟨f, fd, h1, h2, h3⟩ := D.ex
  exact op_neO h1 h2 h3 hr
/-- all that the law asks of Edition -/
structure EdAll (P : Program) (w : World) (K : PySem.W.Frag) (mg : Str → Option Value) (base : Heap) (C CE : Addr) : Prop where
  ei : ∃ f fd aS z1 z2 z3, EdF P w K mg base C CE f fd aS z1 z2 z3
  eq : EqF P w K mg base C
  cl : Cls K C
  p0 : Prp P w K mg base C "name" 0
  p1 : Prp P w K mg base C "version" 1
  p2 : Prp P w K mg base C "scripts" 2
  p3 : Prp P w K mg base C "needs" 3
  p4 : Prp P w K mg base C "first" 4
  p5 : Prp P w K mg base C "against" 5
theorem EdIs.ins {K : PySem.W.Frag} {H : Hp} {C a : Addr} {e : Ed} (h : EdIs K H C a e) : ∃ dx fs, H a = some (.ins C dx fs) := by
  obtain ⟨⟨s, n, f, g, ⟨dx, p, h1, h2⟩, h3⟩, _⟩ := h
  exact ⟨dx, _, h1⟩
/-- how a == b of editions is read -/
theorem eqO_read {K : PySem.W.Frag} {H : Hp} {C a b : Addr} {e e' : Ed} {fl : Bool → Bool} {Q : VK} (h1 : EdIs K H C a e) (h2 : EdIs K H C b e') (q : Q (.bl (fl (PyData.eqv e.data e'.data))) H) : rEqO C (spEq K C) fl (.ref a) (.ref b) H Q := by
  obtain ⟨dx, fs, ha⟩ := h1.ins
  obtain ⟨dy, gs, hb⟩ := h2.ins
  exact ⟨a, b, dx, dy, fs, gs, rfl, rfl, ha, hb, a, b, e, e', rfl, h1, h2, _, rfl, q⟩
/-- an edition with nothing but its name and version -/
def edP (nm : Str) (v : Int) : Ed := ⟨nm, .int v, SCR, [], [], []⟩
theorem edP_ok {nm : Str} {v : Int} (h1 : isWord nm = true) (h2 : 1 ≤ v) (h3 : v ≤ 99) : (edP nm v).wrong = none := by
  have a1 : inR (.int v) 1 99 = true := by show (decide (1 ≤ v) && decide (v ≤ 99)) = true; rw [decide_eq_true h2, decide_eq_true h3]; rfl
  have a2 : areScripts SCR = true := by decide +kernel
  have a3 : areNeeds [] nm = true := by rfl
  have a4 : areOthers [] nm = true := by rfl
  unfold Ed.wrong Ed.checks edP
  simp only [h1, a1, a2, a3, a4]
  rfl
theorem edP_small {nm : Str} {v : Int} (h : nm.length ≤ 1000) : (edP nm v).Small := ⟨h, .inl ⟨v, rfl⟩, (by decide : SCR.length ≤ 100), ⟨Nat.zero_le _, fun p hp => by cases hp⟩, ⟨Nat.zero_le _, fun p hp => by cases hp⟩, ⟨Nat.zero_le _, fun p hp => by cases hp⟩⟩
theorem NeedsAt.nil {K : PySem.W.Frag} {H : Hp} {a : Addr} (h : SqT K H a []) : NeedsAt K H a [] := ⟨[], h, rfl, fun i t p h _ => by simp at h⟩
theorem ite_no {b : Bool} {A B : Prop} (hb : b = false) (h : B) : if b = true then A else B := by
  rw [hb]
  exact iteF h
theorem ite_yes {b : Bool} {A B : Prop} (hb : b = true) (h : A) : if b = true then A else B := by
  rw [hb]
  exact iteT h
/-- an edition is made that has nothing wrong -/
theorem mk_read {K : PySem.W.Frag} {H : Hp} {C CE x dx s n f g : Addr} {e : Ed} {Q : Hp → Prop} {E : XK} (nx : H x = none) (ndx : H dx = none) (hE : EdAt K H e s n f g) (sm : e.Small) (hw : e.wrong = none) (k : ∀ H', Same H H' → EdObj K H' C x e s n f g → Q H') :
    spEi K C CE [.ref x, .str e.name, e.version, .ref s, .ref n, .ref f, .ref g] (upd (upd H dx (.own x)) x (.ins C dx [])) (fun v H3 => v = .non ∧ Q H3) E := by
  have sx : Same H (upd (upd H dx (.own x)) x (.ins C dx [])) := fun b o q => by
    rw [upd_ne (ne_of_none q nx), upd_ne (ne_of_none q ndx)]
    exact q
  refine ⟨x, dx, e, s, n, f, g, rfl, upd_same, hE.same sx, sm, fun _ H' sb ho => ⟨rfl, k H' (fun b o q => sb _ _ (ne_of_none q nx) (sx _ _ q)) ho⟩, fun p hp => ?_⟩
  rw [hw] at hp
  cases hp
theorem edP_is {K : PySem.W.Frag} {H : Hp} {C a s n f g : Addr} {nm : Str} {v : Int} (h : EdObj K H C a (edP nm v) s n f g) (hs : PyData.strOk nm = true) : EdIs K H C a (edP nm v) := by
  refine ⟨⟨s, n, f, g, h⟩, .inl ⟨v, rfl⟩, ?_⟩
  have a1 : PyData.strOk "clean" = true := by decide +kernel
  have a2 : PyData.strOk "enter" = true := by decide +kernel
  have a3 : PyData.strOk "leave" = true := by decide +kernel
  have a4 : PyData.strOk "setup" = true := by decide +kernel
  simp [SeqAt.shaped, edP, Ed.data, verD, SCR, PyData.canLay0, PyData.canLayAll0, PyData.depth, PyData.depthAll, hs, a1, a2, a3, a4]
end Half

namespace Half
open PySem PySem.Spec PyProof.Rows L2
/-! ### different ones, in the order in which they are met -/
section
variable {α : Type} [DecidableEq α]
def has (l : List α) (x : α) : Bool := l.any fun y => decide (y = x)
theorem has_iff {l : List α} {x : α} : has l x = true ↔ x ∈ l := by
  unfold has
  rw [List.any_eq_true]
  exact ⟨fun ⟨y, h, e⟩ => of_decide_eq_true e ▸ h, fun h => ⟨x, h, decide_eq_true rfl⟩⟩
theorem has_no {l : List α} {x : α} (h : x ∉ l) : has l x = false := by
  cases e : has l x
  · rfl
  · exact absurd (has_iff.mp e) h
theorem not_has {l : List α} {x : α} (h : has l x = false) : x ∉ l := fun m => by
  rw [has_iff.mpr m] at h
  exact nomatch h
def dstep (acc : List α) (x : α) : List α := if has acc x = true then acc else acc ++ [x]
def dset (l : List α) : List α := l.foldl dstep []
theorem dset_snoc (l : List α) (x : α) : dset (l ++ [x]) = dstep (dset l) x := by
  unfold dset
  rw [List.foldl_append]
  rfl
theorem snoc_ind {p : List α → Prop} (h0 : p []) (h1 : ∀ l x, p l → p (l ++ [x])) (l : List α) : p l := by
  have key : ∀ n (l : List α), l.length = n → p l := by
    intro n
    induction n with
    | zero => intro l e; rw [List.eq_nil_of_length_eq_zero e]; exact h0
    | succ n ih =>
      intro l e
      have hne : l ≠ [] := fun z => by rw [z] at e; cases e
      rw [← List.dropLast_concat_getLast hne]
      exact h1 _ _ (ih _ (by rw [List.length_dropLast, e]; rfl))
  exact key _ l rfl
theorem mem_dstep {acc : List α} {x y : α} : y ∈ dstep acc x ↔ y ∈ acc ∨ y = x := by
  unfold dstep
  split
  · rename_i h
    exact ⟨.inl, fun z => z.elim id fun e => e ▸ has_iff.mp h⟩
  · rw [List.mem_append, List.mem_singleton]
theorem mem_dset (l : List α) (y : α) : y ∈ dset l ↔ y ∈ l := by
  induction l using snoc_ind with
  | h0 => simp [dset]
  | h1 l x ih => rw [dset_snoc, mem_dstep, ih, List.mem_append, List.mem_singleton]
theorem dset_nodup (l : List α) : (dset l).Nodup := by
  induction l using snoc_ind with
  | h0 => exact .nil
  | h1 l x ih =>
    rw [dset_snoc]
    unfold dstep
    split
    · exact ih
    · rename_i h
      refine List.nodup_append.mpr ⟨ih, List.nodup_cons.mpr ⟨by simp, .nil⟩, fun a ha b hb e => ?_⟩
      rw [List.mem_singleton.mp hb] at e
      subst e
      exact h (has_iff.mpr ha)
def nd (l : List α) : Nat := (dset l).length
theorem nd_snoc (l : List α) (x : α) : nd (l ++ [x]) = if has l x = true then nd l else nd l + 1 := by
  unfold nd
  rw [dset_snoc]
  unfold dstep
  have e : has (dset l) x = has l x := by
    cases q : has l x
    · exact has_no fun z => not_has q ((mem_dset l x).mp z)
    · exact has_iff.mpr ((mem_dset l x).mpr (has_iff.mp q))
  rw [e]
  split <;> simp
theorem nd_le (l : List α) : nd l ≤ l.length := by
  induction l using snoc_ind with
  | h0 => exact Nat.le_refl _
  | h1 l x ih =>
    rw [nd_snoc, List.length_append, List.length_singleton]
    split <;> omega
theorem nd_perm {l m : List α} (hm : m.Nodup) (h : ∀ x, x ∈ m ↔ x ∈ l) : m.length = nd l :=
  ((List.perm_ext_iff_of_nodup hm (dset_nodup l)).mpr fun x => (h x).trans (mem_dset l x).symm).length_eq
end
/-! ### a store's editions -/
abbrev Kk : Type := Str × Int
/-- the i-th key stands before, its name is one too many, or it stands too late -/
def badB (ks : List Kk) (i : Nat) : Bool := match ks[i]? with
  | none => false
  | some k => has (ks.take i) k || (decide (4 < nd ((ks.take (i + 1)).map (·.1))) || decide (12 ≤ i))
def wrongAt (ks : List Kk) : Option Nat := if ks.isEmpty = true then some 0 else (List.range ks.length).find? (badB ks)
/-- as the law says it -/
def lawB (ks : List Kk) (i : Nat) : Bool := match ks[i]? with
  | none => false
  | some k => has (ks.take i) k || (decide (i = 12) || (!has ((ks.take i).map (·.1)) k.1 && decide (nd ((ks.take i).map (·.1)) = 4)))
theorem take_snoc {α : Type} {l : List α} {i : Nat} {x : α} (h : l[i]? = some x) : l.take (i + 1) = l.take i ++ [x] := take_next h
theorem bad_few {ks : List Kk} : ∀ i, (∀ j, j < i → badB ks j = false) → nd ((ks.take i).map (·.1)) ≤ 4
  | 0, _ => by simp [nd, dset]
  | i + 1, h => by
    cases e : ks[i]? with
    | none =>
      have ih := bad_few i fun j hj => h j (Nat.lt_succ_of_lt hj)
      rw [List.take_of_length_le (Nat.le_succ_of_le (List.getElem?_eq_none_iff.mp e))]
      rwa [List.take_of_length_le (List.getElem?_eq_none_iff.mp e)] at ih
    | some k =>
      have hb := h i (Nat.lt_succ_self _)
      unfold badB at hb
      rw [e] at hb
      simp only [Bool.or_eq_false_iff, decide_eq_false_iff_not] at hb
      omega
theorem bad_law {ks : List Kk} {i : Nat} (h : ∀ j, j < i → badB ks j = false) (hi : i ≤ 12) : badB ks i = lawB ks i := by
  unfold badB lawB
  cases e : ks[i]? with
  | none => rfl
  | some k =>
    have few := bad_few i h
    simp only
    congr 1
    rw [Bool.or_comm]
    congr 1
    · rw [decide_eq_decide]; omega
    · rw [take_snoc e, List.map_append, List.map_singleton, nd_snoc]
      cases has ((ks.take i).map (·.1)) k.1
      · simp only [Bool.false_eq_true, if_false, Bool.not_false, Bool.true_and, decide_eq_decide]; omega
      · simp only [if_true, Bool.not_true, Bool.false_and]
        exact decide_eq_false (by omega)
theorem bad_late {ks : List Kk} {i : Nat} (h1 : i < ks.length) (h2 : 12 ≤ i) : badB ks i = true := by
  unfold badB
  rw [List.getElem?_eq_getElem h1]
  simp [h2]
theorem law_late {ks : List Kk} (h1 : 12 < ks.length) : lawB ks 12 = true := by
  unfold lawB
  rw [List.getElem?_eq_getElem h1]
  simp
/-- the first bad one is the same -/
theorem first_law {ks : List Kk} {i : Nat} (h : ∀ j, j < i → lawB ks j = false) (hi : i ≤ ks.length) : ∀ j, j < i → badB ks j = false := by
  intro j
  induction j using Nat.strongRecOn with
  | ind j ih =>
    intro hj
    have hb : ∀ m, m < j → badB ks m = false := fun m hm => ih m hm (Nat.lt_trans hm hj)
    rcases Nat.lt_or_ge 12 j with c | c
    · have z := h 12 (by omega)
      rw [law_late (by omega)] at z
      exact nomatch z
    · rw [bad_law hb c]
      exact h j hj
theorem first_bad {ks : List Kk} {i : Nat} (h : ∀ j, j < i → badB ks j = false) (hi : i ≤ ks.length) : ∀ j, j < i → lawB ks j = false := by
  intro j hj
  have hb : ∀ m, m < j → badB ks m = false := fun m hm => h m (Nat.lt_trans hm hj)
  rcases Nat.lt_or_ge 12 j with c | c
  · have z := h 12 (by omega)
    rw [bad_late (by omega) (Nat.le_refl _)] at z
    exact nomatch z
  · rw [← bad_law hb c]
    exact h j hj
theorem find_eq {p q : Nat → Bool} {n : Nat} (h1 : ∀ i, i ≤ n → (∀ j, j < i → p j = false) → ∀ j, j < i → q j = false) (h2 : ∀ i, i ≤ n → (∀ j, j < i → q j = false) → ∀ j, j < i → p j = false) : (List.range n).find? p = (List.range n).find? q := by
  cases e : (List.range n).find? p with
  | none =>
    have hp : ∀ j, j < n → p j = false := fun j hj => by simpa using List.find?_eq_none.mp e j (List.mem_range.mpr hj)
    rw [find_range_none q (h1 n (Nat.le_refl _) hp)]
  | some i =>
    have hi : i < n := List.mem_range.mp (List.mem_of_find?_eq_some e)
    have hpi : p i = true := by simpa using List.find?_some e
    have hb : ∀ j, j < i → p j = false := fun j hj => by
      cases c : p j
      · rfl
      · obtain ⟨l1, l2, e1, e2⟩ := (List.find?_eq_some_iff_append.mp e).2
        have hjm : j ∈ List.range n := List.mem_range.mpr (by omega)
        rw [e1] at hjm
        rcases List.mem_append.mp hjm with m | m
        · have z := e2 j m; rw [c] at z; exact nomatch z
        · have srt : (l1 ++ i :: l2).Pairwise (· < ·) := by rw [← e1]; exact List.pairwise_lt_range
          rcases List.mem_cons.mp m with z | z
          · omega
          · have := (List.pairwise_append.mp srt).2.1
            have := List.rel_of_pairwise_cons this z
            omega
    have hq := h1 i (Nat.le_of_lt hi) hb
    have hqi : q i = true := by
      cases c : q i
      · have z := h2 (i + 1) hi (fun j hj => by
          rcases Nat.lt_or_ge j i with m | m
          · exact hq j m
          · rw [show j = i by omega]; exact c) i (Nat.lt_succ_self _)
        rw [hpi] at z
        exact nomatch z
      · rfl
    rw [find_range q hi hqi hq]
theorem wrong_law (ks : List Kk) : wrongAt ks = if ks.isEmpty = true then some 0 else (List.range ks.length).find? (lawB ks) := by
  unfold wrongAt
  split
  · rfl
  · exact find_eq (fun i hi h => first_bad h hi) (fun i hi h => first_law h hi)
/-! ### in order -/
theorem sorted_uniq {α : Type} {le : α → α → Prop} (as : ∀ x y, le x y → le y x → x = y) : ∀ {l m : List α}, l.Pairwise le → m.Pairwise le → l.Perm m → l = m
  | [], m, _, _, p => p.nil_eq
  | x :: l, [], _, _, p => absurd p.length_eq (by simp)
  | x :: l, y :: m, h1, h2, p => by
    have e : x = y := by
      have hx : x ∈ y :: m := p.mem_iff.mp List.mem_cons_self
      have hy : y ∈ x :: l := p.mem_iff.mpr List.mem_cons_self
      rcases List.mem_cons.mp hx with rfl | hx
      · rfl
      · rcases List.mem_cons.mp hy with rfl | hy
        · rfl
        · exact as _ _ (List.rel_of_pairwise_cons h1 hy) (List.rel_of_pairwise_cons h2 hx)
    subst e
    rw [sorted_uniq as (List.pairwise_cons.mp h1).2 (List.pairwise_cons.mp h2).2 (List.Perm.cons_inv p)]
def txLe (x y : Str) : Prop := txLt y x = false
theorem txLe_as (x y : Str) (h1 : txLe x y) (h2 : txLe y x) : x = y := tx_tot h2 h1
theorem txLe_tr {x y z : Str} (h1 : txLe x y) (h2 : txLe y z) : txLe x z := by
  unfold txLe at *
  cases e : txLt z x
  · rfl
  · cases c : txLt x y
    · rw [tx_tot c h1] at e; rw [e] at h2; exact nomatch h2
    · have := tx_tr e c
      rw [h2] at this
      exact nomatch this
theorem rising_pw : ∀ (p : Str) (l : List Str), risingS p l = true → (p :: l).Pairwise txLe
  | p, [], _ => List.pairwise_singleton _ _
  | p, x :: l, h => by
    have h : (!ltCps x.cps.toList p.cps.toList && risingS x l) = true := h
    rw [Bool.and_eq_true, Bool.not_eq_true'] at h
    have ih := rising_pw x l h.2
    have hx : txLe p x := by
      have e := h.1
      rw [ltCps_eq] at e
      exact e
    refine List.pairwise_cons.mpr ⟨fun y hy => ?_, ih⟩
    rcases List.mem_cons.mp hy with rfl | hy
    · exact hx
    · exact txLe_tr hx (List.rel_of_pairwise_cons ih hy)
theorem sortedS_pw : ∀ {l : List Str}, sortedS l = true → l.Pairwise txLe
  | [], _ => .nil
  | x :: l, h => rising_pw x l h
/-- different ones of a list in order are in order -/
theorem dset_sub {α : Type} [DecidableEq α] (l : List α) : (dset l).Sublist l := by
  induction l using snoc_ind with
  | h0 => exact .slnil
  | h1 l x ih =>
    rw [dset_snoc]
    unfold dstep
    split
    · exact ih.trans (List.sublist_append_left _ _)
    · exact ih.append (List.Sublist.refl _)
end Half

namespace Half
open PySem PySem.Spec PyProof.Rows L2
/-! ### InvalidStore -/
abbrev sIs : Stmt := inClass (top 3) 0
def spErrI (C : Addr) (fl : Str) : Sp := fun vs H Q _ => ∃ (a : Addr) (n : Nat), vs = [.ref a, .int n] ∧ H a = some (exo a C none) ∧ n ≤ 1000 ∧
  ∀ dx, H dx = none → dx ≠ a → Q .non (upd (upd H dx (exd dx [(fl, .int n)])) a (exo a C (some dx)))
theorem scIs : SupScope ["self", "index"] ["self", "index"] (defScope sIs) := ⟨rfl, rfl, rfl, by decide +kernel, rfl, by decide +kernel, by decide +kernel, by decide +kernel, rfl, rfl⟩
theorem small_text : ∀ n : Nat, n ≤ 1000 → (Str.ofString (toString (n : Int))).length ≤ 10 ∧ ((n : Int)).natAbs.log2 < 1920 := by
  have key : (List.range 1001).all (fun n => decide ((Str.ofString (toString (n : Int))).length ≤ 10) && decide (((n : Int)).natAbs.log2 < 1920)) = true := by decide +kernel
  intro n hn
  have z := List.all_eq_true.mp key n (List.mem_range.mpr (by omega))
  simpa using z
section
variable {P : Program} {w : World} {K : PySem.W.Frag} {mg : Str → Option Value} {base : Heap}
theorem ok_is {C f : Addr} {fd : FuncData} (F : ErrFn P K C "InvalidStore.__init__" sIs f fd) (T : SupC P K mg C) (nF : PySem.W.findIn K (.ref C) "index" = some none) : FnOk P w K mg base CX0 1 f fd ["self", "index"] (spErrI C "index") := by
  obtain ⟨oc, od, kV, doc, pm, an, cda, cc, ct, osl, ccl, cdd, vsc, ccs, file, tf, cl, cld, csl, rfl, lk, hcd, hcode, hvs, hfile, hcell⟩ := F.ex
  refine fn_sup (N := ["self", "index"]) lk hcd scIs rfl rfl rfl hcode hvs hfile hcell T (fun vs H Q E h => ?_) (fun _ => rfl) (fun _ => rfl) (fun _ => rfl) (fun A outer s H vs Q E hr h => ?_)
  · obtain ⟨a, p, rfl, _⟩ := h
    rfl
  · obtain ⟨a, n, rfl, ha, hn, k⟩ := h
    refine ⟨a, _, _, rfl, ha, pa_cons (pe_joined (.cons pe_str (.cons (pe_fmt (pv 1)) .nil))) pa_nil, pss_one (ps_ost (pv 0) (pv 1)), ?_⟩
    obtain ⟨l1, l2⟩ := small_text n hn
    refine ⟨_, rfl, (by decide), _, rfl, .inr ⟨(n : Int), rfl, l2, _, rfl, ?_, ?_⟩⟩
    · rw [app_len, app_len, sizeLine_eq]
      have : ("no store can be made of these editions, because of index " : Str).length = 57 := by decide
      have e0 : (Str.empty).length = 0 := by decide
      have : (Str.ofString (toString (n : Int))).length ≤ 10 := l1
      omega
    · refine ⟨by show 1 ≤ 1000; decide, ha, ?_⟩
      refine ⟨_, rfl, _, rfl, a, C, rfl, T.oex, nF, .inl ⟨ha, fun dx h1 h2 => k dx h1 h2⟩⟩
end
theorem ne_of_none' {H : Hp} {a b : Addr} {o : HO} (h : H a = some o) (n : H b = none) : b ≠ a := fun z => by rw [z, h] at n; cases n
/-! ### wrong_index -/
abbrev sWi : Stmt := top 28
/-- an edition that has this name and this version -/
def EdK (C : Addr) (H : Hp) (a : Addr) (k : Kk) : Prop := ∃ dx p xs, H a = some (.ins C dx [("parts", .ref p)]) ∧ H p = some (.tup (.str k.1 :: .int k.2 :: xs))
theorem EdK.same {C : Addr} {H H' : Hp} {a : Addr} {k : Kk} (S : Same H H') (h : EdK C H a k) : EdK C H' a k := by
  obtain ⟨dx, p, xs, h1, h2⟩ := h
  exact ⟨dx, p, xs, S _ _ h1, S _ _ h2⟩
/-- editions one after another -/
abbrev Eds : Type := List (Addr × Kk)
def EdsAt (K : PySem.W.Frag) (C : Addr) (H : Hp) (t : Addr) (es : Eds) : Prop := SqT K H t (es.map fun e => .ref e.1) ∧ ∀ e ∈ es, EdK C H e.1 e.2
theorem EdsAt.same {K : PySem.W.Frag} {C : Addr} {H H' : Hp} {t : Addr} {es : Eds} (S : Same H H') (h : EdsAt K C H t es) : EdsAt K C H' t es := ⟨S.sqT h.1, fun e he => (h.2 e he).same S⟩
abbrev keysOf (es : Eds) : List Kk := es.map (·.2)
def kk (k : Kk) : List Key := [.inr k.1, .inl k.2]
theorem kk_inj {a b : Kk} (h : kk a = kk b) : a = b := by
  unfold kk at h
  injection h with h1 h2
  injection h2 with h2 _
  injection h1 with h1
  injection h2 with h2
  exact Prod.ext h1 h2
def optI : Option Nat → V
  | none => .non
  | some i => .int i
def spWi (K : PySem.W.Frag) (C : Addr) : Sp := fun vs H Q _ => ∃ (t : Addr) (es : Eds), vs = [.ref t] ∧ EdsAt K C H t es ∧ es.length ≤ 40 ∧ ∀ H', Same H H' → Q (optI (wrongAt (keysOf es))) H'
structure TxtW (P : Program) (w : World) (K : PySem.W.Frag) (mg : Str → Option Value) (base : Heap) (C : Addr) : Prop where
  set : mg "set" = none
  len : mg "len" = none
  enum : mg "enumerate" = none
  mE : ∃ t, mg "MOST_EDITIONS" = some (.int 12 t)
  mN : ∃ t, mg "MOST_NAMES" = some (.int 4 t)
  p0 : Prp P w K mg base C "name" 0
  p1 : Prp P w K mg base C "version" 1
  cl : Cls K C
theorem scWi : FnScope ["editions", "keys", "names", "at", "edition", "key"] ["editions"] (defScope sWi) := ⟨rfl, rfl, rfl, by decide +kernel, rfl, by decide +kernel, by decide +kernel⟩
section
variable {P : Program} {w : World} {K : PySem.W.Frag} {mg : Str → Option Value} {base : Heap} {C : Addr}
/-- what stands before the i-th turn -/
structure WiI (P : Program) (w : World) (K : PySem.W.Frag) (C t ka na : Addr) (es : Eds) (H0 : Hp) (i : Nat) (σ : L2.St) (H : Hp) : Prop where
  sl : ∃ x3 x4 x5, σ = [some (.ref t), some (.ref ka), some (.ref na), x3, x4, x5]
  sm : Same H0 H
  n1 : H0 ka = none
  n2 : H0 na = none
  ts : ∃ L, H ka = some (TsO P w ka L) ∧ TupsIn H L ∧ L.length = i ∧ ∀ k, kk k ∈ L.map (·.2) ↔ k ∈ (keysOf es).take i
  nm : ∃ S n, H na = some (SetK P w na S n) ∧ (∀ x, S (.inr x) = has (((keysOf es).take i).map (·.1)) x) ∧ n = nd (((keysOf es).take i).map (·.1))
  ok : ∀ j, j < i → badB (keysOf es) j = false
theorem prp_read {H : Hp} {a : Addr} {k : Kk} {Q : VK} (h : EdK C H a k) (q : Q (.str k.1) H) : ∃ p dx fs, V.ref a = .ref p ∧ H p = some (.ins C dx fs) ∧ spGet C 0 [.ref p] H Q E0 := by
  obtain ⟨dx, p, xs, h1, h2⟩ := h
  exact ⟨a, dx, _, rfl, h1, a, dx, p, _, _, rfl, h1, h2, rfl, q⟩
theorem ok_wi {f : Addr} {fd : FuncData} (F : Fun K "wrong_index" "wrong_index" sWi f fd) (T : TxtW P w K mg base C) : FnOk P w K mg base CX0 3 f fd ["editions"] (spWi K C) := by
  refine F.ok scWi (fun vs H Q E h => ?_) (fun cdv A outer s H vs Q E hr h => ?_)
  · obtain ⟨t, es, rfl, _⟩ := h
    rfl
  · obtain ⟨t, es, rfl, hE, hz, k⟩ := h
    have nd' := scWi.nd
    have hu := hu_of hr
    have r2 : Room 2 _ := hr.mono (by decide)
    obtain ⟨tE, mE⟩ := T.mE
    obtain ⟨tN, mN⟩ := T.mN
    refine ⟨_, pss_cons (ps_if (pt_not (pt_truth (pv 0) (by intro _; rfl))) (pss_one (ps_ret pe_int)) pss_nil)
      (pss_cons (ps_set (i := 1) nd' rfl (Or.inl rfl) (pe_callTy0 cr_set0T (by rfl) T.set (by decide +kernel)))
      (pss_cons (ps_set (i := 2) nd' rfl (Or.inl rfl) (pe_callTy0 cr_set0K (by rfl) T.set (by decide +kernel)))
      (pss_cons (ps_for PassesOwn.never rfl (pi_enumT (by rfl) T.enum (pa_cons (pv 0) pa_nil)) (pg_tup rfl (pgs_cons (pg_name (i := 3) nd' rfl (Or.inl rfl)) (pgs_cons (pg_name (i := 4) nd' rfl (Or.inl rfl)) pgs_nil)))
        (pss_cons (ps_set (i := 5) nd' rfl (Or.inl rfl) (pe_tup (pa_cons (pe_prp T.p0 T.cl r2 (pv 4)) (pa_cons (pe_prp T.p1 T.cl r2 (pv 4)) pa_nil))))
        (pss_cons (ps_expr (pe_saddK (pv 2) (pa_cons (pe_prp T.p0 T.cl r2 (pv 4)) pa_nil)))
        (pss_cons (ps_if (PW.pt (pw_or (pt_cmpR (or_sinT hu) (pv 5) (pv 1) (by rfl)) (pw_or (pt_cmpR op_gt (pe_callB call_lenSK (by rfl) T.len PySem.boot_len (pa_cons (pv 2) pa_nil)) (pe_glob (v := .int 4) rfl mN ⟨_, rfl⟩) (nomark _)) (pw_or1 (pt_cmpR op_ge (pv 3) (pe_glob (v := .int 12) rfl mE ⟨_, rfl⟩) (nomark _)))))) (pss_one (ps_ret (pv 3))) pss_nil)
        (pss_one (ps_expr (pe_saddT hu (pv 1) (pa_cons (pv 5) pa_nil))))))))
      (pss_one (ps_ret pe_non))))), ?_⟩
    refine ⟨_, rfl, !es.isEmpty, .inr (.inl ⟨_, hE.1, by simp⟩), ?_⟩
    by_cases he : es.isEmpty = true
    · refine ite_yes (by rw [he]; rfl) ?_
      have e : wrongAt (keysOf es) = some 0 := by
        unfold wrongAt
        rw [if_pos (by simpa using he)]
      have z := k H (Same.refl H)
      rw [e] at z
      exact z
    refine ite_no (by simp at he ⊢; exact he) ?_
    have wrong : wrongAt (keysOf es) = (List.range (keysOf es).length).find? (badB (keysOf es)) := by
      unfold wrongAt
      rw [if_neg (by simpa using he)]
    refine ⟨rfl, fun ka n1 => ⟨rfl, fun na n2 => ?_⟩⟩
    have nka : na ≠ ka := fun z => by rw [z, upd_same] at n2; cases n2
    have n2' : H na = none := by rwa [upd_ne nka] at n2
    refine ⟨_, rfl, t, _, rfl, (hE.same ((Same.upd_new n1).trans (Same.upd_new n2))).1, ?_⟩
    refine for_it (walk_enumT (K := K) (a := t) (xs := es.map fun e => .ref e.1)) (WiI P w K C t ka na es H) ?_ ?_ ?_ ?_
    · exact ⟨⟨_, _, _, rfl⟩, (Same.upd_new n1).trans (Same.upd_new n2), n1, n2', ⟨[], by rw [upd_ne (Ne.symm nka), upd_same]; rfl, (fun p hp => nomatch hp), rfl, fun k => by simp⟩, ⟨_, _, upd_same, fun x => rfl, rfl⟩, fun j hj => absurd hj (Nat.not_lt_zero _)⟩
    · exact fun i σ H' _ I => (hE.same I.sm).1
    · intro i x σ H1 H2 hi I y
      obtain ⟨T', a, b, rfl, nT, rfl, ha, hb⟩ := y
      cases ha
      obtain ⟨e, he, rfl⟩ : ∃ e, es[i]? = some e ∧ b = .ref e.1 := by
        have hb : (es.map fun e => V.ref e.1)[i]? = some b := hb
        rw [List.getElem?_map] at hb
        obtain ⟨e, h1, h2⟩ := Option.map_eq_some_iff.mp hb
        exact ⟨e, h1, h2.symm⟩
      obtain ⟨⟨x3, x4, x5, rfl⟩, sm, _, _, ⟨L, hka, hL, hLl, hLm⟩, ⟨S, n, hna, hS, hn⟩, hok⟩ := I
      have hi' : i < es.length := (List.getElem?_eq_some_iff.mp he).1
      have hke : (keysOf es)[i]? = some e.2 := by rw [List.getElem?_map, he] <;> rfl
      refine ⟨T', _, rfl, .inl (.inl upd_same), rfl, _, _, rfl, _, _, rfl, rfl, ?_⟩
      have s1 : Same H1 (upd H1 T' (.tup [.int (i : Nat), .ref e.1])) := Same.upd_new nT
      obtain ⟨dx, p, xs, h1, h2⟩ := ((hE.2 e (List.mem_of_getElem? he)).same sm).same s1
      refine ⟨_, rfl, e.1, dx, _, rfl, h1, e.1, dx, p, _, _, rfl, h1, h2, rfl, _, rfl, e.1, dx, _, rfl, h1, e.1, dx, p, _, _, rfl, h1, h2, rfl, two_le, fun tk ntk => ?_⟩
      have s2 := s1.trans (Same.upd_new (o := .tup [.str e.2.1, .int e.2.2]) ntk)
      have h1' := (Same.upd_new (o := .tup [.str e.2.1, .int e.2.2]) ntk) _ _ h1
      have h2' := (Same.upd_new (o := .tup [.str e.2.1, .int e.2.2]) ntk) _ _ h2
      have hnl : n ≤ 40 := by
        rw [hn]
        refine Nat.le_trans (nd_le _) ?_
        rw [List.length_map, List.length_take]
        omega
      refine ⟨_, rfl, ⟨na, S, n, rfl, s2 _ _ hna⟩, _, rfl, e.1, dx, _, rfl, h1', e.1, dx, p, _, _, rfl, h1', h2', rfl, na, .inr e.2.1, S, n, rfl, rfl, s2 _ _ hna, (by show n + 1 < 4096; omega), ?_⟩
      have ntka : tk ≠ ka := ne_of_none' (s1 _ _ hka) ntk
      have ntna : tk ≠ na := ne_of_none' (s1 _ _ hna) ntk
      have kna : ka ≠ na := Ne.symm nka
      have nmE : ((keysOf es).take (i + 1)).map (·.1) = ((keysOf es).take i).map (·.1) ++ [e.2.1] := by rw [take_snoc hke, List.map_append] <;> rfl
      have cnt : (if S (.inr e.2.1) = true then n else n + 1) = nd (((keysOf es).take (i + 1)).map (·.1)) := by rw [nmE, nd_snoc, hS, hn]
      generalize (if S (.inr e.2.1) = true then n else n + 1) = n' at cnt ⊢
      generalize hS' : (fun j => S j || decide (j = Sum.inr e.2.1)) = S'
      have hS2 : ∀ x, S' (.inr x) = has (((keysOf es).take (i + 1)).map (·.1)) x := fun x => by
        rw [← hS', nmE]
        show (S (.inr x) || decide ((Sum.inr x : Key) = Sum.inr e.2.1)) = _
        rw [hS]
        unfold has
        rw [List.any_append]
        congr 1
        simp only [List.any_cons, List.any_nil, Bool.or_false]
        rw [decide_eq_decide]
        exact ⟨fun z => by injection z with z; exact z.symm, fun z => by rw [z]⟩
      have big : Same H (upd (upd (upd H1 T' (.tup [.int (i : Nat), .ref e.1])) tk (.tup [.str e.2.1, .int e.2.2])) na (SetK P w na S' n')) := fun b o q => by
        rw [upd_ne (ne_of_none q n2')]
        exact s2 _ _ (sm _ _ q)
      have tups : TupsIn (upd (upd (upd H1 T' (.tup [.int (i : Nat), .ref e.1])) tk (.tup [.str e.2.1, .int e.2.2])) na (SetK P w na S' n')) L := fun q hq => by
        rw [upd_ne (ne_of (s2 _ _ (hL q hq)) (s2 _ _ hna) (by intro z; cases z))]
        exact s2 _ _ (hL q hq)
      have gka : (upd (upd (upd H1 T' (.tup [.int (i : Nat), .ref e.1])) tk (.tup [.str e.2.1, .int e.2.2])) na (SetK P w na S' n')) ka = some (TsO P w ka L) := by
        rw [upd_ne kna]
        exact s2 _ _ hka
      have gtk : (upd (upd (upd H1 T' (.tup [.int (i : Nat), .ref e.1])) tk (.tup [.str e.2.1, .int e.2.2])) na (SetK P w na S' n')) tk = some (.tup ((kk e.2).map kV)) := by
        rw [upd_ne ntna, upd_same]
        rfl
      have gna : (upd (upd (upd H1 T' (.tup [.int (i : Nat), .ref e.1])) tk (.tup [.str e.2.1, .int e.2.2])) na (SetK P w na S' n')) na = some (SetK P w na S' n') := upd_same
      have hk : hasK L (kk e.2) = has ((keysOf es).take i) e.2 := by
        cases q : has ((keysOf es).take i) e.2
        · exact hasK_no fun z => not_has q ((hLm e.2).mp z)
        · exact hasK_iff.mpr ((hLm e.2).mpr (has_iff.mp q))
      have bad : badB (keysOf es) i = (hasK L (kk e.2) || (decide (4 < n') || decide (12 ≤ i))) := by
        unfold badB
        rw [hke, hk, cnt]
      have out : badB (keysOf es) i = true → Q (.int (i : Nat)) (upd (upd (upd H1 T' (.tup [.int (i : Nat), .ref e.1])) tk (.tup [.str e.2.1, .int e.2.2])) na (SetK P w na S' n')) := fun hb => by
        have e0 : wrongAt (keysOf es) = some i := by
          rw [wrong]
          exact find_range _ (by simpa using hi') hb hok
        have z := k _ big
        rw [e0] at z
        exact z
      refine ⟨_, rfl, _, rfl, ka, tk, kk e.2, L, rfl, rfl, gtk, gka, tups, _, rfl, ?_⟩
      cases c1 : hasK L (kk e.2)
      case true => exact iteT (⟨_, rfl, out (by rw [bad, c1]; rfl)⟩)
      refine iteF ?_
      refine ⟨_, rfl, na, S', n', rfl, gna, _, _, rfl, rfl, _, rfl, ?_⟩
      cases c2 : decide (4 < n')
      case true => exact ite_yes (by rw [decide_eq_true_eq] at c2 ⊢; omega) ⟨_, rfl, out (by rw [bad, c1, c2]; rfl)⟩
      refine ite_no (by rw [decide_eq_false_iff_not] at c2 ⊢; omega) ?_
      refine ⟨_, rfl, _, _, rfl, rfl, _, rfl, ?_⟩
      cases c3 : decide (12 ≤ i)
      case true => exact ite_yes (by rw [decide_eq_true_eq] at c3 ⊢; omega) ⟨_, rfl, out (by rw [bad, c1, c2, c3]; rfl)⟩
      refine ite_no (by rw [decide_eq_false_iff_not] at c3 ⊢; omega) ?_
      refine ⟨_, rfl, ⟨ka, L, rfl, gka⟩, _, rfl, ka, tk, kk e.2, L, rfl, rfl, gtk, gka, tups, by omega, fun z => ?_, fun _ L' pm => ?_⟩
      · rw [hasK_iff.mpr z] at c1
        exact nomatch c1
      · refine ⟨⟨_, _, _, rfl⟩, fun b o q => ?_, n1, n2', ⟨L', upd_same, fun q hq => ?_, ?_, fun k2 => ?_⟩, ⟨S', n', ?_, hS2, cnt⟩, fun j hj => ?_⟩
        · rw [upd_ne (ne_of_none q n1)]
          exact big _ _ q
        · have old : ∀ y : Addr × List Key, (upd (upd (upd H1 T' (.tup [.int (i : Nat), .ref e.1])) tk (.tup [.str e.2.1, .int e.2.2])) na (SetK P w na S' n')) y.1 = some (.tup (y.2.map kV)) → (upd (upd (upd (upd H1 T' (.tup [.int (i : Nat), .ref e.1])) tk (.tup [.str e.2.1, .int e.2.2])) na (SetK P w na S' n')) ka (TsO P w ka L')) y.1 = some (.tup (y.2.map kV)) := fun y hy => by
            rw [upd_ne (ne_of hy gka (by intro z; cases z))]
            exact hy
          rcases List.mem_cons.mp (pm.mem_iff.mp hq) with rfl | hq
          · exact old _ gtk
          · exact old _ (tups q hq)
        · rw [pm.length_eq, List.length_cons, hLl]
        · rw [(pm.map (·.2)).mem_iff, List.map_cons, List.mem_cons, hLm k2, take_snoc hke, List.mem_append, List.mem_singleton]
          exact ⟨fun z => z.elim (fun z => .inr (kk_inj z)) .inl, fun z => z.elim .inr fun z => .inl (by rw [z])⟩
        · rw [upd_ne nka]
          exact gna
        · rcases Nat.lt_or_ge j i with m | m
          · exact hok j m
          · rw [show j = i by omega, bad, c1, c2, c3]
            rfl
    · intro σ H' I
      have e : wrongAt (keysOf es) = none := by
        rw [wrong]
        exact find_range_none _ fun j hj => I.ok j (by simpa using hj)
      have z := k H' I.sm
      rw [e] at z
      exact z
end
end Half

namespace Half
open PySem PySem.Spec PyProof.Rows L2
abbrev sVn : Stmt := top 29
theorem put_keys {κ : Type} [DecidableEq κ] (kvs : List (κ × V)) (k : κ) (v : V) : (putK kvs k v).map (·.1) = dstep (kvs.map (·.1)) k := by
  unfold putK dstep
  have e : (kvs.any fun kv => decide (kv.1 = k)) = has (kvs.map (·.1)) k := by
    unfold has
    rw [List.any_map]
    rfl
  rw [e]
  split
  · rw [List.map_map]
    refine List.map_congr_left fun p hp => ?_
    show (if p.1 = k then (p.1, v) else p).1 = p.1
    split <;> rfl
  · rw [List.map_append]
    rfl
/-- which numbers a name has -/
def numsOf (ys : List Kk) (nm : Str) : List V := (ys.filter fun y => decide (y.1 = nm)).map fun y => .int y.2
/-- the dict at d tells ys name by name -/
def Nums0 (H : Hp) (d : Addr) (ys : List Kk) : Prop := ∃ kvs, H d = some (.dK kvs) ∧ kvs.map (·.1) = (dset (ys.map (·.1))).map Sum.inr ∧ ∀ nm ∈ ys.map (·.1), ∃ t, valV kvs (.inr nm) = some (.ref t) ∧ H t = some (.tup (numsOf ys nm))
def Asc (ys : List Kk) : Prop := ys.Pairwise fun x y => pLt y x = false
def NumsAt (H : Hp) (d : Addr) (ks : List Kk) : Prop := ∃ ys, ys.Perm ks ∧ Asc ys ∧ Nums0 H d ys
theorem Nums0.same {H H' : Hp} {d : Addr} {ys : List Kk} (S : Same H H') (h : Nums0 H d ys) : Nums0 H' d ys := by
  obtain ⟨kvs, h1, h2, h3⟩ := h
  exact ⟨kvs, S _ _ h1, h2, fun nm hm => let ⟨t, a, b⟩ := h3 nm hm; ⟨t, a, S _ _ b⟩⟩
theorem NumsAt.same {H H' : Hp} {d : Addr} {ks : List Kk} (S : Same H H') (h : NumsAt H d ks) : NumsAt H' d ks := by
  obtain ⟨ys, a, b, c⟩ := h
  exact ⟨ys, a, b, c.same S⟩
/-- the key that the tuple x holds -/
def keyAt (H : Hp) : V → Kk
  | .ref t => match H t with
    | some (.tup [.str a, .int b]) => (a, b)
    | _ => ("", 0)
  | _ => ("", 0)
theorem keyAt_of {H : Hp} {t : Addr} {k : Kk} (h : H t = some (.tup [.str k.1, .int k.2])) : keyAt H (.ref t) = k := by
  show (match H t with
    | some (.tup [.str a, .int b]) => (a, b)
    | _ => (("", 0) : Kk)) = k
  rw [h]
def KeysIn (H : Hp) (bs : List (Addr × Kk)) : Prop := ∀ b ∈ bs, H b.1 = some (.tup [.str b.2.1, .int b.2.2])
def spVn (K : PySem.W.Frag) : Sp := fun vs H Q _ => ∃ (l : Addr) (bs : List (Addr × Kk)), vs = [.ref l] ∧ SqL K H l (bs.map fun b => .ref b.1) ∧ KeysIn H bs ∧ bs.length ≤ 40 ∧ ∀ d H', Same H H' → H d = none → NumsAt H' d (bs.map (·.2)) → Q (.ref d) H'
theorem scVn : FnScope ["keys", "versions", "name", "version"] ["keys"] (defScope sVn) := ⟨rfl, rfl, rfl, by decide +kernel, rfl, by decide +kernel, by decide +kernel⟩
theorem nums_snoc {ys : List Kk} {y : Kk} {nm : Str} : numsOf (ys ++ [y]) nm = if y.1 = nm then numsOf ys nm ++ [.int y.2] else numsOf ys nm := by
  unfold numsOf
  rw [List.filter_append, List.map_append]
  by_cases e : y.1 = nm
  · rw [if_pos e, List.filter_cons_of_pos (by simpa using e)]
    rfl
  · rw [if_neg e, List.filter_cons_of_neg (by simpa using e)]
    simp
theorem nums_none {ys : List Kk} {nm : Str} (h : nm ∉ ys.map (·.1)) : numsOf ys nm = [] := by
  unfold numsOf
  rw [List.map_eq_nil_iff, List.filter_eq_nil_iff]
  intro y hy z
  exact h (List.mem_map.mpr ⟨y, hy, of_decide_eq_true z⟩)
section
variable {P : Program} {w : World} {K : PySem.W.Frag} {mg : Str → Option Value} {base : Heap}
theorem ok_vn {f : Addr} {fd : FuncData} (F : Fun K "versions_by_name" "versions_by_name" sVn f fd) (hS : mg "sorted" = none) : FnOk P w K mg base CX0 1 f fd ["keys"] (spVn K) := by
  refine F.ok scVn (fun vs H Q E h => ?_) (fun cdv A outer s H vs Q E hr h => ?_)
  · obtain ⟨l, bs, rfl, _⟩ := h
    rfl
  · obtain ⟨l, bs, rfl, hl, hb, hz, k⟩ := h
    have nd' := scVn.nd
    have hu := hu_of hr
    refine ⟨_, pss_cons (ps_set (i := 1) nd' rfl (Or.inl rfl) pe_dnewK)
      (pss_cons (ps_for PassesOwn.never rfl (pi_list (pe_callB cr_sortTI (by rfl) hS (by decide +kernel) (pa_cons (pv 0) pa_nil))) (pg_tup rfl (pgs_cons (pg_name (i := 2) nd' rfl (Or.inl rfl)) (pgs_cons (pg_name (i := 3) nd' rfl (Or.inl rfl)) pgs_nil)))
        (pss_one (ps_dput hu (pv 1) (pv 2) (pe_tup (StX.pa_star (pe_dget2 hu (pv 1) (pv 2) (pe_tup pa_nil) ⟨rfl, rfl, rfl, rfl⟩) (pa_cons (pv 3) pa_nil))) rfl)))
      (pss_one (ps_ret (pv 1)))), ?_⟩
    refine fun d nd1 => ?_
    have s1 : Same H (upd H d (.dK [])) := Same.upd_new nd1
    refine ⟨_, rfl, l, _, keyAt (upd H d (.dK [])), rfl, s1.seq hl, fun x hx => ?_, fun ys p hs hp np => ?_⟩
    · obtain ⟨b, hb', rfl⟩ := List.mem_map.mp hx
      have g := s1 _ _ (hb b hb')
      refine ⟨b.1, rfl, ?_⟩
      rw [keyAt_of g]
      exact g
    · have zs : (ys.map (keyAt (upd H d (.dK [])))).Perm (bs.map (·.2)) := by
        have e := hp.map (keyAt (upd H d (.dK [])))
        rw [List.map_map] at e
        rw [show bs.map (·.2) = bs.map (keyAt (upd H d (.dK [])) ∘ fun b => V.ref b.1) from List.map_congr_left fun b hb' => (keyAt_of (s1 _ _ (hb b hb'))).symm]
        exact e
      have asc : Asc (ys.map (keyAt (upd H d (.dK [])))) := List.pairwise_map.mpr hs
      have tups : ∀ y ∈ ys, ∃ t, y = .ref t ∧ (upd H d (.dK [])) t = some (.tup [.str (keyAt (upd H d (.dK [])) y).1, .int (keyAt (upd H d (.dK [])) y).2]) := fun y hy => by
        obtain ⟨b, hb', rfl⟩ := List.mem_map.mp (hp.mem_iff.mp hy)
        have g := s1 _ _ (hb b hb')
        refine ⟨b.1, rfl, ?_⟩
        rw [keyAt_of g]
        exact g
      have yl : ys.length ≤ 40 := by rw [hp.length_eq, List.length_map]; exact hz
      have hdp : d ≠ p := fun z => by rw [← z, upd_same] at np; cases np
      generalize keyAt (upd H d (.dK [])) = key at zs asc tups
      refine ⟨p, rfl, ⟨_, SqL.of upd_same⟩, ?_⟩
      refine for_it (walk_list (K := K) (a := p) (xs := ys)) (fun i σ H' => (∃ x2 x3, σ = [some (.ref l), some (.ref d), x2, x3]) ∧ Same H H' ∧ H' p = some (.lst ys) ∧ (∀ y ∈ ys, ∃ t, y = .ref t ∧ H' t = some (.tup [.str (key y).1, .int (key y).2])) ∧ Nums0 H' d ((ys.take i).map key)) ?_ ?_ ?_ ?_
      · refine ⟨⟨_, _, rfl⟩, s1.trans (Same.upd_new np), upd_same, fun y hy => ?_, ⟨[], by rw [upd_ne hdp, upd_same], rfl, fun nm hm => by simp at hm⟩⟩
        obtain ⟨t, e, g⟩ := tups y hy
        exact ⟨t, e, (Same.upd_new np) _ _ g⟩
      · exact fun i σ H' _ I => SqL.of I.2.2.1
      · rintro i x σ H1 H2 hi ⟨⟨x2, x3, rfl⟩, sm, gp, gt, ⟨kvs, gd, gk, gv⟩⟩ ⟨rfl, hx⟩
        obtain ⟨t, rfl, ht⟩ := gt x (List.mem_of_getElem? hx)
        have tk : (ys.take (i + 1)).map key = (ys.take i).map key ++ [key (.ref t)] := by rw [take_snoc hx, List.map_append] <;> rfl
        have il : i ≤ 40 := by omega
        have kl : kvs.length ≤ 40 := by
          have e := congrArg List.length gk
          rw [List.length_map, List.length_map] at e
          have := nd_le (((ys.take i).map key).map (·.1))
          unfold nd at this
          rw [List.length_map, List.length_map, List.length_take] at this
          omega
        refine ⟨t, _, rfl, .inl (.inl ht), rfl, _, _, rfl, _, _, rfl, rfl, ?_⟩
        generalize key (.ref t) = y at ht tk
        refine ⟨_, rfl, d, rfl, .inl ⟨kvs, .inl gd⟩, _, rfl, Nat.zero_le _, fun te nte => ?_⟩
        have se : Same H2 (upd H2 te (.tup [])) := Same.upd_new nte
        have wh : ∃ u, ((valV kvs (.inr y.1)).getD (.ref te)) = .ref u ∧ (upd H2 te (.tup [])) u = some (.tup (numsOf ((ys.take i).map key) y.1)) := by
          by_cases hm : y.1 ∈ ((ys.take i).map key).map (·.1)
          · obtain ⟨u, a, b⟩ := gv y.1 hm
            exact ⟨u, by rw [a]; rfl, se _ _ b⟩
          · have e : valV kvs (.inr y.1) = none := by
              cases c : valV kvs (.inr y.1) with
              | none => rfl
              | some v =>
                have z := valV_in c
                rw [gk] at z
                obtain ⟨q, hq, eq⟩ := List.mem_map.mp z
                injection eq with eq
                subst eq
                exact absurd ((mem_dset _ _).mp hq) hm
            exact ⟨te, by rw [e]; rfl, by rw [nums_none hm, upd_same]⟩
        obtain ⟨u, eu, hu'⟩ := wh
        refine ⟨_, DGet.k (k := .inr y.1) (se _ _ gd), ?_⟩
        refine ⟨u, _, eu, .inl (.inl (.inl hu')), _, rfl, ?_, fun tt ntt => ?_⟩
        · rw [List.length_append]
          have : (numsOf ((ys.take i).map key) y.1).length ≤ 40 := by
            unfold numsOf
            rw [List.length_map]
            refine Nat.le_trans (List.length_filter_le _ _) ?_
            rw [List.length_map, List.length_take]
            omega
          show _ + 1 ≤ sizeLine
          rw [sizeLine_eq]
          omega
        have st := Same.upd_new (o := .tup (numsOf ((ys.take i).map key) y.1 ++ [.int y.2])) ntt
        have gd2 := st _ _ (se _ _ gd)
        refine ⟨_, rfl, _, rfl, d, _, rfl, DPut.k (k := .inr y.1) gd2 (by rw [sizeLine_eq]; omega), ?_⟩
        have ne : ∀ {b o}, (∀ kvs, o ≠ .dK kvs) → H2 b = some o → (upd (upd (upd H2 te (.tup [])) tt (.tup (numsOf ((ys.take i).map key) y.1 ++ [.int y.2]))) d (.dK (putK kvs (.inr y.1) (.ref tt)))) b = some o := fun {b o} hk q => by
          rw [upd_ne (ne_of (st _ _ (se _ _ q)) gd2 (hk _))]
          exact st _ _ (se _ _ q)
        refine ⟨⟨_, _, rfl⟩, fun b o q => ?_, ne (by intro z e; cases e) gp, fun y' hy' => ?_, ?_⟩
        · have nb : b ≠ d := ne_of_none q nd1
          rw [upd_ne nb]
          exact st _ _ (se _ _ (sm _ _ q))
        · obtain ⟨t', e', g'⟩ := gt y' hy'
          exact ⟨t', e', ne (by intro z e; cases e) g'⟩
        · refine ⟨_, upd_same, ?_, fun nm hm => ?_⟩
          · rw [put_keys, gk, tk, List.map_append, List.map_singleton, dset_snoc]
            unfold dstep
            have e : has ((dset (((ys.take i).map key).map (·.1))).map (Sum.inr : Str → Key)) (.inr y.1) = has (dset (((ys.take i).map key).map (·.1))) y.1 := by
              unfold has
              rw [List.any_map]
              congr 1
              funext z
              show decide ((Sum.inr z : Key) = .inr y.1) = decide (z = y.1)
              rw [decide_eq_decide]
              exact ⟨fun q => by injection q, fun q => by rw [q]⟩
            rw [e]
            split
            · rfl
            · rw [List.map_append]
              rfl
          · rw [tk, List.map_append, List.mem_append] at hm
            rw [valV_put, tk, nums_snoc]
            by_cases e : y.1 = nm
            · subst e
              refine ⟨tt, by rw [if_pos rfl], ?_⟩
              rw [if_pos rfl, upd_ne (fun z => by rw [z, se _ _ gd] at ntt; cases ntt), upd_same]
            · rw [if_neg e, if_neg (fun q => e (by injection q with q; exact q.symm))]
              obtain ⟨t', a, b⟩ := gv nm (hm.resolve_right fun z => e (List.mem_singleton.mp (show nm ∈ [y.1] from z)).symm)
              exact ⟨t', a, ne (by intro z e; cases e) b⟩
      · rintro σ H' ⟨⟨x2, x3, rfl⟩, sm, gp, gt, gn⟩
        rw [List.take_length] at gn
        exact ⟨_, rfl, k d H' sm nd1 ⟨_, zs, asc, gn⟩⟩
end
end Half

namespace Half
open PySem PySem.Spec PyProof.Rows L2
abbrev sSt (i : Nat) : Stmt := inClass (top 30) i
/-! ### what a store holds -/
def tabOf (es : Eds) : List (List Key × V) := es.map fun e => (kk e.2, .ref e.1)
structure StObj (CT : Addr) (H : Hp) (a : Addr) (es : Eds) : Prop where
  ob : ∃ dx tb nb, H a = some (.ins CT dx [("table", .ref tb), ("numbers", .ref nb)]) ∧ H tb = some (.dT (tabOf es)) ∧ NumsAt H nb (keysOf es)
  one : (keysOf es).Nodup
theorem StObj.same {CT : Addr} {H H' : Hp} {a : Addr} {es : Eds} (S : Same H H') (h : StObj CT H a es) : StObj CT H' a es := by
  obtain ⟨⟨dx, tb, nb, h1, h2, h3⟩, one⟩ := h
  exact ⟨⟨dx, tb, nb, S _ _ h1, S _ _ h2, h3.same S⟩, one⟩
theorem wrong_none {ks : List Kk} (h : wrongAt ks = none) : ks ≠ [] ∧ ∀ i, i < ks.length → badB ks i = false := by
  unfold wrongAt at h
  split at h
  · cases h
  · rename_i he
    exact ⟨fun z => he (by rw [z]; rfl), fun i hi => by simpa using List.find?_eq_none.mp h i (List.mem_range.mpr hi)⟩
theorem bad_has {ks : List Kk} {i : Nat} {k : Kk} (h : badB ks i = false) (hk : ks[i]? = some k) : k ∉ ks.take i := by
  unfold badB at h
  rw [hk] at h
  simp only [Bool.or_eq_false_iff] at h
  exact not_has h.1
theorem wrong_nodup {ks : List Kk} (h : wrongAt ks = none) : ks.Nodup := by
  have hb := (wrong_none h).2
  have key : ∀ i, i ≤ ks.length → (ks.take i).Nodup := by
    intro i
    induction i with
    | zero => intro _; exact .nil
    | succ i ih =>
      intro hi
      have e : ks[i]? = some ks[i] := List.getElem?_eq_getElem hi
      rw [take_snoc e]
      refine List.nodup_append.mpr ⟨ih (Nat.le_of_succ_le hi), List.nodup_cons.mpr ⟨by simp, .nil⟩, fun a ha b hb' z => ?_⟩
      rw [List.mem_singleton.mp hb'] at z
      rw [z] at ha
      exact bad_has (hb i hi) e ha
  have := key ks.length (Nat.le_refl _)
  rwa [List.take_length] at this
theorem tab_none {es : Eds} {k : Kk} (h : k ∉ keysOf es) : valV (tabOf es) (kk k) = none := by
  cases c : valV (tabOf es) (kk k) with
  | none => rfl
  | some v =>
    have z := valV_in c
    unfold tabOf at z
    rw [List.map_map] at z
    obtain ⟨e, he, ee⟩ := List.mem_map.mp z
    exact absurd (List.mem_map.mpr ⟨e, he, kk_inj ee⟩) h
theorem tab_some {es : Eds} (one : (keysOf es).Nodup) {e : Addr × Kk} (h : e ∈ es) : valV (tabOf es) (kk e.2) = some (.ref e.1) := by
  have nd : ((tabOf es).map (·.1)).Nodup := by
    unfold tabOf
    rw [List.map_map]
    have : (es.map ((fun x : List Key × V => x.1) ∘ fun e => (kk e.2, V.ref e.1))) = (keysOf es).map kk := by rw [List.map_map] <;> rfl
    rw [this]
    exact List.pairwise_map.mpr (one.imp fun hne e => hne (kk_inj e))
  exact val_nodup nd (kk e.2, .ref e.1) (List.mem_map.mpr ⟨e, h, rfl⟩)
def spSi (K : PySem.W.Frag) (C CT CI : Addr) : Sp := fun vs H Q E => ∃ (x t dx : Addr) (es : Eds), vs = [.ref x, .ref t] ∧ H x = some (.ins CT dx []) ∧ EdsAt K C H t es ∧ es.length ≤ 40 ∧
  (wrongAt (keysOf es) = none → ∀ H', SameBut x H H' → StObj CT H' x es → Q .non H') ∧ (∀ i, wrongAt (keysOf es) = some i → ∀ H' d, Same H H' → H' d = some (.xd [("index", .int i)]) → E (.ref CI) (some d) H')
structure TxtS (P : Program) (w : World) (K : PySem.W.Frag) (mg : Str → Option Value) (base : Heap) (C CT CI fI : Addr) (fdI : FuncData) : Prop where
  cl : Cls K CT
  nT : NoAttr K CT "table"
  nN : NoAttr K CT "numbers"
  lst : mg "list" = none
  mgE : mg "InvalidStore" = some (.ref CI)
  sup : SupC P K mg CI
  nF : PySem.W.findIn K (.ref CI) "index" = some none
  iC : PySem.W.findIn K (.ref CI) "__init__" = some (some (.ref fI))
  tI : PySem.W.typeIn K (.ref fI) = some (.type "function")
  er : ErrFn P K CI "InvalidStore.__init__" sIs fI fdI
  bI : Binds K fdI ["self", "index"] []
  p0 : Prp P w K mg base C "name" 0
  p1 : Prp P w K mg base C "version" 1
  ce : Cls K C
  dW : Def P w K mg base 3 "wrong_index" ["editions"] (spWi K C)
  dV : Def P w K mg base 1 "versions_by_name" ["keys"] (spVn K)
abbrev SiN : List Str := ["self", "editions", "index", "edition"]
theorem scSi : FnScope SiN ["self", "editions"] (defScope (sSt 0)) := ⟨rfl, rfl, rfl, by decide +kernel, rfl, by decide +kernel, by decide +kernel⟩
theorem wrong_bound {ks : List Kk} {i : Nat} (h : wrongAt ks = some i) : i ≤ ks.length := by
  unfold wrongAt at h
  split at h
  · cases h; exact Nat.zero_le _
  · exact Nat.le_of_lt (List.mem_range.mp (List.mem_of_find?_eq_some h))
section
variable {P : Program} {w : World} {K : PySem.W.Frag} {mg : Str → Option Value} {base : Heap} {C CT CI fI : Addr} {fdI : FuncData}
theorem ok_si {f : Addr} {fd : FuncData} (F : Fun K "__init__" "Store.__init__" (sSt 0) f fd) (T : TxtS P w K mg base C CT CI fI fdI) : FnOk P w K mg base (L2.CX P w) 4 f fd ["self", "editions"] (spSi K C CT CI) := by
  refine F.okX scSi (fun vs H Q E h => ?_) (fun cdv A outer s H vs Q E hr h => ?_)
  · obtain ⟨x, t, dx, es, rfl, _⟩ := h
    rfl
  · obtain ⟨x, t, dx, es, rfl, hx, hE, hz, kOk, kBad⟩ := h
    have nd' := scSi.nd
    have hu := hu_of hr
    have r2 : Room 2 _ := hr.mono (by decide)
    have FI : FnOk P w K mg base CX0 1 fI fdI ["self", "index"] (spErrI CI "index") := ok_is T.er T.sup T.nF
    refine ⟨_, pss_cons (ps_set (i := 2) nd' rfl (Or.inl rfl) (pe_def T.dW hr rfl (pa_cons (pv 1) pa_nil)))
      (pss_cons (ps_if (pt_cmp (pc_notN (pv 2))) (pss_one (ps_raise rfl (takes_of rfl rfl rfl rfl) (pmk_oex T.sup.oex T.iC T.tI FI (hr.mono (by decide)) T.bI .nil (fun _ _ _ _ _ _ _ h => h.elim) rfl T.mgE (pa_cons (pv 2) pa_nil)))) pss_nil)
      (pss_cons (ps_fld (pv 0) (pe_dcG (own := [("edition", 3)]) (g := gName 3) (tt := tYes) Bare.t hu rfl nd' (pi_tup (pv 1)) (blkOk_by (N := SiN) (sc := defScope (sSt 0)) (by decide +kernel)) (fun _ _ _ _ _ => pg_name (i := 3) nd' rfl (Or.inl rfl)) (fun _ _ _ _ _ => pts_nil)
          (fun _ _ _ _ _ => pe_tup (pa_cons (pe_prp T.p0 T.ce r2 (pv 3)) (pa_cons (pe_prp T.p1 T.ce r2 (pv 3)) pa_nil))) (fun _ _ _ _ _ => pv 3)) rfl)
      (pss_one (ps_fld (pv 0) (pe_def T.dV (hr.mono (by decide)) rfl (pa_cons (pe_callTy (call_list_dT rfl) (by rfl) T.lst (by decide +kernel) (pa_cons (pe_fld (pv 0) rfl) pa_nil)) pa_nil)) rfl)))), ?_⟩
    refine ⟨_, rfl, t, es, rfl, hE, hz, fun H1 s1 => ?_⟩
    cases hw : wrongAt (keysOf es) with
    | some i =>
      refine ⟨_, rfl, true, rfl, ?_⟩
      refine iteT ?_
      have hi : i ≤ 1000 := by
        have := wrong_bound hw
        rw [List.length_map] at this
        omega
      refine ⟨_, rfl, (by show 1 ≤ 1000; decide), fun a ha => ⟨a, i, rfl, upd_same, hi, fun d hd1 hd2 => ⟨rfl, d, [("index", .int i)], upd_same, ?_, ?_, ?_⟩⟩⟩
      · rw [upd_ne hd2, upd_same]
      · rw [upd_ne hd2] at hd1
        exact hd1
      · rw [upd_ne hd2] at hd1
        refine kBad i hw _ d (fun b o q => ?_) upd_same
        have q1 := s1 b o q
        have nb : b ≠ d := ne_of_none q1 hd1
        have na : b ≠ a := ne_of_none q1 ha
        rw [upd_ne nb, del_ne na, upd_ne na, upd_ne nb, upd_ne na]
        exact q1
    | none =>
      refine ⟨_, rfl, false, rfl, ?_⟩
      refine iteF ?_
      have one := wrong_nodup hw
      refine ⟨_, rfl, t, rfl, ⟨_, (hE.same s1).1⟩, fun D nD => ?_⟩
      refine dcG_it (walk_tup (K := K) (a := t) (xs := es.map fun e => .ref e.1)) (fun i H' => Same H1 H' ∧ H' D = some (.dT (tabOf (es.take i)))) ⟨Same.upd_new nD, upd_same⟩ (fun i H' _ I => ((hE.same s1).same I.1).1) ?_ ?_
      · rintro i v H2 H2' hi ⟨sm, gD⟩ ⟨rfl, hv⟩
        obtain ⟨e, he, rfl⟩ : ∃ e, es[i]? = some e ∧ v = .ref e.1 := by
          rw [List.getElem?_map] at hv
          obtain ⟨e, h1, h2⟩ := Option.map_eq_some_iff.mp hv
          exact ⟨e, h1, h2.symm⟩
        obtain ⟨dy, p, xs, h1, h2⟩ := ((hE.2 e (List.mem_of_getElem? he)).same s1).same sm
        refine ⟨rfl, ?_⟩
        refine ⟨_, rfl, e.1, dy, _, rfl, h1, e.1, dy, p, _, _, rfl, h1, h2, rfl, _, rfl, e.1, dy, _, rfl, h1, e.1, dy, p, _, _, rfl, h1, h2, rfl, two_le, fun tk ntk => ?_⟩
        have st := Same.upd_new (o := .tup [.str e.2.1, .int e.2.2]) ntk
        have hi' : i < es.length := (List.getElem?_eq_some_iff.mp he).1
        refine ⟨_, rfl, _, DPut.t (k := kk e.2) (st _ _ gD) upd_same (by unfold tabOf; rw [List.length_map, List.length_take, sizeLine_eq]; omega), ?_, ?_⟩
        · intro b o q
          rw [upd_ne (ne_of_none q nD)]
          exact st _ _ (sm _ _ q)
        · have new : valV (tabOf (es.take i)) (kk e.2) = none := by
            refine tab_none fun z => ?_
            have hke : (keysOf es)[i]? = some e.2 := by rw [List.getElem?_map, he] <;> rfl
            refine bad_has ((wrong_none hw).2 i (by rw [List.length_map]; exact hi')) hke ?_
            rw [← List.map_take]
            exact z
          rw [putK_new _ new, upd_same, take_snoc he]
          unfold tabOf
          rw [List.map_append]
          rfl
      · rintro H2 ⟨sm, gD⟩
        rw [List.length_map, List.take_length] at gD
        have hx2 := sm _ _ (s1 _ _ hx)
        refine ⟨_, rfl, x, CT, dx, [], rfl, hx2, T.cl, T.nT, (by show 0 < 1000; decide), ?_⟩
        have nxD : D ≠ x := ne_of gD hx2 (by intro z; cases z)
        have gx3 : (upd H2 x (.ins CT dx (putF "table" (.ref D) []))) x = some (.ins CT dx [("table", .ref D)]) := upd_same
        have gD3 : (upd H2 x (.ins CT dx (putF "table" (.ref D) []))) D = some (.dT (tabOf es)) := by rw [upd_ne nxD]; exact gD
        refine ⟨_, rfl, x, CT, dx, _, _, rfl, gx3, T.cl, T.nT, rfl, D, _, rfl, .inl gD3, fun pl bs npl hbs => ?_⟩
        have sl := Same.upd_new (o := .lst (bs.map V.ref)) npl
        have lb : (tabOf es).length = bs.length := Paired.length hbs
        have lb' : bs.length = (keysOf es).length := by
          rw [← lb]
          unfold tabOf
          rw [List.length_map, List.length_map]
        have zip1 : (bs.zip (keysOf es)).map (fun b => V.ref b.1) = bs.map V.ref := by
          rw [show (fun b : Addr × Kk => V.ref b.1) = V.ref ∘ Prod.fst from rfl, ← List.map_map, List.map_fst_zip (Nat.le_of_eq lb')]
        have zip2 : (bs.zip (keysOf es)).map (·.2) = keysOf es := List.map_snd_zip (Nat.le_of_eq lb'.symm)
        have hk : ∀ {es : Eds} {bs : List Addr} {H : Hp}, IsKeys H (tabOf es) bs → KeysIn H (bs.zip (keysOf es)) := by
          intro es
          induction es with
          | nil => intro bs H _ b hb; simp at hb
          | cons e es ih =>
            intro bs H h
            cases h with
            | cons h t =>
              intro b hb
              rcases List.mem_cons.mp hb with rfl | hb
              · exact h
              · exact ih t b hb
        refine ⟨pl, bs.zip (keysOf es), rfl, by rw [zip1]; exact SqL.of upd_same, fun b hb => sl _ _ (hk hbs b hb), by rw [List.length_zip, List.length_map]; omega, fun d H5 s5 nd5 nums => ?_⟩
        rw [zip2] at nums
        have gx5 := s5 _ _ (sl _ _ gx3)
        refine ⟨_, rfl, x, CT, dx, _, rfl, gx5, T.cl, T.nN, (by show 1 < 1000; decide), ?_⟩
        have keep : SameBut x H (upd H5 x (.ins CT dx (putF "numbers" (.ref d) [("table", .ref D)]))) := fun b o hb q => by
          rw [upd_ne hb]
          refine s5 _ _ (sl _ _ ?_)
          rw [upd_ne hb]
          exact sm _ _ (s1 _ _ q)
        have sx : ∀ b o, (∀ fs, o ≠ .ins CT dx fs) → H5 b = some o → (upd H5 x (.ins CT dx (putF "numbers" (.ref d) [("table", .ref D)]))) b = some o := fun b o ho q => by
          rw [upd_ne (ne_of q gx5 (ho _))]
          exact q
        refine kOk hw _ keep ⟨⟨dx, D, d, upd_same, sx _ _ (by intro fs z; cases z) (s5 _ _ (sl _ _ gD3)), ?_⟩, one⟩
        obtain ⟨ys, a1, a2, kvs, a3, a4, a5⟩ := nums
        refine ⟨ys, a1, a2, kvs, sx _ _ (by intro fs z; cases z) a3, a4, fun nm hm => ?_⟩
        obtain ⟨tt, b1, b2⟩ := a5 nm hm
        exact ⟨tt, b1, sx _ _ (by intro fs z; cases z) b2⟩
end
end Half

namespace Half
open PySem PySem.Spec PyProof.Rows L2
/-- an error class without an own __init__ -/
structure ErrC (K : PySem.W.Frag) (mg : Str → Option Value) (x : Str) (C : Addr) : Prop where
  g : mg x = some (.ref C)
  x : PySem.W.excIn K C [.type "ValueError", .type "Exception", .type "BaseException", .type "object"] "ValueError.__new__" = true
  k : PySem.W.keepIn K (.ref C) = true
  b : PySem.W.subIn K (.ref C) (.type "BaseException") = some true
  t : PySem.W.typeIn K (.ref C) = some (.type "type")
structure TxtT (K : PySem.W.Frag) (mg : Str → Option Value) (CT CN CU : Addr) : Prop where
  cl : Cls K CT
  nT : NoAttr K CT "table"
  nN : NoAttr K CT "numbers"
  tup : mg "tuple" = none
  len : mg "len" = none
  isi : mg "isinstance" = none
  boo : mg "bool" = none
  mgC : mg "Store" = some (.ref CT)
  en : ErrC K mg "UnknownName" CN
  eu : ErrC K mg "UnknownEdition" CU
  ha : PySem.W.findIn K (.ref CT) "__class__" = some (some (.builtin "object.__class__"))
  hn : PySem.W.specialIn K (.builtin "object.__class__") "__get__" = some (some (.builtin "getset_descriptor.__get__"))
  ht : PySem.W.takesIn K (.builtin "object.__class__") = some true
  hm : PySem.W.mroIn K CT (.type "object") = some true
  ki : PySem.W.kitOne K (.ref CT) (.ref CT) = some true
def spNames (CT : Addr) : Sp := fun vs H Q _ => ∃ (a : Addr) (es : Eds), vs = [.ref a] ∧ StObj CT H a es ∧ ∀ ys p, ys.Perm (keysOf es) → Asc ys → H p = none → Q (.ref p) (upd H p (.tup ((dset (ys.map (·.1))).map V.str)))
def spVers (CT CN : Addr) : Sp := fun vs H Q E => ∃ (a : Addr) (es : Eds) (nm : Str), vs = [.ref a, .str nm] ∧ StObj CT H a es ∧
  (nm ∈ (keysOf es).map (·.1) → ∀ ys t, ys.Perm (keysOf es) → Asc ys → H t = some (.tup (numsOf ys nm)) → Q (.ref t) H) ∧ (nm ∉ (keysOf es).map (·.1) → (reprText nm).length ≤ 1000 ∧ E (.ref CN) none H)
def spLen (CT : Addr) : Sp := fun vs H Q _ => ∃ (a : Addr) (es : Eds), vs = [.ref a] ∧ StObj CT H a es ∧ Q (.int (es.length : Nat)) H
def spHas (CT : Addr) : Sp := fun vs H Q _ => ∃ (a b : Addr) (es : Eds) (k : Kk), vs = [.ref a, .ref b] ∧ StObj CT H a es ∧ H b = some (.tup [.str k.1, .int k.2]) ∧ Q (.bl (has (keysOf es) k)) H
def spItem (CT CU : Addr) : Sp := fun vs H Q E => ∃ (a b : Addr) (es : Eds) (k : Kk), vs = [.ref a, .ref b] ∧ StObj CT H a es ∧ H b = some (.tup [.str k.1, .int k.2]) ∧ (∀ e ∈ es, e.2 = k → Q (.ref e.1) H) ∧ (k ∉ keysOf es → E (.ref CU) none H)
def spStEq (CT : Addr) : Sp := fun vs H Q _ => ∃ (a b : Addr) (es es' : Eds), vs = [.ref a, .ref b] ∧ StObj CT H a es ∧ StObj CT H b es' ∧ (es.length = es'.length → ∀ e ∈ es, e ∈ es') ∧ Q (.bl (decide (es.length = es'.length))) H
section
variable {P : Program} {w : World} {K : PySem.W.Frag} {mg : Str → Option Value} {base : Heap} {CT CN CU : Addr}
theorem scNames : FnScope ["self"] ["self"] (defScope (sSt 1)) := ⟨rfl, rfl, rfl, by decide +kernel, rfl, by decide +kernel, by decide +kernel⟩
theorem ok_names {f : Addr} {fd : FuncData} (F : Fun K "names" "Store.names" (sSt 1) f fd) (T : TxtT K mg CT CN CU) : FnOk P w K mg base CX0 1 f fd ["self"] (spNames CT) := by
  refine F.ok scNames (fun vs H Q E h => ?_) (fun cdv A outer s H vs Q E hr h => ?_)
  · obtain ⟨a, es, rfl, _⟩ := h
    rfl
  · obtain ⟨a, es, rfl, ⟨⟨dx, tb, nb, h1, h2, ys, p1, p2, kvs, h3, h4, h5⟩, one⟩, k⟩ := h
    refine ⟨_, pss_one (ps_ret (pe_callTy (call_tuple_dK rfl) (by rfl) T.tup (by decide +kernel) (pa_cons (pe_fld (pv 0) rfl) pa_nil))), ?_⟩
    refine ⟨_, rfl, a, CT, dx, _, _, rfl, h1, T.cl, T.nN, rfl, nb, kvs, rfl, h3, fun q nq => ?_⟩
    have e : kvs.map (fun kv => kV kv.1) = (dset (ys.map (·.1))).map V.str := by
      rw [show (fun kv : Key × V => kV kv.1) = kV ∘ Prod.fst from rfl, ← List.map_map, h4, List.map_map]
      rfl
    rw [e]
    exact k ys q p1 p2 nq
theorem scVers : FnScope ["self", "name"] ["self", "name"] (defScope (sSt 2)) := ⟨rfl, rfl, rfl, by decide +kernel, rfl, by decide +kernel, by decide +kernel⟩
theorem ok_vers {f : Addr} {fd : FuncData} (F : Fun K "versions" "Store.versions" (sSt 2) f fd) (T : TxtT K mg CT CN CU) : FnOk P w K mg base (L2.CX P w) 1 f fd ["self", "name"] (spVers CT CN) := by
  refine F.okX scVers (fun vs H Q E h => ?_) (fun cdv A outer s H vs Q E hr h => ?_)
  · obtain ⟨a, es, nm, rfl, _⟩ := h
    rfl
  · obtain ⟨a, es, nm, rfl, ⟨⟨dx, tb, nb, h1, h2, ys, p1, p2, kvs, h3, h4, h5⟩, one⟩, kY, kN⟩ := h
    have hu := hu_of hr
    refine ⟨_, pss_cons (ps_if (pt_cmp (pc_dnotin hu (pv 1) (pe_fld (pv 0) rfl))) (pss_one (ps_raise rfl (takes_of rfl rfl rfl rfl) (SkE.pmk_own1 PySem.F.excBase_ValueError T.en.x T.en.g T.en.k (raises_own T.en.b T.en.t) rfl (pe_joined (.cons pe_str (.cons (pe_fmtR (pv 1)) .nil)))))) pss_nil)
      (pss_one (ps_ret (pe_dget hu (pe_fld (pv 0) rfl) (pv 1) (fun _ _ => rfl)))), ?_⟩
    have mem : ∀ x, x ∈ ys.map (·.1) ↔ x ∈ (keysOf es).map (·.1) := fun x => (p1.map (·.1)).mem_iff
    refine ⟨_, rfl, _, rfl, a, CT, dx, _, _, rfl, h1, T.cl, T.nN, rfl, nb, _, rfl, DGet.k (k := .inr nm) h3, _, rfl, ?_⟩
    by_cases hm : nm ∈ (keysOf es).map (·.1)
    · obtain ⟨t, e1, e2⟩ := h5 nm ((mem nm).mpr hm)
      refine ite_no (by rw [e1]; rfl) ?_
      refine ⟨_, rfl, a, CT, dx, _, _, rfl, h1, T.cl, T.nN, rfl, _, rfl, nb, .ref t, rfl, ?_, kY hm ys t p1 p2 e2⟩
      rw [← e1]
      exact DGet.k (k := .inr nm) h3
    · have e : valV kvs (.inr nm) = none := by
        cases c : valV kvs (.inr nm) with
        | none => rfl
        | some v =>
          have z := valV_in c
          rw [h4] at z
          obtain ⟨q, hq, eq⟩ := List.mem_map.mp z
          injection eq with eq
          subst eq
          exact absurd ((mem q).mp ((mem_dset _ _).mp hq)) hm
      refine ite_yes (by rw [e]; rfl) ?_
      obtain ⟨lr, kE⟩ := kN hm
      refine ⟨_, rfl, (by decide), _, rfl, .inl ⟨nm, rfl, by rw [sizeLine_eq]; omega, _, rfl, ?_, kE⟩⟩
      rw [app_len, app_len, sizeLine_eq]
      have : ("the store has no package " : Str).length = 25 := by decide
      have e0 : (Str.empty).length = 0 := by decide
      omega
theorem scLen : FnScope ["self"] ["self"] (defScope (sSt 3)) := ⟨rfl, rfl, rfl, by decide +kernel, rfl, by decide +kernel, by decide +kernel⟩
theorem ok_len {f : Addr} {fd : FuncData} (F : Fun K "__len__" "Store.__len__" (sSt 3) f fd) (T : TxtT K mg CT CN CU) : FnOk P w K mg base CX0 1 f fd ["self"] (spLen CT) := by
  refine F.ok scLen (fun vs H Q E h => ?_) (fun cdv A outer s H vs Q E hr h => ?_)
  · obtain ⟨a, es, rfl, _⟩ := h
    rfl
  · obtain ⟨a, es, rfl, ⟨⟨dx, tb, nb, h1, h2, _⟩, one⟩, k⟩ := h
    refine ⟨_, pss_one (ps_ret (pe_callB call_len_dT (by rfl) T.len PySem.boot_len (pa_cons (pe_fld (pv 0) rfl) pa_nil))), ?_⟩
    refine ⟨_, rfl, a, CT, dx, _, _, rfl, h1, T.cl, T.nT, rfl, tb, _, rfl, h2, ?_⟩
    have e : (tabOf es).length = es.length := List.length_map _
    rw [e]
    exact k
theorem scHas : FnScope ["self", "x"] ["self", "x"] (defScope (sSt 4)) := ⟨rfl, rfl, rfl, by decide +kernel, rfl, by decide +kernel, by decide +kernel⟩
theorem tab_has {es : Eds} (one : (keysOf es).Nodup) (k : Kk) : (valV (tabOf es) (kk k)).isSome = has (keysOf es) k := by
  by_cases h : k ∈ keysOf es
  · obtain ⟨e, he, rfl⟩ := List.mem_map.mp h
    rw [tab_some one he, has_iff.mpr h]
    rfl
  · rw [tab_none h, has_no h]
    rfl
theorem ok_has {f : Addr} {fd : FuncData} (F : Fun K "__contains__" "Store.__contains__" (sSt 4) f fd) (T : TxtT K mg CT CN CU) : FnOk P w K mg base CX0 1 f fd ["self", "x"] (spHas CT) := by
  refine F.ok scHas (fun vs H Q E h => ?_) (fun cdv A outer s H vs Q E hr h => ?_)
  · obtain ⟨a, b, es, k, rfl, _⟩ := h
    rfl
  · obtain ⟨a, b, es, k, rfl, ⟨⟨dx, tb, nb, h1, h2, _⟩, one⟩, hb, q⟩ := h
    have hu := hu_of hr
    refine ⟨_, pss_one (ps_ret (pe_and (pe_cmp (pc_din hu (pv 1) (pe_fld (pv 0) rfl)) rfl) (pe_one (pe_not (pe_callB call_isi (by rfl) T.isi (by decide +kernel) (pa_cons (pe_ix ix_tup (pv 1) pe_int (fun _ _ => rfl)) (pa_cons (pe_bltn (v := .ty "bool") (by rfl) T.boo (by decide +kernel) rfl) pa_nil))))))), ?_⟩
    refine ⟨_, rfl, _, rfl, a, CT, dx, _, _, rfl, h1, T.cl, T.nT, rfl, tb, _, rfl, DGet.t (k := kk k) h2 hb, _, rfl, ?_⟩
    rw [tab_has one]
    cases c : has (keysOf es) k
    · rw [c] at q
      exact iteF q
    · refine iteT ?_
      rw [c] at q
      refine ⟨_, rfl, b, _, 1, _, rfl, rfl, .inl (.inl hb), rfl, _, _, _, _, _, rfl, .ty _, .base (.int _), kit_ty (r := false) (by decide +kernel), _, rfl, q⟩
theorem scItem : FnScope ["self", "at"] ["self", "at"] (defScope (sSt 5)) := ⟨rfl, rfl, rfl, by decide +kernel, rfl, by decide +kernel, by decide +kernel⟩
theorem ok_item {f : Addr} {fd : FuncData} (F : Fun K "__getitem__" "Store.__getitem__" (sSt 5) f fd) (T : TxtT K mg CT CN CU) {fh : Addr} {fdh : FuncData} (FH : FnOk P w K mg base CX0 1 fh fdh ["self", "x"] (spHas CT)) (hO : OwnSp K CT fh "__contains__") (bh : Binds K fdh ["self", "x"] []) :
    FnOk P w K mg base (L2.CX P w) 2 f fd ["self", "at"] (spItem CT CU) := by
  refine F.okX scItem (fun vs H Q E h => ?_) (fun cdv A outer s H vs Q E hr h => ?_)
  · obtain ⟨a, b, es, k, rfl, _⟩ := h
    rfl
  · obtain ⟨a, b, es, k, rfl, hS, hb, kY, kN⟩ := h
    have hu := hu_of hr
    refine ⟨_, pss_cons (ps_if (pt_cmpR (op_notinO FH hO bh hr pass0) (pv 1) (pv 0) (by rfl)) (pss_one (ps_raise rfl (takes_of rfl rfl rfl rfl) (pmk_own PySem.F.excBase_ValueError T.eu.x T.eu.g T.eu.k (raises_own T.eu.b T.eu.t) rfl))) pss_nil)
      (pss_one (ps_ret (pe_dget hu (pe_fld (pv 0) rfl) (pv 1) (fun _ _ => rfl)))), ?_⟩
    obtain ⟨⟨dx, tb, nb, h1, h2, _⟩, one⟩ := id hS
    refine ⟨_, rfl, _, rfl, a, dx, _, rfl, h1, a, b, es, k, rfl, hS, hb, _, rfl, _, rfl, ?_⟩
    by_cases hm : k ∈ keysOf es
    · rw [has_iff.mpr hm]
      refine ite_no rfl ?_
      obtain ⟨e, he, rfl⟩ := List.mem_map.mp hm
      refine ⟨_, rfl, a, CT, dx, _, _, rfl, h1, T.cl, T.nT, rfl, _, rfl, tb, .ref e.1, rfl, ?_, kY e he rfl⟩
      rw [← tab_some one he]
      exact DGet.t (k := kk e.2) h2 hb
    · rw [has_no hm]
      refine ite_yes rfl ?_
      exact kN hm
theorem scStEq : FnScope ["self", "other"] ["self", "other"] (defScope (sSt 7)) := ⟨rfl, rfl, rfl, by decide +kernel, rfl, by decide +kernel, by decide +kernel⟩
theorem ok_steq {f : Addr} {fd : FuncData} (F : Fun K "__eq__" "Store.__eq__" (sSt 7) f fd) (T : TxtT K mg CT CN CU) : FnOk P w K mg base CX0 1 f fd ["self", "other"] (spStEq CT) := by
  refine F.ok scStEq (fun vs H Q E h => ?_) (fun cdv A outer s H vs Q E hr h => ?_)
  · obtain ⟨a, b, es, es', rfl, _⟩ := h
    rfl
  · obtain ⟨a, b, es, es', rfl, ⟨⟨dx, tb, nb, h1, h2, _⟩, one⟩, ⟨⟨dy, tc, nc, g1, g2, _⟩, one'⟩, hs, k⟩ := h
    have hu := hu_of hr
    refine ⟨_, pss_one (ps_ret (pe_and (pe_callB call_isi (by rfl) T.isi (by decide +kernel) (pa_cons (pv 1) (pa_cons (pe_glob (v := .ref CT) rfl T.mgC rfl) pa_nil)))
      (pe_one (pe_cmpR (op_eqT hu) (pe_fld (pv 0) rfl) (pe_fld (pv 1) rfl) (nomark _))))), ?_⟩
    refine ⟨_, rfl, _, _, _, _, _, rfl, .own CT, .base (.ins g1 T.cl T.ha T.hn T.ht T.hm), T.ki, _, rfl, ?_⟩
    refine iteT ?_
    have e1 : (tabOf es).length = es.length := List.length_map _
    have e2 : (tabOf es').length = es'.length := List.length_map _
    refine ⟨_, rfl, a, CT, dx, _, _, rfl, h1, T.cl, T.nT, rfl, _, rfl, b, CT, dy, _, _, rfl, g1, T.cl, T.nT, rfl, tb, tc, _, _, rfl, rfl, h2, g2, fun hl p hp => ?_, ?_⟩
    · rw [e1, e2] at hl
      obtain ⟨e, he, rfl⟩ := List.mem_map.mp hp
      exact ⟨e.1, rfl, tab_some one' (hs hl e he)⟩
    · rw [e1, e2]
      exact k
end
end Half

/-! == and != of two dicts with flat keys whose values are data -/
namespace L2
open PySem PySem.Spec PyProof.Rows
inductive DpM (K : PySem.W.Frag) (H : Hp) : List (Key × V) → List (Key × PyData) → Prop
  | nil : DpM K H [] []
  | cons {k : Key} {v : V} {d : PyData} {ks : List (Key × V)} {ds : List (Key × PyData)} : Dp K H v d → SeqAt.shaped d = true → DpM K H ks ds → DpM K H ((k, v) :: ks) ((k, d) :: ds)
def datAt (ds : List (Key × PyData)) (k : Key) : Option PyData := (ds.find? fun q => decide (q.1 = k)).map (·.2)
def hitM (dl : List (Key × PyData)) (p : Key × PyData) : Bool := match datAt dl p.1 with
  | some d => PyData.eqv p.2 d
  | none => false
def eqM (dk dl : List (Key × PyData)) : Bool := decide (dk.length = dl.length) && dk.all (hitM dl)
theorem DpM.len {K : PySem.W.Frag} {H : Hp} {ks : List (Key × V)} {ds : List (Key × PyData)} (h : DpM K H ks ds) : ks.length = ds.length := by
  induction h with
  | nil => rfl
  | cons _ _ _ ih => simp [ih]
theorem DpM.at {K : PySem.W.Frag} {H : Hp} {ks : List (Key × V)} {ds : List (Key × PyData)} (h : DpM K H ks ds) (k : Key) : (valV ks k = none ∧ datAt ds k = none) ∨ ∃ v d, valV ks k = some v ∧ datAt ds k = some d ∧ Dp K H v d ∧ SeqAt.shaped d = true := by
  induction h with
  | nil => exact .inl ⟨rfl, rfl⟩
  | @cons k' v d ks ds h1 h2 _ ih =>
    by_cases c : k' = k
    · refine .inr ⟨v, d, ?_, ?_, h1, h2⟩
      · unfold valV; rw [List.find?_cons, decide_eq_true c]; rfl
      · unfold datAt; rw [List.find?_cons, decide_eq_true c]; rfl
    · have e1 : valV ((k', v) :: ks) k = valV ks k := by unfold valV; rw [List.find?_cons, decide_eq_false c]
      have e2 : datAt ((k', d) :: ds) k = datAt ds k := by unfold datAt; rw [List.find?_cons, decide_eq_false c]
      rw [e1, e2]
      exact ih
section
variable {X : Cx}
theorem hits_dat {pins : List (Addr × Obj)} {σ : St} {H : Hp} {s : Shared} {A : Around} (I : Inv X pins σ H s) (hu : A.units + 64 < cLine) {ls : List (Key × V)} {dl : List (Key × PyData)} {vb : List (Key × Value)} (rb : KV ls vb) (hb : DpM X.K H ls dl) :
    ∀ {ks : List (Key × V)} {dk : List (Key × PyData)} {va : List (Key × Value)}, KV ks va → DpM X.K H ks dk → PySem.W.KeqHits A s vb va (dk.all (hitM dl)) := by
  intro ks dk va ra ha
  induction ha generalizing va with
  | nil =>
    cases ra
    exact .nil
  | @cons k v d ks ds h1 h2 _ ih =>
    cases ra with
    | @cons _ q _ qs h t =>
      obtain ⟨e1, e2⟩ := h
      obtain ⟨k', u⟩ := q
      have e1 : k = k' := e1
      subst e1
      have e2 : RelV v u := e2
      have ih := ih t
      have z := rb.val k
      rw [List.all_cons]
      rcases hb.at k with ⟨n1, n2⟩ | ⟨v', d', n1, n2, n3, n4⟩
      · rw [n1] at z
        have z : valueAt vb k = none := by
          cases q : valueAt vb k with
          | none => rfl
          | some m => rw [q] at z; exact (show False from z).elim
        have e : hitM dl (k, d) = false := by unfold hitM; rw [show datAt dl (k, d).1 = none from n2]
        rw [e, Bool.false_and]
        exact .miss z
      · rw [n1] at z
        obtain ⟨y, hy, ry⟩ := RelO.some_of z
        have e : hitM dl (k, d) = PyData.eqv d d' := by unfold hitM; rw [show datAt dl (k, d).1 = some d' from n2]
        rw [e]
        obtain ⟨as, r1⟩ := Dp.reads I d v u h1 e2
        obtain ⟨bs, r2⟩ := Dp.reads I d' v' y n3 ry
        exact .hit hy (SeqAt.eqAt_reads d d' A s u y as bs r1 r2 (SeqAt.canLay_of_shaped h2) (SeqAt.canLay_of_shaped n4) (SeqAt.room_of_shaped h2 hu)) ih
def rEqM (K : PySem.W.Frag) (fl : Bool → Bool) : R2 := fun x y H Q => ∃ a b ks ls dk dl, x = .ref a ∧ y = .ref b ∧ H a = some (.dK ks) ∧ H b = some (.dK ls) ∧ DpM K H ks dk ∧ DpM K H ls dl ∧ Q (.bl (fl (eqM dk dl))) H
theorem eqM_len {K : PySem.W.Frag} {H : Hp} {ks ls : List (Key × V)} {dk dl : List (Key × PyData)} {va vb : List (Key × Value)} (ra : KV ks va) (rb : KV ls vb) (ha : DpM K H ks dk) (hb : DpM K H ls dl) : (va.length == vb.length && dk.all (hitM dl)) = eqM dk dl := by
  unfold eqM
  rw [← ra.length, ← rb.length, ha.len, hb.len]
  congr 1
theorem op_eqM (hu : X.A.units + 66 < cLine) : OpR X (compareOp .Eq) (rEqM X.K id) := by
  intro pins s σ H x y v u Q I rx ry h
  obtain ⟨a, b, ks, ls, dk, dl, rfl, rfl, ea, eb, ma, mb, q⟩ := h
  cases rx
  cases ry
  obtain ⟨_, ya, va, ra, da⟩ := dk_of I.hok ea
  obtain ⟨_, yb, vb, rb, db⟩ := dk_of I.hok eb
  refine PySem.W.keq_eq (knd := mixKind X.prog X.w) ya yb da db (by omega) (fun _ => hits_dat I (show X.A.in1.units + 64 < cLine by show X.A.units + 1 + 64 < cLine; omega) rb mb ra ma) ?_
  rw [eqM_len ra rb ma mb]
  exact ⟨.bl _, H, I, rfl, q⟩
theorem op_neM (hu : X.A.units + 66 < cLine) : OpR X (compareOp .NotEq) (rEqM X.K not) := by
  intro pins s σ H x y v u Q I rx ry h
  obtain ⟨a, b, ks, ls, dk, dl, rfl, rfl, ea, eb, ma, mb, q⟩ := h
  cases rx
  cases ry
  obtain ⟨_, ya, va, ra, da⟩ := dk_of I.hok ea
  obtain ⟨_, yb, vb, rb, db⟩ := dk_of I.hok eb
  refine PySem.W.keq_ne (knd := mixKind X.prog X.w) ya yb da db (by omega) (fun _ => hits_dat I (show X.A.in1.units + 64 < cLine by show X.A.units + 1 + 64 < cLine; omega) rb mb ra ma) ?_
  rw [eqM_len ra rb ma mb]
  exact ⟨.bl _, H, I, rfl, q⟩
end
end L2

/-! a dict of flat keys taken into another one, pair by pair, as {**d, ..} does it -/
namespace L2
open PySem PySem.Spec PyProof.Rows
section
variable {P : Program} {w : World} {A : Around} {E : Value → Shared → Prop} {s : Shared}
/-- the place of a key, by the entries and by the pairs -/
theorem place_same {κ : Type} [DecidableEq κ] {kd : KeyKind P w κ} {es : Array DictEntry} {ps : List (κ × Value)} {x : κ} (hp : ∀ y, (es.toList.findIdx? fun e => kd.is y e.key) = ps.findIdx? fun q => decide (q.1 = y)) : (es.findIdx? fun e => kd.is x e.key) = ps.findIdx? fun q => decide (q.1 = x) := by
  have z := hp x
  obtain ⟨l⟩ := es
  simpa using z
/-- one pair -/
theorem put_one {κ : Type} [DecidableEq κ] {kd : KeyKind P w κ} {D : Addr} {ps : List (κ × Value)} {x : κ} {u y : Value} {Q : Unit → Shared → Prop} (hx : kd.is x u = true) (dd : s.heap.DictOf kd D ps) (few : ps.length ≤ sizeLine)
    (q : ∀ h', h'.DictOf kd D (stored ps x y) → Heap.SameBut D s.heap h' → Q () { s with heap := h' }) : wpAny (model P w) A (dictPut D (kd.hash x) u y) Q E s := by
  obtain ⟨ob, es, ep, g1, g2, g3, g4, g5, g6⟩ := dd
  have pl := place_same (x := x) g5.findIdx
  have size : es.size = ps.length := by rw [← g5.length, Array.length_toList]
  unfold dictPut
  refine wpAny_bind (wpAny_dictFind_of hx g1 g3 g4 ?_)
  by_cases there : x ∈ ps.map (·.1)
  · obtain ⟨i, ei⟩ : ∃ i, (ps.findIdx? fun q => decide (q.1 = x)) = some i := by
      cases c : ps.findIdx? fun q => decide (q.1 = x) with
      | some i => exact ⟨i, rfl⟩
      | none => exact absurd there (not_mem_of_findIdx_none c)
    have st : stored ps x y = ps.map fun q => if q.1 = x then (q.1, y) else q := by unfold stored; rw [if_pos (any_of_findIdx_some ei)]
    rw [pl, ei]
    have l1 : (es.toList.findIdx? fun e => kd.is x e.key) = some i := by rw [g5.findIdx x, ei]
    have pairs := g5.modify g6 l1 y
    refine wpAny_updateDict g1 g3 (q _ ⟨_, _, ep, Heap.get?_update_self _ g1 (Obj.isFreed_of_dict (Obj.data_mapDict g3 _)), g2.mapDict _, Obj.data_mapDict g3 _, g4.modify _ _, ?p, ?n⟩ (Heap.SameBut.update ..))
    case p =>
      obtain ⟨l⟩ := es
      rw [st]
      simpa using pairs
    case n =>
      rw [st, keys_map_store]
      exact g6
  · have none_ : (ps.findIdx? fun q => decide (q.1 = x)) = none := by
      refine List.findIdx?_eq_none_iff.mpr fun q hq => decide_eq_false fun e => there ?_
      exact List.mem_map.mpr ⟨q, hq, e⟩
    have st : stored ps x y = ps ++ [(x, y)] := by
      unfold stored
      rw [if_neg]
      intro z
      obtain ⟨q, hq, e⟩ := List.any_eq_true.mp z
      exact there (List.mem_map.mpr ⟨q, hq, of_decide_eq_true e⟩)
    rw [pl, none_]
    have pairs := g5.append hx (kd.hash x) y
    refine wpAny_updateDictKeys (hz := by rw [size]; exact few) g1 g3 (q _ ⟨_, _, ep + 1, Heap.get?_update_self _ g1 (Obj.isFreed_of_dict (Obj.data_mapDictKeys g3 _)), g2.mapDictKeys _, Obj.data_mapDictKeys g3 _, g4.push hx _, ?p, ?n⟩ (Heap.SameBut.update ..))
    case p =>
      obtain ⟨l⟩ := es
      rw [st]
      simpa using pairs
    case n =>
      rw [st, List.map_append]
      refine List.nodup_append.mpr ⟨g6, by simp, fun a ha b hb e => there ?_⟩
      have : b = x := by simpa using hb
      rw [← this, ← e]
      exact ha
theorem flat_of {k : Key} {v : Value} (h : (mixKind P w).is k v = true) (a : Addr) : v ≠ .ref a := by
  rintro rfl
  cases k <;> exact absurd h (by simp [mixKind, keyIs, Value.isInt, Value.isStrOf])
/-- one pair of the source, behind those that were taken -/
def oneMore (D S : Addr) (ep i : Nat) : Sem (ForInStep PUnit) := do
  match (← dictEntries S)[i]? with
  | some e => do
    holding [e.key, e.val] (dictPut D e.hash e.key e.val)
    if ((← dictEpoch S) != ep) = true then do
      (unsupported "dict.changed-during-merge" : Sem PUnit)
      pure (.yield .unit)
    else pure (.yield .unit)
  | _ => do
    (unsupported "dict.changed-during-merge" : Sem PUnit)
    pure (.yield .unit)
/-- an entry and its pair -/
def Goes (P : Program) (w : World) (e : DictEntry) (q : Key × Value) : Prop := (mixKind P w).is q.1 e.key = true ∧ e.hash = (mixKind P w).hash q.1 ∧ e.val = q.2
theorem goes_of {h : Heap} {S : Addr} {ps : List (Key × Value)} (dd : h.DictOf (mixKind P w) S ps) : ∃ ob es ep, h.get? S = some ob ∧ ob.data = .dict es ep ∧ es.size = ps.length ∧ ∀ (i : Nat) (q : Key × Value), ps[i]? = some q → ∃ e, es[i]? = some e ∧ Goes P w e q := by
  obtain ⟨ob, es, ep, g1, _, g3, g4, g5, _⟩ := dd
  have size : es.size = ps.length := by rw [← g5.length, Array.length_toList]
  refine ⟨ob, es, ep, g1, g3, size, fun i q hq => ?_⟩
  have lt : i < es.size := by rw [size]; exact (List.getElem?_eq_some_iff.mp hq).1
  refine ⟨es[i], Array.getElem?_eq_getElem lt, ?_⟩
  obtain ⟨a, b⟩ := g5.get? (i := i) (e := es[i]) (k := q.1) (v := q.2) (by rw [Array.getElem?_toList, Array.getElem?_eq_getElem lt]) hq
  obtain ⟨k2, c, d⟩ := g4 _ (Array.getElem_mem lt)
  rw [(mixKind P w).inj _ _ _ c a] at d
  exact ⟨a, d, b⟩
theorem take_rest {D S : Addr} {ob : Obj} {es : Array DictEntry} {ep : Nat} {ps : List (Key × Value)} (ne : S ≠ D) (hd : ob.data = .dict es ep) (go : ∀ (i : Nat) (q : Key × Value), ps[i]? = some q → ∃ e, es[i]? = some e ∧ Goes P w e q) : ∀ (n i : Nat) (s : Shared) (acc : List (Key × Value)) (Q : PUnit → Shared → Prop), n + i = ps.length →
    s.heap.get? S = some ob → s.heap.DictOf (mixKind P w) D acc → acc.length + n ≤ sizeLine →
    (∀ h', h'.get? S = some ob → h'.DictOf (mixKind P w) D (merged acc (ps.drop i)) → Heap.SameBut D s.heap h' → Q .unit { s with heap := h' }) →
    wpAny (model P w) A (forIn (List.range' i n) PUnit.unit fun j (_ : PUnit) => oneMore D S ep j) Q E s := by
  intro n
  induction n with
  | zero =>
    intro i s acc Q en gS gD _ q
    have z := q s.heap gS (by rw [List.drop_of_length_le (by omega)]; exact gD) (Heap.SameBut.refl D _)
    exact wpAny_pure z
  | succ n more =>
    intro i s acc Q en gS gD few q
    have lt : i < ps.length := by omega
    obtain ⟨e, ee, a1, a2, a3⟩ := go i ps[i] (List.getElem?_eq_getElem lt)
    rw [List.range'_succ, List.forIn_cons]
    refine wpAny_bind ?_
    unfold oneMore
    refine wpAny_bind (wpAny_dictEntries gS hd ?_)
    rw [ee]
    dsimp only
    rw [a2, a3]
    refine wpAny_bind (wpAny_holding (put_one a1 gD (by omega) fun h1 d1 b1 => ?_))
    have gS1 : h1.get? S = some ob := by rw [b1.2 S ne]; exact gS
    refine wpAny_bind (wpAny_dictEpoch gS1 hd ?_)
    rw [bne_self_eq_false, if_neg Bool.false_ne_true]
    refine wpAny_pure ?_
    dsimp only
    have l1 := stored_length_le acc ps[i].1 ps[i].2
    refine more (i + 1) { s with heap := h1 } _ Q (by omega) gS1 d1 (by omega) fun h2 c1 c2 c3 => q h2 c1 ?_ (b1.trans c3)
    rw [List.drop_eq_getElem_cons lt]
    exact c2
/-- all pairs of the dict at S are put into the dict at D -/
theorem merge_map {D S : Addr} {acc ps : List (Key × Value)} {Q : Unit → Shared → Prop} (ne : S ≠ D) (hS : (S == sysModules) = false) (gD : s.heap.DictOf (mixKind P w) D acc) (gS : s.heap.DictOf (mixKind P w) S ps) (few : acc.length + ps.length ≤ sizeLine)
    (q : ∀ h', h'.DictOf (mixKind P w) D (merged acc ps) → Heap.SameBut D s.heap h' → Q () { s with heap := h' }) : wpAny (model P w) A (mergeMapping D (.ref S) false) Q E s := by
  obtain ⟨ob, es, ep, gob, hd, size, go⟩ := goes_of gS
  obtain ⟨obD, esD, epD, gobD, hdD, _, _⟩ := goes_of gD
  have ty := gS.typeIs
  have main : wpAny (model P w) A (forIn (List.range es.size) PUnit.unit (fun j (_ : PUnit) => oneMore D S ep j) >>= fun _ => pure ()) Q E s := by
    rw [List.range_eq_range', size]
    refine wpAny_bind (take_rest ne hd go ps.length 0 s acc _ (Nat.add_zero _) gob gD few fun h' _ d sb => ?_)
    exact wpAny_pure (q h' d sb)
  unfold mergeMapping
  refine wpAny_bind (wpAny_isInstance ty isSubtype_dict_dict ?_)
  show wpAny _ _ (specialOf (.ref S) "__iter__" >>= _) _ _ s
  refine wpAny_bind (wpAny_specialOf ty F.slot_dict_iter.lookup ?_)
  show wpAny _ _ (pure (some (Value.builtin "dict.__iter__") == some (Value.builtin "dict.__iter__")) >>= _) _ _ s
  refine wpAny_bind (wpAny_pure ?_)
  have yes : (some (Value.builtin "dict.__iter__") == some (Value.builtin "dict.__iter__")) = true := by decide +kernel
  rw [yes]
  dsimp only
  rw [hS, if_neg Bool.false_ne_true]
  refine wpAny_bind (wpAny_dictEntries gobD hdD ?_)
  have tail : wpAny (model P w) A (do
      let l ← dictEntries S
      let e ← dictEpoch S
      forIn (List.range l.size) PUnit.unit fun j (_ : PUnit) => oneMore D S e j
      pure ()) Q E s := wpAny_bind (wpAny_dictEntries gob hd (wpAny_bind (wpAny_dictEpoch gob hd main)))
  by_cases em : esD.isEmpty = true
  · rw [if_pos em]
    refine wpAny_bind (wpAny_dictEntries gob hd (wpAny_bind ?_))
    rw [← Array.forIn_toList]
    have all : ∀ (l : List DictEntry) (Q' : PUnit → Shared → Prop), (∀ e ∈ l, ∀ a, e.key ≠ .ref a) → Q' .unit s → wpAny (model P w) A (forIn l PUnit.unit fun e (_ : PUnit) => (match e.key with
        | Value.ref a => do
          if ((← specialOf e.key (Str.ofString "__eq__")) != some (Value.builtin "object.__eq__")) = true then
            if (es.filter fun x => x.hash == e.hash).size > 1 then do
              (unsupported "dict.merge-into-an-empty-dict:keys-of-equal-hash" : Sem PUnit)
              pure (.yield .unit)
            else pure (.yield .unit)
          else pure (.yield .unit)
        | _ => pure (.yield .unit) : Sem (ForInStep PUnit))) Q' E s := by
      intro l
      induction l with
      | nil => exact fun Q' _ z => wpAny_pure z
      | cons e l ih =>
        intro Q' nr z
        rw [List.forIn_cons]
        refine wpAny_bind ?_
        have n0 := nr e List.mem_cons_self
        cases c : e.key with
        | ref a => exact absurd c (n0 a)
        | _ => exact wpAny_pure (ih Q' (fun f hf => nr f (List.mem_cons_of_mem _ hf)) z)
    refine all es.toList _ (fun e he a => ?_) tail
    obtain ⟨i, hi, e1⟩ := List.getElem_of_mem he
    have lt : i < ps.length := by rw [← size]; simpa using hi
    obtain ⟨e2, h2, h3, _⟩ := go i ps[i] (List.getElem?_eq_getElem lt)
    have : e2 = e := by
      rw [Array.getElem?_eq_getElem (by simpa using hi)] at h2
      rw [← e1, ← Option.some.inj h2]
      simp
    rw [← this]
    exact flat_of h3 a
  · rw [if_neg em]
    exact tail
end
end L2

namespace L2
open PySem PySem.Spec PyProof.Rows
section
variable {prog : Program} {w : World} {A : Around} {E : Value → Shared → Prop} {s : Shared}
theorem display_star {m k v : Sem Value} {Q : Value → Shared → Prop}
    (h : wpAny (model prog w) A m (fun x s1 => ∃ o more, x = .ref o ∧ s.heap.objs.size ≠ o ∧ (o == sysModules) = false ∧ s1.heap.DictOf (mixKind prog w) s.heap.objs.size [] ∧ s1.heap.DictOf (mixKind prog w) o more ∧ more.length + 16 ≤ sizeLine ∧
      ∀ h', h'.DictOf (mixKind prog w) s.heap.objs.size (merged [] more) → Heap.SameBut s.heap.objs.size s1.heap h' →
        wpAny (model prog w) A (evalPairs [(k, v)]) (fun vs s2 => ∃ kvs cur, Carries (mixKind prog w) vs kvs ∧ kvs.length ≤ 15 ∧ cur.length + 16 ≤ sizeLine ∧ s2.heap.DictOf (mixKind prog w) h'.objs.size [] ∧ s2.heap.DictOf (mixKind prog w) s.heap.objs.size cur ∧ s.heap.objs.size ≠ h'.objs.size ∧ (h'.objs.size == sysModules) = false ∧
          ∀ h2 h3 t, h2.DictOf (mixKind prog w) h'.objs.size (merged [] kvs) → Heap.SameBut h'.objs.size s2.heap h2 → h3.DictOf (mixKind prog w) s.heap.objs.size (merged cur (merged [] kvs)) → Heap.SameBut s.heap.objs.size h2 h3 → Q (.ref s.heap.objs.size) { s2 with heap := h3, toks := t }) E { s1 with heap := h'.push { cls := .type "dict", data := .dict #[] } }) E { s with heap := s.heap.push { cls := .type "dict", data := .dict #[] } }) :
    wpAny (model prog w) A (dictDisplay [(none, m), (some k, v)]) Q E s := by
  unfold dictDisplay
  dsimp only
  rw [List.forIn_cons]
  refine wpAny_bind (wpAny_bind ?_)
  dsimp only
  rw [if_pos (show ([] : List (Sem Value × Sem Value)).isEmpty = true from rfl)]
  refine wpAny_bind (wpAny_pure ?_)
  dsimp only
  refine wpAny_bind (wpAny_alloc ?_)
  refine wpAny_bind (wpAny_holding (wpAny_mono h (fun x s1 hx => ?_) (fun _ _ e => e)))
  obtain ⟨o, more, rfl, hne, hsys, hd, ho, hsz, hx⟩ := hx
  refine wpAny_bind (wpAny_onRaise (wpAny_tryCatch (wpAny_onRaise (wpAny_holding (merge_map (Ne.symm hne) hsys hd ho (by simp; omega) (fun h' d1 sb => ?_))))))
  refine wpAny_pure ?_
  dsimp only
  rw [List.forIn_cons]
  refine wpAny_bind ?_
  dsimp only
  rw [if_neg (by simp)]
  refine wpAny_pure ?_
  dsimp only
  rw [List.forIn_nil]
  refine wpAny_pure ?_
  dsimp only
  rw [if_neg (by simp)]
  have hx := hx h' d1 sb
  refine wpAny_bind (wpAny_bind (wpAny_holding (wpAny_subDict (knd := mixKind prog w) (by simp) (wpAny_mono hx (fun vs s2 h2 => ?_) (fun _ _ e => e)))))
  obtain ⟨kvs, cur, hc, h15, hcur, hd2, hd3, hne2, hsys2, hq⟩ := h2
  refine ⟨kvs, hc, hd2, fun h2 dd sb2 => ?_⟩
  have l1 := merged_length_le [] more
  have l2 := merged_length_le [] kvs
  simp only [List.length_nil] at l1 l2
  refine wpAny_bind (wpAny_onRaise (wpAny_holding (merge_map (Ne.symm hne2) hsys2 (hd3.sameBut sb2 hne2) dd (by omega) (fun h3 d3 sb3 => ?_))))
  refine wpAny_pure ?_
  exact wpAny_pure (hq h2 h3 _ dd sb2 d3 sb3)
/-- {**d, k: v} -/
def tDStar (td tk tv : TE) : TE := fun σ H Q => ∀ p, H p = none → td σ (upd H p (.dK [])) fun x H1 => ∃ a kvs, x = .ref a ∧ H1 a = some (.dK kvs) ∧ H1 p = some (.dK []) ∧ a ≠ p ∧ kvs.length ≤ 1000 ∧
  ∀ q, H1 q = none → q ≠ p → tk σ (upd (upd H1 p (.dK kvs)) q (.dK [])) fun y H2 => tv σ H2 fun z H3 => ∃ k, y = kV k ∧ H3 p = some (.dK kvs) ∧ H3 q = some (.dK []) ∧ Q (.ref p) (upd (upd H3 q (.dK [(k, z)])) p (.dK (putK kvs k z)))
end
section
variable {X : Cx}
theorem pe_dstar {dx ke ve : Expr} {td tk tv : TE} {pos : Pos} (hd : PE X dx td) (hk : PE X ke tk) (hv : PE X ve tv) : PE X (.Dict [none, some ke] [dx, ve] pos) (tDStar td tk tv) := by
  refine ⟨fun pins s σ H Q I h => ?_⟩
  have new := dk_empty (P := X.prog) (w := X.w) (H := upd H s.heap.objs.size (.dK [])) s.heap I.big
  have I1 := I.laid (t' := s.toks) (fun _ _ z => Heap.get?_push_of_some _ z) (Nat.le_refl _) new
  have hn := I.hok.fresh (a := s.heap.objs.size) (Nat.le_refl _)
  rw [arm_eval_Dict]
  refine wpAny_bind (wpAny_standAt ?_)
  show wpAny _ _ (dictDisplay [(none, do let x ← eval dx X.env; standAt pos; pure x), (some (eval ke X.env), do let x ← eval ve X.env; standAt pos; pure x)]) _ _ s
  refine display_star ?_
  refine wpAny_bind (thn (hd.run pins _ σ _ _ I1 (h _ hn)) fun u s1 ⟨x, H1, I1', rx, a, kvs, ex, ha, hp, nap, few, hq⟩ => ?_)
  subst ex
  cases rx
  refine wpAny_bind (wpAny_standAt (wpAny_pure ?_))
  obtain ⟨z1, hd1, vs1, r1, dd1⟩ := dk_of I1'.hok hp
  obtain ⟨z2, hd2, vs2, r2, dd2⟩ := dk_of I1'.hok ha
  cases r1
  refine ⟨a, vs2, rfl, Ne.symm nap, hd2, dd1, dd2, ?_, fun h' dd' sb => ?_⟩
  · rw [← r2.length, sizeLine_eq]; omega
  have hnd : merged [] vs2 = vs2 := by
    obtain ⟨_, _, _, _, _, _, _, _, hno⟩ := dd2
    exact merged_nil_of_nodup vs2 hno
  rw [hnd] at dd'
  have he : ∃ o, h'.get? s.heap.objs.size = some o := by
    obtain ⟨o, _, _, ho, _⟩ := dd'
    exact ⟨o, ho⟩
  have I2 := d_write (t' := s1.toks) I1' (by rw [hp]; exact True.intro) sb he (dk_new (kvs := kvs) (by rw [sizeLine_eq]; omega) hd1 r2 dd')
  have hq0 := I2.hok.fresh (Nat.le_refl h'.objs.size)
  have nqp : h'.objs.size ≠ s.heap.objs.size := fun e => by
    rw [show ({ s1 with heap := h' } : Shared).heap.objs.size = h'.objs.size from rfl] at *
    rw [e, upd_same] at hq0
    cases hq0
  have hq1 : H1 h'.objs.size = none := by rw [upd_ne nqp] at hq0; exact hq0
  have I3 := I2.laid (a := h'.objs.size) (o := .dK []) (h' := h'.push { cls := .type "dict", data := .dict #[] }) (t' := s1.toks) (fun _ _ q => Heap.get?_push_of_some _ q) (Nat.le_refl _) (dk_empty h' I2.big)
  refine thn ((pps_cons (pos := pos) hk hv pps_nil).run pins _ σ _ (fun ps H3 => match ps with
    | [(y, z)] => ∃ k, y = kV k ∧ H3 s.heap.objs.size = some (.dK kvs) ∧ H3 h'.objs.size = some (.dK []) ∧ Q (.ref s.heap.objs.size) (upd (upd H3 h'.objs.size (.dK [(k, z)])) s.heap.objs.size (.dK (putK kvs k z)))
    | _ => False) I3 (hq _ hq1 nqp)) fun ws s2 ⟨ps, H3, I3', rel, q3⟩ => ?_
  obtain ⟨y, z, rfl⟩ : ∃ y z, ps = [(y, z)] := by
    match ps, q3 with
    | [(y, z)], _ => exact ⟨y, z, rfl⟩
    | [], q => exact q.elim
    | _ :: _ :: _, q => exact q.elim
  obtain ⟨k, rfl, e1, e2, q3⟩ := q3
  obtain ⟨rs, c, rk⟩ := carries_of (P := X.prog) (w := X.w) (kvs := [(k, z)]) rel
  obtain ⟨_, hdq, vq, rq, ddq⟩ := dk_of I3'.hok e2
  obtain ⟨_, hdp, vp, rp, ddp⟩ := dk_of I3'.hok e1
  cases rq
  obtain ⟨r, rfl, er⟩ : ∃ r, rs = [(k, r)] ∧ RelV z r := by
    cases rk with
    | @cons _ q _ qs h t =>
      cases t
      obtain ⟨k', u⟩ := q
      obtain ⟨e1, e2⟩ := h
      have e1 : k = k' := e1
      subst e1
      exact ⟨u, rfl, e2⟩
  have hl : (putK kvs k z).length ≤ sizeLine := by have := length_putK kvs k z; rw [sizeLine_eq]; omega
  refine ⟨[(k, r)], vp, c, (by show 1 ≤ 15; decide), by rw [← rp.length, sizeLine_eq]; omega, ddq, ddp, Ne.symm nqp, hdq, fun h2 h3 t dd2 sb2 dd3 sb3 => ?_⟩
  have hz1 : ([(k, z)] : List (Key × V)).length ≤ sizeLine := by show 1 ≤ sizeLine; decide
  have Ia := d_write (t' := t) I3' (by rw [e2]; exact True.intro) sb2 (let ⟨q, _, _, hq, _⟩ := dd2; ⟨q, hq⟩) (dk_new (kvs := [(k, z)]) hz1 hdq (.cons ⟨rfl, er⟩ .nil) dd2)
  have ep : (upd H3 h'.objs.size (.dK [(k, z)])) s.heap.objs.size = some (.dK kvs) := by rw [upd_ne (Ne.symm nqp)]; exact e1
  have Ib := d_write (t' := t) Ia (by rw [ep]; exact True.intro) sb3 (let ⟨q, _, _, hq, _⟩ := dd3; ⟨q, hq⟩) (dk_new (kvs := putK kvs k z) hl hdp (rp.put k er) dd3)
  exact ⟨.ref s.heap.objs.size, _, Ib, rfl, q3⟩
end
end L2

/-! sorted(t) of a tuple of texts -/
namespace L2
open PySem PySem.Spec PyProof.Rows PySem.Froz
section
variable {P : Program} {w : World} {A : Around} {E : Value → Shared → Prop} {s : Shared}
/-- the heap behind collect: a new list of these items -/
def listed (h : Heap) (xs : Array Value) : Heap := (h.push (seqObj "list" #[] 0)).update h.objs.size (Obj.mapSeq (· ++ xs))
theorem listed_keeps {h : Heap} {xs : Array Value} {b : Addr} {o : Obj} (e : h.get? b = some o) : (listed h xs).get? b = some o :=
  (Heap.get?_update_other _ _ (Nat.ne_of_gt (Heap.lt_size e))).trans (Heap.get?_push_of_some _ e)
theorem listed_size (h : Heap) (xs : Array Value) : (listed h xs).objs.size = h.objs.size + 1 := by
  unfold listed
  rw [Heap.size_update, Heap.size_push]
theorem collect_tup {t : Addr} {xs : Array Value} {Q : List Value → Shared → Prop} (ht : IsTup s.heap t xs) (few : xs.size ≤ sizeLine) (q : Q xs.toList { s with heap := listed s.heap xs }) : wpAny (model P w) A (collect (.ref t)) Q E s := by
  obtain ⟨o, g, c, n, d⟩ := ht
  have new : (s.heap.push (seqObj "list" #[] 0)).get? s.heap.objs.size = some (seqObj "list" #[] 0) := Heap.get?_push_size _ rfl
  have out : wpAny (model P w) A (do
      match (← load s.heap.objs.size).data with
      | .seq ys _ => pure ys.toList
      | _ => unsupported "internal:collect") Q E { s with heap := listed s.heap xs } := by
    refine wpAny_bind (wpAny_load (Heap.get?_update_self (Obj.mapSeq (· ++ xs)) new rfl) (wpAny_pure ?_))
    show Q (#[] ++ xs).toList _
    rw [Array.empty_append]
    exact q
  unfold collect
  refine wpAny_bind (wpAny_runValue (codeAny_builtin F.entry_proto_collect ?_))
  rw [Around.under_plainId F.plain_proto_collect]
  refine wpAny_bind (m := newList []) (wpAny_newObj_type (wpAny_pure ⟨plainId_quiet F.plain_list_iadd _, codeAny_builtin F.entry_list_iadd ?_⟩))
  rw [Around.under_plainId F.plain_list_iadd]
  refine wpAny_mono (wpAny_extend_seq (A := A) (hsz := few) (R := fun r z => r = .ok (.ret (.ref s.heap.objs.size)) ∧ z = { s with heap := listed s.heap xs }) _ t _ 0 (.inr rfl) new (Heap.get?_push_of_some _ g) c d ⟨rfl, rfl⟩) (fun fin z h => ?_) (fun e z h => ?_)
  · cases fin with
    | done r =>
      obtain ⟨h1, rfl⟩ := h
      cases h1
      exact out
    | again k =>
      refine ⟨h.1, codeAny_mono h.2 fun r z' h' => ?_⟩
      obtain ⟨rfl, rfl⟩ := h'
      exact out
  · exact absurd h.1 (by simp)
end
section
variable {X : Cx}
def rSortST (K : PySem.W.Frag) : List V → Hp → VK → Prop := fun vs H Q => ∃ (a : Addr) (xs : List Str), vs = [V.ref a] ∧ SqT K H a (xs.map V.str) ∧ xs.length < 64 ∧
  ∀ (ys : List Str) (p : Addr), ys.Perm xs → sortedS ys = true → H p = none → Q (.ref p) (upd H p (.lst (ys.map V.str)))
theorem cr_sortST : CallR X (.builtin "sorted") (rSortST X.K) := by
  intro pins s σ H vs us Q I r h
  obtain ⟨a, xs, rfl, hs, few, q⟩ := h
  obtain ⟨its, rv, tu, _⟩ := I.tuple hs
  rw [Vals.ref1 r]
  have p1 := rv.strs
  have vlen : its.length = xs.length := p1.length
  refine Calls.call_function_entry kind_sorted plain_sorted entry_sorted (args_sorted1 _) ?_
  unfold Builtin.«sorted»
  refine wpAny_bind (m := checkCount "sorted" 1 1 _) (wpAny_pure (wpAny_bind (collect_tup tu (by rw [sizeLine_eq]; simp; omega) ?_)))
  refine wpAny_bind (wpAny_newList ?_ (by rw [sizeLine_eq]; simp; omega))
  rw [show its.toArray.toList = its from rfl]
  have at_ : ((listed s.heap its.toArray).push (seqObj "list" its.toArray 0)).get? (listed s.heap its.toArray).objs.size = some (seqObj "list" its.toArray 0) := Heap.get?_push_size _ rfl
  refine wpAny_bind (wpAny_holding (wpAny_call_entry slot_list_sort ⟨_, at_, rfl⟩ entry_list_sort (list_sort_treeKAny strKind_oneLt at_ p1.keysOf (fun v1 v2 r e => keyKind_strs (e ▸ p1)) (by rw [vlen, sizeLine_eq]; omega) fun st' a1 a2 => ⟨_, rfl, wpAny_pure ⟨_, rfl, ?_⟩⟩) (args_list_sort _)))
  obtain ⟨ys, b1, b2, b3⟩ := sorted_out_str p1 a1 a2
  obtain ⟨c, hcn⟩ := sortedHeap_at (vs := its) (out := (arrOf st').map (·.2)) at_
  generalize (arrOf st').map (·.2) = out at b1 hcn ⊢
  have keep : ∀ b u, s.heap.get? b = some u → (sortedHeap ((listed s.heap its.toArray).push (seqObj "list" its.toArray 0)) (listed s.heap its.toArray).objs.size its out).get? b = some u := fun b u e => by
    have k := listed_keeps (xs := its.toArray) e
    have lt := Heap.lt_size k
    refine (sortedHeap_old (Nat.ne_of_lt lt) ?_).trans (Heap.get?_push_of_some _ k)
    rw [Heap.size_push]
    exact Nat.lt_succ_of_lt lt
  have big : s.heap.objs.size ≤ (listed s.heap its.toArray).objs.size := by rw [listed_size]; omega
  have room : (ys.map V.str).length ≤ sizeLine := by rw [List.length_map, b2.length_eq, sizeLine_eq]; omega
  exact ⟨.ref _, _, I.laid (t' := s.toks) (o := .lst (ys.map V.str)) keep big ⟨room, out.toList, c, vals_of_strs b1, hcn⟩, rfl, q ys _ b2 b3 (I.hok.fresh big)⟩
end
end L2

/-! set(l) of a list of ints: the shell stands in Kxa -/

namespace L2
open PySem PySem.Spec PyProof.Rows PySem.Froz
section
variable {X : Cx}
/-- set(l), l a list of ints -/
def rSetI (K : PySem.W.Frag) (w : World) : List V → Hp → VK → Prop := fun vs H Q => ∃ (p : Addr) (ns : List Int), vs = [.ref p] ∧ SqL K H p (ns.map V.int) ∧ ns.length < 64 ∧
  ∀ (a : Addr) (n : Nat), n ≤ ns.length → H a = none → Q (.ref a) (upd H a (SetO w a (fun j => decide (j ∈ ns)) n))
theorem cr_setI (hc : X.calm = true) : CallR X (.type "set") (rSetI X.K X.w) := by
  intro pins s σ H vs us Q I r h
  obtain ⟨p, ns, rfl, hs, few, q⟩ := h
  obtain ⟨its, rv, hl, _⟩ := I.list hs
  rw [Vals.ref1 r]
  have hi := rv.ints
  have hlen : its.length = ns.length := hi.length
  have li := hl.isList
  have lt : p < s.heap.objs.size := by obtain ⟨o, g, _⟩ := li; exact Heap.lt_size g
  refine set_made (fun h' => ∃ n, n ≤ ns.length ∧ SetR X.w h' s.heap.objs.size (fun j => decide (j ∈ ns)) n) li (I.ok.hd hc) (fun B hB => ?_) (fun h' tk gd keep => ?_)
  · have ne : p ≠ s.heap.objs.size + 1 := Nat.ne_of_lt (Nat.lt_succ_of_lt lt)
    have out : s.heap.objs.size ∉ [s.heap.objs.size + 1, p] := by
      intro z
      simp only [List.mem_cons, List.not_mem_nil, or_false] at z
      rcases z with z | z
      · exact Nat.ne_of_lt (Nat.lt_succ_self _) z
      · exact Nat.ne_of_gt lt z
    have li2 : ((s.heap.push (bareSet X.w)).push { cls := .type "list_iterator", data := .fields #[.ref p, .int 0 0] }).IsList p its.toArray := (li.push _).push _
    have it2 : ((s.heap.push (bareSet X.w)).push { cls := .type "list_iterator", data := .fields #[.ref p, .int 0 0] }).get? (s.heap.objs.size + 1) = some { cls := .type "list_iterator", data := .fields #[.ref p, .int 0 0] } := by
      have e := Heap.get?_push_size (s.heap.push (bareSet X.w)) (o := { cls := .type "list_iterator", data := .fields #[.ref p, .int 0 0] }) rfl
      rwa [Heap.size_push] at e
    have se : ((s.heap.push (bareSet X.w)).push { cls := .type "list_iterator", data := .fields #[.ref p, .int 0 0] }).get? s.heap.objs.size = some (bareSet X.w) := Heap.get?_push_of_some _ (Heap.get?_push_size _ rfl)
    refine set_update_ints (A := B) (Walks.list (by simp [hB]) (s.heap.objs.size + 1) p ne its.toArray).toS s.heap.objs.size out ns (by simp [hlen]) (by unfold scanBound; omega) (fun i v hv => ?_) _ 0 _ rfl (Nat.zero_le _) ⟨⟨_, it2, rfl, rfl⟩, li2⟩ ⟨0, Nat.le_refl _, setR_new_at se⟩ (fun z n mv hn R => ?_)
    · have hv' : its[i]? = some v := by simpa using hv
      have lt' : i < ns.length := by rw [← hlen]; exact (List.getElem?_eq_some_iff.mp hv').1
      obtain ⟨t, e⟩ := PyProof.Rows.IntsAre.int_at hi i v hv'
      refine ⟨ns[i], t, List.getElem?_eq_getElem lt', ?_⟩
      rw [e, List.getD_eq_getElem?_getD, List.getElem?_eq_getElem lt']
      rfl
    · obtain ⟨zh, zg, zd, zt, zo⟩ := z
      obtain rfl : zg = s.gens := mv.gens
      obtain rfl : zd = s.drawn := mv.drawn
      obtain rfl : zo = s.os := mv.os
      refine ⟨rfl, zh, zt, rfl, ⟨n, by simpa [hlen] using hn, R⟩, fun b o e => ?_⟩
      have lb := Heap.lt_size e
      refine mv.heap b o (fun z => ?_) (Heap.get?_push_of_some _ (Heap.get?_push_of_some _ e))
      simp only [List.mem_cons, List.not_mem_nil, or_false] at z
      rcases z with z | z
      · exact Nat.ne_of_lt lb z
      · exact Nat.ne_of_lt (Nat.lt_succ_of_lt lb) z
  · obtain ⟨n, hn, R⟩ := gd
    exact ⟨.ref _, _, I.laid (t' := tk) keep (Nat.le_refl _) (setO_new R), rfl, q _ n hn (I.hok.fresh (Nat.le_refl _))⟩
end
end L2

namespace Half
open PySem PySem.Spec PyProof.Rows L2
/-! ### draws: all but the row stays -/
structure Dr (r a : Addr) (H H' : Hp) : Prop where
  sb : SameBut r H H'
  at_ : ∃ i g l : Int, 0 ≤ i ∧ H' r = some (.lst [.ref a, .int i, .int g, .int l])
section
variable {K : PySem.W.Frag} {r a : Addr} {H H' H'' : Hp}
theorem Row.dr (h : Row K H r a) : Dr r a H H := by
  obtain ⟨ns, i, g, l, h1, h2, h3, h4⟩ := h
  exact ⟨fun _ _ _ q => q, i, g, l, h4, h1⟩
theorem Dr.row (h : Row K H r a) (d : Dr r a H H') : Row K H' r a := by
  obtain ⟨ns, i, g, l, h1, h2, h3, h4⟩ := h
  obtain ⟨i', g', l', e1, e2⟩ := d.at_
  refine ⟨ns, i', g', l', e2, ?_, h3, e1⟩
  have z : HO.lst (ns.map V.int) ≠ HO.lst [.ref a, .int i, .int g, .int l] := fun z => by
    have z' : ns.map V.int = [.ref a, .int i, .int g, .int l] := by injection z
    cases ns with
    | nil => cases z'
    | cons n ns => cases z'
  rcases h2 with (q | ⟨o, q⟩) | q
  · exact .inl (.inl (d.sb _ _ (ne_of q h1 z) q))
  · exact .inl (.inr ⟨o, d.sb _ _ (ne_of q h1 (by intro z; cases z)) q⟩)
  · exact .inr q
theorem Row.same' (S : Row K H r a) (e : Same H H') : Row K H' r a := Dr.row S (by
  obtain ⟨ns, i, g, l, h1, _, _, h4⟩ := S
  exact ⟨fun b o _ q => e _ _ q, i, g, l, h4, e _ _ h1⟩)
theorem Dr.same (d : Dr r a H H') (S : Same H' H'') : Dr r a H H'' := by
  obtain ⟨i, g, l, e1, e2⟩ := d.at_
  exact ⟨fun b o n q => S _ _ (d.sb b o n q), i, g, l, e1, S _ _ e2⟩
theorem Row.of (h : Row K H r a) (S : Same H H') : Dr r a H H' := h.dr.same S
theorem Dr.trans (d : Dr r a H H') (e : Dr r a H' H'') : Dr r a H H'' := ⟨fun b o n q => e.sb b o n (d.sb b o n q), e.at_⟩
theorem Dr.draw {o : HO} (h : Row K (upd H r o) r a) : Dr r a H (upd H r o) := by
  obtain ⟨ns, i, g, l, h1, h2, h3, h4⟩ := h
  exact ⟨fun b u n q => by rw [upd_ne n]; exact q, i, g, l, h4, h1⟩
/-- what is new ahead of the draws may be written -/
theorem Dr.put {D : Addr} {o : HO} (d : Dr r a H H') (hD : H D = none) (ne : D ≠ r) : Dr r a H (upd H' D o) := by
  obtain ⟨i, g, l, e1, e2⟩ := d.at_
  exact ⟨fun b u n q => by rw [upd_ne (ne_of_none q hD)]; exact d.sb b u n q, i, g, l, e1, by rw [upd_ne (Ne.symm ne)]; exact e2⟩
theorem Row.at_ (h : Row K H r a) : ∃ xs, H r = some (.lst xs) := by
  obtain ⟨ns, i, g, l, h1, _⟩ := h
  exact ⟨_, h1⟩
theorem Row.ne {D : Addr} (h : Row K H r a) (hD : H D = none) : D ≠ r := fun z => by
  obtain ⟨ys, hr⟩ := h.at_
  rw [z, hr] at hD
  cases hD
theorem Dr.kp (h : Row K H r a) (d : Dr r a H H') : Kp K H H' := fun b xs q => by
  obtain ⟨ys, hr⟩ := h.at_
  rcases q with (q | ⟨o, q⟩) | q
  · exact .inl (.inl (d.sb _ _ (ne_of q hr (by intro z; cases z)) q))
  · exact .inl (.inr ⟨o, d.sb _ _ (ne_of q hr (by intro z; cases z)) q⟩)
  · exact .inr q
end
/-! ### [x for x in xs if taken(row, m) == 0] and [(x, 1 + taken(row, k)) for ..] -/
abbrev LcW (J : It) (g : TG) (tt : TT) (te : TE) (vs : List Nat) (σ : L2.St) (H1 : Hp) (D : Addr) (Qd : Hp → Prop) : Prop := ∃ W : Nat → Nat → Hp → Prop, (∃ m, W 0 m (upd H1 D (.lst []))) ∧ ∀ i m H, W i m H →
      (J.stop i H ∧ Qd H) ∨ (J.go i H ∧ ∃ Nx : Hp → Prop, (∀ H', Nx H' → ∃ m', m' < m ∧ W (i + 1) m' H') ∧ ∀ x H', J.yld i H x H' → g x (wipe σ vs) H' fun σ2 H2 => wipe σ2 vs = wipe σ vs ∧ tt σ2 H2 fun b H3 =>
        if b = true then te σ2 H3 fun y H4 => ∃ acc, H4 D = some (.lst acc) ∧ acc.length < sizeLine ∧ Nx (upd H4 D (.lst (acc ++ [y]))) else Nx H3)
/-- the test of a draw -/
abbrev tDrawn (K : PySem.W.Frag) (ir : Nat) (m : Int) : TT := tTest (tOp rEq (tCall (spTaken K) [] E0 (tCons (tVar ir) (tCons (tC (.int m)) tNil))) (tC (.int 0)))
theorem taken_read {K : PySem.W.Frag} {r a : Addr} {m : Int} {H : Hp} {Q : VK} {E : XK} (h : Row K H r a) (h0 : 0 < m) (h1 : m < 1073741824) (k : ∀ v H', 0 ≤ v → v < m → Dr r a H H' → Q (.int v) H') : spTaken K [.ref r, .int m] H Q E :=
  ⟨r, m, a, rfl, h, h0, h1, fun v o v0 v1 R => k v _ v0 v1 (Dr.draw R)⟩
theorem drawn_read {K : PySem.W.Frag} {r a : Addr} {ir : Nat} {m : Int} {σ : L2.St} {H : Hp} {Q : Bool → Hp → Prop} (hs : σ[ir]? = some (some (.ref r))) (h : Row K H r a) (h0 : 0 < m) (h1 : m < 1073741824) (k : ∀ b H', Dr r a H H' → Q b H') : tDrawn K ir m σ H Q := by
  exact ⟨_, hs, r, m, a, rfl, h, h0, h1, fun v o _ _ R => ⟨rfl, _, rfl, k _ _ (Dr.draw R)⟩⟩
theorem sub_snoc {α : Type} {zs xs : List α} {i : Nat} {x : α} (h : zs.Sublist (xs.take i)) (hx : xs[i]? = some x) : (zs ++ [x]).Sublist (xs.take (i + 1)) := by
  rw [take_next hx]
  exact h.append (List.Sublist.refl _)
theorem sub_skip {α : Type} {zs xs : List α} {i : Nat} {x : α} (h : zs.Sublist (xs.take i)) (hx : xs[i]? = some x) : zs.Sublist (xs.take (i + 1)) := by
  rw [take_next hx]
  exact h.trans (List.sublist_append_left _ _)
theorem sub_len {α : Type} {zs xs : List α} {i : Nat} (h : zs.Sublist (xs.take i)) : zs.length ≤ xs.length := by
  have := h.length_le
  rw [List.length_take] at this
  omega
/-- the slots of a comprehension with one variable -/
structure Slot1 (σ : L2.St) (ir iv : Nat) (r : Addr) : Prop where
  row : ∀ x, ((wipe σ [iv]).set iv (some x))[ir]? = some (some (.ref r))
  var : ∀ x, ((wipe σ [iv]).set iv (some x))[iv]? = some (some x)
  wip : ∀ x, wipe ((wipe σ [iv]).set iv (some x)) [iv] = wipe σ [iv]
section
variable {K : PySem.W.Frag} {r a D : Addr} {ir iv : Nat} {m m2 : Int} {xs : List Str} {σ : L2.St} {H : Hp} {Qd : Hp → Prop} {J : It} {G : Hp → Prop}
theorem draw_names (wk : Walk J xs.length G (YAt (xs.map V.str))) (hG : ∀ H', Dr r a H H' → G H') (hR : Row K H r a) (few : xs.length ≤ 40) (h0 : 0 < m) (h1 : m < 1073741824) (S : Slot1 σ ir iv r) (hD : H D = none)
    (k : ∀ H' (zs : List Str), Dr r a H H' → H' D = some (.lst (zs.map V.str)) → zs.Sublist xs → Qd H') : LcW J (gName iv) (tDrawn K ir m) (tVar iv) [iv] σ H D Qd := by
  have ne := hR.ne hD
  refine lc_it wk (fun i H' => Dr r a H H' ∧ ∃ zs : List Str, H' D = some (.lst (zs.map V.str)) ∧ zs.Sublist (xs.take i)) ⟨hR.dr.put hD ne, [], upd_same, by simp⟩ (fun i H' _ p => hG H' p.1) ?_ ?_
  · rintro i x H1 H2 hi ⟨d, zs, hz, hs⟩ ⟨rfl, hx⟩
    obtain ⟨n, hn, rfl⟩ := getE hx
    refine ⟨S.wip _, drawn_read (S.row _) (d.row hR) h0 h1 fun b H3 d3 => ?_⟩
    have hz3 := d3.sb _ _ ne hz
    cases b with
    | false => exact iteF ⟨d.trans d3, zs, hz3, sub_skip hs hn⟩
    | true =>
      refine iteT ⟨_, S.var _, _, hz3, ?_, ?_, zs ++ [n], ?_, sub_snoc hs hn⟩
      · rw [List.length_map, sizeLine_eq]
        have := sub_len hs
        omega
      · exact (d.trans d3).put hD ne
      · rw [upd_same, List.map_append]
        rfl
  · rintro H2 ⟨d, zs, hz, hs⟩
    rw [List.take_length] at hs
    exact k H2 zs d hz hs
/-- pairs at the addresses ts -/
def PairsAt (K : PySem.W.Frag) (H : Hp) (ts : List Addr) (ps : List (Str × Int)) : Prop := ts.length = ps.length ∧ ∀ (i : Nat) t p, ts[i]? = some t → ps[i]? = some p → SqT K H t [.str p.1, .int p.2]
theorem PairsAt.kp {H' : Hp} {ts : List Addr} {ps : List (Str × Int)} (k : Kp K H H') (h : PairsAt K H ts ps) : PairsAt K H' ts ps := ⟨h.1, fun i t p a b => k _ _ (h.2 i t p a b)⟩
theorem PairsAt.snoc {ts : List Addr} {ps : List (Str × Int)} {t : Addr} {p : Str × Int} (h : PairsAt K H ts ps) (ht : SqT K H t [.str p.1, .int p.2]) : PairsAt K H (ts ++ [t]) (ps ++ [p]) := by
  refine ⟨by rw [List.length_append, List.length_append, h.1]; rfl, fun i t' p' a b => ?_⟩
  rcases Nat.lt_or_ge i ts.length with c | c
  · rw [List.getElem?_append_left c] at a
    rw [List.getElem?_append_left (by rw [← h.1]; exact c)] at b
    exact h.2 i t' p' a b
  · rw [List.getElem?_append_right c] at a
    rw [List.getElem?_append_right (by rw [← h.1]; exact c)] at b
    have e : i = ts.length := by
      rcases Nat.lt_or_ge ts.length i with z | z
      · rw [List.getElem?_eq_none (by show 1 ≤ _; omega)] at a
        cases a
      · omega
    subst e
    rw [Nat.sub_self] at a
    rw [h.1, Nat.sub_self] at b
    cases a
    cases b
    exact ht
theorem draw_pairs (wk : Walk J xs.length G (YAt (xs.map V.str))) (hG : ∀ H', Dr r a H H' → G H') (hR : Row K H r a) (few : xs.length ≤ 40) (h0 : 0 < m) (h1 : m < 1073741824) (h2 : 0 < m2) (h3 : m2 < 1073741824) (S : Slot1 σ ir iv r) (hD : H D = none)
    (k : ∀ H' ts ps, Dr r a H H' → H' D = some (.lst (ts.map V.ref)) → PairsAt K H' ts ps → (ps.map (·.1)).Sublist xs → (∀ p ∈ ps, 1 ≤ p.2 ∧ p.2 ≤ m2) → Qd H') :
    LcW J (gName iv) (tDrawn K ir m) (tTup (tCons (tVar iv) (tCons (tOp (rI0 fun i j => .int (i + j)) (tC (.int 1)) (tCall (spTaken K) [] E0 (tCons (tVar ir) (tCons (tC (.int m2)) tNil)))) tNil))) [iv] σ H D Qd := by
  have ne := hR.ne hD
  refine lc_it wk (fun i H' => Dr r a H H' ∧ ∃ ts ps, H' D = some (.lst (ts.map V.ref)) ∧ PairsAt K H' ts ps ∧ (ps.map (·.1)).Sublist (xs.take i) ∧ ∀ p ∈ ps, 1 ≤ p.2 ∧ p.2 ≤ m2) ⟨hR.dr.put hD ne, [], [], upd_same, ⟨rfl, fun i t p a => by simp at a⟩, by simp, fun p hp => by cases hp⟩ (fun i H' _ p => hG H' p.1) ?_ ?_
  · rintro i x H1 H2 hi ⟨d, ts, ps, hz, hp, hs, hb⟩ ⟨rfl, hx⟩
    obtain ⟨n, hn, rfl⟩ := getE hx
    have R1 := d.row hR
    refine ⟨S.wip _, drawn_read (S.row _) R1 h0 h1 fun b H3 d3 => ?_⟩
    have hz3 := d3.sb _ _ ne hz
    have hp3 := hp.kp (d3.kp R1)
    have R3 := d3.row R1
    cases b with
    | false => exact iteF ⟨d.trans d3, ts, ps, hz3, hp3, sub_skip hs hn, hb⟩
    | true =>
      refine iteT ⟨_, S.var _, _, S.row _, r, m2, a, rfl, R3, h2, h3, fun v o v0 v1 R4 => ⟨_, _, rfl, rfl, two_le, fun t nt => ?_⟩⟩
      have d4 := Dr.draw R4
      generalize upd H3 r o = H4 at d4 nt ⊢
      have s5 := Same.upd_new (o := .tup [.str n, .int (1 + v)]) nt
      have hz5 := s5 _ _ (d4.sb _ _ ne hz3)
      have d5 := ((d.trans d3).trans d4).same s5
      have hp5 := (hp3.kp (d4.kp R3)).kp s5.kp
      have kpD : ∀ o, Kp K (upd H4 t (.tup [.str n, .int (1 + v)])) (upd (upd H4 t (.tup [.str n, .int (1 + v)])) D o) := fun o => Kp.upd hz5 (fun xs z => by cases z) (fun q xs z => by cases z)
      refine ⟨_, hz5, ?_, d5.put hD ne, ts ++ [t], ps ++ [(n, 1 + v)], ?_, ?_, ?_, ?_⟩
      · rw [List.length_map, hp.1, sizeLine_eq]
        have := sub_len hs
        rw [List.length_map] at this
        omega
      · rw [upd_same, List.map_append]
        rfl
      · exact (hp5.kp (kpD _)).snoc (kpD _ _ _ (.inl (.inl upd_same)))
      · rw [List.map_append]
        exact sub_snoc hs hn
      · intro p hp
        rcases List.mem_append.mp hp with q | q
        · exact hb p q
        · rw [List.mem_singleton.mp q]
          exact ⟨by show 1 ≤ 1 + v; omega, by show 1 + v ≤ m2; omega⟩
  · rintro H2 ⟨d, ts, ps, hz, hp, hs, hb⟩
    rw [List.take_length] at hs
    exact k H2 ts ps d hz hp hs hb
end
end Half

namespace Half
open PySem PySem.Spec PyProof.Rows L2
/-! ### editions with all their parts -/
structure Edn where
  name : Str
  ver : Int
  scr : List Str
  nee : List (Str × Int)
  fir : List (Str × Int)
  aga : List Str
def Edn.ed (e : Edn) : Ed := ⟨e.name, .int e.ver, e.scr, e.nee, e.fir, e.aga⟩
def Edn.key (e : Edn) : Kk := (e.name, e.ver)
abbrev Es : Type := List (Addr × Edn)
def Es.eds (es : Es) : Eds := es.map fun e => (e.1, e.2.key)
def EdX (K : PySem.W.Frag) (H : Hp) (C a : Addr) (e : Edn) : Prop := ∃ s n f g, EdObj K H C a e.ed s n f g
theorem EdX.same {K : PySem.W.Frag} {H H' : Hp} {C a : Addr} {e : Edn} (S : Same H H') (h : EdX K H C a e) : EdX K H' C a e := by
  obtain ⟨s, n, f, g, h⟩ := h
  exact ⟨s, n, f, g, h.same S⟩
theorem inV_str (x : Str) : ∀ ys : List Str, inV (.str x) (ys.map V.str) = has ys x
  | [] => rfl
  | y :: ys => by
    have ih := inV_str x ys
    unfold inV at ih ⊢
    unfold has at ih ⊢
    rw [List.map_cons, List.any_cons, List.any_cons, ih]
    congr 1
theorem dec_str {x y : Str} : decide (V.str x = V.str y) = decide (x = y) := by
  by_cases h : x = y
  · subst h; simp
  · rw [decide_eq_false h, decide_eq_false (fun z => h (by cases z; rfl))]
theorem len_sub {α : Type} [DecidableEq α] {l m : List α} (h : l.Nodup) (s : ∀ z, z ∈ l → z ∈ m) : l.length ≤ m.length := by
  rcases Nat.lt_or_ge m.length l.length with c | c
  · have := (perm_of_len h s (Nat.le_of_lt c)).length_eq
    omega
  · exact c
def AccP (H1 : Hp) (D : Addr) (f : Nat → List V) : Nat → Hp → Prop := fun i H => Same H1 H ∧ H D = some (.lst (f i))
theorem AccP.zero {H1 : Hp} {D : Addr} {f : Nat → List V} (hD : H1 D = none) (h : f 0 = []) : AccP H1 D f 0 (upd H1 D (.lst [])) := ⟨Same.upd_new hD, by rw [upd_same, h]⟩
theorem AccP.step {H1 H H4 : Hp} {D : Addr} {f : Nat → List V} {i : Nat} {y : V} (p : AccP H1 D f i H) (hD : H1 D = none) (hy : f (i + 1) = f i ++ [y]) (hl : (f i).length ≤ 1000) (e : Same H H4) :
    ∃ acc, H4 D = some (.lst acc) ∧ acc.length < sizeLine ∧ AccP H1 D f (i + 1) (upd H4 D (.lst (acc ++ [y]))) := by
  refine ⟨f i, e _ _ p.2, by rw [sizeLine_eq]; omega, fun b o q => ?_, by rw [upd_same, hy]⟩
  rw [upd_ne (ne_of_none q hD)]
  exact e _ _ (p.1 _ _ q)
theorem AccP.skip {H1 H H4 : Hp} {D : Addr} {f : Nat → List V} {i : Nat} (p : AccP H1 D f i H) (hy : f (i + 1) = f i) (e : Same H H4) : AccP H1 D f (i + 1) H4 :=
  ⟨p.1.trans e, by rw [hy]; exact e _ _ p.2⟩
/-- those of a list that are so, mapped -/
def filV {α : Type} (p : α → Bool) (g : α → V) (l : List α) (i : Nat) : List V := ((l.take i).filter p).map g
theorem filV_yes {α : Type} {p : α → Bool} {g : α → V} {l : List α} {i : Nat} {x : α} (h : l[i]? = some x) (c : p x = true) : filV p g l (i + 1) = filV p g l i ++ [g x] := by
  unfold filV
  rw [take_next h, List.filter_append, List.map_append]
  simp [c]
theorem filV_no {α : Type} {p : α → Bool} {g : α → V} {l : List α} {i : Nat} {x : α} (h : l[i]? = some x) (c : p x = false) : filV p g l (i + 1) = filV p g l i := by
  unfold filV
  rw [take_next h, List.filter_append, List.map_append]
  simp [c]
theorem filV_len {α : Type} (p : α → Bool) (g : α → V) (l : List α) (i : Nat) : (filV p g l i).length ≤ l.length := by
  unfold filV
  rw [List.length_map]
  refine Nat.le_trans (List.length_filter_le ..) ?_
  rw [List.length_take]
  omega
theorem walk_strs {K : PySem.W.Frag} {p : Addr} {xs : List Str} : Walk (Itl K p) xs.length (fun H => SqL K H p (xs.map V.str)) (YAt (xs.map V.str)) := by
  have w := walk_list (K := K) (a := p) (xs := xs.map V.str)
  rwa [List.length_map] at w
theorem Dr.lst {r a p : Addr} {H H' : Hp} {xs : List V} (d : Dr r a H H') (ne : p ≠ r) (h : H p = some (.lst xs)) : H' p = some (.lst xs) := d.sb _ _ ne h
structure TxtJ (mg : Str → Option Value) : Prop where
  srt : mg "sorted" = none
  tup : mg "tuple" = none
  set : mg "set" = none
  ran : mg "range" = none
  dic : mg "dict" = none
  len : mg "len" = none
def nth (l : List Stmt) (i : Nat) : Stmt := l.getD i (.Pass ⟨0, 0, 0, 0⟩)
def forBody (s : Stmt) : List Stmt := match s with
  | .For (body := b) .. => b
  | _ => []
theorem NeedsAt.kp {K : PySem.W.Frag} {H H' : Hp} {a : Addr} {ps : List (Str × Int)} (k : Kp K H H') (h : NeedsAt K H a ps) : NeedsAt K H' a ps := by
  obtain ⟨ts, h1, h2, h3⟩ := h
  exact ⟨ts, k _ _ h1, h2, fun i t p q r => k _ _ (h3 i t p q r)⟩
theorem EdAt.kp {K : PySem.W.Frag} {H H' : Hp} {e : Ed} {s n f g : Addr} (k : Kp K H H') (h : EdAt K H e s n f g) : EdAt K H' e s n f g := ⟨k _ _ h.scripts, h.needs.kp k, h.first.kp k, k _ _ h.against⟩
/-- draws, and the list at l may be written -/
structure DrW (r a l : Addr) (H H' : Hp) : Prop where
  sb : ∀ b o, b ≠ r → b ≠ l → H b = some o → H' b = some o
  at_ : ∃ i g z : Int, 0 ≤ i ∧ H' r = some (.lst [.ref a, .int i, .int g, .int z])
section
variable {K : PySem.W.Frag} {r a l : Addr} {H H' H'' : Hp} {ls : Es}
theorem Dr.w (d : Dr r a H H') : DrW r a l H H' := ⟨fun b o n _ q => d.sb b o n q, d.at_⟩
theorem DrW.trans (d : DrW r a l H H') (e : DrW r a l H' H'') : DrW r a l H H'' := ⟨fun b o n m q => e.sb b o n m (d.sb b o n m q), e.at_⟩
theorem DrW.row {xs : List V} (h : Row K H r a) (hl : H l = some (.lst xs)) (na : a ≠ l ∨ ∃ ns : List Int, ns.length ≤ 63 ∧ ∀ H', SqL K H' a (ns.map V.int)) (d : DrW r a l H H') : Row K H' r a := by
  obtain ⟨ns, i, g, z, h1, h2, h3, h4⟩ := h
  obtain ⟨i', g', z', e1, e2⟩ := d.at_
  have zz : HO.lst (ns.map V.int) ≠ HO.lst [.ref a, .int i, .int g, .int z] := fun y => by
    have y' : ns.map V.int = [.ref a, .int i, .int g, .int z] := by injection y
    cases ns with
    | nil => cases y'
    | cons n ns => cases y'
  rcases na with na | ⟨ms, m1, m2⟩
  · refine ⟨ns, i', g', z', e2, ?_, h3, e1⟩
    rcases h2 with (q | ⟨o, q⟩) | q
    · exact .inl (.inl (d.sb _ _ (ne_of q h1 zz) na q))
    · exact .inl (.inr ⟨o, d.sb _ _ (ne_of q h1 (by intro z; cases z)) na q⟩)
    · exact .inr q
  · exact ⟨ms, i', g', z', e2, m2 _, m1, e1⟩
theorem DrW.kp {xs : List V} (h : Row K H r a) (hl : H l = some (.lst xs)) (d : DrW r a l H H') : Kp K H H' := fun b ys q => by
  obtain ⟨zs, hr⟩ := h.at_
  rcases q with (q | ⟨o, q⟩) | q
  · exact .inl (.inl (d.sb _ _ (ne_of q hr (by intro z; cases z)) (ne_of q hl (by intro z; cases z)) q))
  · exact .inl (.inr ⟨o, d.sb _ _ (ne_of q hr (by intro z; cases z)) (ne_of q hl (by intro z; cases z)) q⟩)
  · exact .inr q
end
/-- the drawn parts of an edition of a package with these others -/
structure GoodE (nm : Str) (ver : Int) (os : List Str) (e : Edn) : Prop where
  name : e.name = nm
  ver : e.ver = ver
  scr : e.scr.Sublist SCR
  nee : (e.nee.map (·.1)).Sublist os
  neeV : ∀ p ∈ e.nee, 1 ≤ p.2 ∧ p.2 ≤ 3
  fir : (e.fir.map (·.1)).Sublist os
  firV : ∀ p ∈ e.fir, 1 ≤ p.2 ∧ p.2 ≤ 3
  aga : e.aga.Sublist os
/-- the editions of one name, one for each version -/
def GoodB (nm : Str) (os : List Str) (vs : List Int) (es : Es) : Prop := es.length = vs.length ∧ ∀ (j : Nat) (e : Addr × Edn) (v : Int), es[j]? = some e → vs[j]? = some v → GoodE nm v os e.2
theorem GoodB.snoc {nm : Str} {os : List Str} {vs : List Int} {i : Nat} {es : Es} {t : Addr} {e : Edn} {v : Int} (h : GoodB nm os (vs.take i) es) (hv : vs[i]? = some v) (g : GoodE nm v os e) : GoodB nm os (vs.take (i + 1)) (es ++ [(t, e)]) := by
  rw [take_next hv]
  refine ⟨by rw [List.length_append, List.length_append, h.1]; rfl, fun j x u a b => ?_⟩
  rcases Nat.lt_or_ge j es.length with c | c
  · rw [List.getElem?_append_left c] at a
    rw [List.getElem?_append_left (by rw [← h.1]; exact c)] at b
    exact h.2 j x u a b
  · rw [List.getElem?_append_right c] at a
    rw [List.getElem?_append_right (by rw [← h.1]; exact c)] at b
    have e' : j = es.length := by
      rcases Nat.lt_or_ge es.length j with z | z
      · rw [List.getElem?_eq_none (by show 1 ≤ _; omega)] at a
        cases a
      · omega
    subst e'
    rw [Nat.sub_self] at a
    rw [h.1, Nat.sub_self] at b
    cases a
    cases b
    exact g
abbrev Al (K : PySem.W.Frag) (a l : Addr) : Prop := a ≠ l ∨ ∃ ns : List Int, ns.length ≤ 63 ∧ ∀ H', SqL K H' a (ns.map V.int)
theorem inR_self (v : Int) : inR (.int v) v v = true := by
  show (decide (v ≤ v) && decide (v ≤ v)) = true
  simp
theorem Dr.none {K : PySem.W.Frag} {r a D : Addr} {H H' : Hp} (d : Dr r a H H') (hR : Row K H r a) (h : H' D = none) : H D = none := by
  cases c : H D with
  | none => rfl
  | some o =>
    by_cases z : D = r
    · obtain ⟨i, g, l, _, e⟩ := d.at_
      rw [z, e] at h
      cases h
    · rw [d.sb _ _ z c] at h
      cases h
theorem keys_eds (y : Es) : keysOf y.eds = (y.map (·.2)).map Edn.key := by
  show (y.map fun e => (e.1, e.2.key)).map (·.2) = _
  rw [List.map_map, List.map_map]
  rfl
structure MkSt (P : Program) (w : World) (K : PySem.W.Frag) (mg : Str → Option Value) (base : Heap) (C CT CI : Addr) : Prop where
  ex : ∃ f fd, Mk K CT f ∧ FnOk P w K mg base (L2.CX P w) 4 f fd ["self", "editions"] (spSi K C CT CI) ∧ Binds K fd ["self", "editions"] []
  mgS : mg "Store" = some (.ref CT)
theorem store_read {K : PySem.W.Frag} {C CT CI : Addr} {H : Hp} {x dx t : Addr} {es : Eds} {Q : Hp → Prop} {E : XK} (nx : H x = none) (ndx : H dx = none) (hE : EdsAt K C H t es) (few : es.length ≤ 40) (hw : wrongAt (keysOf es) = none) (k : ∀ H', Same H H' → StObj CT H' x es → Q H') :
    spSi K C CT CI [.ref x, .ref t] (upd (upd H dx (.own x)) x (.ins CT dx [])) (fun v H3 => v = .non ∧ Q H3) E := by
  have S : Same H (upd (upd H dx (.own x)) x (.ins CT dx [])) := fun b o q => by
    rw [upd_ne (ne_of_none q nx), upd_ne (ne_of_none q ndx), q]
  refine ⟨x, t, dx, es, rfl, upd_same, hE.same S, few, fun _ H' sb ho => ⟨rfl, k H' (fun b o q => sb b o (ne_of_none q nx) (S b o q)) ho⟩, fun i hi => ?_⟩
  rw [hw] at hi
  cases hi
theorem EdX.put {K : PySem.W.Frag} {H : Hp} {C a fo : Addr} {e : Edn} {xs : List V} {o : HO} (hf : H fo = some (.lst xs)) (h : EdX K H C a e) : EdX K (upd H fo o) C a e := by
  obtain ⟨s, n, f, g, ⟨dx, p, h1, h2⟩, h3⟩ := h
  have kp : Kp K H (upd H fo o) := Kp.upd hf (fun xs z => by cases z) (fun q xs z => by cases z)
  exact ⟨s, n, f, g, ⟨dx, p, by rw [upd_ne (ne_of h1 hf (by intro z; cases z))]; exact h1, by rw [upd_ne (ne_of h2 hf (by intro z; cases z))]; exact h2⟩, h3.kp kp⟩
theorem EdX.key {K : PySem.W.Frag} {H : Hp} {C a : Addr} {e : Edn} (h : EdX K H C a e) : EdK C H a e.key := by
  obtain ⟨s, n, f, g, ⟨dx, p, h1, h2⟩, _⟩ := h
  exact ⟨dx, p, _, h1, h2⟩
theorem asc_of {l : List Str} (h : l.Pairwise fun a b => strLt a b = true) : ascS l = true := by
  unfold ascS
  refine List.all_eq_true.mpr fun i hi => ?_
  have hi : i < l.length - 1 := List.mem_range.mp hi
  have h1 : i < l.length := by omega
  have h2 : i + 1 < l.length := by omega
  have e1 : l.getD i "" = l[i] := by rw [List.getD_eq_getElem?_getD, List.getElem?_eq_getElem h1]; rfl
  have e2 : l.getD (i + 1) "" = l[i + 1] := by rw [List.getD_eq_getElem?_getD, List.getElem?_eq_getElem h2]; rfl
  rw [e1, e2]
  exact List.pairwise_iff_getElem.mp h i (i + 1) h1 h2 (by omega)
theorem scr_asc : SCR.Pairwise fun a b => strLt a b = true := by decide +kernel
theorem scripts_ok {l : List Str} (h : l.Sublist SCR) : areScripts l = true := by
  unfold areScripts
  rw [asc_of (scr_asc.sublist h), Bool.and_true]
  refine List.all_eq_true.mpr fun z hz => ?_
  rw [inV_str]
  exact has_iff.mpr (h.subset hz)
theorem nodup_take {α : Type} {l : List α} {i : Nat} {x : α} (h : l.Nodup) (hx : l[i]? = some x) : x ∉ l.take i := fun z => by
  have hi := (List.getElem?_eq_some_iff.mp hx).1
  rw [← List.take_append_drop i l] at h
  refine (List.nodup_append.mp h).2.2 x z x ?_ rfl
  rw [List.drop_eq_getElem_cons hi, (List.getElem?_eq_some_iff.mp hx).2]
  exact List.mem_cons_self
theorem pLt_ne {a b : Kk} (h : pLt a b = true) : a ≠ b := fun z => by
  rw [z] at h
  rcases pLt_iff.mp h with q | ⟨_, q⟩
  · have := tx_irr b.1
    rw [q] at this
    cases this
  · omega
/-! ### of states and systems, as in k03 -/
theorem keys_same {ls es : Es} (h : es.map (·.2) = ls.map (·.2)) : keysOf es.eds = keysOf ls.eds := by rw [keys_eds, keys_eds, h]
def Nl (H H' : Hp) : Prop := ∀ b o, H b = some o → (∀ xs, o ≠ .lst xs) → H' b = some o
theorem Dr.nl {K : PySem.W.Frag} {r a : Addr} {H H' : Hp} (h : Row K H r a) (d : Dr r a H H') : Nl H H' := fun b o q n => by
  obtain ⟨xs, hr⟩ := h.at_
  refine d.sb b o (fun z => ?_) q
  rw [z, hr] at q
  cases q
  exact n xs rfl
theorem StObj.nl {CT : Addr} {H H' : Hp} {st : Addr} {es : Eds} (k : Nl H H') (h : StObj CT H st es) : StObj CT H' st es := by
  obtain ⟨⟨dy, tb, nb, h1, h2, h3⟩, one⟩ := h
  obtain ⟨ys', a, b, kvs', g1, g2, g3⟩ := h3
  exact ⟨⟨dy, tb, nb, k _ _ h1 (by intro _ z; cases z), k _ _ h2 (by intro _ z; cases z), ys', a, b, kvs', k _ _ g1 (by intro _ z; cases z), g2, fun nm hm => let ⟨t, a, b⟩ := g3 nm hm; ⟨t, a, k _ _ b (by intro _ z; cases z)⟩⟩, one⟩
theorem EdX.nl {K : PySem.W.Frag} {C a : Addr} {H H' : Hp} {e : Edn} (k : Nl H H') (kp : Kp K H H') (h : EdX K H C a e) : EdX K H' C a e := by
  obtain ⟨s, n, f, g, ⟨dx, p, h1, h2⟩, h3⟩ := h
  exact ⟨s, n, f, g, ⟨dx, p, k _ _ h1 (by intro _ z; cases z), k _ _ h2 (by intro _ z; cases z)⟩, h3.kp kp⟩
end Half

namespace Half
open PySem PySem.Spec PyProof.Rows L2
/-! ### part two: one edition, drawn and made -/
theorem walkT_strs {K : PySem.W.Frag} {p : Addr} {xs : List Str} : Walk (Itt K p) xs.length (fun H => SqT K H p (xs.map V.str)) (YAt (xs.map V.str)) := by
  have w := walk_tup (K := K) (a := p) (xs := xs.map V.str)
  rwa [List.length_map] at w
theorem DrW.nl {K : PySem.W.Frag} {r a l : Addr} {H H' : Hp} {xs : List V} (h : Row K H r a) (hl : H l = some (.lst xs)) (d : DrW r a l H H') : Nl H H' := fun b o q n => by
  obtain ⟨zs, hr⟩ := h.at_
  refine d.sb b o (fun z => ?_) (fun z => ?_) q
  · rw [z, hr] at q
    cases q
    exact n _ rfl
  · rw [z, hl] at q
    cases q
    exact n _ rfl
/-- [x for x in xs if taken(row, m) > 0] -/
abbrev tMore (K : PySem.W.Frag) (ir : Nat) (m : Int) : TT := tTest (tOp (rI0 fun i j => .bl (decide (j < i))) (tCall (spTaken K) [] E0 (tCons (tVar ir) (tCons (tC (.int m)) tNil))) (tC (.int 0)))
theorem more_read {K : PySem.W.Frag} {r a : Addr} {ir : Nat} {m : Int} {σ : L2.St} {H : Hp} {Q : Bool → Hp → Prop} (hs : σ[ir]? = some (some (.ref r))) (h : Row K H r a) (h0 : 0 < m) (h1 : m < 1073741824) (k : ∀ b H', Dr r a H H' → Q b H') : tMore K ir m σ H Q := by
  exact ⟨_, hs, r, m, a, rfl, h, h0, h1, fun v o _ _ R => ⟨_, _, rfl, rfl, _, rfl, k _ _ (Dr.draw R)⟩⟩
section
variable {K : PySem.W.Frag} {r a D : Addr} {ir iv : Nat} {m : Int} {xs : List Str} {σ : L2.St} {H : Hp} {Qd : Hp → Prop} {J : It} {G : Hp → Prop}
theorem draw_more (wk : Walk J xs.length G (YAt (xs.map V.str))) (hG : ∀ H', Dr r a H H' → G H') (hR : Row K H r a) (few : xs.length ≤ 40) (h0 : 0 < m) (h1 : m < 1073741824) (S : Slot1 σ ir iv r) (hD : H D = none)
    (k : ∀ H' (zs : List Str), Dr r a H H' → H' D = some (.lst (zs.map V.str)) → zs.Sublist xs → Qd H') : LcW J (gName iv) (tMore K ir m) (tVar iv) [iv] σ H D Qd := by
  have ne := hR.ne hD
  refine lc_it wk (fun i H' => Dr r a H H' ∧ ∃ zs : List Str, H' D = some (.lst (zs.map V.str)) ∧ zs.Sublist (xs.take i)) ⟨hR.dr.put hD ne, [], upd_same, by simp⟩ (fun i H' _ p => hG H' p.1) ?_ ?_
  · rintro i x H1 H2 hi ⟨d, zs, hz, hs⟩ ⟨rfl, hx⟩
    obtain ⟨n, hn, rfl⟩ := getE hx
    refine ⟨S.wip _, more_read (S.row _) (d.row hR) h0 h1 fun b H3 d3 => ?_⟩
    have hz3 := d3.sb _ _ ne hz
    cases b with
    | false => exact iteF ⟨d.trans d3, zs, hz3, sub_skip hs hn⟩
    | true =>
      refine iteT ⟨_, S.var _, _, hz3, ?_, ?_, zs ++ [n], ?_, sub_snoc hs hn⟩
      · rw [List.length_map, sizeLine_eq]
        have := sub_len hs
        omega
      · exact (d.trans d3).put hD ne
      · rw [upd_same, List.map_append]
        rfl
  · rintro H2 ⟨d, zs, hz, hs⟩
    rw [List.take_length] at hs
    exact k H2 zs d hz hs
/-- [(x, 1) for x in xs if taken(row, m) == 0] -/
theorem draw_ones (wk : Walk J xs.length G (YAt (xs.map V.str))) (hG : ∀ H', Dr r a H H' → G H') (hR : Row K H r a) (few : xs.length ≤ 40) (h0 : 0 < m) (h1 : m < 1073741824) (S : Slot1 σ ir iv r) (hD : H D = none)
    (k : ∀ H' ts ps, Dr r a H H' → H' D = some (.lst (ts.map V.ref)) → PairsAt K H' ts ps → (ps.map (·.1)).Sublist xs → (∀ p ∈ ps, 1 ≤ p.2 ∧ p.2 ≤ 1) → Qd H') :
    LcW J (gName iv) (tDrawn K ir m) (tTup (tCons (tVar iv) (tCons (tC (.int 1)) tNil))) [iv] σ H D Qd := by
  have ne := hR.ne hD
  refine lc_it wk (fun i H' => Dr r a H H' ∧ ∃ ts ps, H' D = some (.lst (ts.map V.ref)) ∧ PairsAt K H' ts ps ∧ (ps.map (·.1)).Sublist (xs.take i) ∧ ∀ p ∈ ps, 1 ≤ p.2 ∧ p.2 ≤ 1) ⟨hR.dr.put hD ne, [], [], upd_same, ⟨rfl, fun i t p a => by simp at a⟩, by simp, fun p hp => by cases hp⟩ (fun i H' _ p => hG H' p.1) ?_ ?_
  · rintro i x H1 H2 hi ⟨d, ts, ps, hz, hp, hs, hb⟩ ⟨rfl, hx⟩
    obtain ⟨n, hn, rfl⟩ := getE hx
    have R1 := d.row hR
    refine ⟨S.wip _, drawn_read (S.row _) R1 h0 h1 fun b H3 d3 => ?_⟩
    have hz3 := d3.sb _ _ ne hz
    have hp3 := hp.kp (d3.kp R1)
    cases b with
    | false => exact iteF ⟨d.trans d3, ts, ps, hz3, hp3, sub_skip hs hn, hb⟩
    | true =>
      refine iteT ⟨_, S.var _, two_le, fun t nt => ?_⟩
      have s5 := Same.upd_new (o := .tup [.str n, .int 1]) nt
      have hz5 := s5 _ _ hz3
      have d5 := (d.trans d3).same s5
      have hp5 := hp3.kp s5.kp
      have kpD : ∀ o, Kp K (upd H3 t (.tup [.str n, .int 1])) (upd (upd H3 t (.tup [.str n, .int 1])) D o) := fun o => Kp.upd hz5 (fun xs z => by cases z) (fun q xs z => by cases z)
      refine ⟨_, hz5, ?_, d5.put hD ne, ts ++ [t], ps ++ [(n, 1)], ?_, ?_, ?_, ?_⟩
      · rw [List.length_map, hp.1, sizeLine_eq]
        have := sub_len hs
        rw [List.length_map] at this
        omega
      · rw [upd_same, List.map_append]
        rfl
      · exact (hp5.kp (kpD _)).snoc (kpD _ _ _ (.inl (.inl upd_same)))
      · rw [List.map_append]
        exact sub_snoc hs hn
      · intro p hp
        rcases List.mem_append.mp hp with q | q
        · exact hb p q
        · rw [List.mem_singleton.mp q]
          exact ⟨Int.le_refl _, Int.le_refl _⟩
  · rintro H2 ⟨d, ts, ps, hz, hp, hs, hb⟩
    rw [List.take_length] at hs
    exact k H2 ts ps d hz hp hs hb
end
abbrev sSto : Stmt := top 56
abbrev StoN : List Str := ["_law_row", "_law_most", "_law_names", "_law_found", "_law_name", "_law_others", "_law_number", "_law_own", "_law_wants", "_law_asks", "_law_shuns", "_law_other", "_law_word"]
theorem scSto : FnScope StoN ["_law_row", "_law_most"] (defScope sSto) := ⟨rfl, rfl, rfl, by decide +kernel, rfl, by decide +kernel, by decide +kernel⟩
/-- the editions that are found so far -/
structure FEd (K : PySem.W.Frag) (H : Hp) (C l : Addr) (ls : Es) : Prop where
  at_ : H l = some (.lst (ls.map fun e => .ref e.1))
  ed : ∀ e ∈ ls, EdX K H C e.1 e.2
def PN4 : List Str := ["app", "db", "lib", "web"]
theorem pn4_lt : PN4.Pairwise fun a b => strLt a b = true := by decide +kernel
theorem pn4_ok : ∀ x ∈ PN4, PyData.strOk x = true ∧ isWord x = true ∧ x.length ≤ 1000 := by
  intro x h
  unfold PN4 at h
  simp only [List.mem_cons, List.not_mem_nil, or_false] at h
  rcases h with rfl | rfl | rfl | rfl <;> decide +kernel
theorem others4_ok {l : List Str} {nm : Str} (h : l.Sublist PN4) (hn : nm ∉ l) : areOthers l nm = true := by
  unfold areOthers
  rw [asc_of (pn4_lt.sublist h), Bool.and_true]
  refine List.all_eq_true.mpr fun z hz => ?_
  have ne : ¬ z = nm := fun e => hn (by rw [← e]; exact hz)
  rw [(pn4_ok z (h.subset hz)).2.1, dec_str, decide_eq_false ne]
  rfl
theorem needs4_ok {ps : List (Str × Int)} {nm : Str} (h : (ps.map (·.1)).Sublist PN4) (hn : nm ∉ ps.map (·.1)) (hv : ∀ p ∈ ps, 1 ≤ p.2 ∧ p.2 ≤ 3) : areNeeds ps nm = true := by
  unfold areNeeds
  rw [others4_ok h hn, Bool.and_true]
  refine List.all_eq_true.mpr fun p hp => ?_
  obtain ⟨a, b⟩ := hv p hp
  show (decide (1 ≤ p.2) && decide (p.2 ≤ 99)) = true
  rw [decide_eq_true a, decide_eq_true (by omega : p.2 ≤ 99)]
  rfl
/-- an edition that is drawn so has nothing wrong -/
theorem GoodE.right {nm : Str} {ver : Int} {os : List Str} {e : Edn} (g : GoodE nm ver os e) (hn : nm ∈ PN4) (v1 : 1 ≤ ver) (v2 : ver ≤ 99) (hos : os.Sublist PN4) (hno : nm ∉ os) : e.ed.Small ∧ e.ed.wrong = none := by
  have en := g.name
  have n1 := g.nee.trans hos
  have n2 := g.fir.trans hos
  have n3 := g.aga.trans hos
  have ok := pn4_ok _ hn
  have len4 : ∀ {l : List Str}, l.Sublist PN4 → l.length ≤ 4 ∧ ∀ z ∈ l, PyData.strOk z = true ∧ z.length ≤ 1000 := fun s => ⟨s.length_le, fun z hz => ⟨(pn4_ok z (s.subset hz)).1, (pn4_ok z (s.subset hz)).2.2⟩⟩
  have c2 : inR (.int e.ver) 1 99 = true := by
    rw [g.ver]
    show (decide (1 ≤ ver) && decide (ver ≤ 99)) = true
    rw [decide_eq_true v1, decide_eq_true v2]
    rfl
  have c3 := scripts_ok g.scr
  have c4 : areNeeds e.nee e.name = true := by rw [en]; exact needs4_ok n1 (fun z => hno (g.nee.subset z)) g.neeV
  have c5 : areNeeds e.fir e.name = true := by rw [en]; exact needs4_ok n2 (fun z => hno (g.fir.subset z)) g.firV
  have c6 : areOthers e.aga e.name = true := by rw [en]; exact others4_ok n3 (fun z => hno (g.aga.subset z))
  have c1 : isWord e.name = true := by rw [en]; exact ok.2.1
  have sl : ∀ {ps : List (Str × Int)}, (ps.map (·.1)).Sublist PN4 → ps.length ≤ 100 ∧ ∀ p ∈ ps, p.1.length ≤ 1000 := fun s => by
    obtain ⟨a, b⟩ := len4 s
    rw [List.length_map] at a
    exact ⟨by omega, fun p hp => (b p.1 (List.mem_map.mpr ⟨p, hp, rfl⟩)).2⟩
  refine ⟨⟨by show e.name.length ≤ 1000; rw [en]; exact ok.2.2, .inl ⟨_, rfl⟩, ?_, sl n1, sl n2, ⟨Nat.le_trans (len4 n3).1 (by decide), fun z hz => ((len4 n3).2 z hz).2⟩⟩, ?_⟩
  · have := g.scr.length_le
    exact Nat.le_trans this (by decide)
  · unfold Ed.wrong Ed.checks Edn.ed
    simp only [c1, c2, c3, c4, c5, c6]
    rfl
section
variable {P : Program} {w : World} {K : PySem.W.Frag} {mg : Str → Option Value} {base : Heap} {C CE f0 : Addr} {fd0 : FuncData} {aS z1 z2 z3 : Addr}
theorem sto_end {f : Addr} {cdv : Value} {A : Around} {outer : List Env} {s : Shared} {H0 : Hp} {E : XK} (gT : mg "tuple" = none) (dT : Def P w K mg base 1 "_law_taken" ["_law_row", "_law_many"] (spTaken K)) (Di : EdF P w K mg base C CE f0 fd0 aS z1 z2 z3)
    (hr : Room 7 (A.deeper (envOfC "_law_store" (defScope sSto) s.heap.objs.size f cdv))) (nd : StoN.Nodup) :
    ∃ t, PSs (cxOf CX0 P w K mg base StoN "_law_store" (defScope sSto) f cdv A outer s H0 E).nox (forBody (nth (forBody (nth (defBody sSto) 1)) 1)) t ∧ ∀ (D' : Ends) (H : Hp) (r a l lo : Addr) (os : List Str) (nm : Str) (ver : Int) (ls : Es) (x1 x2 x7 x8 x9 x10 x11 x12 : Option V),
      Row K H r a → FEd K H C l ls → l ≠ r → H lo = some (.lst (os.map V.str)) → lo ≠ r → lo ≠ l → os.length ≤ 40 → ls.length ≤ 40 → nm ∈ PN4 → 1 ≤ ver → ver ≤ 99 → os.Sublist PN4 → nm ∉ os →
      (∀ t e H' x7 x8 x9 x10, GoodE nm ver os e → DrW r a l H H' → FEd K H' C l (ls ++ [(t, e)]) → D'.nx [some (.ref r), x1, x2, some (.ref l), some (.str nm), some (.ref lo), some (.int ver), x7, x8, x9, x10, x11, x12] H') →
      t D' [some (.ref r), x1, x2, some (.ref l), some (.str nm), some (.ref lo), some (.int ver), x7, x8, x9, x10, x11, x12] H := by
  have r1 : Room 1 _ := hr.mono (by decide)
  obtain ⟨gg, hb⟩ := Di.kb4
  refine ⟨_, pss_cons (ps_set (i := 7) nd rfl (Or.inl rfl) (pe_callTy call_tuple_of (by rfl) gT (by decide +kernel) (pa_cons
        (pe_lc (own := [("_law_word", 12)]) (g := gName 12) (tt := tMore K 0 4) (te := tVar 12) rfl nd (pi_tup (pe_tup (pa_cons pe_str (pa_cons pe_str (pa_cons pe_str (pa_cons pe_str pa_nil)))))) (blkOk_by (N := StoN) (sc := defScope sSto) (by decide +kernel))
          (fun _ _ _ _ _ => pg_name (i := 12) nd rfl (Or.inl rfl)) (fun _ _ _ _ _ => pts_one (pt_cmpR op_gt (pe_def dT r1 rfl (pa_cons (pv 0) (pa_cons pe_int pa_nil))) pe_int (nomark _))) (fun _ _ _ _ _ => pv 12)) pa_nil)))
    (pss_cons (ps_set (i := 8) nd rfl (Or.inl rfl) (pe_callTy call_tuple_of (by rfl) gT (by decide +kernel) (pa_cons
        (pe_lc (own := [("_law_other", 11)]) (g := gName 11) (tt := tDrawn K 0 4) (te := tTup (tCons (tVar 11) (tCons (tOp (rI0 fun i j => .int (i + j)) (tC (.int 1)) (tCall (spTaken K) [] E0 (tCons (tVar 0) (tCons (tC (.int 2)) tNil)))) tNil))) rfl nd (pi_list (pv 5)) (blkOk_by (N := StoN) (sc := defScope sSto) (by decide +kernel))
          (fun _ _ _ _ _ => pg_name (i := 11) nd rfl (Or.inl rfl)) (fun _ _ _ _ _ => pts_one (pt_cmpR op_eq (pe_def dT r1 rfl (pa_cons (pv 0) (pa_cons pe_int pa_nil))) pe_int (nomark _))) (fun _ _ _ _ _ => pe_tup (pa_cons (pv 11) (pa_cons (pe_op op_add pe_int (pe_def dT r1 rfl (pa_cons (pv 0) (pa_cons pe_int pa_nil)))) pa_nil)))) pa_nil)))
    (pss_cons (ps_set (i := 9) nd rfl (Or.inl rfl) (pe_callTy call_tuple_of (by rfl) gT (by decide +kernel) (pa_cons
        (pe_lc (own := [("_law_other", 11)]) (g := gName 11) (tt := tDrawn K 0 9) (te := tTup (tCons (tVar 11) (tCons (tC (.int 1)) tNil))) rfl nd (pi_list (pv 5)) (blkOk_by (N := StoN) (sc := defScope sSto) (by decide +kernel))
          (fun _ _ _ _ _ => pg_name (i := 11) nd rfl (Or.inl rfl)) (fun _ _ _ _ _ => pts_one (pt_cmpR op_eq (pe_def dT r1 rfl (pa_cons (pv 0) (pa_cons pe_int pa_nil))) pe_int (nomark _))) (fun _ _ _ _ _ => pe_tup (pa_cons (pv 11) (pa_cons pe_int pa_nil)))) pa_nil)))
    (pss_cons (ps_set (i := 10) nd rfl (Or.inl rfl) (pe_callTy call_tuple_of (by rfl) gT (by decide +kernel) (pa_cons
        (pe_lc (own := [("_law_other", 11)]) (g := gName 11) (tt := tDrawn K 0 9) (te := tVar 11) rfl nd (pi_list (pv 5)) (blkOk_by (N := StoN) (sc := defScope sSto) (by decide +kernel))
          (fun _ _ _ _ _ => pg_name (i := 11) nd rfl (Or.inl rfl)) (fun _ _ _ _ _ => pts_one (pt_cmpR op_eq (pe_def dT r1 rfl (pa_cons (pv 0) (pa_cons pe_int pa_nil))) pe_int (nomark _))) (fun _ _ _ _ _ => pv 11)) pa_nil)))
    (pss_one (ps_expr (pe_bm PySem.F.plainAttrs_list PySem.F.slot_list_append PySem.F.type_list_append mt_append (pv 3) (pa_cons
        (pe_makeK (n := 2) Di.make Di.ok hr rfl Di.mgC hb passL (pa_cons (pv 4) (pa_cons (pv 6) pa_nil))
          (pk_cons (pv 7) (pk_cons (pv 8) (pk_cons (pv 9) (pk_cons (pv 10) pk_nil))))) pa_nil))))))), ?_⟩
  intro D' H r a l lo os nm ver ls x1 x2 x7 x8 x9 x10 x11 x12 hR hL nlr ho nor nol few fewl hnm v1 v2 hos hno k
  have sl : ∀ x7 x8 x9 x10 : Option V, Slot1 [some (.ref r), x1, x2, some (.ref l), some (.str nm), some (.ref lo), some (.int ver), x7, x8, x9, x10, x11, x12] 0 11 r := fun _ _ _ _ => ⟨fun _ => rfl, fun _ => rfl, fun _ => rfl⟩
  have sl2 : ∀ x7 x8 x9 x10 : Option V, Slot1 [some (.ref r), x1, x2, some (.ref l), some (.str nm), some (.ref lo), some (.int ver), x7, x8, x9, x10, x11, x12] 0 12 r := fun _ _ _ _ => ⟨fun _ => rfl, fun _ => rfl, fun _ => rfl⟩
  refine ⟨(by show 4 ≤ sizeLine; decide), fun tw nw => ?_⟩
  have s0 := Same.upd_new (o := .tup (SCR.map V.str)) nw
  have d0 := hR.of s0
  have R0 := hR.same' s0
  have g0 : SqT K (upd H tw (.tup (SCR.map V.str))) tw (SCR.map V.str) := .inl (.inl upd_same)
  have e0 : (upd H tw (.tup [.str "clean", .str "enter", .str "leave", .str "setup"])) = upd H tw (.tup (SCR.map V.str)) := rfl
  rw [e0]
  generalize upd H tw (.tup (SCR.map V.str)) = H00 at d0 R0 g0 ⊢
  refine ⟨tw, rfl, ⟨_, g0⟩, fun D hD => draw_more walkT_strs (fun H' d => d.kp R0 _ _ g0) R0 (by decide) (by decide) (by decide) (sl2 _ _ _ _) hD (fun H1 hs d1 hz1 hsub => ?_)⟩
  refine ⟨D, _, rfl, .inl ⟨SqL.of hz1, fun ph nph => ?_⟩⟩
  have s1 := Same.upd_new (o := .tup (hs.map V.str)) nph
  have d1' := (d0.trans d1).same s1
  have R1' := (d1.row R0).same' s1
  have gh : SqT K (upd H1 ph (.tup (hs.map V.str))) ph (hs.map V.str) := .inl (.inl upd_same)
  have ho1 := d1'.lst nor ho
  generalize upd H1 ph (.tup (hs.map V.str)) = H1' at d1' R1' gh ho1 ⊢
  refine ⟨_, rfl, lo, rfl, ⟨_, SqL.of ho1⟩, fun D2 hD2 => draw_pairs walk_strs (fun H' d => SqL.of (d.lst nor ho1)) R1' few (by decide) (by decide) (by decide) (by decide) (sl _ _ _ _) hD2 (fun H2 ts2 ps2 d2 hz2 hp2 hs2 hb2 => ?_)⟩
  refine ⟨D2, _, rfl, .inl ⟨SqL.of hz2, fun p2 np2 => ?_⟩⟩
  have s2 := Same.upd_new (o := .tup (ts2.map V.ref)) np2
  have d2' := d2.same s2
  have R2' := (d2.row R1').same' s2
  have n2 : NeedsAt K (upd H2 p2 (.tup (ts2.map V.ref))) p2 ps2 := ⟨ts2, .inl (.inl upd_same), hp2.1, fun i t p a b => s2.sqT (hp2.2 i t p a b)⟩
  have ho2 := d2'.lst nor ho1
  generalize upd H2 p2 (.tup (ts2.map V.ref)) = H2' at d2' R2' n2 ho2 ⊢
  refine ⟨_, rfl, lo, rfl, ⟨_, SqL.of ho2⟩, fun D3 hD3 => draw_ones walk_strs (fun H' d => SqL.of (d.lst nor ho2)) R2' few (by decide) (by decide) (sl _ _ _ _) hD3 (fun H3 ts3 ps3 d3 hz3 hp3 hs3 hb3 => ?_)⟩
  refine ⟨D3, _, rfl, .inl ⟨SqL.of hz3, fun p3 np3 => ?_⟩⟩
  have s3 := Same.upd_new (o := .tup (ts3.map V.ref)) np3
  have d3' := d3.same s3
  have R3' := (d3.row R2').same' s3
  have n3 : NeedsAt K (upd H3 p3 (.tup (ts3.map V.ref))) p3 ps3 := ⟨ts3, .inl (.inl upd_same), hp3.1, fun i t p a b => s3.sqT (hp3.2 i t p a b)⟩
  have ho3 := d3'.lst nor ho2
  generalize upd H3 p3 (.tup (ts3.map V.ref)) = H3' at d3' R3' n3 ho3 ⊢
  refine ⟨_, rfl, lo, rfl, ⟨_, SqL.of ho3⟩, fun D4 hD4 => draw_names walk_strs (fun H' d => SqL.of (d.lst nor ho3)) R3' few (by decide) (by decide) (sl _ _ _ _) hD4 (fun H4 gs d4 hz4 hs4 => ?_)⟩
  refine ⟨D4, _, rfl, .inl ⟨SqL.of hz4, fun p4 np4 => ?_⟩⟩
  have s4 := Same.upd_new (o := .tup (gs.map V.str)) np4
  have d4' := d4.same s4
  have R4' := (d4.row R3').same' s4
  have g4 : SqT K (upd H4 p4 (.tup (gs.map V.str))) p4 (gs.map V.str) := .inl (.inl upd_same)
  generalize upd H4 p4 (.tup (gs.map V.str)) = H4' at d4' R4' g4 ⊢
  have dA := d1'.trans (d2'.trans (d3'.trans d4'))
  have gl := dA.sb _ _ nlr hL.at_
  have nlA := dA.nl hR
  have kpA := dA.kp hR
  let e : Edn := ⟨nm, ver, hs, ps2, ps3, gs⟩
  have ge : GoodE nm ver os e := ⟨rfl, rfl, hsub, hs2, fun p hp => ⟨(hb2 p hp).1, by have := (hb2 p hp).2; omega⟩, hs3, fun p hp => ⟨(hb3 p hp).1, by have := (hb3 p hp).2; omega⟩, hs4⟩
  obtain ⟨sm, wr⟩ := ge.right hnm v1 v2 hos hno
  have hE : EdAt K H4' e.ed ph p2 p3 p4 := ⟨(d2'.trans (d3'.trans d4')).kp R1' _ _ gh, (n2.kp ((d3'.trans d4').kp R2')), n3.kp (d4'.kp R3'), g4⟩
  refine ⟨_, rfl, .inl ⟨rfl, _, SqL.of gl⟩, _, rfl, _, rfl, _, rfl, _, rfl, _, rfl, _, rfl, rfl, rfl, fun x dx nx ndx nxx => ?_⟩
  refine mk_read (e := e.ed) nx ndx hE sm wr fun H5 s5 hobj => ?_
  have g5 := s5 _ _ gl
  have dB := dA.same s5
  refine ⟨l, _, _, rfl, rfl, g5, by rw [List.length_map, sizeLine_eq]; omega, ?_⟩
  refine k x e _ _ _ _ _ ge ⟨fun b o n m q => ?_, ?_⟩ ⟨?_, fun y hy => ?_⟩
  · rw [upd_ne m]
    exact dB.sb b o n q
  · obtain ⟨i, g, z, c1, c2⟩ := dB.at_
    exact ⟨i, g, z, c1, by rw [upd_ne (Ne.symm nlr)]; exact c2⟩
  · rw [upd_same, List.map_append]
    rfl
  · rcases List.mem_append.mp hy with q | q
    · exact (((hL.ed y q).nl nlA kpA).same s5).put g5
    · rw [List.mem_singleton.mp q]
      exact EdX.put g5 ⟨ph, p2, p3, p4, hobj⟩
end
end Half

namespace Half
open PySem PySem.Spec PyProof.Rows L2
/-! ### part two: the drawn store -/
def owW (ns : List Str) : List Str := ns ++ [("web" : Str)]
theorem one_leU : 1 ≤ sizeLine := by decide
theorem FEd.same {K : PySem.W.Frag} {C l : Addr} {H H' : Hp} {ls : Es} (S : Same H H') (h : FEd K H C l ls) : FEd K H' C l ls := ⟨S _ _ h.at_, fun e he => (h.ed e he).same S⟩
theorem FEd.dr {K : PySem.W.Frag} {C r a l : Addr} {H H' : Hp} {ls : Es} (hR : Row K H r a) (ne : l ≠ r) (d : Dr r a H H') (h : FEd K H C l ls) : FEd K H' C l ls := ⟨d.sb _ _ ne h.at_, fun e he => (h.ed e he).nl (d.nl hR) (d.kp hR)⟩
section
variable {P : Program} {w : World} {K : PySem.W.Frag} {mg : Str → Option Value} {base : Heap} {C CE f0 : Addr} {fd0 : FuncData} {aS z1 z2 z3 : Addr}
theorem sto_name {f : Addr} {cdv : Value} {A : Around} {outer : List Env} {s : Shared} {H0 : Hp} {E : XK} (gT : mg "tuple" = none) (dT : Def P w K mg base 1 "_law_taken" ["_law_row", "_law_many"] (spTaken K)) (Di : EdF P w K mg base C CE f0 fd0 aS z1 z2 z3)
    (hr : Room 7 (A.deeper (envOfC "_law_store" (defScope sSto) s.heap.objs.size f cdv))) (nd : StoN.Nodup) :
    ∃ t, PSs (cxOf CX0 P w K mg base StoN "_law_store" (defScope sSto) f cdv A outer s H0 E).nox (forBody (nth (defBody sSto) 1)) t ∧ ∀ (D' : Ends) (H : Hp) (r a l ln : Addr) (ns : List Str) (nm : Str) (ls : Es) (x1 x5 x6 x7 x8 x9 x10 x11 x12 : Option V),
      Row K H r a → FEd K H C l ls → l ≠ r → Al K a l → H ln = some (.lst (ns.map V.str)) → ln ≠ r → ln ≠ l → ns.length ≤ 3 → ls.length ≤ 30 → nm ∈ PN4 → (owW ns).Sublist PN4 →
      (∀ (vs : List Int) (es : Es) H' x5 x6 x7 x8 x9 x10, GoodB nm ((owW ns).filter fun o => !decide (o = nm)) vs es → vs.Pairwise (· < ·) → (∀ v ∈ vs, 1 ≤ v ∧ v ≤ 3) → vs ≠ [] → vs.length ≤ 2 → DrW r a l H H' → FEd K H' C l (ls ++ es) → D'.nx [some (.ref r), x1, some (.ref ln), some (.ref l), some (.str nm), x5, x6, x7, x8, x9, x10, x11, x12] H') →
      t D' [some (.ref r), x1, some (.ref ln), some (.ref l), some (.str nm), x5, x6, x7, x8, x9, x10, x11, x12] H := by
  have r1 : Room 1 _ := hr.mono (by decide)
  obtain ⟨tB, hB, rdB⟩ := sto_end (P := P) (w := w) (K := K) (mg := mg) (base := base) (f := f) (cdv := cdv) (A := A) (outer := outer) (s := s) (H0 := H0) (E := E) gT dT Di hr nd
  refine ⟨_, pss_cons (ps_setLc (i := 5) (own := [("_law_other", 11)]) (g := gName 11) (tt := tTest (tOp rNe (tVar 11) (tVar 4))) (te := tVar 11) rfl nd rfl rfl (sw_true rfl rfl rfl (by decide +kernel)) (pi_list (pe_op op_cat (pv 2) (pe_lst (pa_cons pe_str pa_nil)))) (blkOk_by (N := StoN) (sc := defScope sSto) (by decide +kernel))
      (fun _ _ _ _ _ => pg_name (i := 11) nd rfl (Or.inl rfl)) (fun _ _ _ _ _ => pts_one (pt_cmpR op_ne (pv 11) (pv 4) (nomark _))) (fun _ _ _ _ _ => pv 11))
    (pss_one (ps_for PassesOwn.never rfl (pi_list (pe_ix ix_list (pe_lst (pa_cons (pe_lst (pa_cons pe_int pa_nil)) (pa_cons (pe_lst (pa_cons pe_int pa_nil)) (pa_cons (pe_lst (pa_cons pe_int (pa_cons pe_int pa_nil))) (pa_cons (pe_lst (pa_cons pe_int (pa_cons pe_int pa_nil))) pa_nil))))) (pe_def dT r1 rfl (pa_cons (pv 0) (pa_cons pe_int pa_nil))) (fun _ _ => rfl))) (pg_name (i := 6) nd rfl (Or.inl rfl)) hB)), ?_⟩
  intro D' H r a l ln ns nm ls x1 x5 x6 x7 x8 x9 x10 x11 x12 hR hL nlr al hn nnr nnl few fewl hnm hpn k
  -- the others
  refine ⟨_, rfl, one_leU, fun pw nw => ?_⟩
  have q0 := Same.upd_new (o := .lst [.str "web"]) nw
  have gw : (upd H pw (.lst [.str "web"])) pw = some (.lst [.str "web"]) := upd_same
  have hn0 := q0 _ _ hn
  generalize upd H pw (.lst [.str "web"]) = Ha at q0 gw hn0 ⊢
  refine ⟨ln, pw, _, _, rfl, rfl, hn0, gw, by rw [List.length_map, sizeLine_eq]; show _ + 1 ≤ _; omega, fun pc nc => ?_⟩
  have ew : (ns.map V.str ++ [.str "web"]) = (owW ns).map V.str := by unfold owW; rw [List.map_append]; rfl
  rw [ew]
  have q1 := Same.upd_new (o := .lst ((owW ns).map V.str)) nc
  have gc : (upd Ha pc (.lst ((owW ns).map V.str))) pc = some (.lst ((owW ns).map V.str)) := upd_same
  have q01 := q0.trans q1
  generalize upd Ha pc (.lst ((owW ns).map V.str)) = Hb at q01 gc ⊢
  have owl : (owW ns).length ≤ 4 := by unfold owW; rw [List.length_append]; show ns.length + 1 ≤ 4; omega
  refine ⟨pc, rfl, ⟨_, SqL.of gc⟩, fun D hD => lc_it walk_strs (AccP Hb D (filV (fun o => !decide (o = nm)) V.str (owW ns))) (AccP.zero hD rfl) (fun _ _ _ p => SqL.of (p.1 _ _ gc)) ?_ ?_⟩
  · rintro i x H1 H2 hi p ⟨rfl, hx⟩
    obtain ⟨o, ho, rfl⟩ := getE hx
    refine ⟨rfl, _, rfl, _, rfl, rfl, _, rfl, ?_⟩
    rw [dec_str]
    cases c : !decide (o = nm) with
    | true =>
      refine iteT ⟨_, rfl, ?_⟩
      exact p.step hD (filV_yes ho c) (Nat.le_trans (filV_len ..) (by omega)) (Same.refl _)
    | false =>
      refine iteF ?_
      exact p.skip (filV_no ho c) (Same.refl _)
  intro H1 p
  have s1 := q01.trans p.1
  have hD1 : H1 D = some (.lst (((owW ns).filter fun o => !decide (o = nm)).map V.str)) := by
    have := p.2
    rw [this]
    unfold filV
    rw [List.take_length]
  have oslen : ((owW ns).filter fun o => !decide (o = nm)).length ≤ 40 := Nat.le_trans (List.length_filter_le ..) (by omega)
  have osub : ((owW ns).filter fun o => !decide (o = nm)).Sublist PN4 := List.filter_sublist.trans hpn
  have osno : nm ∉ (owW ns).filter fun o => !decide (o = nm) := fun z => by
    have := (List.mem_filter.mp z).2
    simp at this
  generalize ((owW ns).filter fun o => !decide (o = nm)) = os at hD1 oslen osub osno k
  have hD0 : H D = none := by
    cases z : H D with
    | none => rfl
    | some o => rw [q01 _ _ z] at hD; cases hD
  have R1 := hR.same' s1
  have nDr : D ≠ r := hR.ne hD0
  have nDl : D ≠ l := fun z => by rw [z, hL.at_] at hD0; cases hD0
  have d1 := hR.of s1
  have L1 := hL.dr hR nlr d1
  -- the versions
  refine ⟨one_leU, fun p1 n1 => ?_⟩
  have a1 := Same.upd_new (o := .lst [.int 1]) n1
  have g1 : (upd H1 p1 (.lst [.int 1])) p1 = some (.lst ([1].map V.int)) := upd_same
  have m1r := R1.ne n1
  have m1l : p1 ≠ l := fun z => by rw [z, L1.at_] at n1; cases n1
  generalize upd H1 p1 (.lst [.int 1]) = H2 at a1 g1 ⊢
  refine ⟨one_leU, fun p2 n2 => ?_⟩
  have a2 := Same.upd_new (o := .lst [.int 2]) n2
  have g2 : (upd H2 p2 (.lst [.int 2])) p2 = some (.lst ([2].map V.int)) := upd_same
  have m2r := (R1.same' a1).ne n2
  have m2l : p2 ≠ l := fun z => by rw [z, a1 _ _ L1.at_] at n2; cases n2
  have g1 := a2 _ _ g1
  have a12 := a1.trans a2
  generalize upd H2 p2 (.lst [.int 2]) = H3 at a12 g1 g2 ⊢
  refine ⟨two_le, fun p3 n3 => ?_⟩
  have a3 := Same.upd_new (o := .lst [.int 1, .int 2]) n3
  have g3 : (upd H3 p3 (.lst [.int 1, .int 2])) p3 = some (.lst ([1, 2].map V.int)) := upd_same
  have m3r := (R1.same' a12).ne n3
  have m3l : p3 ≠ l := fun z => by rw [z, a12 _ _ L1.at_] at n3; cases n3
  have g1 := a3 _ _ g1
  have g2 := a3 _ _ g2
  have a13 := a12.trans a3
  generalize upd H3 p3 (.lst [.int 1, .int 2]) = H4 at a13 g1 g2 g3 ⊢
  refine ⟨two_le, fun p4 n4 => ?_⟩
  have a4 := Same.upd_new (o := .lst [.int 1, .int 3]) n4
  have g4 : (upd H4 p4 (.lst [.int 1, .int 3])) p4 = some (.lst ([1, 3].map V.int)) := upd_same
  have m4r := (R1.same' a13).ne n4
  have m4l : p4 ≠ l := fun z => by rw [z, a13 _ _ L1.at_] at n4; cases n4
  have g1 := a4 _ _ g1
  have g2 := a4 _ _ g2
  have g3 := a4 _ _ g3
  have a14 := a13.trans a4
  generalize upd H4 p4 (.lst [.int 1, .int 3]) = H5 at a14 g1 g2 g3 g4 ⊢
  refine ⟨(by show 4 ≤ sizeLine; decide), fun pL nL => ?_⟩
  have a5 := Same.upd_new (o := .lst [.ref p1, .ref p2, .ref p3, .ref p4]) nL
  have gL : (upd H5 pL (.lst [.ref p1, .ref p2, .ref p3, .ref p4])) pL = some (.lst [.ref p1, .ref p2, .ref p3, .ref p4]) := upd_same
  have mLr := (R1.same' a14).ne nL
  have g1 := a5 _ _ g1
  have g2 := a5 _ _ g2
  have g3 := a5 _ _ g3
  have g4 := a5 _ _ g4
  have a15 := a14.trans a5
  have R5 := R1.same' a15
  have d5 := d1.same a15
  have hD5 := a15 _ _ hD1
  have L5 := L1.same a15
  generalize upd H5 pL (.lst [.ref p1, .ref p2, .ref p3, .ref p4]) = H6 at g1 g2 g3 g4 gL R5 d5 hD5 L5 ⊢
  refine ⟨_, rfl, r, _, a, rfl, R5, by decide, by decide, fun v o v0 v1 R6 => ?_⟩
  have d6 := Dr.draw R6
  have hD6 := d6.lst nDr hD5
  have L6 := L5.dr R5 nlr d6
  have gL6 := d6.lst mLr gL
  have d06 := d5.trans d6
  obtain ⟨q, vs, hat, hq, qr, ql, hvs, vb, vne, vl⟩ : ∃ (q : Addr) (vs : List Int), atI [V.ref p1, .ref p2, .ref p3, .ref p4] v = some (.ref q) ∧ (upd H6 r o) q = some (.lst (vs.map V.int)) ∧ q ≠ r ∧ q ≠ l ∧ vs.Pairwise (· < ·) ∧ (∀ v ∈ vs, 1 ≤ v ∧ v ≤ 3) ∧ vs ≠ [] ∧ vs.length ≤ 2 := by
    have : v = 0 ∨ v = 1 ∨ v = 2 ∨ v = 3 := by omega
    rcases this with rfl | rfl | rfl | rfl
    · exact ⟨p1, [1], atI_nat (j := 0) rfl, d6.lst m1r g1, m1r, m1l, by decide, by decide, by decide, by decide⟩
    · exact ⟨p2, [2], atI_nat (j := 1) rfl, d6.lst m2r g2, m2r, m2l, by decide, by decide, by decide, by decide⟩
    · exact ⟨p3, [1, 2], atI_nat (j := 2) rfl, d6.lst m3r g3, m3r, m3l, by decide, by decide, by decide, by decide⟩
    · exact ⟨p4, [1, 3], atI_nat (j := 3) rfl, d6.lst m4r g4, m4r, m4l, by decide, by decide, by decide, by decide⟩
  generalize upd H6 r o = H7 at R6 d06 hD6 L6 gL6 hq ⊢
  refine ⟨pL, _, v, _, rfl, rfl, SqL.of gL6, hat, ?_⟩
  refine ⟨q, rfl, ⟨_, SqL.of hq⟩, ?_⟩
  refine for_it (walk_list (xs := vs.map V.int)) (fun i σ H' => ∃ (es : Es) (y6 y7 y8 y9 y10 : Option V), GoodB nm os (vs.take i) es ∧ DrW r a l H7 H' ∧ FEd K H' C l (ls ++ es) ∧ σ = [some (.ref r), x1, some (.ref ln), some (.ref l), some (.str nm), some (.ref D), y6, y7, y8, y9, y10, x11, x12]) ?_ ?_ ?_ ?_
  · exact ⟨[], _, _, _, _, _, ⟨by simp, fun j e v a => by simp at a⟩, R6.dr.w, by rw [List.append_nil]; exact L6, rfl⟩
  · rintro i σ H' _ ⟨es, y6, y7, y8, y9, y10, g, dw, le, rfl⟩
    exact SqL.of (dw.sb _ _ qr ql hq)
  · rintro i x σ H8 H9 hi ⟨es, y6, y7, y8, y9, y10, g, dw, le, rfl⟩ ⟨rfl, hx⟩
    obtain ⟨u, hu, rfl⟩ := getE hx
    have R8 := dw.row R6 L6.at_ al
    have gl : es.length ≤ 4 := by
      rw [g.1, List.length_take]
      omega
    have ub := vb u (List.mem_of_getElem? hu)
    refine rdB _ _ r a l D os nm u (ls ++ es) _ _ _ _ _ _ _ _ R8 le nlr (dw.sb _ _ nDr nDl hD6) nDr nDl oslen (by rw [List.length_append]; omega) hnm ub.1 (by omega) osub osno (fun t e H10 z7 z8 z9 z10 ge dw8 le8 => ?_)
    exact ⟨es ++ [(t, e)], _, _, _, _, _, g.snoc hu ge, dw.trans dw8, by rw [← List.append_assoc]; exact le8, rfl⟩
  · rintro σ H8 ⟨es, y6, y7, y8, y9, y10, g, dw, le, rfl⟩
    rw [show (vs.map V.int).length = vs.length from List.length_map .., List.take_length] at g
    exact k vs es H8 _ _ _ _ _ _ g hvs vb vne vl (d06.w.trans dw) le
end
end Half

namespace Half
open PySem PySem.Spec PyProof.Rows L2
def PN3 : List Str := ["app", "db", "lib"]
structure GoodP (ns done : List Str) (ls : Es) : Prop where
  each : ∀ e ∈ ls, e.2.name ∈ done ∧ GoodE e.2.name e.2.ver ((owW ns).filter fun o => !decide (o = e.2.name)) e.2 ∧ 1 ≤ e.2.ver ∧ e.2.ver ≤ 3
  asc : ls.Pairwise fun x y => pLt x.2.key y.2.key = true
  all : ∀ n ∈ done, ∃ e ∈ ls, e.2.name = n
  few : ls.length ≤ 2 * done.length
theorem pn3_asc : PN3.Pairwise fun x y => txLt x y = true := by decide +kernel
theorem pn3_nd : PN3.Nodup := by decide +kernel
theorem pn4_nd : PN4.Nodup := by decide +kernel
theorem pn3_in {x : Str} (h : x ∈ PN3) : x ∈ PN4 := by
  unfold PN3 at h
  unfold PN4
  simp only [List.mem_cons, List.not_mem_nil, or_false] at h ⊢
  rcases h with rfl | rfl | rfl
  · exact .inl rfl
  · exact .inr (.inl rfl)
  · exact .inr (.inr (.inl rfl))
theorem GoodP.block {ns : List Str} {i : Nat} {ls es : Es} {nm : Str} {vs : List Int} (h : GoodP ns (ns.take i) ls) (hn : ns[i]? = some nm) (asc : ns.Pairwise fun x y => txLt x y = true) (g : GoodB nm ((owW ns).filter fun o => !decide (o = nm)) vs es) (hv : vs.Pairwise (· < ·)) (hb : ∀ v ∈ vs, 1 ≤ v ∧ v ≤ 3) (ne : vs ≠ []) (fv : vs.length ≤ 2) : GoodP ns (ns.take (i + 1)) (ls ++ es) := by
  have one : ∀ e ∈ es, ∃ (j : Nat) (v : Int), es[j]? = some e ∧ vs[j]? = some v ∧ GoodE nm v ((owW ns).filter fun o => !decide (o = nm)) e.2 := fun e he => by
    obtain ⟨j, hj, e1⟩ := List.getElem_of_mem he
    have hj2 : j < vs.length := by rw [← g.1]; exact hj
    have a1 : es[j]? = some e := by rw [List.getElem?_eq_getElem hj, e1]
    exact ⟨j, vs[j], a1, List.getElem?_eq_getElem hj2, g.2 j e vs[j] a1 (List.getElem?_eq_getElem hj2)⟩
  have tk := take_next hn
  have lt : ∀ x ∈ ns.take i, txLt x nm = true := fun x hx => by
    have p := asc
    rw [← List.take_append_drop i ns] at p
    have hi := (List.getElem?_eq_some_iff.mp hn).1
    refine (List.pairwise_append.mp p).2.2 x hx nm ?_
    rw [List.drop_eq_getElem_cons hi, (List.getElem?_eq_some_iff.mp hn).2]
    exact List.mem_cons_self
  refine ⟨fun e he => ?_, ?_, fun n hnn => ?_, ?_⟩
  · rcases List.mem_append.mp he with q | q
    · obtain ⟨a, b⟩ := h.each e q
      exact ⟨by rw [tk]; exact List.mem_append_left _ a, b⟩
    · obtain ⟨j, v, a1, a2, a3⟩ := one e q
      have en : e.2.name = nm := a3.name
      have ev : e.2.ver = v := a3.ver
      have bv := hb v (List.mem_of_getElem? a2)
      refine ⟨by rw [tk, en]; exact List.mem_append_right _ List.mem_cons_self, ?_, by rw [ev]; exact bv.1, by rw [ev]; exact bv.2⟩
      rw [en, ev]
      exact a3
  · refine List.pairwise_append.mpr ⟨h.asc, ?_, fun x hx y hy => ?_⟩
    · refine List.pairwise_iff_getElem.mpr fun j k hj hk hjk => ?_
      have hj2 : j < vs.length := by rw [← g.1]; exact hj
      have hk2 : k < vs.length := by rw [← g.1]; exact hk
      have a := g.2 j es[j] vs[j] (List.getElem?_eq_getElem hj) (List.getElem?_eq_getElem hj2)
      have b := g.2 k es[k] vs[k] (List.getElem?_eq_getElem hk) (List.getElem?_eq_getElem hk2)
      have c := List.pairwise_iff_getElem.mp hv j k hj2 hk2 hjk
      refine pLt_iff.mpr (.inr ⟨?_, ?_⟩)
      · show es[j].2.name = es[k].2.name
        rw [a.name, b.name]
      · show es[j].2.ver < es[k].2.ver
        rw [a.ver, b.ver]
        exact c
    · obtain ⟨j, v, _, _, a3⟩ := one y hy
      refine pLt_iff.mpr (.inl ?_)
      show txLt x.2.name y.2.name = true
      rw [a3.name]
      exact lt _ (h.each x hx).1
  · rw [tk] at hnn
    rcases List.mem_append.mp hnn with q | q
    · obtain ⟨e, he, en⟩ := h.all n q
      exact ⟨e, List.mem_append_left _ he, en⟩
    · rw [List.mem_singleton.mp q]
      have l0 : 0 < vs.length := List.length_pos_iff.mpr ne
      have l1 : 0 < es.length := by rw [g.1]; exact l0
      exact ⟨es[0], List.mem_append_right _ (List.getElem_mem l1), (g.2 0 es[0] vs[0] (List.getElem?_eq_getElem l1) (List.getElem?_eq_getElem l0)).name⟩
  · rw [List.length_append, g.1, tk, List.length_append]
    have := h.few
    show ls.length + vs.length ≤ 2 * ((ns.take i).length + 1)
    omega
structure Drawn (ns : List Str) (ls : Es) : Prop where
  pre : ∃ j, 1 ≤ j ∧ j ≤ 3 ∧ ns = PN3.take j
  good : GoodP ns ns ls
structure Right (ls : Es) : Prop where
  few : ls.length ≤ 6
  wr : wrongAt (keysOf ls.eds) = none
  txt : ∀ e ∈ ls, e.2.name ∈ PN3
  ver : ∀ e ∈ ls, 1 ≤ e.2.ver ∧ e.2.ver ≤ 3
  scr : ∀ e ∈ ls, e.2.scr.Sublist SCR
  nee : ∀ e ∈ ls, (e.2.nee.map (·.1)).Sublist PN4 ∧ e.2.name ∉ e.2.nee.map (·.1)
  neeV : ∀ e ∈ ls, ∀ q ∈ e.2.nee, 1 ≤ q.2 ∧ q.2 ≤ 3
  fir : ∀ e ∈ ls, (e.2.fir.map (·.1)).Sublist PN4
  aga : ∀ e ∈ ls, e.2.aga.Sublist PN4
  asc : ls.Pairwise fun x y => pLt x.2.key y.2.key = true
theorem ow_sub {j : Nat} (h1 : 1 ≤ j) (h3 : j ≤ 3) : (owW (PN3.take j)).Sublist PN4 := by
  have : j = 1 ∨ j = 2 ∨ j = 3 := by omega
  rcases this with rfl | rfl | rfl <;> decide +kernel
theorem Drawn.right {ns : List Str} {ls : Es} (h : Drawn ns ls) : Right ls := by
  obtain ⟨⟨j, j0, j1, en⟩, g⟩ := h
  have sub : ns.Sublist PN3 := by rw [en]; exact List.take_sublist _ _
  have osub : (owW ns).Sublist PN4 := by rw [en]; exact ow_sub j0 j1
  have nl : ns.length ≤ 3 := sub.length_le
  have txt : ∀ e ∈ ls, e.2.name ∈ PN3 := fun e he => sub.subset (g.each e he).1
  have few : ls.length ≤ 6 := by have := g.few; omega
  have fil : ∀ nm : Str, ((owW ns).filter fun o => !decide (o = nm)).Sublist PN4 ∧ nm ∉ (owW ns).filter fun o => !decide (o = nm) := fun nm => by
    refine ⟨List.filter_sublist.trans osub, fun z => ?_⟩
    have := (List.mem_filter.mp z).2
    simp at this
  refine ⟨few, ?_, txt, fun e he => (g.each e he).2.2, fun e he => (g.each e he).2.1.scr, fun e he => ⟨(g.each e he).2.1.nee.trans (fil _).1, fun z => (fil _).2 ((g.each e he).2.1.nee.subset z)⟩, fun e he => (g.each e he).2.1.neeV, fun e he => (g.each e he).2.1.fir.trans (fil _).1, fun e he => (g.each e he).2.1.aga.trans (fil _).1, g.asc⟩
  have kn : (keysOf ls.eds).Nodup := by
    rw [keys_eds, List.map_map]
    exact List.pairwise_map.mpr (g.asc.imp fun h => pLt_ne h)
  have kl : (keysOf ls.eds).length = ls.length := by rw [keys_eds, List.length_map, List.length_map]
  have km : ∀ k ∈ keysOf ls.eds, k.1 ∈ PN3 := fun k hk => by
    rw [keys_eds] at hk
    obtain ⟨x, hx, rfl⟩ := List.mem_map.mp hk
    obtain ⟨e, he, rfl⟩ := List.mem_map.mp hx
    exact txt e he
  unfold wrongAt
  have ne : (keysOf ls.eds).isEmpty = false := by
    have l0 : 0 < ns.length := by rw [en, List.length_take]; have : PN3.length = 3 := rfl; omega
    obtain ⟨e, he, _⟩ := g.all ns[0] (List.getElem_mem l0)
    have : 0 < ls.length := List.length_pos_of_mem he
    cases c : keysOf ls.eds with
    | nil => rw [c] at kl; simp at kl; omega
    | cons _ _ => rfl
  rw [ne, if_neg (by decide)]
  refine List.find?_eq_none.mpr fun i hi => ?_
  have hi := List.mem_range.mp hi
  have e := List.getElem?_eq_getElem hi
  have a1 := has_no (nodup_take kn e)
  have a2 : nd (((keysOf ls.eds).take (i + 1)).map (·.1)) ≤ 3 := by
    have := len_sub (dset_nodup (((keysOf ls.eds).take (i + 1)).map (·.1))) (m := PN3) fun z hz => by
      obtain ⟨k, hk, rfl⟩ := List.mem_map.mp ((mem_dset _ _).mp hz)
      exact km k (List.mem_of_mem_take hk)
    exact this
  unfold badB
  rw [e]
  dsimp only
  rw [a1, decide_eq_false (by omega), decide_eq_false (by omega)]
  decide
theorem cut3 {v : Int} (h0 : 0 ≤ v) (h1 : v < 3) : ∃ j, 1 ≤ j ∧ j ≤ 3 ∧ cutV (PN3.map V.str) none (some (1 + v)) = (PN3.take j).map V.str := by
  have : v = 0 ∨ v = 1 ∨ v = 2 := by omega
  rcases this with rfl | rfl | rfl
  · exact ⟨1, by decide, by decide, rfl⟩
  · exact ⟨2, by decide, by decide, rfl⟩
  · exact ⟨3, by decide, by decide, rfl⟩
def spSto (K : PySem.W.Frag) (C CT : Addr) : Sp := fun vs H Q _ => ∃ (r a : Addr) (most : Int), vs = [.ref r, .int most] ∧ Row K H r a ∧ 1 ≤ most ∧ most ≤ 3 ∧
  ∀ st (es : Es) (ns : List Str) H', H st = none → Dr r a H H' → StObj CT H' st es.eds → (∀ e ∈ es, EdX K H' C e.1 e.2) → Drawn ns es → Q (.ref st) H'
section
variable {P : Program} {w : World} {K : PySem.W.Frag} {mg : Str → Option Value} {base : Heap} {C CE CT CI f0 : Addr} {fd0 : FuncData} {aS z1 z2 z3 : Addr}
theorem ok_sto {f : Addr} {fd : FuncData} (F : Fun K "_law_store" "_law_store" sSto f fd) (gT : mg "tuple" = none) (dT : Def P w K mg base 1 "_law_taken" ["_law_row", "_law_many"] (spTaken K)) (Di : EdF P w K mg base C CE f0 fd0 aS z1 z2 z3) (M : MkSt P w K mg base C CT CI) : FnOk P w K mg base CX0 8 f fd ["_law_row", "_law_most"] (spSto K C CT) := by
  refine F.ok scSto (fun vs H Q E h => ?_) (fun cdv A outer s H vs Q E hr h => ?_)
  · obtain ⟨r, a, most, rfl, _⟩ := h
    rfl
  · obtain ⟨r, a, most, rfl, hR, m0, m1, k⟩ := h
    have nd := scSto.nd
    have r1 : Room 1 _ := hr.mono (by decide)
    have r5 : Room 5 _ := hr.mono (by decide)
    obtain ⟨f1, fd1, M1, F1, b1⟩ := M.ex
    obtain ⟨tB, hB, rdB⟩ := sto_name (P := P) (w := w) (K := K) (mg := mg) (base := base) (f := f) (cdv := cdv) (A := A) (outer := outer) (s := s) (H0 := H) (E := E) gT dT Di hr nd
    have main : ∃ t, PSs (cxOf CX0 P w K mg base StoN "_law_store" (defScope sSto) f cdv A outer s H E).nox (defBody sSto) t ∧ t { nx := fun _ H' => Q .non H', rt := Q } (L2.start StoN [.ref r, .int most]) H := by
      refine ⟨_, pss_cons (ps_par (i := 2) (j := 3) rfl nd rfl rfl (by decide) rfl rfl (pa_cons (pe_slice sl_list (pe_lst (pa_cons pe_str (pa_cons pe_str (pa_cons pe_str pa_nil)))) po_none (po_some (pe_op op_add pe_int (pe_def dT r1 rfl (pa_cons (pv 0) (pa_cons (pv 1) pa_nil)))))) (pa_cons (pe_lst pa_nil) pa_nil)) (by rfl))
        (pss_cons (ps_for PassesOwn.never rfl (pi_list (pv 2)) (pg_name (i := 4) nd rfl (Or.inr rfl)) hB)
        (pss_one (ps_ret (pe_make M1 F1 r5 rfl M.mgS b1 .nil passL (pa_cons (pe_callTy call_tuple_of (by rfl) gT (by decide +kernel) (pa_cons (pv 3) pa_nil)) pa_nil))))), ?_⟩
      refine ⟨(by show 3 ≤ sizeLine; decide), fun n0 nn0 => ?_⟩
      have s1 := Same.upd_new (o := .lst (PN3.map V.str)) nn0
      have R1 := hR.same' s1
      have g1 : (upd H n0 (.lst (PN3.map V.str))) n0 = some (.lst (PN3.map V.str)) := upd_same
      have nr0 := hR.ne nn0
      have d1 := hR.of s1
      have e1 : upd H n0 (.lst [.str "app", .str "db", .str "lib"]) = upd H n0 (.lst (PN3.map V.str)) := rfl
      rw [e1]
      generalize upd H n0 (.lst (PN3.map V.str)) = H1 at R1 g1 d1 ⊢
      refine ⟨_, rfl, _, rfl, r, _, a, rfl, R1, by omega, by omega, fun v o v0 v1 R2 => ⟨_, _, rfl, rfl, _, rfl, n0, _, rfl, SqL.of (by rw [upd_ne nr0]; exact g1), fun ln nln => ?_⟩⟩
      obtain ⟨j, j0, j1, ec⟩ := cut3 v0 (by omega : v < 3)
      have d2 := Dr.draw R2
      rw [ec]
      generalize hns : PN3.take j = ns at *
      have s3 := Same.upd_new (o := .lst (ns.map V.str)) nln
      have R3 := R2.same' s3
      have d3 := d1.trans (d2.same s3)
      have g3 : (upd (upd H1 r o) ln (.lst (ns.map V.str))) ln = some (.lst (ns.map V.str)) := upd_same
      have nnr := R2.ne nln
      generalize upd (upd H1 r o) ln (.lst (ns.map V.str)) = H3 at R3 d3 g3 ⊢
      refine ⟨Nat.zero_le _, fun l nl => ?_⟩
      have s4 := Same.upd_new (o := .lst []) nl
      have R4 := R3.same' s4
      have d4 := d3.same s4
      have nlr := R3.ne nl
      have nnl : ln ≠ l := ne_of_none g3 nl
      have al : Al K a l := by
        obtain ⟨ms, _, _, _, _, q, q2, _⟩ := R3
        rcases q with (q | ⟨_, q⟩) | q
        · exact .inl (ne_of_none q nl)
        · exact .inl (ne_of_none q nl)
        · exact .inr ⟨ms, q2, fun H' => .inr q⟩
      have hl0 : H l = none := d3.none hR nl
      have L4 : FEd K (upd H3 l (.lst [])) C l [] := ⟨upd_same, fun e he => by cases he⟩
      have g4 := s4 _ _ g3
      generalize upd H3 l (.lst []) = H4 at R4 d4 L4 g4 ⊢
      have asc : ns.Pairwise fun x y => txLt x y = true := by rw [← hns]; exact pn3_asc.sublist (List.take_sublist _ _)
      have nl3 : ns.length ≤ 3 := by rw [← hns, List.length_take]; have : PN3.length = 3 := rfl; omega
      have osub : (owW ns).Sublist PN4 := by rw [← hns]; exact ow_sub j0 j1
      have nsub : ∀ n ∈ ns, n ∈ PN4 := fun n h => by rw [← hns] at h; exact pn3_in (List.mem_of_mem_take h)
      refine ⟨_, _, rfl, ?_⟩
      refine ⟨_, rfl, ln, rfl, ⟨_, SqL.of g4⟩, ?_⟩
      refine for_it (walk_list (xs := ns.map V.str)) (fun i σ H' => ∃ (ls : Es) (y4 y5 y6 y7 y8 y9 y10 : Option V), GoodP ns (ns.take i) ls ∧ DrW r a l H4 H' ∧ FEd K H' C l ls ∧ σ = [some (.ref r), some (.int most), some (.ref ln), some (.ref l), y4, y5, y6, y7, y8, y9, y10, none, none]) ?_ ?_ ?_ ?_
      · exact ⟨[], _, _, _, _, _, _, _, ⟨fun e he => (by cases he), .nil, fun n hn => by simp at hn, Nat.zero_le _⟩, R4.dr.w, L4, rfl⟩
      · rintro i σ H' _ ⟨ls, y4, y5, y6, y7, y8, y9, y10, g, dw, le, rfl⟩
        exact SqL.of (dw.sb _ _ nnr nnl g4)
      · rintro i x σ H6 H7 hi ⟨ls, y4, y5, y6, y7, y8, y9, y10, g, dw, le, rfl⟩ ⟨rfl, hx⟩
        obtain ⟨nm, hnm, rfl⟩ := getE hx
        have R6 := dw.row R4 L4.at_ al
        have fl : ls.length ≤ 12 := by
          have := g.few
          rw [List.length_take] at this
          omega
        refine rdB _ _ r a l ln ns nm ls _ _ _ _ _ _ _ _ _ R6 le nlr al (dw.sb _ _ nnr nnl g4) nnr nnl nl3 (by omega) (nsub nm (List.mem_of_getElem? hnm)) osub (fun vs es H8 z5 z6 z7 z8 z9 z10 gb va vb vn vl dw8 le8 => ?_)
        exact ⟨ls ++ es, _, _, _, _, _, _, _, g.block hnm asc gb va vb vn vl, dw.trans dw8, le8, rfl⟩
      · rintro σ H6 ⟨ls, y4, y5, y6, y7, y8, y9, y10, g, dw, le, rfl⟩
        rw [show (ns.map V.str).length = ns.length from List.length_map .., List.take_length] at g
        have dr : Drawn ns ls := ⟨⟨j, j0, j1, hns.symm⟩, g⟩
        have rt := dr.right
        refine ⟨_, rfl, l, _, rfl, .inl ⟨SqL.of le.at_, fun t nt => ?_⟩⟩
        have s7 := Same.upd_new (o := .tup (ls.map fun e => V.ref e.1)) nt
        have a7 : EdsAt K C (upd H6 t (.tup (ls.map fun e => V.ref e.1))) t ls.eds := by
          refine ⟨.inl (.inl ?_), fun y hy => ?_⟩
          · rw [upd_same]
            unfold Es.eds
            rw [List.map_map]
            rfl
          · obtain ⟨z, hz, rfl⟩ := List.mem_map.mp hy
            exact ((le.ed z hz).same s7).key
        refine fun st dx nst ndx nxx => ?_
        refine store_read (es := ls.eds) nst ndx a7 (by unfold Es.eds; rw [List.length_map]; have := rt.few; omega) rt.wr fun H8 s8 hS => ?_
        have dH : Dr r a H H6 := by
          refine ⟨fun b o' nb q => ?_, dw.at_⟩
          have q4 := d4.sb b o' nb q
          exact dw.sb b o' nb (fun z => by rw [z, hl0] at q; cases q) q4
        have d8 := dH.same (s7.trans s8)
        exact k st ls ns H8 ((dH.same s7).none hR nst) d8 hS (fun y hy => ((le.ed y hy).same s7).same s8) dr
    exact main
end
end Half

namespace Half
open PySem PySem.Spec PyProof.Rows L2
/-! ### files of an edition -/
abbrev sFi : Stmt := top 35
abbrev sFs : Stmt := top 36
def isFile (p : Str × V) : Bool := isWord p.1 && inR p.2 1 99
def areFiles (fs : List (Str × V)) : Bool := !decide (fs.length > 6) && ((fs.all isFile) && ascS (fs.map (·.1)))
/-- a tuple of pairs: a text, a number or a truth value -/
def FilesAt (K : PySem.W.Frag) (H : Hp) (a : Addr) (fs : List (Str × V)) : Prop := ∃ ts : List Addr, SqT K H a (ts.map V.ref) ∧ ts.length = fs.length ∧ ∀ (i : Nat) t p, ts[i]? = some t → fs[i]? = some p → SqT K H t [.str p.1, p.2]
theorem FilesAt.kp {K : PySem.W.Frag} {H H' : Hp} {a : Addr} {fs : List (Str × V)} (k : Kp K H H') (h : FilesAt K H a fs) : FilesAt K H' a fs := by
  obtain ⟨ts, h1, h2, h3⟩ := h
  exact ⟨ts, k _ _ h1, h2, fun i t p a b => k _ _ (h3 i t p a b)⟩
def Numv (v : V) : Prop := (∃ n, v = .int n) ∨ ∃ b, v = .bl b
def spFi (K : PySem.W.Frag) : Sp := fun vs H Q _ => ∃ (t : Addr) (p : Str × V), vs = [.ref t] ∧ SqT K H t [.str p.1, p.2] ∧ p.1.length ≤ 1000 ∧ Numv p.2 ∧ ∀ H', Same H H' → Q (.bl (isFile p)) H'
def spFs (K : PySem.W.Frag) : Sp := fun vs H Q _ => ∃ (a : Addr) (fs : List (Str × V)), vs = [.ref a] ∧ FilesAt K H a fs ∧ fs.length ≤ 100 ∧ (∀ p ∈ fs, p.1.length ≤ 1000 ∧ Numv p.2) ∧ ∀ H', Same H H' → Q (.bl (areFiles fs)) H'
def spAscL (K : PySem.W.Frag) : Sp := fun vs H Q _ => ∃ (a : Addr) (ss : List Str), vs = [.ref a] ∧ SqL K H a (ss.map V.str) ∧ ss.length ≤ 100 ∧ ∀ H', Same H H' → Q (.bl (ascS ss)) H'
section
variable {P : Program} {w : World} {K : PySem.W.Frag} {mg : Str → Option Value} {base : Heap}
/-- ascends, of a list -/
theorem ok_ascL {f : Addr} {fd : FuncData} (F : Fun K "ascends" "ascends" sAscends f fd) (T : TxtE K mg) : FnOk P w K mg base CX0 1 f fd ["values"] (spAscL K) := by
  refine F.ok scAsc (fun vs H Q E h => ?_) (fun cdv A outer s H vs Q E hr h => ?_)
  · obtain ⟨a, ss, rfl, _⟩ := h
    rfl
  · obtain ⟨a, ss, rfl, hS, hl, k⟩ := h
    have nd := scAsc.nd
    refine ⟨_, pss_one (ps_ret (pe_callB (cr_all rfl) (by rfl) T.all (by decide +kernel) (pa_cons
        (pe_lc (own := [("at", 1)]) (g := gName 1) (tt := tYes) rfl nd (pi_range2 (by rfl) T.ran (pa_cons pe_int (pa_cons (pe_callB call_len_seq (by rfl) T.d.len PySem.boot_len (pa_cons (pv 0) pa_nil)) pa_nil))) (blkOk_by (N := ["values", "at"]) (sc := defScope sAscends) (by decide +kernel))
          (fun _ _ _ _ _ => pg_name (i := 1) nd rfl (Or.inl rfl)) (fun _ _ _ _ _ => pts_nil)
          (fun _ _ _ _ _ => pe_cmpR op_lt_str (pe_ix (ix_list : IxR _ (rIxL K)) (pv 0) (pe_op op_sub (pv 1) pe_int) (fun _ _ => rfl)) (pe_ix (ix_list : IxR _ (rIxL K)) (pv 0) (pv 1) (fun _ _ => rfl)) (nomark _))) pa_nil))), ?_⟩
    have hlm : (ss.map V.str).length = ss.length := List.length_map ..
    have hn : (((ss.map V.str).length : Int) - 1).toNat = ss.length - 1 := by omega
    refine ⟨_, rfl, a, _, rfl, .inl hS, 1, _, rfl, ⟨by decide, by decide, by omega, by omega⟩, ?_⟩
    rw [hn]
    refine fun D hD => lc_it walk_range (MapP H D ((List.range (ss.length - 1)).map fun i => V.bl (strLt (ss.getD i "") (ss.getD (i + 1) "")))) (MapP.zero hD) (fun _ _ _ _ => trivial) ?_ ?_
    · rintro i x H1 H2 hi p ⟨rfl, rfl⟩
      have at_ : ∀ j : Nat, j < ss.length → atI (ss.map V.str) ((j : Nat) : Int) = some (V.str (ss.getD j "")) := fun j hj => atI_nat (by
        rw [List.getElem?_map, List.getD_eq_getElem?_getD, List.getElem?_eq_getElem hj]
        rfl)
      have e1 : atI (ss.map V.str) ((1 + (i : Int)) - 1) = some (V.str (ss.getD i "")) := by
        rw [show (1 + (i : Int)) - 1 = ((i : Nat) : Int) by omega]
        exact at_ i (by omega)
      have e2 : atI (ss.map V.str) (1 + (i : Int)) = some (V.str (ss.getD (i + 1) "")) := by
        rw [show (1 + (i : Int)) = ((i + 1 : Nat) : Int) by omega]
        exact at_ (i + 1) (by omega)
      have hS1 := p.1.seq hS
      refine ⟨rfl, _, rfl, _, rfl, _, _, rfl, rfl, a, _, _, _, rfl, rfl, hS1, e1, _, rfl, _, rfl, a, _, _, _, rfl, rfl, hS1, e2, _, _, rfl, rfl, ?_⟩
      refine p.step hD ?_ (by rw [List.length_map, List.length_range]; omega) (Same.refl _)
      rw [List.getElem?_map, List.getElem?_range hi]
      rfl
    · intro H2 p
      obtain ⟨s2, hl2⟩ := p.done (by rw [List.length_map, List.length_range])
      refine ⟨D, (List.range (ss.length - 1)).map fun i => strLt (ss.getD i "") (ss.getD (i + 1) ""), rfl, SqL.of (by rw [hl2, List.map_map]; rfl), ?_⟩
      have e : ascS ss = ((List.range (ss.length - 1)).map fun i => strLt (ss.getD i "") (ss.getD (i + 1) "")).all id := by
        rw [List.all_map]
        rfl
      rw [← e]
      exact k H2 s2
theorem scFi : FnScope ["value"] ["value"] (defScope sFi) := ⟨rfl, rfl, rfl, by decide +kernel, rfl, by decide +kernel, by decide +kernel⟩
theorem ok_fi {f : Addr} {fd : FuncData} (F : Fun K "is_file" "is_file" sFi f fd) (T : TxtE K mg) (mc : ∃ t, mg "MOST_CONTENT" = some (.int 99 t)) (dW : Def P w K mg base 1 "is_word" ["text"] spWord) (dN : Def P w K mg base 1 "is_number" ["value", "least", "most"] spNumber) : FnOk P w K mg base CX0 2 f fd ["value"] (spFi K) := by
  refine F.ok scFi (fun vs H Q E h => ?_) (fun cdv A outer s H vs Q E hr h => ?_)
  · obtain ⟨t, p, rfl, _⟩ := h
    rfl
  · obtain ⟨t, p, rfl, hS, hw, hv, k⟩ := h
    obtain ⟨t2, g2⟩ := mc
    refine ⟨_, pss_cons (ps_if (PW.pt (pw_or (pt_not (pt_val (pe_callB call_isi (by rfl) T.isi (by decide +kernel) (pa_cons (pv 0) (pa_cons (pe_bltn (v := .ty "tuple") (by rfl) T.tup (by decide +kernel) rfl) pa_nil)))))
        (pw_or1 (pt_cmpR op_ne (pe_callB call_len_seq (by rfl) T.d.len PySem.boot_len (pa_cons (pv 0) pa_nil)) pe_int (nomark _))))) (pss_one (ps_ret pe_bl)) pss_nil)
      (pss_one (ps_ret (pe_and (pe_def dW hr rfl (pa_cons (pe_ix ix_tup (pv 0) pe_int (fun _ _ => rfl)) pa_nil)) (pe_one (pe_def dN hr rfl (pa_cons (pe_ix ix_tup (pv 0) pe_int (fun _ _ => rfl)) (pa_cons pe_int (pa_cons (pe_glob (v := .int 99) rfl g2 ⟨_, rfl⟩) pa_nil)))))))), ?_⟩
    refine ⟨_, rfl, _, _, _, _, _, rfl, .ty _, tyT hS, kit_ty (r := true) (by decide +kernel), _, rfl, ?_⟩
    refine iteF ?_
    refine ⟨_, rfl, t, _, rfl, .inr hS, rfl, false, rfl, iteF ?_⟩
    refine ⟨_, rfl, t, _, 0, _, rfl, rfl, hS, rfl, p.1, rfl, hw, fun H1 s1 => ?_⟩
    refine ⟨_, rfl, ?_⟩
    cases c : isWord p.1 with
    | false =>
      refine iteF ?_
      have e : isFile p = false := by unfold isFile; rw [c, Bool.false_and]
      have q := k H1 s1
      rw [e] at q
      exact q
    | true =>
      refine iteT ?_
      have e : isFile p = inR p.2 1 99 := by unfold isFile; rw [c, Bool.true_and]
      have q := k H1 s1
      rw [e] at q
      exact ⟨_, rfl, t, _, 1, _, rfl, rfl, s1.sqT hS, rfl, p.2, 1, 99, rfl, hv, q⟩
end
end Half

namespace Half
open PySem PySem.Spec PyProof.Rows L2
section
variable {P : Program} {w : World} {K : PySem.W.Frag} {mg : Str → Option Value} {base : Heap}
theorem scFs : FnScope ["values", "value"] ["values"] (defScope sFs) := ⟨rfl, rfl, rfl, by decide +kernel, rfl, by decide +kernel, by decide +kernel⟩
theorem ok_fs {f : Addr} {fd : FuncData} (F : Fun K "are_files" "are_files" sFs f fd) (T : TxtE K mg) (mf : ∃ t, mg "MOST_FILES" = some (.int 6 t)) (dF : Def P w K mg base 2 "is_file" ["value"] (spFi K)) (dA : Def P w K mg base 1 "ascends" ["values"] (spAscL K)) : FnOk P w K mg base CX0 3 f fd ["values"] (spFs K) := by
  refine F.ok scFs (fun vs H Q E h => ?_) (fun cdv A outer s H vs Q E hr h => ?_)
  · obtain ⟨a, fs, rfl, _⟩ := h
    rfl
  · obtain ⟨a, fs, rfl, hN, hl, hw, k⟩ := h
    have nd := scFs.nd
    obtain ⟨t2, g2⟩ := mf
    obtain ⟨ts, hS, htl, hts⟩ := id hN
    refine ⟨_, pss_cons (ps_if (PW.pt (pw_or (pt_not (pt_val (pe_callB call_isi (by rfl) T.isi (by decide +kernel) (pa_cons (pv 0) (pa_cons (pe_bltn (v := .ty "tuple") (by rfl) T.tup (by decide +kernel) rfl) pa_nil)))))
        (pw_or1 (pt_cmpR op_gt (pe_callB call_len_seq (by rfl) T.d.len PySem.boot_len (pa_cons (pv 0) pa_nil)) (pe_glob (v := .int 6) rfl g2 ⟨_, rfl⟩) (nomark _))))) (pss_one (ps_ret pe_bl)) pss_nil)
      (pss_one (ps_ret (pe_and (pe_callB (cr_all rfl) (by rfl) T.all (by decide +kernel) (pa_cons
          (pe_lc (own := [("value", 1)]) (g := gName 1) (tt := tYes) rfl nd (pi_tup (pv 0)) (blkOk_by (N := ["values", "value"]) (sc := defScope sFs) (by decide +kernel))
            (fun _ _ _ _ _ => pg_name (i := 1) nd rfl (Or.inl rfl)) (fun _ _ _ _ _ => pts_nil)
            (fun _ _ _ _ _ => pe_def dF hr rfl (pa_cons (pv 1) pa_nil))) pa_nil))
        (pe_one (pe_def dA (hr.mono (by decide)) rfl (pa_cons
          (pe_lc (own := [("value", 1)]) (g := gName 1) (tt := tYes) rfl nd (pi_tup (pv 0)) (blkOk_by (N := ["values", "value"]) (sc := defScope sFs) (by decide +kernel))
            (fun _ _ _ _ _ => pg_name (i := 1) nd rfl (Or.inl rfl)) (fun _ _ _ _ _ => pts_nil)
            (fun _ _ _ _ _ => pe_ix (ix_tup : IxR _ (rIxT K)) (pv 1) pe_int (fun _ _ => rfl))) pa_nil)))))), ?_⟩
    refine ⟨_, rfl, _, _, _, _, _, rfl, .ty _, tyT hS, kit_ty (r := true) (by decide +kernel), _, rfl, ?_⟩
    refine iteF ?_
    refine ⟨_, rfl, a, _, rfl, .inr hS, _, _, rfl, rfl, _, rfl, ?_⟩
    rw [List.length_map, htl]
    by_cases big : fs.length > 6
    · rw [decide_eq_true (show (6 : Int) < (fs.length : Int) by omega)]
      refine iteT ?_
      have e : areFiles fs = false := by unfold areFiles; rw [decide_eq_true big]; rfl
      have q := k H (Same.refl H)
      rw [e] at q
      exact q
    rw [decide_eq_false (show ¬ (6 : Int) < (fs.length : Int) by omega)]
    refine iteF ?_
    refine ⟨_, rfl, a, rfl, ⟨_, hS⟩, fun D hD => lc_it (walk_tup (xs := ts.map V.ref)) (MapP H D (fs.map fun p => V.bl (isFile p))) (MapP.zero hD) (fun _ _ _ p => p.1.sqT hS) ?_ ?_⟩
    · rintro i x H1 H2 hi p ⟨rfl, hx⟩
      obtain ⟨t, ht, rfl⟩ := getE hx
      have hip : i < fs.length := by rw [List.length_map] at hi; omega
      have hin := hw fs[i] (List.getElem_mem hip)
      refine ⟨rfl, _, rfl, t, fs[i], rfl, p.1.sqT (hts i t _ ht (List.getElem?_eq_getElem hip)), hin.1, hin.2, fun H3 s3 => ?_⟩
      refine p.step hD ?_ (by rw [List.length_map]; omega) s3
      rw [List.getElem?_map, List.getElem?_eq_getElem hip]
      rfl
    · intro H2 p
      obtain ⟨s2, hl2⟩ := p.done (by rw [List.length_map, List.length_map, htl])
      refine ⟨D, fs.map isFile, rfl, SqL.of (by rw [hl2, List.map_map]; rfl), _, rfl, ?_⟩
      have ea : (fs.map isFile).all id = fs.all isFile := by rw [List.all_map]; rfl
      rw [ea]
      have e0 : areFiles fs = ((fs.all isFile) && ascS (fs.map (·.1))) := by unfold areFiles; rw [decide_eq_false big]; rfl
      cases c : fs.all isFile with
      | false =>
        refine iteF ?_
        rw [c, Bool.false_and] at e0
        have q := k H2 s2
        rw [e0] at q
        exact q
      | true =>
        refine iteT ?_
        rw [c, Bool.true_and] at e0
        refine ⟨_, rfl, a, rfl, ⟨_, s2.sqT hS⟩, fun D2 hD2 => lc_it (walk_tup (xs := ts.map V.ref)) (MapP H2 D2 (fs.map fun p => V.str p.1)) (MapP.zero hD2) (fun _ _ _ p => (s2.trans p.1).sqT hS) ?_ ?_⟩
        · rintro i x H3 H4 hi p2 ⟨rfl, hx⟩
          obtain ⟨t, ht, rfl⟩ := getE hx
          have hip : i < fs.length := by rw [List.length_map] at hi; omega
          refine ⟨rfl, _, rfl, t, _, _, _, rfl, rfl, (s2.trans p2.1).sqT (hts i t _ ht (List.getElem?_eq_getElem hip)), rfl, ?_⟩
          refine p2.step hD2 ?_ (by rw [List.length_map]; omega) (Same.refl _)
          rw [List.getElem?_map, List.getElem?_eq_getElem hip]
          rfl
        · intro H3 p2
          obtain ⟨s3, hl3⟩ := p2.done (by rw [List.length_map, List.length_map, htl])
          refine ⟨D2, fs.map (·.1), rfl, SqL.of (by rw [hl3, List.map_map]; rfl), by rw [List.length_map]; exact hl, fun H5 s5 => ?_⟩
          rw [← e0]
          exact k H5 (s2.trans (s3.trans s5))
end
end Half

namespace Half
open PySem PySem.Spec PyProof.Rows L2
/-! ### the names of a store; what an edition takes over -/
structure NamF (P : Program) (w : World) (K : PySem.W.Frag) (mg : Str → Option Value) (base : Heap) (CT : Addr) : Prop where
  cl : Cls K CT
  ex : ∃ p g fd, PropOf K CT "names" p g ∧ FnOk P w K mg base CX0 1 g fd ["self"] (spNames CT) ∧ Binds K fd ["self"] []
def tNam (CT : Addr) (te : TE) : TE := tProp CT (spNames CT) [] E0 te
theorem pe_nam {X : Cx} {CT : Addr} {e : Expr} {te : TE} {pos : Pos} (D : NamF X.prog X.w X.K X.mg X.base CT) (hr : Room 2 X.A) (he : PE X e te) (hab : attributeBase e "names" X.env (eval e X.env) = eval e X.env := by rfl) : PE X (.Attribute e "names" pos) (tNam CT te) := by
  obtain ⟨p, g, fd, h1, h2, h3⟩ := D.ex
  exact pe_prop he D.cl h1 h2 hr h3 .nil pass0 hab
theorem has_congr {α : Type} [DecidableEq α] {l m : List α} (h : ∀ x, x ∈ l ↔ x ∈ m) (x : α) : has l x = has m x := by
  cases c : has m x
  · exact has_no fun z => not_has c ((h x).mp z)
  · exact has_iff.mpr ((h x).mpr (has_iff.mp c))
theorem nam_mem {ks ys : List Kk} (hp : ys.Perm ks) (x : Str) : x ∈ dset (ys.map (·.1)) ↔ x ∈ ks.map (·.1) := by
  rw [mem_dset]
  exact (hp.map _).mem_iff
abbrev sTk : Stmt := top 37
def areTakes (ks : List Kk) (ss : List Str) (nm : Str) : Bool := areOthers ss nm && ss.all fun z => has (ks.map (·.1)) z
def spTk (K : PySem.W.Frag) (CT : Addr) : Sp := fun vs H Q _ => ∃ (a st : Addr) (es : Eds) (ss : List Str) (nm : Str), vs = [.ref a, .ref st, .str nm] ∧ StObj CT H st es ∧ SqT K H a (ss.map V.str) ∧ ss.length ≤ 100 ∧ (∀ z ∈ ss, z.length ≤ 1000) ∧ ∀ H', Same H H' → Q (.bl (areTakes (keysOf es) ss nm)) H'
section
variable {P : Program} {w : World} {K : PySem.W.Frag} {mg : Str → Option Value} {base : Heap} {CT : Addr}
theorem scTk : FnScope ["values", "store", "name", "value"] ["values", "store", "name"] (defScope sTk) := ⟨rfl, rfl, rfl, by decide +kernel, rfl, by decide +kernel, by decide +kernel⟩
theorem ok_tk {f : Addr} {fd : FuncData} (F : Fun K "are_takes" "are_takes" sTk f fd) (T : TxtE K mg) (N : NamF P w K mg base CT) (dO : Def P w K mg base 2 "are_other_names" ["values", "name"] (spOthers K)) : FnOk P w K mg base CX0 3 f fd ["values", "store", "name"] (spTk K CT) := by
  refine F.ok scTk (fun vs H Q E h => ?_) (fun cdv A outer s H vs Q E hr h => ?_)
  · obtain ⟨a, st, es, ss, nm, rfl, _⟩ := h
    rfl
  · obtain ⟨a, st, es, ss, nm, rfl, hO, hS, hl, hw, k⟩ := h
    have nd := scTk.nd
    refine ⟨_, pss_one (ps_ret (pe_and (pe_def dO hr rfl (pa_cons (pv 0) (pa_cons (pv 2) pa_nil)))
      (pe_one (pe_callB (cr_all rfl) (by rfl) T.all (by decide +kernel) (pa_cons
          (pe_lc (own := [("value", 3)]) (g := gName 3) (tt := tYes) (te := tOp (rIn K false) (tVar 3) (tNam CT (tVar 1))) rfl nd (pi_tup (pv 0)) (blkOk_by (N := ["values", "store", "name", "value"]) (sc := defScope sTk) (by decide +kernel))
            (fun _ _ _ _ _ => pg_name (i := 3) nd rfl (Or.inl rfl)) (fun _ _ _ _ _ => pts_nil)
            (fun _ _ _ _ _ => pe_cmpR (op_in_seq : OpR _ _ (rIn K false)) (pv 3) (pe_nam N hr (pv 1)) (by rfl))) pa_nil))))), ?_⟩
    refine ⟨_, rfl, _, rfl, a, ss, nm, rfl, hS, hl, hw, fun H1 s1 => ⟨_, rfl, ?_⟩⟩
    cases c : areOthers ss nm with
    | false =>
      refine iteF ?_
      have e : areTakes (keysOf es) ss nm = false := by unfold areTakes; rw [c, Bool.false_and]
      have q := k H1 s1
      rw [e] at q
      exact q
    | true =>
      refine iteT ?_
      have e : areTakes (keysOf es) ss nm = ss.all fun z => has ((keysOf es).map (·.1)) z := by unfold areTakes; rw [c, Bool.true_and]
      have hS1 := s1.sqT hS
      have hO1 := hO.same s1
      refine ⟨_, rfl, a, rfl, ⟨_, hS1⟩, fun D hD => lc_it (walk_tup (xs := ss.map V.str)) (MapP H1 D (ss.map fun z => V.bl (has ((keysOf es).map (·.1)) z))) (MapP.zero hD) (fun _ _ _ p => p.1.sqT hS1) ?_ ?_⟩
      · rintro i x H2 H3 hi p ⟨rfl, hx⟩
        obtain ⟨z, hz, rfl⟩ := getE hx
        have hi' : i < ss.length := by rw [List.length_map] at hi; exact hi
        have hO2 := hO1.same p.1
        obtain ⟨dx, fs, hi2⟩ : ∃ dx fs, H3 st = some (.ins CT dx fs) := by
          obtain ⟨dx, tb, nb, h, _⟩ := hO2.ob
          exact ⟨_, _, h⟩
        refine ⟨rfl, _, rfl, _, rfl, st, dx, fs, rfl, hi2, st, es, rfl, hO2, fun ys q0 hp _ nq => ?_⟩
        have s4 := Same.upd_new (o := .tup ((dset (ys.map (·.1))).map V.str)) nq
        refine ⟨q0, _, rfl, .inr (SqT.of upd_same), rfl, flat_strs _, ?_⟩
        rw [if_neg (by decide), inV_str, has_congr (fun x => nam_mem hp x)]
        refine p.step hD ?_ (by rw [List.length_map]; omega) s4
        rw [List.getElem?_map, hz]
        rfl
      · intro H2 p
        obtain ⟨s2, hl2⟩ := p.done (by rw [List.length_map, List.length_map])
        refine ⟨D, ss.map fun z => has ((keysOf es).map (·.1)) z, rfl, SqL.of (by rw [hl2]; exact congrArg (fun l => some (HO.lst l)) (List.map_map (f := fun z => has ((keysOf es).map (fun x : Kk => x.1)) z) (g := V.bl) (l := ss)).symm), ?_⟩
        have ea : (ss.map fun z => has ((keysOf es).map (·.1)) z).all id = ss.all fun z => has ((keysOf es).map (·.1)) z := by rw [List.all_map]; rfl
        rw [ea, ← e]
        exact k H2 (s1.trans s2)
end
end Half

/-! {t} in a text, t a pair of a text and a number -/
namespace L2
open PySem PySem.Spec PyProof.Rows
section
variable {X : Cx}
def tFmtP (K : PySem.W.Frag) (te : TE) : TE := fun σ H Q => te σ H fun x H1 => ∃ (a : Addr) (z : Str) (n : Int), x = .ref a ∧ SqT K H1 a [.str z, .int n] ∧ (reprText z).length ≤ 1000 ∧ n.natAbs.log2 < 1920 ∧ ((toString n : String) : Str).length ≤ 1000 ∧ ∀ m : Str, m.length ≤ 2100 → Q (.str m) H1
theorem pe_fmtP {e : Expr} {te : TE} {pos : Pos} {k : Nat} (hr : Room k X.A) (he : PE X e te) : PE X (.FormattedValue e (-1) none pos) (tFmtP X.K te) := by
  refine ⟨fun pins s σ H Q I h => ?_⟩
  refine wpAny_FormattedValue_plain (thn (he.run pins s σ H _ I h) fun v s1 hv => ?_)
  obtain ⟨x, H1, I1, r1, a, z, n, rfl, ht, hz, hn, hl, q⟩ := hv
  cases r1
  obtain ⟨its, rv, ⟨o, ho, hcl, m0, hd⟩, _⟩ := I1.tuple ht
  have hu := hr.units
  have big : 4000 ≤ sizeLine := by decide
  have hp : piled [reprText z, ((toString n : String) : Str)] = ((reprText z).length + 2) + ((((toString n : String) : Str).length + 2) + 0) := by
    rw [piled_cons, piled_cons, piled_nil]
  have htx := fmt_text [reprText z, ((toString n : String) : Str)]
  have hR : ReprAll X.prog X.w its [reprText z, ((toString n : String) : Str)] := by
    cases rv with
    | cons r1 r2 =>
      obtain ⟨t, rfl⟩ := r1
      cases r2 with
      | cons r3 r4 =>
        cases r4
        obtain ⟨t', rfl⟩ := r3
        exact .cons (ReprIs.str z t (by omega)) (.cons (ReprIs.int t' hn) .nil)
  exact fmt_tuple (ts := [reprText z, ((toString n : String) : Str)]) (by omega) ho hcl hd hR (by omega) fun m u tk hm => ⟨.str m, H1, I1.tok _, ⟨u, rfl⟩, q m (by omega)⟩
end
end L2

namespace Half
open PySem PySem.Spec PyProof.Rows L2
/-! ### InvalidLayout: two fields -/
abbrev sIl : Stmt := inClass (top 6) 0
def spErrL (K : PySem.W.Frag) (C : Addr) : Sp := fun vs H Q _ => ∃ (a k : Addr) (p z : Str) (n : Int), vs = [.ref a, .str p, .ref k] ∧ H a = some (exo a C none) ∧ p.length ≤ 1000 ∧ SqT K H k [.str z, .int n] ∧ (reprText z).length ≤ 1000 ∧ n.natAbs.log2 < 1920 ∧ ((toString n : String) : Str).length ≤ 1000 ∧
  ∀ dx, H dx = none → dx ≠ a → Q .non (upd (upd (upd H dx (exd dx [("part", .str p)])) a (exo a C (some dx))) dx (exd dx [("key", .ref k), ("part", .str p)]))
theorem scIl : SupScope ["self", "part", "key"] ["self", "part", "key"] (defScope sIl) := ⟨rfl, rfl, rfl, by decide +kernel, rfl, by decide +kernel, by decide +kernel, by decide +kernel, rfl, rfl⟩
section
variable {P : Program} {w : World} {K : PySem.W.Frag} {mg : Str → Option Value} {base : Heap}
theorem ok_il {C f : Addr} {fd : FuncData} (F : ErrFn P K C "InvalidLayout.__init__" sIl f fd) (T : SupC P K mg C) (nP : PySem.W.findIn K (.ref C) "part" = some none) (nK : PySem.W.findIn K (.ref C) "key" = some none) : FnOk P w K mg base CX0 1 f fd ["self", "part", "key"] (spErrL K C) := by
  obtain ⟨oc, od, kV, doc, pm, an, cda, cc, ct, osl, ccl, cdd, vsc, ccs, file, tf, cl, cld, csl, rfl, lk, hcd, hcode, hvs, hfile, hcell⟩ := F.ex
  refine fn_sup (N := ["self", "part", "key"]) lk hcd scIl rfl rfl rfl hcode hvs hfile hcell T (fun vs H Q E h => ?_) (fun _ => rfl) (fun _ => rfl) (fun _ => rfl) (fun A outer s H vs Q E hr h => ?_)
  · obtain ⟨a, k, p, z, n, rfl, _⟩ := h
    rfl
  · obtain ⟨a, k, p, z, n, rfl, ha, hp, hk, hz, hn, hl, q⟩ := h
    refine ⟨a, _, _, rfl, ha, pa_cons (pe_joined (.cons pe_str (.cons (pe_fmt (pv 1)) (.cons pe_str (.cons (pe_fmtP hr (pv 2)) (.cons pe_str .nil)))))) pa_nil, pss_cons (ps_ost (pv 0) (pv 1)) (pss_one (ps_ost (pv 0) (pv 2))), ?_⟩
    have a1 : ("no such " : Str).length = 8 := by decide
    have a2 : (" of the edition " : Str).length = 16 := by decide
    have a3 : (" can be" : Str).length = 7 := by decide
    have e0 : (Str.empty).length = 0 := by decide
    refine ⟨_, rfl, (by decide), _, rfl, .inl ⟨p, rfl, Nat.le_trans hp (by decide), p, rfl, ?_, _, rfl, ?_, ?_⟩⟩
    · rw [app_len, app_len, sizeLine_eq]
      omega
    · rw [app_len, app_len, app_len, sizeLine_eq]
      omega
    refine ⟨_, rfl, k, z, n, rfl, hk, hz, hn, hl, fun m hm => ⟨_, rfl, ?_, _, rfl, ?_, ?_⟩⟩
    · rw [app_len, app_len, app_len, app_len, sizeLine_eq]
      omega
    · rw [app_len, app_len, app_len, app_len, app_len, sizeLine_eq]
      omega
    refine ⟨by show 1 ≤ 1000; decide, ha, ?_⟩
    refine ⟨_, rfl, _, rfl, a, C, rfl, T.oex, nP, .inl ⟨ha, fun dx h1 h2 => ?_⟩⟩
    refine ⟨_, rfl, _, rfl, a, C, rfl, T.oex, nK, .inr ⟨dx, [("part", .str p)], upd_same, by rw [upd_ne h2, upd_same], (by show 1 ≤ 900; decide), ?_⟩⟩
    exact q dx h1 h2
end
end Half

/-! the least of two things, of a list of things: data that are alike; dicts with tuple keys, walked by their pairs -/
namespace L2
open PySem PySem.Spec PyProof.Rows
section
variable {prog : Program} {w : World} {A : Around} {E : Value → Shared → Prop} {s : Shared}
/-- min(a, b): b where it is the less -/
theorem min2_data {a b : Value} {x y : PyData} {as bs : List Addr} {Q : Value → Shared → Prop} (calm : A.handled = none) (ra : Reads s.heap a x as) (rb : Reads s.heap b y bs) (al : PySem.W.AlikeAll [x, y]) (room : A.units + 1 + PyData.depthAll [x, y] < cLine)
    (q : ∀ h' tk, (∀ c o, s.heap.get? c = some o → h'.get? c = some o) → Q (if PySem.W.dataLt y x = true then b else a) { s with heap := h', toks := tk }) : wpAny (model prog w) A (call (.builtin "min") [a, b]) Q E s := by
  have nm : (toString "min" ++ toString ".loop" : String) = "min.loop" := by decide
  refine call_function_tree F.kind_min F.plain_min F.entry_min (F.args_min2 _ _) ?_
  show wpAny _ A.in1 (Builtin.Builtins.bindParams "min" ["key", "default"] 0 ⟨[], []⟩ >>= _) _ _ s
  refine wpAny_bind (wpAny_of_eq (show Builtin.Builtins.bindParams "min" ["key", "default"] 0 ⟨[], []⟩ = pure [none, none] from rfl) ?_)
  show wpAny _ A.in1 (newTuple [a, b] >>= _) _ _ s
  refine wpAny_bind (wpAny_newObj_type ?_)
  have up1 : ∀ c o, s.heap.get? c = some o → (s.heap.push { cls := .type "tuple", data := .seq #[a, b] }).get? c = some o := fun c o e => Heap.get?_push_of_some _ e
  have tup : (s.heap.push { cls := .type "tuple", data := .seq #[a, b] }).IsTuple s.heap.objs.size #[a, b] := ⟨_, Heap.get?_push_size _ rfl, rfl, 0, rfl⟩
  have rd : ReadsAll s.heap (#[a, b] : Array Value).toList [x, y] (as ++ (bs ++ [])) := .cons ra (.cons rb .nil)
  refine wpAny_bind (PySem.W.iter_tupleW (A := A.in1) (s := { s with heap := s.heap.push { cls := .type "tuple", data := .seq #[a, b] } }) calm tup fun s2 e W st hfp hw hk => ?_)
  refine wpAny_bind (wpAny_newObj_type ?_)
  have off : s2.heap.objs.size ∉ [(s.heap.push { cls := .type "tuple", data := .seq #[a, b] }).objs.size, s.heap.objs.size] := fun m => Nat.lt_irrefl _ (hfp _ m)
  rw [nm]
  refine wpAny_pure ⟨plainId_quiet F.plain_min_loop _, codeAny_min_loop_firstH W s.heap (fun c o z => hw c o (up1 c o z)) _ (PySem.W.cmpIn_lt (A := A.in1) rd al room) s2.heap.objs.size off (fresh_in fun c o z => hk c o (up1 c o z)) _ (Nat.succ_pos _) (fun c o z => Heap.get?_push_of_some _ (hk c o (up1 c o z)))
    (W.frame 0 s2 _ s2.toks st (Nat.le_refl _) fun c _ o z => Heap.get?_push_of_some _ z) (Heap.get?_push_size _ rfl) fun v s' hP mv => ?_⟩
  obtain ⟨h', tk, rfl, hk'⟩ := PySem.W.moved_old e rfl (Moved.drop_new (tk := s2.toks) mv (Nat.le_refl _))
  have fin := q h' tk fun c o z => hk' c o (up1 c o z)
  have hv : v = if PySem.W.dataLt y x = true then b else a := by
    have hP : (#[a, b] : Array Value)[argBest (fun i j => PySem.W.dataLt (([x, y] : List PyData).getD i .none) (([x, y] : List PyData).getD j .none)) 1]? = some v := hP
    cases c : PySem.W.dataLt y x with
    | true =>
      have e1 : argBest (fun i j => PySem.W.dataLt (([x, y] : List PyData).getD i .none) (([x, y] : List PyData).getD j .none)) 1 = 1 := by simp [argBest, c]
      rw [e1] at hP
      simpa using hP.symm
    | false =>
      have e1 : argBest (fun i j => PySem.W.dataLt (([x, y] : List PyData).getD i .none) (([x, y] : List PyData).getD j .none)) 1 = 0 := by simp [argBest, c]
      rw [e1] at hP
      simpa using hP.symm
  rw [hv]
  exact fin
end
section
variable {X : Cx}
/-- min(x, y) of data -/
def rMin2 (K : PySem.W.Frag) : List V → Hp → VK → Prop := fun vs H Q => ∃ (x y : V) (dx dy : PyData), vs = [x, y] ∧ Dp K H x dx ∧ Dp K H y dy ∧ PySem.W.AlikeAll [dx, dy] ∧ PyData.depthAll [dx, dy] ≤ 20 ∧ Q (if PySem.W.dataLt dy dx = true then y else x) H
theorem cr_min2 (hc : X.calm = true) (hu : X.A.units + 40 < cLine) : CallR X (.builtin "min") (rMin2 X.K) := by
  rintro pins s σ H vs us Q I r ⟨x, y, dx, dy, rfl, h1, h2, al, dp, q⟩
  cases r with
  | @cons _ u _ us r1 r2 =>
    cases r2 with
    | @cons _ u' _ _ r2 r3 =>
      cases r3
      obtain ⟨as, ra⟩ := Dp.readsAll I _ _ [u, u'] (.cons h1 (.cons h2 .nil)) (.cons r1 (.cons r2 .nil))
      cases ra with
      | cons ra rb =>
        cases rb with
        | cons rb _ =>
          refine min2_data (I.ok.hd hc) ra rb al (by omega) fun h' tk kp => ?_
          cases c : PySem.W.dataLt dy dx with
          | true =>
            rw [c] at q
            exact ⟨y, H, I.kept kp, r2, q⟩
          | false =>
            rw [c] at q
            exact ⟨x, H, I.kept kp, r1, q⟩
theorem minD_mem (d : PyData) (ds : List PyData) : PySem.W.minD d ds ∈ d :: ds := by
  unfold PySem.W.minD
  induction ds generalizing d with
  | nil => exact List.mem_singleton.mpr rfl
  | cons y ys ih =>
    rw [List.foldl_cons]
    have h := ih (if PySem.W.dataLt y d = true then y else d)
    rcases List.mem_cons.mp h with e | e
    · rw [e]
      split
      · exact .tail _ (.head _)
      · exact .head _
    · exact .tail _ (.tail _ e)
theorem vals_back_at : ∀ {xs : List V} {us : List Value} {i : Nat} {u : Value}, Vals xs us → us[i]? = some u → ∃ x, xs[i]? = some x ∧ RelV x u
  | _, _, _, _, .nil, h => by simp at h
  | x :: _, _, 0, _, .cons r _, h => by
    cases h
    exact ⟨x, rfl, r⟩
  | _ :: _, _, i + 1, _, .cons _ t, h => vals_back_at (i := i) t h
/-- min(xs), xs a list of data -/
def rMinD (K : PySem.W.Frag) : List V → Hp → VK → Prop := fun vs H Q => ∃ (a : Addr) (xs : List V) (d : PyData) (ds : List PyData), vs = [.ref a] ∧ SqL K H a xs ∧ DpAll K H xs (d :: ds) ∧ PySem.W.AlikeAll (d :: ds) ∧ PyData.depthAll (d :: ds) ≤ 20 ∧
  ∀ (i : Nat) (x : V), xs[i]? = some x → (d :: ds)[i]? = some (PySem.W.minD d ds) → Q x H
theorem cr_minD (hc : X.calm = true) (hu : X.A.units + 40 < cLine) : CallR X (.builtin "min") (rMinD X.K) := by
  rintro pins s σ H vs us Q I r ⟨a, xs, d, ds, rfl, hs, hd, al, dp, q⟩
  obtain ⟨its, rv, hl, -⟩ := I.list hs
  rw [Vals.ref1 r]
  obtain ⟨as, ra⟩ := Dp.readsAll I _ _ its hd rv
  refine PySem.W.min_list_data (I.ok.hd hc) hl.isList (by rw [List.toList_toArray]; exact ra) al (by omega) fun i v h' tk bs hv rd kp => ?_
  rw [List.getElem?_toArray] at hv
  obtain ⟨bs', r1, lt, mem, _⟩ := PySem.W.readsAll_at ra i v hv
  have e : (d :: ds).getD i .none = PySem.W.minD d ds := by
    exact PySem.W.alike_unique _ _ v bs' bs (al.1 _ mem _ (minD_mem d ds)) (PyProof.Rows.Reads.keeps kp r1) rd
  obtain ⟨x, hx, rx⟩ := vals_back_at rv hv
  refine ⟨x, H, I.kept kp, rx, q i x hx ?_⟩
  rw [← e, List.getD_eq_getElem?_getD, List.getElem?_eq_getElem lt]
  rfl
end
end L2

namespace Half
open PySem PySem.Spec PyProof.Rows L2
/-! ### check_layout -/
abbrev sCl : Stmt := top 38
abbrev ClN : List Str := ["store", "files", "takes", "wrong_files", "key", "wrong_takes"]
theorem scCl : FnScope ClN ["store", "files", "takes"] (defScope sCl) := ⟨rfl, rfl, rfl, by decide +kernel, rfl, by decide +kernel, by decide +kernel⟩
structure HasF (P : Program) (w : World) (K : PySem.W.Frag) (mg : Str → Option Value) (base : Heap) (CT : Addr) : Prop where
  ex : ∃ f fd, OwnSp K CT f "__contains__" ∧ FnOk P w K mg base CX0 1 f fd ["self", "x"] (spHas CT) ∧ Binds K fd ["self", "x"] []
theorem op_notinS {X : Cx} {CT : Addr} (D : HasF X.prog X.w X.K X.mg X.base CT) (hr : Room 1 X.A) : OpR X (compareOp .NotIn) (rInO CT (spHas CT) E0 not) := by
  obtain ⟨f, fd, O, F, b⟩ := D.ex
  exact op_notinO F O b hr pass0
abbrev Fls : Type := List (Kk × Addr × List (Str × V))
abbrev Tks : Type := List (Kk × Addr × List Str)
def keyL (k : Kk) : List Key := [.inr k.1, .inl k.2]
def kvF (fs : Fls) : List (List Key × V) := fs.map fun e => (keyL e.1, .ref e.2.1)
def kvT (ts : Tks) : List (List Key × V) := ts.map fun e => (keyL e.1, .ref e.2.1)
def badF (ks : List Kk) (e : Kk × Addr × List (Str × V)) : Bool := !has ks e.1 || !areFiles e.2.2
def badT (ks : List Kk) (e : Kk × Addr × List Str) : Bool := !has ks e.1 || !areTakes ks e.2.2 e.1.1
def kD (k : Kk) : PyData := .tuple [.str k.1, .int k.2]
/-- a key that a text can tell of -/
def OkK (k : Kk) : Prop := PyData.strOk k.1 = true ∧ (reprText k.1).length ≤ 1000 ∧ k.2.natAbs.log2 < 1920 ∧ ((toString k.2 : String) : Str).length ≤ 1000
/-- the store's table is another dict than d (both are dicts with tuple keys) -/
def Apart (CT : Addr) (H : Hp) (st d : Addr) : Prop := ∀ dx tb nb, H st = some (.ins CT dx [("table", .ref tb), ("numbers", .ref nb)]) → tb ≠ d
theorem StObj.lock {CT : Addr} {H : Hp} {st d : Addr} {es : Eds} {kvs : List (List Key × V)} {od : Obj} (h : StObj CT H st es) (ap : Apart CT H st d) (g : H d = some (.dT kvs)) : StObj CT (upd H d (.frz od (.dT kvs))) st es := by
  obtain ⟨⟨dy, tb, nb, h1, h2, h3⟩, one⟩ := h
  obtain ⟨ys', a, b, kvs', g1, g2, g3⟩ := h3
  have n : ∀ {b' : Addr} {o : HO}, H b' = some o → (∀ ks, o ≠ .dT ks) → (upd H d (.frz od (.dT kvs))) b' = some o := fun {b' o} q no => by
    rw [upd_ne fun z => no kvs (by rw [z, g] at q; exact (Option.some.inj q).symm)]
    exact q
  exact ⟨⟨dy, tb, nb, n h1 (by intro _ z; cases z), by rw [upd_ne (ap _ _ _ h1)]; exact h2, ys', a, b, kvs', n g1 (by intro _ z; cases z), g2, fun nm hm => let ⟨t, a, b⟩ := g3 nm hm; ⟨t, a, n b (by intro _ z; cases z)⟩⟩, one⟩
/-- the least of keys -/
def leastK (k : Kk) (ks : List Kk) (m : Kk) : Prop := m ∈ k :: ks ∧ kD m = PySem.W.minD (kD k) (ks.map kD)
def spCl (K : PySem.W.Frag) (CT CL : Addr) : Sp := fun vs H Q E => ∃ (st fa ta : Addr) (es : Eds) (fs : Fls) (ts : Tks), vs = [.ref st, .ref fa, .ref ta] ∧ StObj CT H st es ∧ Apart CT H st fa ∧ Apart CT H st ta ∧ H fa = some (.dT (kvF fs)) ∧ H ta = some (.dT (kvT ts)) ∧
  (∀ e ∈ fs, OkK e.1 ∧ FilesAt K H e.2.1 e.2.2 ∧ e.2.2.length ≤ 100 ∧ ∀ p ∈ e.2.2, p.1.length ≤ 1000 ∧ Numv p.2) ∧ (∀ e ∈ ts, OkK e.1 ∧ SqT K H e.2.1 (e.2.2.map V.str) ∧ e.2.2.length ≤ 100 ∧ ∀ z ∈ e.2.2, z.length ≤ 1000) ∧ fs.length ≤ 100 ∧ ts.length ≤ 100 ∧ (fs.map (·.1)).Nodup ∧ (ts.map (·.1)).Nodup ∧
  (fs.filter (badF (keysOf es)) = [] → ts.filter (badT (keysOf es)) = [] → ∀ H', Same H H' → Q .non H') ∧
  (∀ k ks m, (fs.filter (badF (keysOf es))).map (·.1) = k :: ks → leastK k ks m → ∀ H' dd q, Same H H' → H' dd = some (.xd [("key", .ref q), ("part", .str "files")]) → H' q = some (.tup [.str m.1, .int m.2]) → E (.ref CL) (some dd) H') ∧
  (fs.filter (badF (keysOf es)) = [] → ∀ k ks m, (ts.filter (badT (keysOf es))).map (·.1) = k :: ks → leastK k ks m → ∀ H' dd q, Same H H' → H' dd = some (.xd [("key", .ref q), ("part", .str "takes")]) → H' q = some (.tup [.str m.1, .int m.2]) → E (.ref CL) (some dd) H')
theorem StObj.ins {CT : Addr} {H : Hp} {a : Addr} {es : Eds} (h : StObj CT H a es) : ∃ dx fs, H a = some (.ins CT dx fs) := by
  obtain ⟨⟨dx, tb, nb, h1, _⟩, _⟩ := h
  exact ⟨dx, _, h1⟩
theorem inS_read {CT : Addr} {H : Hp} {a t : Addr} {es : Eds} {k : Kk} {fl : Bool → Bool} {Q : VK} (h : StObj CT H a es) (ht : H t = some (.tup [.str k.1, .int k.2])) (q : Q (.bl (fl (has (keysOf es) k))) H) : rInO CT (spHas CT) E0 fl (.ref t) (.ref a) H Q := by
  obtain ⟨dx, fs, ha⟩ := h.ins
  exact ⟨a, dx, fs, rfl, ha, a, t, es, k, rfl, h, ht, _, rfl, q⟩
theorem keyL_inj {a b : Kk} (h : keyL a = keyL b) : a = b := by
  unfold keyL at h
  injection h with h1 h2
  injection h2 with h2 _
  exact Prod.ext (Sum.inr.inj h1) (Sum.inl.inj h2)
theorem kvF_nodup {fs : Fls} (h : (fs.map (·.1)).Nodup) : ((kvF fs).map (·.1)).Nodup := by
  unfold kvF
  rw [List.map_map]
  have e : ((fun x : List Key × V => x.1) ∘ fun e : Kk × Addr × List (Str × V) => (keyL e.1, V.ref e.2.1)) = fun e => keyL e.1 := rfl
  rw [e, show (fun e : Kk × Addr × List (Str × V) => keyL e.1) = keyL ∘ (fun e : Kk × Addr × List (Str × V) => e.1) from rfl, ← List.map_map]
  exact List.Pairwise.map keyL (fun a b n z => n (keyL_inj z)) h
theorem kvT_nodup {ts : Tks} (h : (ts.map (·.1)).Nodup) : ((kvT ts).map (·.1)).Nodup := by
  unfold kvT
  rw [List.map_map]
  have e : ((fun x : List Key × V => x.1) ∘ fun e : Kk × Addr × List Str => (keyL e.1, V.ref e.2.1)) = fun e => keyL e.1 := rfl
  rw [e, show (fun e : Kk × Addr × List Str => keyL e.1) = keyL ∘ (fun e : Kk × Addr × List Str => e.1) from rfl, ← List.map_map]
  exact List.Pairwise.map keyL (fun a b n z => n (keyL_inj z)) h
theorem paired_imp {α β : Type} {R S : α → β → Prop} (h : ∀ a b, R a b → S a b) : ∀ {xs : List α} {ys : List β}, Paired R xs ys → Paired S xs ys
  | _, _, .nil => .nil
  | _, _, .cons a t => .cons (h _ _ a) (paired_imp h t)
theorem paired_app {α β : Type} {R : α → β → Prop} : ∀ {xs : List α} {ys : List β} {xs' : List α} {ys' : List β}, Paired R xs ys → Paired R xs' ys' → Paired R (xs ++ xs') (ys ++ ys')
  | _, _, _, _, .nil, b => b
  | _, _, _, _, .cons a t, b => .cons a (paired_app t b)
theorem kD_all (ks : List Kk) : PySem.W.AlikeAll (ks.map kD) := by
  refine ⟨fun x hx y hy => ?_, fun x hx => ?_⟩
  · obtain ⟨a, _, rfl⟩ := List.mem_map.mp hx
    obtain ⟨b, _, rfl⟩ := List.mem_map.mp hy
    simp [kD, PySem.W.alike, PySem.W.alikeAll]
  · obtain ⟨a, _, rfl⟩ := List.mem_map.mp hx
    exact fun z => by cases z
theorem kD_depth : ∀ ks : List Kk, PyData.depthAll (ks.map kD) ≤ 20
  | [] => by simp [PyData.depthAll]
  | k :: ks => by
    have ih := kD_depth ks
    simp only [List.map_cons, PyData.depthAll]
    have : PyData.depth (kD k) ≤ 20 := by simp [kD, PyData.depth, PyData.depthAll]
    omega
theorem keys_dp {K : PySem.W.Frag} {H : Hp} : ∀ {ps : List Addr} {ks : List Kk}, Paired (fun p k => H p = some (.tup [.str k.1, .int k.2])) ps ks → DpAll K H (ps.map V.ref) (ks.map kD)
  | _, _, .nil => .nil
  | _, _, .cons a t => .cons (.tup (SqT.of a) (.cons (.str _) (.cons (.int _) .nil))) (keys_dp t)
/-- raise InvalidLayout(part, min(keys)) -/
theorem mkL_read {K : PySem.W.Frag} {σ : L2.St} {i : Nat} {H : Hp} {E : XK} {CL D : Addr} {part : Str} {ps : List Addr} {k0 : Kk} {ks : List Kk} (hv : σ[i]? = some (some (.ref D))) (gD : H D = some (.lst (ps.map V.ref))) (pP : Paired (fun p k => H p = some (.tup [.str k.1, .int k.2])) ps (k0 :: ks)) (ok : ∀ k ∈ k0 :: ks, OkK k) (hp : part.length ≤ 1000)
    (q : ∀ m, leastK k0 ks m → ∀ H' dd q, Same H H' → H' dd = some (.xd [("key", .ref q), ("part", .str part)]) → H' q = some (.tup [.str m.1, .int m.2]) → E (.ref CL) (some dd) H') : tMkO CL (spErrL K CL) [] (tCons (tC (.str part)) (tCons (tCB (rMinD K) (tCons (tVar i) tNil)) tNil)) σ H E := by
  refine ⟨_, hv, D, ps.map V.ref, kD k0, ks.map kD, rfl, SqL.of gD, keys_dp pP, kD_all (k0 :: ks), kD_depth (k0 :: ks), fun j x hx hm => ?_⟩
  obtain ⟨p, hp1, rfl⟩ := getE hx
  obtain ⟨m, hm1, gp⟩ := paired_get pP hp1
  have hm2 : kD m = PySem.W.minD (kD k0) (ks.map kD) := by
    have e : (kD k0 :: ks.map kD)[j]? = some (kD m) := by
      rw [← List.map_cons, List.getElem?_map, hm1]
      rfl
    rw [e] at hm
    exact Option.some.inj hm
  have min := List.mem_of_getElem? hm1
  obtain ⟨_, o2, o3, o4⟩ := ok m min
  refine ⟨(by show 2 ≤ 1000; decide), fun a ha => ?_⟩
  have s1 := Same.upd_new (o := exo a CL none) ha
  refine ⟨a, p, part, m.1, m.2, rfl, upd_same, hp, SqT.of (s1 _ _ gp), o2, o3, o4, fun d hd1 hd2 => ⟨rfl, d, [("key", .ref p), ("part", .str part)], ?_, upd_same, ?_, ?_⟩⟩
  · rw [upd_ne (Ne.symm hd2), upd_same]
  · rw [upd_ne hd2] at hd1
    exact hd1
  · rw [upd_ne hd2] at hd1
    have S : Same H (upd (del (upd (upd (upd (upd H a (exo a CL none)) d (exd d [("part", .str part)])) a (exo a CL (some d))) d (exd d [("key", .ref p), ("part", .str part)])) a) d (.xd [("key", .ref p), ("part", .str part)])) := fun b o q1 => by
      have nb : b ≠ d := ne_of_none q1 hd1
      have na : b ≠ a := ne_of_none q1 ha
      rw [upd_ne nb, del_ne na, upd_ne nb, upd_ne na, upd_ne nb, upd_ne na]
      exact q1
    exact q m ⟨min, hm2⟩ _ d p S upd_same (S _ _ gp)
/-- what stands for raising InvalidLayout -/
structure TxtL (P : Program) (w : World) (K : PySem.W.Frag) (mg : Str → Option Value) (base : Heap) (C CT CL fL : Addr) (fdL : FuncData) : Prop where
  mn : mg "min" = none
  has : HasF P w K mg base CT
  dFs : Def P w K mg base 3 "are_files" ["values"] (spFs K)
  dTk : Def P w K mg base 3 "are_takes" ["values", "store", "name"] (spTk K CT)
  mgE : mg "InvalidLayout" = some (.ref CL)
  sup : SupC P K mg CL
  nP : PySem.W.findIn K (.ref CL) "part" = some none
  nK : PySem.W.findIn K (.ref CL) "key" = some none
  iC : PySem.W.findIn K (.ref CL) "__init__" = some (some (.ref fL))
  tI : PySem.W.typeIn K (.ref fL) = some (.type "function")
  er : ErrFn P K CL "InvalidLayout.__init__" sIl fL fdL
  bI : Binds K fdL ["self", "part", "key"] []
section
variable {P : Program} {w : World} {K : PySem.W.Frag} {mg : Str → Option Value} {base : Heap} {C CT CL fL : Addr} {fdL : FuncData}
theorem ok_cl {f : Addr} {fd : FuncData} (F : Fun K "check_layout" "check_layout" sCl f fd) (T : TxtL P w K mg base C CT CL fL fdL) : FnOk P w K mg base (L2.CX P w) 4 f fd ["store", "files", "takes"] (spCl K CT CL) := by
  refine F.okX scCl (fun vs H Q E h => ?_) (fun cdv A outer s H vs Q E hr h => ?_)
  · obtain ⟨st, fa, ta, es, fs, ts, rfl, _⟩ := h
    rfl
  · obtain ⟨st, fa, ta, es, fs, ts, rfl, hO, apF, apT, gF, gT, hF, hT, lf, lt, ndF, ndT, kOk, kF, kT⟩ := h
    have nd := scCl.nd
    have hu := hu_of hr
    have r1 : Room 1 _ := hr.mono (by decide)
    have hu2 := hr.units
    have FL : FnOk P w K mg base CX0 1 fL fdL ["self", "part", "key"] (spErrL K CL) := ok_il T.er T.sup T.nP T.nK
    refine ⟨_, pss_cons (ps_lock (ps_setLc (i := 3) (own := [("key", 4)]) (g := gName 4) (te := tVar 4) rfl nd rfl rfl (sw_true rfl rfl rfl (by decide +kernel)) (pi_keys (pv 1)) (blkOk_by (N := ClN) (sc := defScope sCl) (by decide +kernel))
        (fun _ _ _ _ _ => pg_name (i := 4) nd rfl (Or.inl rfl)) (fun _ _ _ _ _ => pts_one (PW.pt (pw_or (pt_cmpR (op_notinS T.has r1) (pv 4) (pv 0) (by rfl)) (pw_or1 (pt_not (pt_val (pe_def T.dFs hr rfl (pa_cons (pe_dget hu (pv 1) (pv 4) (fun _ _ => rfl)) pa_nil)))))))) (fun _ _ _ _ _ => pv 4)))
      (pss_cons (ps_if (pt_truth (pv 3) (fun _ => rfl)) (pss_one (ps_raise rfl (takes_of rfl rfl rfl rfl) (pmk_oex T.sup.oex T.iC T.tI FL (hr.mono (by decide)) T.bI .nil (fun _ _ _ _ _ _ _ h => h.elim) rfl T.mgE (pa_cons pe_str (pa_cons (pe_callB (cr_minD rfl (Nat.lt_of_le_of_lt (Nat.add_le_add_left (by decide : 40 ≤ 64) _) hu2)) (by rfl) T.mn (by decide +kernel) (pa_cons (pv 3) pa_nil)) pa_nil))))) pss_nil)
      (pss_cons (ps_lock (ps_setLc (i := 5) (own := [("key", 4)]) (g := gName 4) (tt := tOr (tTest (tOp (rInO CT (spHas CT) E0 not) (tVar 4) (tVar 0))) (tNot (tB (tCall (spTk K CT) [] E0 (tCons (tDGet (tVar 2) (tVar 4)) (tCons (tVar 0) (tCons (tOp (rIxT K) (tVar 4) (tC (.int 0))) tNil))))))) (te := tVar 4) rfl nd rfl rfl (sw_true rfl rfl rfl (by decide +kernel)) (pi_keys (pv 2)) (blkOk_by (N := ClN) (sc := defScope sCl) (by decide +kernel))
        (fun _ _ _ _ _ => pg_name (i := 4) nd rfl (Or.inl rfl)) (fun _ _ _ _ _ => pts_one (PW.pt (pw_or (pt_cmpR (op_notinS T.has r1) (pv 4) (pv 0) (by rfl)) (pw_or1 (pt_not (pt_val (pe_def T.dTk hr rfl (pa_cons (pe_dget hu (pv 2) (pv 4) (fun _ _ => rfl)) (pa_cons (pv 0) (pa_cons (pe_ix (ix_tup : IxR _ (rIxT K)) (pv 4) pe_int (fun _ _ => rfl)) pa_nil)))))))))) (fun _ _ _ _ _ => pv 4)))
      (pss_one (ps_if (pt_truth (pv 5) (fun _ => rfl)) (pss_one (ps_raise rfl (takes_of rfl rfl rfl rfl) (pmk_oex T.sup.oex T.iC T.tI FL (hr.mono (by decide)) T.bI .nil (fun _ _ _ _ _ _ _ h => h.elim) rfl T.mgE (pa_cons pe_str (pa_cons (pe_callB (cr_minD rfl (Nat.lt_of_le_of_lt (Nat.add_le_add_left (by decide : 40 ≤ 64) _) hu2)) (by rfl) T.mn (by decide +kernel) (pa_cons (pv 5) pa_nil)) pa_nil))))) pss_nil)))), ?_⟩
    refine ⟨fa, _, gF, trivial, fun od => ?_⟩
    have gL : (upd H fa (.frz od (.dT (kvF fs)))) fa = some (.frz od (.dT (kvF fs))) := upd_same
    have hOL := hO.lock (od := od) apF gF
    have kpL : Kp K H (upd H fa (.frz od (.dT (kvF fs)))) := Kp.upd gF (fun xs z => by cases z) (fun q xs z => by cases z)
    have back : ∀ H', Same (upd H fa (.frz od (.dT (kvF fs)))) H' → Same H (upd H' fa (.dT (kvF fs))) := fun H' S a o q => by
      by_cases c : a = fa
      · rw [c, gF] at q
        rw [c, upd_same]
        exact q
      · rw [upd_ne c]
        exact S _ _ (by rw [upd_ne c]; exact q)
    have hFL : ∀ e ∈ fs, FilesAt K (upd H fa (.frz od (.dT (kvF fs)))) e.2.1 e.2.2 := fun e he => (hF e he).2.1.kp kpL
    generalize upd H fa (.frz od (.dT (kvF fs))) = HL at gL hOL hFL back ⊢
    refine ⟨_, rfl, fa, od, rfl, .inr ⟨kvF fs, gL, fun D hD => ?_⟩⟩
    refine lc_it (walk_keysT (kvs := kvF fs)) (fun i H' => Same HL H' ∧ ∃ ps : List Addr, H' D = some (.lst (ps.map V.ref)) ∧ Paired (fun p k => H' p = some (.tup [.str k.1, .int k.2])) ps (((fs.take i).filter (badF (keysOf es))).map (·.1)) ∧ ps.length ≤ i) ⟨Same.upd_new hD, [], upd_same, .nil, Nat.le_refl _⟩ (fun _ _ _ h => h.1 _ _ gL) ?_ ?_
    · rintro i v H4 H5 hi ⟨s4, ps, gD, pP, lP⟩ ⟨rfl, kk, vv, q, hkv, rfl, gq⟩
      have hi' : i < fs.length := by unfold kvF at hi; rw [List.length_map] at hi; exact hi
      have he := List.getElem?_eq_getElem hi'
      have hfe := List.getElem_mem hi'
      generalize fs[i] = e at he hfe
      have ekv : (kvF fs)[i]? = some (keyL e.1, V.ref e.2.1) := by unfold kvF; rw [List.getElem?_map, he]; rfl
      have hv := val_nodup (kvF_nodup ndF) (keyL e.1, V.ref e.2.1) (List.mem_of_getElem? ekv)
      rw [ekv] at hkv
      obtain ⟨rfl, rfl⟩ := Prod.mk.inj (Option.some.inj hkv)
      have hO5 := hOL.same s4
      obtain ⟨_, f1, f2, f3⟩ := hF e hfe
      refine ⟨rfl, ?_⟩
      refine ⟨_, rfl, _, rfl, inS_read (k := e.1) hO5 gq ⟨_, rfl, ?_⟩⟩
      have tk : (fs.take (i + 1)).filter (badF (keysOf es)) = (fs.take i).filter (badF (keysOf es)) ++ (if badF (keysOf es) e = true then [e] else []) := by
        rw [take_next he, List.filter_append]
        congr 1
        by_cases c : badF (keysOf es) e = true
        · rw [if_pos c, List.filter_cons_of_pos c]
          rfl
        · rw [if_neg c, List.filter_cons_of_neg c]
          rfl
      have yes : ∀ H6, Same H5 H6 → badF (keysOf es) e = true → ∃ acc, H6 D = some (.lst acc) ∧ acc.length < sizeLine ∧ Same HL (upd H6 D (.lst (acc ++ [V.ref q]))) ∧ ∃ ps' : List Addr, upd H6 D (.lst (acc ++ [V.ref q])) D = some (.lst (ps'.map V.ref)) ∧ Paired (fun p k => upd H6 D (.lst (acc ++ [V.ref q])) p = some (.tup [.str k.1, .int k.2])) ps' (((fs.take (i + 1)).filter (badF (keysOf es))).map (·.1)) ∧ ps'.length ≤ i + 1 := fun H6 s6 c => by
        have ne : ∀ {b' : Addr} {ws : List V}, H6 b' = some (.tup ws) → b' ≠ D := fun {b'} {ws} z w => by
          rw [w, s6 _ _ gD] at z
          cases z
        refine ⟨_, s6 _ _ gD, by rw [List.length_map, sizeLine_eq]; omega, fun b' o q' => ?_, ps ++ [q], ?_, ?_, ?_⟩
        · rw [upd_ne (ne_of_none q' hD)]
          exact s6 _ _ (s4 _ _ q')
        · rw [upd_same, List.map_append]
          rfl
        · rw [tk, if_pos c, List.map_append]
          refine paired_app (paired_imp (fun p k h => ?_) pP) (.cons ?_ .nil)
          · have h6 := s6 _ _ h
            rw [upd_ne (ne h6)]
            exact h6
          · have h6 := s6 _ _ gq
            rw [upd_ne (ne h6)]
            exact h6
        · rw [List.length_append]
          exact Nat.succ_le_succ lP
      cases c1 : has (keysOf es) e.1 with
      | false =>
        refine iteT (iteT ?_)
        exact ⟨_, rfl, yes H5 (Same.refl _) (by unfold badF; rw [c1]; rfl)⟩
      | true =>
        refine iteF ?_
        refine ⟨_, rfl, _, rfl, fa, .ref e.2.1, rfl, .inr ⟨kvF fs, keyL e.1, q, .inr ⟨od, s4 _ _ gL⟩, rfl, gq, hv.symm⟩, e.2.1, e.2.2, rfl, (hFL e hfe).kp s4.kp, f2, f3, fun H6 s6 => ⟨_, rfl, ?_⟩⟩
        cases c2 : areFiles e.2.2 with
        | false =>
          refine iteT ?_
          exact ⟨_, rfl, yes H6 s6 (by unfold badF; rw [c1, c2]; rfl)⟩
        | true =>
          refine iteF ?_
          have c : ¬ badF (keysOf es) e = true := by unfold badF; rw [c1, c2]; decide
          rw [if_neg c, List.append_nil] at tk
          exact ⟨s4.trans s6, ps, s6 _ _ gD, by rw [tk]; exact paired_imp (fun p k h => s6 _ _ h) pP, Nat.le_succ_of_le lP⟩
    · rintro H4 ⟨s4, ps, gD, pP, lP⟩
      have lkv : (kvF fs).length = fs.length := by unfold kvF; rw [List.length_map]
      rw [lkv, List.take_length] at pP
      refine ⟨s4 _ _ gL, ?_⟩
      have S5 := back H4 s4
      have nfa : ∀ {b' : Addr} {o : HO}, H4 b' = some o → (∀ u v, o ≠ .frz u v) → (upd H4 fa (.dT (kvF fs))) b' = some o := fun {b' o} z no => by
        rw [upd_ne fun w => no _ _ (by rw [w, s4 _ _ gL] at z; exact (Option.some.inj z).symm)]
        exact z
      have gD5 := nfa gD (by intro _ _ z; cases z)
      have pP5 := paired_imp (fun p k h => nfa h (by intro _ _ z; cases z)) pP
      generalize upd H4 fa (.dT (kvF fs)) = H5 at S5 gD5 pP5 ⊢
      cases hB : fs.filter (badF (keysOf es)) with
      | cons e0 B =>
        rw [hB] at pP5
        have okB : ∀ k ∈ e0.1 :: B.map (·.1), OkK k := fun k hk => by
          have : k ∈ (fs.filter (badF (keysOf es))).map (·.1) := by rw [hB]; exact hk
          obtain ⟨e, he, rfl⟩ := List.mem_map.mp this
          exact (hF e (List.mem_filter.mp he).1).1
        refine ⟨_, rfl, true, .inl ⟨ps.map V.ref, SqL.of gD5, ?_⟩, iteT ?_⟩
        · cases pP5
          rfl
        exact mkL_read rfl gD5 pP5 okB (by decide) fun m hm H' dd q S g1 g2 => kF _ _ m (by rw [hB]; rfl) hm H' dd q (S5.trans S) g1 g2
      | nil =>
        rw [hB] at pP5
        have e0 : ps = [] := by
          cases pP5
          rfl
        rw [e0] at gD5
        refine ⟨_, rfl, false, .inl ⟨[], SqL.of gD5, rfl⟩, iteF ?_⟩
        have hO' := hO.same S5
        have apT' : Apart CT H5 st ta := fun dx tb nb h => by
          obtain ⟨dy, tb', nb', h1, _⟩ := hO.ob
          have h2 := S5 _ _ h1
          rw [h] at h2
          have := Option.some.inj h2
          injection this with _ _ h3
          injection h3 with h4 _
          injection h4 with _ h5
          injection h5 with h6
          rw [h6]
          exact apT _ _ _ h1
        have gT' := S5 _ _ gT
        have hT' : ∀ e ∈ ts, SqT K H5 e.2.1 (e.2.2.map V.str) := fun e he => S5.sqT (hT e he).2.1
        refine ⟨ta, _, gT', trivial, fun od2 => ?_⟩
        have gL : (upd H5 ta (.frz od2 (.dT (kvT ts)))) ta = some (.frz od2 (.dT (kvT ts))) := upd_same
        have hOL := hO'.lock (od := od2) apT' gT'
        have kpL : Kp K H5 (upd H5 ta (.frz od2 (.dT (kvT ts)))) := Kp.upd gT' (fun xs z => by cases z) (fun q xs z => by cases z)
        have back : ∀ H', Same (upd H5 ta (.frz od2 (.dT (kvT ts)))) H' → Same H5 (upd H' ta (.dT (kvT ts))) := fun H' S a o q => by
          by_cases c : a = ta
          · rw [c, gT'] at q
            rw [c, upd_same]
            exact q
          · rw [upd_ne c]
            exact S _ _ (by rw [upd_ne c]; exact q)
        have hTL : ∀ e ∈ ts, SqT K (upd H5 ta (.frz od2 (.dT (kvT ts)))) e.2.1 (e.2.2.map V.str) := fun e he => kpL _ _ (hT' e he)
        generalize upd H5 ta (.frz od2 (.dT (kvT ts))) = HL2 at gL hOL hTL back ⊢
        refine ⟨_, rfl, ta, od2, rfl, .inr ⟨kvT ts, gL, fun D2 hD2 => ?_⟩⟩
        refine lc_it (walk_keysT (kvs := kvT ts)) (fun i H' => Same HL2 H' ∧ ∃ ps : List Addr, H' D2 = some (.lst (ps.map V.ref)) ∧ Paired (fun p k => H' p = some (.tup [.str k.1, .int k.2])) ps (((ts.take i).filter (badT (keysOf es))).map (·.1)) ∧ ps.length ≤ i) ⟨Same.upd_new hD2, [], upd_same, .nil, Nat.le_refl _⟩ (fun _ _ _ h => h.1 _ _ gL) ?_ ?_
        · rintro i v H7 H8 hi ⟨s4, ps, gD, pP, lP⟩ ⟨rfl, kk, vv, q, hkv, rfl, gq⟩
          have hi' : i < ts.length := by unfold kvT at hi; rw [List.length_map] at hi; exact hi
          have he := List.getElem?_eq_getElem hi'
          have hfe := List.getElem_mem hi'
          generalize ts[i] = e at he hfe
          have ekv : (kvT ts)[i]? = some (keyL e.1, V.ref e.2.1) := by unfold kvT; rw [List.getElem?_map, he]; rfl
          have hv := val_nodup (kvT_nodup ndT) (keyL e.1, V.ref e.2.1) (List.mem_of_getElem? ekv)
          rw [ekv] at hkv
          obtain ⟨rfl, rfl⟩ := Prod.mk.inj (Option.some.inj hkv)
          have hO5 := hOL.same s4
          obtain ⟨_, f1, f2, f3⟩ := hT e hfe
          refine ⟨rfl, ?_⟩
          refine ⟨_, rfl, _, rfl, inS_read (k := e.1) hO5 gq ⟨_, rfl, ?_⟩⟩
          have tk : (ts.take (i + 1)).filter (badT (keysOf es)) = (ts.take i).filter (badT (keysOf es)) ++ (if badT (keysOf es) e = true then [e] else []) := by
            rw [take_next he, List.filter_append]
            congr 1
            by_cases c : badT (keysOf es) e = true
            · rw [if_pos c, List.filter_cons_of_pos c]
              rfl
            · rw [if_neg c, List.filter_cons_of_neg c]
              rfl
          have yes : ∀ H6, Same H8 H6 → badT (keysOf es) e = true → ∃ acc, H6 D2 = some (.lst acc) ∧ acc.length < sizeLine ∧ Same HL2 (upd H6 D2 (.lst (acc ++ [V.ref q]))) ∧ ∃ ps' : List Addr, upd H6 D2 (.lst (acc ++ [V.ref q])) D2 = some (.lst (ps'.map V.ref)) ∧ Paired (fun p k => upd H6 D2 (.lst (acc ++ [V.ref q])) p = some (.tup [.str k.1, .int k.2])) ps' (((ts.take (i + 1)).filter (badT (keysOf es))).map (·.1)) ∧ ps'.length ≤ i + 1 := fun H6 s6 c => by
            have ne : ∀ {b' : Addr} {ws : List V}, H6 b' = some (.tup ws) → b' ≠ D2 := fun {b'} {ws} z w => by
              rw [w, s6 _ _ gD] at z
              cases z
            refine ⟨_, s6 _ _ gD, by rw [List.length_map, sizeLine_eq]; omega, fun b' o q' => ?_, ps ++ [q], ?_, ?_, ?_⟩
            · rw [upd_ne (ne_of_none q' hD2)]
              exact s6 _ _ (s4 _ _ q')
            · rw [upd_same, List.map_append]
              rfl
            · rw [tk, if_pos c, List.map_append]
              refine paired_app (paired_imp (fun p k h => ?_) pP) (.cons ?_ .nil)
              · have h6 := s6 _ _ h
                rw [upd_ne (ne h6)]
                exact h6
              · have h6 := s6 _ _ gq
                rw [upd_ne (ne h6)]
                exact h6
            · rw [List.length_append]
              exact Nat.succ_le_succ lP
          cases c1 : has (keysOf es) e.1 with
          | false =>
            refine iteT (iteT ?_)
            exact ⟨_, rfl, yes H8 (Same.refl _) (by unfold badT; rw [c1]; rfl)⟩
          | true =>
            refine iteF ?_
            refine ⟨_, rfl, _, rfl, ta, .ref e.2.1, rfl, .inr ⟨kvT ts, keyL e.1, q, .inr ⟨od2, s4 _ _ gL⟩, rfl, gq, hv.symm⟩, _, rfl, _, rfl, q, _, 0, _, rfl, rfl, SqT.of gq, rfl, e.2.1, st, es, e.2.2, e.1.1, rfl, hO5, s4.sqT (hTL e hfe), f2, f3, fun H6 s6 => ⟨_, rfl, ?_⟩⟩
            cases c2 : areTakes (keysOf es) e.2.2 e.1.1 with
            | false =>
              refine iteT ?_
              exact ⟨_, rfl, yes H6 s6 (by unfold badT; rw [c1, c2]; rfl)⟩
            | true =>
              refine iteF ?_
              have c : ¬ badT (keysOf es) e = true := by unfold badT; rw [c1, c2]; decide
              rw [if_neg c, List.append_nil] at tk
              exact ⟨s4.trans s6, ps, s6 _ _ gD, by rw [tk]; exact paired_imp (fun p k h => s6 _ _ h) pP, Nat.le_succ_of_le lP⟩
        · rintro H7 ⟨s4, ps, gD, pP, lP⟩
          have lkv : (kvT ts).length = ts.length := by unfold kvT; rw [List.length_map]
          rw [lkv, List.take_length] at pP
          refine ⟨s4 _ _ gL, ?_⟩
          have S8 := S5.trans (back H7 s4)
          have nta : ∀ {b' : Addr} {o : HO}, H7 b' = some o → (∀ u v, o ≠ .frz u v) → (upd H7 ta (.dT (kvT ts))) b' = some o := fun {b' o} z no => by
            rw [upd_ne fun w => no _ _ (by rw [w, s4 _ _ gL] at z; exact (Option.some.inj z).symm)]
            exact z
          have gD8 := nta gD (by intro _ _ z; cases z)
          have pP8 := paired_imp (fun p k h => nta h (by intro _ _ z; cases z)) pP
          generalize upd H7 ta (.dT (kvT ts)) = H8 at S8 gD8 pP8 ⊢
          cases hC : ts.filter (badT (keysOf es)) with
          | cons e1 B =>
            rw [hC] at pP8
            have okB : ∀ k ∈ e1.1 :: B.map (·.1), OkK k := fun k hk => by
              have : k ∈ (ts.filter (badT (keysOf es))).map (·.1) := by rw [hC]; exact hk
              obtain ⟨e, he, rfl⟩ := List.mem_map.mp this
              exact (hT e (List.mem_filter.mp he).1).1
            refine ⟨_, rfl, true, .inl ⟨ps.map V.ref, SqL.of gD8, ?_⟩, iteT ?_⟩
            · cases pP8
              rfl
            exact mkL_read rfl gD8 pP8 okB (by decide) fun m hm H' dd q S g1 g2 => kT hB _ _ m (by rw [hC]; rfl) hm H' dd q (S8.trans S) g1 g2
          | nil =>
            rw [hC] at pP8
            have e1 : ps = [] := by
              cases pP8
              rfl
            rw [e1] at gD8
            refine ⟨_, rfl, false, .inl ⟨[], SqL.of gD8, rfl⟩, iteF ?_⟩
            exact kOk hB hC _ S8
end
end Half

namespace Half
open PySem PySem.Spec PyProof.Rows L2
/-! ### Layout -/
abbrev sLy (i : Nat) : Stmt := inClass (top 39) i
/-- a layout at a: its store at st, its files at d1, what is taken over at d2 -/
structure LayAt (CY : Addr) (H : Hp) (a st d1 d2 : Addr) (fs : Fls) (ts : Tks) : Prop where
  ob : ∃ dx, H a = some (.ins CY dx [("held_store", .ref st), ("held_files", .ref d1), ("held_takes", .ref d2)])
  gf : H d1 = some (.dT (kvF fs))
  gt : H d2 = some (.dT (kvT ts))
structure TxtLy (K : PySem.W.Frag) (CY : Addr) : Prop where
  cl : Cls K CY
  nS : NoAttr K CY "held_store"
  nF : NoAttr K CY "held_files"
  nT : NoAttr K CY "held_takes"
def spLf (CY : Addr) : Sp := fun vs H Q _ => ∃ (a st d1 d2 : Addr) (fs : Fls) (ts : Tks), vs = [.ref a] ∧ LayAt CY H a st d1 d2 fs ts ∧ fs.length ≤ 100 ∧ (fs.map (·.1)).Nodup ∧ ∀ H' D, Same H H' → H D = none → H' D = some (.dT (kvF fs)) → Q (.ref D) H'
def spLt (CY : Addr) : Sp := fun vs H Q _ => ∃ (a st d1 d2 : Addr) (fs : Fls) (ts : Tks), vs = [.ref a] ∧ LayAt CY H a st d1 d2 fs ts ∧ ts.length ≤ 100 ∧ (ts.map (·.1)).Nodup ∧ ∀ H' D, Same H H' → H D = none → H' D = some (.dT (kvT ts)) → Q (.ref D) H'
def spLs (CY : Addr) : Sp := fun vs H Q _ => ∃ (a st d1 d2 : Addr) (fs : Fls) (ts : Tks), vs = [.ref a] ∧ LayAt CY H a st d1 d2 fs ts ∧ Q (.ref st) H
section
variable {P : Program} {w : World} {K : PySem.W.Frag} {mg : Str → Option Value} {base : Heap} {CY : Addr}
theorem scLf : FnScope ["self", "key"] ["self"] (defScope (sLy 2)) := ⟨rfl, rfl, rfl, by decide +kernel, rfl, by decide +kernel, by decide +kernel⟩
theorem ok_lf {f : Addr} {fd : FuncData} (F : Fun K "files" "Layout.files" (sLy 2) f fd) (T : TxtLy K CY) : FnOk P w K mg base CX0 1 f fd ["self"] (spLf CY) := by
  refine F.ok scLf (fun vs H Q E h => ?_) (fun cdv A outer s H vs Q E hr h => ?_)
  · obtain ⟨a, st, d1, d2, fs, ts, rfl, _⟩ := h
    rfl
  · obtain ⟨a, st, d1, d2, fs, ts, rfl, ⟨⟨dx, ho⟩, gf, gt⟩, lf, ndF, k⟩ := h
    have nd := scLf.nd
    have hu := hu_of hr
    refine ⟨_, pss_one (ps_ret (pe_lock (pe_dcG (own := [("key", 1)]) (g := gName 1) (tt := tYes) (tk := tVar 1) (tv := tDGet (tFld K (tVar 0) "held_files") (tVar 1)) Bare.t hu rfl nd (pi_keys (pe_fld (pv 0) rfl)) (blkOk_by (N := ["self", "key"]) (sc := defScope (sLy 2)) (by decide +kernel)) (fun _ _ _ _ _ => pg_name (i := 1) nd rfl (Or.inl rfl)) (fun _ _ _ _ _ => pts_nil)
        (fun _ _ _ _ _ => pv 1) (fun _ _ _ _ _ => pe_dget hu (pe_fld (pv 0) rfl) (pv 1) (fun _ _ => rfl))))), ?_⟩
    refine ⟨d1, _, gf, trivial, fun od => ?_⟩
    have nad : a ≠ d1 := ne_of ho gf (by intro z; cases z)
    have gL : (upd H d1 (.frz od (.dT (kvF fs)))) d1 = some (.frz od (.dT (kvF fs))) := upd_same
    have hoL : (upd H d1 (.frz od (.dT (kvF fs)))) a = some (.ins CY dx [("held_store", .ref st), ("held_files", .ref d1), ("held_takes", .ref d2)]) := by rw [upd_ne nad]; exact ho
    have back : ∀ H', Same (upd H d1 (.frz od (.dT (kvF fs)))) H' → Same H (upd H' d1 (.dT (kvF fs))) := fun H' S a o q => by
      by_cases c : a = d1
      · rw [c, gf] at q
        rw [c, upd_same]
        exact q
      · rw [upd_ne c]
        exact S _ _ (by rw [upd_ne c]; exact q)
    have nw : ∀ D, (upd H d1 (.frz od (.dT (kvF fs)))) D = none → H D = none ∧ D ≠ d1 := fun D z => by
      have n : D ≠ d1 := fun w => by rw [w, upd_same] at z; cases z
      rw [upd_ne n] at z
      exact ⟨z, n⟩
    generalize upd H d1 (.frz od (.dT (kvF fs))) = HL at gL hoL back nw ⊢
    refine ⟨_, rfl, a, CY, dx, _, _, rfl, hoL, T.cl, T.nF, rfl, d1, od, rfl, .inr ⟨kvF fs, gL, fun D hD => ?_⟩⟩
    refine dcG_it (walk_keysT (kvs := kvF fs)) (fun i H' => Same HL H' ∧ H' D = some (.dT (kvF (fs.take i)))) ⟨Same.upd_new hD, upd_same⟩ (fun _ _ _ h => h.1 _ _ gL) ?_ ?_
    · rintro i v H4 H5 hi ⟨s4, gD⟩ ⟨rfl, kk, vv, q, hkv, rfl, gq⟩
      have hi' : i < fs.length := by unfold kvF at hi; rw [List.length_map] at hi; exact hi
      have he := List.getElem?_eq_getElem hi'
      generalize fs[i] = e at he
      have ekv : (kvF fs)[i]? = some (keyL e.1, V.ref e.2.1) := by unfold kvF; rw [List.getElem?_map, he]; rfl
      have hv := val_nodup (kvF_nodup ndF) (keyL e.1, V.ref e.2.1) (List.mem_of_getElem? ekv)
      rw [ekv] at hkv
      obtain ⟨rfl, rfl⟩ := Prod.mk.inj (Option.some.inj hkv)
      refine ⟨rfl, ?_⟩
      refine ⟨_, rfl, _, rfl, a, CY, dx, _, _, rfl, s4 _ _ hoL, T.cl, T.nF, rfl, _, rfl, d1, .ref e.2.1, rfl, .inr ⟨kvF fs, keyL e.1, q, .inr ⟨od, s4 _ _ gL⟩, rfl, gq, hv.symm⟩, ?_⟩
      have new : valV (kvF (fs.take i)) (keyL e.1) = none := by
        cases c : valV (kvF (fs.take i)) (keyL e.1) with
        | none => rfl
        | some v =>
          have z := valV_in c
          unfold kvF at z
          rw [List.map_map] at z
          obtain ⟨e', he', ee⟩ := List.mem_map.mp z
          have hx : (fs.map (·.1))[i]? = some e.1 := by rw [List.getElem?_map, he]; rfl
          refine absurd ?_ (nodup_take ndF hx)
          rw [← keyL_inj ee, ← List.map_take]
          exact List.mem_map.mpr ⟨e', he', rfl⟩
      refine ⟨_, DPut.t (k := keyL e.1) gD gq (by unfold kvF; rw [List.length_map, List.length_take, sizeLine_eq]; omega), fun b o q' => ?_, ?_⟩
      · rw [upd_ne (ne_of_none q' hD)]
        exact s4 _ _ q'
      · rw [putK_new _ new, upd_same, take_next he]
        unfold kvF
        rw [List.map_append]
        rfl
    · rintro H4 ⟨s4, gD⟩
      have lkv : (kvF fs).length = fs.length := by unfold kvF; rw [List.length_map]
      rw [lkv, List.take_length] at gD
      obtain ⟨n1, n2⟩ := nw D hD
      refine ⟨s4 _ _ gL, ?_⟩
      exact k _ D (back H4 s4) n1 (by rw [upd_ne n2]; exact gD)
theorem scLt : FnScope ["self", "key"] ["self"] (defScope (sLy 3)) := ⟨rfl, rfl, rfl, by decide +kernel, rfl, by decide +kernel, by decide +kernel⟩
theorem ok_lt {f : Addr} {fd : FuncData} (F : Fun K "takes" "Layout.takes" (sLy 3) f fd) (T : TxtLy K CY) : FnOk P w K mg base CX0 1 f fd ["self"] (spLt CY) := by
  refine F.ok scLt (fun vs H Q E h => ?_) (fun cdv A outer s H vs Q E hr h => ?_)
  · obtain ⟨a, st, d1, d2, fs, ts, rfl, _⟩ := h
    rfl
  · obtain ⟨a, st, d1, d2, fs, ts, rfl, ⟨⟨dx, ho⟩, gf, gt⟩, lt, ndT, k⟩ := h
    have nd := scLt.nd
    have hu := hu_of hr
    refine ⟨_, pss_one (ps_ret (pe_lock (pe_dcG (own := [("key", 1)]) (g := gName 1) (tt := tYes) (tk := tVar 1) (tv := tDGet (tFld K (tVar 0) "held_takes") (tVar 1)) Bare.t hu rfl nd (pi_keys (pe_fld (pv 0) rfl)) (blkOk_by (N := ["self", "key"]) (sc := defScope (sLy 3)) (by decide +kernel)) (fun _ _ _ _ _ => pg_name (i := 1) nd rfl (Or.inl rfl)) (fun _ _ _ _ _ => pts_nil)
        (fun _ _ _ _ _ => pv 1) (fun _ _ _ _ _ => pe_dget hu (pe_fld (pv 0) rfl) (pv 1) (fun _ _ => rfl))))), ?_⟩
    refine ⟨d2, _, gt, trivial, fun od => ?_⟩
    have nad : a ≠ d2 := ne_of ho gt (by intro z; cases z)
    have gL : (upd H d2 (.frz od (.dT (kvT ts)))) d2 = some (.frz od (.dT (kvT ts))) := upd_same
    have hoL : (upd H d2 (.frz od (.dT (kvT ts)))) a = some (.ins CY dx [("held_store", .ref st), ("held_files", .ref d1), ("held_takes", .ref d2)]) := by rw [upd_ne nad]; exact ho
    have back : ∀ H', Same (upd H d2 (.frz od (.dT (kvT ts)))) H' → Same H (upd H' d2 (.dT (kvT ts))) := fun H' S a o q => by
      by_cases c : a = d2
      · rw [c, gt] at q
        rw [c, upd_same]
        exact q
      · rw [upd_ne c]
        exact S _ _ (by rw [upd_ne c]; exact q)
    have nw : ∀ D, (upd H d2 (.frz od (.dT (kvT ts)))) D = none → H D = none ∧ D ≠ d2 := fun D z => by
      have n : D ≠ d2 := fun w => by rw [w, upd_same] at z; cases z
      rw [upd_ne n] at z
      exact ⟨z, n⟩
    generalize upd H d2 (.frz od (.dT (kvT ts))) = HL at gL hoL back nw ⊢
    refine ⟨_, rfl, a, CY, dx, _, _, rfl, hoL, T.cl, T.nT, rfl, d2, od, rfl, .inr ⟨kvT ts, gL, fun D hD => ?_⟩⟩
    refine dcG_it (walk_keysT (kvs := kvT ts)) (fun i H' => Same HL H' ∧ H' D = some (.dT (kvT (ts.take i)))) ⟨Same.upd_new hD, upd_same⟩ (fun _ _ _ h => h.1 _ _ gL) ?_ ?_
    · rintro i v H4 H5 hi ⟨s4, gD⟩ ⟨rfl, kk, vv, q, hkv, rfl, gq⟩
      have hi' : i < ts.length := by unfold kvT at hi; rw [List.length_map] at hi; exact hi
      have he := List.getElem?_eq_getElem hi'
      generalize ts[i] = e at he
      have ekv : (kvT ts)[i]? = some (keyL e.1, V.ref e.2.1) := by unfold kvT; rw [List.getElem?_map, he]; rfl
      have hv := val_nodup (kvT_nodup ndT) (keyL e.1, V.ref e.2.1) (List.mem_of_getElem? ekv)
      rw [ekv] at hkv
      obtain ⟨rfl, rfl⟩ := Prod.mk.inj (Option.some.inj hkv)
      refine ⟨rfl, ?_⟩
      refine ⟨_, rfl, _, rfl, a, CY, dx, _, _, rfl, s4 _ _ hoL, T.cl, T.nT, rfl, _, rfl, d2, .ref e.2.1, rfl, .inr ⟨kvT ts, keyL e.1, q, .inr ⟨od, s4 _ _ gL⟩, rfl, gq, hv.symm⟩, ?_⟩
      have new : valV (kvT (ts.take i)) (keyL e.1) = none := by
        cases c : valV (kvT (ts.take i)) (keyL e.1) with
        | none => rfl
        | some v =>
          have z := valV_in c
          unfold kvT at z
          rw [List.map_map] at z
          obtain ⟨e', he', ee⟩ := List.mem_map.mp z
          have hx : (ts.map (·.1))[i]? = some e.1 := by rw [List.getElem?_map, he]; rfl
          refine absurd ?_ (nodup_take ndT hx)
          rw [← keyL_inj ee, ← List.map_take]
          exact List.mem_map.mpr ⟨e', he', rfl⟩
      refine ⟨_, DPut.t (k := keyL e.1) gD gq (by unfold kvT; rw [List.length_map, List.length_take, sizeLine_eq]; omega), fun b o q' => ?_, ?_⟩
      · rw [upd_ne (ne_of_none q' hD)]
        exact s4 _ _ q'
      · rw [putK_new _ new, upd_same, take_next he]
        unfold kvT
        rw [List.map_append]
        rfl
    · rintro H4 ⟨s4, gD⟩
      have lkv : (kvT ts).length = ts.length := by unfold kvT; rw [List.length_map]
      rw [lkv, List.take_length] at gD
      obtain ⟨n1, n2⟩ := nw D hD
      refine ⟨s4 _ _ gL, ?_⟩
      exact k _ D (back H4 s4) n1 (by rw [upd_ne n2]; exact gD)
theorem scLs : FnScope ["self"] ["self"] (defScope (sLy 1)) := ⟨rfl, rfl, rfl, by decide +kernel, rfl, by decide +kernel, by decide +kernel⟩
theorem ok_ls {f : Addr} {fd : FuncData} (F : Fun K "store" "Layout.store" (sLy 1) f fd) (T : TxtLy K CY) : FnOk P w K mg base CX0 1 f fd ["self"] (spLs CY) := by
  refine F.ok scLs (fun vs H Q E h => ?_) (fun cdv A outer s H vs Q E hr h => ?_)
  · obtain ⟨a, st, d1, d2, fs, ts, rfl, _⟩ := h
    rfl
  · obtain ⟨a, st, d1, d2, fs, ts, rfl, ⟨⟨dx, ho⟩, gf, gt⟩, k⟩ := h
    refine ⟨_, pss_one (ps_ret (pe_fld (pv 0) rfl)), ?_⟩
    exact ⟨_, rfl, a, CY, dx, _, _, rfl, ho, T.cl, T.nS, rfl, k⟩
end
end Half

/-! sets of tuples of ints and texts, wherever these stand: set(l), l a list of such -/
namespace L2
open PySem PySem.Froz PyProof.Rows PySem.Spec
/-- tuples, each with what it holds -/
def TupsAt (K : PySem.W.Frag) (H : Hp) (L : List (Addr × List Key)) : Prop := ∀ p ∈ L, SqT K H p.1 (p.2.map kV)
section
variable {X : Cx} {P : Program} {w : World} {A : Around} {E : Value → Shared → Prop} {s : Shared}
theorem tupK_sq {pins : List (Addr × Obj)} {σ : St} {H : Hp} {s : Shared} {b : Addr} {k : List Key} (I : Inv X pins σ H s) (h : SqT X.K H b (k.map kV)) : TupK X.prog X.w s.heap k b := by
  obtain ⟨us, r, ⟨o, g, c, n, d⟩, -⟩ := I.tuple h
  exact ⟨o, us.toArray, n, g, c, d, by simpa using items_are r⟩
/-- s.add(t) -/
def rSAddQ (P : Program) (w : World) (K : PySem.W.Frag) : V → List V → Hp → VK → Prop := fun x xs H Q => ∃ (a b : Addr) (k : List Key) (L : List (Addr × List Key)), x = V.ref a ∧ xs = [.ref b] ∧ SqT K H b (k.map kV) ∧ H a = some (TsO P w a L) ∧ TupsAt K H L ∧ L.length + 1 < 64 ∧
  (k ∈ L.map (·.2) → Q .non (upd H a (TsO P w a L))) ∧ (k ∉ L.map (·.2) → ∀ L', L'.Perm ((b, k) :: L) → Q .non (upd H a (TsO P w a L')))
theorem mt_saddQ (hu : X.A.units + 1 < cLine) : MtR X "set.add" (rSAddQ X.prog X.w X.K) := by
  intro pins s σ H x xs v us Q I rx rxs h
  obtain ⟨a, b, k, L, rfl, rfl, hb, ha, hL, room, q1, q2⟩ := h
  cases rx
  obtain ⟨u, rfl, ru⟩ := rxs.one
  cases ru
  obtain ⟨es, ep, t, R⟩ := tsO_get I ha
  have T := tupK_sq I hb
  refine wpAny_call_entry F.slot_set_add (setTK_type R) F.entry_set_add ?_ (F.args_set_add_2 _ _)
  simp only [Builtin.«set.add», Builtin.Frozenset.oneOther, Builtin.Frozenset.addrOf, setAdd, List.isEmpty_nil, bind_assoc]
  refine wpAny_bind (wpAny_pure (wpAny_bind (wpAny_pure (wpAny_bind (wpAny_holding (wpAny_bind (wpAny_pyHash_tuple (A := X.A.in1) hu T ?_)))))))
  refine add_key (s := { s with toks := s.toks + (k.length + 1) }) R (fun p hp => tupK_sq (s := s) I (hL p hp)) T (by exact hu) room fun c h' L' es' ep' t' sb R' y n => ?_
  show wpAny _ _ (ret Value.none) _ _ _
  refine wpAny_pure ⟨_, rfl, ?_⟩
  have he : ∃ u, h'.get? a = some u := by
    have ⟨o, go, _⟩ := R'.ob
    exact ⟨o, go⟩
  refine ⟨.non, upd H a (TsO X.prog X.w a L'), I.write (e := a) (t' := s.toks + (k.length + 1)) (by rw [ha]; trivial) (.inl rfl) (fun b u hb hu => (sb.2 b hb).trans hu) he (tsO_new R'), rfl, ?_⟩
  by_cases m : k ∈ L.map (·.2)
  · rw [y m]; exact q1 m
  · exact q2 m L' (n m)
/-! set(l) -/
/-- set(l), with the room that the loop has: what the loop that puts the items in makes of the bare set is the set -/
theorem set_madeU {l : Addr} {xs : Array Value} {Q : Value → Shared → Prop} (Gd : Heap → Prop) (hl : s.heap.IsList l xs) (hh : A.handled = none)
    (loop : ∀ B : Around, B.handled = none → B.units = A.units + 2 → codeAny (model P w) B (.builtin "set.update.loop" ⟨[.ref s.heap.objs.size, .ref (s.heap.objs.size + 1)], []⟩)
      (fun r z => r = .ok (.ret .none) ∧ ∃ h' tk, z = { s with heap := h', toks := tk } ∧ Gd h' ∧ ∀ b o, s.heap.get? b = some o → h'.get? b = some o)
      { s with heap := (s.heap.push (bareSet w)).push { cls := .type "list_iterator", data := .fields #[.ref l, .int 0 0] } })
    (q : ∀ h' tk, Gd h' → (∀ b o, s.heap.get? b = some o → h'.get? b = some o) → Q (.ref s.heap.objs.size) { s with heap := h', toks := tk }) : wpAny (model P w) A (call (.type "set") [.ref l]) Q E s := by
  obtain ⟨c, tl, hmro⟩ := F.called_set.mro
  have f1 := F.called_set.made
  have f2 := F.called_set.sub
  have f3 := F.called_set.notType
  have f4 := F.called_set.canCreate
  have f5 := F.typeCall_set_1 (.ref l)
  refine wpAny_call (codeAny_of_tree (?_ : wpAny _ _ (callAny (.type "set") _) _ _ _))
  refine wpAny_pure ⟨Code.quiet_builtin _ (by decide +kernel), codeAny_builtin F.entry_type_call ?_⟩
  rw [Around.under_plain (weight_type_call_type "set" [.ref l] []) rfl]
  repeat (any_goals (first | assumption | wp_step))
  refine codeAny_mono (code_set_led1 (.ref l) (E := E) (Q₁ := fun v z => v = .ref s.heap.objs.size ∧ z = { s with heap := s.heap.push (bareSet w) }) ⟨rfl, rfl⟩) fun r z hr => ?_
  match r, hr with
  | .error e, hr => exact hr
  | .ok .next, hr => exact hr.elim
  | .ok .brk, hr => exact hr.elim
  | .ok .cont, hr => exact hr.elim
  | .ok (.ret v), hr =>
    obtain ⟨rfl, rfl⟩ := hr
    have own : (s.heap.push (bareSet w)).get? s.heap.objs.size = some (bareSet w) := Heap.get?_push_size _ rfl
    have ty : Shared.TypeIs { s with heap := s.heap.push (bareSet w) } (.ref s.heap.objs.size) "set" := ⟨_, own, rfl⟩
    have f6 := F.called_set.init.lookup
    have f7 := F.called_set.init.bind (.ref s.heap.objs.size)
    repeat (any_goals (first | assumption | wp_step))
    refine codeAny_mono (codeAny_call_builtin (R := wants (fun v z => v = .none ∧ ∃ h' tk, z = { s with heap := h', toks := tk } ∧ Gd h' ∧ ∀ b o, s.heap.get? b = some o → h'.get? b = some o) E) F.called_set.init.plain F.entry_set_init (check_set_init_1 ty ?init)) fun r2 z2 hr2 => ?_
    case init =>
      obtain ⟨⟨cl, dc, dt, sl⟩, g, gc, n, gd⟩ := hl
      simp only at gc gd
      subst gc gd
      have g1 : (s.heap.push (bareSet w)).get? l = some ⟨.type "list", dc, .seq xs n, sl⟩ := Heap.get?_push_of_some _ g
      have li : (s.heap.push (bareSet w)).IsList l xs := ⟨_, g1, rfl, n, rfl⟩
      have k1 := F.sub_list_set
      have k2 := F.sub_list_frozenset
      have k3 : (Value.type "list" == Value.type "dict") = false := by decide
      unfold Builtin.«set.__init__» noKeywords Builtin.Frozenset.updateFrom
      generalize hi : pyIter = PI
      wp_walk
      subst hi
      refine wpAny_pyIter_list li (wpAny_bind (wpAny_runValue ?_))
      have lo := loop A.in1.in1 (by simp [hh]) rfl
      rw [Heap.size_push]
      refine codeAny_mono lo fun r3 z3 h3 => ?_
      obtain ⟨rfl, h', tk, rfl, gd, keep⟩ := h3
      exact wpAny_pure (wpAny_pure ⟨rfl, h', tk, rfl, gd, keep⟩)
    match r2, hr2 with
    | .error e, hr2 => exact hr2
    | .ok .next, hr2 => exact hr2.elim
    | .ok .brk, hr2 => exact hr2.elim
    | .ok .cont, hr2 => exact hr2.elim
    | .ok (.ret v), hr2 =>
      obtain ⟨rfl, h', tk, rfl, gd, keep⟩ := hr2
      repeat (any_goals (first | assumption | wp_step))
      exact q h' tk gd keep
/-- the loop over a list, as fill_list, where J may speak of all but the iterator -/
theorem fill_listB {S I l : Addr} {items : Array Value} (J : Nat → Heap → Prop) (calm : A.handled = none) (apart : S ≠ I ∧ S ≠ l ∧ l ≠ I) (stay : ∀ i h h', (∀ b o, b ≠ I → h.get? b = some o → h'.get? b = some o) → J i h → J i h')
    (add : ∀ i x (z : Shared) (Q : Bool → Shared → Prop) (X : Value → Shared → Prop), items[i]? = some x → J i z.heap → (∀ b h' tk, Heap.SameBut S z.heap h' → J (i + 1) h' → Q b { z with heap := h', toks := tk }) → wpAny (model P w) A.in1 (setAdd S x) Q X z) :
    ∀ (n i : Nat) (z : Shared), n + i = items.size → z.heap.IsListIter I l i → z.heap.IsList l items → J i z.heap → codeAny (model P w) A (.builtin "set.update.loop" ⟨[.ref S, .ref I], []⟩)
      (fun r y => r = .ok (.ret .none) ∧ ∃ h' tk, y = { z with heap := h', toks := tk } ∧ J items.size h' ∧ ∀ b o, b ≠ S → b ≠ I → z.heap.get? b = some o → h'.get? b = some o) z := by
  intro n
  induction n with
  | zero =>
    intro i z en it li j
    obtain rfl : i = items.size := by omega
    refine codeAny_builtin F.entry_set_update_loop ((Around.under_plainId F.plain_set_update_loop _).symm ▸ wpAny_bind (wpAny_pyNext_list_end calm it li (Array.getElem?_eq_none (Nat.le_refl _)) fun h' ext => ?_))
    exact wpAny_pure ⟨rfl, h', z.toks, rfl, stay _ _ _ (fun b o bI e => ext b o bI e) j, fun b o _ bI e => ext b o bI e⟩
  | succ n more =>
    intro i z en it li j
    have lt : i < items.size := by omega
    have hx := Array.getElem?_eq_getElem lt
    generalize items[i] = x at hx
    refine codeAny_builtin F.entry_set_update_loop ((Around.under_plainId F.plain_set_update_loop _).symm ▸ wpAny_bind (wpAny_pyNext_list_item it li hx fun h1 it1 sb1 => ?_))
    have j1 : J i h1 := stay _ _ _ (fun b o bI e => (sb1.2 b bI).trans e) j
    refine wpAny_bind (wpAny_holding (add i _ { z with heap := h1 } _ _ hx j1 fun b h2 tk2 sb2 j2 => wpAny_pure ⟨plainId_quiet F.plain_set_update_loop _, ?_⟩))
    have li1 : h1.IsList l items := li.at fun o e => (sb1.2 l apart.2.2).trans e
    refine codeAny_mono (more (i + 1) { z with heap := h2, toks := tk2 } (by omega) (it1.at fun o e => (sb2.2 I (Ne.symm apart.1)).trans e) (li1.at fun o e => (sb2.2 l (Ne.symm apart.2.1)).trans e) j2) ?_
    rintro r y ⟨rfl, h', tk, rfl, jn, far⟩
    exact ⟨rfl, h', tk, rfl, jn, fun b o bS bI e => far b o bS bI ((sb2.2 b bS).trans ((sb1.2 b bI).trans e))⟩
def rSetQ (P : Program) (w : World) (K : PySem.W.Frag) : List V → Hp → VK → Prop := fun vs H Q => ∃ (p : Addr) (xs : List (Addr × List Key)) (D : List (List Key)), vs = [.ref p] ∧ SqL K H p (xs.map fun x => V.ref x.1) ∧ TupsAt K H xs ∧ (∀ x ∈ xs, x.2 ∈ D) ∧ D.length < 63 ∧
  ∀ (a : Addr) (L : List (Addr × List Key)), (L.map (·.2)).Nodup → (∀ q ∈ L, q ∈ xs) → (∀ x ∈ xs, x.2 ∈ L.map (·.2)) → H a = none → Q (.ref a) (upd H a (TsO P w a L))
theorem sub_len {α : Type} [DecidableEq α] : ∀ {l m : List α}, l.Nodup → (∀ z ∈ l, z ∈ m) → l.length ≤ m.length
  | [], _, _, _ => Nat.zero_le _
  | x :: l, m, hn, hs => by
    obtain ⟨n1, n2⟩ := List.nodup_cons.mp hn
    have hx := hs x (.head _)
    have ih := sub_len (l := l) (m := m.erase x) n2 fun z hz => (List.mem_erase_of_ne fun e => n1 (by rw [← e]; exact hz)).mpr (hs z (.tail _ hz))
    rw [List.length_erase_of_mem hx] at ih
    have := List.length_pos_of_mem hx
    rw [List.length_cons]
    omega
/-- what the set holds behind i items -/
structure SetQ (P : Program) (w : World) (xs : List (Addr × List Key)) (S : Addr) (i : Nat) (h : Heap) : Prop where
  tup : ∀ x ∈ xs, TupK P w h x.2 x.1
  ex : ∃ L es ep t, SetTK P w h S L es ep t ∧ (∀ q ∈ L, q ∈ xs) ∧ ∀ x ∈ xs.take i, x.2 ∈ L.map (·.2)
theorem vals_from : ∀ {xs : List V} {us : List Value} {i : Nat} {u : Value}, Vals xs us → us[i]? = some u → ∃ x, xs[i]? = some x ∧ RelV x u
  | _, _, _, _, .nil, h => by simp at h
  | x :: _, _, 0, _, .cons r _, h => by cases h; exact ⟨x, rfl, r⟩
  | _ :: _, _, i + 1, _, .cons _ t, h => vals_from (i := i) t h
theorem tupK_stay {h h' : Heap} {k : List Key} {b : Addr} (T : TupK P w h k b) (keep : ∀ o, h.get? b = some o → h'.get? b = some o) : TupK P w h' k b := by
  obtain ⟨o, its, n, g, r⟩ := T
  exact ⟨o, its, n, keep _ g, r⟩
theorem cr_setQ (hc : X.calm = true) (hu : X.A.units + 9 < cLine) : CallR X (.type "set") (rSetQ X.prog X.w X.K) := by
  intro pins s σ H vs us Q I r h
  obtain ⟨p, xs, D, rfl, hs, hT, hD, few, q⟩ := h
  obtain ⟨its, rv, hl, _⟩ := I.list hs
  rw [Vals.ref1 r]
  have li := hl.isList
  have lt : p < s.heap.objs.size := by obtain ⟨o, g, _⟩ := li; exact Heap.lt_size g
  have ilen : its.length = xs.length := by have := rv.length; rw [List.length_map] at this; exact this.symm
  have tup0 : ∀ x ∈ xs, TupK X.prog X.w s.heap x.2 x.1 := fun x hx => tupK_sq I (hT x hx)
  have ne1 : s.heap.objs.size ≠ s.heap.objs.size + 1 := Nat.ne_of_lt (Nat.lt_succ_self _)
  refine set_madeU (fun h' => SetQ X.prog X.w xs s.heap.objs.size its.toArray.size h') li (I.ok.hd hc) (fun B hB uB => ?_) (fun h' tk J keep => ?_)
  · have top : ((s.heap.push (bareSet X.w)).push { cls := .type "list_iterator", data := .fields #[.ref p, .int 0 0] }).get? (s.heap.objs.size + 1) = some { cls := .type "list_iterator", data := .fields #[.ref p, .int 0 0] } := by
      rw [← Heap.size_push s.heap (bareSet X.w)]
      exact Heap.get?_push_size _ rfl
    have old : ∀ b o, s.heap.get? b = some o → ((s.heap.push (bareSet X.w)).push { cls := .type "list_iterator", data := .fields #[.ref p, .int 0 0] }).get? b = some o := fun b o e => Heap.get?_push_of_some _ (Heap.get?_push_of_some _ e)
    have new0 : ((s.heap.push (bareSet X.w)).push { cls := .type "list_iterator", data := .fields #[.ref p, .int 0 0] }).get? s.heap.objs.size = some (bareSet X.w) := Heap.get?_push_of_some _ (Heap.get?_push_size _ rfl)
    refine codeAny_mono (fill_listB (A := B) (fun i h => SetQ X.prog X.w xs s.heap.objs.size i h ∧ ∀ x ∈ xs, x.1 < s.heap.objs.size) hB ⟨ne1, Nat.ne_of_gt lt, Nat.ne_of_lt (Nat.lt_succ_of_lt lt)⟩ (fun i h h' k J => ?_) (fun i x z Q' X' hx J k => ?_) its.toArray.size 0 _ rfl ⟨_, top, rfl, rfl⟩ ((li.push _).push _) ?_) ?_
    · obtain ⟨⟨t1, L, es, ep, t, R, a1, a2⟩, a3⟩ := J
      refine ⟨⟨fun x hx => tupK_stay (t1 x hx) fun o e => k _ _ (Nat.ne_of_lt (Nat.lt_succ_of_lt (a3 x hx))) e, L, es, ep, t, setTK_move R (fun o e => k _ _ ne1 e), a1, a2⟩, a3⟩
    · obtain ⟨⟨t1, L, es, ep, t, R, a1, a2⟩, a3⟩ := J
      rw [List.getElem?_toArray] at hx
      obtain ⟨v, hv, rx⟩ := vals_from rv hx
      rw [List.getElem?_map] at hv
      obtain ⟨y, hy, rfl⟩ := Option.map_eq_some_iff.mp hv
      cases (show x = Value.ref y.1 from rx)
      have ym := List.mem_of_getElem? hy
      have T := t1 y ym
      refine wpAny_holding (wpAny_bind (wpAny_pyHash_tuple (A := B.in1) (by show B.units + 1 < cLine; omega) T ?_))
      have Llen : L.length + 1 < 64 := by
        have := sub_len (m := D) R.one fun z hz => by
          obtain ⟨e, he, rfl⟩ := List.mem_map.mp hz
          exact hD e (a1 e he)
        rw [List.length_map] at this
        omega
      refine add_key (s := { z with toks := z.toks + (y.2.length + 1) }) R (fun e he => t1 e (a1 e he)) T (by show B.units + 1 < cLine; omega) Llen fun c h' L' es' ep' t' sb R' there new => ?_
      have so : ∃ o, z.heap.get? s.heap.objs.size = some o ∧ o.data = .set es ep t := let ⟨o, g, _, d⟩ := R.ob; ⟨o, g, d⟩
      refine k _ h' _ sb ⟨⟨fun e he => ?_, L', es', ep', t', R', fun e he => ?_, fun e he => ?_⟩, a3⟩
      · obtain ⟨o, g, d⟩ := so
        exact tup_same (t1 e he) g d sb
      · by_cases m : y.2 ∈ L.map (·.2)
        · rw [there m] at he
          exact a1 e he
        · rcases List.mem_cons.mp ((new m).mem_iff.mp he) with rfl | q
          · exact ym
          · exact a1 e q
      · rw [take_next hy] at he
        by_cases m : y.2 ∈ L.map (·.2)
        · rw [there m]
          rcases List.mem_append.mp he with q | q
          · exact a2 e q
          · rw [List.mem_singleton.mp q]; exact m
        · refine ((new m).map (·.2)).mem_iff.mpr ?_
          rcases List.mem_append.mp he with q | q
          · exact .tail _ (a2 e q)
          · rw [List.mem_singleton.mp q]; exact .head _
    · exact ⟨⟨fun x hx => tupK_stay (tup0 x hx) fun o e => old _ _ e, [], #[], 0, _, setTK_nil new0, fun e he => (nomatch he), fun e he => (nomatch he)⟩, fun x hx => let ⟨o, _, _, g, _⟩ := tup0 x hx; Heap.lt_size g⟩
    · rintro r y ⟨rfl, h', tk, rfl, J, far⟩
      exact ⟨rfl, h', tk, rfl, J.1, fun b o e => far b o (Nat.ne_of_lt (Heap.lt_size e)) (Nat.ne_of_lt (Nat.lt_succ_of_lt (Heap.lt_size e))) (old _ _ e)⟩
  · obtain ⟨-, L, es, ep, t, R, a1, a2⟩ := J
    refine ⟨.ref _, upd H s.heap.objs.size (TsO X.prog X.w s.heap.objs.size L), I.laid (t' := tk) keep (Nat.le_refl _) (tsO_new R), rfl, q _ L R.one a1 (fun x hx => a2 x ?_) (I.hok.fresh (Nat.le_refl _))⟩
    have e : its.toArray.size = xs.length := by rw [List.size_toArray, ilen]
    rw [e, List.take_length]
    exact hx
end
end L2

/-! sorted(xs), xs a list of things that read as data, in the order of the data -/
namespace L2
open PySem PySem.Spec PyProof.Rows
theorem all_refs {β : Type} {g : β → Addr} : ∀ {xs : List β} {us : List Value}, Vals (xs.map fun x => V.ref (g x)) us → PySem.W.EachIs (fun v x => v = Value.ref (g x)) us xs
  | [], _, r => by
    cases r
    exact .nil
  | x :: xs, _, r => by
    cases r with
    | cons r1 r2 => exact .cons r1 (all_refs r2)
theorem refs_vals {β : Type} {g : β → Addr} {us : List Value} {xs : List β} (h : PySem.W.EachIs (fun v x => v = Value.ref (g x)) us xs) : Vals (xs.map fun x => V.ref (g x)) us := by
  induction h with
  | nil => exact .nil
  | cons h _ ih => exact .cons h ih
theorem dps_of {K : PySem.W.Frag} {H : Hp} : ∀ {xs : List (Addr × PyData)}, (∀ x ∈ xs, Dp K H (.ref x.1) x.2) → DpAll K H (xs.map fun x => V.ref x.1) (xs.map fun x => x.2)
  | [], _ => .nil
  | x :: xs, h => .cons (h x (.head _)) (dps_of fun y hy => h y (.tail _ hy))
def rSortRd (K : PySem.W.Frag) : List V → Hp → VK → Prop := fun vs H Q => ∃ (a : Addr) (xs : List (Addr × PyData)), vs = [V.ref a] ∧ SqL K H a (xs.map fun x => V.ref x.1) ∧ (∀ x ∈ xs, Dp K H (.ref x.1) x.2) ∧ PySem.W.AllAlike (xs.map fun x => x.2) ∧ PySem.W.Sortable (xs.map fun x => x.2) ∧ (∀ x ∈ xs, x.2.depth ≤ 20) ∧
  ∀ (ys : List (Addr × PyData)) (p : Addr), ys.Perm xs → (ys.Pairwise fun x y => PySem.W.dataLt y.2 x.2 = false) → H p = none → Q (.ref p) (upd H p (.lst (ys.map fun x => V.ref x.1)))
section
variable {X : Cx}
theorem cr_sortRd (hu : X.A.units + 40 < cLine) : CallR X (.builtin "sorted") (rSortRd X.K) := by
  intro pins s σ H vs us Q I r h
  obtain ⟨a, xs, rfl, hs, hd, hal, hk, dp, q⟩ := h
  obtain ⟨its, rv, hl, hz⟩ := I.list hs
  rw [Vals.ref1 r]
  rw [List.length_map] at hz
  obtain ⟨as, ra⟩ := Dp.readsAll I _ _ its (dps_of hd) rv
  refine PySem.W.sorted_data (R := fun v (x : Addr × PyData) => v = .ref x.1) (enc := fun x : Addr × PyData => x.2) hl.isList (all_refs rv) (PySem.W.readsAll_each (fun x : Addr × PyData => x.2) ra) hal hk hz (fun x hx => ?_) fun out lo eo => ?_
  · have := dp x hx
    show X.A.units + 2 + x.2.depth < cLine
    omega
  have pm := List.mergeSort_perm xs (PySem.W.dataLe false fun x : Addr × PyData => x.2)
  have ⟨n, hn⟩ := sortedAll_at s.heap its (List.toArray out)
  refine ⟨.ref _, upd H _ (.lst ((xs.mergeSort (PySem.W.dataLe false fun x : Addr × PyData => x.2)).map fun x => V.ref x.1)), I.laid (t' := s.toks) (fun _ _ e => sortedAll_old e) (Nat.le_succ _) ⟨by rw [List.length_map, pm.length_eq]; exact hz, _, n, refs_vals (g := fun x : Addr × PyData => x.1) eo, hn⟩, rfl, q _ _ pm ?_ (I.hok.fresh (Nat.le_succ _))⟩
  refine (PySem.W.sort_pairwise (PySem.W.sortLe_total _ false _) _).imp fun {x y} h => ?_
  have h' : PySem.W.dataLe false (fun x : Addr × PyData => x.2) x y = true := h
  rw [PySem.W.dataLe_eq] at h'
  have h2 : (!PySem.W.dataLt y.2 x.2) = true := h'
  cases c : PySem.W.dataLt y.2 x.2 with
  | false => rfl
  | true => rw [c] at h2; cases h2
end
end L2

/-! sorted(s), s a set of tuples of ints and texts -/
namespace L2
open PySem PySem.Froz PyProof.Rows PySem.Spec
def keyD : Key → PyData
  | .inl i => .int i
  | .inr x => .str x
def tupD (k : List Key) : PyData := .tuple (k.map keyD)
theorem dp_keys {K : PySem.W.Frag} {H : Hp} : ∀ k : List Key, DpAll K H (k.map kV) (k.map keyD)
  | [] => .nil
  | .inl i :: k => .cons (.int i) (dp_keys k)
  | .inr x :: k => .cons (.str x) (dp_keys k)
theorem dp_tup {K : PySem.W.Frag} {H : Hp} {t : Addr} {k : List Key} (h : SqT K H t (k.map kV)) : Dp K H (.ref t) (tupD k) := .tup h (dp_keys k)
theorem depth_keys : ∀ k : List Key, PyData.depthAll (k.map keyD) = 0
  | [] => rfl
  | .inl i :: k => by rw [List.map_cons, PyData.depthAll, depth_keys k]; rfl
  | .inr x :: k => by rw [List.map_cons, PyData.depthAll, depth_keys k]; rfl
theorem depth_tup (k : List Key) : (tupD k).depth = 1 := by
  show (PyData.tuple _).depth = 1
  rw [PyData.depth, depth_keys]
theorem perm_back {α β : Type} {f : α → β} : ∀ {m : List β} {l : List α}, m.Perm (l.map f) → ∃ l' : List α, l'.Perm l ∧ m = l'.map f
  | [], l, h => ⟨[], by
      have e := h.length_eq
      rw [List.length_map] at e
      rw [List.eq_nil_of_length_eq_zero e.symm], rfl⟩
  | x :: m, l, h => by
    have hx : x ∈ l.map f := h.mem_iff.mp (.head _)
    obtain ⟨a, ha, rfl⟩ := List.mem_map.mp hx
    obtain ⟨s, t, rfl⟩ := List.append_of_mem ha
    have h2 : (f a :: m).Perm (f a :: (s ++ t).map f) := h.trans (by rw [List.map_append, List.map_cons, List.map_append]; exact List.perm_middle)
    obtain ⟨l', p, e⟩ := perm_back h2.cons_inv
    exact ⟨a :: l', (p.cons a).trans List.perm_middle.symm, by rw [e]; rfl⟩
def rSortQ (P : Program) (w : World) (K : PySem.W.Frag) : List V → Hp → VK → Prop := fun vs H Q => ∃ (a : Addr) (L : List (Addr × List Key)), vs = [.ref a] ∧ H a = some (TsO P w a L) ∧ TupsAt K H L ∧ PySem.W.AllAlike (L.map fun x => tupD x.2) ∧ PySem.W.Sortable (L.map fun x => tupD x.2) ∧
  ∀ (ys : List (Addr × List Key)) (p : Addr), ys.Perm L → (ys.Pairwise fun x y => PySem.W.dataLt (tupD y.2) (tupD x.2) = false) → H p = none → Q (.ref p) (upd H p (.lst (ys.map fun x => V.ref x.1)))
section
variable {X : Cx}
theorem each_of_map {α β : Type} {R : β → α → Prop} {f : α → β} (h : ∀ x, R (f x) x) : ∀ l : List α, PySem.W.EachIs R (l.map f) l
  | [] => .nil
  | x :: l => .cons (h x) (each_of_map h l)
theorem each_all {α β : Type} {R : β → α → Prop} {f : α → β} : ∀ {l : List α}, (∀ x ∈ l, R (f x) x) → PySem.W.EachIs R (l.map f) l
  | [], _ => .nil
  | x :: l, h => .cons (h x (.head _)) (each_all fun y hy => h y (.tail _ hy))
theorem cr_sortQ (hc : X.calm = true) (hu : X.A.units + 40 < cLine) : CallR X (.builtin "sorted") (rSortQ X.prog X.w X.K) := by
  intro pins s σ H vs us Q I r h
  obtain ⟨a, L, rfl, ha, hT, hal, hk, q⟩ := h
  obtain ⟨es, ep, t, R⟩ := tsO_get I ha
  rw [Vals.ref1 r]
  have few := R.few
  have sz := ents_len R.row
  obtain ⟨o, go, gx, gd⟩ := R.ob
  refine Calls.call_function_entry kind_sorted plain_sorted entry_sorted (args_sorted1 _) ?_
  unfold Builtin.«sorted»
  refine wpAny_bind (m := checkCount "sorted" 1 1 _) (wpAny_pure ?_)
  refine wpAny_bind (collect_set (A := X.A.in1) (I.ok.hd hc) ⟨o, go, gx.1, gd⟩ R.fit (by show es.size < 4096; omega) R.tab.ris R.led fun z vs keep hz g1 o1 pm => ?_)
  have em : es.toList.map (·.2) = L.map fun p => Value.ref p.1 := by
    rw [R.row]
    unfold ents
    rw [List.map_map]
    rfl
  rw [em] at pm
  obtain ⟨ys0, pl, rfl⟩ := perm_back pm
  have vlen : (ys0.map fun p => Value.ref p.1).length = L.length := by rw [List.length_map, pl.length_eq]
  refine wpAny_bind (wpAny_newList ?_ (by rw [vlen, sizeLine_eq]; omega))
  have hoL : (z.heap.push (seqObj "list" (ys0.map fun p => Value.ref p.1).toArray 0)).get? z.heap.objs.size = some (seqObj "list" (ys0.map fun p => Value.ref p.1).toArray 0) := Heap.get?_push_size _ rfl
  have alp : PySem.W.AllAlike (ys0.map fun x => tupD x.2) := fun x hx y hy => hal x ((pl.map _).mem_iff.mp hx) y ((pl.map _).mem_iff.mp hy)
  have skp : PySem.W.Sortable (ys0.map fun x => tupD x.2) := by
    rcases hk with q | q
    · exact .inl fun d hd => q d ((pl.map _).mem_iff.mp hd)
    · exact .inr fun d hd => q d ((pl.map _).mem_iff.mp hd)
  have rd : ∀ p ∈ ys0, ∃ as, Reads (z.heap.push (seqObj "list" (ys0.map fun p => Value.ref p.1).toArray 0)) (.ref p.1) (tupD p.2) as ∧ z.heap.objs.size ∉ as := fun p hp => by
    obtain ⟨as, ra⟩ := (dp_tup (hT p (pl.mem_iff.mp hp))).reads I (tupD p.2) _ (.ref p.1) rfl
    have rz := PyProof.Rows.Reads.keeps keep ra
    exact ⟨as, PyProof.Rows.Reads.keeps (fun b u e => Heap.get?_push_of_some _ e) rz, fun m => by
      obtain ⟨u, e⟩ := PyProof.On.reads_mem_get rz _ m
      exact Nat.lt_irrefl _ (Heap.lt_size e)⟩
  refine wpAny_bind (wpAny_holding (PySem.W.list_sort_data (A := X.A.in1) (R := fun v (x : Addr × List Key) => v = .ref x.1) (enc := fun x : Addr × List Key => tupD x.2) hoL (each_of_map (f := fun p : Addr × List Key => Value.ref p.1) (fun _ => rfl) ys0) (each_all (f := fun p : Addr × List Key => Value.ref p.1) rd) alp skp (by rw [pl.length_eq, sizeLine_eq]; omega) (fun x hx => by
    show X.A.units + 1 + 1 + (tupD x.2).depth < cLine
    rw [depth_tup]
    omega) fun out lo eo => ?_))
  obtain ⟨c, hcn⟩ := sortedHeap_at (vs := ys0.map fun p => Value.ref p.1) (out := List.toArray out) hoL
  refine wpAny_pure ⟨_, rfl, ?_⟩
  have ms := List.mergeSort_perm ys0 (PySem.W.dataLe false fun x : Addr × List Key => tupD x.2)
  have keep2 : ∀ b u, s.heap.get? b = some u → (sortedHeap (z.heap.push (seqObj "list" (ys0.map fun p => Value.ref p.1).toArray 0)) z.heap.objs.size (ys0.map fun p => Value.ref p.1) (List.toArray out)).get? b = some u := fun b u e => by
    have k := keep b u e
    have hlt := Heap.lt_size k
    rw [sortedHeap_old (Nat.ne_of_lt hlt) (by rw [size_push']; exact Nat.lt_succ_of_lt hlt)]
    exact Heap.get?_push_of_some _ k
  have hn : H z.heap.objs.size = none := I.hok.fresh hz
  have fin := q _ z.heap.objs.size (ms.trans pl) ((PySem.W.sort_pairwise (PySem.W.sortLe_total _ false _) _).imp fun {x y} h => by
    have h' : PySem.W.dataLe false (fun x : Addr × List Key => tupD x.2) x y = true := h
    rw [PySem.W.dataLe_eq] at h'
    have h2 : (!PySem.W.dataLt (tupD y.2) (tupD x.2)) = true := h'
    cases c : PySem.W.dataLt (tupD y.2) (tupD x.2) with
    | false => rfl
    | true => rw [c] at h2; cases h2) hn
  have hlen : ((ys0.mergeSort (PySem.W.dataLe false fun x : Addr × List Key => tupD x.2)).map fun x => V.ref x.1).length ≤ sizeLine := by
    rw [List.length_map, ms.length_eq, pl.length_eq, sizeLine_eq]
    omega
  have rel := refs_vals (g := fun x : Addr × List Key => x.1) eo
  generalize sortedHeap (z.heap.push (seqObj "list" (ys0.map fun p => Value.ref p.1).toArray 0)) z.heap.objs.size (ys0.map fun p => Value.ref p.1) (List.toArray out) = hF at keep2 hcn ⊢
  obtain ⟨zh, zg, zd, zt, zo⟩ := z
  dsimp only at *
  subst g1 o1
  refine ⟨.ref zh.objs.size, upd H zh.objs.size (.lst ((ys0.mergeSort (PySem.W.dataLe false fun x : Addr × List Key => tupD x.2)).map fun x => V.ref x.1)), ?_, rfl, fin⟩
  exact I.call (ch := []) (d' := zd) (t' := zt) (Un.laid keep2 hz hn) (I.hok.laid keep2 hz ⟨hlen, out, c, rel, hcn⟩) I.bare (fun _ z => nomatch z)
end
end L2

/-! sorted(d), d a dict whose keys are tuples of texts and ints -/
namespace L2
open PySem PySem.Froz PyProof.Rows PySem.Spec
def rSortDT (K : PySem.W.Frag) : List V → Hp → VK → Prop := fun vs H Q => ∃ (d : Addr) (kvs : List (List Key × V)), vs = [.ref d] ∧ Rd H d (.dT kvs) ∧ kvs.length ≤ 4000 ∧ PySem.W.AllAlike (kvs.map fun x => tupD x.1) ∧ PySem.W.Sortable (kvs.map fun x => tupD x.1) ∧
  ∀ (ys : List (Addr × List Key)) (p : Addr), (ys.map (·.2)).Perm (kvs.map (·.1)) → (∀ y ∈ ys, H y.1 = some (.tup (y.2.map kV))) → (ys.Pairwise fun x y => PySem.W.dataLt (tupD y.2) (tupD x.2) = false) → H p = none → Q (.ref p) (upd H p (.lst (ys.map fun x => V.ref x.1)))
theorem kt_keys {H : Hp} {kvs : List (List Key × V)} {ks : List (List Key × Addr × Value)} (r : KT H kvs ks) : kvs.map (·.1) = ks.map (·.1) ∧ ∀ x ∈ ks, H x.2.1 = some (.tup (x.1.map kV)) := by
  induction r with
  | nil => exact ⟨rfl, fun _ h => (nomatch h)⟩
  | @cons p q _ _ h t ih =>
    obtain ⟨h1, h2, h3⟩ := h
    refine ⟨by rw [List.map_cons, List.map_cons, h1, ih.1], fun x hx => ?_⟩
    rcases List.mem_cons.mp hx with rfl | hx
    · rw [← h1]; exact h2
    · exact ih.2 x hx
theorem eq_of_at {α β : Type} {f : β → α} : ∀ {l : List α} {m : List β}, l.length = m.length → (∀ (j : Nat) a b, l[j]? = some a → m[j]? = some b → a = f b) → l = m.map f
  | [], [], _, _ => rfl
  | [], _ :: _, h, _ => nomatch h
  | _ :: _, [], h, _ => nomatch h
  | a :: l, b :: m, h, g => by
    rw [List.map_cons, ← g 0 a b rfl rfl, ← eq_of_at (Nat.succ.inj h) fun j x y e e' => g (j + 1) x y e e']
section
variable {X : Cx}
theorem cr_sortDT (hc : X.calm = true) (hu : X.A.units + 40 < cLine) : CallR X (.builtin "sorted") (rSortDT X.K) := by
  intro pins s σ H vs us Q I r h
  obtain ⟨d, kvs, rfl, hd, few, hal, hk, q⟩ := h
  rw [Vals.ref1 r]
  obtain ⟨z0, hs, ks, pr, o, es, ep, ho, hx, hdt, he, hn⟩ := (show ObjOk X.prog X.w H s.heap d (.dT kvs) from hd.ok I.hok)
  have l1 : es.size = ks.length := size_of_entries he
  have l2 : kvs.length = ks.length := Paired.length pr
  obtain ⟨ek, tk⟩ := kt_keys pr
  refine Calls.call_function_entry kind_sorted plain_sorted entry_sorted (args_sorted1 _) ?_
  unfold Builtin.«sorted»
  refine wpAny_bind (m := checkCount "sorted" 1 1 _) (wpAny_pure ?_)
  refine wpAny_bind (PySem.W.kdu_collect (A := X.A.in1) (kdl_raw hs hx hdt) (I.ok.hd hc) ho (by omega) fun h' tkk acc' keep it => ?_)
  have ea : acc'.toList = ks.map fun x => Value.ref x.2.1 := by
    refine eq_of_at (by rw [Array.length_toList, it.1, l1]) fun j u b hu hb => ?_
    rw [Array.getElem?_toList] at hu
    obtain ⟨en, hen, rfl⟩ := it.2 j u hu
    have same := entry_at he j
    rw [hen, hb] at same
    rw [Option.some.inj same]
    rfl
  have I1 : Inv X pins σ H { s with heap := h', toks := tkk } := I.kept keep
  generalize hL : ks.map (fun x => ((x.2.1, x.1) : Addr × List Key)) = L
  have eaL : acc'.toList = L.map fun p => Value.ref p.1 := by rw [ea, ← hL, List.map_map]; rfl
  have eL : L.map (·.2) = kvs.map (·.1) := by rw [ek, ← hL, List.map_map]; rfl
  have tL : ∀ y ∈ L, H y.1 = some (.tup (y.2.map kV)) := fun y hy => by
    rw [← hL] at hy
    obtain ⟨x, hx, rfl⟩ := List.mem_map.mp hy
    exact tk x hx
  have lL : L.length ≤ 4000 := by
    have := congrArg List.length eL
    rw [List.length_map, List.length_map] at this
    omega
  rw [eaL]
  clear ea eaL it hL
  refine wpAny_bind (wpAny_newList ?_ (by rw [List.length_map, sizeLine_eq]; omega))
  have hoL : (h'.push (seqObj "list" (L.map fun p => Value.ref p.1).toArray 0)).get? h'.objs.size = some (seqObj "list" (L.map fun p => Value.ref p.1).toArray 0) := Heap.get?_push_size _ rfl
  have eD : (kvs.map fun x => tupD x.1) = L.map fun x => tupD x.2 := by
    have := congrArg (List.map tupD) eL
    rw [List.map_map, List.map_map] at this
    exact this.symm
  rw [eD] at hal hk
  have rd : ∀ p ∈ L, ∃ as, Reads (h'.push (seqObj "list" (L.map fun p => Value.ref p.1).toArray 0)) (.ref p.1) (tupD p.2) as ∧ h'.objs.size ∉ as := fun p hp => by
    obtain ⟨as, ra⟩ := (dp_tup (SqT.of (tL p hp))).reads I1 (tupD p.2) _ (.ref p.1) rfl
    exact ⟨as, PyProof.Rows.Reads.keeps (fun b u e => Heap.get?_push_of_some _ e) ra, fun m => by
      obtain ⟨u, e⟩ := PyProof.On.reads_mem_get ra _ m
      exact Nat.lt_irrefl _ (Heap.lt_size e)⟩
  refine wpAny_bind (wpAny_holding (PySem.W.list_sort_data (A := X.A.in1) (R := fun v (x : Addr × List Key) => v = .ref x.1) (enc := fun x : Addr × List Key => tupD x.2) hoL (each_of_map (f := fun p : Addr × List Key => Value.ref p.1) (fun _ => rfl) L) (each_all (f := fun p : Addr × List Key => Value.ref p.1) rd) hal hk (by rw [sizeLine_eq]; omega) (fun x _ => by
    show X.A.units + 1 + 1 + (tupD x.2).depth < cLine
    rw [depth_tup]
    omega) fun out lo eo => ?_))
  obtain ⟨c, hcn⟩ := sortedHeap_at (vs := L.map fun p => Value.ref p.1) (out := List.toArray out) hoL
  refine wpAny_pure ⟨_, rfl, ?_⟩
  have ms := List.mergeSort_perm L (PySem.W.dataLe false fun x : Addr × List Key => tupD x.2)
  have keep2 : ∀ b u, h'.get? b = some u → (sortedHeap (h'.push (seqObj "list" (L.map fun p => Value.ref p.1).toArray 0)) h'.objs.size (L.map fun p => Value.ref p.1) (List.toArray out)).get? b = some u := fun b u k => by
    have hlt := Heap.lt_size k
    rw [sortedHeap_old (Nat.ne_of_lt hlt) (by rw [size_push']; exact Nat.lt_succ_of_lt hlt)]
    exact Heap.get?_push_of_some _ k
  have hn : H h'.objs.size = none := I1.hok.fresh (Nat.le_refl _)
  have fin := q _ h'.objs.size (by rw [← eL]; exact ms.map _) (fun y hy => tL y (ms.mem_iff.mp hy)) ((PySem.W.sort_pairwise (PySem.W.sortLe_total _ false _) _).imp fun {x y} h => by
    have h' : PySem.W.dataLe false (fun x : Addr × List Key => tupD x.2) x y = true := h
    rw [PySem.W.dataLe_eq] at h'
    have h2 : (!PySem.W.dataLt (tupD y.2) (tupD x.2)) = true := h'
    cases c : PySem.W.dataLt (tupD y.2) (tupD x.2) with
    | false => rfl
    | true => rw [c] at h2; cases h2) hn
  have hlen : ((L.mergeSort (PySem.W.dataLe false fun x : Addr × List Key => tupD x.2)).map fun x => V.ref x.1).length ≤ sizeLine := by
    rw [List.length_map, ms.length_eq, sizeLine_eq]
    omega
  have rel := refs_vals (g := fun x : Addr × List Key => x.1) eo
  generalize sortedHeap (h'.push (seqObj "list" (L.map fun p => Value.ref p.1).toArray 0)) h'.objs.size (L.map fun p => Value.ref p.1) (List.toArray out) = hF at keep2 hcn ⊢
  refine ⟨.ref h'.objs.size, upd H h'.objs.size (.lst ((L.mergeSort (PySem.W.dataLe false fun x : Addr × List Key => tupD x.2)).map fun x => V.ref x.1)), ?_, rfl, fin⟩
  exact I1.laid (t' := _) keep2 (Nat.le_refl _) ⟨hlen, out, c, rel, hcn⟩
end
end L2

namespace Half
open PySem PySem.Spec PyProof.Rows L2
/-! ### Layout.__init__ -/
structure DefX (P : Program) (w : World) (K : PySem.W.Frag) (mg : Str → Option Value) (base : Heap) (k : Nat) (x : Str) (ps : List Str) (sp : Sp) : Prop where
  ex : ∃ f fd, FnOk P w K mg base (L2.CX P w) k f fd ps sp ∧ mg x = some (.ref f) ∧ PySem.W.keepIn K (.ref f) = true ∧ Binds K fd ps []
theorem pe_defX {X : Cx} {k : Nat} {x : Str} {ps : List Str} {sp : Sp} {e : Expr} {es : List Expr} {t : TA} {p pos : Pos} {E : XK} (D : DefX X.prog X.w X.K X.mg X.base k x ps sp) (hr : Room k X.A) (hg : Gl X x) (hx : Passes (L2.CX X.prog X.w) X E) (ha : PA X (e :: es) t)
    (h1 : (x == ("__debug__" : Str)) = false := by decide) (h2 : starEach (e :: es) X.env = (false, eval e X.env) :: starEach es X.env := by rfl) (h3 : (backTo pos (starEach es X.env)).any (·.1) = false := by rfl) : PE X (.Call (.Name x p) (e :: es) [] pos) (tCall sp [] E t) :=
  let ⟨_, _, F, hm, hk, hb⟩ := D.ex; pe_call F hr hg hm hk hb .nil hx ha h1 h2 h3
theorem scLi : FnScope ["self", "store", "files", "takes", "key"] ["self", "store", "files", "takes"] (defScope (sLy 0)) := ⟨rfl, rfl, rfl, by decide +kernel, rfl, by decide +kernel, by decide +kernel⟩
/-- in the order of the keys -/
def AscK {α : Type} (l : List (Kk × α)) : Prop := l.Pairwise fun a b => PySem.W.dataLt (kD b.1) (kD a.1) = false
/-- what a layout takes -/
structure LayIn (K : PySem.W.Frag) (CT : Addr) (H : Hp) (st fa ta : Addr) (es : Eds) (fs : Fls) (ts : Tks) : Prop where
  sto : StObj CT H st es
  apF : Apart CT H st fa
  apT : Apart CT H st ta
  gF : H fa = some (.dT (kvF fs))
  gT : H ta = some (.dT (kvT ts))
  hF : ∀ e ∈ fs, OkK e.1 ∧ FilesAt K H e.2.1 e.2.2 ∧ e.2.2.length ≤ 100 ∧ ∀ p ∈ e.2.2, p.1.length ≤ 1000 ∧ Numv p.2
  hT : ∀ e ∈ ts, OkK e.1 ∧ SqT K H e.2.1 (e.2.2.map V.str) ∧ e.2.2.length ≤ 100 ∧ ∀ z ∈ e.2.2, z.length ≤ 1000
  lf : fs.length ≤ 100
  lt : ts.length ≤ 100
  ndF : (fs.map (·.1)).Nodup
  ndT : (ts.map (·.1)).Nodup
def spLi (K : PySem.W.Frag) (CT CY CL : Addr) : Sp := fun vs H Q E => ∃ (x dx st fa ta : Addr) (es : Eds) (fs : Fls) (ts : Tks), vs = [.ref x, .ref st, .ref fa, .ref ta] ∧ H x = some (.ins CY dx []) ∧ LayIn K CT H st fa ta es fs ts ∧
  (fs.filter (badF (keysOf es)) = [] → ts.filter (badT (keysOf es)) = [] → ∀ H' d1 d2 fs' ts', SameBut x H H' → Kp K H H' → LayAt CY H' x st d1 d2 fs' ts' → H d1 = none → H d2 = none → fs'.Perm fs → AscK fs' → ts'.Perm ts → AscK ts' → Q .non H') ∧
  (∀ k ks m, (fs.filter (badF (keysOf es))).map (·.1) = k :: ks → leastK k ks m → ∀ H' dd q, Same H H' → H' dd = some (.xd [("key", .ref q), ("part", .str "files")]) → H' q = some (.tup [.str m.1, .int m.2]) → E (.ref CL) (some dd) H') ∧
  (fs.filter (badF (keysOf es)) = [] → ∀ k ks m, (ts.filter (badT (keysOf es))).map (·.1) = k :: ks → leastK k ks m → ∀ H' dd q, Same H H' → H' dd = some (.xd [("key", .ref q), ("part", .str "takes")]) → H' q = some (.tup [.str m.1, .int m.2]) → E (.ref CL) (some dd) H')
theorem key_alike (a b : Kk) : PySem.W.alike (tupD (keyL a)) (tupD (keyL b)) = true := by simp [keyL, tupD, keyD, PySem.W.alike, PySem.W.alikeAll]
theorem key_tupD (k : Kk) : tupD (keyL k) = kD k := rfl
/-- keys with something each, as a dict of tuple keys -/
def kvG {α : Type} (v : α → Addr) (l : List (Kk × α)) : List (List Key × V) := l.map fun e => (keyL e.1, .ref (v e.2))
theorem kvG_nodup {α : Type} {v : α → Addr} {l : List (Kk × α)} (h : (l.map (·.1)).Nodup) : ((kvG v l).map (·.1)).Nodup := by
  have e : (kvG v l).map (·.1) = (l.map (·.1)).map keyL := by unfold kvG; rw [List.map_map, List.map_map]; rfl
  rw [e]
  exact List.pairwise_map.mpr (h.imp fun n z => n (keyL_inj z))
theorem kvG_new {α : Type} {v : α → Addr} {l : List (Kk × α)} {i : Nat} {e : Kk × α} (nd : (l.map (·.1)).Nodup) (he : l[i]? = some e) : valV (kvG v (l.take i)) (keyL e.1) = none := by
  cases c : valV (kvG v (l.take i)) (keyL e.1) with
  | none => rfl
  | some w =>
    have z := valV_in c
    unfold kvG at z
    rw [List.map_map] at z
    obtain ⟨e', he', ee⟩ := List.mem_map.mp z
    have hx : (l.map (·.1))[i]? = some e.1 := by rw [List.getElem?_map, he]; rfl
    refine absurd ?_ (nodup_take nd hx)
    rw [← keyL_inj ee, ← List.map_take]
    exact List.mem_map.mpr ⟨e', he', rfl⟩
section
variable {P : Program} {w : World} {K : PySem.W.Frag} {mg : Str → Option Value} {base : Heap} {C CT CY CL fL : Addr}
/-- {key: d[key] for key in sorted(d)} -/
theorem dc_sorted {α : Type} {v : α → Addr} {x0 x1 x2 x3 x4 : Option V} {Q : VK} {j : Nat} {H : Hp} {d : Addr} {l : List (Kk × α)} (hσ : ∀ y : Option V, ([x0, x1, x2, x3, y] : List (Option V))[j]? = some (some (.ref d))) (g : H d = some (.dT (kvG v l))) (len : l.length ≤ 100) (nd : (l.map (·.1)).Nodup)
    (k : ∀ H' D l', Same H H' → H D = none → H' D = some (.dT (kvG v l')) → l'.Perm l → AscK l' → Q (.ref D) H') :
    tDcG (.dT []) (iList K (tCB (rSortDT K) (tCons (tVar j) tNil))) (gName 4) tYes (tVar 4) (tDGet (tVar j) (tVar 4)) [4] [x0, x1, x2, x3, x4] H Q := by
  have e1 : (kvG v l).map (·.1) = l.map fun e => keyL e.1 := by unfold kvG; rw [List.map_map]; rfl
  have e2 : (kvG v l).map (fun x => tupD x.1) = l.map fun e => tupD (keyL e.1) := by unfold kvG; rw [List.map_map]; rfl
  refine ⟨_, hσ _, d, kvG v l, rfl, .inl g, by unfold kvG; rw [List.length_map]; omega, ?_, ?_, fun ys p pm tin asc np => ?_⟩
  · rw [e2]
    intro x hx y hy
    obtain ⟨a, _, rfl⟩ := List.mem_map.mp hx
    obtain ⟨b, _, rfl⟩ := List.mem_map.mp hy
    exact key_alike a.1 b.1
  · rw [e2]
    refine .inl fun x hx => ?_
    obtain ⟨a, _, rfl⟩ := List.mem_map.mp hx
    exact ⟨_, _, rfl⟩
  rw [e1] at pm
  obtain ⟨l', pl, e⟩ := perm_back pm
  have ll : ys.length = l'.length := by
    have := congrArg List.length e
    rwa [List.length_map, List.length_map] at this
  have asc2 : AscK l' := by
    have h : (ys.map (·.2)).Pairwise fun a b => PySem.W.dataLt (tupD b) (tupD a) = false := List.pairwise_map.mpr asc
    rw [e] at h
    exact List.pairwise_map.mp h
  have s1 := Same.upd_new (o := .lst (ys.map fun x => V.ref x.1)) np
  have g1 := s1 _ _ g
  have gp : upd H p (.lst (ys.map fun x => V.ref x.1)) p = some (.lst (ys.map fun x => V.ref x.1)) := upd_same
  have nd' : (l'.map (·.1)).Nodup := (pl.map _).nodup_iff.mpr nd
  have ln : l'.length ≤ 100 := by rw [pl.length_eq]; exact len
  generalize upd H p (.lst (ys.map fun x => V.ref x.1)) = H1 at s1 g1 gp ⊢
  refine ⟨p, rfl, ⟨_, SqL.of gp⟩, fun D hD => ?_⟩
  refine dcG_it (walk_list (xs := ys.map fun x => V.ref x.1)) (fun i H' => Same H1 H' ∧ H' D = some (.dT (kvG v (l'.take i)))) ⟨Same.upd_new hD, upd_same⟩ (fun _ _ _ h => SqL.of (h.1 _ _ gp)) ?_ ?_
  · rintro i z H4 H5 hi ⟨s4, gD⟩ ⟨rfl, hv⟩
    rw [List.getElem?_map] at hv
    obtain ⟨y, hy, rfl⟩ := Option.map_eq_some_iff.mp hv
    rw [List.length_map, ll] at hi
    have he := List.getElem?_eq_getElem hi
    generalize l'[i] = en at he
    have ey : y.2 = keyL en.1 := by
      have h : (ys.map (·.2))[i]? = some y.2 := by rw [List.getElem?_map, hy]; rfl
      rw [e, List.getElem?_map, he] at h
      exact (Option.some.inj h).symm
    have S5 := s1.trans s4
    have gq := S5 _ _ (tin y (List.mem_of_getElem? hy))
    rw [ey] at gq
    have hval := val_nodup (kvG_nodup (v := v) nd) (keyL en.1, .ref (v en.2)) (by unfold kvG; exact List.mem_map.mpr ⟨en, pl.mem_iff.mp (List.mem_of_getElem? he), rfl⟩)
    refine ⟨rfl, ?_⟩
    refine ⟨_, rfl, _, hσ _, _, rfl, d, .ref (v en.2), rfl, .inr ⟨kvG v l, keyL en.1, y.1, .inl (S5 _ _ g), rfl, gq, hval.symm⟩, ?_⟩
    refine ⟨_, DPut.t (k := keyL en.1) gD gq (by unfold kvG; rw [List.length_map, List.length_take, sizeLine_eq]; omega), fun b o q' => ?_, ?_⟩
    · rw [upd_ne (ne_of_none q' hD)]
      exact s4 _ _ q'
    · rw [putK_new _ (kvG_new nd' he), upd_same, take_next he]
      unfold kvG
      rw [List.map_append]
      rfl
  · rintro H4 ⟨s4, gD⟩
    rw [List.length_map, ll, List.take_length] at gD
    have nD : H D = none := by
      cases q : H D with
      | none => rfl
      | some o => rw [s1 _ _ q] at hD; cases hD
    exact k H4 D l' (s1.trans s4) nD gD pl asc2
theorem ok_li {f : Addr} {fd : FuncData} (F : Fun K "__init__" "Layout.__init__" (sLy 0) f fd) (T : TxtLy K CY) (gS : mg "sorted" = none) (dC : DefX P w K mg base 4 "check_layout" ["store", "files", "takes"] (spCl K CT CL)) : FnOk P w K mg base (L2.CX P w) 5 f fd ["self", "store", "files", "takes"] (spLi K CT CY CL) := by
  refine F.okX scLi (fun vs H Q E h => ?_) (fun cdv A outer s H vs Q E hr h => ?_)
  · obtain ⟨x, dx, st, fa, ta, es, fs, ts, rfl, _⟩ := h
    rfl
  · obtain ⟨x, dx, st, fa, ta, es, fs, ts, rfl, hx, I, kOk, kF, kT⟩ := h
    have nd := scLi.nd
    have hu1 := hu_of hr
    have hu := hr.units
    have hu40 : (A.deeper (envOfC "Layout.__init__" (defScope (sLy 0)) s.heap.objs.size f cdv)).units + 40 < cLine := Nat.lt_of_le_of_lt (Nat.add_le_add_left (by decide : 40 ≤ 64) _) hu
    refine ⟨_, pss_cons (ps_expr (pe_defX dC hr rfl (passes_call (takes_of rfl rfl rfl rfl) (fun _ _ _ _ h => h)) (pa_cons (pv 1) (pa_cons (pv 2) (pa_cons (pv 3) pa_nil)))))
      (pss_cons (ps_fld (pv 0) (pv 1) rfl)
      (pss_cons (ps_fld (pv 0) (pe_dcG (own := [("key", 4)]) (g := gName 4) (tt := tYes) (tk := tVar 4) (tv := tDGet (tVar 2) (tVar 4)) Bare.t hu1 rfl nd (pi_list (pe_callB (cr_sortDT rfl hu40) (by rfl) gS (by decide +kernel) (pa_cons (pv 2) pa_nil))) (blkOk_by (N := ["self", "store", "files", "takes", "key"]) (sc := defScope (sLy 0)) (by decide +kernel)) (fun _ _ _ _ _ => pg_name (i := 4) nd rfl (Or.inl rfl)) (fun _ _ _ _ _ => pts_nil)
        (fun _ _ _ _ _ => pv 4) (fun _ _ _ _ _ => pe_dget hu1 (pv 2) (pv 4) (fun _ _ => rfl))) rfl)
      (pss_one (ps_fld (pv 0) (pe_dcG (own := [("key", 4)]) (g := gName 4) (tt := tYes) (tk := tVar 4) (tv := tDGet (tVar 3) (tVar 4)) Bare.t hu1 rfl nd (pi_list (pe_callB (cr_sortDT rfl hu40) (by rfl) gS (by decide +kernel) (pa_cons (pv 3) pa_nil))) (blkOk_by (N := ["self", "store", "files", "takes", "key"]) (sc := defScope (sLy 0)) (by decide +kernel)) (fun _ _ _ _ _ => pg_name (i := 4) nd rfl (Or.inl rfl)) (fun _ _ _ _ _ => pts_nil)
        (fun _ _ _ _ _ => pv 4) (fun _ _ _ _ _ => pe_dget hu1 (pv 3) (pv 4) (fun _ _ => rfl))) rfl)))), ?_⟩
    refine ⟨_, rfl, _, rfl, _, rfl, st, fa, ta, es, fs, ts, rfl, I.sto, I.apF, I.apT, I.gF, I.gT, I.hF, I.hT, I.lf, I.lt, I.ndF, I.ndT, fun f0 t0 H1 s1 => ?_, kF, kT⟩
    have hx1 := s1 _ _ hx
    refine ⟨_, rfl, _, rfl, x, CY, dx, [], rfl, hx1, T.cl, T.nS, (by show 0 < 1000; decide), ?_⟩
    have gx2 : (upd H1 x (.ins CY dx (putF "held_store" (.ref st) []))) x = some (.ins CY dx [("held_store", .ref st)]) := upd_same
    have sb2 : SameBut x H (upd H1 x (.ins CY dx (putF "held_store" (.ref st) []))) := fun b o nb q => by rw [upd_ne nb]; exact s1 _ _ q
    have kp2 : Kp K H (upd H1 x (.ins CY dx (putF "held_store" (.ref st) []))) := s1.kp.trans (Kp.upd hx1 (fun _ z => by cases z) (fun _ _ z => by cases z))
    generalize upd H1 x (.ins CY dx (putF "held_store" (.ref st) [])) = H2 at gx2 sb2 kp2 ⊢
    have gF2 := sb2 _ _ (ne_of I.gF hx (by intro z; cases z)) I.gF
    dsimp only [tSeq, sFld]
    show tDcG (.dT []) (iList K (tCB (rSortDT K) (tCons (tVar 2) tNil))) (gName 4) tYes (tVar 4) (tDGet (tVar 2) (tVar 4)) [4] [some (.ref x), some (.ref st), some (.ref fa), some (.ref ta), none] H2 _
    refine dc_sorted (j := 2) (v := fun p : Addr × List (Str × V) => p.1) (by intro _; rfl) gF2 I.lf I.ndF fun H3 d1 fs' s3 nd1 g1 pF aF => ?_
    have gx3 := s3 _ _ gx2
    have n1x : d1 ≠ x := fun e => by rw [e, gx2] at nd1; cases nd1
    refine ⟨_, rfl, x, CY, dx, _, rfl, gx3, T.cl, T.nF, (by show 1 < 1000; decide), ?_⟩
    have gx4 : (upd H3 x (.ins CY dx (putF "held_files" (.ref d1) [("held_store", .ref st)]))) x = some (.ins CY dx [("held_store", .ref st), ("held_files", .ref d1)]) := upd_same
    have sb4 : SameBut x H (upd H3 x (.ins CY dx (putF "held_files" (.ref d1) [("held_store", .ref st)]))) := fun b o nb q => by rw [upd_ne nb]; exact s3 _ _ (sb2 b o nb q)
    have kp4 : Kp K H (upd H3 x (.ins CY dx (putF "held_files" (.ref d1) [("held_store", .ref st)]))) := (kp2.trans s3.kp).trans (Kp.upd gx3 (fun _ z => by cases z) (fun _ _ z => by cases z))
    have g14 : (upd H3 x (.ins CY dx (putF "held_files" (.ref d1) [("held_store", .ref st)]))) d1 = some (.dT (kvF fs')) := by rw [upd_ne n1x]; exact g1
    generalize upd H3 x (.ins CY dx (putF "held_files" (.ref d1) [("held_store", .ref st)])) = H4 at gx4 sb4 kp4 g14 ⊢
    have gT4 := sb4 _ _ (ne_of I.gT hx (by intro z; cases z)) I.gT
    show tDcG (.dT []) (iList K (tCB (rSortDT K) (tCons (tVar 3) tNil))) (gName 4) tYes (tVar 4) (tDGet (tVar 3) (tVar 4)) [4] [some (.ref x), some (.ref st), some (.ref fa), some (.ref ta), none] H4 _
    refine dc_sorted (j := 3) (v := fun p : Addr × List Str => p.1) (by intro _; rfl) gT4 I.lt I.ndT fun H5 d2 ts' s5 nd2 g2 pT aT => ?_
    have gx5 := s5 _ _ gx4
    have n2x : d2 ≠ x := fun e => by rw [e, gx4] at nd2; cases nd2
    refine ⟨_, rfl, x, CY, dx, _, rfl, gx5, T.cl, T.nT, (by show 2 < 1000; decide), ?_⟩
    have none_of : ∀ {b : Addr} {Ha : Hp}, b ≠ x → SameBut x H Ha → Ha b = none → H b = none := fun {b Ha} n sb q => by
      cases c : H b with
      | none => rfl
      | some o => rw [sb _ _ n c] at q; cases q
    refine kOk f0 t0 _ d1 d2 fs' ts' (fun b o nb q => by rw [upd_ne nb]; exact s5 _ _ (sb4 b o nb q)) ((kp4.trans s5.kp).trans (Kp.upd gx5 (fun _ z => by cases z) (fun _ _ z => by cases z))) ⟨⟨dx, upd_same⟩, by rw [upd_ne n1x]; exact s5 _ _ g14, by rw [upd_ne n2x]; exact g2⟩ (none_of n1x sb2 nd1) (none_of n2x sb4 nd2) pF aF pT aT
end
end Half

namespace Half
open PySem PySem.Spec PyProof.Rows L2
/-! ### Layout.__eq__ -/
structure StEqF (P : Program) (w : World) (K : PySem.W.Frag) (mg : Str → Option Value) (base : Heap) (CT : Addr) : Prop where
  ex : ∃ f fd, OwnEqC K CT f ∧ FnOk P w K mg base CX0 1 f fd ["self", "other"] (spStEq CT) ∧ Binds K fd ["self", "other"] []
theorem stEq_read {CT : Addr} {H : Hp} {a b : Addr} {es es' : Eds} {fl : Bool → Bool} {Q : VK} (h1 : StObj CT H a es) (h2 : StObj CT H b es') (hs : es.length = es'.length → ∀ e ∈ es, e ∈ es') (q : Q (.bl (fl (decide (es.length = es'.length)))) H) : rEqO CT (spStEq CT) fl (.ref a) (.ref b) H Q := by
  obtain ⟨dx, fs, ha⟩ := h1.ins
  obtain ⟨dy, gs, hb⟩ := h2.ins
  exact ⟨a, b, dx, dy, fs, gs, rfl, rfl, ha, hb, a, b, es, es', rfl, h1, h2, hs, _, rfl, q⟩
structure TxtLe (K : PySem.W.Frag) (mg : Str → Option Value) (CY : Addr) : Prop where
  t : TxtLy K CY
  isi : mg "isinstance" = none
  mgC : mg "Layout" = some (.ref CY)
  ha : PySem.W.findIn K (.ref CY) "__class__" = some (some (.builtin "object.__class__"))
  hn : PySem.W.specialIn K (.builtin "object.__class__") "__get__" = some (some (.builtin "getset_descriptor.__get__"))
  ht : PySem.W.takesIn K (.builtin "object.__class__") = some true
  hm : PySem.W.mroIn K CY (.type "object") = some true
  ki : PySem.W.kitOne K (.ref CY) (.ref CY) = some true
/-- the same keys have the very same tuples -/
def SameT {α : Type} (v : α → Addr) (l m : List (Kk × α)) : Prop := l.length = m.length → ∀ e ∈ l, valV (kvG v m) (keyL e.1) = some (.ref (v e.2))
def spLeq (CT CY : Addr) : Sp := fun vs H Q _ => ∃ (a b st st' d1 d2 e1 e2 : Addr) (fs fs' : Fls) (ts ts' : Tks) (es es' : Eds), vs = [.ref a, .ref b] ∧ LayAt CY H a st d1 d2 fs ts ∧ LayAt CY H b st' e1 e2 fs' ts' ∧ StObj CT H st es ∧ StObj CT H st' es' ∧ (es.length = es'.length → ∀ e ∈ es, e ∈ es') ∧
  SameT (fun p : Addr × List (Str × V) => p.1) fs fs' ∧ SameT (fun p : Addr × List Str => p.1) ts ts' ∧ Q (.bl (decide (es.length = es'.length) && (decide (fs.length = fs'.length) && decide (ts.length = ts'.length)))) H
section
variable {P : Program} {w : World} {K : PySem.W.Frag} {mg : Str → Option Value} {base : Heap} {CT CY : Addr}
theorem eqT_read {α : Type} {v : α → Addr} {l m : List (Kk × α)} {H : Hp} {a b : Addr} {Q : VK} (ha : H a = some (.dT (kvG v l))) (hb : H b = some (.dT (kvG v m))) (s : SameT v l m) (q : Q (.bl (decide (l.length = m.length))) H) : rEqT (.ref a) (.ref b) H Q := by
  have l1 : (kvG v l).length = l.length := by unfold kvG; rw [List.length_map]
  have l2 : (kvG v m).length = m.length := by unfold kvG; rw [List.length_map]
  refine ⟨a, b, _, _, rfl, rfl, ha, hb, fun e p hp => ?_, by rw [l1, l2]; exact q⟩
  rw [l1, l2] at e
  unfold kvG at hp
  obtain ⟨e0, he0, rfl⟩ := List.mem_map.mp hp
  exact ⟨_, rfl, s e e0 he0⟩
theorem scLe : FnScope ["self", "other"] ["self", "other"] (defScope (sLy 4)) := ⟨rfl, rfl, rfl, by decide +kernel, rfl, by decide +kernel, by decide +kernel⟩
theorem ok_leq {f : Addr} {fd : FuncData} (F : Fun K "__eq__" "Layout.__eq__" (sLy 4) f fd) (T : TxtLe K mg CY) (S : StEqF P w K mg base CT) : FnOk P w K mg base CX0 2 f fd ["self", "other"] (spLeq CT CY) := by
  refine F.ok scLe (fun vs H Q E h => ?_) (fun cdv A outer s H vs Q E hr h => ?_)
  · obtain ⟨a, b, st, st', d1, d2, e1, e2, fs, fs', ts, ts', es, es', rfl, _⟩ := h
    rfl
  · obtain ⟨a, b, st, st', d1, d2, e1, e2, fs, fs', ts, ts', es, es', rfl, ⟨⟨dx, h1⟩, h2, h3⟩, ⟨⟨dy, g1⟩, g2, g3⟩, hO, hO', hs, sF, sT, k⟩ := h
    obtain ⟨fe, fde, Oe, Fe, be⟩ := S.ex
    have hu1 := hu_of hr
    refine ⟨_, pss_one (ps_ret (pe_and (pe_callB call_isi (by rfl) T.isi (by decide +kernel) (pa_cons (pv 1) (pa_cons (pe_glob (v := .ref CY) rfl T.mgC rfl) pa_nil)))
      (pe_and (pe_cmpR (op_eqO Fe Oe be hr) (pe_fld (pv 0) rfl) (pe_fld (pv 1) rfl) (nomark _)) (pe_and (pe_cmpR (op_eqT hu1) (pe_fld (pv 0) rfl) (pe_fld (pv 1) rfl) (nomark _)) (pe_one (pe_cmpR (op_eqT hu1) (pe_fld (pv 0) rfl) (pe_fld (pv 1) rfl) (nomark _))))))), ?_⟩
    refine ⟨_, rfl, _, _, _, _, _, rfl, .own CY, .base (.ins g1 T.t.cl T.ha T.hn T.ht T.hm), T.ki, _, rfl, ?_⟩
    refine iteT ?_
    refine ⟨_, rfl, a, CY, dx, _, _, rfl, h1, T.t.cl, T.t.nS, rfl, _, rfl, b, CY, dy, _, _, rfl, g1, T.t.cl, T.t.nS, rfl, ?_⟩
    refine stEq_read hO hO' hs ?_
    refine ⟨_, rfl, ?_⟩
    show if decide (es.length = es'.length) = true then _ else _
    cases c : decide (es.length = es'.length) with
    | false =>
      rw [c, Bool.false_and] at k
      exact iteF k
    | true =>
      rw [c, Bool.true_and] at k
      refine iteT ?_
      refine ⟨_, rfl, a, CY, dx, _, _, rfl, h1, T.t.cl, T.t.nF, rfl, _, rfl, b, CY, dy, _, _, rfl, g1, T.t.cl, T.t.nF, rfl, ?_⟩
      refine eqT_read (v := fun p : Addr × List (Str × V) => p.1) h2 g2 sF ?_
      refine ⟨_, rfl, ?_⟩
      cases c2 : decide (fs.length = fs'.length) with
      | false =>
        rw [c2, Bool.false_and] at k
        exact iteF k
      | true =>
        rw [c2, Bool.true_and] at k
        refine iteT ?_
        refine ⟨_, rfl, a, CY, dx, _, _, rfl, h1, T.t.cl, T.t.nT, rfl, _, rfl, b, CY, dy, _, _, rfl, g1, T.t.cl, T.t.nT, rfl, ?_⟩
        exact eqT_read (v := fun p : Addr × List Str => p.1) h3 g3 sT k
end
end Half

/-! list(d.items()), d a dict whose keys are tuples of texts and ints -/
namespace L2
open PySem PySem.Spec PyProof.Rows
section
variable {prog : Program} {w : World} {A : Around} {E : Value → Shared → Prop} {s : Shared} {r d : Addr} {es : Array DictEntry} {ep : Nat}
/-- list(view): its pairs, each a new tuple, behind a new list -/
theorem list_items {Q : Value → Shared → Prop} (calm : A.handled = none) (hv : s.heap.IsItemsView r d) (raw : DT.Raw s.heap d es ep) (few : es.size ≤ sizeLine)
    (q : ∀ h' tk acc c as, (∀ b o, s.heap.get? b = some o → h'.get? b = some o) → h'.get? s.heap.objs.size = some { cls := .type "list", dict := none, data := .seq acc c, slots := #[] } → as.length = es.size → DT.Made es s.heap.objs.size h' as → acc.toList = as.map Value.ref → Q (.ref s.heap.objs.size) { s with heap := h', toks := tk }) :
    wpAny (model prog w) A (call (.type "list") [.ref r]) Q E s := by
  have rlt : r < s.heap.objs.size := by obtain ⟨_, ho, _⟩ := hv; exact Heap.lt_size ho
  have dlt : d < s.heap.objs.size := raw.lt
  refine callType_codes (Q₁ := fun v z => v = .ref s.heap.objs.size ∧ z = { s with heap := s.heap.push { cls := .type "list", data := .seq #[] } }) PySem.F.called_list (PySem.F.typeCall_list_1 _) PySem.F.entry_list_init (code_list_new _ ⟨rfl, rfl⟩) ?_
  rintro v z ⟨rfl, rfl⟩
  have bare : (s.heap.push { cls := .type "list", data := .seq #[] }).get? s.heap.objs.size = some { cls := .type "list", data := .seq #[] } := Heap.get?_push_size _ rfl
  refine ⟨⟨_, bare, rfl⟩, PySem.F.args_list_init_2 _ _, ?_⟩
  show wpAny _ _ (Builtin.List.listItems (.ref s.heap.objs.size) >>= fun old => Builtin.List.listUpdate (.ref s.heap.objs.size) (fun _ => #[]) >>= fun _ => letGo old.toList.reverse >>= fun _ => Builtin.List.listExtendWith (.ref s.heap.objs.size) (.ref r) .none) _ _ _
  unfold Builtin.List.listItems
  refine wpAny_bind (wpAny_bind (wpAny_seqItems bare rfl (wpAny_pure ?_)))
  refine wpAny_bind ?_
  show wpAny _ _ (updateSeq s.heap.objs.size (fun _ => #[])) _ _ _
  refine wpAny_updateSeq bare rfl ?_
  have bare2 := Heap.get?_update_self (Obj.mapSeq (fun _ => (#[] : Array Value))) bare rfl
  have far : ∀ b o, b ≠ s.heap.objs.size → (s.heap.push { cls := .type "list", data := .seq #[] }).get? b = some o → ((s.heap.push { cls := .type "list", data := .seq #[] }).update s.heap.objs.size (Obj.mapSeq (fun _ => (#[] : Array Value)))).get? b = some o :=
    fun b o n e => (Heap.get?_update_other _ _ (Ne.symm n)).trans e
  refine wpAny_bind (wpAny_letGo ?_)
  have old : ∀ b o, s.heap.get? b = some o → ((s.heap.push { cls := .type "list", data := .seq #[] }).update s.heap.objs.size (Obj.mapSeq (fun _ => (#[] : Array Value)))).get? b = some o := fun b o e => far b o (Nat.ne_of_lt (Heap.lt_size e)) (Heap.get?_push_of_some _ e)
  refine DT.extI (s := { s with heap := (s.heap.push { cls := .type "list", data := .seq #[] }).update s.heap.objs.size (Obj.mapSeq (fun _ => (#[] : Array Value))) }) (es := es) (ep := ep) (by simpa using calm) (let ⟨o, ho, x⟩ := hv; ⟨o, old _ _ ho, x⟩) (raw.at' fun o e => old _ _ e) s.heap.objs.size (Nat.ne_of_gt rlt) (Nat.ne_of_lt dlt) .none _ bare2 ?_ few
  intro h' tk acc c as keep own len made eq
  have sz : s.heap.objs.size ≤ ((s.heap.push { cls := .type "list", data := .seq #[] }).update s.heap.objs.size (Obj.mapSeq (fun _ => (#[] : Array Value)))).objs.size := Nat.le_of_lt (Heap.lt_size bare2)
  exact ⟨rfl, q h' tk acc c as (fun b o e => keep b o (Nat.ne_of_lt (Heap.lt_size e)) (old b o e)) own len (made.low sz) eq⟩
end
def rListIt (K : PySem.W.Frag) : List V → Hp → VK → Prop := fun vs H Q => ∃ (p d : Addr) (kvs : List (List Key × V)), vs = [.ref p] ∧ H p = some (DX.itemsO p d) ∧ H d = some (.dT kvs) ∧ kvs.length ≤ 4000 ∧
  ∀ H' l (as : List Addr), (∀ b o, H b = some o → H' b = some o) → H' l = some (.lst (as.map V.ref)) → Paired (fun a (kv : List Key × V) => ∃ q, H' a = some (.tup [.ref q, kv.2]) ∧ H' q = some (.tup (kv.1.map kV))) as kvs → Q (.ref l) H'
theorem paired_at {α β : Type} {R : α → β → Prop} : ∀ {l : List α} {m : List β}, l.length = m.length → (∀ (j : Nat) a b, l[j]? = some a → m[j]? = some b → R a b) → Paired R l m
  | [], [], _, _ => .nil
  | [], _ :: _, h, _ => nomatch h
  | _ :: _, [], h, _ => nomatch h
  | a :: l, b :: m, h, f => .cons (f 0 a b rfl rfl) (paired_at (Nat.succ.inj h) fun j x y e e' => f (j + 1) x y (by rw [List.getElem?_cons_succ]; exact e) (by rw [List.getElem?_cons_succ]; exact e'))
section
variable {X : Cx}
theorem cr_listItems (hc : X.calm = true) : CallR X (.type "list") (rListIt X.K) := by
  intro pins s σ H vs us Q I r h
  obtain ⟨p, d, kvs, rfl, hp, hd, few, q⟩ := h
  rw [Vals.ref1 r]
  have view : s.heap.IsItemsView p d := (show ObjOk X.prog X.w H s.heap p (DX.itemsO p d) from I.hok p _ hp).1
  obtain ⟨z0, hs, ks, pr, o, es, ep, ho, hx, hdt, he, hn⟩ := dt_of I.hok hd
  have l1 : es.size = ks.length := size_of_entries he
  have l2 : kvs.length = ks.length := Paired.length pr
  refine list_items (es := es) (ep := ep) (I.ok.hd hc) view ⟨o, ho, hx, hdt⟩ (by omega) fun h' tk acc c as keep own len made eq => ?_
  have hn0 : H s.heap.objs.size = none := I.hok.fresh (Nat.le_refl _)
  have nd : as.Nodup := made.rise.imp fun h => Nat.ne_of_lt h
  -- the pairs that were made
  have pairs : ∀ (j : Nat) (a : Addr) (kv : List Key × V), as[j]? = some a → kvs[j]? = some kv → ∃ (q : Addr) (u : Value), h'.get? a = some { cls := .type "tuple", data := .seq #[Value.ref q, u] } ∧ RelV kv.2 u ∧ H q = some (.tup (kv.1.map kV)) := by
    intro j a kv ha hkv
    obtain ⟨en, hen, hg⟩ := made.pairs j a ha
    obtain ⟨x, hx', e1, e2, e3⟩ := paired_get pr hkv
    have qe := entry_at he j
    rw [hx', hen] at qe
    have e4 : en = entryOfKey (tupleKind (mixKind X.prog X.w)) x := Option.some.inj qe
    rw [e4] at hg
    exact ⟨x.2.1, x.2.2, hg, e3, e2⟩
  have Il : Inv X pins σ (upd H s.heap.objs.size (.lst (as.map V.ref))) { s with heap := h', toks := tk } :=
    I.laid keep (Nat.le_refl _) ⟨by rw [List.length_map, len, l1, ← l2, sizeLine_eq]; omega, as.map Value.ref, c, vals_refs as, by rw [← eq]; simpa using own⟩
  obtain ⟨H2, I2, g2, t2⟩ := DX.takeT (P := fun a vs => ∃ (j : Nat) (kv : List Key × V) (q : Addr), as[j]? = some a ∧ kvs[j]? = some kv ∧ vs = [.ref q, kv.2] ∧ H q = some (.tup (kv.1.map kV))) I as _ Il nd fun a ha => by
    obtain ⟨j, hj⟩ := List.mem_iff_getElem?.mp ha
    have jl : j < as.length := (List.getElem?_eq_some_iff.mp hj).1
    have hkv := List.getElem?_eq_getElem (l := kvs) (i := j) (by omega)
    obtain ⟨q, u, hg, ru, hq⟩ := pairs j a _ hj hkv
    have lo : s.heap.objs.size ≤ a := Nat.le_of_lt (made.above a ha)
    refine ⟨lo, ?_, _, ⟨j, _, q, hj, hkv, rfl, hq⟩, fun H3 => ⟨(by rw [sizeLine_eq]; show 2 ≤ 16777216; omega), [Value.ref q, u], .cons rfl (.cons ru .nil), ⟨_, hg, rfl, 0, rfl⟩⟩⟩
    rw [upd_ne (Nat.ne_of_gt (made.above a ha))]
    exact I.hok.fresh lo
  have up : ∀ b o, H b = some o → H2 b = some o := fun b o e => g2 b o (by rw [upd_ne (ne_of_none e hn0)]; exact e)
  refine ⟨.ref s.heap.objs.size, H2, I2, rfl, q H2 _ as up (g2 _ _ upd_same) (paired_at (by omega) fun j a kv ha hkv => ?_)⟩
  obtain ⟨vs, ⟨i, kv', q', hi, hk', ev, hq'⟩, hH⟩ := t2 a (List.mem_of_getElem? ha)
  have eij : i = j := (List.getElem?_inj (List.getElem?_eq_some_iff.mp hi).1 nd).mp (hi.trans ha.symm)
  subst eij
  have ekv : kv' = kv := Option.some.inj (hk'.symm.trans hkv)
  subst ekv
  rw [ev] at hH
  exact ⟨q', hH, up _ _ hq'⟩
end
end L2

/-! sorted(d.items()), d a dict whose keys are tuples of texts and ints, its values data -/
namespace L2
open PySem PySem.Spec PyProof.Rows
/-- an item: its key, its value, what the value reads as -/
abbrev ItD := List Key × V × PyData
def itD (x : ItD) : PyData := .tuple [tupD x.1, x.2.2]
def rSortItD (K : PySem.W.Frag) : List V → Hp → VK → Prop := fun vs H Q => ∃ (p d : Addr) (xs : List ItD), vs = [.ref p] ∧ H p = some (DX.itemsO p d) ∧ H d = some (.dT (xs.map fun x => (x.1, x.2.1))) ∧ xs.length ≤ 4000 ∧
  (∀ x ∈ xs, Dp K H x.2.1 x.2.2 ∧ x.2.2.depth ≤ 10) ∧ PySem.W.AllAlike (xs.map itD) ∧
  ∀ (H' : Hp) (l : Addr) (ps : List (Addr × ItD)), (∀ b o, H b = some o → H' b = some o) → (ps.map (·.2)).Perm xs → ((ps.map (·.2)).Pairwise fun x y => PySem.W.dataLt (itD y) (itD x) = false) → H' l = some (.lst (ps.map fun z => V.ref z.1)) →
    (∀ z ∈ ps, ∃ q, H' z.1 = some (.tup [.ref q, z.2.2.1]) ∧ H' q = some (.tup (z.2.1.map kV))) → Q (.ref l) H'
theorem itD_depth {x : ItD} (h : x.2.2.depth ≤ 10) : (itD x).depth ≤ 20 := by
  have := depth_tup x.1
  simp only [itD, PyData.depth, PyData.depthAll]
  omega
section
variable {X : Cx}
theorem cr_sortItD (hc : X.calm = true) (hu : X.A.units + 40 < cLine) : CallR X (.builtin "sorted") (rSortItD X.K) := by
  intro pins s σ H vs us Q I r h
  obtain ⟨p, d, xs, rfl, hp, hd, few, dp, hal, q⟩ := h
  obtain rfl := Vals.ref1 r
  have view : s.heap.IsItemsView p d := (show ObjOk X.prog X.w H s.heap p (DX.itemsO p d) from I.hok p _ hp).1
  obtain ⟨z, hs, ks, pr, o, es, ep, ho, hx, hdt, he, hn⟩ := dt_of I.hok hd
  have l1 : es.size = ks.length := size_of_entries he
  have l2 : (xs.map fun x => (x.1, x.2.1)).length = ks.length := Paired.length pr
  rw [List.length_map] at l2
  refine DT.sortedI (es := es) (ep := ep) (I.ok.hd hc) view ⟨o, ho, hx, hdt⟩ (by rw [sizeLine_eq]; omega) fun h' tk as keep1 lower asLen made => ?_
  have lak : as.length = xs.length := by omega
  have nd : as.Nodup := made.rise.imp fun h => Nat.ne_of_lt h
  -- the pairs that were made
  have pairs : ∀ (j : Nat) (a : Addr) (x : ItD), as[j]? = some a → xs[j]? = some x → ∃ (q : Addr) (u : Value), h'.get? a = some { cls := .type "tuple", data := .seq #[Value.ref q, u] } ∧ RelV x.2.1 u ∧ H q = some (.tup (x.1.map kV)) := by
    intro j a x ha hx
    obtain ⟨en, hen, hg⟩ := made.pairs j a ha
    obtain ⟨k, hk', e1, e2, e3⟩ := paired_get pr (show (xs.map fun x => (x.1, x.2.1))[j]? = some (x.1, x.2.1) by rw [List.getElem?_map, hx]; rfl)
    have qe := entry_at he j
    rw [hk', hen] at qe
    have e4 : en = entryOfKey (tupleKind (mixKind X.prog X.w)) k := Option.some.inj qe
    rw [e4] at hg
    exact ⟨k.2.1, k.2.2, hg, e3, e2⟩
  have listAt : (h'.push { cls := .type "list", data := .seq (as.map Value.ref).toArray }).get? h'.objs.size = some (seqObj "list" (as.map Value.ref).toArray 0) := Heap.get?_push_size _ rfl
  have keepS : ∀ b o, s.heap.get? b = some o → (h'.push { cls := .type "list", data := .seq (as.map Value.ref).toArray }).get? b = some o := fun b o e => Heap.get?_push_of_some _ (keep1 b o e)
  have keepM : ∀ b o, h'.get? b = some o → (h'.push { cls := .type "list", data := .seq (as.map Value.ref).toArray }).get? b = some o := fun b o e => Heap.get?_push_of_some _ e
  have oldNe : ∀ b o, h'.get? b = some o → b ≠ h'.objs.size := fun b o e => Nat.ne_of_lt (Heap.lt_size e)
  generalize hL : as.zip xs = L
  have eA : as.map Value.ref = L.map fun z => Value.ref z.1 := by
    have e := List.map_fst_zip (l₁ := as) (l₂ := xs) (by omega)
    rw [← hL]
    conv => lhs; rw [← e]
    rw [List.map_map]
    rfl
  have eX : L.map (·.2) = xs := by rw [← hL]; exact List.map_snd_zip (by omega)
  have idx : ∀ z ∈ L, ∃ j : Nat, as[j]? = some z.1 ∧ xs[j]? = some z.2 := fun z' hz' => by
    obtain ⟨j, hj⟩ := List.mem_iff_getElem?.mp hz'
    rw [← hL] at hj
    exact ⟨j, List.getElem?_zip_eq_some.mp hj⟩
  have Ik : Inv X pins σ H { s with heap := h', toks := tk } := I.kept (t' := tk) keep1
  have rd : ∀ z ∈ L, ∃ rs, Reads (h'.push { cls := .type "list", data := .seq (as.map Value.ref).toArray }) (.ref z.1) (itD z.2) rs ∧ h'.objs.size ∉ rs := fun z hz => by
    obtain ⟨j, hj, hx⟩ := idx z hz
    obtain ⟨q', u, hg, ru, hq⟩ := pairs j _ _ hj hx
    obtain ⟨a1, r1⟩ := (dp_tup (SqT.of hq)).reads Ik (tupD z.2.1) _ (.ref q') rfl
    obtain ⟨a2, r2⟩ := (dp z.2 (List.mem_of_getElem? hx)).1.reads Ik z.2.2.2 _ u ru
    have R0 : ∃ rs, Reads h' (.ref z.1) (itD z.2) rs := ⟨_, show Reads h' (.ref z.1) (.tuple [tupD z.2.1, z.2.2.2]) _ from Reads.tuple hg rfl rfl (.cons r1 (.cons r2 .nil))⟩
    obtain ⟨rs, R0⟩ := R0
    exact ⟨rs, PyProof.Rows.Reads.keeps (fun b u e => Heap.get?_push_of_some _ e) R0, fun m => by
      obtain ⟨u, e⟩ := PyProof.On.reads_mem_get R0 _ m
      exact Nat.lt_irrefl _ (Heap.lt_size e)⟩
  rw [eA] at listAt keepS keepM rd ⊢
  generalize h'.push { cls := .type "list", data := .seq (L.map fun z => Value.ref z.1).toArray } = h2 at listAt keepS keepM rd ⊢
  have eD : L.map (fun z => itD z.2) = xs.map itD := by rw [← eX, List.map_map]; rfl
  refine PySem.W.list_sort_data (s := { s with heap := h2, toks := tk }) (A := X.A.in1) (R := fun v (z : Addr × ItD) => v = .ref z.1) (enc := fun z : Addr × ItD => itD z.2) listAt (each_of_map (f := fun z : Addr × ItD => Value.ref z.1) (fun _ => rfl) L) (each_all (f := fun z : Addr × ItD => Value.ref z.1) rd) (by rw [eD]; exact hal) (.inl fun d hd => ?_) (by
      have := congrArg List.length eX
      rw [List.length_map] at this
      rw [sizeLine_eq]; omega) (fun z hz => by
      obtain ⟨j, _, hx⟩ := idx z hz
      have := itD_depth (dp z.2 (List.mem_of_getElem? hx)).2
      show X.A.units + 1 + 1 + (itD z.2).depth < cLine
      omega) fun out lo eo => ?_
  · obtain ⟨z, hz, rfl⟩ := List.mem_map.mp hd
    exact ⟨_, _, rfl⟩
  show EP X pins σ Q (.ref h'.objs.size) { s with heap := sortedHeap h2 h'.objs.size (L.map fun z => Value.ref z.1) (List.toArray out), toks := tk }
  have pm := List.mergeSort_perm L (PySem.W.dataLe false fun z : Addr × ItD => itD z.2)
  have srt : (L.mergeSort (PySem.W.dataLe false fun z : Addr × ItD => itD z.2)).Pairwise fun x y => PySem.W.dataLt (itD y.2) (itD x.2) = false := by
    refine (PySem.W.sort_pairwise (PySem.W.sortLe_total _ false _) _).imp fun {x y} h => ?_
    have h' : PySem.W.dataLe false (fun z : Addr × ItD => itD z.2) x y = true := h
    rw [PySem.W.dataLe_eq] at h'
    have h2 : (!PySem.W.dataLt (itD y.2) (itD x.2)) = true := h'
    cases c : PySem.W.dataLt (itD y.2) (itD x.2) with
    | false => rfl
    | true => rw [c] at h2; cases h2
  have rv := refs_vals (g := fun z : Addr × ItD => z.1) eo
  generalize L.mergeSort (PySem.W.dataLe false fun z : Addr × ItD => itD z.2) = zs at pm srt rv
  have kF : ∀ b o, b ≠ h'.objs.size → h2.get? b = some o → (sortedHeap h2 h'.objs.size (L.map fun z => Value.ref z.1) (List.toArray out)).get? b = some o := fun b o hb e => (PyProof.Rows.sortedHeap_old hb (Heap.lt_size e)).trans e
  have kS : ∀ b o, s.heap.get? b = some o → (sortedHeap h2 h'.objs.size (L.map fun z => Value.ref z.1) (List.toArray out)).get? b = some o := fun b o e => kF b o (oldNe _ _ (keep1 b o e)) (keepS b o e)
  obtain ⟨eF, heF⟩ := PyProof.Rows.sortedHeap_at (vs := L.map fun z => Value.ref z.1) (out := List.toArray out) listAt
  have freeL : H h'.objs.size = none := I.hok.fresh (Nat.le_of_lt lower)
  have fewL : (zs.map fun z => V.ref z.1).length ≤ sizeLine := by
    have e := pm.length_eq
    have := congrArg List.length eX
    rw [List.length_map] at this
    rw [List.length_map, sizeLine_eq]
    omega
  have okL : ObjOk X.prog X.w (upd H h'.objs.size (.lst (zs.map fun z => V.ref z.1))) (sortedHeap h2 h'.objs.size (L.map fun z => Value.ref z.1) (List.toArray out)) h'.objs.size (.lst (zs.map fun z => V.ref z.1)) := ⟨fewL, out, eF, rv, heF⟩
  have I2 : Inv X pins σ (upd H h'.objs.size (.lst (zs.map fun z => V.ref z.1))) { s with heap := sortedHeap h2 h'.objs.size (L.map fun z => Value.ref z.1) (List.toArray out), toks := tk } :=
    I.laid (t' := tk) kS (Nat.le_of_lt lower) okL
  obtain ⟨H2, I3, g, qt⟩ := DX.takeT (P := fun b vs => ∃ (j : Nat) (x : ItD) (q : Addr), as[j]? = some b ∧ xs[j]? = some x ∧ vs = [.ref q, x.2.1] ∧ H q = some (.tup (x.1.map kV))) I as _ I2 nd fun b hb => by
    obtain ⟨j, hj⟩ := List.mem_iff_getElem?.mp hb
    have jl : j < as.length := (List.getElem?_eq_some_iff.mp hj).1
    have hx := List.getElem?_eq_getElem (l := xs) (i := j) (by omega)
    obtain ⟨q', u, hg, ru, hq⟩ := pairs j b _ hj hx
    have lowB : s.heap.objs.size ≤ b := Nat.le_of_lt (made.above b hb)
    refine ⟨lowB, ?_, [.ref q', _], ⟨j, _, q', hj, hx, rfl, hq⟩, fun H3 => ⟨(by rw [sizeLine_eq]; show 2 ≤ 16777216; omega), [Value.ref q', u], .cons rfl (.cons ru .nil), ⟨_, kF _ _ (oldNe _ _ hg) (keepM _ _ hg), rfl, 0, rfl⟩⟩⟩
    rw [upd_ne (oldNe _ _ hg)]
    exact I.hok.fresh lowB
  have grown : ∀ b o, H b = some o → H2 b = some o := fun b o e => g b o (by rw [upd_ne (ne_of_none e freeL)]; exact e)
  refine ⟨.ref h'.objs.size, H2, I3, rfl, q H2 h'.objs.size zs grown (by rw [← eX]; exact pm.map _) (List.pairwise_map.mpr srt) (g _ _ upd_same) fun z' hz' => ?_⟩
  obtain ⟨i, i1, i2⟩ := idx z' (pm.mem_iff.mp hz')
  obtain ⟨vs, ⟨j, x, q', j1, j2, ev, hq'⟩, hH⟩ := qt z'.1 (List.mem_of_getElem? i1)
  have sameIx : i = j := (List.getElem?_inj (List.getElem?_eq_some_iff.mp i1).1 nd).mp (i1.trans j1.symm)
  subst sameIx
  have ee : x = z'.2 := Option.some.inj (j2.symm.trans i2)
  rw [ev, ee] at hH
  rw [ee] at hq'
  exact ⟨q', hH, grown _ _ hq'⟩
end
end L2

/-! xs != [], whatever xs holds -/
namespace L2
open PySem PySem.Spec PyProof.Rows
section
variable {X : Cx}
def rNeNil (K : PySem.W.Frag) : R2 := fun x y H Q => ∃ (a b : Addr) (xs : List V), x = .ref a ∧ y = .ref b ∧ SqL K H a xs ∧ SqL K H b [] ∧ Q (.bl (!xs.isEmpty)) H
theorem op_neNil (hu : X.A.units + 64 < cLine) : OpR X (compareOp .NotEq) (rNeNil X.K) := by
  intro pins s σ H x y v u Q I rx ry h
  obtain ⟨a, b, xs, rfl, rfl, ha, hb, q⟩ := h
  cases rx
  cases ry
  obtain ⟨its, r1, l1, _⟩ := I.list ha
  obtain ⟨jts, r2, l2, _⟩ := I.list hb
  cases r2
  have u0 : X.A.units < cLine := by omega
  cases xs with
  | nil =>
    cases r1
    have h := SeqAt.RcNeAt.lists (e := fun _ => true) l1.isList l2.isList rfl u0 (fun j h1 _ => absurd h1 (by simp))
    exact h _ _ _ _ ⟨.bl _, H, I, rfl, q⟩
  | cons x xs =>
    cases r1 with
    | cons r r1 =>
      have h := SeqAt.RcNeAt.lists_lengths l1.isList l2.isList (by simp) u0
      exact h _ _ _ _ ⟨.bl _, H, I, rfl, q⟩
end
end L2

namespace Half
open PySem PySem.Spec PyProof.Rows L2
structure SvF (P : Program) (w : World) (K : PySem.W.Frag) (mg : Str → Option Value) (base : Heap) (CT CN : Addr) : Prop where
  cl : Cls K CT
  ex : ∃ f fd, Meth K CT "versions" f ∧ FnOk P w K mg base (L2.CX P w) 1 f fd ["self", "name"] (spVers CT CN) ∧ Binds K fd ["self", "name"] []
abbrev KeyAt (H : Hp) (q : Addr) (k : Kk) : Prop := H q = some (.tup [.str k.1, .int k.2])
theorem nums_of (ys : List Kk) (nm : Str) : numsOf ys nm = (ys.filter fun y => decide (y.1 = nm)).map fun y => V.int y.2 := rfl
theorem paired_two {α β : Type} {R : α → β → Prop} : ∀ {xs : List α} {ys : List β} {xs' : List α} {ys' : List β}, Paired R xs ys → Paired R xs' ys' → Paired R (xs ++ xs') (ys ++ ys')
  | _, _, _, _, .nil, b => b
  | _, _, _, _, .cons a t, b => .cons a (paired_two t b)
theorem op_inS {X : Cx} {CT : Addr} (D : HasF X.prog X.w X.K X.mg X.base CT) (hr : Room 1 X.A) : OpR X (compareOp .In) (rInO CT (spHas CT) E0 fun b => b) := by
  obtain ⟨f, fd, O, F, b⟩ := D.ex
  exact op_inO F O b hr pass0
structure IsNm (ks : List Kk) (ns : List Str) : Prop where
  nd : ns.Nodup
  asc : ns.Pairwise txLe
  mem : ∀ x, x ∈ ns ↔ x ∈ ks.map (·.1)
theorem same_perm {α : Type} [DecidableEq α] {l m : List α} (hl : l.Nodup) (hm : m.Nodup) (h : ∀ z, z ∈ l ↔ z ∈ m) : m.Perm l := perm_of_len hl (fun z => (h z).mp) (len_sub hm fun z => (h z).mpr)
theorem IsNm.uniq {ks : List Kk} {ns ms : List Str} (h1 : IsNm ks ns) (h2 : IsNm ks ms) : ns = ms :=
  sorted_uniq txLe_as h1.asc h2.asc (same_perm h2.nd h1.nd fun z => (h2.mem z).trans (h1.mem z).symm)
theorem names_asc {ys : List Kk} (h : Asc ys) : (dset (ys.map (·.1))).Pairwise txLe := by
  refine List.Pairwise.sublist (dset_sub _) ?_
  rw [List.pairwise_map]
  refine h.imp fun {a b} hab => ?_
  unfold txLe
  rcases pLt_no hab with q | ⟨q, _⟩
  · exact tx_as q
  · rw [q]; exact tx_irr _
theorem isNm_of {ks ys : List Kk} (hp : ys.Perm ks) (ha : Asc ys) : IsNm ks (dset (ys.map (·.1))) := ⟨dset_nodup _, names_asc ha, nam_mem hp⟩
section
variable {K : PySem.W.Frag} {CT r a st fa ta l : Addr} {es : Eds} {fs : Fls} {ts : Tks} {ks : List Kk} {H H' : Hp}
theorem Apart.mv {d : Addr} (hO : StObj CT H st es) (k : ∀ o, H st = some o → H' st = some o) (h : Apart CT H st d) : Apart CT H' st d := fun dx tb nb q => by
  obtain ⟨⟨dy, tb', nb', h1, -⟩, -⟩ := hO
  have e := (k _ h1).symm.trans q
  injection e with e
  injection e with _ e1 e2
  injection e2 with e3 _
  injection e3 with _ e4
  injection e4 with e5
  have := h _ _ _ h1
  rw [e5] at this
  exact this
end
/-! ### keys in their order -/
theorem kD_lt (a b : Kk) : PySem.W.dataLt (kD a) (kD b) = if a.1 = b.1 then decide (a.2 < b.2) else decide (a.1.cps.toList < b.1.cps.toList) := by
  unfold kD
  rw [PySem.W.dataLt_pair (by simp [PySem.W.alike]) (by simp [PySem.W.alike])]
  simp only [PyData.eqv, decide_eq_true_eq, PySem.W.dataLt_int, PySem.W.dataLt_str, beq_iff_eq]
  by_cases h : a.1 = b.1
  · rw [if_pos h, if_pos h]
    by_cases h2 : a.2 = b.2
    · rw [if_pos h2, h2, decide_eq_false (Int.lt_irrefl _)]
    · rw [if_neg h2]
  · rw [if_neg h, if_neg h]
theorem kD_anti {a b : Kk} (h1 : PySem.W.dataLt (kD a) (kD b) = false) (h2 : PySem.W.dataLt (kD b) (kD a) = false) : a = b := by
  rw [kD_lt] at h1 h2
  by_cases h : a.1 = b.1
  · rw [if_pos h] at h1
    rw [if_pos h.symm] at h2
    have e1 := of_decide_eq_false h1
    have e2 := of_decide_eq_false h2
    exact Prod.ext h (by omega)
  · rw [if_neg h] at h1
    rw [if_neg (Ne.symm h)] at h2
    exact absurd (txLe_as a.1 b.1 h2 h1) h
theorem kD_eqv (a b : Kk) : PyData.eqv (kD a) (kD b) = decide (a = b) := by
  simp only [kD, PyData.eqv, PyData.eqvAll, Bool.and_true]
  by_cases h : a = b
  · subst h; simp
  · rw [decide_eq_false h]
    by_cases h1 : a.1 = b.1
    · by_cases h2 : a.2 = b.2
      · exact absurd (Prod.ext h1 h2) h
      · simp [h2]
    · simp [h1]
theorem eq_at_key {α β : Type} : ∀ {fs : List (α × β)}, (fs.map (·.1)).Nodup → ∀ {x y}, x ∈ fs → y ∈ fs → x.1 = y.1 → x = y
  | f :: fs, nd, x, y, hx, hy, e => by
    obtain ⟨n, nd⟩ := List.nodup_cons.mp nd
    rcases List.mem_cons.mp hx with ex | hx1
    · rcases List.mem_cons.mp hy with ey | hy1
      · rw [ex, ey]
      · exact absurd (List.mem_map.mpr ⟨y, hy1, by rw [← e, ex]⟩) n
    · rcases List.mem_cons.mp hy with ey | hy1
      · exact absurd (List.mem_map.mpr ⟨x, hx1, by rw [e, ey]⟩) n
      · exact eq_at_key nd hx1 hy1 e
theorem eq_of_keys {α β : Type} {fs : List (α × β)} (nd : (fs.map (·.1)).Nodup) : ∀ {l m : List (α × β)}, (∀ x ∈ l, x ∈ fs) → (∀ x ∈ m, x ∈ fs) → l.map (·.1) = m.map (·.1) → l = m
  | [], [], _, _, _ => rfl
  | [], _ :: _, _, _, e => by cases e
  | _ :: _, [], _, _, e => by cases e
  | x :: l, y :: m, hl, hm, e => by
    rw [List.map_cons, List.map_cons] at e
    injection e with e1 e2
    rw [eq_at_key nd (hl x (.head _)) (hm y (.head _)) e1, eq_of_keys nd (fun z hz => hl z (.tail _ hz)) (fun z hz => hm z (.tail _ hz)) e2]
/-! shapes -/
theorem lay_all : ∀ {ds : List PyData} {n : Nat}, (∀ d ∈ ds, PyData.canLay0 d = true ∧ PyData.depth d ≤ n) → PyData.canLayAll0 ds = true ∧ PyData.depthAll ds ≤ n
  | [], _, _ => ⟨by simp [PyData.canLayAll0], by simp [PyData.depthAll]⟩
  | d :: ds, n, h => by
    obtain ⟨a, b⟩ := h d List.mem_cons_self
    obtain ⟨x, y⟩ := lay_all fun e he => h e (List.mem_cons_of_mem _ he)
    refine ⟨by simp [PyData.canLayAll0, a, x], ?_⟩
    simp only [PyData.depthAll]
    omega
theorem lay_tup {ds : List PyData} {n : Nat} (h : ∀ d ∈ ds, PyData.canLay0 d = true ∧ PyData.depth d ≤ n) : PyData.canLay0 (.tuple ds) = true ∧ PyData.depth (.tuple ds) ≤ n + 1 := by
  obtain ⟨a, b⟩ := lay_all h
  refine ⟨by simp only [PyData.canLay0]; exact a, ?_⟩
  simp only [PyData.depth]
  omega
theorem lay_list {ds : List PyData} {n : Nat} (h : ∀ d ∈ ds, PyData.canLay0 d = true ∧ PyData.depth d ≤ n) : PyData.canLay0 (.list ds) = true ∧ PyData.depth (.list ds) ≤ n + 1 := by
  obtain ⟨a, b⟩ := lay_all h
  refine ⟨by simp only [PyData.canLay0]; exact a, ?_⟩
  simp only [PyData.depth]
  omega
theorem shaped_of {d : PyData} {n : Nat} (h : PyData.canLay0 d = true ∧ PyData.depth d ≤ n) (l : n ≤ 64) : SeqAt.shaped d = true := by
  unfold SeqAt.shaped
  rw [Bool.and_eq_true]
  exact ⟨h.1, decide_eq_true (Nat.le_trans h.2 l)⟩
theorem lay_str {z : Str} {n : Nat} (h : PyData.strOk z = true) : PyData.canLay0 (.str z) = true ∧ PyData.depth (.str z) ≤ n := ⟨by simp [PyData.canLay0, h], by simp [PyData.depth]⟩
theorem lay_kD {k : Kk} (h : PyData.strOk k.1 = true) : PyData.canLay0 (kD k) = true ∧ PyData.depth (kD k) ≤ 1 := lay_tup (n := 0) fun d hd => by
  rcases List.mem_cons.mp hd with rfl | hd
  · exact lay_str h
  · rw [List.mem_singleton.mp hd]
    exact ⟨by simp [PyData.canLay0], by simp [PyData.depth]⟩
structure LayF (P : Program) (w : World) (K : PySem.W.Frag) (mg : Str → Option Value) (base : Heap) (CT CY CL : Addr) : Prop where
  cl : Cls K CY
  ini : ∃ f fd, FnOk P w K mg base (L2.CX P w) 5 f fd ["self", "store", "files", "takes"] (spLi K CT CY CL) ∧ Mk K CY f ∧ Binds K fd ["self", "store", "files", "takes"] [] ∧ mg "Layout" = some (.ref CY)
  prF : ∃ p g fd, PropOf K CY "files" p g ∧ FnOk P w K mg base CX0 1 g fd ["self"] (spLf CY) ∧ Binds K fd ["self"] []
  prT : ∃ p g fd, PropOf K CY "takes" p g ∧ FnOk P w K mg base CX0 1 g fd ["self"] (spLt CY) ∧ Binds K fd ["self"] []
  prS : ∃ p g fd, PropOf K CY "store" p g ∧ FnOk P w K mg base CX0 1 g fd ["self"] (spLs CY) ∧ Binds K fd ["self"] []
  eqY : ∃ f fd, OwnEqC K CY f ∧ FnOk P w K mg base CX0 2 f fd ["self", "other"] (spLeq CT CY) ∧ Binds K fd ["self", "other"] []
  eqS : StEqF P w K mg base CT
abbrev tLf (CY : Addr) (te : TE) : TE := tProp CY (spLf CY) [] E0 te
abbrev tLt (CY : Addr) (te : TE) : TE := tProp CY (spLt CY) [] E0 te
abbrev tLs (CY : Addr) (te : TE) : TE := tProp CY (spLs CY) [] E0 te
section
variable {X : Cx} {CT CY CL : Addr} {e : Expr} {te : TE} {pos : Pos}
theorem pe_lf (D : LayF X.prog X.w X.K X.mg X.base CT CY CL) (hr : Room 2 X.A) (he : PE X e te) (hab : attributeBase e "files" X.env (eval e X.env) = eval e X.env := by rfl) : PE X (.Attribute e "files" pos) (tLf CY te) := by
  obtain ⟨p, g, fd, h1, h2, h3⟩ := D.prF
  exact pe_prop he D.cl h1 h2 hr h3 .nil pass0 hab
theorem pe_lt (D : LayF X.prog X.w X.K X.mg X.base CT CY CL) (hr : Room 2 X.A) (he : PE X e te) (hab : attributeBase e "takes" X.env (eval e X.env) = eval e X.env := by rfl) : PE X (.Attribute e "takes" pos) (tLt CY te) := by
  obtain ⟨p, g, fd, h1, h2, h3⟩ := D.prT
  exact pe_prop he D.cl h1 h2 hr h3 .nil pass0 hab
theorem pe_ls (D : LayF X.prog X.w X.K X.mg X.base CT CY CL) (hr : Room 2 X.A) (he : PE X e te) (hab : attributeBase e "store" X.env (eval e X.env) = eval e X.env := by rfl) : PE X (.Attribute e "store" pos) (tLs CY te) := by
  obtain ⟨p, g, fd, h1, h2, h3⟩ := D.prS
  exact pe_prop he D.cl h1 h2 hr h3 .nil pass0 hab
end
theorem LayAt.same {CY : Addr} {H H' : Hp} {a st d1 d2 : Addr} {fs : Fls} {ts : Tks} (S : Same H H') (h : LayAt CY H a st d1 d2 fs ts) : LayAt CY H' a st d1 d2 fs ts := by
  obtain ⟨dx, h1⟩ := h.ob
  exact ⟨⟨dx, S _ _ h1⟩, S _ _ h.gf, S _ _ h.gt⟩
theorem paired_map {α β γ : Type} {R : α → γ → Prop} {f : β → γ} : ∀ {l : List α} {m : List β}, Paired (fun a b => R a (f b)) l m → Paired R l (m.map f)
  | _, _, .nil => .nil
  | _, _, .cons a t => .cons a (paired_map t)
theorem paired_self {α β γ : Type} {f : γ → α} {g : γ → β} {R : α → β → Prop} : ∀ {l : List γ}, (∀ z ∈ l, R (f z) (g z)) → Paired R (l.map f) (l.map g)
  | [], _ => .nil
  | z :: l, h => .cons (h z (.head _)) (paired_self fun y hy => h y (.tail _ hy))
theorem paired_mem {α β : Type} {R S : α → β → Prop} : ∀ {l : List α} {m : List β}, Paired R l m → (∀ a b, b ∈ m → R a b → S a b) → Paired S l m
  | _, _, .nil, _ => .nil
  | _, _, .cons a t, h => .cons (h _ _ (.head _) a) (paired_mem t fun x y hy r => h x y (.tail _ hy) r)
theorem paired_unmap {α β γ : Type} {R : α → γ → Prop} {f : β → γ} : ∀ {l : List α} {m : List β}, Paired R l (m.map f) → Paired (fun a b => R a (f b)) l m
  | [], [], _ => .nil
  | _ :: _, _ :: _, .cons a t => .cons a (paired_unmap t)
theorem next_readL {D : Ends} {σ : L2.St} {H : Hp} (h : D.nx σ H) : tNext D σ H := h
theorem if_readL {c : TT} {t u : TS} {D : Ends} {σ : L2.St} {H : Hp} (h : c σ H fun b H1 => if b = true then t D σ H1 else u D σ H1) : tIfS c t u D σ H := h
section
variable {K : PySem.W.Frag} {CT CY CL st fa ta : Addr} {es : Eds} {fs : Fls} {ts : Tks} {H H' : Hp}
theorem LayIn.same (S : Same H H') (h : LayIn K CT H st fa ta es fs ts) : LayIn K CT H' st fa ta es fs ts := by
  obtain ⟨⟨dy, tb, nb, h1, -⟩, -⟩ := id h.sto
  exact ⟨h.sto.same S, h.apF.mv h.sto fun o q => S _ _ q, h.apT.mv h.sto fun o q => S _ _ q, S _ _ h.gF, S _ _ h.gT, fun e he => ⟨(h.hF e he).1, (h.hF e he).2.1.kp S.kp, (h.hF e he).2.2⟩, fun e he => ⟨(h.hT e he).1, S.kp _ _ (h.hT e he).2.1, (h.hT e he).2.2⟩, h.lf, h.lt, h.ndF, h.ndT⟩
/-- a layout that can be is made -/
theorem lay_read {Q : VK} {E : XK} (I : LayIn K CT H st fa ta es fs ts) (hf : fs.filter (badF (keysOf es)) = []) (ht : ts.filter (badT (keysOf es)) = [])
    (k : ∀ x H' d1 d2 fs' ts', Same H H' → H x = none → LayAt CY H' x st d1 d2 fs' ts' → fs'.Perm fs → AscK fs' → ts'.Perm ts → AscK ts' → Q (.ref x) H') :
    ∀ x dx, H x = none → H dx = none → dx ≠ x → spLi K CT CY CL (.ref x :: ([.ref st, .ref fa, .ref ta] ++ [])) (upd (upd H dx (.own x)) x (.ins CY dx [])) (fun v H2 => v = .non ∧ Q (.ref x) H2) E := fun x dx nx ndx nxx => by
  have sx : Same H (upd (upd H dx (.own x)) x (.ins CY dx [])) := fun b o q => by
    rw [upd_ne (ne_of_none q nx), upd_ne (ne_of_none q ndx)]
    exact q
  refine ⟨x, dx, st, fa, ta, es, fs, ts, rfl, upd_same, I.same sx, fun _ _ H4 d1 d2 fs' ts' s4 kp4 la n1 n2 pF aF pT aT => ⟨rfl, ?_⟩, fun k0 ks m e => ?_, fun _ k0 ks m e => ?_⟩
  · exact k x H4 d1 d2 fs' ts' (fun b o q => s4 _ _ (ne_of_none q nx) (sx _ _ q)) nx la pF aF pT aT
  · rw [hf] at e; cases e
  · rw [ht] at e; cases e
theorem lay_make {Q : VK} {E : XK} {te : TE} {σ : L2.St} (e3 : σ[3]? = some (some (.ref st))) (e4 : σ[4]? = some (some (.ref fa))) (hte : ∀ Q' : VK, (∀ ta H', Same H H' → LayIn K CT H' st fa ta es fs ts → Q' (.ref ta) H') → te σ H Q') (hf : fs.filter (badF (keysOf es)) = []) (ht : ts.filter (badT (keysOf es)) = [])
    (k : ∀ x H' d1 d2 fs' ts', Same H H' → LayAt CY H' x st d1 d2 fs' ts' → fs'.Perm fs → AscK fs' → ts'.Perm ts → AscK ts' → Q (.ref x) H') : tMake CY (spLi K CT CY CL) [] E (tCons (tVar 3) (tCons (tVar 4) (tCons te tNil))) σ H Q :=
  ⟨_, e3, _, e4, hte _ fun ta H1 s1 I => lay_read I hf ht fun x H' d1 d2 fs' ts' s2 _ a b c d e => k x H' d1 d2 fs' ts' (s1.trans s2) a b c d e⟩
theorem apart_new {d : Addr} {o : HO} (h : StObj CT H st es) (n : H d = none) : Apart CT (upd H d o) st d := fun dx tb nb q => by
  obtain ⟨⟨dy, tb', nb', h1, h2, h3⟩, one⟩ := h
  have e : upd H d o st = some (.ins CT dy [("table", .ref tb'), ("numbers", .ref nb')]) := by
    rw [upd_ne (ne_of_none h1 n)]; exact h1
  rw [q] at e
  injection e with e
  injection e with _ e1 e2
  injection e2 with e3 _
  injection e3 with _ e4
  injection e4 with e5
  rw [e5]
  exact ne_of_none h2 n
theorem sameT_of {α : Type} {v : α → Addr} {l m n : List (Kk × α)} (p : l.Perm n) (q : m.Perm n) (nd : (n.map (·.1)).Nodup) : SameT v l m := fun _ e he => by
  have ndm : (m.map (·.1)).Nodup := (q.map _).nodup_iff.mpr nd
  exact val_nodup (kvG_nodup (v := v) ndm) (keyL e.1, .ref (v e.2)) (by unfold kvG; exact List.mem_map.mpr ⟨e, q.mem_iff.mpr (p.mem_iff.mp he), rfl⟩)
theorem leq_read {H0 : Hp} {fl : Bool → Bool} {a b d1 d2 e1 e2 : Addr} {fs' fs'' : Fls} {ts' ts'' : Tks} {Q : VK} (h1 : LayAt CY H a st d1 d2 fs' ts') (h2 : LayAt CY H b st e1 e2 fs'' ts'') (hO : StObj CT H st es) (sF : SameT (fun p : Addr × List (Str × V) => p.1) fs' fs'') (sT : SameT (fun p : Addr × List Str => p.1) ts' ts'')
    (q : Q (.bl (fl (decide (fs'.length = fs''.length) && decide (ts'.length = ts''.length)))) H) : rEqO CY (spLeq CT CY) fl (.ref a) (.ref b) H Q := by
  obtain ⟨dx, g1⟩ := h1.ob
  obtain ⟨dy, g2⟩ := h2.ob
  have e : (decide (es.length = es.length) && (decide (fs'.length = fs''.length) && decide (ts'.length = ts''.length))) = (decide (fs'.length = fs''.length) && decide (ts'.length = ts''.length)) := by
    rw [decide_eq_true rfl, Bool.true_and]
  refine ⟨a, b, dx, dy, _, _, rfl, rfl, g1, g2, a, b, st, st, d1, d2, e1, e2, fs', fs'', ts', ts'', es, es, rfl, h1, h2, hO, hO, fun _ e he => he, sF, sT, _, rfl, ?_⟩
  rw [e]
  exact q
end
theorem seq_read {t u : TS} {D : Ends} {σ : L2.St} {H : Hp} (h : t { D with nx := u D } σ H) : tSeq t u D σ H := h
theorem set_readL {te : TE} {i : Nat} {D : Ends} {σ : L2.St} {H : Hp} (h : te σ H fun x H1 => D.nx (σ.set i (some x)) H1) : tAsg te (gName i) D σ H := h
theorem let_ok : ∀ c ∈ LET.cps.toList, decide (c < 0x110000) = true := by decide +kernel
theorem word_ok {z : Str} (h : isWord z = true) : PyData.strOk z = true := by
  unfold isWord at h
  obtain ⟨_, h⟩ := Bool.and_eq_true_iff.mp h
  unfold PyData.strOk
  rw [← Array.all_toList]
  refine List.all_eq_true.mpr fun c hc => ?_
  exact let_ok c (of_decide_eq_true (List.all_eq_true.mp h c hc))
theorem files_ok {f : List (Str × V)} (h : areFiles f = true) : ∀ p ∈ f, PyData.strOk p.1 = true := fun p hp => by
  unfold areFiles at h
  have h2 := (Bool.and_eq_true_iff.mp (Bool.and_eq_true_iff.mp h).2).1
  exact word_ok (Bool.and_eq_true_iff.mp (List.all_eq_true.mp h2 p hp)).1
theorem takes_ok {ks : List Kk} {s : List Str} {nm : Str} (h : areTakes ks s nm = true) : ∀ z ∈ s, PyData.strOk z = true := fun z hz => by
  unfold areTakes areOthers at h
  have h2 := (Bool.and_eq_true_iff.mp (Bool.and_eq_true_iff.mp h).1).1
  exact word_ok (Bool.and_eq_true_iff.mp (List.all_eq_true.mp h2 z hz)).1
theorem dp_key {K : PySem.W.Frag} {H : Hp} {q : Addr} {m : Kk} (h : KeyAt H q m) : Dp K H (.ref q) (kD m) := .tup (SqT.of h) (.cons (.str _) (.cons (.int _) .nil))
end Half

/-! x < y of data; a list comprehension of two clauses, by invariants -/
namespace L2
open PySem PySem.Spec PyProof.Rows
section
variable {X : Cx}
def rLtD (K : PySem.W.Frag) : R2 := fun x y H Q => ∃ d e, Dp K H x d ∧ Dp K H y e ∧ PySem.W.alike d e = true ∧ d ≠ .none ∧ d.depth ≤ 20 ∧ Q (.bl (PySem.W.dataLt d e)) H
theorem op_ltD (hu : X.A.units + 40 < cLine) : OpR X (compareOp .Lt) (rLtD X.K) := by
  intro pins s σ H x y v u Q I rx ry h
  obtain ⟨d, e, hd, he, al, nn, dp, q⟩ := h
  obtain ⟨as, r1⟩ := Dp.reads I d x v hd rx
  obtain ⟨bs, r2⟩ := Dp.reads I e y u he ry
  show wpAny (model X.prog X.w) X.A (richCompare .Lt v u) (EP X pins σ Q) X.xe s
  refine PySem.W.rcLt_alike d e X.A s v u _ _ r1 r2 al nn ?_ X.prog X.w _ _ ⟨.bl _, H, I, rfl, q⟩
  have := Nat.min_le_left d.depth e.depth
  omega
end
/-- the inner clause's turns -/
theorem lc2_in {J1 : It} {n1 : Nat} {G1 : Hp → Prop} {Y1 : Nat → Hp → V → Hp → Prop} (w1 : Walk J1 n1 G1 Y1) {g1 : TG} {tt1 : TT} {te : TE} {vs1 : List Nat} {σ2 : St} {H4 : Hp} {D : Addr} {Nx : Hp → Prop} (Pv : Nat → Hp → Prop) (h0 : Pv 0 H4) (hG : ∀ i H, i ≤ n1 → Pv i H → G1 H)
    (hs : ∀ i x H H', i < n1 → Pv i H → Y1 i H x H' → g1 x (wipe σ2 vs1) H' fun σ3 H5 => wipe σ3 vs1 = wipe σ2 vs1 ∧ tt1 σ3 H5 fun b H6 =>
      if b = true then te σ3 H6 fun y H7 => ∃ acc, H7 D = some (.lst acc) ∧ acc.length < sizeLine ∧ Pv (i + 1) (upd H7 D (.lst (acc ++ [y]))) else Pv (i + 1) H6) (hd : ∀ H, Pv n1 H → Nx H) :
    ∃ W1 : Nat → Nat → Hp → Prop, (∃ m, W1 0 m H4) ∧ ∀ j k H, W1 j k H →
      (J1.stop j H ∧ Nx H) ∨ (J1.go j H ∧ ∃ Nx1 : Hp → Prop, (∀ H', Nx1 H' → ∃ k', k' < k ∧ W1 (j + 1) k' H') ∧ ∀ x H', J1.yld j H x H' → g1 x (wipe σ2 vs1) H' fun σ3 H5 => wipe σ3 vs1 = wipe σ2 vs1 ∧ tt1 σ3 H5 fun b H6 =>
        if b = true then te σ3 H6 fun y H7 => ∃ acc, H7 D = some (.lst acc) ∧ acc.length < sizeLine ∧ Nx1 (upd H7 D (.lst (acc ++ [y]))) else Nx1 H6) := by
  refine ⟨fun j k H => k = n1 - j ∧ j ≤ n1 ∧ Pv j H, ⟨n1, by omega, Nat.zero_le _, h0⟩, fun j k H hW => ?_⟩
  obtain ⟨rfl, le, p⟩ := hW
  rcases Nat.lt_or_ge j n1 with lt | ge
  · exact .inr ⟨w1.goes j H lt (hG j H le p), Pv (j + 1), fun H' p' => ⟨n1 - (j + 1), by omega, rfl, lt, p'⟩, fun x H' y => hs j x H H' lt p (w1.yields j H x H' lt (hG j H le p) y)⟩
  · obtain rfl : j = n1 := Nat.le_antisymm le ge
    exact .inl ⟨w1.stops H (hG j H le p), hd H p⟩
/-- the outer clause's turns -/
theorem lc2_it {J : It} {n : Nat} {G : Hp → Prop} {Y : Nat → Hp → V → Hp → Prop} (w : Walk J n G Y) {g g1 : TG} {tt tt1 : TT} {wi1 : TI} {te : TE} {vs vs1 : List Nat} {σ : St} {H1 : Hp} {D : Addr} {Qd : Hp → Prop} (Pv : Nat → Hp → Prop) (h0 : Pv 0 (upd H1 D (.lst []))) (hG : ∀ i H, i ≤ n → Pv i H → G H)
    (hs : ∀ i x H H', i < n → Pv i H → Y i H x H' → g x (wipe σ vs) H' fun σ2 H2 => wipe σ2 vs = wipe σ vs ∧ tt σ2 H2 fun b H3 =>
      if b = true then wi1 σ2 H3 fun J1 H4 => ∃ W1 : Nat → Nat → Hp → Prop, (∃ m, W1 0 m H4) ∧ ∀ j k H, W1 j k H →
        (J1.stop j H ∧ Pv (i + 1) H) ∨ (J1.go j H ∧ ∃ Nx1 : Hp → Prop, (∀ H', Nx1 H' → ∃ k', k' < k ∧ W1 (j + 1) k' H') ∧ ∀ x H', J1.yld j H x H' → g1 x (wipe σ2 vs1) H' fun σ3 H5 => wipe σ3 vs1 = wipe σ2 vs1 ∧ tt1 σ3 H5 fun b H6 =>
          if b = true then te σ3 H6 fun y H7 => ∃ acc, H7 D = some (.lst acc) ∧ acc.length < sizeLine ∧ Nx1 (upd H7 D (.lst (acc ++ [y]))) else Nx1 H6)
      else Pv (i + 1) H3) (hd : ∀ H, Pv n H → Qd H) :
    ∃ W : Nat → Nat → Hp → Prop, (∃ m, W 0 m (upd H1 D (.lst []))) ∧ ∀ i m H, W i m H →
      (J.stop i H ∧ Qd H) ∨ (J.go i H ∧ ∃ Nx : Hp → Prop, (∀ H', Nx H' → ∃ m', m' < m ∧ W (i + 1) m' H') ∧ ∀ x H', J.yld i H x H' → g x (wipe σ vs) H' fun σ2 H2 => wipe σ2 vs = wipe σ vs ∧ tt σ2 H2 fun b H3 =>
        if b = true then wi1 σ2 H3 fun J1 H4 => ∃ W1 : Nat → Nat → Hp → Prop, (∃ m, W1 0 m H4) ∧ ∀ j k H, W1 j k H →
          (J1.stop j H ∧ Nx H) ∨ (J1.go j H ∧ ∃ Nx1 : Hp → Prop, (∀ H', Nx1 H' → ∃ k', k' < k ∧ W1 (j + 1) k' H') ∧ ∀ x H', J1.yld j H x H' → g1 x (wipe σ2 vs1) H' fun σ3 H5 => wipe σ3 vs1 = wipe σ2 vs1 ∧ tt1 σ3 H5 fun b H6 =>
            if b = true then te σ3 H6 fun y H7 => ∃ acc, H7 D = some (.lst acc) ∧ acc.length < sizeLine ∧ Nx1 (upd H7 D (.lst (acc ++ [y]))) else Nx1 H6)
        else Nx H3) := by
  refine ⟨fun i m H => m = n - i ∧ i ≤ n ∧ Pv i H, ⟨n, by omega, Nat.zero_le _, h0⟩, fun i m H hW => ?_⟩
  obtain ⟨rfl, le, p⟩ := hW
  rcases Nat.lt_or_ge i n with lt | ge
  · exact .inr ⟨w.goes i H lt (hG i H le p), Pv (i + 1), fun H' p' => ⟨n - (i + 1), by omega, rfl, lt, p'⟩, fun x H' y => hs i x H H' lt p (w.yields i H x H' lt (hG i H le p) y)⟩
  · obtain rfl : i = n := Nat.le_antisymm le ge
    exact .inl ⟨w.stops H (hG i H le p), hd H p⟩
end L2

namespace Half
open PySem PySem.Spec PyProof.Rows L2
/-! ### the keys of all editions, ascending -/
theorem asc_uniq {ks ys zs : List Kk} (p : ys.Perm ks) (a : Asc ys) (p' : zs.Perm ks) (a' : Asc zs) : ys = zs :=
  sorted_uniq (le := fun x y : Kk => pLt y x = false) (fun x y h1 h2 => by
    rcases pLt_no h1 with q | ⟨q, q'⟩
    · rcases pLt_no h2 with z | ⟨z, _⟩
      · rw [tx_as q] at z; cases z
      · rw [z] at q; rw [tx_irr] at q; cases q
    · rcases pLt_no h2 with z | ⟨_, z'⟩
      · rw [q] at z; rw [tx_irr] at z; cases z
      · exact Prod.ext q (by omega)) a a' (p.trans p'.symm)
def ofNm (ys : List Kk) (nm : Str) : List Kk := ys.filter fun y => decide (y.1 = nm)
/-- the keys name by name -/
theorem by_names {ys : List Kk} (a : Asc ys) (nd : ys.Nodup) : (dset (ys.map (·.1))).flatMap (ofNm ys) = ys := by
  have mem : ∀ z, z ∈ (dset (ys.map (·.1))).flatMap (ofNm ys) ↔ z ∈ ys := fun z => by
    rw [List.mem_flatMap]
    constructor
    · rintro ⟨n, _, h⟩
      exact (List.mem_filter.mp h).1
    · intro h
      exact ⟨z.1, (mem_dset _ _).mpr (List.mem_map.mpr ⟨z, h, rfl⟩), List.mem_filter.mpr ⟨h, decide_eq_true rfl⟩⟩
  have ndn := dset_nodup (ys.map (·.1))
  have name : ∀ {n z}, z ∈ ofNm ys n → z.1 = n := fun h => of_decide_eq_true (List.mem_filter.mp h).2
  have nd' : ((dset (ys.map (·.1))).flatMap (ofNm ys)).Nodup := by
    refine List.pairwise_flatMap.mpr ⟨fun n _ => nd.sublist List.filter_sublist, ndn.imp fun {n m} h x hx y hy e => h ?_⟩
    rw [← name hx, ← name hy, e]
  refine asc_uniq (ks := ys) (same_perm nd nd' fun z => (mem z).symm) ?_ (List.Perm.refl _) a
  refine List.pairwise_flatMap.mpr ⟨fun n _ => a.sublist List.filter_sublist, ?_⟩
  have both := List.Pairwise.and ndn (names_asc a)
  refine both.imp fun {n m} h x hx y hy => ?_
  obtain ⟨h1, h2⟩ := h
  refine pLt_ge (.inl ?_)
  rw [name hx, name hy]
  cases c : txLt n m with
  | true => rfl
  | false => exact absurd (txLe_as n m h2 c) h1
abbrev sEk : Stmt := top 31
abbrev EkN : List Str := ["store", "name", "version"]
theorem scEk : FnScope EkN ["store"] (defScope sEk) := ⟨rfl, rfl, rfl, by decide +kernel, rfl, by decide +kernel, by decide +kernel⟩
def spEk (CT : Addr) : Sp := fun vs H Q _ => ∃ (st : Addr) (es : Eds), vs = [.ref st] ∧ StObj CT H st es ∧ es.length ≤ 40 ∧
  ∀ H' l qs (ys : List Kk), Same H H' → H l = none → H' l = some (.lst (qs.map V.ref)) → Paired (KeyAt H') qs ys → ys.Perm (keysOf es) → Asc ys → Q (.ref l) H'
section
variable {P : Program} {w : World} {K : PySem.W.Frag} {mg : Str → Option Value} {base : Heap} {CT CN : Addr}
theorem ok_ek {f : Addr} {fd : FuncData} (F : Fun K "edition_keys" "edition_keys" sEk f fd) (N : NamF P w K mg base CT) (SV : SvF P w K mg base CT CN) : FnOk P w K mg base CX0 3 f fd ["store"] (spEk CT) := by
  refine F.ok scEk (fun vs H Q E h => ?_) (fun cdv A outer s H vs Q E hr h => ?_)
  · obtain ⟨st, es, rfl, _⟩ := h
    rfl
  · obtain ⟨st, es, rfl, hO, few, k⟩ := h
    have nd := scEk.nd
    have r1 : Room 1 _ := hr.mono (by decide)
    obtain ⟨fv, fdv, Mv, Fv, bv⟩ := SV.ex
    refine ⟨_, pss_one (ps_ret (pe_lc2 (own := [("name", 1), ("version", 2)]) (vs1 := [2]) (g := gName 1) (g1 := gName 2) (tt := tYes) (tt1 := tYes) (te := tTup (tCons (tVar 1) (tCons (tVar 2) tNil))) (wi1 := iTup K (tMeth CT "versions" (spVers CT CN) [] E0 (tVar 0) (tCons (tVar 1) tNil))) rfl nd (pi_tup (pe_nam N hr (pv 0))) (blkOk_by (N := EkN) (sc := defScope sEk) (by decide +kernel)) (by decide)
        (fun _ _ _ _ _ => pg_name (i := 1) nd rfl (Or.inl rfl)) (fun _ _ _ _ _ => pts_nil) (fun _ _ _ _ _ => pi_tup (pe_meth (pv 0) SV.cl Mv Fv r1 bv .nil passL (pa_cons (pv 1) pa_nil))) (fun _ _ _ _ _ => pg_name (i := 2) nd rfl (Or.inl rfl)) (fun _ _ _ _ _ => pts_nil)
        (fun _ _ _ _ _ => pe_tup (pa_cons (pv 1) (pa_cons (pv 2) pa_nil))))), ?_⟩
    obtain ⟨⟨dx, tb, nb, ha, -⟩, -⟩ := id hO
    refine ⟨_, rfl, st, dx, _, rfl, ha, st, es, rfl, hO, fun ys nt pm asc nnt => ?_⟩
    have s1 := Same.upd_new (o := .tup ((dset (ys.map (·.1))).map V.str)) nnt
    have gn : SqT K (upd H nt (.tup ((dset (ys.map (·.1))).map V.str))) nt ((dset (ys.map (·.1))).map V.str) := SqT.of upd_same
    generalize upd H nt (.tup ((dset (ys.map (·.1))).map V.str)) = H1 at s1 gn ⊢
    have one := hO.one
    have ndy : ys.Nodup := pm.symm.nodup_iff.mp one
    have ly : ys.length ≤ 40 := by
      rw [pm.length_eq]
      unfold keysOf
      rw [List.length_map]
      exact few
    have ndn := dset_nodup (ys.map (·.1))
    have bn := by_names asc ndy
    -- so many so far
    have soM : ∀ j, (((dset (ys.map (·.1))).take j).flatMap (ofNm ys)).length ≤ 40 := fun j => by
      have h := congrArg List.length bn
      rw [← List.take_append_drop j (dset (ys.map (·.1))), List.flatMap_append, List.length_append] at h
      omega
    generalize hns : dset (ys.map (·.1)) = ns at gn ndn bn soM
    have inn : ∀ n ∈ ns, n ∈ (keysOf es).map (·.1) := fun n hn => by
      rw [← hns] at hn
      obtain ⟨y, hy, e⟩ := List.mem_map.mp ((mem_dset _ n).mp hn)
      exact List.mem_map.mpr ⟨y, pm.mem_iff.mp hy, e⟩
    refine ⟨nt, rfl, ⟨_, gn⟩, fun D hD => ?_⟩
    refine lc2_it (walk_tup (xs := ns.map V.str)) (fun i H' => Same H1 H' ∧ ∃ qs : List Addr, H' D = some (.lst (qs.map V.ref)) ∧ Paired (KeyAt H') qs ((ns.take i).flatMap (ofNm ys))) ⟨Same.upd_new hD, [], upd_same, .nil⟩ (fun _ _ _ h => h.1.sqT gn) ?_ ?_
    · rintro i v H2 H3 hi ⟨s2, qs, g2, p2⟩ ⟨rfl, hv⟩
      obtain ⟨nm, hnm, rfl⟩ := getE hv
      refine ⟨rfl, ?_⟩
      have S2 := s1.trans s2
      refine ⟨_, rfl, st, dx, _, rfl, S2 _ _ ha, rfl, _, rfl, st, es, nm, rfl, hO.same S2, (fun _ ys2 t2 pm2 asc2 ht2 => ?_), (fun z => absurd (inn nm (List.mem_of_getElem? hnm)) z)⟩
      obtain rfl : ys2 = ys := asc_uniq pm2 asc2 pm asc
      rw [nums_of] at ht2
      refine ⟨t2, rfl, ⟨_, SqT.of ht2⟩, ?_⟩
      have tk : (ns.take (i + 1)).flatMap (ofNm ys2) = (ns.take i).flatMap (ofNm ys2) ++ ofNm ys2 nm := by
        rw [take_next hnm, List.flatMap_append, List.flatMap_cons, List.flatMap_nil, List.append_nil]
      have lim := soM (i + 1)
      rw [tk, List.length_append] at lim
      have name : ∀ z ∈ ofNm ys2 nm, z.1 = nm := fun z hz => of_decide_eq_true (List.mem_filter.mp hz).2
      change H3 t2 = some (.tup ((ofNm ys2 nm).map fun y => V.int y.2)) at ht2
      rw [tk]
      generalize ofNm ys2 nm = zs at ht2 lim name
      have lq := Paired.length p2
      refine lc2_in (walk_tup (xs := zs.map fun y => V.int y.2)) (fun j H' => Same H1 H' ∧ H' t2 = some (.tup (zs.map fun y => V.int y.2)) ∧ ∃ ps : List Addr, H' D = some (.lst ((qs ++ ps).map V.ref)) ∧ Paired (KeyAt H') qs ((ns.take i).flatMap (ofNm ys2)) ∧ Paired (KeyAt H') ps (zs.take j) ∧ ps.length ≤ j) ⟨s2, ht2, [], by rw [List.append_nil]; exact g2, p2, .nil, Nat.le_refl _⟩ (fun _ _ _ h => SqT.of h.2.1) ?_ ?_
      · rintro j w2 H5 H6 hj ⟨s5, t5, ps, g5, p5, p5', l5⟩ ⟨rfl, hw⟩
        rw [List.getElem?_map] at hw
        obtain ⟨z, hz, rfl⟩ := Option.map_eq_some_iff.mp hw
        have ez := name z (List.mem_of_getElem? hz)
        rw [List.length_map] at hj
        refine ⟨rfl, ?_⟩
        refine ⟨_, rfl, _, rfl, two_le, fun p np => ?_⟩
        have s6 := Same.upd_new (o := .tup [.str nm, .int z.2]) np
        have gp : upd H6 p (.tup [.str nm, .int z.2]) p = some (.tup [.str nm, .int z.2]) := upd_same
        generalize upd H6 p (.tup [.str nm, .int z.2]) = H7 at s6 gp ⊢
        have kp : ∀ {o : HO} {q : Addr} {k : Kk}, KeyAt H7 q k → KeyAt (upd H7 D o) q k := fun {o q k} h => by
          have n : q ≠ D := ne_of h (s6 _ _ g5) (by intro z; cases z)
          show upd H7 D o q = _
          rw [upd_ne n]
          exact h
        refine ⟨_, s6 _ _ g5, by rw [List.length_map, List.length_append, sizeLine_eq]; omega, fun b o q' => ?_, ?_, ps ++ [p], ?_, ?_, ?_, ?_⟩
        · rw [upd_ne (ne_of_none q' hD)]
          exact s6 _ _ (s5 _ _ q')
        · have t6 := s6 _ _ t5
          rw [upd_ne (ne_of t6 (s6 _ _ g5) (by intro z; cases z))]
          exact t6
        · rw [upd_same, List.map_append, List.map_append, List.map_append, List.append_assoc]
          rfl
        · exact paired_imp (fun q k h => kp (s6 _ _ h)) p5
        · rw [take_next hz]
          refine paired_two (paired_imp (fun q k h => kp (s6 _ _ h)) p5') (.cons (kp ?_) .nil)
          show H7 p = some (.tup [.str z.1, .int z.2])
          rw [ez]
          exact gp
        · rw [List.length_append]
          exact Nat.succ_le_succ l5
      · rintro H5 ⟨s5, t5, ps, g5, p5, p5', l5⟩
        rw [List.length_map, List.take_length] at p5'
        exact ⟨s5, qs ++ ps, g5, paired_two p5 p5'⟩
    · rintro H2 ⟨s2, qs, g2, p2⟩
      rw [List.length_map, List.take_length, bn] at p2
      have nH : H D = none := by
        cases q : H D with
        | none => rfl
        | some o => rw [s1 _ _ q] at hD; cases hD
      exact k H2 D qs ys (s1.trans s2) nH g2 p2 pm asc
end
end Half

namespace Half
open PySem PySem.Spec PyProof.Rows L2
/-! ### a layout; the files of an edition, and what it takes over -/
structure LaySt (fs : Fls) (ts : Tks) : Prop where
  lf : fs.length ≤ 40
  lt : ts.length ≤ 40
  ndF : (fs.map (·.1)).Nodup
  ndT : (ts.map (·.1)).Nodup
  fl : ∀ e ∈ fs, e.2.2.length ≤ 10
  tl : ∀ e ∈ ts, e.2.2.length ≤ 10
structure LayS (K : PySem.W.Frag) (CT CY : Addr) (H : Hp) (y st d1 d2 : Addr) (es : Eds) (fs : Fls) (ts : Tks) : Prop where
  la : LayAt CY H y st d1 d2 fs ts
  sto : StObj CT H st es
  hF : ∀ e ∈ fs, FilesAt K H e.2.1 e.2.2
  hT : ∀ e ∈ ts, SqT K H e.2.1 (e.2.2.map V.str)
  s : LaySt fs ts
  few : es.length ≤ 40
theorem LayS.same {K : PySem.W.Frag} {CT CY : Addr} {H H' : Hp} {y st d1 d2 : Addr} {es : Eds} {fs : Fls} {ts : Tks} (S : Same H H') (h : LayS K CT CY H y st d1 d2 es fs ts) : LayS K CT CY H' y st d1 d2 es fs ts :=
  ⟨h.la.same S, h.sto.same S, fun e he => (h.hF e he).kp S.kp, fun e he => S.sqT (h.hT e he), h.s, h.few⟩
def filL (fs : Fls) (k : Kk) : List (Str × V) := match fs.find? fun e => decide (e.1 = k) with
  | some e => e.2.2
  | none => []
def takL (ts : Tks) (k : Kk) : List Str := match ts.find? fun e => decide (e.1 = k) with
  | some e => e.2.2
  | none => []
def pathsL (fs : Fls) (k : Kk) : List Str := (filL fs k).map (·.1)
theorem filL_len {fs : Fls} {ts : Tks} (s : LaySt fs ts) (k : Kk) : (filL fs k).length ≤ 10 := by
  unfold filL
  split
  · rename_i e he
    exact s.fl e (List.mem_of_find?_eq_some he)
  · exact Nat.zero_le _
theorem takL_len {fs : Fls} {ts : Tks} (s : LaySt fs ts) (k : Kk) : (takL ts k).length ≤ 10 := by
  unfold takL
  split
  · rename_i e he
    exact s.tl e (List.mem_of_find?_eq_some he)
  · exact Nat.zero_le _
/-- what a dict of keys has for one -/
theorem kvG_val {α : Type} {v : α → Addr} : ∀ (l : List (Kk × α)) (k : Kk), valV (kvG v l) (keyL k) = (l.find? fun e => decide (e.1 = k)).map fun e => V.ref (v e.2)
  | [], _ => rfl
  | e :: l, k => by
    have ih := kvG_val (v := v) l k
    have st : valV (kvG v (e :: l)) (keyL k) = if keyL e.1 = keyL k then some (V.ref (v e.2)) else valV (kvG v l) (keyL k) := by
      unfold valV kvG
      rw [List.map_cons, List.find?_cons]
      by_cases c : keyL e.1 = keyL k
      · rw [if_pos c]; simp [c]
      · rw [if_neg c]; simp [c]
    rw [st]
    by_cases c : e.1 = k
    · rw [if_pos (by rw [c]), List.find?_cons_of_pos (by simp [c])]
      rfl
    · rw [if_neg (fun z => c (keyL_inj z)), List.find?_cons_of_neg (by simp [c])]
      exact ih
abbrev sFo : Stmt := top 40
abbrev sPo : Stmt := top 41
abbrev sTo : Stmt := top 42
def spFo (K : PySem.W.Frag) (CT CY : Addr) : Sp := fun vs H Q _ => ∃ (y q st d1 d2 : Addr) (es : Eds) (fs : Fls) (ts : Tks) (k : Kk), vs = [.ref y, .ref q] ∧ LayS K CT CY H y st d1 d2 es fs ts ∧ KeyAt H q k ∧ ∀ H' a, Same H H' → FilesAt K H' a (filL fs k) → Q (.ref a) H'
def spTo (K : PySem.W.Frag) (CT CY : Addr) : Sp := fun vs H Q _ => ∃ (y q st d1 d2 : Addr) (es : Eds) (fs : Fls) (ts : Tks) (k : Kk), vs = [.ref y, .ref q] ∧ LayS K CT CY H y st d1 d2 es fs ts ∧ KeyAt H q k ∧ ∀ H' a, Same H H' → SqT K H' a ((takL ts k).map V.str) → Q (.ref a) H'
def spPo (K : PySem.W.Frag) (CT CY : Addr) : Sp := fun vs H Q _ => ∃ (y q st d1 d2 : Addr) (es : Eds) (fs : Fls) (ts : Tks) (k : Kk), vs = [.ref y, .ref q] ∧ LayS K CT CY H y st d1 d2 es fs ts ∧ KeyAt H q k ∧ ∀ H' l, Same H H' → H l = none → H' l = some (.lst ((pathsL fs k).map V.str)) → Q (.ref l) H'
/-- the properties of a layout -/
structure LayP (P : Program) (w : World) (K : PySem.W.Frag) (mg : Str → Option Value) (base : Heap) (CY : Addr) : Prop where
  cl : Cls K CY
  prF : ∃ p g fd, PropOf K CY "files" p g ∧ FnOk P w K mg base CX0 1 g fd ["self"] (spLf CY) ∧ Binds K fd ["self"] []
  prT : ∃ p g fd, PropOf K CY "takes" p g ∧ FnOk P w K mg base CX0 1 g fd ["self"] (spLt CY) ∧ Binds K fd ["self"] []
  prS : ∃ p g fd, PropOf K CY "store" p g ∧ FnOk P w K mg base CX0 1 g fd ["self"] (spLs CY) ∧ Binds K fd ["self"] []
section
variable {X : Cx} {CY : Addr} {e : Expr} {te : TE} {pos : Pos}
theorem pe_lfP (D : LayP X.prog X.w X.K X.mg X.base CY) (hr : Room 2 X.A) (he : PE X e te) (hab : attributeBase e "files" X.env (eval e X.env) = eval e X.env := by rfl) : PE X (.Attribute e "files" pos) (tLf CY te) := by
  obtain ⟨p, g, fd, h1, h2, h3⟩ := D.prF
  exact pe_prop he D.cl h1 h2 hr h3 .nil pass0 hab
theorem pe_ltP (D : LayP X.prog X.w X.K X.mg X.base CY) (hr : Room 2 X.A) (he : PE X e te) (hab : attributeBase e "takes" X.env (eval e X.env) = eval e X.env := by rfl) : PE X (.Attribute e "takes" pos) (tLt CY te) := by
  obtain ⟨p, g, fd, h1, h2, h3⟩ := D.prT
  exact pe_prop he D.cl h1 h2 hr h3 .nil pass0 hab
theorem pe_lsP (D : LayP X.prog X.w X.K X.mg X.base CY) (hr : Room 2 X.A) (he : PE X e te) (hab : attributeBase e "store" X.env (eval e X.env) = eval e X.env := by rfl) : PE X (.Attribute e "store" pos) (tLs CY te) := by
  obtain ⟨p, g, fd, h1, h2, h3⟩ := D.prS
  exact pe_prop he D.cl h1 h2 hr h3 .nil pass0 hab
end
section
variable {P : Program} {w : World} {K : PySem.W.Frag} {mg : Str → Option Value} {base : Heap} {CT CY : Addr}
theorem scFo : FnScope ["layout", "key"] ["layout", "key"] (defScope sFo) := ⟨rfl, rfl, rfl, by decide +kernel, rfl, by decide +kernel, by decide +kernel⟩
theorem ok_fo {f : Addr} {fd : FuncData} (F : Fun K "files_of" "files_of" sFo f fd) (Y : LayP P w K mg base CY) : FnOk P w K mg base CX0 3 f fd ["layout", "key"] (spFo K CT CY) := by
  refine F.ok scFo (fun vs H Q E h => ?_) (fun cdv A outer s H vs Q E hr h => ?_)
  · obtain ⟨y, q, st, d1, d2, es, fs, ts, k, rfl, _⟩ := h
    rfl
  · obtain ⟨y, q, st, d1, d2, es, fs, ts, k, rfl, L, hq, kk⟩ := h
    have hu1 := hu_of hr
    refine ⟨_, pss_one (ps_ret (pe_dget2 hu1 (pe_lfP Y (hr.mono (by decide)) (pv 0)) (pv 1) (pe_tup pa_nil) ⟨rfl, rfl, rfl, rfl⟩)), ?_⟩
    obtain ⟨dx, hy⟩ := L.la.ob
    have s := L.s
    refine ⟨_, rfl, y, dx, _, rfl, hy, y, st, d1, d2, fs, ts, rfl, L.la, by have := s.lf; omega, s.ndF, fun H1 D s1 nD gD => ?_⟩
    refine ⟨D, rfl, .inr ⟨_, .inl gD⟩, _, rfl, Nat.zero_le _, fun p np => ?_⟩
    have s2 := Same.upd_new (o := .tup []) np
    have S := s1.trans s2
    refine ⟨_, DGet.t (k := keyL k) (s2 _ _ gD) (S _ _ hq), ?_⟩
    have e : valV (kvF fs) (keyL k) = (fs.find? fun e => decide (e.1 = k)).map fun e => V.ref e.2.1 := kvG_val (v := fun p : Addr × List (Str × V) => p.1) fs k
    rw [e]
    have fl : filL fs k = match fs.find? fun e => decide (e.1 = k) with
      | some e => e.2.2
      | none => [] := rfl
    cases c : fs.find? fun e => decide (e.1 = k) with
    | none =>
      rw [c] at fl
      refine kk _ p S ?_
      rw [fl]
      exact ⟨[], SqT.of upd_same, rfl, fun i t p h => by simp at h⟩
    | some e =>
      rw [c] at fl
      refine kk _ e.2.1 S ?_
      rw [fl]
      exact (L.hF e (List.mem_of_find?_eq_some c)).kp S.kp
theorem scTo : FnScope ["layout", "key"] ["layout", "key"] (defScope sTo) := ⟨rfl, rfl, rfl, by decide +kernel, rfl, by decide +kernel, by decide +kernel⟩
theorem ok_to {f : Addr} {fd : FuncData} (F : Fun K "takes_of" "takes_of" sTo f fd) (Y : LayP P w K mg base CY) : FnOk P w K mg base CX0 3 f fd ["layout", "key"] (spTo K CT CY) := by
  refine F.ok scTo (fun vs H Q E h => ?_) (fun cdv A outer s H vs Q E hr h => ?_)
  · obtain ⟨y, q, st, d1, d2, es, fs, ts, k, rfl, _⟩ := h
    rfl
  · obtain ⟨y, q, st, d1, d2, es, fs, ts, k, rfl, L, hq, kk⟩ := h
    have hu1 := hu_of hr
    refine ⟨_, pss_one (ps_ret (pe_dget2 hu1 (pe_ltP Y (hr.mono (by decide)) (pv 0)) (pv 1) (pe_tup pa_nil) ⟨rfl, rfl, rfl, rfl⟩)), ?_⟩
    obtain ⟨dx, hy⟩ := L.la.ob
    have s := L.s
    refine ⟨_, rfl, y, dx, _, rfl, hy, y, st, d1, d2, fs, ts, rfl, L.la, by have := s.lt; omega, s.ndT, fun H1 D s1 nD gD => ?_⟩
    refine ⟨D, rfl, .inr ⟨_, .inl gD⟩, _, rfl, Nat.zero_le _, fun p np => ?_⟩
    have s2 := Same.upd_new (o := .tup []) np
    have S := s1.trans s2
    refine ⟨_, DGet.t (k := keyL k) (s2 _ _ gD) (S _ _ hq), ?_⟩
    have e : valV (kvT ts) (keyL k) = (ts.find? fun e => decide (e.1 = k)).map fun e => V.ref e.2.1 := kvG_val (v := fun p : Addr × List Str => p.1) ts k
    rw [e]
    have tl : takL ts k = match ts.find? fun e => decide (e.1 = k) with
      | some e => e.2.2
      | none => [] := rfl
    cases c : ts.find? fun e => decide (e.1 = k) with
    | none =>
      rw [c] at tl
      refine kk _ p S ?_
      rw [tl]
      exact SqT.of upd_same
    | some e =>
      rw [c] at tl
      refine kk _ e.2.1 S ?_
      rw [tl]
      exact S.sqT (L.hT e (List.mem_of_find?_eq_some c))
abbrev PoN : List Str := ["layout", "key", "path", "content"]
theorem scPo : FnScope PoN ["layout", "key"] (defScope sPo) := ⟨rfl, rfl, rfl, by decide +kernel, rfl, by decide +kernel, by decide +kernel⟩
theorem ok_po {f : Addr} {fd : FuncData} (F : Fun K "paths_of" "paths_of" sPo f fd) (dF : Def P w K mg base 3 "files_of" ["layout", "key"] (spFo K CT CY)) : FnOk P w K mg base CX0 4 f fd ["layout", "key"] (spPo K CT CY) := by
  refine F.ok scPo (fun vs H Q E h => ?_) (fun cdv A outer s H vs Q E hr h => ?_)
  · obtain ⟨y, q, st, d1, d2, es, fs, ts, k, rfl, _⟩ := h
    rfl
  · obtain ⟨y, q, st, d1, d2, es, fs, ts, k, rfl, L, hq, kk⟩ := h
    have nd := scPo.nd
    refine ⟨_, pss_one (ps_ret (pe_lc (own := [("path", 2), ("content", 3)]) (g := gTup K 2 (gCons (gName 2) (gCons (gName 3) gNil))) (tt := tYes) (te := tVar 2) rfl nd (pi_tup (pe_def dF hr rfl (pa_cons (pv 0) (pa_cons (pv 1) pa_nil)))) (blkOk_by (N := PoN) (sc := defScope sPo) (by decide +kernel))
        (fun _ _ _ _ _ => pg_tup rfl (pgs_cons (pg_name (i := 2) nd rfl (Or.inl rfl)) (pgs_cons (pg_name (i := 3) nd rfl (Or.inl rfl)) pgs_nil))) (fun _ _ _ _ _ => pts_nil) (fun _ _ _ _ _ => pv 2))), ?_⟩
    refine ⟨_, rfl, _, rfl, y, q, st, d1, d2, es, fs, ts, k, rfl, L, hq, fun H1 a s1 hF => ?_⟩
    obtain ⟨as, hS, hl, hp⟩ := hF
    have fl := filL_len L.s k
    refine ⟨a, rfl, ⟨_, hS⟩, fun D hD => ?_⟩
    refine lc_it (walk_tup (xs := as.map V.ref)) (MapP H1 D ((filL fs k).map fun p => V.str p.1)) (MapP.zero hD) (fun _ _ _ p => p.1.sqT hS) ?_ ?_
    · rintro i x H2 H3 hi p ⟨rfl, hx⟩
      obtain ⟨t, ht, rfl⟩ := getE hx
      have hip : i < (filL fs k).length := by rw [List.length_map] at hi; omega
      have hfp := List.getElem?_eq_getElem hip
      refine ⟨t, _, rfl, p.1.sqT (hp i t _ ht hfp), rfl, ?_⟩
      refine ⟨_, _, rfl, _, _, rfl, rfl, rfl, ?_⟩
      refine ⟨_, rfl, ?_⟩
      refine p.step hD ?_ (by rw [List.length_map]; omega) (Same.refl _)
      rw [List.getElem?_map, hfp]
      rfl
    · intro H2 p
      obtain ⟨s2, hl2⟩ := p.done (by rw [List.length_map, List.length_map, hl])
      have nD : H D = none := by
        cases c : H D with
        | none => rfl
        | some o => rw [s1 _ _ c] at hD; cases hD
      refine kk H2 D (s1.trans s2) nD ?_
      rw [hl2]
      unfold pathsL
      rw [List.map_map]
      rfl
end
end Half

namespace Half
open PySem PySem.Spec PyProof.Rows L2
/-! ### lists of tuples that grow -/
def TupK (H H' : Hp) : Prop := ∀ a xs, H a = some (.tup xs) → H' a = some (.tup xs)
theorem TupK.same {H H' : Hp} (S : Same H H') : TupK H H' := fun a xs h => S _ _ h
theorem TupK.trans {H H' H'' : Hp} (a : TupK H H') (b : TupK H' H'') : TupK H H'' := fun x xs h => b x xs (a x xs h)
theorem TupK.upd {H : Hp} {D : Addr} {o u : HO} (g : H D = some o) (n : ∀ xs, o ≠ .tup xs) : TupK H (L2.upd H D u) := fun a xs h => by
  rw [upd_ne fun z => n xs (by rw [z, g] at h; exact Option.some.inj h)]
  exact h
/-- what holds of a tuple and the tuples in it -/
def Stab {β : Type} (R : Hp → Addr → β → Prop) : Prop := ∀ H H' a b, TupK H H' → R H a b → R H' a b
def AccR {β : Type} (H1 : Hp) (D : Addr) (R : Hp → Addr → β → Prop) (L : List β) (H : Hp) : Prop := Same H1 H ∧ ∃ as : List Addr, H D = some (.lst (as.map V.ref)) ∧ Paired (R H) as L
section
variable {β : Type} {H1 H H4 : Hp} {D a : Addr} {R : Hp → Addr → β → Prop} {L : List β} {b : β}
theorem AccR.zero (hD : H1 D = none) : AccR H1 D R [] (upd H1 D (.lst [])) := ⟨Same.upd_new hD, [], upd_same, .nil⟩
theorem AccR.same (st : Stab R) (S : Same H H4) (p : AccR H1 D R L H) : AccR H1 D R L H4 := by
  obtain ⟨s, as, g, q⟩ := p
  exact ⟨s.trans S, as, S _ _ g, paired_imp (fun x y r => st _ _ _ _ (TupK.same S) r) q⟩
theorem AccR.step (st : Stab R) (hD : H1 D = none) (S : Same H H4) (r : R H4 a b) (len : L.length ≤ 1000000) (p : AccR H1 D R L H) : ∃ acc, H4 D = some (.lst acc) ∧ acc.length < sizeLine ∧ AccR H1 D R (L ++ [b]) (upd H4 D (.lst (acc ++ [V.ref a]))) := by
  obtain ⟨s, as, g, q⟩ := p
  have g4 := S _ _ g
  have tk : TupK H4 (upd H4 D (.lst (as.map V.ref ++ [V.ref a]))) := TupK.upd g4 (fun xs z => by cases z)
  have lq := Paired.length q
  refine ⟨_, g4, by rw [List.length_map, sizeLine_eq]; omega, fun c o h => ?_, as ++ [a], by rw [upd_same, List.map_append]; rfl, ?_⟩
  · rw [upd_ne (ne_of_none h hD)]
    exact S _ _ (s _ _ h)
  · exact paired_two (paired_imp (fun x y r => st _ _ _ _ ((TupK.same S).trans tk) r) q) (.cons (st _ _ _ _ tk r) .nil)
theorem AccR.at_ (p : AccR H1 D R L H) : ∃ as : List Addr, Same H1 H ∧ H D = some (.lst (as.map V.ref)) ∧ Paired (R H) as L := let ⟨s, as, g, q⟩ := p; ⟨as, s, g, q⟩
end
theorem flatMap_len {α β : Type} {f : α → List β} {c : Nat} : ∀ {l : List α}, (∀ x ∈ l, (f x).length ≤ c) → (l.flatMap f).length ≤ l.length * c
  | [], _ => Nat.zero_le _
  | x :: l, h => by
    have ih := flatMap_len (l := l) fun y hy => h y (.tail _ hy)
    have hx := h x (.head _)
    rw [List.flatMap_cons, List.length_append, List.length_cons, Nat.succ_mul]
    omega
theorem flat_next {α β : Type} {f : α → List β} {l : List α} {i : Nat} {x : α} (h : l[i]? = some x) : (l.take (i + 1)).flatMap f = (l.take i).flatMap f ++ f x := by
  rw [take_next h, List.flatMap_append, List.flatMap_cons, List.flatMap_nil, List.append_nil]
theorem filt_next {α β : Type} {p : α → Bool} {f : α → β} {l : List α} {i : Nat} {x : α} (h : l[i]? = some x) : ((l.take (i + 1)).filter p).map f = ((l.take i).filter p).map f ++ if p x = true then [f x] else [] := by
  rw [take_next h, List.filter_append, List.map_append]
  congr 1
  by_cases c : p x = true
  · rw [if_pos c, List.filter_cons_of_pos c]; rfl
  · rw [if_neg c, List.filter_cons_of_neg c]; rfl
/-! ### whether editions can be rivals -/
def kLt (k o : Kk) : Bool := PySem.W.dataLt (kD k) (kD o)
def canB (ts : Tks) (k o : Kk) : Bool := if k.1 = o.1 then false else !has (takL ts k) o.1 && !has (takL ts o) k.1
def PairAt (H : Hp) (a : Addr) (p : Kk × Kk) : Prop := ∃ q q', H a = some (.tup [.ref q, .ref q']) ∧ KeyAt H q p.1 ∧ KeyAt H q' p.2
def TriAt (H : Hp) (a : Addr) (p : Kk × Kk × Str) : Prop := ∃ q q', H a = some (.tup [.ref q, .ref q', .str p.2.2]) ∧ KeyAt H q p.1 ∧ KeyAt H q' p.2.1
theorem pair_stab : Stab PairAt := fun H H' a p k h => by
  obtain ⟨q, q', h1, h2, h3⟩ := h
  exact ⟨q, q', k _ _ h1, k _ _ h2, k _ _ h3⟩
theorem tri_stab : Stab TriAt := fun H H' a p k h => by
  obtain ⟨q, q', h1, h2, h3⟩ := h
  exact ⟨q, q', k _ _ h1, k _ _ h2, k _ _ h3⟩
theorem key_stab : Stab KeyAt := fun H H' a p k h => k _ _ h
def trD (p : Kk × Kk × Str) : PyData := .tuple [kD p.1, kD p.2.1, .str p.2.2]
abbrev sCc : Stmt := top 43
def spCc (K : PySem.W.Frag) (CT CY : Addr) : Sp := fun vs H Q _ => ∃ (y q q' st d1 d2 : Addr) (es : Eds) (fs : Fls) (ts : Tks) (k o : Kk), vs = [.ref y, .ref q, .ref q'] ∧ LayS K CT CY H y st d1 d2 es fs ts ∧ KeyAt H q k ∧ KeyAt H q' o ∧ ∀ H', Same H H' → Q (.bl (canB ts k o)) H'
section
variable {P : Program} {w : World} {K : PySem.W.Frag} {mg : Str → Option Value} {base : Heap} {CT CY : Addr}
theorem scCc : FnScope ["layout", "key", "other"] ["layout", "key", "other"] (defScope sCc) := ⟨rfl, rfl, rfl, by decide +kernel, rfl, by decide +kernel, by decide +kernel⟩
theorem ok_cc {f : Addr} {fd : FuncData} (F : Fun K "can_clash" "can_clash" sCc f fd) (dT : Def P w K mg base 3 "takes_of" ["layout", "key"] (spTo K CT CY)) : FnOk P w K mg base CX0 4 f fd ["layout", "key", "other"] (spCc K CT CY) := by
  refine F.ok scCc (fun vs H Q E h => ?_) (fun cdv A outer s H vs Q E hr h => ?_)
  · obtain ⟨y, q, q', st, d1, d2, es, fs, ts, k, o, rfl, _⟩ := h
    rfl
  · obtain ⟨y, q, q', st, d1, d2, es, fs, ts, k, o, rfl, L, hq, hq', kk⟩ := h
    refine ⟨_, pss_cons (ps_if (pt_cmpR op_eq (pe_ix ix_tup (pv 1) pe_int (fun _ _ => rfl)) (pe_ix ix_tup (pv 2) pe_int (fun _ _ => rfl)) (nomark _)) (pss_one (ps_ret pe_bl)) pss_nil)
      (pss_one (ps_ret (pe_and (pe_cmpR op_notIn_seq (pe_ix ix_tup (pv 2) pe_int (fun _ _ => rfl)) (pe_def dT hr rfl (pa_cons (pv 0) (pa_cons (pv 1) pa_nil))) (by rfl)) (pe_one (pe_cmpR op_notIn_seq (pe_ix ix_tup (pv 1) pe_int (fun _ _ => rfl)) (pe_def dT hr rfl (pa_cons (pv 0) (pa_cons (pv 2) pa_nil))) (by rfl)))))), ?_⟩
    refine ⟨_, rfl, q, _, 0, _, rfl, rfl, SqT.of hq, rfl, _, rfl, q', _, 0, _, rfl, rfl, SqT.of hq', rfl, rfl, _, rfl, ?_⟩
    by_cases c : k.1 = o.1
    · rw [decide_eq_true (show V.str k.1 = V.str o.1 by rw [c])]
      refine iteT ?_
      have q := kk H (Same.refl H)
      unfold canB at q
      rw [if_pos c] at q
      exact q
    · rw [decide_eq_false (show ¬ V.str k.1 = V.str o.1 from fun z => c (by injection z))]
      refine iteF ?_
      have eB : canB ts k o = (!has (takL ts k) o.1 && !has (takL ts o) k.1) := by unfold canB; rw [if_neg c]
      refine ⟨_, rfl, q', _, 0, _, rfl, rfl, SqT.of hq', rfl, _, rfl, _, rfl, y, q, st, d1, d2, es, fs, ts, k, rfl, L, hq, fun H1 a s1 ha => ?_⟩
      refine ⟨a, _, rfl, .inr ha, rfl, flat_strs _, ?_⟩
      rw [if_pos rfl, inV_str]
      refine ⟨_, rfl, ?_⟩
      cases c1 : has (takL ts k) o.1 with
      | true =>
        refine iteF ?_
        rw [c1, Bool.not_true, Bool.false_and] at eB
        have z := kk H1 s1
        rw [eB] at z
        exact z
      | false =>
        refine iteT ?_
        rw [c1, Bool.not_false, Bool.true_and] at eB
        refine ⟨_, rfl, q, _, 0, _, rfl, rfl, SqT.of (s1 _ _ hq), rfl, _, rfl, _, rfl, y, q', st, d1, d2, es, fs, ts, o, rfl, L.same s1, s1 _ _ hq', fun H2 a2 s2 ha2 => ?_⟩
        refine ⟨a2, _, rfl, .inr ha2, rfl, flat_strs _, ?_⟩
        rw [if_pos rfl, inV_str]
        have z := kk H2 (s1.trans s2)
        rw [eB] at z
        exact z
end
end Half

namespace Half
open PySem PySem.Spec PyProof.Rows L2
/-! ### the rivals by places -/
def pairsL (ts : Tks) (ys : List Kk) : List (Kk × Kk) := ys.flatMap fun k => (ys.filter fun o => kLt k o && canB ts k o).map fun o => (k, o)
def clashL (ts : Tks) (ys : List Kk) (pl : Tks) : List (Kk × Kk × Str) := (pairsL ts ys).flatMap fun p => ((takL pl p.1).filter fun z => has (takL pl p.2) z).map fun z => (p.1, p.2, z)
/-- lists of places -/
structure PlS (K : PySem.W.Frag) (H : Hp) (dp : Addr) (pl : Tks) : Prop where
  g : H dp = some (.dT (kvG (fun p : Addr × List Str => p.1) pl))
  ls : ∀ e ∈ pl, SqL K H e.2.1 (e.2.2.map V.str)
  nd : (pl.map (·.1)).Nodup
  few : ∀ e ∈ pl, e.2.2.length ≤ 10
theorem PlS.same {K : PySem.W.Frag} {H H' : Hp} {dp : Addr} {pl : Tks} (S : Same H H') (h : PlS K H dp pl) : PlS K H' dp pl := ⟨S _ _ h.g, fun e he => S.seq (h.ls e he), h.nd, h.few⟩
theorem PlS.at_ {K : PySem.W.Frag} {H : Hp} {dp : Addr} {pl : Tks} {k : Kk} (h : PlS K H dp pl) (hk : k ∈ pl.map (·.1)) : ∃ a, valV (kvG (fun p : Addr × List Str => p.1) pl) (keyL k) = some (.ref a) ∧ SqL K H a ((takL pl k).map V.str) := by
  have e := kvG_val (v := fun p : Addr × List Str => p.1) pl k
  have tl : takL pl k = match pl.find? fun e => decide (e.1 = k) with
    | some e => e.2.2
    | none => [] := rfl
  cases c : pl.find? fun e => decide (e.1 = k) with
  | none =>
    obtain ⟨x, hx, hxe⟩ := List.mem_map.mp hk
    have := List.find?_eq_none.mp c x hx
    simp [hxe] at this
  | some x =>
    rw [c] at e tl
    refine ⟨x.2.1, e, ?_⟩
    rw [tl]
    exact h.ls x (List.mem_of_find?_eq_some c)
theorem takL_few {pl : Tks} (h : ∀ e ∈ pl, e.2.2.length ≤ 10) (k : Kk) : (takL pl k).length ≤ 10 := by
  unfold takL
  split
  · rename_i e he
    exact h e (List.mem_of_find?_eq_some he)
  · exact Nat.zero_le _
abbrev sCls : Stmt := top 44
abbrev ClsN : List Str := ["layout", "places", "keys", "pairs", "key", "other", "place"]
theorem scCls : FnScope ClsN ["layout", "places"] (defScope sCls) := ⟨rfl, rfl, rfl, by decide +kernel, rfl, by decide +kernel, by decide +kernel⟩
def SortedT (trs : List (Kk × Kk × Str)) : Prop := trs.Pairwise fun a b => PySem.W.dataLt (trD b) (trD a) = false
def spCls (K : PySem.W.Frag) (CT CY : Addr) : Sp := fun vs H Q _ => ∃ (y dp st d1 d2 : Addr) (es : Eds) (fs : Fls) (ts pl : Tks), vs = [.ref y, .ref dp] ∧ LayS K CT CY H y st d1 d2 es fs ts ∧ PlS K H dp pl ∧ (∀ k ∈ keysOf es, k ∈ pl.map (·.1)) ∧
  ∀ H' l as ys trs, Same H H' → H l = none → H' l = some (.lst (as.map V.ref)) → Paired (TriAt H') as trs → ys.Perm (keysOf es) → Asc ys → trs.Perm (clashL ts ys pl) → SortedT trs → Q (.ref l) H'
theorem kD_alike (k o : Kk) : PySem.W.alike (kD k) (kD o) = true := by simp [kD, PySem.W.alike, PySem.W.alikeAll]
theorem tri_dp {K : PySem.W.Frag} {H : Hp} {a : Addr} {p : Kk × Kk × Str} (h : TriAt H a p) : Dp K H (.ref a) (trD p) := by
  obtain ⟨q, q', h1, h2, h3⟩ := h
  exact .tup (SqT.of h1) (.cons (dp_key h2) (.cons (dp_key h3) (.cons (.str _) .nil)))
theorem tri_alike (p q : Kk × Kk × Str) : PySem.W.alike (trD p) (trD q) = true := by
  simp only [trD, PySem.W.alike, PySem.W.alikeAll]
  rw [kD_alike, kD_alike]
  rfl
theorem tri_depth (p : Kk × Kk × Str) : (trD p).depth ≤ 20 := by simp [trD, kD, PyData.depth, PyData.depthAll]
/-- what sorting a list of tuples gives -/
theorem sort_read {β : Type} {K : PySem.W.Frag} {R : Hp → Addr → β → Prop} {d : β → PyData} {H : Hp} {l : Addr} {as : List Addr} {L : List β} {Q : VK} (gl : H l = some (.lst (as.map V.ref))) (p : Paired (R H) as L) (dp : ∀ a b, R H a b → Dp K H (.ref a) (d b)) (al : ∀ a b, PySem.W.alike (d a) (d b) = true) (tu : ∀ b, ∃ x r, d b = .tuple (x :: r)) (de : ∀ b, (d b).depth ≤ 20)
    (q : ∀ l' as' L', H l' = none → Paired (R H) as' L' → L'.Perm L → (L'.Pairwise fun a b => PySem.W.dataLt (d b) (d a) = false) → Q (.ref l') (upd H l' (.lst (as'.map V.ref)))) : rSortRd K [.ref l] H Q := by
  have hz : ∀ {as : List Addr} {L : List β}, Paired (R H) as L → ∃ zs : List (Addr × β), zs.map (·.1) = as ∧ zs.map (·.2) = L ∧ ∀ z ∈ zs, R H z.1 z.2 := by
    intro as L p
    induction p with
    | nil => exact ⟨[], rfl, rfl, fun z h => (nomatch h)⟩
    | @cons a b as L r _ ih =>
      obtain ⟨zs, e1, e2, h⟩ := ih
      refine ⟨(a, b) :: zs, by rw [List.map_cons, e1], by rw [List.map_cons, e2], fun z hz => ?_⟩
      rcases List.mem_cons.mp hz with rfl | hz
      · exact r
      · exact h z hz
  obtain ⟨zs, e1, e2, hr⟩ := hz p
  refine ⟨l, zs.map fun z => (z.1, d z.2), rfl, SqL.of (by rw [gl, ← e1, List.map_map, List.map_map]; rfl), fun x hx => ?_, fun x hx y hy => ?_, .inl fun x hx => ?_, fun x hx => ?_, fun ys l' pm pw nl => ?_⟩
  · obtain ⟨z, hz, rfl⟩ := List.mem_map.mp hx
    exact dp _ _ (hr z hz)
  · rw [List.map_map] at hx hy
    obtain ⟨z, _, rfl⟩ := List.mem_map.mp hx
    obtain ⟨z', _, rfl⟩ := List.mem_map.mp hy
    exact al _ _
  · rw [List.map_map] at hx
    obtain ⟨z, _, rfl⟩ := List.mem_map.mp hx
    exact tu _
  · obtain ⟨z, _, rfl⟩ := List.mem_map.mp hx
    exact de _
  · obtain ⟨ws, pw2, rfl⟩ := perm_back pm
    have h := q l' (ws.map (·.1)) (ws.map (·.2)) nl (paired_self fun z hz => hr z (pw2.mem_iff.mp hz)) (by rw [← e2]; exact pw2.map _) (List.pairwise_map.mpr (List.pairwise_map.mp pw))
    rw [List.map_map] at h ⊢
    exact h
section
variable {P : Program} {w : World} {K : PySem.W.Frag} {mg : Str → Option Value} {base : Heap} {CT CY : Addr}
theorem ok_cls {f : Addr} {fd : FuncData} (F : Fun K "clashes" "clashes" sCls f fd) (gS : mg "sorted" = none) (Y : LayP P w K mg base CY) (dE : Def P w K mg base 3 "edition_keys" ["store"] (spEk CT)) (dC : Def P w K mg base 4 "can_clash" ["layout", "key", "other"] (spCc K CT CY)) : FnOk P w K mg base CX0 5 f fd ["layout", "places"] (spCls K CT CY) := by
  refine F.ok scCls (fun vs H Q E h => ?_) (fun cdv A outer s H vs Q E hr h => ?_)
  · obtain ⟨y, dp, st, d1, d2, es, fs, ts, pl, rfl, _⟩ := h
    rfl
  · obtain ⟨y, dp, st, d1, d2, es, fs, ts, pl, rfl, L, hp, all, kk⟩ := h
    have nd := scCls.nd
    have hu := hr.units
    have hu1 := hu_of hr
    have r2 : Room 2 _ := hr.mono (by decide)
    have r3 : Room 3 _ := hr.mono (by decide)
    have r4 : Room 4 _ := hr.mono (by decide)
    have hu40 : (A.deeper (envOfC "clashes" (defScope sCls) s.heap.objs.size f cdv)).units + 40 < cLine := Nat.lt_of_le_of_lt (Nat.add_le_add_left (by decide : 40 ≤ 64) _) hu
    refine ⟨_, pss_cons (ps_set (i := 2) nd rfl (by first | exact Or.inl rfl | exact Or.inr rfl) (pe_def dE r3 rfl (pa_cons (pe_lsP Y r2 (pv 0)) pa_nil)))
      (pss_cons (ps_setLc2 (i := 3) (own := [("key", 4), ("other", 5)]) (vs1 := [5]) (g := gName 4) (g1 := gName 5) (tt := tYes) (tt1 := tAnd (tTest (tOp (rLtD K) (tVar 4) (tVar 5))) (tB (tCall (spCc K CT CY) [] E0 (tCons (tVar 0) (tCons (tVar 4) (tCons (tVar 5) tNil)))))) (te := tTup (tCons (tVar 4) (tCons (tVar 5) tNil))) (wi1 := iList K (tVar 2)) rfl nd rfl rfl (sw_true rfl rfl rfl (by decide +kernel)) (pi_list (pv 2)) (blkOk_by (N := ClsN) (sc := defScope sCls) (by decide +kernel)) (by decide)
        (fun _ _ _ _ _ => pg_name (i := 4) nd rfl (Or.inl rfl)) (fun _ _ _ _ _ => pts_nil) (fun _ _ _ _ _ => pi_list (pv 2)) (fun _ _ _ _ _ => pg_name (i := 5) nd rfl (Or.inl rfl)) (fun _ _ _ _ _ => pts_one (PW.pt (pw_and (pt_cmpR (op_ltD hu40) (pv 4) (pv 5) (nomark _)) (pw_and1 (pt_val (pe_def dC r4 rfl (pa_cons (pv 0) (pa_cons (pv 4) (pa_cons (pv 5) pa_nil)))))))))
        (fun _ _ _ _ _ => pe_tup (pa_cons (pv 4) (pa_cons (pv 5) pa_nil))))
      (pss_one (ps_ret (pe_callB (cr_sortRd hu40) (by rfl) gS (by decide +kernel) (pa_cons (pe_lc2 (own := [("key", 4), ("other", 5), ("place", 6)]) (vs1 := [6]) (g := gTup K 2 (gCons (gName 4) (gCons (gName 5) gNil))) (g1 := gName 6) (tt := tYes) (tt1 := tTest (tOp (rIn K false) (tVar 6) (tDGet (tVar 1) (tVar 5)))) (te := tTup (tCons (tVar 4) (tCons (tVar 5) (tCons (tVar 6) tNil)))) (wi1 := iList K (tDGet (tVar 1) (tVar 4))) rfl nd (pi_list (pv 3)) (blkOk_by (N := ClsN) (sc := defScope sCls) (by decide +kernel)) (by decide)
        (fun _ _ _ _ _ => pg_tup rfl (pgs_cons (pg_name (i := 4) nd rfl (Or.inl rfl)) (pgs_cons (pg_name (i := 5) nd rfl (Or.inl rfl)) pgs_nil))) (fun _ _ _ _ _ => pts_nil) (fun _ _ _ _ _ => pi_list (pe_dget hu1 (pv 1) (pv 4) (fun _ _ => rfl))) (fun _ _ _ _ _ => pg_name (i := 6) nd rfl (Or.inl rfl)) (fun _ _ _ _ _ => pts_one (pt_cmpR op_in_seq (pv 6) (pe_dget hu1 (pv 1) (pv 5) (fun _ _ => rfl)) (by rfl)))
        (fun _ _ _ _ _ => pe_tup (pa_cons (pv 4) (pa_cons (pv 5) (pa_cons (pv 6) pa_nil))))) pa_nil))))), ?_⟩
    obtain ⟨dx, hy⟩ := L.la.ob
    refine ⟨_, rfl, y, dx, _, rfl, hy, y, st, d1, d2, fs, ts, rfl, L.la, ?_⟩
    refine ⟨st, es, rfl, L.sto, L.few, fun H1 kl qs ys s1 nkl gkl pk pm asc => ?_⟩
    have L1 := L.same s1
    have hp1 := hp.same s1
    have ndy : ys.Nodup := pm.symm.nodup_iff.mp L.sto.one
    have ly : ys.length ≤ 40 := by
      rw [pm.length_eq]
      unfold keysOf
      rw [List.length_map]
      exact L.few
    have lq := Paired.length pk
    -- the pairs
    refine ⟨_, rfl, kl, rfl, ⟨_, SqL.of gkl⟩, fun D hD => ?_⟩
    have lenF : ∀ k, ((ys.filter fun o => kLt k o && canB ts k o).map fun o => (k, o)).length ≤ 40 := fun k => by
      rw [List.length_map]
      exact Nat.le_trans (List.length_filter_le ..) ly
    have lenP : ∀ i, ((ys.take i).flatMap fun k => (ys.filter fun o => kLt k o && canB ts k o).map fun o => (k, o)).length ≤ 1600 := fun i => by
      have h := flatMap_len (l := ys.take i) fun x _ => lenF x
      have : (ys.take i).length ≤ 40 := Nat.le_trans (List.take_sublist ..).length_le ly
      omega
    refine lc2_it (walk_list (xs := qs.map V.ref)) (fun i H' => AccR H1 D PairAt ((ys.take i).flatMap fun k => (ys.filter fun o => kLt k o && canB ts k o).map fun o => (k, o)) H') (AccR.zero hD) (fun _ _ _ h => SqL.of (h.1 _ _ gkl)) ?_ ?_
    · rintro i v H2 H3 hi acc ⟨rfl, hv⟩
      obtain ⟨q, hq, rfl⟩ := getE hv
      obtain ⟨k, hk, gk⟩ := paired_get pk hq
      refine ⟨rfl, ?_⟩
      refine ⟨_, rfl, kl, rfl, ⟨_, SqL.of (acc.1 _ _ gkl)⟩, ?_⟩
      rw [flat_next hk]
      have lp := lenP i
      generalize (ys.take i).flatMap (fun k => (ys.filter fun o => kLt k o && canB ts k o).map fun o => (k, o)) = done at acc lp ⊢
      refine lc2_in (walk_list (xs := qs.map V.ref)) (fun j H' => AccR H1 D PairAt (done ++ ((ys.take j).filter fun o => kLt k o && canB ts k o).map fun o => (k, o)) H') (by simpa using acc) (fun _ _ _ h => SqL.of (h.1 _ _ gkl)) ?_ (fun H' h => by
        rw [List.length_map, lq, List.take_length] at h
        exact h)
      rintro j w2 H5 H6 hj acc5 ⟨rfl, hw⟩
      obtain ⟨q', hq', rfl⟩ := getE hw
      obtain ⟨o, ho, go⟩ := paired_get pk hq'
      have S5 := acc5.1
      rw [filt_next ho, ← List.append_assoc]
      have lf : (done ++ ((ys.take j).filter fun o => kLt k o && canB ts k o).map fun o => (k, o)).length ≤ 1000000 := by
        rw [List.length_append, List.length_map]
        have h1 := List.length_filter_le (fun o => kLt k o && canB ts k o) (ys.take j)
        have h2 : (ys.take j).length ≤ 40 := Nat.le_trans (List.take_sublist ..).length_le ly
        omega
      refine ⟨rfl, ?_⟩
      refine ⟨_, rfl, _, rfl, _, _, dp_key (S5 _ _ gk), dp_key (S5 _ _ go), kD_alike _ _, (by unfold kD; exact fun z => nomatch z), (by simp [kD, PyData.depth, PyData.depthAll]), _, rfl, ?_⟩
      cases c1 : PySem.W.dataLt (kD k) (kD o) with
      | false =>
        refine iteF ?_
        refine iteF ?_
        rw [if_neg (by simp [kLt, c1]), List.append_nil]
        exact acc5
      | true =>
        refine iteT ?_
        refine ⟨_, rfl, _, rfl, _, rfl, y, q, q', st, d1, d2, es, fs, ts, k, o, rfl, L1.same S5, S5 _ _ gk, S5 _ _ go, fun H7 s7 => ⟨_, rfl, ?_⟩⟩
        cases c2 : canB ts k o with
        | false =>
          refine iteF ?_
          rw [if_neg (by simp [c2]), List.append_nil]
          exact acc5.same pair_stab s7
        | true =>
          refine iteT ?_
          rw [if_pos (by simp [kLt, c1, c2])]
          refine ⟨_, rfl, _, rfl, two_le, fun p np => ?_⟩
          have s8 := Same.upd_new (o := .tup [.ref q, .ref q']) np
          refine acc5.step pair_stab hD (s7.trans s8) ?_ lf
          exact ⟨q, q', upd_same, s8 _ _ (s7 _ _ (S5 _ _ gk)), s8 _ _ (s7 _ _ (S5 _ _ go))⟩
    rintro H2 acc
    rw [List.length_map, lq, List.take_length] at acc
    obtain ⟨as2, s2, g2, p2⟩ := acc.at_
    have lP : (pairsL ts ys).length ≤ 1600 := by
      have h := lenP ys.length
      rw [List.take_length] at h
      exact h
    have inP : ∀ p ∈ pairsL ts ys, p.1 ∈ ys ∧ p.2 ∈ ys := fun p hp => by
      obtain ⟨k, hk, h⟩ := List.mem_flatMap.mp hp
      obtain ⟨o, ho, rfl⟩ := List.mem_map.mp h
      exact ⟨hk, (List.mem_filter.mp ho).1⟩
    change Paired (PairAt H2) as2 (pairsL ts ys) at p2
    have lq2 := Paired.length p2
    have hp2 := hp1.same s2
    -- the triples
    refine ⟨_, rfl, D, rfl, ⟨_, SqL.of g2⟩, fun D2 hD2 => ?_⟩
    have lenG : ∀ i, (((pairsL ts ys).take i).flatMap fun p => ((takL pl p.1).filter fun z => has (takL pl p.2) z).map fun z => (p.1, p.2, z)).length ≤ 16000 := fun i => by
      have h := flatMap_len (l := (pairsL ts ys).take i) (f := fun p => ((takL pl p.1).filter fun z => has (takL pl p.2) z).map fun z => (p.1, p.2, z)) (c := 10) fun x _ => by
        rw [List.length_map]
        exact Nat.le_trans (List.length_filter_le ..) (takL_few hp.few x.1)
      have : ((pairsL ts ys).take i).length ≤ 1600 := Nat.le_trans (List.take_sublist ..).length_le lP
      omega
    refine lc2_it (walk_list (xs := as2.map V.ref)) (fun i H' => AccR H2 D2 TriAt (((pairsL ts ys).take i).flatMap fun p => ((takL pl p.1).filter fun z => has (takL pl p.2) z).map fun z => (p.1, p.2, z)) H') (AccR.zero hD2) (fun _ _ _ h => SqL.of (h.1 _ _ g2)) ?_ ?_
    · rintro i v H3 H4 hi acc3 ⟨rfl, hv⟩
      obtain ⟨a, ha, rfl⟩ := getE hv
      obtain ⟨⟨k, o⟩, hko, gp⟩ := paired_get p2 ha
      obtain ⟨q, q', g3, gk, go⟩ := gp
      obtain ⟨ik, io⟩ := inP _ (List.mem_of_getElem? hko)
      have hp3 := hp2.same acc3.1
      obtain ⟨ak, vk, lk⟩ := hp3.at_ (all k (pm.mem_iff.mp ik))
      refine ⟨a, _, rfl, SqT.of (acc3.1 _ _ g3), rfl, ?_⟩
      refine ⟨_, _, rfl, _, _, rfl, rfl, ?_⟩
      refine ⟨rfl, ?_⟩
      refine ⟨_, rfl, _, rfl, dp, .ref ak, rfl, .inr ⟨_, keyL k, q, .inl hp3.g, rfl, acc3.1 _ _ gk, vk.symm⟩, ak, rfl, ⟨_, lk⟩, ?_⟩
      rw [flat_next hko]
      have lp := lenG i
      generalize ((pairsL ts ys).take i).flatMap (fun p => ((takL pl p.1).filter fun z => has (takL pl p.2) z).map fun z => (p.1, p.2, z)) = done at acc3 lp ⊢
      have keepL : ∀ {H'}, Same H2 H' → SqL K H' ak ((takL pl k).map V.str) := fun {H'} S => by
        obtain ⟨ak', vk', lk'⟩ := (hp2.same S).at_ (all k (pm.mem_iff.mp ik))
        rw [vk] at vk'
        cases vk'
        exact lk'
      refine lc2_in (walk_list (xs := (takL pl k).map V.str)) (fun j H' => AccR H2 D2 TriAt (done ++ (((takL pl k).take j).filter fun z => has (takL pl o) z).map fun z => (k, o, z)) H') (by simpa using acc3) (fun _ _ _ h => keepL h.1) ?_ (fun H' h => by
        rw [List.length_map, List.take_length] at h
        exact h)
      rintro j w2 H5 H6 hj acc5 ⟨rfl, hw⟩
      obtain ⟨z, hz, rfl⟩ := getE hw
      have S5 := acc5.1
      have hp5 := hp2.same S5
      obtain ⟨ao, vo, lo⟩ := hp5.at_ (all o (pm.mem_iff.mp io))
      rw [filt_next hz, ← List.append_assoc]
      have lf : (done ++ (((takL pl k).take j).filter fun z => has (takL pl o) z).map fun z => (k, o, z)).length ≤ 1000000 := by
        rw [List.length_append, List.length_map]
        have h1 := List.length_filter_le (fun z => has (takL pl o) z) ((takL pl k).take j)
        have h2 : ((takL pl k).take j).length ≤ 10 := Nat.le_trans (List.take_sublist ..).length_le (takL_few hp.few k)
        omega
      refine ⟨rfl, ?_⟩
      refine ⟨_, rfl, _, rfl, _, rfl, dp, .ref ao, rfl, .inr ⟨_, keyL o, q', .inl hp5.g, rfl, S5 _ _ go, vo.symm⟩, ao, _, rfl, .inl lo, rfl, flat_strs _, ?_⟩
      simp only [Bool.false_eq_true, if_false, inV_str]
      refine ⟨_, rfl, ?_⟩
      cases c : has (takL pl o) z with
      | false =>
        refine iteF ?_
        rw [if_neg (by simp), List.append_nil]
        exact acc5
      | true =>
        refine iteT ?_
        rw [if_pos rfl]
        refine ⟨_, rfl, _, rfl, _, rfl, (by show 3 ≤ sizeLine; decide), fun p np => ?_⟩
        have s8 := Same.upd_new (o := .tup [.ref q, .ref q', .str z]) np
        refine acc5.step tri_stab hD2 s8 ?_ lf
        exact ⟨q, q', upd_same, s8 _ _ (S5 _ _ gk), s8 _ _ (S5 _ _ go)⟩
    rintro H3 acc3
    rw [List.length_map, lq2, List.take_length] at acc3
    obtain ⟨as3, s3, g3, p3⟩ := acc3.at_
    refine sort_read (R := TriAt) (d := trD) g3 p3 (fun a b h => tri_dp h) tri_alike (fun b => ⟨_, _, rfl⟩) tri_depth fun l' as' L' nl' pL pmL pwL => ?_
    have s4 := Same.upd_new (o := .lst (as'.map V.ref)) nl'
    have S := s1.trans (s2.trans (s3.trans s4))
    have nl : H l' = none := by
      cases c : H l' with
      | none => rfl
      | some o => rw [(s1.trans (s2.trans s3)) _ _ c] at nl'; cases nl'
    exact kk _ l' as' ys L' S nl upd_same (paired_imp (fun a b h => tri_stab _ _ _ _ (TupK.same s4) h) pL) pm asc pmL pwL
end
end Half

namespace Half
open PySem PySem.Spec PyProof.Rows L2
/-! ### rivals -/
def clashF (fs : Fls) (ts : Tks) (ys : List Kk) : List (Kk × Kk × Str) := (pairsL ts ys).flatMap fun p => ((pathsL fs p.1).filter fun z => has (pathsL fs p.2) z).map fun z => (p.1, p.2, z)
theorem pairs_in {ts : Tks} {ys : List Kk} {p : Kk × Kk} (h : p ∈ pairsL ts ys) : p.1 ∈ ys ∧ p.2 ∈ ys := by
  obtain ⟨k, hk, h⟩ := List.mem_flatMap.mp h
  obtain ⟨o, ho, rfl⟩ := List.mem_map.mp h
  exact ⟨hk, (List.mem_filter.mp ho).1⟩
theorem flatMap_same {α β : Type} {f g : α → List β} : ∀ {l : List α}, (∀ x ∈ l, f x = g x) → l.flatMap f = l.flatMap g
  | [], _ => rfl
  | x :: l, h => by rw [List.flatMap_cons, List.flatMap_cons, h x (.head _), flatMap_same fun y hy => h y (.tail _ hy)]
theorem clash_same {fs : Fls} {ts pl : Tks} {ys : List Kk} (h : ∀ k ∈ ys, takL pl k = pathsL fs k) : clashL ts ys pl = clashF fs ts ys :=
  flatMap_same fun p hp => by
    obtain ⟨h1, h2⟩ := pairs_in hp
    rw [h _ h1, h _ h2]
theorem takL_of {fs : Fls} {pl : Tks} {ys : List Kk} (e : pl.map (·.1) = ys) (h : ∀ e ∈ pl, e.2.2 = pathsL fs e.1) : ∀ k ∈ ys, takL pl k = pathsL fs k := fun k hk => by
  have tl : takL pl k = match pl.find? fun e => decide (e.1 = k) with
    | some e => e.2.2
    | none => [] := rfl
  rw [← e] at hk
  cases c : pl.find? fun e => decide (e.1 = k) with
  | none =>
    obtain ⟨x, hx, hxe⟩ := List.mem_map.mp hk
    have := List.find?_eq_none.mp c x hx
    simp [hxe] at this
  | some x =>
    rw [c] at tl
    have ex : x.1 = k := of_decide_eq_true (List.find?_some (p := fun (e : Kk × Addr × List Str) => decide (e.1 = k)) c)
    rw [tl, ← ex]
    exact h x (List.mem_of_find?_eq_some c)
abbrev sRiv : Stmt := top 45
theorem scRiv : FnScope ["layout", "key"] ["layout"] (defScope sRiv) := ⟨rfl, rfl, rfl, by decide +kernel, rfl, by decide +kernel, by decide +kernel⟩
def spRiv (K : PySem.W.Frag) (CT CY : Addr) : Sp := fun vs H Q _ => ∃ (y st d1 d2 : Addr) (es : Eds) (fs : Fls) (ts : Tks), vs = [.ref y] ∧ LayS K CT CY H y st d1 d2 es fs ts ∧
  ∀ H' l as ys trs, Same H H' → H l = none → H' l = some (.lst (as.map V.ref)) → Paired (TriAt H') as trs → ys.Perm (keysOf es) → Asc ys → trs.Perm (clashF fs ts ys) → SortedT trs → Q (.ref l) H'
section
variable {P : Program} {w : World} {K : PySem.W.Frag} {mg : Str → Option Value} {base : Heap} {CT CY : Addr}
theorem ok_riv {f : Addr} {fd : FuncData} (F : Fun K "rivals" "rivals" sRiv f fd) (Y : LayP P w K mg base CY) (dE : Def P w K mg base 3 "edition_keys" ["store"] (spEk CT)) (dP : Def P w K mg base 4 "paths_of" ["layout", "key"] (spPo K CT CY)) (dC : Def P w K mg base 5 "clashes" ["layout", "places"] (spCls K CT CY)) : FnOk P w K mg base CX0 6 f fd ["layout"] (spRiv K CT CY) := by
  refine F.ok scRiv (fun vs H Q E h => ?_) (fun cdv A outer s H vs Q E hr h => ?_)
  · obtain ⟨y, st, d1, d2, es, fs, ts, rfl, _⟩ := h
    rfl
  · obtain ⟨y, st, d1, d2, es, fs, ts, rfl, L, kk⟩ := h
    have nd := scRiv.nd
    have hu := hr.units
    have hu1 := hu_of hr
    have r2 : Room 2 _ := hr.mono (by decide)
    have r3 : Room 3 _ := hr.mono (by decide)
    have r4 : Room 4 _ := hr.mono (by decide)
    have r5 : Room 5 _ := hr.mono (by decide)
    refine ⟨_, pss_one (ps_ret (pe_def dC r5 rfl (pa_cons (pv 0) (pa_cons (pe_dcG (own := [("key", 1)]) (g := gName 1) (tt := tYes) (tk := tVar 1) (tv := tCall (spPo K CT CY) [] E0 (tCons (tVar 0) (tCons (tVar 1) tNil))) Bare.t hu1 rfl nd (pi_list (pe_def dE r3 rfl (pa_cons (pe_lsP Y r2 (pv 0)) pa_nil))) (blkOk_by (N := ["layout", "key"]) (sc := defScope sRiv) (by decide +kernel)) (fun _ _ _ _ _ => pg_name (i := 1) nd rfl (Or.inl rfl)) (fun _ _ _ _ _ => pts_nil) (fun _ _ _ _ _ => pv 1) (fun _ _ _ _ _ => pe_def dP r4 rfl (pa_cons (pv 0) (pa_cons (pv 1) pa_nil)))) pa_nil)))), ?_⟩
    obtain ⟨dx, hy⟩ := L.la.ob
    refine ⟨_, rfl, ?_⟩
    refine ⟨_, rfl, y, dx, _, rfl, hy, y, st, d1, d2, fs, ts, rfl, L.la, ?_⟩
    refine ⟨st, es, rfl, L.sto, L.few, fun H1 kl qs ys s1 nkl gkl pk pm asc => ?_⟩
    have L1 := L.same s1
    have ndy : ys.Nodup := pm.symm.nodup_iff.mp L.sto.one
    have ly : ys.length ≤ 40 := by
      rw [pm.length_eq]
      unfold keysOf
      rw [List.length_map]
      exact L.few
    have lq := Paired.length pk
    refine ⟨kl, rfl, ⟨_, SqL.of gkl⟩, fun D hD => ?_⟩
    refine dcG_it (walk_list (xs := qs.map V.ref)) (fun i H' => Same H1 H' ∧ ∃ pl : Tks, pl.map (·.1) = ys.take i ∧ (∀ e ∈ pl, e.2.2 = pathsL fs e.1 ∧ H' e.2.1 = some (.lst (e.2.2.map V.str))) ∧ H' D = some (.dT (kvG (fun p : Addr × List Str => p.1) pl))) ⟨Same.upd_new hD, [], rfl, fun e h => (nomatch h), upd_same⟩ (fun _ _ _ h => SqL.of (h.1 _ _ gkl)) ?_ ?_
    · rintro i v H4 H5 hi ⟨s4, pl, ek, ev, gD⟩ ⟨rfl, hv⟩
      obtain ⟨q, hq, rfl⟩ := getE hv
      obtain ⟨k, hk, gk⟩ := paired_get pk hq
      refine ⟨rfl, ?_⟩
      refine ⟨_, rfl, _, rfl, _, rfl, y, q, st, d1, d2, es, fs, ts, k, rfl, L1.same s4, s4 _ _ gk, fun H6 a s6 na ga => ?_⟩
      have lp : pl.length ≤ 40 := by
        have h := congrArg List.length ek
        rw [List.length_map] at h
        rw [h]
        exact Nat.le_trans (List.take_sublist ..).length_le ly
      have ek2 : (pl ++ [(k, a, pathsL fs k)]).map (·.1) = ys.take (i + 1) := by rw [List.map_append, ek, take_next hk]; rfl
      have new := kvG_new (v := fun p : Addr × List Str => p.1) (l := pl ++ [(k, a, pathsL fs k)]) (i := pl.length) (e := (k, a, pathsL fs k)) (by rw [ek2]; exact ndy.sublist (List.take_sublist ..)) (by rw [List.getElem?_append_right (Nat.le_refl _), Nat.sub_self]; rfl)
      rw [List.take_append_of_le_length (Nat.le_refl _), List.take_length] at new
      have gD6 := s6 _ _ gD
      refine ⟨_, DPut.t (k := keyL k) gD6 (s6 _ _ (s4 _ _ gk)) (by unfold kvG; rw [List.length_map, sizeLine_eq]; omega), fun b o q' => ?_, pl ++ [(k, a, pathsL fs k)], ek2, fun e he => ?_, ?_⟩
      · rw [upd_ne (ne_of_none q' hD)]
        exact s6 _ _ (s4 _ _ q')
      · rcases List.mem_append.mp he with he | he
        · obtain ⟨e1, e2⟩ := ev e he
          refine ⟨e1, ?_⟩
          rw [upd_ne (ne_of (s6 _ _ e2) gD6 (by intro z; cases z))]
          exact s6 _ _ e2
        · rw [List.mem_singleton.mp he]
          refine ⟨rfl, ?_⟩
          rw [upd_ne (ne_of ga gD6 (by intro z; cases z))]
          exact ga
      · rw [putK_new _ new, upd_same]
        unfold kvG
        rw [List.map_append]
        rfl
    · rintro H4 ⟨s4, pl, ek, ev, gD⟩
      rw [List.length_map, lq, List.take_length] at ek
      have S := s1.trans s4
      refine ⟨y, D, st, d1, d2, es, fs, ts, pl, rfl, L.same S, ⟨gD, fun e he => SqL.of (ev e he).2, by rw [ek]; exact ndy, fun e he => ?_⟩, fun k hk => by rw [ek]; exact pm.mem_iff.mpr hk, fun H5 l as ys2 trs s5 nl gl pl2 pm2 asc2 pt srt => ?_⟩
      · rw [(ev e he).1]
        unfold pathsL
        rw [List.length_map]
        exact filL_len L.s e.1
      · obtain rfl : ys2 = ys := asc_uniq pm2 asc2 pm asc
        rw [clash_same (takL_of ek fun e he => (ev e he).1)] at pt
        have nH : H l = none := by
          cases q : H l with
          | none => rfl
          | some o => rw [S _ _ q] at nl; cases nl
        exact kk H5 l as ys2 trs (S.trans s5) nH gl pl2 pm2 asc2 pt srt
end
end Half

namespace Half
open PySem PySem.Spec PyProof.Rows L2
/-! ### what stands while the keys are drawn -/
structure Lo (K : PySem.W.Frag) (CT r a st fa ta : Addr) (es : Eds) (fs : Fls) (ts : Tks) (H : Hp) : Prop where
  row : Row K H r a
  sto : StObj CT H st es
  apF : Apart CT H st fa
  apT : Apart CT H st ta
  gF : H fa = some (.dT (kvF fs))
  gT : H ta = some (.dT (kvT ts))
  hF : ∀ e ∈ fs, OkK e.1 ∧ FilesAt K H e.2.1 e.2.2 ∧ e.2.2.length ≤ 100 ∧ ∀ p ∈ e.2.2, p.1.length ≤ 1000 ∧ Numv p.2
  hT : ∀ e ∈ ts, OkK e.1 ∧ SqT K H e.2.1 (e.2.2.map V.str) ∧ e.2.2.length ≤ 100 ∧ ∀ z ∈ e.2.2, z.length ≤ 1000
  ne : fa ≠ ta
/-- a list of keys -/
def ListK (H : Hp) (l : Addr) (ks : List Kk) : Prop := ∃ qs : List Addr, H l = some (.lst (qs.map V.ref)) ∧ Paired (KeyAt H) qs ks
section
variable {K : PySem.W.Frag} {CT r a st fa ta l : Addr} {es : Eds} {fs : Fls} {ts : Tks} {ks : List Kk} {H H' : Hp}
theorem Lo.dr (h : Lo K CT r a st fa ta es fs ts H) (d : Dr r a H H') : Lo K CT r a st fa ta es fs ts H' := by
  obtain ⟨xr, hr⟩ := h.row.at_
  have kp := d.kp h.row
  obtain ⟨⟨dy, tb, nb, h1, -⟩, -⟩ := id h.sto
  have ks : ∀ o, H st = some o → H' st = some o := fun o q => d.sb _ _ (ne_of h1 hr (by intro z; cases z)) q
  exact ⟨d.row h.row, h.sto.nl (d.nl h.row), h.apF.mv h.sto ks, h.apT.mv h.sto ks, d.sb _ _ (ne_of h.gF hr (by intro z; cases z)) h.gF, d.sb _ _ (ne_of h.gT hr (by intro z; cases z)) h.gT,
    fun e he => ⟨(h.hF e he).1, (h.hF e he).2.1.kp kp, (h.hF e he).2.2⟩, fun e he => ⟨(h.hT e he).1, kp _ _ (h.hT e he).2.1, (h.hT e he).2.2⟩, h.ne⟩
theorem Lo.same (h : Lo K CT r a st fa ta es fs ts H) (s : Same H H') : Lo K CT r a st fa ta es fs ts H' := h.dr (h.row.of s)
theorem ListK.mv (k : ∀ b o, H b = some o → (∀ kv, o ≠ .dT kv) → (∀ x y z w, o ≠ .lst [.ref x, .int y, .int z, .int w]) → H' b = some o) (h : ListK H l ks) : ListK H' l ks := by
  obtain ⟨qs, g, p⟩ := h
  refine ⟨qs, k _ _ g (by intro _ z; cases z) (fun x y z w e => ?_), paired_imp (fun q k' h => k _ _ h (by intro _ z; cases z) (by intro _ _ _ _ z; cases z)) p⟩
  injection e with e
  match qs, e with
  | [], e => cases e
  | [_], e => cases e
  | _ :: _ :: _, e =>
    injection e with _ e
    injection e with e _
    cases e
theorem ListK.dr (R : Row K H r a) (d : Dr r a H H') (h : ListK H l ks) : ListK H' l ks := by
  obtain ⟨ns, i, g, l', h1, -⟩ := R
  exact h.mv fun b o q _ n => d.sb _ _ (fun z => by rw [z, h1] at q; cases q; exact n _ _ _ _ rfl) q
theorem ListK.same (s : Same H H') (h : ListK H l ks) : ListK H' l ks := h.mv fun b o q _ _ => s b o q
theorem key_mv {q : Addr} {k : Kk} (R : Row K H r a) (d : Dr r a H H') (h : KeyAt H q k) : KeyAt H' q k := by
  obtain ⟨xr, hr⟩ := R.at_
  exact d.sb _ _ (ne_of h hr (by intro z; cases z)) h
/-- a dict is changed: all else stands -/
theorem StObj.put {d : Addr} {kv kv' : List (List Key × V)} (h : StObj CT H st es) (ap : Apart CT H st d) (g : H d = some (.dT kv)) : StObj CT (upd H d (.dT kv')) st es := by
  obtain ⟨⟨dy, tb, nb, h1, h2, h3⟩, one⟩ := h
  obtain ⟨ys', a, b, kvs', g1, g2, g3⟩ := h3
  have n : ∀ {b' : Addr} {o : HO}, H b' = some o → (∀ ks, o ≠ .dT ks) → (upd H d (.dT kv')) b' = some o := fun {b' o} q no => by
    rw [upd_ne fun z => no kv (by rw [z, g] at q; exact (Option.some.inj q).symm)]
    exact q
  exact ⟨⟨dy, tb, nb, n h1 (by intro _ z; cases z), by rw [upd_ne (ap _ _ _ h1)]; exact h2, ys', a, b, kvs', n g1 (by intro _ z; cases z), g2, fun nm hm => let ⟨t, a, b⟩ := g3 nm hm; ⟨t, a, n b (by intro _ z; cases z)⟩⟩, one⟩
theorem put_row {d : Addr} {kv kv' : List (List Key × V)} (R : Row K H r a) (g : H d = some (.dT kv)) : Row K (upd H d (.dT kv')) r a := by
  obtain ⟨ns, i, gg, l', h1, h2, h3, h4⟩ := R
  have n : ∀ {b' : Addr} {o : HO}, H b' = some o → (∀ ks, o ≠ .dT ks) → (upd H d (.dT kv')) b' = some o := fun {b' o} q no => by
    rw [upd_ne fun z => no kv (by rw [z, g] at q; exact (Option.some.inj q).symm)]
    exact q
  refine ⟨ns, i, gg, l', n h1 (by intro _ z; cases z), ?_, h3, h4⟩
  rcases h2 with (q | ⟨o, q⟩) | q
  · exact .inl (.inl (n q (by intro _ z; cases z)))
  · exact .inl (.inr ⟨o, n q (by intro _ z; cases z)⟩)
  · exact .inr q
theorem put_keep {d b : Addr} {kv kv' : List (List Key × V)} {o : HO} (g : H d = some (.dT kv)) (q : H b = some o) (n : ∀ ks, o ≠ .dT ks) : upd H d (.dT kv') b = some o := by
  rw [upd_ne fun z => n kv (by rw [z, g] at q; exact (Option.some.inj q).symm)]
  exact q
theorem put_kp {d : Addr} {kv kv' : List (List Key × V)} (g : H d = some (.dT kv)) : Kp K H (upd H d (.dT kv')) := Kp.upd g (fun _ z => by cases z) (fun _ _ z => by cases z)
theorem put_ap {d d' : Addr} {kv kv' : List (List Key × V)} (hO : StObj CT H st es) (g : H d = some (.dT kv)) (h : Apart CT H st d') : Apart CT (upd H d (.dT kv')) st d' := by
  obtain ⟨⟨dy, tb, nb, h1, -⟩, -⟩ := id hO
  exact h.mv hO fun o q => put_keep g q (by rw [h1] at q; cases q; intro _ z; cases z)
/-- files[k] = f -/
theorem Lo.putF (h : Lo K CT r a st fa ta es fs ts H) {k : Kk} {af : Addr} {f : List (Str × V)} (new : k ∉ fs.map (·.1)) (ok : OkK k) (hf : FilesAt K H af f) (l1 : f.length ≤ 100) (l2 : ∀ p ∈ f, p.1.length ≤ 1000 ∧ Numv p.2) :
    Lo K CT r a st fa ta es (fs ++ [(k, af, f)]) ts (upd H fa (.dT (putK (kvF fs) (keyL k) (.ref af)))) := by
  have e : putK (kvF fs) (keyL k) (.ref af) = kvF (fs ++ [(k, af, f)]) := by
    have n : valV (kvF fs) (keyL k) = none := by
      cases c : valV (kvF fs) (keyL k) with
      | none => rfl
      | some w =>
        have z := valV_in c
        unfold kvF at z
        rw [List.map_map] at z
        obtain ⟨e', he', ee⟩ := List.mem_map.mp z
        exact absurd (List.mem_map.mpr ⟨e', he', keyL_inj ee⟩) new
    rw [putK_new _ n]
    unfold kvF
    rw [List.map_append]
    rfl
  rw [e]
  have kp : Kp K H (upd H fa (.dT (kvF (fs ++ [(k, af, f)])))) := put_kp h.gF
  refine ⟨put_row h.row h.gF, h.sto.put h.apF h.gF, put_ap h.sto h.gF h.apF, put_ap h.sto h.gF h.apT, upd_same, by rw [upd_ne (Ne.symm h.ne)]; exact h.gT, fun e he => ?_, fun e he => ⟨(h.hT e he).1, kp _ _ (h.hT e he).2.1, (h.hT e he).2.2⟩, h.ne⟩
  rcases List.mem_append.mp he with q | q
  · exact ⟨(h.hF e q).1, (h.hF e q).2.1.kp kp, (h.hF e q).2.2⟩
  · rw [List.mem_singleton.mp q]
    exact ⟨ok, hf.kp kp, l1, l2⟩
/-- takes[k] = s -/
theorem Lo.putT (h : Lo K CT r a st fa ta es fs ts H) {k : Kk} {as : Addr} {s : List Str} (new : k ∉ ts.map (·.1)) (ok : OkK k) (hs : SqT K H as (s.map V.str)) (l1 : s.length ≤ 100) (l2 : ∀ z ∈ s, z.length ≤ 1000) :
    Lo K CT r a st fa ta es fs (ts ++ [(k, as, s)]) (upd H ta (.dT (putK (kvT ts) (keyL k) (.ref as)))) := by
  have e : putK (kvT ts) (keyL k) (.ref as) = kvT (ts ++ [(k, as, s)]) := by
    have n : valV (kvT ts) (keyL k) = none := by
      cases c : valV (kvT ts) (keyL k) with
      | none => rfl
      | some w =>
        have z := valV_in c
        unfold kvT at z
        rw [List.map_map] at z
        obtain ⟨e', he', ee⟩ := List.mem_map.mp z
        exact absurd (List.mem_map.mpr ⟨e', he', keyL_inj ee⟩) new
    rw [putK_new _ n]
    unfold kvT
    rw [List.map_append]
    rfl
  rw [e]
  have kp : Kp K H (upd H ta (.dT (kvT (ts ++ [(k, as, s)])))) := put_kp h.gT
  refine ⟨put_row h.row h.gT, h.sto.put h.apT h.gT, put_ap h.sto h.gT h.apF, put_ap h.sto h.gT h.apT, by rw [upd_ne h.ne]; exact h.gF, upd_same, fun e he => ⟨(h.hF e he).1, (h.hF e he).2.1.kp kp, (h.hF e he).2.2⟩, fun e he => ?_, h.ne⟩
  rcases List.mem_append.mp he with q | q
  · exact ⟨(h.hT e q).1, kp _ _ (h.hT e q).2.1, (h.hT e q).2.2⟩
  · rw [List.mem_singleton.mp q]
    exact ⟨ok, kp _ _ hs, l1, l2⟩
end
/-- all but dicts and the row stands -/
def Fw (H H' : Hp) : Prop := ∀ b o, H b = some o → (∀ kv, o ≠ .dT kv) → (∀ x y z w, o ≠ .lst [.ref x, .int y, .int z, .int w]) → H' b = some o
theorem Fw.same {H H' : Hp} (s : Same H H') : Fw H H' := fun b o q _ _ => s b o q
theorem Fw.trans {H H' H'' : Hp} (f : Fw H H') (g : Fw H' H'') : Fw H H'' := fun b o q n m => g b o (f b o q n m) n m
theorem Fw.dr {K : PySem.W.Frag} {r a : Addr} {H H' : Hp} (R : Row K H r a) (d : Dr r a H H') : Fw H H' := fun b o q _ n => by
  obtain ⟨ns, i, g, l', h1, -⟩ := R
  exact d.sb _ _ (fun z => by rw [z, h1] at q; cases q; exact n _ _ _ _ rfl) q
theorem Fw.put {H : Hp} {d : Addr} {kv kv' : List (List Key × V)} (g : H d = some (.dT kv)) : Fw H (upd H d (.dT kv')) := fun b o q n _ => put_keep g q n
theorem okK_of {k : Kk} (h : k.1 ∈ PN4) (h1 : 0 ≤ k.2) (h2 : k.2 ≤ 1000) : OkK k := by
  have all : ∀ x ∈ PN4, PyData.strOk x = true ∧ (reprText x).length ≤ 1000 := by decide +kernel
  obtain ⟨a, b⟩ := all _ h
  obtain ⟨n, hn⟩ : ∃ n : Nat, k.2 = (n : Int) := ⟨k.2.toNat, by omega⟩
  obtain ⟨c, d⟩ := small_text n (by omega)
  unfold OkK
  rw [hn]
  exact ⟨a, b, d, Nat.le_trans c (by decide)⟩
/-- the keys drawn are among those walked so far -/
structure SoFar {α : Type} (ks : List Kk) (i : Nat) (l : List (Kk × α)) : Prop where
  sub : ∀ x ∈ l, x.1 ∈ ks.take i
  nd : (l.map (·.1)).Nodup
  len : l.length ≤ i
theorem SoFar.new {α : Type} {ks : List Kk} {i : Nat} {l : List (Kk × α)} {k : Kk} (nd : ks.Nodup) (h : SoFar ks i l) (hk : ks[i]? = some k) : k ∉ l.map (·.1) := fun z => by
  obtain ⟨x, hx, e⟩ := List.mem_map.mp z
  have := h.sub x hx
  rw [e] at this
  exact nodup_take nd hk this
theorem SoFar.next {α : Type} {ks : List Kk} {i : Nat} {l l' : List (Kk × α)} {k : Kk} (nd : ks.Nodup) (h : SoFar ks i l) (hk : ks[i]? = some k) (hl : l' = l ∨ ∃ v, l' = l ++ [(k, v)]) : SoFar ks (i + 1) l' := by
  have new := h.new nd hk
  have up : ∀ x ∈ l, x.1 ∈ ks.take (i + 1) := fun x hx => by rw [take_next hk]; exact List.mem_append.mpr (.inl (h.sub x hx))
  rcases hl with rfl | ⟨v, rfl⟩
  · exact ⟨up, h.nd, Nat.le_succ_of_le h.len⟩
  · refine ⟨fun x hx => ?_, ?_, by rw [List.length_append]; exact Nat.succ_le_succ h.len⟩
    · rcases List.mem_append.mp hx with q | q
      · exact up x q
      · rw [List.mem_singleton.mp q, take_next hk]
        exact List.mem_append.mpr (.inr (.head _))
    · rw [List.map_append]
      refine List.nodup_append.mpr ⟨h.nd, List.nodup_cons.mpr ⟨fun z => (nomatch z), .nil⟩, fun a ha b hb e => ?_⟩
      rw [e, List.mem_singleton.mp hb] at ha
      exact new ha
end Half

namespace Half
open PySem PySem.Spec PyProof.Rows L2
/-! ### _law_layout: one key -/
def sub3 : List (List Str) := [[], ["app"], ["db"], ["lib"], ["app", "db"], ["app", "lib"], ["db", "lib"], ["app", "db", "lib"]]
def rank3 (x : Str) : Nat := if x = "app" then 0 else if x = "db" then 1 else 2
theorem pn3_rank : ∀ x ∈ PN3, ∀ y ∈ PN3, txLt x y = decide (rank3 x < rank3 y) := by decide +kernel
theorem sub3_of {ns : List Str} (h : ∀ x ∈ ns, x ∈ PN3) (nd : ns.Nodup) (asc : ns.Pairwise txLe) : ns ∈ sub3 := by
  have le : ns.length ≤ 3 := by
    have := len_sub nd h
    exact this
  have lt : ∀ {x y : Str}, x ∈ PN3 → y ∈ PN3 → x ≠ y → txLe x y → (x, y) ∈ ([("app", "db"), ("app", "lib"), ("db", "lib")] : List (Str × Str)) := by
    have all : ∀ x ∈ PN3, ∀ y ∈ PN3, x = y ∨ txLt y x = true ∨ (x, y) ∈ ([("app", "db"), ("app", "lib"), ("db", "lib")] : List (Str × Str)) := by decide +kernel
    intro x y hx hy n l
    rcases all x hx y hy with q | q | q
    · exact absurd q n
    · rw [show txLt y x = false from l] at q; cases q
    · exact q
  match ns, le, h, nd, asc with
  | [], _, _, _, _ => exact .head _
  | [x], _, h, _, _ =>
    have hx := h x (.head _)
    have all : ∀ x ∈ PN3, [x] ∈ sub3 := by decide +kernel
    exact all x hx
  | [x, y], _, h, nd, asc =>
    have q := lt (h x (.head _)) (h y (.tail _ (.head _))) (fun e => (List.nodup_cons.mp nd).1 (by rw [e]; exact .head _)) ((List.pairwise_cons.mp asc).1 y (.head _))
    have all : ∀ p ∈ ([("app", "db"), ("app", "lib"), ("db", "lib")] : List (Str × Str)), [p.1, p.2] ∈ sub3 := by decide +kernel
    exact all _ q
  | [x, y, z], _, h, nd, asc =>
    have q1 := lt (h x (.head _)) (h y (.tail _ (.head _))) (fun e => (List.nodup_cons.mp nd).1 (by rw [e]; exact .head _)) ((List.pairwise_cons.mp asc).1 y (.head _))
    have nd2 := (List.nodup_cons.mp nd).2
    have asc2 := (List.pairwise_cons.mp asc).2
    have q2 := lt (h y (.tail _ (.head _))) (h z (.tail _ (.tail _ (.head _)))) (fun e => (List.nodup_cons.mp nd2).1 (by rw [e]; exact .head _)) ((List.pairwise_cons.mp asc2).1 z (.head _))
    have all : ∀ p ∈ ([("app", "db"), ("app", "lib"), ("db", "lib")] : List (Str × Str)), ∀ q ∈ ([("app", "db"), ("app", "lib"), ("db", "lib")] : List (Str × Str)), p.2 = q.1 → [p.1, p.2, q.2] ∈ sub3 := by decide +kernel
    exact all _ q1 _ q2 rfl
  | _ :: _ :: _ :: _ :: _, le, _, _, _ => exact absurd le (by simp)
theorem strs_eqv : ∀ a b : List Str, PyData.eqvAll (a.map PyData.str) (b.map PyData.str) = decide (a = b)
  | [], [] => by simp [PyData.eqvAll]
  | [], _ :: _ => by simp [PyData.eqvAll]
  | _ :: _, [] => by simp [PyData.eqvAll]
  | x :: a, y :: b => by
    simp only [List.map_cons, PyData.eqvAll, PyData.eqv]
    rw [strs_eqv a b]
    by_cases h : x = y <;> by_cases h' : a = b <;> simp [h, h']
theorem tup_eqv (a b : List Str) : PyData.eqv (.tuple (a.map PyData.str)) (.tuple (b.map PyData.str)) = decide (a = b) := by
  rw [← strs_eqv]
  simp [PyData.eqv]
theorem dp_words {K : PySem.W.Frag} {H : Hp} : ∀ l : List Str, DpAll K H (l.map V.str) (l.map PyData.str)
  | [] => .nil
  | x :: l => .cons (.str x) (dp_words l)
theorem lay_words : ∀ {l : List Str}, (∀ x ∈ l, PyData.strOk x = true) → PyData.canLayAll0 (l.map PyData.str) = true ∧ PyData.depthAll (l.map PyData.str) ≤ 1
  | [], _ => ⟨by simp [PyData.canLayAll0], by simp [PyData.depthAll]⟩
  | x :: l, h => by
    obtain ⟨a, b⟩ := lay_words fun e he => h e (List.mem_cons_of_mem _ he)
    have c := h x (List.mem_cons_self ..)
    refine ⟨by simp [PyData.canLayAll0, PyData.canLay0, a, c], ?_⟩
    simp only [List.map_cons, PyData.depthAll, PyData.depth]
    omega
theorem tup_lay {l : List Str} (h : ∀ x ∈ l, PyData.strOk x = true) : SeqAt.shaped (.tuple (l.map PyData.str)) = true := by
  obtain ⟨a, b⟩ := lay_words h
  unfold SeqAt.shaped
  rw [Bool.and_eq_true]
  refine ⟨by simp only [PyData.canLay0]; exact a, decide_eq_true ?_⟩
  simp only [PyData.depth]
  omega
abbrev sYl : Stmt := top 57
abbrev YlN : List Str := ["_law_row", "_law_store_here", "_law_files", "_law_takes", "_law_name", "_law_number", "_law_rows", "_law_some", "_law_path", "_law_other"]
theorem scYl : FnScope YlN ["_law_row", "_law_store_here"] (defScope sYl) := ⟨rfl, rfl, rfl, by decide +kernel, rfl, by decide +kernel, by decide +kernel⟩
def PF4 : List Str := ["bin", "conf", "doc", "man"]
theorem pf4_lt : PF4.Pairwise fun a b => strLt a b = true := by decide +kernel
theorem pf4_ok : ∀ x ∈ PF4, isWord x = true ∧ x.length ≤ 1000 := by
  intro x h
  unfold PF4 at h
  simp only [List.mem_cons, List.not_mem_nil, or_false] at h
  rcases h with rfl | rfl | rfl | rfl <;> decide +kernel
def filI (ps : List (Str × Int)) : List (Str × V) := ps.map fun p => (p.1, .int p.2)
theorem filI_good {ps : List (Str × Int)} (h : (ps.map (·.1)).Sublist PF4) (hv : ∀ p ∈ ps, 1 ≤ p.2 ∧ p.2 ≤ 9) : areFiles (filI ps) = true ∧ (filI ps).length ≤ 4 ∧ ∀ p ∈ filI ps, p.1.length ≤ 1000 ∧ Numv p.2 := by
  have ln : ps.length ≤ 4 := by
    have := h.length_le
    rw [List.length_map] at this
    exact this
  have ln2 : (filI ps).length = ps.length := List.length_map ..
  have e : (filI ps).map (·.1) = ps.map (·.1) := by unfold filI; rw [List.map_map]; rfl
  have wd : ∀ p ∈ ps, isWord p.1 = true ∧ p.1.length ≤ 1000 := fun p hp => pf4_ok _ (h.subset (List.mem_map.mpr ⟨p, hp, rfl⟩))
  refine ⟨?_, by omega, fun p hp => ?_⟩
  · unfold areFiles
    rw [e, asc_of (pf4_lt.sublist h), Bool.and_true, decide_eq_false (by omega), Bool.not_false, Bool.true_and]
    refine List.all_eq_true.mpr fun p hp => ?_
    obtain ⟨q, hq, rfl⟩ := List.mem_map.mp hp
    obtain ⟨v1, v2⟩ := hv q hq
    unfold isFile
    rw [(wd q hq).1, Bool.true_and]
    show (decide (1 ≤ q.2) && decide (q.2 ≤ 99)) = true
    rw [decide_eq_true v1, decide_eq_true (by omega : q.2 ≤ 99)]
    rfl
  · obtain ⟨q, hq, rfl⟩ := List.mem_map.mp hp
    exact ⟨(wd q hq).2, .inl ⟨_, rfl⟩⟩
theorem sub3_pn4 : ∀ ns ∈ sub3, ns.Sublist PN4 := by decide +kernel
theorem takes_drawn {ks : List Kk} {ns zs : List Str} {nm : Str} (hs : ns ∈ sub3) (sub : zs.Sublist ns) (hn : nm ∉ zs) (mem : ∀ x, x ∈ ns ↔ x ∈ ks.map (·.1)) : areTakes ks zs nm = true ∧ zs.length ≤ 10 ∧ ∀ z ∈ zs, z.length ≤ 1000 := by
  have sp := sub.trans (sub3_pn4 ns hs)
  refine ⟨?_, Nat.le_trans sp.length_le (by decide), fun z hz => (pn4_ok z (sp.subset hz)).2.2⟩
  unfold areTakes
  rw [others4_ok sp hn, Bool.true_and]
  exact List.all_eq_true.mpr fun z hz => has_iff.mpr ((mem z).mp (sub.subset hz))
abbrev tOthers (K : PySem.W.Frag) : TT := tAnd (tTest (tOp rNe (tVar 9) (tVar 4))) (tDrawn K 0 2)
/-- [x for x in xs if x != name and taken(row, 2) == 0] -/
theorem draw_some {K : PySem.W.Frag} {r a D : Addr} {xs : List Str} {nm : Str} {σ : L2.St} {H : Hp} {Qd : Hp → Prop} {J : It} {G : Hp → Prop} (wk : Walk J xs.length G (YAt (xs.map V.str))) (hG : ∀ H', Dr r a H H' → G H') (hR : Row K H r a) (few : xs.length ≤ 40) (S : Slot1 σ 0 9 r) (hs4 : ∀ x, ((wipe σ [9]).set 9 (some x))[4]? = some (some (.str nm))) (hD : H D = none)
    (k : ∀ H' (zs : List Str), Dr r a H H' → H' D = some (.lst (zs.map V.str)) → zs.Sublist xs → nm ∉ zs → Qd H') : LcW J (gName 9) (tOthers K) (tVar 9) [9] σ H D Qd := by
  have ne := hR.ne hD
  refine lc_it wk (fun i H' => Dr r a H H' ∧ ∃ zs : List Str, H' D = some (.lst (zs.map V.str)) ∧ zs.Sublist (xs.take i) ∧ nm ∉ zs) ⟨hR.dr.put hD ne, [], upd_same, by simp, by simp⟩ (fun i H' _ p => hG H' p.1) ?_ ?_
  · rintro i x H1 H2 hi ⟨d, zs, hz, hs, hn⟩ ⟨rfl, hx⟩
    obtain ⟨n, hnx, rfl⟩ := getE hx
    refine ⟨S.wip _, ?_⟩
    refine ⟨_, S.var _, _, hs4 _, rfl, _, rfl, ?_⟩
    by_cases c : n = nm
    · rw [show (!decide (V.str n = V.str nm)) = false by rw [c]; simp]
      refine iteF ?_
      exact iteF ⟨d, zs, hz, sub_skip hs hnx, hn⟩
    · rw [show (!decide (V.str n = V.str nm)) = true by rw [dec_str, decide_eq_false c]; rfl]
      refine iteT ?_
      refine drawn_read (S.row _) (d.row hR) (by decide) (by decide) fun b H3 d3 => ?_
      have hz3 := d3.sb _ _ ne hz
      cases b with
      | false => exact iteF ⟨d.trans d3, zs, hz3, sub_skip hs hnx, hn⟩
      | true =>
        refine iteT ⟨_, S.var _, _, hz3, ?_, ?_, zs ++ [n], ?_, sub_snoc hs hnx, ?_⟩
        · rw [List.length_map, sizeLine_eq]
          have := sub_len hs
          omega
        · exact (d.trans d3).put hD ne
        · rw [upd_same, List.map_append]
          rfl
        · intro z
          rcases List.mem_append.mp z with q | q
          · exact hn q
          · exact c (List.mem_singleton.mp q).symm
  · rintro H2 ⟨d, zs, hz, hs, hn⟩
    rw [List.take_length] at hs
    exact k H2 zs d hz hs hn
end Half

namespace Half
open PySem PySem.Spec PyProof.Rows L2
abbrev ylBody : List Stmt := forBody (nth (forBody (nth (defBody sYl) 1)) 0)
theorem strs_nil (zs : List Str) : PyData.eqv (.tuple (zs.map PyData.str)) (.tuple ([] : List PyData)) = decide (zs = []) := by
  have := tup_eqv zs []
  exact this
/-- what is known of a drawn layout -/
structure Lg (ks : List Kk) (fs : Fls) (ts : Tks) : Prop where
  f : ∀ e ∈ fs, areFiles e.2.2 = true ∧ e.2.2.length ≤ 10 ∧ e.1 ∈ ks ∧ ∀ p ∈ e.2.2, p.1 ∈ PF4
  t : ∀ e ∈ ts, areTakes ks e.2.2 e.1.1 = true ∧ e.2.2.length ≤ 10 ∧ e.1 ∈ ks
section
variable {P : Program} {w : World} {K : PySem.W.Frag} {mg : Str → Option Value} {base : Heap} {C CT CY CN CL : Addr}
theorem yl_takes {f : Addr} {cdv : Value} {A : Around} {outer : List Env} {sh : Shared} {H0 : Hp} {E : XK} (gT : mg "tuple" = none) (dT : Def P w K mg base 1 "_law_taken" ["_law_row", "_law_many"] (spTaken K)) (N : NamF P w K mg base CT)
    (hr : Room 6 (A.deeper (envOfC "_law_layout" (defScope sYl) sh.heap.objs.size f cdv))) (nd : YlN.Nodup) :
    ∃ t, PSs (cxOf CX0 P w K mg base YlN "_law_layout" (defScope sYl) f cdv A outer sh H0 E).nox (ylBody.drop 2) t ∧ ∀ (D' : Ends) (H : Hp) (r a st fa ta : Addr) (es : Eds) (fs : Fls) (ts : Tks) (key : Kk) (x6 x7 : Option V),
      Lo K CT r a st fa ta es fs ts H → Lg (keysOf es) fs ts → key ∈ keysOf es → OkK key → key ∉ ts.map (·.1) → ts.length ≤ 20 → (∀ k ∈ keysOf es, k.1 ∈ PN3) →
      (∀ H' ts' x7, Lo K CT r a st fa ta es fs ts' H' → Lg (keysOf es) fs ts' → Fw H H' → Kp K H H' → (ts' = ts ∨ ∃ v, ts' = ts ++ [(key, v)]) →
        D'.nx [some (.ref r), some (.ref st), some (.ref fa), some (.ref ta), some (.str key.1), some (.int key.2), x6, x7, none, none] H') →
      t D' [some (.ref r), some (.ref st), some (.ref fa), some (.ref ta), some (.str key.1), some (.int key.2), x6, x7, none, none] H := by
  have r1 : Room 1 _ := hr.mono (by decide)
  have r2 : Room 2 _ := hr.mono (by decide)
  have hu := hr.units
  have hu1 := hu_of hr
  refine ⟨_, pss_cons (ps_set (i := 7) nd rfl (Or.inl rfl) (pe_callTy call_tuple_of (by rfl) gT (by decide +kernel) (pa_cons
        (pe_lc (own := [("_law_other", 9)]) (g := gName 9) (tt := tOthers K) (te := tVar 9) rfl nd (pi_tup (pe_nam N r2 (pv 1))) (blkOk_by (N := YlN) (sc := defScope sYl) (by decide +kernel))
          (fun _ _ _ _ _ => pg_name (i := 9) nd rfl (Or.inl rfl)) (fun _ _ _ _ _ => pts_one (PW.pt (pw_and (pt_cmpR op_ne (pv 9) (pv 4) (nomark _)) (pw_and1 (pt_cmpR op_eq (pe_def dT r1 rfl (pa_cons (pv 0) (pa_cons pe_int pa_nil))) pe_int (nomark _)))))) (fun _ _ _ _ _ => pv 9)) pa_nil)))
    (pss_one (ps_if (pt_cmpR (op_neD hu) (pv 7) (pe_tup pa_nil) (nomark _)) (pss_one (ps_dput hu1 (pv 3) (pe_tup (pa_cons (pv 4) (pa_cons (pv 5) pa_nil))) (pv 7) rfl)) pss_nil)), ?_⟩
  intro D' H r a st fa ta es fs ts key x6 x7 h lg hk ok new few pn k
  obtain ⟨⟨dy, tb, nb, hst, -⟩, -⟩ := id h.sto
  refine ⟨_, rfl, st, dy, _, rfl, hst, st, es, rfl, h.sto, fun ys nt pm asc nnt => ?_⟩
  have isn := isNm_of pm asc
  have s1 := Same.upd_new (o := .tup ((dset (ys.map (·.1))).map V.str)) nnt
  have gn : SqT K (upd H nt (.tup ((dset (ys.map (·.1))).map V.str))) nt ((dset (ys.map (·.1))).map V.str) := SqT.of upd_same
  generalize upd H nt (.tup ((dset (ys.map (·.1))).map V.str)) = H1 at s1 gn ⊢
  generalize dset (ys.map (·.1)) = ns at isn gn
  have nsP : ∀ x ∈ ns, x ∈ PN3 := fun x hx => by
    obtain ⟨q, hq, rfl⟩ := List.mem_map.mp ((isn.mem x).mp hx)
    exact pn q hq
  have nsub := sub3_of nsP isn.nd isn.asc
  have nlen : ns.length ≤ 3 := len_sub isn.nd nsP
  have h1 := h.same s1
  refine ⟨nt, rfl, ⟨_, gn⟩, fun D hD => draw_some walkT_strs (fun H' d => d.kp h1.row _ _ gn) h1.row (by omega) ⟨fun _ => rfl, fun _ => rfl, fun _ => rfl⟩ (fun _ => rfl) hD (fun H2 zs d2 hz hsub hno => ?_)⟩
  have h2 := h1.dr d2
  refine ⟨D, _, rfl, .inl ⟨SqL.of hz, fun t nt' => ?_⟩⟩
  have s3 := Same.upd_new (o := .tup (zs.map V.str)) nt'
  have gt : upd H2 t (.tup (zs.map V.str)) t = some (.tup (zs.map V.str)) := upd_same
  have h3 := h2.same s3
  have f3 := ((Fw.same s1).trans (Fw.dr h1.row d2)).trans (Fw.same s3)
  have k3 : Kp K H (upd H2 t (.tup (zs.map V.str))) := fun b xs q => s3.kp _ _ (d2.kp h1.row _ _ (s1.kp _ _ q))
  generalize upd H2 t (.tup (zs.map V.str)) = H3 at gt h3 f3 k3 ⊢
  obtain ⟨good, zl, zt⟩ := takes_drawn (ks := keysOf es) nsub hsub hno isn.mem
  have zok : ∀ z ∈ zs, PyData.strOk z = true := takes_ok good
  refine ⟨_, rfl, Nat.zero_le _, fun e nne => ?_⟩
  have s4 := Same.upd_new (o := .tup []) nne
  have gt4 := s4 _ _ gt
  have h4 := h3.same s4
  have f4 := f3.trans (Fw.same s4)
  have k4 : Kp K H (upd H3 e (.tup [])) := fun b xs q => s4.kp _ _ (k3 _ _ q)
  have ge : upd H3 e (.tup []) e = some (.tup []) := upd_same
  generalize upd H3 e (.tup []) = H4 at gt4 h4 f4 k4 ge ⊢
  refine ⟨_, .tuple [], .tup (SqT.of gt4) (dp_words zs), .tup (SqT.of ge) .nil, tup_lay zok, by decide, ?_⟩
  rw [strs_nil]
  refine ⟨_, rfl, ?_⟩
  by_cases c : zs = []
  · rw [decide_eq_true c]
    refine iteF ?_
    exact k H4 ts _ h4 lg f4 k4 (.inl rfl)
  · rw [decide_eq_false c]
    refine iteT ?_
    refine ⟨_, rfl, _, rfl, _, rfl, _, rfl, two_le, fun kq nkq => ?_⟩
    have s5 := Same.upd_new (o := .tup [.str key.1, .int key.2]) nkq
    have h5 := h4.same s5
    have gk : KeyAt (upd H4 kq (.tup [.str key.1, .int key.2])) kq key := upd_same
    have gt5 := s5 _ _ gt4
    have f5 := f4.trans (Fw.same s5)
    have k5 : Kp K H (upd H4 kq (.tup [.str key.1, .int key.2])) := fun b xs q => s5.kp _ _ (k4 _ _ q)
    generalize upd H4 kq (.tup [.str key.1, .int key.2]) = H5 at h5 gk gt5 f5 k5 ⊢
    have lenT : (kvT ts).length < sizeLine := by unfold kvT; rw [List.length_map, sizeLine_eq]; omega
    refine ⟨ta, _, rfl, DPut.t (k := keyL key) h5.gT gk lenT, ?_⟩
    refine k _ _ _ (h5.putT new ok (SqT.of gt5) (by omega) zt) ⟨lg.f, fun e he => ?_⟩ (f5.trans (Fw.put h5.gT)) (fun b xs q => put_kp h5.gT _ _ (k5 _ _ q)) (.inr ⟨_, rfl⟩)
    rcases List.mem_append.mp he with q | q
    · exact lg.t e q
    · rw [List.mem_singleton.mp q]
      exact ⟨good, zl, hk⟩
end
end Half

namespace Half
open PySem PySem.Spec PyProof.Rows L2
section
variable {P : Program} {w : World} {K : PySem.W.Frag} {mg : Str → Option Value} {base : Heap} {C CT CY CN CL : Addr}
theorem yl_key {f : Addr} {cdv : Value} {A : Around} {outer : List Env} {sh : Shared} {H0 : Hp} {E : XK} (gT : mg "tuple" = none) (dT : Def P w K mg base 1 "_law_taken" ["_law_row", "_law_many"] (spTaken K)) (N : NamF P w K mg base CT)
    (hr : Room 6 (A.deeper (envOfC "_law_layout" (defScope sYl) sh.heap.objs.size f cdv))) (nd : YlN.Nodup) :
    ∃ t, PSs (cxOf CX0 P w K mg base YlN "_law_layout" (defScope sYl) f cdv A outer sh H0 E).nox ylBody t ∧ ∀ (D' : Ends) (H : Hp) (r a st fa ta : Addr) (es : Eds) (fs : Fls) (ts : Tks) (key : Kk) (x6 x7 : Option V),
      Lo K CT r a st fa ta es fs ts H → Lg (keysOf es) fs ts → key ∈ keysOf es → OkK key → key ∉ fs.map (·.1) → key ∉ ts.map (·.1) → fs.length ≤ 20 → ts.length ≤ 20 → (∀ k ∈ keysOf es, k.1 ∈ PN3) →
      (∀ H' fs' ts' x6 x7, Lo K CT r a st fa ta es fs' ts' H' → Lg (keysOf es) fs' ts' → Fw H H' → Kp K H H' → (fs' = fs ∨ ∃ v, fs' = fs ++ [(key, v)]) → (ts' = ts ∨ ∃ v, ts' = ts ++ [(key, v)]) →
        D'.nx [some (.ref r), some (.ref st), some (.ref fa), some (.ref ta), some (.str key.1), some (.int key.2), x6, x7, none, none] H') →
      t D' [some (.ref r), some (.ref st), some (.ref fa), some (.ref ta), some (.str key.1), some (.int key.2), x6, x7, none, none] H := by
  have r1 : Room 1 _ := hr.mono (by decide)
  have hu := hr.units
  have hu1 := hu_of hr
  obtain ⟨tT, hT, rdT⟩ := yl_takes (f := f) (cdv := cdv) (A := A) (outer := outer) (sh := sh) (H0 := H0) (E := E) gT dT N hr nd
  refine ⟨_, pss_cons (ps_setLc (i := 6) (own := [("_law_path", 8)]) (g := gName 8) (tt := tDrawn K 0 3) (te := tTup (tCons (tVar 8) (tCons (tOp (rI0 fun i j => .int (i + j)) (tC (.int 1)) (tCall (spTaken K) [] E0 (tCons (tVar 0) (tCons (tC (.int 9)) tNil)))) tNil))) rfl nd rfl rfl (sw_true rfl rfl rfl (by decide +kernel)) (pi_tup (pe_tup (pa_cons pe_str (pa_cons pe_str (pa_cons pe_str (pa_cons pe_str pa_nil)))))) (blkOk_by (N := YlN) (sc := defScope sYl) (by decide +kernel))
        (fun _ _ _ _ _ => pg_name (i := 8) nd rfl (Or.inl rfl)) (fun _ _ _ _ _ => pts_one (pt_cmpR op_eq (pe_def dT r1 rfl (pa_cons (pv 0) (pa_cons pe_int pa_nil))) pe_int (nomark _))) (fun _ _ _ _ _ => pe_tup (pa_cons (pv 8) (pa_cons (pe_op op_add pe_int (pe_def dT r1 rfl (pa_cons (pv 0) (pa_cons pe_int pa_nil)))) pa_nil))))
    (pss_cons (ps_if (PW.pt (pw_or (pt_cmpR (op_neNil hu) (pv 6) (pe_lst pa_nil) (nomark _)) (pw_or1 (pt_cmpR op_eq (pe_def dT r1 rfl (pa_cons (pv 0) (pa_cons pe_int pa_nil))) pe_int (nomark _)))))
      (pss_one (ps_dput hu1 (pv 2) (pe_tup (pa_cons (pv 4) (pa_cons (pv 5) pa_nil))) (pe_callTy call_tuple_of (by rfl) gT (by decide +kernel) (pa_cons (pv 6) pa_nil)) rfl)) pss_nil)
    hT), ?_⟩
  intro D' H r a st fa ta es fs ts key x6 x7 h lg hk ok newF newT fewF fewT pn k
  refine ⟨(by show 4 ≤ sizeLine; decide), fun tw nw => ?_⟩
  have s0 := Same.upd_new (o := .tup (PF4.map V.str)) nw
  have h0 := h.same s0
  have g0 : SqT K (upd H tw (.tup (PF4.map V.str))) tw (PF4.map V.str) := .inl (.inl upd_same)
  have e0 : (upd H tw (.tup [.str "bin", .str "conf", .str "doc", .str "man"])) = upd H tw (.tup (PF4.map V.str)) := rfl
  rw [e0]
  generalize upd H tw (.tup (PF4.map V.str)) = H1 at s0 h0 g0 ⊢
  refine ⟨tw, rfl, ⟨_, g0⟩, fun D hD => draw_pairs walkT_strs (fun H' d => d.kp h0.row _ _ g0) h0.row (by decide) (by decide) (by decide) (by decide) (by decide) ⟨fun _ => rfl, fun _ => rfl, fun _ => rfl⟩ hD (fun H2 qs ps d2 hz hp hs hb => ?_)⟩
  have h2 := h0.dr d2
  have f2 := (Fw.same s0).trans (Fw.dr h0.row d2)
  have k2 : Kp K H H2 := fun b xs q => d2.kp h0.row _ _ (s0.kp _ _ q)
  obtain ⟨good, pl, pt⟩ := filI_good hs hb
  -- what follows the files
  have rest : ∀ H' fs', Lo K CT r a st fa ta es fs' ts H' → Lg (keysOf es) fs' ts → Fw H H' → Kp K H H' → (fs' = fs ∨ ∃ v, fs' = fs ++ [(key, v)]) → tT D' [some (.ref r), some (.ref st), some (.ref fa), some (.ref ta), some (.str key.1), some (.int key.2), some (.ref D), x7, none, none] H' := by
    intro H' fs' h' lg' f' k' hf
    refine rdT _ _ r a st fa ta es fs' ts key _ _ h' lg' hk ok newT fewT pn fun H'' ts' y7 a1 a2 a3 a4 a5 => ?_
    exact k H'' fs' ts' _ _ a1 a2 (f'.trans a3) (fun b xs q => a4 _ _ (k' _ _ q)) hf a5
  -- the files are put
  have put : ∀ H', Lo K CT r a st fa ta es fs ts H' → Fw H H' → Kp K H H' → H' D = some (.lst (qs.map V.ref)) → PairsAt K H' qs ps →
      sDPut (tVar 2) (tTup (tCons (tVar 4) (tCons (tVar 5) tNil))) (tCB (fun xs H Q => ∃ p ys, xs = [.ref p] ∧ ((SqL K H p ys ∧ ∀ l, H l = none → Q (.ref l) (upd H l (.tup ys))) ∨ (SqT K H p ys ∧ Q (.ref p) H))) (tCons (tVar 6) tNil)) { D' with nx := tT D' } [some (.ref r), some (.ref st), some (.ref fa), some (.ref ta), some (.str key.1), some (.int key.2), some (.ref D), x7, none, none] H' := by
    intro H' h' f' k' gD hp'
    refine ⟨_, rfl, D, _, rfl, .inl ⟨SqL.of gD, fun t nt => ?_⟩⟩
    have s3 := Same.upd_new (o := .tup (qs.map V.ref)) nt
    have h3 := h'.same s3
    have f3 := f'.trans (Fw.same s3)
    have k3 : Kp K H (upd H' t (.tup (qs.map V.ref))) := fun b xs q => s3.kp _ _ (k' _ _ q)
    have hF : FilesAt K (upd H' t (.tup (qs.map V.ref))) t (filI ps) := ⟨qs, SqT.of upd_same, by unfold filI; rw [List.length_map]; exact hp'.1, fun i u p a b => by
      unfold filI at b
      rw [List.getElem?_map] at b
      obtain ⟨q, hq, rfl⟩ := Option.map_eq_some_iff.mp b
      exact s3.sqT (hp'.2 i u q a hq)⟩
    generalize upd H' t (.tup (qs.map V.ref)) = H3 at h3 f3 k3 hF ⊢
    refine ⟨_, rfl, _, rfl, _, rfl, two_le, fun kq nkq => ?_⟩
    have s5 := Same.upd_new (o := .tup [.str key.1, .int key.2]) nkq
    have h5 := h3.same s5
    have gk : KeyAt (upd H3 kq (.tup [.str key.1, .int key.2])) kq key := upd_same
    have hF5 := hF.kp s5.kp
    have f5 := f3.trans (Fw.same s5)
    have k5 : Kp K H (upd H3 kq (.tup [.str key.1, .int key.2])) := fun b xs q => s5.kp _ _ (k3 _ _ q)
    generalize upd H3 kq (.tup [.str key.1, .int key.2]) = H5 at h5 gk hF5 f5 k5 ⊢
    have lenF : (kvF fs).length < sizeLine := by unfold kvF; rw [List.length_map, sizeLine_eq]; omega
    refine ⟨fa, _, rfl, DPut.t (k := keyL key) h5.gF gk lenF, ?_⟩
    refine rest _ _ (h5.putF newF ok hF5 (by omega) pt) ⟨fun e he => ?_, lg.t⟩ (f5.trans (Fw.put h5.gF)) (fun b xs q => put_kp h5.gF _ _ (k5 _ _ q)) (.inr ⟨_, rfl⟩)
    rcases List.mem_append.mp he with q | q
    · exact lg.f e q
    · rw [List.mem_singleton.mp q]
      exact ⟨good, Nat.le_trans pl (by decide), hk, fun p hp => by
        obtain ⟨x, hx, rfl⟩ := List.mem_map.mp (show p ∈ filI ps from hp)
        exact hs.subset (List.mem_map.mpr ⟨x, hx, rfl⟩)⟩
  refine ⟨_, rfl, Nat.zero_le _, fun le nle => ?_⟩
  have s4 := Same.upd_new (o := .lst []) nle
  have h4 := h2.same s4
  have f4 := f2.trans (Fw.same s4)
  have k4 : Kp K H (upd H2 le (.lst [])) := fun b xs q => s4.kp _ _ (k2 _ _ q)
  have gD4 := s4 _ _ hz
  have hp4 := hp.kp s4.kp
  have gle : upd H2 le (.lst []) le = some (.lst []) := upd_same
  generalize upd H2 le (.lst []) = H4 at h4 f4 k4 gD4 hp4 gle ⊢
  refine ⟨D, le, _, rfl, rfl, SqL.of gD4, SqL.of gle, ?_⟩
  refine ⟨_, rfl, ?_⟩
  cases c : !(qs.map V.ref).isEmpty with
  | true =>
    refine iteT ?_
    refine iteT ?_
    exact put H4 h4 f4 k4 gD4 hp4
  | false =>
    refine iteF ?_
    refine ⟨_, rfl, r, 2, a, rfl, h4.row, by decide, by decide, fun v1 o1 v1l v1u R6 => ?_⟩
    have d6 := Dr.draw R6
    refine ⟨rfl, _, rfl, ?_⟩
    have kp6 := d6.kp h4.row
    cases c1 : decide (V.int v1 = V.int 0) with
    | false =>
      refine iteF ?_
      exact rest _ fs (h4.dr d6) lg (f4.trans (Fw.dr h4.row d6)) (fun b xs q => kp6 _ _ (k4 _ _ q)) (.inl rfl)
    | true =>
      refine iteT ?_
      refine put _ (h4.dr d6) (f4.trans (Fw.dr h4.row d6)) (fun b xs q => kp6 _ _ (k4 _ _ q)) (d6.lst ?_ gD4) (hp4.kp kp6)
      obtain ⟨zs, i, g, l', hrr, -⟩ := h0.row
      exact h0.row.ne hD
end
end Half

namespace Half
open PySem PySem.Spec PyProof.Rows L2
def spYl (K : PySem.W.Frag) (CT CY : Addr) : Sp := fun vs H Q _ => ∃ (r st a : Addr) (es : Eds), vs = [.ref r, .ref st] ∧ Row K H r a ∧ StObj CT H st es ∧ es.length ≤ 6 ∧ (∀ k ∈ keysOf es, k.1 ∈ PN3 ∧ 1 ≤ k.2 ∧ k.2 ≤ 3) ∧
  ∀ H' y d1 d2 fs ts, Row K H' r a → LayS K CT CY H' y st d1 d2 es fs ts → (∀ e ∈ fs, areFiles e.2.2 = true ∧ ∀ p ∈ e.2.2, p.1 ∈ PF4) → Q (.ref y) H'
/-- the keys of one name among all -/
theorem name_at {ys : List Kk} {ns : List Str} {i j : Nat} {nm : Str} {z : Kk} (bn : ns.flatMap (ofNm ys) = ys) (hn : ns[i]? = some nm) (hz : (ofNm ys nm)[j]? = some z) : ys[((ns.take i).flatMap (ofNm ys)).length + j]? = some z := by
  have e : ys = (ns.take i).flatMap (ofNm ys) ++ (ofNm ys nm ++ (ns.drop (i + 1)).flatMap (ofNm ys)) := by
    have hi := (List.getElem?_eq_some_iff.mp hn).1
    have hx := (List.getElem?_eq_some_iff.mp hn).2
    have d : ns = ns.take i ++ (nm :: ns.drop (i + 1)) := by
      rw [← hx, ← List.drop_eq_getElem_cons hi, List.take_append_drop]
    have h := congrArg (fun l => l.flatMap (ofNm ys)) d
    simp only [List.flatMap_append, List.flatMap_cons] at h
    rw [bn] at h
    exact h
  have hj := (List.getElem?_eq_some_iff.mp hz).1
  have g : ((ns.take i).flatMap (ofNm ys) ++ (ofNm ys nm ++ (ns.drop (i + 1)).flatMap (ofNm ys)))[((ns.take i).flatMap (ofNm ys)).length + j]? = some z := by
    rw [List.getElem?_append_right (Nat.le_add_right _ _), Nat.add_sub_cancel_left, List.getElem?_append_left hj, hz]
  rw [← e] at g
  exact g
section
variable {P : Program} {w : World} {K : PySem.W.Frag} {mg : Str → Option Value} {base : Heap} {C CT CY CN CL : Addr}
theorem Lo.layS {r a st fa ta : Addr} {es : Eds} {fs fs' : Fls} {ts ts' : Tks} {H H' : Hp} {y d1 d2 : Addr} (h : Lo K CT r a st fa ta es fs ts H) (lg : Lg (keysOf es) fs ts) (ndF : (fs.map (·.1)).Nodup) (ndT : (ts.map (·.1)).Nodup) (lf : fs.length ≤ 40) (lt : ts.length ≤ 40) (few : es.length ≤ 40)
    (S : Same H H') (la : LayAt CY H' y st d1 d2 fs' ts') (pF : fs'.Perm fs) (pT : ts'.Perm ts) : LayS K CT CY H' y st d1 d2 es fs' ts' :=
  ⟨la, h.sto.same S, fun e he => (h.hF e (pF.mem_iff.mp he)).2.1.kp S.kp, fun e he => S.sqT (h.hT e (pT.mem_iff.mp he)).2.1,
    ⟨by rw [pF.length_eq]; exact lf, by rw [pT.length_eq]; exact lt, (pF.map _).nodup_iff.mpr ndF, (pT.map _).nodup_iff.mpr ndT, fun e he => (lg.f e (pF.mem_iff.mp he)).2.1, fun e he => (lg.t e (pT.mem_iff.mp he)).2.1⟩, few⟩
theorem ok_yl {f : Addr} {fd : FuncData} (F : Fun K "_law_layout" "_law_layout" sYl f fd) (gT : mg "tuple" = none) (dT : Def P w K mg base 1 "_law_taken" ["_law_row", "_law_many"] (spTaken K)) (N : NamF P w K mg base CT) (SV : SvF P w K mg base CT CN) (Y : LayF P w K mg base CT CY CL) : FnOk P w K mg base CX0 7 f fd ["_law_row", "_law_store_here"] (spYl K CT CY) := by
  refine F.ok scYl (fun vs H Q E h => ?_) (fun cdv A outer s H vs Q E hr h => ?_)
  · obtain ⟨r, st, a, es, rfl, _⟩ := h
    rfl
  · obtain ⟨r, st, a, es, rfl, R, hO, few, keys, kk⟩ := h
    have nd := scYl.nd
    have r1 : Room 1 _ := hr.mono (by decide)
    have r2 : Room 2 _ := hr.mono (by decide)
    obtain ⟨fv, fdv, Mv, Fv, bv⟩ := SV.ex
    obtain ⟨fi, fdi, Fi, Mi, bi, mgY⟩ := Y.ini
    obtain ⟨tK, hK, rdK⟩ := yl_key (f := f) (cdv := cdv) (A := A) (outer := outer) (sh := s) (H0 := H) (E := E) gT dT N hr nd
    refine ⟨_, pss_cons (ps_par (i := 2) (j := 3) rfl nd rfl rfl (by decide) rfl rfl (pa_cons pe_dnewT (pa_cons pe_dnewT pa_nil)) (by rfl))
      (pss_cons (ps_for PassesOwn.never rfl (pi_tup (pe_nam N r2 (pv 1))) (pg_name (i := 4) nd rfl (Or.inr rfl))
        (pss_one (ps_for PassesOwn.never rfl (pi_tup (pe_meth (pv 1) SV.cl Mv Fv r1 bv .nil passL (pa_cons (pv 4) pa_nil))) (pg_name (i := 5) nd rfl (Or.inl rfl)) hK)))
      (pss_one (ps_ret (pe_make Mi Fi hr rfl mgY bi .nil passL (pa_cons (pv 1) (pa_cons (pv 2) (pa_cons (pv 3) pa_nil))))))), ?_⟩
    refine fun fa nfa ta nta => ⟨_, _, rfl, ?_⟩
    have s1 := Same.upd_new (o := .dT []) nfa
    have s2 := Same.upd_new (o := .dT []) nta
    have net : fa ≠ ta := fun e => by rw [← e, upd_same] at nta; cases nta
    have gFa := s2 _ _ (upd_same (a := fa) (o := .dT []) (H := H))
    have gTa : (upd (upd H fa (.dT [])) ta (.dT [])) ta = some (.dT []) := upd_same
    have apF := (apart_new (o := .dT []) hO nfa).mv (hO.same s1) (fun o q => s2 _ _ q)
    have apT := apart_new (o := .dT []) (hO.same s1) nta
    have S2 := s1.trans s2
    generalize upd (upd H fa (.dT [])) ta (.dT []) = H2 at S2 gFa gTa apF apT ⊢
    have lo2 : Lo K CT r a st fa ta es [] [] H2 := ⟨R.same' S2, hO.same S2, apF, apT, gFa, gTa, fun e he => (nomatch he), fun e he => (nomatch he), net⟩
    obtain ⟨⟨dx, tb, nb, ha, -⟩, -⟩ := id lo2.sto
    refine ⟨_, rfl, st, dx, _, rfl, ha, st, es, rfl, lo2.sto, fun ys nt pm asc nnt => ?_⟩
    have s3 := Same.upd_new (o := .tup ((dset (ys.map (·.1))).map V.str)) nnt
    have gn : SqT K (upd H2 nt (.tup ((dset (ys.map (·.1))).map V.str))) nt ((dset (ys.map (·.1))).map V.str) := SqT.of upd_same
    have lo3 := lo2.same s3
    generalize upd H2 nt (.tup ((dset (ys.map (·.1))).map V.str)) = H3 at gn lo3 ⊢
    have ndy : ys.Nodup := pm.symm.nodup_iff.mp hO.one
    have ly : ys.length ≤ 6 := by
      rw [pm.length_eq]
      unfold keysOf
      rw [List.length_map]
      exact few
    have bn := by_names asc ndy
    have inn : ∀ n ∈ dset (ys.map (·.1)), n ∈ (keysOf es).map (·.1) := fun n hn => by
      obtain ⟨y, hy, e⟩ := List.mem_map.mp ((mem_dset _ n).mp hn)
      exact List.mem_map.mpr ⟨y, pm.mem_iff.mp hy, e⟩
    generalize dset (ys.map (·.1)) = ns at gn bn inn
    have upto : ∀ j, ((ns.take j).flatMap (ofNm ys)).length ≤ 6 := fun j => by
      have h := congrArg List.length bn
      rw [← List.take_append_drop j ns, List.flatMap_append, List.length_append] at h
      omega
    refine ⟨nt, rfl, ⟨_, gn⟩, ?_⟩
    refine for_it (walk_tup (xs := ns.map V.str)) (fun i σ H' => ∃ fs ts x4 x5 x6 x7, σ = [some (.ref r), some (.ref st), some (.ref fa), some (.ref ta), x4, x5, x6, x7, none, none] ∧ Lo K CT r a st fa ta es fs ts H' ∧ Lg (keysOf es) fs ts ∧ Kp K H3 H' ∧ SoFar ys ((ns.take i).flatMap (ofNm ys)).length fs ∧ SoFar ys ((ns.take i).flatMap (ofNm ys)).length ts)
      ⟨[], [], none, none, none, none, rfl, lo3, ⟨fun e h => (nomatch h), fun e h => (nomatch h)⟩, fun _ _ h => h, ⟨fun _ h => (nomatch h), .nil, Nat.zero_le _⟩, ⟨fun _ h => (nomatch h), .nil, Nat.zero_le _⟩⟩ ?_ ?_ ?_
    · rintro i σ H' _ ⟨fs, ts, x4, x5, x6, x7, rfl, lo, lg, kp, sf, st'⟩
      exact kp _ _ gn
    · rintro i v σ H4 H5 hi ⟨fs, ts, x4, x5, x6, x7, rfl, lo, lg, kp, sf, st'⟩ ⟨rfl, hv⟩
      obtain ⟨nm, hnm, rfl⟩ := getE hv
      obtain ⟨⟨dx5, tb5, nb5, ha5, -⟩, -⟩ := id lo.sto
      refine ⟨_, rfl, st, dx5, _, rfl, ha5, rfl, _, rfl, st, es, nm, rfl, lo.sto, (fun _ ys2 t2 pm2 asc2 ht2 => ?_), (fun z => absurd (inn nm (List.mem_of_getElem? hnm)) z)⟩
      obtain rfl : ys2 = ys := asc_uniq pm2 asc2 pm asc
      rw [nums_of] at ht2
      have tk : (ns.take (i + 1)).flatMap (ofNm ys2) = (ns.take i).flatMap (ofNm ys2) ++ ofNm ys2 nm := by
        rw [take_next hnm, List.flatMap_append, List.flatMap_cons, List.flatMap_nil, List.append_nil]
      have lim := upto (i + 1)
      rw [tk, List.length_append] at lim
      have at_ : ∀ {j z}, (ofNm ys2 nm)[j]? = some z → ys2[((ns.take i).flatMap (ofNm ys2)).length + j]? = some z := fun h => name_at bn hnm h
      have name : ∀ z ∈ ofNm ys2 nm, z.1 = nm := fun z hz => of_decide_eq_true (List.mem_filter.mp hz).2
      change H5 t2 = some (.tup ((ofNm ys2 nm).map fun y => V.int y.2)) at ht2
      rw [tk, List.length_append]
      generalize ofNm ys2 nm = zs at ht2 lim at_ name
      generalize ((ns.take i).flatMap (ofNm ys2)).length = n at sf st' at_ lim
      refine ⟨t2, rfl, ⟨_, SqT.of ht2⟩, ?_⟩
      refine for_it (walk_tup (xs := zs.map fun y => V.int y.2)) (fun j σ H' => ∃ fs ts x5 x6 x7, σ = [some (.ref r), some (.ref st), some (.ref fa), some (.ref ta), some (.str nm), x5, x6, x7, none, none] ∧ Lo K CT r a st fa ta es fs ts H' ∧ Lg (keysOf es) fs ts ∧ Kp K H5 H' ∧ SoFar ys2 (n + j) fs ∧ SoFar ys2 (n + j) ts)
        ⟨fs, ts, _, _, _, rfl, lo, lg, fun _ _ h => h, sf, st'⟩ ?_ ?_ ?_
      · rintro j σ H' _ ⟨fs, ts, x5, x6, x7, rfl, lo, lg, kp', sf, st'⟩
        exact kp' _ _ (SqT.of ht2)
      · rintro j v σ H6 H7 hj ⟨fs, ts, x5, x6, x7, rfl, lo, lg, kp', sf, st'⟩ ⟨rfl, hw⟩
        rw [List.getElem?_map] at hw
        obtain ⟨z, hz, rfl⟩ := Option.map_eq_some_iff.mp hw
        have hk := at_ hz
        have ez := name z (List.mem_of_getElem? hz)
        have kin : z ∈ keysOf es := pm.mem_iff.mp (List.mem_of_getElem? hk)
        obtain ⟨k1, k2, k3⟩ := keys z kin
        have lf := sf.len
        have lt := st'.len
        rw [List.length_map] at hj
        subst ez
        refine rdK _ _ r a st fa ta es fs ts z x6 x7 lo lg kin (okK_of (pn3_in k1) (by omega) (by omega)) (sf.new ndy hk) (st'.new ndy hk) (by omega) (by omega) (fun k h => (keys k h).1) fun H8 fs' ts' y6 y7 a1 a2 a3 a4 a5 a6 => ?_
        exact ⟨fs', ts', _, _, _, rfl, a1, a2, fun b xs q => a4 _ _ (kp' _ _ q), sf.next ndy hk a5, st'.next ndy hk a6⟩
      · rintro σ H6 ⟨fs, ts, x5, x6, x7, rfl, lo, lg, kp', sf, st'⟩
        rw [List.length_map] at sf st'
        exact ⟨fs, ts, _, _, _, _, rfl, lo, lg, fun b xs q => kp' _ _ (kp _ _ q), sf, st'⟩
    · rintro σ H4 ⟨fs, ts, x4, x5, x6, x7, rfl, lo, lg, kp, sf, st'⟩
      have lf := sf.len
      have lt := st'.len
      have u := upto (ns.map V.str).length
      refine ⟨_, rfl, _, rfl, _, rfl, ?_⟩
      refine lay_read ⟨lo.sto, lo.apF, lo.apT, lo.gF, lo.gT, lo.hF, lo.hT, by omega, by omega, sf.nd, st'.nd⟩ (List.filter_eq_nil_iff.mpr fun e he => ?_) (List.filter_eq_nil_iff.mpr fun e he => ?_) fun x H5 d1 d2 fs' ts' S nx la pF aF pT aT => ?_
      · obtain ⟨g1, _, g2, _⟩ := lg.f e he
        unfold badF
        rw [g1, has_iff.mpr g2]
        exact Bool.false_ne_true
      · obtain ⟨g1, _, g2⟩ := lg.t e he
        unfold badT
        rw [g1, has_iff.mpr g2]
        exact Bool.false_ne_true
      · exact kk H5 x d1 d2 fs' ts' (lo.row.same' S) (lo.layS lg sf.nd st'.nd (by omega) (by omega) (by omega) S la pF pT) fun e he => ⟨(lg.f e (pF.mem_iff.mp he)).1, (lg.f e (pF.mem_iff.mp he)).2.2.2⟩
end
end Half

namespace Half
open PySem PySem.Spec PyProof.Rows L2
/-! ### _law_keys -/
abbrev sKs : Stmt := top 58
abbrev KsN : List Str := ["_law_store_here", "_law_found", "_law_name", "_law_number"]
theorem scKs : FnScope KsN ["_law_store_here"] (defScope sKs) := ⟨rfl, rfl, rfl, by decide +kernel, rfl, by decide +kernel, by decide +kernel⟩
def spKs (CT : Addr) : Sp := fun vs H Q _ => ∃ (st : Addr) (es : Eds), vs = [.ref st] ∧ StObj CT H st es ∧ es.length ≤ 40 ∧
  ∀ H' l qs (ys : List Kk), Same H H' → H l = none → H' l = some (.lst (qs.map V.ref)) → Paired (KeyAt H') qs ys → ys.Perm (keysOf es) → Asc ys → Q (.ref l) H'
section
variable {P : Program} {w : World} {K : PySem.W.Frag} {mg : Str → Option Value} {base : Heap} {CT CN : Addr}
theorem ok_ks {f : Addr} {fd : FuncData} (F : Fun K "_law_keys" "_law_keys" sKs f fd) (N : NamF P w K mg base CT) (SV : SvF P w K mg base CT CN) : FnOk P w K mg base CX0 3 f fd ["_law_store_here"] (spKs CT) := by
  refine F.ok scKs (fun vs H Q E h => ?_) (fun cdv A outer s H vs Q E hr h => ?_)
  · obtain ⟨st, es, rfl, _⟩ := h
    rfl
  · obtain ⟨st, es, rfl, hO, few, k⟩ := h
    have nd := scKs.nd
    have r1 : Room 1 _ := hr.mono (by decide)
    obtain ⟨fv, fdv, Mv, Fv, bv⟩ := SV.ex
    refine ⟨_, pss_cons (ps_set (i := 1) nd rfl (Or.inl rfl) (pe_lst pa_nil))
      (pss_cons (ps_for PassesOwn.never rfl (pi_tup (pe_nam N hr (pv 0))) (pg_name (i := 2) nd rfl (by first | exact Or.inl rfl | exact Or.inr rfl))
        (pss_one (ps_set (i := 1) nd rfl (Or.inl rfl) (pe_op op_cat (pv 1) (pe_lc (own := [("_law_number", 3)]) (g := gName 3) (tt := tYes) (te := tTup (tCons (tVar 2) (tCons (tVar 3) tNil))) rfl nd (pi_tup (pe_meth (pv 0) SV.cl Mv Fv r1 bv .nil passL (pa_cons (pv 2) pa_nil))) (blkOk_by (N := KsN) (sc := defScope sKs) (by decide +kernel))
          (fun _ _ _ _ _ => pg_name (i := 3) nd rfl (Or.inl rfl)) (fun _ _ _ _ _ => pts_nil) (fun _ _ _ _ _ => pe_tup (pa_cons (pv 2) (pa_cons (pv 3) pa_nil))))))))
      (pss_one (ps_ret (pv 1)))), ?_⟩
    refine ⟨Nat.zero_le _, fun l0 nl0 => ?_⟩
    have s0 := Same.upd_new (o := .lst []) nl0
    have g0 : upd H l0 (.lst []) l0 = some (.lst (([] : List Addr).map V.ref)) := upd_same
    generalize upd H l0 (.lst []) = H0 at s0 g0 ⊢
    obtain ⟨dx, fs, ha⟩ := hO.ins
    refine ⟨_, rfl, st, dx, fs, rfl, s0 _ _ ha, st, es, rfl, hO.same s0, fun ys nt pm asc nnt => ?_⟩
    have s1 := Same.upd_new (o := .tup ((dset (ys.map (·.1))).map V.str)) nnt
    have gn : SqT K (upd H0 nt (.tup ((dset (ys.map (·.1))).map V.str))) nt ((dset (ys.map (·.1))).map V.str) := SqT.of upd_same
    have S1 := s0.trans s1
    have g1 := s1 _ _ g0
    generalize upd H0 nt (.tup ((dset (ys.map (·.1))).map V.str)) = H1 at S1 gn g1 ⊢
    have ndy : ys.Nodup := pm.symm.nodup_iff.mp hO.one
    have ly : ys.length ≤ 40 := by
      rw [pm.length_eq]
      unfold keysOf
      rw [List.length_map]
      exact few
    have bn := by_names asc ndy
    have inn : ∀ n ∈ dset (ys.map (·.1)), n ∈ (keysOf es).map (·.1) := fun n hn => by
      obtain ⟨y, hy, e⟩ := List.mem_map.mp ((mem_dset _ n).mp hn)
      exact List.mem_map.mpr ⟨y, pm.mem_iff.mp hy, e⟩
    generalize dset (ys.map (·.1)) = ns at gn bn inn
    have upto : ∀ j, ((ns.take j).flatMap (ofNm ys)).length ≤ 40 := fun j => by
      have h := congrArg List.length bn
      rw [← List.take_append_drop j ns, List.flatMap_append, List.length_append] at h
      omega
    refine ⟨nt, rfl, ⟨_, gn⟩, ?_⟩
    refine for_it (walk_tup (xs := ns.map V.str)) (fun i σ H' => Same H1 H' ∧ ∃ (l : Addr) (qs : List Addr) (x2 : Option V), σ = [some (.ref st), some (.ref l), x2, none] ∧ H l = none ∧ H' l = some (.lst (qs.map V.ref)) ∧ Paired (KeyAt H') qs ((ns.take i).flatMap (ofNm ys)))
      ⟨fun _ _ h => h, l0, [], none, rfl, nl0, g1, .nil⟩ (fun i σ H' _ p => p.1.sqT gn) ?_ ?_
    · rintro i v σ H2 H3 hi ⟨s2, l, qs, x2, rfl, nl, gl, pk⟩ ⟨rfl, hv⟩
      obtain ⟨nm, hnm, rfl⟩ := getE hv
      have S3 := S1.trans s2
      obtain ⟨⟨dx5, tb5, nb5, ha5, -⟩, -⟩ := id (hO.same S3)
      refine ⟨_, rfl, _, rfl, st, dx5, _, rfl, ha5, rfl, _, rfl, st, es, nm, rfl, hO.same S3, (fun _ ys2 t2 pm2 asc2 ht2 => ?_), (fun z => absurd (inn nm (List.mem_of_getElem? hnm)) z)⟩
      obtain rfl : ys2 = ys := asc_uniq pm2 asc2 pm asc
      rw [nums_of] at ht2
      have tk : (ns.take (i + 1)).flatMap (ofNm ys2) = (ns.take i).flatMap (ofNm ys2) ++ ofNm ys2 nm := by
        rw [take_next hnm, List.flatMap_append, List.flatMap_cons, List.flatMap_nil, List.append_nil]
      have lim := upto (i + 1)
      rw [tk, List.length_append] at lim
      have name : ∀ z ∈ ofNm ys2 nm, z.1 = nm := fun z hz => of_decide_eq_true (List.mem_filter.mp hz).2
      change H3 t2 = some (.tup ((ofNm ys2 nm).map fun y => V.int y.2)) at ht2
      rw [tk]
      have lq := Paired.length pk
      generalize ofNm ys2 nm = zs at ht2 lim name
      generalize (ns.take i).flatMap (ofNm ys2) = ks at pk lim lq
      refine ⟨t2, rfl, ⟨_, SqT.of ht2⟩, fun D hD => ?_⟩
      refine lc_it (walk_tup (xs := zs.map fun y => V.int y.2)) (fun j H' => AccR H3 D KeyAt (zs.take j) H') (AccR.zero hD) (fun _ _ _ h => SqT.of (h.1 _ _ ht2)) ?_ ?_
      · rintro j w2 H5 H6 hj acc ⟨rfl, hw⟩
        rw [List.getElem?_map] at hw
        obtain ⟨z, hz, rfl⟩ := Option.map_eq_some_iff.mp hw
        have ez := name z (List.mem_of_getElem? hz)
        refine ⟨rfl, ?_⟩
        refine ⟨_, rfl, _, rfl, two_le, fun p np => ?_⟩
        rw [take_next hz]
        refine acc.step key_stab hD (Same.upd_new np) ?_ (by have : (zs.take j).length ≤ zs.length := (List.take_sublist ..).length_le; omega)
        subst ez
        exact upd_same
      · rintro H5 acc
        rw [List.length_map, List.take_length] at acc
        obtain ⟨ps, s5, g5, p5⟩ := acc.at_
        have lp := Paired.length p5
        refine ⟨l, D, _, _, rfl, rfl, s5 _ _ gl, g5, by rw [List.length_map, List.length_map, sizeLine_eq]; omega, fun p np => ?_⟩
        have s6 := Same.upd_new (o := .lst (qs.map V.ref ++ ps.map V.ref)) np
        have S5 := s2.trans s5
        have nH : H p = none := by
          cases q : H p with
          | none => rfl
          | some o => rw [(S1.trans S5) _ _ q] at np; cases np
        exact ⟨S5.trans s6, p, qs ++ ps, _, rfl, nH, by rw [upd_same, List.map_append], paired_two (paired_imp (fun q k h => (s5.trans s6) _ _ h) pk) (paired_imp (fun q k h => s6 _ _ h) p5)⟩
    · rintro σ H2 ⟨s2, l, qs, x2, rfl, nl, gl, pk⟩
      rw [List.length_map, List.take_length, bn] at pk
      exact ⟨_, rfl, k H2 l qs ys (S1.trans s2) nl gl pk pm asc⟩
end
end Half

/-! {k: v for x in xs for y in ys} of any keys that a dict can have -/
namespace L2
open PySem PySem.Spec PyProof.Rows
section
variable (kx vx ta ia tb ib : Expr) (ca cb : List Expr) (sc : Scope) (ps : Pos)
/-- the comprehension -/
abbrev dc2 : Expr := .DictComp kx vx [⟨ta, ia, ca, 0⟩, ⟨tb, ib, cb, 0⟩] sc ps
theorem turn_outD (cur : Value) (D : Addr) (ev : Env) : compTurn (dc2 kx vx ta ia tb ib ca cb sc ps) 0 cur (.ref D) ev = (do
    standAt ia.pos
    match ← pyNext cur with
    | none => pure (.done .next)
    | some got =>
      letOwnedTupleGo ta cur got
      assign ta ev got
      let mut yes := true
      for t in ca do
        if yes then yes ← isTrue t ev (eval t ev)
      if yes then
        let src ← eval ib ev
        standAt ib.pos
        let src ← foldedSetIterable ib ev src
        let _ ← runOwn (.compStart (dc2 kx vx ta ia tb ib ca cb sc ps) 1 (← holding [src] (pyIter src)) (.ref D) ev) ev
      again (.compLoop (dc2 kx vx ta ia tb ib ca cb sc ps) 0 cur (.ref D) ev)) := by rfl
theorem turn_inD (cur : Value) (D : Addr) (ev : Env) : compTurn (dc2 kx vx ta ia tb ib ca cb sc ps) 1 cur (.ref D) ev = (do
    standAt ib.pos
    match ← pyNext cur with
    | none => pure (.done .next)
    | some got =>
      letOwnedTupleGo tb cur got
      assign tb ev got
      let mut yes := true
      for t in cb do
        if yes then yes ← isTrue t ev (eval t ev)
      if yes then
        (do
          let key ← eval kx ev
          let val ← holding [key] (eval vx ev)
          standAt { kx.pos with endLine := vx.pos.endLine, endCol := vx.pos.endCol }
          holding [key, val] (dictSet D key val))
      again (.compLoop (dc2 kx vx ta ia tb ib ca cb sc ps) 1 cur (.ref D) ev)) := by rfl
end
section
variable {prog : Program} {w : World} {A : Around} {R : Result → Shared → Prop} {s : Shared} {kx vx ta ia tb ib : Expr} {ca cb : List Expr} {sc : Scope} {ps : Pos} {cur : Value} {D : Addr} {ev : Env}
/-- what an exception on the way is -/
abbrev Bad2 (prog : Program) (w : World) (A : Around) (ev : Env) (R : Result → Shared → Prop) : Value → Shared → Prop := notedBy (model prog w) A ev fun e z => R (.error e) z
abbrev tests2 (cs : List Expr) (ev : Env) : Sem Bool := forIn cs true fun c r => if r = true then do let ok ← isTrue c ev (eval c ev); pure (ForInStep.yield ok) else pure (ForInStep.yield r)
theorem loop_outD (hs : ∀ x, foldedSetIterable ib ev x = pure x) (I : Nat → Shared → Prop)
    (turn : ∀ n z, I n z → wpAny (model prog w) A (pyNext cur) (fun r z1 => match r with
      | none => R (.ok .next) z1
      | some got => wpAny (model prog w) A (letOwnedTupleGo ta cur got) (fun _ z2 => wpAny (model prog w) A (assign ta ev got) (fun _ z3 => wpAny (model prog w) A (tests2 ca ev) (fun yes z4 =>
          if yes = true then wpAny (model prog w) A (eval ib ev) (fun x z5 => wpAny (model prog w) A (pyIter x) (fun it z6 => codeAny (model prog w) A (.compStart (dc2 kx vx ta ia tb ib ca cb sc ps) 1 it (.ref D) ev) (fun r z7 => match r with
            | .ok _ => ∃ m, m < n ∧ I m z7
            | .error _ => False) z6) (Bad2 prog w A ev R) z5) (Bad2 prog w A ev R) z4
          else ∃ m, m < n ∧ I m z4) (Bad2 prog w A ev R) z3) (Bad2 prog w A ev R) z2) (Bad2 prog w A ev R) z1) (Bad2 prog w A ev R) z)
    (n : Nat) (h : I n s) : codeAny (model prog w) A (.compLoop (dc2 kx vx ta ia tb ib ca cb sc ps) 0 cur (.ref D) ev) R s := by
  refine codeAny_loop rfl I (fun n zz hI => ?_) n h
  show wpAny _ A ((compTurn (dc2 kx vx ta ia tb ib ca cb sc ps) 0 cur (.ref D) ev).onRaise (fun x => do noteFrame x ev; theTreesLotGoes x)) _ _ zz
  refine wpAny_noted ?_
  rw [turn_outD]
  refine wpAny_bind (wpAny_standAt (wpAny_bind (wpAny_mono (turn n zz hI) (fun r z1 h1 => ?_) fun _ _ b => b)))
  cases r with
  | none => exact wpAny_pure h1
  | some got =>
    refine wpAny_bind (wpAny_mono h1 (fun _ z2 h2 => ?_) fun _ _ b => b)
    refine wpAny_bind (wpAny_mono h2 (fun _ z3 h3 => wpAny_bind (wpAny_mono h3 (fun yes z4 h4 => ?_) fun _ _ b => b)) fun _ _ b => b)
    cases yes with
    | false => exact wpAny_pure ⟨rfl, h4⟩
    | true =>
      refine wpAny_bind (wpAny_mono h4 (fun x z5 h5 => ?_) fun _ _ b => b)
      refine wpAny_bind (wpAny_standAt (wpAny_bind (wpAny_of_eq (hs x) (wpAny_bind (wpAny_holding (wpAny_mono h5 (fun it z6 h6 => ?_) fun _ _ b => b))))))
      refine wpAny_bind (wpAny_runOwn ?_)
      rw [Around.mark_none]
      refine codeAny_mono h6 fun r z7 h7 => ?_
      cases r with
      | ok f =>
        first
          | exact wpAny_pure ⟨rfl, h7⟩
          | exact wpAny_bind (wpAny_pure (wpAny_pure ⟨rfl, h7⟩))
      | error e => exact h7.elim
theorem loop_inD (I : Nat → Shared → Prop)
    (turn : ∀ n z, I n z → wpAny (model prog w) A (pyNext cur) (fun r z1 => match r with
      | none => R (.ok .next) z1
      | some got => wpAny (model prog w) A (letOwnedTupleGo tb cur got) (fun _ z2 => wpAny (model prog w) A (assign tb ev got) (fun _ z3 => wpAny (model prog w) A (tests2 cb ev) (fun yes z4 =>
          if yes = true then wpAny (model prog w) A (eval kx ev) (fun key z5 => wpAny (model prog w) A (eval vx ev) (fun val z6 => wpAny (model prog w) A (dictSet D key val) (fun _ z7 => ∃ m, m < n ∧ I m z7) (Bad2 prog w A ev R) z6) (Bad2 prog w A ev R) z5) (Bad2 prog w A ev R) z4
          else ∃ m, m < n ∧ I m z4) (Bad2 prog w A ev R) z3) (Bad2 prog w A ev R) z2) (Bad2 prog w A ev R) z1) (Bad2 prog w A ev R) z)
    (n : Nat) (h : I n s) : codeAny (model prog w) A (.compLoop (dc2 kx vx ta ia tb ib ca cb sc ps) 1 cur (.ref D) ev) R s := by
  refine codeAny_loop rfl I (fun n zz hI => ?_) n h
  show wpAny _ A ((compTurn (dc2 kx vx ta ia tb ib ca cb sc ps) 1 cur (.ref D) ev).onRaise (fun x => do noteFrame x ev; theTreesLotGoes x)) _ _ zz
  refine wpAny_noted ?_
  rw [turn_inD]
  refine wpAny_bind (wpAny_standAt (wpAny_bind (wpAny_mono (turn n zz hI) (fun r z1 h1 => ?_) fun _ _ b => b)))
  cases r with
  | none => exact wpAny_pure h1
  | some got =>
    refine wpAny_bind (wpAny_mono h1 (fun _ z2 h2 => ?_) fun _ _ b => b)
    refine wpAny_bind (wpAny_mono h2 (fun _ z3 h3 => wpAny_bind (wpAny_mono h3 (fun yes z4 h4 => ?_) fun _ _ b => b)) fun _ _ b => b)
    cases yes with
    | false => exact wpAny_pure ⟨rfl, h4⟩
    | true =>
      exact wpAny_bind (wpAny_bind (wpAny_mono h4 (fun key z5 h5 => wpAny_bind (wpAny_holding (wpAny_mono h5 (fun val z6 h6 => wpAny_bind (wpAny_standAt (wpAny_holding (wpAny_mono h6 (fun _ z7 h7 => wpAny_pure ⟨rfl, h7⟩) fun _ _ b => b)))) fun _ _ b => b))) fun _ _ b => b))
theorem start_inD (h0 : codeAny (model prog w) A (.compLoop (dc2 kx vx ta ia tb ib ca cb sc ps) 1 cur (.ref D) ev) R s)
    (h : wpAny (model prog w) A (pyIter cur) (fun it z => codeAny (model prog w) A (.compLoop (dc2 kx vx ta ia tb ib ca cb sc ps) 1 it (.ref D) ev) R z) (Bad2 prog w A ev R) s) :
    codeAny (model prog w) A (.compStart (dc2 kx vx ta ia tb ib ca cb sc ps) 1 cur (.ref D) ev) R s := by
  refine codeAny_of_tree ?_
  show wpAny _ _ ((compStart (dc2 kx vx ta ia tb ib ca cb sc ps) 1 cur (.ref D) ev).onRaise (fun x => do noteFrame x ev; standAt theWindowsPlace)) _ _ s
  refine wpAny_notedAt ?_
  unfold compStart
  have fin0 := h0
  show wpAny _ _ (ask >>= _) _ _ s
  refine wpAny_bind (wpAny_askSetting (wpAny_ite ?_))
  split
  · first
      | exact wpAny_pure (And.intro rfl fin0)
      | exact wpAny_bind (wpAny_pure (wpAny_pure (And.intro rfl fin0)))
  · first
      | exact wpAny_bind (wpAny_rule (wpAny_bind (wpAny_standAt (wpAny_bind (wpAny_mono h (fun it z b => wpAny_pure (And.intro rfl b)) fun _ _ x => x)))))
      | (refine wpAny_bind (wpAny_rule ?_); show wpAny _ _ (standAt ib.pos >>= _) _ _ s; exact wpAny_bind (wpAny_standAt (wpAny_bind (wpAny_mono h (fun it z b => wpAny_pure (And.intro rfl b)) fun _ _ x => x))))
end
section
variable {X : Cx}
def tDc2 (o : HO) (wi : TI) (g : TG) (tt : TT) (wi1 : TI) (g1 : TG) (tt1 : TT) (tk tv : TE) (vs vs1 : List Nat) : TE := fun σ H Q => wi σ H fun J H1 => ∀ D, H1 D = none → ∃ Rk : Nat → Nat → Hp → Prop, (∃ m, Rk 0 m (upd H1 D o)) ∧ ∀ i m H, Rk i m H →
  (J.stop i H ∧ Q (.ref D) H) ∨ (J.go i H ∧ ∃ Go : Hp → Prop, (∀ H', Go H' → ∃ m', m' < m ∧ Rk (i + 1) m' H') ∧ ∀ x H', J.yld i H x H' → g x (wipe σ vs) H' fun σ2 H2 => wipe σ2 vs = wipe σ vs ∧ tt σ2 H2 fun b H3 =>
    if b = true then wi1 σ2 H3 fun J1 H4 => ∃ Rk1 : Nat → Nat → Hp → Prop, (∃ m, Rk1 0 m H4) ∧ ∀ j k H, Rk1 j k H →
      (J1.stop j H ∧ Go H) ∨ (J1.go j H ∧ ∃ Go1 : Hp → Prop, (∀ H', Go1 H' → ∃ k', k' < k ∧ Rk1 (j + 1) k' H') ∧ ∀ x H', J1.yld j H x H' → g1 x (wipe σ2 vs1) H' fun σ3 H5 => wipe σ3 vs1 = wipe σ2 vs1 ∧ tt1 σ3 H5 fun b H6 =>
        if b = true then tk σ3 H6 fun y H7 => tv σ3 H7 fun z H8 => ∃ H9, DPut H8 D y z H9 ∧ Go1 H9 else Go1 H6)
    else Go H3)
theorem dc2_core {pn : List (Addr × Obj)} {s : Shared} {σ : St} {H : Hp} {Q : VK} {pos' : Pos} {use : Option (Value → Sem Unit)} {Qf : Value → Shared → Prop} {o : HO} {kx vx ta ia tb ib : Expr} {ca cb : List Expr} {scope : Scope} {own : List (Str × Nat)} {vs1 : List Nat} {pos : Pos} {wi wi1 : TI} {g g1 : TG} {tt tt1 : TT} {tk tv : TE} (I : Inv X pn σ H s) (bo : Bare o) (hu : X.A.units + 1 < cLine) (hc : X.calm = true) (hN : X.N.Nodup) (hi : PI X ta ia wi) (ok : BlkOk X.N X.env.scope scope own) (hv : ∀ i ∈ vs1, i ∈ own.map (·.2))
    (hg : InBlk X scope fun B => PG B ta g) (ht : InBlk X scope fun B => PTs B ca tt) (hi1 : InBlk X scope fun B => PI B tb ib wi1) (hg1 : InBlk X scope fun B => PG B tb g1) (ht1 : InBlk X scope fun B => PTs B cb tt1) (hk : InBlk X scope fun B => PE B kx tk) (he : InBlk X scope fun B => PE B vx tv)
    (hs : ∀ x, foldedSetIterable ia X.env x = pure x) (hs1 : ∀ ev x, foldedSetIterable ib ev x = pure x)
    (h : tDc2 o wi g tt wi1 g1 tt1 tk tv (own.map (·.2)) vs1 σ H Q) (hRR : ∀ D C s' m H', Inv X pn σ H' s' → Q (.ref D) H' → s'.heap.Ns C m → FpOk X pn H' C → compPost (model X.prog X.w) X.A X.xe use Qf (.ref D) C (.ok .next) s') :
    wpAny (model X.prog X.w) X.A (comprehension (dc2 kx vx ta ia tb ib ca cb scope pos) scope X.env pos' newDict false (eval ia X.env) use) Qf X.xe s := by
  have fre : ∀ y ∈ scope.names, y.2 = .free → ∃ c, X.env.cells.lookup y.1 = some c := fun y hy e => (ok.free y hy e).elim (fun k => I.ok.has _ (.inl k)) fun k => I.ok.has _ (.inr k)
  refine wpAny_comprehension_free (use := use) rfl hs (closure_ok fre) ok.kind (fun y hy e => by rw [ok.uniq y hy, e]) (thn (hi.run pn s σ H _ I h) fun xv sh1 hxx => thn hxx fun itv sh2 h2 => ?_)
  obtain ⟨it, fp, tn, J, hp2, rfl, iv2, T, st2, f2, q⟩ := h2
  refine wpAny_newObj_type (newEnv_comp ?_)
  generalize hD : sh2.heap.objs.size = D
  have neu : hp2 D = none := iv2.hok.fresh (Nat.le_of_eq hD)
  obtain ⟨W, ⟨m0, w0⟩, turn⟩ := q D neu
  generalize es3 : ({ sh2 with heap := sh2.heap.push { cls := .type "dict", data := .dict #[] } } : Shared) = sh3
  have h3 : sh3.heap = sh2.heap.push { cls := .type "dict", data := .dict #[] } := by rw [← es3]
  have iv3 : Inv X pn σ (upd hp2 D o) sh3 := by
    rw [← es3]
    refine iv2.laid (t' := sh2.toks) (fun b u e => Heap.get?_push_of_some _ e) (Nat.le_of_eq hD) ?_
    rw [← hD]
    exact bare_ok bo sh2.heap iv2.big
  have low : ∀ b ∈ fp, b < sh2.heap.objs.size := fun b hb => by
    obtain ⟨u, e, _⟩ := T.obj _ _ st2 b hb
    exact Heap.lt_size e
  have f3 : ∀ b ∈ fp, FpOk X pn (upd hp2 D o) b ∧ b < sh3.heap.objs.size := fun b hb => by
    refine ⟨⟨?_, (f2 b hb).2⟩, by rw [h3, Heap.size_push]; exact Nat.lt_succ_of_lt (low b hb)⟩
    rw [upd_ne (by rw [← hD]; exact Nat.ne_of_lt (low b hb))]
    exact (f2 b hb).1
  have st3 : tn 0 sh3.heap := T.keep _ _ _ st2 fun b _ u e => by rw [h3]; exact Heap.get?_push_of_some _ e
  have iv4 := block_start iv3 ok hN f3
  have pg := hg sh3 (upd hp2 D o) sh3.heap.objs.size (cellsFrom (sh3.heap.objs.size + 1) scope.names (cloFrom X.env.cells scope.names [])) fp
  have pt := ht sh3 (upd hp2 D o) sh3.heap.objs.size (cellsFrom (sh3.heap.objs.size + 1) scope.names (cloFrom X.env.cells scope.names [])) fp
  have pi1 := hi1 sh3 (upd hp2 D o) sh3.heap.objs.size (cellsFrom (sh3.heap.objs.size + 1) scope.names (cloFrom X.env.cells scope.names [])) fp
  have pg1 := hg1 sh3 (upd hp2 D o) sh3.heap.objs.size (cellsFrom (sh3.heap.objs.size + 1) scope.names (cloFrom X.env.cells scope.names [])) fp
  have pt1 := ht1 sh3 (upd hp2 D o) sh3.heap.objs.size (cellsFrom (sh3.heap.objs.size + 1) scope.names (cloFrom X.env.cells scope.names [])) fp
  have pk := hk sh3 (upd hp2 D o) sh3.heap.objs.size (cellsFrom (sh3.heap.objs.size + 1) scope.names (cloFrom X.env.cells scope.names [])) fp
  have pe := he sh3 (upd hp2 D o) sh3.heap.objs.size (cellsFrom (sh3.heap.objs.size + 1) scope.names (cloFrom X.env.cells scope.names [])) fp
  have nfp : ∀ b ∈ fp, (upd hp2 D o) b = none := fun b hb => (f3 b hb).1.1
  show codeAny _ _ (.compStart (dc2 kx vx ta ia tb ib ca cb scope pos) 0 (.ref it) (.ref D) (compEnvC scope (cellsFrom (sh3.heap.objs.size + 1) scope.names (cloFrom X.env.cells scope.names [])) sh3.heap.objs.size X.env)) (compPost (model X.prog X.w) X.A X.xe use Qf (.ref D) sh3.heap.objs.size) { sh3 with heap := pushCells (sh3.heap.push { cls := .type "dict", data := .dict #[] }) scope.names }
  generalize ece : compEnvC scope (cellsFrom (sh3.heap.objs.size + 1) scope.names (cloFrom X.env.cells scope.names [])) sh3.heap.objs.size X.env = ce at iv4 pg pt pk pe pi1 pg1 pt1 ⊢
  have loc : ce.locals = sh3.heap.objs.size := by subst ece; rfl
  generalize upd hp2 D o = hp3 at iv3 iv4 pg pt pk pe pi1 pg1 pt1 w0 nfp f3
  generalize es4 : ({ sh3 with heap := pushCells (sh3.heap.push { cls := .type "dict", data := .dict #[] }) scope.names } : Shared) = sh4 at iv4 ⊢
  have st4 : tn 0 sh4.heap := T.keep _ _ _ st3 fun b _ u e => by rw [← es4]; exact pushCells_keeps _ _ _ _ (Heap.get?_push_of_some _ e)
  have quiet : ∀ {σ' : St} {H' : Hp} {z : Shared}, Inv (X.blk sh3 hp3 scope ce fp) [] σ' H' z → (∀ b ∈ fp, H' b = none) → ∀ b ∈ fp, FpOk (X.blk sh3 hp3 scope ce fp) [] H' b := fun {σ' H' z} I' hn b hb =>
    ⟨hn b hb, (I'.ok.exf b hb).1, I'.ok.exfs b hb, .inl hb, fun x c e => (I'.ok.exf b hb).2 x c e, fun p hp => absurd (show p ∈ ([] : List (Addr × Obj)) ++ [] from hp) (by simp)⟩
  have lp0 : codeAny (model X.prog X.w) X.A (.compLoop (dc2 kx vx ta ia tb ib ca cb scope pos) 0 (.ref it) (.ref D) ce) (compPost (model X.prog X.w) X.A X.xe use Qf (.ref D) sh3.heap.objs.size) sh4 := by
    refine loop_outD (hs1 ce) (fun n z => ∃ i H', Inv (X.blk sh3 hp3 scope ce fp) [] (wipe σ (own.map (·.2))) H' z ∧ tn i z.heap ∧ (∀ b ∈ fp, H' b = none) ∧ W i n H') ?_ m0 ⟨0, hp3, iv4, st4, nfp, w0⟩
    rintro n sh5 ⟨i, hp5, iv5, st5, n5, w5⟩
    rcases turn i n hp5 w5 with ⟨halt, qq⟩ | ⟨go, Nx, nxt, step⟩
    · refine thnF (T.done (X.blk sh3 hp3 scope ce fp) rfl rfl rfl hc i [] sh5 _ hp5 (fun _ _ => False) iv5 (quiet iv5 n5) st5 halt) fun r sh6 ⟨hr, iv6⟩ => ?_
      subst hr
      have iv7 : Inv X pn σ hp5 sh6 := iv3.call' (ch := fp) iv6.os iv6.base iv6.hok iv6.bare fun b hb => ⟨(f3 b hb).1.2.2.2.1, (f3 b hb).1.2.1, (f3 b hb).1.2.2.2.2.1, (f3 b hb).1.2.2.2.2.2⟩
      have nC : hp5 sh3.heap.objs.size = none := by
        have z : hp5 ce.locals = none := iv6.free
        rwa [loc] at z
      obtain ⟨m, hn, _⟩ := iv6.loc
      have hn : sh6.heap.Ns ce.locals m := hn
      rw [loc] at hn
      exact hRR D sh3.heap.objs.size sh6 m hp5 iv7 qq hn (iv3.fpOk (Nat.le_refl _) nC)
    · refine thnF (T.item (X.blk sh3 hp3 scope ce fp) rfl rfl rfl hc i [] sh5 _ hp5 (fun _ _ => False) iv5 (quiet iv5 n5) st5 go) fun r sh6 ⟨u, hr, h6⟩ => ?_
      subst hr
      refine thnF h6 fun _ sh7 ⟨x, hp7, iv7, r7, y7, st7, n7⟩ => ?_
      refine thnF (pg.run _ sh7 _ hp7 x u _ (iv7.pinned (quiet iv7 n7) (T.obj _ _ st7)) r7 (step x hp7 y7)) fun _ sh8 ⟨σs8, hp8, iv8, wp8, rd8⟩ => ?_
      refine thnF (pt.run _ sh8 σs8 hp8 _ iv8 rd8) fun b sh9 ⟨hp9, iv9, rd9⟩ => ?_
      have fin : ∀ {σs9 : St} {z : Shared} {H' : Hp}, Inv (X.blk sh3 hp3 scope ce fp) ([] ++ pinsAt fp sh7.heap) σs9 H' z → (wipe σ (own.map (·.2))).length = σs9.length → (∀ (j : Nat) v, (wipe σ (own.map (·.2)))[j]? = some (some v) → σs9[j]? = some (some v)) → Nx H' →
          ∃ m, m < n ∧ ∃ i H', Inv (X.blk sh3 hp3 scope ce fp) [] (wipe σ (own.map (·.2))) H' z ∧ tn i z.heap ∧ (∀ b ∈ fp, H' b = none) ∧ W i m H' := fun {σs9 z H'} I' hl hk' nx => by
        obtain ⟨mm, hm, w'⟩ := nxt H' nx
        have pinz : ∀ b ∈ fp, ∀ u, sh7.heap.get? b = some u → z.heap.get? b = some u ∧ H' b = none := fun b hb u e =>
          let k := I'.pin (b, u) (List.mem_append_right _ (List.mem_append_right _ (mem_pinsAt hb e)))
          ⟨k.1, k.2.1⟩
        refine ⟨mm, hm, i + 1, H', (I'.unpinned (pins := [])).weak hl hk', T.keep _ _ _ st7 fun b hb u e => (pinz b hb u e).1, fun b hb => ?_, w'⟩
        obtain ⟨u, e, _⟩ := T.obj _ _ st7 b hb
        exact (pinz b hb u e).2
      have l8 : (wipe σ (own.map (·.2))).length = σs8.length := by rw [← wp8, wipe_length]
      have k8 : ∀ (j : Nat) v, (wipe σ (own.map (·.2)))[j]? = some (some v) → σs8[j]? = some (some v) := fun j v e => by
        rw [← wp8] at e
        exact (wipe_some e).1
      have k9 : ∀ (j : Nat) v, (wipe σ (own.map (·.2)))[j]? = some (some v) → (wipe σs8 vs1)[j]? = some (some v) := fun j v e => by
        rw [← wp8] at e
        obtain ⟨ea, eb⟩ := wipe_some e
        rw [wipe_out fun z => eb (hv j z)]
        exact ea
      cases b with
      | false =>
        simp only [Bool.false_eq_true, if_false] at rd9 ⊢
        exact fin iv9 l8 k8 rd9
      | true =>
        simp only [if_true] at rd9 ⊢
        refine thnF (pi1.run _ sh9 σs8 hp9 _ iv9 rd9) fun xv sh10 hxx => thnF hxx fun itv sh11 h11 => ?_
        obtain ⟨it1, fp1, tn1, J1, hp11, rfl, iv11, T1, st11, f11, W1, ⟨m1, w1⟩, turn1⟩ := h11
        -- the second clause
        have quiet1 : ∀ {H' : Hp}, (∀ b ∈ fp1, H' b = none) → ∀ b ∈ fp1, FpOk (X.blk sh3 hp3 scope ce fp) ([] ++ pinsAt fp sh7.heap) H' b := fun hn b hb => ⟨hn b hb, (f11 b hb).2⟩
        have lp1 : codeAny (model X.prog X.w) X.A (.compLoop (dc2 kx vx ta ia tb ib ca cb scope pos) 1 (.ref it1) (.ref D) ce)
            (fun r z => match r with
              | .ok _ => ∃ m, m < n ∧ ∃ i H', Inv (X.blk sh3 hp3 scope ce fp) [] (wipe σ (own.map (·.2))) H' z ∧ tn i z.heap ∧ (∀ b ∈ fp, H' b = none) ∧ W i m H'
              | .error _ => False) sh11 := by
          refine loop_inD (fun k z => ∃ j H', Inv (X.blk sh3 hp3 scope ce fp) ([] ++ pinsAt fp sh7.heap) (wipe σs8 vs1) H' z ∧ tn1 j z.heap ∧ (∀ b ∈ fp1, H' b = none) ∧ W1 j k H') ?_ m1 ⟨0, hp11, iv11.weak (wipe_length _ _) (fun j v e => (wipe_some e).1), st11, fun b hb => (f11 b hb).1, w1⟩
          rintro k sh12 ⟨j, hp12, iv12, st12, n12, w12⟩
          rcases turn1 j k hp12 w12 with ⟨halt1, nx1⟩ | ⟨go1, Nx1, nxt1, step1⟩
          · refine thnF (T1.done (X.blk sh3 hp3 scope ce fp) rfl rfl rfl hc j _ sh12 (wipe σs8 vs1) hp12 (fun _ _ => False) iv12 (quiet1 n12) st12 halt1) fun r sh13 ⟨hr, iv13⟩ => ?_
            subst hr
            exact fin iv13 (l8.trans (wipe_length σs8 vs1).symm) k9 nx1
          · refine thnF (T1.item (X.blk sh3 hp3 scope ce fp) rfl rfl rfl hc j _ sh12 (wipe σs8 vs1) hp12 (fun _ _ => False) iv12 (quiet1 n12) st12 go1) fun r sh13 ⟨u1, hr, h13⟩ => ?_
            subst hr
            refine thnF h13 fun _ sh14 ⟨x1, hp14, iv14, r14, y14, st14, n14⟩ => ?_
            refine thnF (pg1.run _ sh14 (wipe σs8 vs1) hp14 x1 u1 _ (iv14.pinned (quiet1 n14) (T1.obj _ _ st14)) r14 (step1 x1 hp14 y14)) fun _ sh15 ⟨σs15, hp15, iv15, wp15, rd15⟩ => ?_
            refine thnF (pt1.run _ sh15 σs15 hp15 _ iv15 rd15) fun b1 sh16 ⟨hp16, iv16, rd16⟩ => ?_
            have fin1 : ∀ {z : Shared} {H' : Hp}, Inv (X.blk sh3 hp3 scope ce fp) (([] ++ pinsAt fp sh7.heap) ++ pinsAt fp1 sh14.heap) σs15 H' z → Nx1 H' → ∃ m, m < k ∧ ∃ j H', Inv (X.blk sh3 hp3 scope ce fp) ([] ++ pinsAt fp sh7.heap) (wipe σs8 vs1) H' z ∧ tn1 j z.heap ∧ (∀ b ∈ fp1, H' b = none) ∧ W1 j m H' := fun {z H'} I' nx => by
              obtain ⟨mm, hm, w'⟩ := nxt1 H' nx
              have pinz : ∀ b ∈ fp1, ∀ u, sh14.heap.get? b = some u → z.heap.get? b = some u ∧ H' b = none := fun b hb u e =>
                let k := I'.pin (b, u) (List.mem_append_right _ (List.mem_append_right _ (mem_pinsAt hb e)))
                ⟨k.1, k.2.1⟩
              refine ⟨mm, hm, j + 1, H', I'.unpinned.weak (by rw [← wp15, wipe_length]) (fun j v e => by rw [← wp15] at e; exact (wipe_some e).1), T1.keep _ _ _ st14 fun b hb u e => (pinz b hb u e).1, fun b hb => ?_, w'⟩
              obtain ⟨u, e, _⟩ := T1.obj _ _ st14 b hb
              exact (pinz b hb u e).2
            cases b1 with
            | false =>
              simp only [Bool.false_eq_true, if_false] at rd16 ⊢
              exact fin1 iv16 rd16
            | true =>
              simp only [if_true] at rd16 ⊢
              refine thnF (pk.run _ sh16 σs15 hp16 _ iv16 rd16) fun z sh17 ⟨yk, hp17, iv17, r17, rd17⟩ => ?_
              refine thnF (pe.run _ sh17 σs15 hp17 _ iv17 rd17) fun z2 sh18 ⟨yv, hp18, iv18, r18, hp19, put, nx⟩ => ?_
              exact dput_any (X := X.blk sh3 hp3 scope ce fp) hu iv18 put r17 r18 fun sh19 iv19 => fin1 iv19 nx
        exact start_inD lp1 (T1.self X.A 0 _ _ _ st11 lp1)
  exact codeAny_compStart_dict lp0 (T.self X.A 0 _ _ _ st4 lp0)
theorem pe_dc2 {o : HO} {kx vx ta ia tb ib : Expr} {ca cb : List Expr} {scope : Scope} {own : List (Str × Nat)} {vs1 : List Nat} {pos : Pos} {wi wi1 : TI} {g g1 : TG} {tt tt1 : TT} {tk tv : TE} (bo : Bare o) (hu : X.A.units + 1 < cLine) (hc : X.calm = true) (hN : X.N.Nodup) (hi : PI X ta ia wi) (ok : BlkOk X.N X.env.scope scope own) (hv : ∀ i ∈ vs1, i ∈ own.map (·.2))
    (hg : InBlk X scope fun B => PG B ta g) (ht : InBlk X scope fun B => PTs B ca tt) (hi1 : InBlk X scope fun B => PI B tb ib wi1) (hg1 : InBlk X scope fun B => PG B tb g1) (ht1 : InBlk X scope fun B => PTs B cb tt1) (hk : InBlk X scope fun B => PE B kx tk) (he : InBlk X scope fun B => PE B vx tv)
    (hs : ∀ x, foldedSetIterable ia X.env x = pure x := by intro _; rfl) (hs1 : ∀ ev x, foldedSetIterable ib ev x = pure x := by intro _ _; rfl) :
    PE X (dc2 kx vx ta ia tb ib ca cb scope pos) (tDc2 o wi g tt wi1 g1 tt1 tk tv (own.map (·.2)) vs1) := by
  refine ⟨fun pn s σ H Q I h => ?_⟩
  rw [arm_eval_DictComp]
  refine dc2_core I bo hu hc hN hi ok hv hg ht hi1 hg1 ht1 hk he hs hs1 h fun D C s' m H' I' q hn f => ⟨m, hn, fun hh sb => ?_⟩
  obtain ⟨f0, f1, f2, f3, f4, f5⟩ := f
  exact ⟨.ref D, H', I'.turned (t' := s'.toks) (fun b u hb e => (sb.2 b hb).trans e) f0 f1 f3 f4 f5, rfl, q⟩
/-- name = {.. for .. for ..} on one line -/
theorem sw_dict {kx vx : Expr} {gs : List Comprehension} {scope : Scope} {pos py : Pos} {y : Str} {l : Nat} {env : Env} (hk : env.scope.kind = .function) (hy : env.scope.names.lookup y = some .local) (hl : (py.line == pos.line) = true)
    (ha : (scope.names.any fun (n, k) => n == y && (k == .local || k == .cell)) = false) : swapsWith (.DictComp kx vx gs scope pos) (some (.Name y py)) l env = pure true := by
  have k1 : env.kindOf y = some .local := hy
  have k2 : env.blockKind = .function := by unfold Env.blockKind; rw [hk]; rfl
  unfold swapsWith
  simp only [k2, k1, ha, Expr.pos, hl]
  rfl
theorem ps_setDc2 {i : Nat} {y : Str} {py spos : Pos} {o : HO} {kx vx ta ia tb ib : Expr} {ca cb : List Expr} {scope : Scope} {own : List (Str × Nat)} {vs1 : List Nat} {pos : Pos} {wi wi1 : TI} {g g1 : TG} {tt tt1 : TT} {tk tv : TE} (hy : X.N[i]? = some y) (hyl : X.env.scope.names.lookup y = some .local) (hsw : swapsWith (dc2 kx vx ta ia tb ib ca cb scope pos) (some (.Name y py)) spos.line X.env = pure true) (bo : Bare o) (hu : X.A.units + 1 < cLine) (hc : X.calm = true) (hN : X.N.Nodup) (hi : PI X ta ia wi) (ok : BlkOk X.N X.env.scope scope own) (hv : ∀ i ∈ vs1, i ∈ own.map (·.2))
    (hg : InBlk X scope fun B => PG B ta g) (ht : InBlk X scope fun B => PTs B ca tt) (hi1 : InBlk X scope fun B => PI B tb ib wi1) (hg1 : InBlk X scope fun B => PG B tb g1) (ht1 : InBlk X scope fun B => PTs B cb tt1) (hk : InBlk X scope fun B => PE B kx tk) (he : InBlk X scope fun B => PE B vx tv)
    (hs : ∀ x, foldedSetIterable ia X.env x = pure x := by intro _; rfl) (hs1 : ∀ ev x, foldedSetIterable ib ev x = pure x := by intro _ _; rfl) :
    PS X (.Assign [.Name y py] (dc2 kx vx ta ia tb ib ca cb scope pos) spos) (tAsg (tDc2 o wi g tt wi1 g1 tt1 tk tv (own.map (·.2)) vs1) (gName i)) := by
  refine ⟨fun pn s σ H E I h => ?_⟩
  rw [exec_Assign_Name_used _ _ _ _ hsw]
  refine wpAny_bind (wpAny_standAt (wpAny_bind ?_))
  show wpAny _ X.A (do let _ ← comprehension (dc2 kx vx ta ia tb ib ca cb scope pos) scope X.env (firstIterPos [⟨ta, ia, ca, 0⟩, ⟨tb, ib, cb, 0⟩] pos) newDict false (eval ia X.env) (some (assign (.Name y py) X.env))) _ _ s
  have h : tDc2 o wi g tt wi1 g1 tt1 tk tv (own.map (·.2)) vs1 σ H (fun x hp1 => gName i x σ hp1 E.nx) := h
  refine wpAny_bind (thn (dc2_core (Qf := fun _ z => SP X pn E .next z) I bo hu hc hN hi ok hv hg ht hi1 hg1 ht1 hk he hs hs1 h fun L C s' m H' I' q hn f => ?_) fun _ s' hq => wpAny_pure (wpAny_pure hq))
  show wpAny _ _ (assign (.Name y py) X.env (.ref L)) _ _ _
  refine wpAny_assign_Name (store_ok2 (v := V.ref L) I' hN hy (.inl hyl) rfl (fun sh2 iv2 ⟨a, sb, ha⟩ => ?_) (.inr hyl))
  obtain ⟨f0, f1, f2, f3, f4, f5⟩ := f
  have apart : C ≠ a := by
    rcases ha with z | z
    · rw [z]; exact f1
    · exact fun e => f4 y a z e.symm
  refine ⟨m, hn.sameBut sb apart, fun h3 sb3 => ?_⟩
  exact ⟨_, H', iv2.turned (t' := sh2.toks) (fun b u hb e => (sb3.2 b hb).trans e) f0 f1 f3 f4 f5, q⟩
/-- the second clause's turns -/
theorem dc2_in {J1 : It} {n1 : Nat} {G1 : Hp → Prop} {Y1 : Nat → Hp → V → Hp → Prop} (w1 : Walk J1 n1 G1 Y1) {g1 : TG} {tt1 : TT} {tk tv : TE} {vs1 : List Nat} {σ2 : St} {H4 : Hp} {D : Addr} {Go : Hp → Prop} (Pv : Nat → Hp → Prop) (h0 : Pv 0 H4) (hG : ∀ i H, i ≤ n1 → Pv i H → G1 H)
    (hs : ∀ i x H H', i < n1 → Pv i H → Y1 i H x H' → g1 x (wipe σ2 vs1) H' fun σ3 H5 => wipe σ3 vs1 = wipe σ2 vs1 ∧ tt1 σ3 H5 fun b H6 =>
      if b = true then tk σ3 H6 fun y H7 => tv σ3 H7 fun z H8 => ∃ H9, DPut H8 D y z H9 ∧ Pv (i + 1) H9 else Pv (i + 1) H6) (hd : ∀ H, Pv n1 H → Go H) :
    ∃ Rk1 : Nat → Nat → Hp → Prop, (∃ m, Rk1 0 m H4) ∧ ∀ j k H, Rk1 j k H →
      (J1.stop j H ∧ Go H) ∨ (J1.go j H ∧ ∃ Go1 : Hp → Prop, (∀ H', Go1 H' → ∃ k', k' < k ∧ Rk1 (j + 1) k' H') ∧ ∀ x H', J1.yld j H x H' → g1 x (wipe σ2 vs1) H' fun σ3 H5 => wipe σ3 vs1 = wipe σ2 vs1 ∧ tt1 σ3 H5 fun b H6 =>
        if b = true then tk σ3 H6 fun y H7 => tv σ3 H7 fun z H8 => ∃ H9, DPut H8 D y z H9 ∧ Go1 H9 else Go1 H6) := by
  refine ⟨fun j k H => k = n1 - j ∧ j ≤ n1 ∧ Pv j H, ⟨n1, by omega, Nat.zero_le _, h0⟩, fun j k H hW => ?_⟩
  obtain ⟨rfl, le, p⟩ := hW
  rcases Nat.lt_or_ge j n1 with lt | ge
  · exact .inr ⟨w1.goes j H lt (hG j H le p), Pv (j + 1), fun H' p' => ⟨n1 - (j + 1), by omega, rfl, lt, p'⟩, fun x H' y => hs j x H H' lt p (w1.yields j H x H' lt (hG j H le p) y)⟩
  · obtain rfl : j = n1 := Nat.le_antisymm le ge
    exact .inl ⟨w1.stops H (hG j H le p), hd H p⟩
/-- the first clause's turns -/
theorem dc2_it {J : It} {n : Nat} {G : Hp → Prop} {Y : Nat → Hp → V → Hp → Prop} (w : Walk J n G Y) {o : HO} {g g1 : TG} {tt tt1 : TT} {wi1 : TI} {tk tv : TE} {vs vs1 : List Nat} {σ : St} {H1 : Hp} {D : Addr} {Qd : Hp → Prop} (Pv : Nat → Hp → Prop) (h0 : Pv 0 (upd H1 D o)) (hG : ∀ i H, i ≤ n → Pv i H → G H)
    (hs : ∀ i x H H', i < n → Pv i H → Y i H x H' → g x (wipe σ vs) H' fun σ2 H2 => wipe σ2 vs = wipe σ vs ∧ tt σ2 H2 fun b H3 =>
      if b = true then wi1 σ2 H3 fun J1 H4 => ∃ Rk1 : Nat → Nat → Hp → Prop, (∃ m, Rk1 0 m H4) ∧ ∀ j k H, Rk1 j k H →
        (J1.stop j H ∧ Pv (i + 1) H) ∨ (J1.go j H ∧ ∃ Go1 : Hp → Prop, (∀ H', Go1 H' → ∃ k', k' < k ∧ Rk1 (j + 1) k' H') ∧ ∀ x H', J1.yld j H x H' → g1 x (wipe σ2 vs1) H' fun σ3 H5 => wipe σ3 vs1 = wipe σ2 vs1 ∧ tt1 σ3 H5 fun b H6 =>
          if b = true then tk σ3 H6 fun y H7 => tv σ3 H7 fun z H8 => ∃ H9, DPut H8 D y z H9 ∧ Go1 H9 else Go1 H6)
      else Pv (i + 1) H3) (hd : ∀ H, Pv n H → Qd H) :
    ∃ Rk : Nat → Nat → Hp → Prop, (∃ m, Rk 0 m (upd H1 D o)) ∧ ∀ i m H, Rk i m H →
      (J.stop i H ∧ Qd H) ∨ (J.go i H ∧ ∃ Go : Hp → Prop, (∀ H', Go H' → ∃ m', m' < m ∧ Rk (i + 1) m' H') ∧ ∀ x H', J.yld i H x H' → g x (wipe σ vs) H' fun σ2 H2 => wipe σ2 vs = wipe σ vs ∧ tt σ2 H2 fun b H3 =>
        if b = true then wi1 σ2 H3 fun J1 H4 => ∃ Rk1 : Nat → Nat → Hp → Prop, (∃ m, Rk1 0 m H4) ∧ ∀ j k H, Rk1 j k H →
          (J1.stop j H ∧ Go H) ∨ (J1.go j H ∧ ∃ Go1 : Hp → Prop, (∀ H', Go1 H' → ∃ k', k' < k ∧ Rk1 (j + 1) k' H') ∧ ∀ x H', J1.yld j H x H' → g1 x (wipe σ2 vs1) H' fun σ3 H5 => wipe σ3 vs1 = wipe σ2 vs1 ∧ tt1 σ3 H5 fun b H6 =>
            if b = true then tk σ3 H6 fun y H7 => tv σ3 H7 fun z H8 => ∃ H9, DPut H8 D y z H9 ∧ Go1 H9 else Go1 H6)
        else Go H3) := by
  refine ⟨fun i m H => m = n - i ∧ i ≤ n ∧ Pv i H, ⟨n, by omega, Nat.zero_le _, h0⟩, fun i m H hW => ?_⟩
  obtain ⟨rfl, le, p⟩ := hW
  rcases Nat.lt_or_ge i n with lt | ge
  · exact .inr ⟨w.goes i H lt (hG i H le p), Pv (i + 1), fun H' p' => ⟨n - (i + 1), by omega, rfl, lt, p'⟩, fun x H' y => hs i x H H' lt p (w.yields i H x H' lt (hG i H le p) y)⟩
  · obtain rfl : i = n := Nat.le_antisymm le ge
    exact .inl ⟨w.stops H (hG i H le p), hd H p⟩
end
end L2

/-! dicts whose keys are texts: d.update(d2), sorted(d) -/
namespace L2
open PySem PySem.Spec PyProof.Rows PySem.Froz
/-- what a dict becomes by another -/
def mergeV (kvs more : List (Key × V)) : List (Key × V) := more.foldl (fun a p => putK a p.1 p.2) kvs
theorem kv_merge : ∀ {more : List (Key × V)} {mv : List (Key × Value)} {kvs : List (Key × V)} {vs : List (Key × Value)}, KV kvs vs → KV more mv → KV (mergeV kvs more) (merged vs mv)
  | _, _, _, _, r, .nil => r
  | (k, v) :: more, (k', u) :: mv, kvs, vs, r, .cons h t => by
    obtain ⟨e, rv⟩ := h
    cases (show k = k' from e)
    exact kv_merge (more := more) (mv := mv) (r.put k rv) t
theorem merge_len : ∀ (more kvs : List (Key × V)), (mergeV kvs more).length ≤ kvs.length + more.length
  | [], kvs => Nat.le_refl _
  | p :: more, kvs => by
    have h := merge_len more (putK kvs p.1 p.2)
    have := length_putK kvs p.1 p.2
    show (mergeV (putK kvs p.1 p.2) more).length ≤ _
    rw [List.length_cons]
    omega
section
variable {X : Cx}
def rUpdK : V → List V → Hp → VK → Prop := fun x vs H Q => ∃ (d b : Addr) (kvs more : List (Key × V)), x = .ref d ∧ vs = [.ref b] ∧ d ≠ b ∧ H d = some (.dK kvs) ∧ H b = some (.dK more) ∧ kvs.length + more.length ≤ sizeLine ∧ Q .non (upd H d (.dK (mergeV kvs more)))
theorem mt_updK : MtR X "dict.update" rUpdK := by
  intro pins s σ H x vs v us Q I rx rv h
  obtain ⟨d, b, kvs, more, rfl, rfl, ne, hd, hb, hz, q⟩ := h
  cases rx
  obtain ⟨u, rfl, ru⟩ := rv.one
  cases ru
  obtain ⟨z1, n1, v1, r1, d1⟩ := dk_of I.hok hd
  obtain ⟨z2, n2, v2, r2, d2⟩ := dk_of I.hok hb
  have l1 := r1.length
  have l2 := r2.length
  refine call_meetsIn PySem.F.slot_dict_update d1.typeIs PySem.F.entry_dict_update (PySem.F.args_dict_update_2 _ _) (meets_dict_update (mixKind X.prog X.w) d b ne n2) ⟨v1, v2, d1, d2, by omega, fun h' m1 m2 sb => ?_⟩
  refine ⟨.non, _, d_write I (by rw [hd]; exact True.intro) sb (let ⟨o, _, _, ho, _⟩ := m1; ⟨o, ho⟩) (dk_new ?_ n1 (kv_merge r1 r2) m1), rfl, q⟩
  exact Nat.le_trans (merge_len more kvs) hz
def rSortDS : List V → Hp → VK → Prop := fun vs H Q => ∃ (d : Addr) (kvs : List (Key × V)) (ks : List Str), vs = [.ref d] ∧ Rd H d (.dK kvs) ∧ kvs.map (·.1) = ks.map Sum.inr ∧ ks.length < 64 ∧
  ∀ (ys : List Str) (p : Addr), ys.Perm ks → sortedS ys = true → H p = none → Q (.ref p) (upd H p (.lst (ys.map V.str)))
theorem keys_text {P : Program} {w : World} : ∀ {es : List DictEntry} {vs : List (Key × Value)} {ks : List Str}, Pairs (mixKind P w) es vs → vs.map (·.1) = ks.map Sum.inr → StrsAre (es.map (·.key)) ks
  | _, _, [], .nil, _ => .nil
  | _, _, _ :: _, .nil, e => nomatch e
  | _, _, [], .cons _ _ _, e => nomatch e
  | _, _, k :: ks, .cons (e := en) (kv := kv) h _ t, e => by
    rw [List.map_cons, List.map_cons] at e
    injection e with e1 e2
    rw [e1] at h
    obtain ⟨tk, ek⟩ := Value.isStrOf_shape (x := k) (v := en.key) h
    rw [List.map_cons, ek]
    exact .cons k tk (keys_text t e2)
theorem kv_keys {kvs : List (Key × V)} {vs : List (Key × Value)} (r : KV kvs vs) : vs.map (·.1) = kvs.map (·.1) := by
  unfold KV at r
  induction r with
  | nil => rfl
  | cons h _ ih => rw [List.map_cons, List.map_cons, ih, h.1]
theorem cr_sortDS (hc : X.calm = true) : CallR X (.builtin "sorted") rSortDS := by
  intro pins s σ H vs us Q I r h
  obtain ⟨d, kvs, ks, rfl, hd, ek, few, q⟩ := h
  rw [Vals.ref1 r]
  obtain ⟨z0, hs, mv, pr, o, es, ep, ho, hx, hdt, hkk, hpp, hn⟩ := (show ObjOk X.prog X.w H s.heap d (.dK kvs) from hd.ok I.hok)
  have s1 : StrsAre (es.toList.map (·.key)) ks := keys_text hpp ((kv_keys pr).trans ek)
  have lk : es.size = ks.length := by
    have := s1.length
    rw [List.length_map, Array.length_toList] at this
    exact this
  refine Calls.call_function_entry kind_sorted plain_sorted entry_sorted (args_sorted1 _) ?_
  unfold Builtin.«sorted»
  refine wpAny_bind (m := checkCount "sorted" 1 1 _) (wpAny_pure ?_)
  refine wpAny_bind (PySem.W.kdu_collect (A := X.A.in1) (kdl_raw hs hx hdt) (I.ok.hd hc) ho (by rw [sizeLine_eq]; omega) fun h' tkk acc' keep it => ?_)
  have ea : acc'.toList = es.toList.map (·.key) := by
    refine eq_of_at (by rw [Array.length_toList, it.1, Array.length_toList]) fun j u b hu hb => ?_
    rw [Array.getElem?_toList] at hu
    obtain ⟨en, hen, rfl⟩ := it.2 j u hu
    rw [Array.getElem?_toList, hen] at hb
    rw [Option.some.inj hb]
  have I1 : Inv X pins σ H { s with heap := h', toks := tkk } := I.kept keep
  have p1 : StrsAre acc'.toList ks := by rw [ea]; exact s1
  generalize acc'.toList = vs at p1
  have vlen : vs.length = ks.length := p1.length
  refine wpAny_bind (wpAny_newList ?_ (by rw [vlen, sizeLine_eq]; omega))
  have hoL : (h'.push (seqObj "list" vs.toArray 0)).get? h'.objs.size = some (seqObj "list" vs.toArray 0) := Heap.get?_push_size _ rfl
  refine wpAny_bind (wpAny_holding (wpAny_call_entry slot_list_sort ⟨_, hoL, rfl⟩ entry_list_sort (list_sort_treeKAny strKind_oneLt hoL p1.keysOf (fun v₁ v₂ rest e => keyKind_strs (by rw [← e]; exact p1)) (by rw [vlen, sizeLine_eq]; omega) fun st' a1 a2 => ⟨_, rfl, ?_⟩) (args_list_sort _)))
  obtain ⟨ys, b1, b2, b3⟩ := sorted_out_str p1 a1 a2
  obtain ⟨c, hcn⟩ := sortedHeap_at (vs := vs) (out := (arrOf st').map (·.2)) hoL
  refine wpAny_pure ⟨_, rfl, ?_⟩
  generalize (arrOf st').map (·.2) = out at b1 hcn ⊢
  have hlen : (ys.map V.str).length ≤ sizeLine := by rw [List.length_map, b2.length_eq, sizeLine_eq]; omega
  have nw : H h'.objs.size = none := I1.hok.fresh (Nat.le_refl _)
  have keep2 : ∀ b u, h'.get? b = some u → (sortedHeap (h'.push (seqObj "list" vs.toArray 0)) h'.objs.size vs out).get? b = some u := fun b u k => by
    have hlt := Heap.lt_size k
    rw [sortedHeap_old (Nat.ne_of_lt hlt) (by rw [size_push']; exact Nat.lt_succ_of_lt hlt)]
    exact Heap.get?_push_of_some _ k
  refine ⟨.ref h'.objs.size, upd H h'.objs.size (.lst (ys.map V.str)), ?_, rfl, q ys _ b2 b3 nw⟩
  exact I1.laid (t' := _) keep2 (Nat.le_refl _) ⟨hlen, out.toList, c, vals_of_strs b1, hcn⟩
end
end L2

namespace Half
open PySem PySem.Spec PyProof.Rows L2
/-! ### diversions: which of them is wrong -/
abbrev Dvs : Type := List (Str × Addr × Str × Str)
def kvD (dl : Dvs) : List (Key × V) := dl.map fun e => (.inr e.1, .ref e.2.1)
structure DvS (K : PySem.W.Frag) (H : Hp) (dv : Addr) (dl : Dvs) : Prop where
  g : H dv = some (.dK (kvD dl))
  t : ∀ e ∈ dl, SqT K H e.2.1 [.str e.2.2.1, .str e.2.2.2]
  nd : (dl.map (·.1)).Nodup
  few : dl.length ≤ 20
theorem DvS.same {K : PySem.W.Frag} {H H' : Hp} {dv : Addr} {dl : Dvs} (S : Same H H') (h : DvS K H dv dl) : DvS K H' dv dl := ⟨S _ _ h.g, fun e he => S.sqT (h.t e he), h.nd, h.few⟩
def lookD (dl : Dvs) (z : Str) : Option (Str × Addr × Str × Str) := dl.find? fun e => decide (e.1 = z)
theorem kvD_val (dl : Dvs) (z : Str) : valV (kvD dl) (.inr z) = (lookD dl z).map fun e => V.ref e.2.1 := by
  unfold valV kvD lookD
  induction dl with
  | nil => rfl
  | cons e l ih =>
    rw [List.map_cons, List.find?_cons]
    by_cases c : e.1 = z
    · rw [List.find?_cons_of_pos (by simp [c])]
      simp [c]
    · rw [List.find?_cons_of_neg (by simp [c])]
      have n : ¬ (Sum.inr e.1 : Key) = .inr z := fun q => c (by injection q)
      simp only [n, decide_false]
      exact ih
theorem lookD_in {dl : Dvs} {z : Str} (h : z ∈ dl.map (·.1)) : ∃ e, lookD dl z = some e ∧ e ∈ dl ∧ e.1 = z := by
  cases c : lookD dl z with
  | none =>
    obtain ⟨x, hx, hxe⟩ := List.mem_map.mp h
    have := List.find?_eq_none.mp c x hx
    simp [hxe] at this
  | some e => exact ⟨e, rfl, List.mem_of_find?_eq_some c, of_decide_eq_true (List.find?_some (p := fun (e : Str × Addr × Str × Str) => decide (e.1 = z)) c)⟩
/-- the first path whose diversion is wrong -/
def wrongY (ns : List Str) (dl : Dvs) : List Str → List Str → Option Str
  | _, [] => none
  | tk, z :: r => match lookD dl z with
    | some e => if !has ns e.2.2.1 || has tk e.2.2.2 then some z else wrongY ns dl (tk ++ [e.2.2.2]) r
    | none => none
theorem wrongY_at {ns : List Str} {dl : Dvs} {tk r : List Str} {z : Str} {e : Str × Addr × Str × Str} (h : lookD dl z = some e) : wrongY ns dl tk (z :: r) = if !has ns e.2.2.1 || has tk e.2.2.2 then some z else wrongY ns dl (tk ++ [e.2.2.2]) r := by
  show (match lookD dl z with
    | some e => if !has ns e.2.2.1 || has tk e.2.2.2 then some z else wrongY ns dl (tk ++ [e.2.2.2]) r
    | none => none) = _
  rw [h]
/-- a dict that has just these texts -/
def TkAt (H : Hp) (D : Addr) (m : Nat) (ps : List Str) : Prop := ∃ kvs : List (Key × V), H D = some (.dK kvs) ∧ kvs.length ≤ m ∧ ∀ z, (valV kvs (.inr z)).isSome = has ps z
theorem has_app {α : Type} [DecidableEq α] (l m : List α) (x : α) : has (l ++ m) x = (has l x || has m x) := by unfold has; rw [List.any_append]
theorem put_isSome (kvs : List (Key × V)) (p z : Str) (v : V) : (valV (putK kvs (.inr p) v) (.inr z)).isSome = ((valV kvs (.inr z)).isSome || decide (p = z)) := by
  rw [valV_put]
  by_cases c : p = z
  · rw [if_pos (by rw [c]), decide_eq_true c, Bool.or_true]; rfl
  · rw [if_neg (fun q => c (by injection q with q; exact q.symm)), decide_eq_false c, Bool.or_false]
theorem put_tk {H : Hp} {D : Addr} {m : Nat} {ps : List Str} {p : Str} {v : V} {kvs : List (Key × V)} (l : kvs.length ≤ m) (h : ∀ z, (valV kvs (.inr z)).isSome = has ps z) : TkAt (upd H D (.dK (putK kvs (.inr p) v))) D (m + 1) (ps ++ [p]) := by
  refine ⟨_, upd_same, Nat.le_trans (length_putK ..) (Nat.succ_le_succ l), fun z => ?_⟩
  rw [put_isSome, h, has_app]
  congr 1
  unfold has
  rw [List.any_cons, List.any_nil, Bool.or_false]
theorem merge_isSome : ∀ (more kvs : List (Key × V)) (z : Key), (valV (mergeV kvs more) z).isSome = ((valV kvs z).isSome || (valV more z).isSome)
  | [], kvs, z => by show (valV kvs z).isSome = ((valV kvs z).isSome || false); rw [Bool.or_false]
  | p :: more, kvs, z => by
    have h := merge_isSome more (putK kvs p.1 p.2) z
    show (valV (mergeV (putK kvs p.1 p.2) more) z).isSome = _
    rw [h, valV_put]
    have e : valV (p :: more) z = if p.1 = z then some p.2 else valV more z := by
      unfold valV
      rw [List.find?_cons]
      by_cases c : p.1 = z
      · simp [c]
      · simp [c]
    rw [e]
    by_cases c : z = p.1
    · rw [if_pos c, if_pos c.symm]
      simp
    · rw [if_neg c, if_neg (Ne.symm c)]
abbrev sWp : Stmt := top 47
abbrev WpN : List Str := ["layout", "diversions", "taken", "path", "name", "other", "key"]
theorem scWp : FnScope WpN ["layout", "diversions"] (defScope sWp) := ⟨rfl, rfl, rfl, by decide +kernel, rfl, by decide +kernel, by decide +kernel⟩
def allP (fs : Fls) (ys : List Kk) : List Str := ys.flatMap (pathsL fs)
def spWp (K : PySem.W.Frag) (CT CY : Addr) : Sp := fun vs H Q _ => ∃ (y dv st d1 d2 : Addr) (es : Eds) (fs : Fls) (ts : Tks) (dl : Dvs), vs = [.ref y, .ref dv] ∧ LayS K CT CY H y st d1 d2 es fs ts ∧ DvS K H dv dl ∧
  ∀ H' ys zs ns, Same H H' → ys.Perm (keysOf es) → Asc ys → zs.Perm (dl.map (·.1)) → sortedS zs = true → IsNm (keysOf es) ns → Q (optV (wrongY ns dl (allP fs ys ++ dl.map (·.1)) zs)) H'
section
variable {P : Program} {w : World} {K : PySem.W.Frag} {mg : Str → Option Value} {base : Heap} {CT CY : Addr}
theorem ok_wp {f : Addr} {fd : FuncData} (F : Fun K "wrong_path" "wrong_path" sWp f fd) (gS : mg "sorted" = none) (Y : LayP P w K mg base CY) (N : NamF P w K mg base CT) (dE : Def P w K mg base 3 "edition_keys" ["store"] (spEk CT)) (dP : Def P w K mg base 4 "paths_of" ["layout", "key"] (spPo K CT CY)) : FnOk P w K mg base CX0 5 f fd ["layout", "diversions"] (spWp K CT CY) := by
  refine F.ok scWp (fun vs H Q E h => ?_) (fun cdv A outer s H vs Q E hr h => ?_)
  · obtain ⟨y, dv, st, d1, d2, es, fs, ts, dl, rfl, _⟩ := h
    rfl
  · obtain ⟨y, dv, st, d1, d2, es, fs, ts, dl, rfl, L, hD, kk⟩ := h
    have nd := scWp.nd
    have hu1 := hu_of hr
    have r2 : Room 2 _ := hr.mono (by decide)
    have r3 : Room 3 _ := hr.mono (by decide)
    refine ⟨_, pss_cons (ps_setDc2 (i := 2) (own := [("key", 6), ("path", 3)]) (vs1 := [3]) (g := gName 6) (g1 := gName 3) (tt := tYes) (tt1 := tYes) (wi1 := iList K (tCall (spPo K CT CY) [] E0 (tCons (tVar 0) (tCons (tVar 6) tNil)))) (tk := tVar 3) (tv := tC (.bl true)) rfl rfl (sw_dict rfl rfl rfl (by decide +kernel)) Bare.k hu1 rfl nd (pi_list (pe_def dE r3 rfl (pa_cons (pe_lsP Y r2 (pv 0)) pa_nil))) (blkOk_by (N := WpN) (sc := defScope sWp) (by decide +kernel)) (by decide)
        (fun _ _ _ _ _ => pg_name (i := 6) nd rfl (Or.inl rfl)) (fun _ _ _ _ _ => pts_nil) (fun _ _ _ _ _ => pi_list (pe_def dP hr rfl (pa_cons (pv 0) (pa_cons (pv 6) pa_nil)))) (fun _ _ _ _ _ => pg_name (i := 3) nd rfl (Or.inl rfl)) (fun _ _ _ _ _ => pts_nil) (fun _ _ _ _ _ => pv 3) (fun _ _ _ _ _ => pe_bl))
      (pss_cons (ps_expr (pe_bm PySem.F.plainAttrs_dict PySem.F.slot_dict_update PySem.F.type_dict_update mt_updK (pv 2) (pa_cons (pe_lock (pe_dcG (own := [("path", 3)]) (g := gName 3) (tt := tYes) (tk := tVar 3) (tv := tC (.bl true)) Bare.k hu1 rfl nd (pi_keys (pv 1)) (blkOk_by (N := WpN) (sc := defScope sWp) (by decide +kernel))
        (fun _ _ _ _ _ => pg_name (i := 3) nd rfl (Or.inl rfl)) (fun _ _ _ _ _ => pts_nil) (fun _ _ _ _ _ => pv 3) (fun _ _ _ _ _ => pe_bl))) pa_nil)))
      (pss_cons (ps_for PassesOwn.never rfl (pi_list (pe_callB (cr_sortDS rfl) (by rfl) gS (by decide +kernel) (pa_cons (pv 1) pa_nil))) (pg_name (i := 3) nd rfl (by first | exact Or.inl rfl | exact Or.inr rfl))
        (pss_cons (ps_asg (pe_dget hu1 (pv 1) (pv 3) (fun _ _ => rfl)) (pg_tup rfl (pgs_cons (pg_name (i := 4) nd rfl (by first | exact Or.inl rfl | exact Or.inr rfl)) (pgs_cons (pg_name (i := 5) nd rfl (by first | exact Or.inl rfl | exact Or.inr rfl)) pgs_nil))))
        (pss_cons (ps_if (PW.pt (pw_or (pt_cmpR op_notIn_seq (pv 4) (pe_nam N r2 (pe_lsP Y r2 (pv 0))) (by rfl)) (pw_or1 (pt_cmp (pc_din hu1 (pv 5) (pv 2)))))) (pss_one (ps_ret (pv 3))) pss_nil)
        (pss_one (ps_dput hu1 (pv 2) (pv 5) pe_bl rfl)))))
      (pss_one (ps_ret pe_non)))), ?_⟩
    obtain ⟨dx, hy⟩ := L.la.ob
    refine ⟨_, rfl, y, dx, _, rfl, hy, y, st, d1, d2, fs, ts, rfl, L.la, ?_⟩
    refine ⟨st, es, rfl, L.sto, L.few, fun H1 kl qs ys s1 nkl gkl pk pm asc => ?_⟩
    have L1 := L.same s1
    have lq := Paired.length pk
    have ly : ys.length ≤ 40 := by
      rw [pm.length_eq]
      unfold keysOf
      rw [List.length_map]
      exact L.few
    have fewP : ∀ k, (pathsL fs k).length ≤ 10 := fun k => by
      unfold pathsL
      rw [List.length_map]
      exact filL_len L.s k
    have lenA : ∀ i, (allP fs (ys.take i)).length ≤ 400 := fun i => by
      have h := flatMap_len (l := ys.take i) (f := pathsL fs) (c := 10) fun k _ => fewP k
      have : (ys.take i).length ≤ ys.length := (List.take_sublist ..).length_le
      unfold allP
      omega
    refine ⟨kl, rfl, ⟨_, SqL.of gkl⟩, fun D hD0 => ?_⟩
    refine dc2_it (walk_list (xs := qs.map V.ref)) (fun i H' => Same H1 H' ∧ TkAt H' D (allP fs (ys.take i)).length (allP fs (ys.take i))) ⟨Same.upd_new hD0, [], upd_same, Nat.zero_le _, fun z => rfl⟩ (fun _ _ _ h => SqL.of (h.1 _ _ gkl)) ?_ ?_
    · rintro i v H2 H3 hi ⟨s2, tk⟩ ⟨rfl, hv⟩
      obtain ⟨q, hq, rfl⟩ := getE hv
      obtain ⟨k, hk, gk⟩ := paired_get pk hq
      refine ⟨rfl, ?_⟩
      refine ⟨_, rfl, _, rfl, y, q, st, d1, d2, es, fs, ts, k, rfl, L1.same s2, s2 _ _ gk, fun H4 l s4 nl gl => ?_⟩
      refine ⟨l, rfl, ⟨_, SqL.of gl⟩, ?_⟩
      have nxt : allP fs (ys.take (i + 1)) = allP fs (ys.take i) ++ pathsL fs k := flat_next (f := pathsL fs) hk
      have la := lenA i
      have fk := fewP k
      rw [nxt]
      generalize allP fs (ys.take i) = ps at tk la
      obtain ⟨kvs0, g0, l0, v0⟩ := tk
      refine dc2_in (walk_list (xs := (pathsL fs k).map V.str)) (fun j H' => Same H1 H' ∧ H' l = some (.lst ((pathsL fs k).map V.str)) ∧ TkAt H' D (ps.length + j) (ps ++ (pathsL fs k).take j)) ⟨s2.trans s4, gl, kvs0, s4 _ _ g0, l0, by rw [List.take_zero, List.append_nil]; exact v0⟩ (fun _ _ _ h => SqL.of h.2.1) ?_ ?_
      · rintro j w2 H5 H6 hj ⟨s5, g5, kvs, gD, len, hvs⟩ ⟨rfl, hw⟩
        obtain ⟨z, hz, rfl⟩ := getE hw
        rw [List.length_map] at hj
        refine ⟨rfl, ?_⟩
        refine ⟨_, rfl, ?_⟩
        refine ⟨_, DPut.k (k := .inr z) gD (by rw [sizeLine_eq]; omega), fun b o hb => ?_, ?_, ?_⟩
        · rw [upd_ne (ne_of_none hb hD0)]
          exact s5 _ _ hb
        · rw [upd_ne (ne_of g5 gD (by intro z; cases z))]
          exact g5
        · rw [take_next hz, ← List.append_assoc]
          exact put_tk len hvs
      · rintro H5 ⟨s5, g5, tk5⟩
        rw [List.length_map, List.take_length] at tk5
        rw [List.length_append]
        exact ⟨s5, tk5⟩
    rintro H2 ⟨s2, kvs, gD, len, hvs⟩
    rw [List.length_map, lq, List.take_length] at len hvs
    have la := lenA ys.length
    rw [List.take_length] at la
    have S2 := s1.trans s2
    have nD : H D = none := by
      cases q : H D with
      | none => rfl
      | some o => rw [s1 _ _ q] at hD0; cases hD0
    have hD2 := hD.same S2
    -- the diverted paths too
    refine ⟨_, rfl, .inr (.inr (.inl ⟨rfl, .inl ⟨kvs, gD⟩⟩)), ?_⟩
    refine ⟨dv, _, hD2.g, trivial, fun od => ?_⟩
    have nDd : D ≠ dv := fun z => by rw [z, hD.g] at nD; cases nD
    have gL : (upd H2 dv (.frz od (.dK (kvD dl)))) dv = some (.frz od (.dK (kvD dl))) := upd_same
    have back : ∀ H', Same (upd H2 dv (.frz od (.dK (kvD dl)))) H' → Same H2 (upd H' dv (.dK (kvD dl))) := fun H' S a o q => by
      by_cases c : a = dv
      · rw [c, hD2.g] at q
        rw [c, upd_same]
        exact q
      · rw [upd_ne c]
        exact S _ _ (by rw [upd_ne c]; exact q)
    have nw : ∀ E2, (upd H2 dv (.frz od (.dK (kvD dl)))) E2 = none → H2 E2 = none ∧ E2 ≠ dv := fun E2 z => by
      have n : E2 ≠ dv := fun w => by rw [w, upd_same] at z; cases z
      rw [upd_ne n] at z
      exact ⟨z, n⟩
    generalize upd H2 dv (.frz od (.dK (kvD dl))) = HL at gL back nw ⊢
    have fewD := hD.few
    have lkv : (kvD dl).length = dl.length := List.length_map ..
    refine ⟨_, rfl, dv, od, rfl, .inl ⟨kvD dl, gL, fun D2 hD20 => ?_⟩⟩
    refine dcG_it (walk_keys (kvs := kvD dl)) (fun i H' => Same HL H' ∧ TkAt H' D2 i ((dl.map (·.1)).take i)) ⟨Same.upd_new hD20, [], upd_same, Nat.zero_le _, fun z => rfl⟩ (fun _ _ _ h => h.1 _ _ gL) ?_ ?_
    · rintro i v H4 H5 hi ⟨s4, kv2, gD2, len2, hv2⟩ ⟨rfl, kx, vx, hkx, rfl⟩
      unfold kvD at hkx
      rw [List.getElem?_map] at hkx
      obtain ⟨e, he, hee⟩ := Option.map_eq_some_iff.mp hkx
      obtain ⟨rfl, rfl⟩ := Prod.mk.inj hee
      refine ⟨rfl, ?_⟩
      refine ⟨_, rfl, ?_⟩
      refine ⟨_, DPut.k (k := .inr e.1) gD2 (by rw [sizeLine_eq]; omega), fun b o hb => ?_, ?_⟩
      · rw [upd_ne (ne_of_none hb hD20)]
        exact s4 _ _ hb
      · have hz : (dl.map (·.1))[i]? = some e.1 := by rw [List.getElem?_map, he]; rfl
        rw [take_next hz]
        exact put_tk len2 hv2
    rintro H4 ⟨s4, more, gD2, len2, hv2⟩
    rw [lkv] at len2 hv2
    rw [show (dl.map (·.1)).take dl.length = dl.map (·.1) by rw [← List.length_map (f := fun e : Str × Addr × Str × Str => e.1) (as := dl), List.take_length]] at hv2
    refine ⟨s4 _ _ gL, ?_⟩
    have s3 := back H4 s4
    obtain ⟨n2a, n2b⟩ := nw D2 hD20
    have gD3 := s3 _ _ gD
    have gM : (upd H4 dv (.dK (kvD dl))) D2 = some (.dK more) := by rw [upd_ne n2b]; exact gD2
    have nDD : D ≠ D2 := ne_of_none gD n2a
    generalize upd H4 dv (.dK (kvD dl)) = H3 at s3 gD3 gM ⊢
    refine ⟨D, D2, kvs, more, rfl, rfl, nDD, gD3, gM, by rw [sizeLine_eq]; omega, ?_⟩
    have S3 := S2.trans s3
    have S4 : Same H (upd H3 D (.dK (mergeV kvs more))) := fun b o hb => by
      rw [upd_ne (ne_of_none hb nD)]
      exact S3 _ _ hb
    have tk4 : TkAt (upd H3 D (.dK (mergeV kvs more))) D 420 (allP fs ys ++ dl.map (·.1)) := ⟨_, upd_same, Nat.le_trans (merge_len more kvs) (by omega), fun z => by rw [merge_isSome, hvs, hv2, has_app]⟩
    generalize upd H3 D (.dK (mergeV kvs more)) = H5 at S4 tk4 ⊢
    -- one diversion after another
    have hD5 := hD.same S4
    refine ⟨_, rfl, dv, kvD dl, dl.map (·.1), rfl, .inl hD5.g, by unfold kvD; rw [List.map_map, List.map_map]; rfl, by rw [List.length_map]; omega, fun zs p pmz srt np => ?_⟩
    have s6 := Same.upd_new (o := .lst (zs.map V.str)) np
    have gp : upd H5 p (.lst (zs.map V.str)) p = some (.lst (zs.map V.str)) := upd_same
    have S6 := S4.trans s6
    obtain ⟨kv6, gD6, len6, hv6⟩ := tk4
    have gD6 := s6 _ _ gD6
    have npD : p ≠ D := ne_of gp gD6 (by intro z; cases z)
    generalize upd H5 p (.lst (zs.map V.str)) = H6 at gp S6 gD6 ⊢
    have isn := isNm_of pm asc
    have lz : zs.length ≤ 20 := by
      rw [pmz.length_eq, List.length_map]
      exact fewD
    have res : ∀ H', Same H H' → Q (optV (wrongY (dset (ys.map (·.1))) dl (allP fs ys ++ dl.map (·.1)) zs)) H' := fun H' S => kk H' ys zs _ S pm asc pmz srt isn
    generalize allP fs ys ++ dl.map (·.1) = tk0 at hv6 res
    refine ⟨p, rfl, ⟨_, SqL.of gp⟩, ?_⟩
    refine for_it (walk_list (xs := zs.map V.str)) (fun i σ H' => ∃ x3 x4 x5 tk, σ = [some (.ref y), some (.ref dv), some (.ref D), x3, x4, x5, none] ∧ Same H H' ∧ H' p = some (.lst (zs.map V.str)) ∧ TkAt H' D (420 + i) tk ∧ wrongY (dset (ys.map (·.1))) dl tk0 zs = wrongY (dset (ys.map (·.1))) dl tk (zs.drop i))
      ⟨none, none, none, tk0, rfl, S6, gp, ⟨kv6, gD6, len6, hv6⟩, rfl⟩ ?_ ?_ ?_
    · rintro i σ H' _ ⟨x3, x4, x5, tk, rfl, S, g, _⟩
      exact SqL.of g
    · rintro i v σ H7 H8 hi ⟨x3, x4, x5, tk, rfl, S, g, ⟨kv7, gD7, len7, hv7⟩, eq⟩ ⟨rfl, hv⟩
      obtain ⟨z, hz, rfl⟩ := getE hv
      rw [List.length_map] at hi
      have dz : zs.drop i = z :: zs.drop (i + 1) := by
        rw [List.drop_eq_getElem_cons hi, (List.getElem?_eq_some_iff.mp hz).2]
      obtain ⟨e, le, hem, rfl⟩ := lookD_in (pmz.mem_iff.mp (List.mem_of_getElem? hz))
      have hD8 := hD.same S
      have L8 := L.same S
      rw [dz, wrongY_at le] at eq
      refine ⟨_, rfl, _, rfl, dv, .ref e.2.1, rfl, .inl ⟨kvD dl, .inr e.1, .inl hD8.g, rfl, by rw [kvD_val, le]; rfl⟩, ?_⟩
      refine ⟨e.2.1, _, rfl, hD8.t e hem, rfl, ?_⟩
      refine ⟨_, _, rfl, _, _, rfl, rfl, ?_⟩
      obtain ⟨⟨dy, tb, nb, hst, -⟩, -⟩ := id L8.sto
      refine ⟨_, rfl, _, rfl, y, dx, _, rfl, S _ _ hy, y, st, d1, d2, fs, ts, rfl, L8.la, st, dy, _, rfl, hst, st, es, rfl, L8.sto, fun ys2 nt pm2 asc2 nnt => ?_⟩
      obtain rfl : ys2 = ys := asc_uniq pm2 asc2 pm asc
      have s9 := Same.upd_new (o := .tup ((dset (ys2.map (·.1))).map V.str)) nnt
      refine ⟨nt, _, rfl, .inr (SqT.of upd_same), rfl, flat_strs _, ?_⟩
      rw [if_pos rfl, inV_str]
      have S9 := S.trans s9
      have g9 := s9 _ _ g
      have gD9 := s9 _ _ gD7
      generalize upd H8 nt (.tup ((dset (ys2.map (·.1))).map V.str)) = H9 at S9 g9 gD9 ⊢
      refine ⟨_, rfl, ?_⟩
      cases c1 : has (dset (ys2.map (·.1))) e.2.2.1 with
      | false =>
        refine iteT ?_
        refine iteT ?_
        refine ⟨_, rfl, ?_⟩
        have h := res H9 S9
        rw [eq, c1] at h
        exact h
      | true =>
        refine iteF ?_
        refine ⟨_, rfl, _, rfl, D, _, rfl, DGet.k (k := .inr e.2.2.2) gD9, ?_⟩
        refine ⟨_, rfl, ?_⟩
        rw [hv7]
        cases c2 : has tk e.2.2.2 with
        | true =>
          refine iteT ?_
          refine ⟨_, rfl, ?_⟩
          have h := res H9 S9
          rw [eq, c1, c2] at h
          exact h
        | false =>
          refine iteF ?_
          refine ⟨_, rfl, _, rfl, D, _, rfl, DPut.k (k := .inr e.2.2.2) gD9 (by rw [sizeLine_eq]; omega), ?_⟩
          rw [c1, c2] at eq
          refine ⟨_, _, _, tk ++ [e.2.2.2], rfl, fun b o hb => ?_, ?_, put_tk len7 hv7, eq⟩
          · rw [upd_ne (ne_of_none hb nD)]
            exact S9 _ _ hb
          · rw [upd_ne npD]
            exact g9
    · rintro σ H7 ⟨x3, x4, x5, tk, rfl, S, g, _, eq⟩
      rw [List.length_map, List.drop_length] at eq
      have h := res H7 S
      rw [eq] at h
      exact h
end
end Half

namespace Half
open PySem PySem.Spec PyProof.Rows L2
/-! ### where a file of an edition goes -/
/-- a statement that is not come to -/
theorem ps_never {X : Cx} {st : Stmt} : PS X st (fun _ _ _ => False) := ⟨fun _ _ _ _ _ _ h => h.elim⟩
abbrev sCd : Stmt := top 48
abbrev sPl : Stmt := top 50
abbrev sPs : Stmt := top 51
theorem scCd : FnScope ["layout", "diversions", "path"] ["layout", "diversions"] (defScope sCd) := ⟨rfl, rfl, rfl, by decide +kernel, rfl, by decide +kernel, by decide +kernel⟩
/-- where none is wrong -/
def NoWrong (fs : Fls) (es : Eds) (dl : Dvs) : Prop := ∀ ys zs ns, ys.Perm (keysOf es) → Asc ys → zs.Perm (dl.map (·.1)) → sortedS zs = true → IsNm (keysOf es) ns → wrongY ns dl (allP fs ys ++ dl.map (·.1)) zs = none
def spCd (K : PySem.W.Frag) (CT CY : Addr) : Sp := fun vs H Q _ => ∃ (y dv st d1 d2 : Addr) (es : Eds) (fs : Fls) (ts : Tks) (dl : Dvs), vs = [.ref y, .ref dv] ∧ LayS K CT CY H y st d1 d2 es fs ts ∧ DvS K H dv dl ∧ NoWrong fs es dl ∧ ∀ H', Same H H' → Q .non H'
def placeM (dl : Dvs) (nm z : Str) : Str := match lookD dl z with
  | some e => if e.2.2.1 = nm then z else e.2.2.2
  | none => z
def spPl (K : PySem.W.Frag) : Sp := fun vs H Q _ => ∃ (dv : Addr) (nm z : Str) (dl : Dvs), vs = [.ref dv, .str nm, .str z] ∧ DvS K H dv dl ∧ Q (.str (placeM dl nm z)) H
def placesM (fs : Fls) (dl : Dvs) (k : Kk) : List Str := (pathsL fs k).map (placeM dl k.1)
def spPs (K : PySem.W.Frag) (CT CY : Addr) : Sp := fun vs H Q _ => ∃ (y dv q st d1 d2 : Addr) (es : Eds) (fs : Fls) (ts : Tks) (dl : Dvs) (k : Kk), vs = [.ref y, .ref dv, .ref q] ∧ LayS K CT CY H y st d1 d2 es fs ts ∧ DvS K H dv dl ∧ KeyAt H q k ∧
  ∀ H' a ys, Same H H' → SqT K H' a (ys.map V.str) → ys.Perm (placesM fs dl k) → sortedS ys = true → Q (.ref a) H'
section
variable {P : Program} {w : World} {K : PySem.W.Frag} {mg : Str → Option Value} {base : Heap} {CT CY : Addr}
theorem ok_cd {f : Addr} {fd : FuncData} (F : Fun K "check_diversions" "check_diversions" sCd f fd) (dW : Def P w K mg base 5 "wrong_path" ["layout", "diversions"] (spWp K CT CY)) : FnOk P w K mg base CX0 6 f fd ["layout", "diversions"] (spCd K CT CY) := by
  refine F.ok scCd (fun vs H Q E h => ?_) (fun cdv A outer s H vs Q E hr h => ?_)
  · obtain ⟨y, dv, st, d1, d2, es, fs, ts, dl, rfl, _⟩ := h
    rfl
  · obtain ⟨y, dv, st, d1, d2, es, fs, ts, dl, rfl, L, hD, nw, kk⟩ := h
    have nd := scCd.nd
    refine ⟨_, pss_cons (ps_set (i := 2) nd rfl (Or.inl rfl) (pe_def dW hr rfl (pa_cons (pv 0) (pa_cons (pv 1) pa_nil))))
      (pss_one (ps_if (pt_cmp (pc_notN (pv 2))) (pss_one ps_never) pss_nil)), ?_⟩
    refine ⟨_, rfl, _, rfl, y, dv, st, d1, d2, es, fs, ts, dl, rfl, L, hD, fun H1 ys zs ns s1 pm asc pz srt isn => ?_⟩
    rw [nw ys zs ns pm asc pz srt isn]
    refine ⟨_, rfl, false, rfl, ?_⟩
    exact iteF (kk H1 s1)
theorem scPl : FnScope ["diversions", "name", "path", "owner", "other"] ["diversions", "name", "path"] (defScope sPl) := ⟨rfl, rfl, rfl, by decide +kernel, rfl, by decide +kernel, by decide +kernel⟩
theorem ok_pl {f : Addr} {fd : FuncData} (F : Fun K "place_of" "place_of" sPl f fd) : FnOk P w K mg base CX0 1 f fd ["diversions", "name", "path"] (spPl K) := by
  refine F.ok scPl (fun vs H Q E h => ?_) (fun cdv A outer s H vs Q E hr h => ?_)
  · obtain ⟨dv, nm, z, dl, rfl, _⟩ := h
    rfl
  · obtain ⟨dv, nm, z, dl, rfl, hD, kk⟩ := h
    have nd := scPl.nd
    have hu1 := hu_of hr
    refine ⟨_, pss_cons (ps_if (pt_cmp (pc_dnotin hu1 (pv 2) (pv 0))) (pss_one (ps_ret (pv 2))) pss_nil)
      (pss_cons (ps_asg (pe_dget hu1 (pv 0) (pv 2) (fun _ _ => rfl)) (pg_tup rfl (pgs_cons (pg_name (i := 3) nd rfl (by first | exact Or.inl rfl | exact Or.inr rfl)) (pgs_cons (pg_name (i := 4) nd rfl (by first | exact Or.inl rfl | exact Or.inr rfl)) pgs_nil))))
      (pss_one (ps_ret (pe_ifExp (pt_cmpR op_eq (pv 3) (pv 1) (nomark _)) (pv 2) (pv 4))))), ?_⟩
    have e := kvD_val dl z
    have pm : placeM dl nm z = match lookD dl z with
      | some e => if e.2.2.1 = nm then z else e.2.2.2
      | none => z := rfl
    rw [pm] at kk
    refine ⟨_, rfl, _, rfl, dv, _, rfl, DGet.k (k := .inr z) hD.g, ?_⟩
    refine ⟨_, rfl, ?_⟩
    rw [e]
    cases c : lookD dl z with
    | none =>
      rw [c] at kk
      refine iteT ?_
      exact ⟨_, rfl, kk⟩
    | some x =>
      rw [c] at kk
      have hx : x ∈ dl := List.mem_of_find?_eq_some c
      refine iteF ?_
      refine ⟨_, rfl, _, rfl, dv, .ref x.2.1, rfl, .inl ⟨kvD dl, .inr z, .inl hD.g, rfl, by rw [kvD_val, c]; rfl⟩, ?_⟩
      refine ⟨x.2.1, _, rfl, hD.t x hx, rfl, ?_⟩
      refine ⟨_, _, rfl, _, _, rfl, rfl, ?_⟩
      refine ⟨_, rfl, _, rfl, rfl, _, rfl, ?_⟩
      by_cases c2 : x.2.2.1 = nm
      · rw [decide_eq_true (show V.str x.2.2.1 = V.str nm by rw [c2])]
        dsimp only at kk
        rw [if_pos c2] at kk
        refine iteT ?_
        exact ⟨_, rfl, kk⟩
      · rw [decide_eq_false (show ¬ V.str x.2.2.1 = V.str nm from fun z => c2 (by injection z))]
        dsimp only at kk
        rw [if_neg c2] at kk
        refine iteF ?_
        exact ⟨_, rfl, kk⟩
theorem scPs : FnScope ["layout", "diversions", "key", "path"] ["layout", "diversions", "key"] (defScope sPs) := ⟨rfl, rfl, rfl, by decide +kernel, rfl, by decide +kernel, by decide +kernel⟩
theorem ok_ps {f : Addr} {fd : FuncData} (F : Fun K "places_of" "places_of" sPs f fd) (gT : mg "tuple" = none) (gS : mg "sorted" = none) (dP : Def P w K mg base 4 "paths_of" ["layout", "key"] (spPo K CT CY)) (dL : Def P w K mg base 1 "place_of" ["diversions", "name", "path"] (spPl K)) : FnOk P w K mg base CX0 5 f fd ["layout", "diversions", "key"] (spPs K CT CY) := by
  refine F.ok scPs (fun vs H Q E h => ?_) (fun cdv A outer s H vs Q E hr h => ?_)
  · obtain ⟨y, dv, q, st, d1, d2, es, fs, ts, dl, k, rfl, _⟩ := h
    rfl
  · obtain ⟨y, dv, q, st, d1, d2, es, fs, ts, dl, k, rfl, L, hD, hq, kk⟩ := h
    have nd := scPs.nd
    have r1 : Room 1 _ := hr.mono (by decide)
    refine ⟨_, pss_one (ps_ret (pe_callTy call_tuple_of (by rfl) gT (by decide +kernel) (pa_cons (pe_callB cr_sortedS (by rfl) gS (by decide +kernel) (pa_cons
      (pe_lc (own := [("path", 3)]) (g := gName 3) (tt := tYes) (te := tCall (spPl K) [] E0 (tCons (tVar 1) (tCons (tOp (rIxT K) (tVar 2) (tC (.int 0))) (tCons (tVar 3) tNil)))) rfl nd (pi_list (pe_def dP hr rfl (pa_cons (pv 0) (pa_cons (pv 2) pa_nil)))) (blkOk_by (N := ["layout", "diversions", "key", "path"]) (sc := defScope sPs) (by decide +kernel))
        (fun _ _ _ _ _ => pg_name (i := 3) nd rfl (Or.inl rfl)) (fun _ _ _ _ _ => pts_nil) (fun _ _ _ _ _ => pe_def dL r1 rfl (pa_cons (pv 1) (pa_cons (pe_ix ix_tup (pv 2) pe_int (fun _ _ => rfl)) (pa_cons (pv 3) pa_nil))))) pa_nil)) pa_nil))), ?_⟩
    refine ⟨_, rfl, _, rfl, y, q, st, d1, d2, es, fs, ts, k, rfl, L, hq, fun H1 l s1 nl gl => ?_⟩
    have few : (pathsL fs k).length ≤ 10 := by
      unfold pathsL
      rw [List.length_map]
      exact filL_len L.s k
    refine ⟨l, rfl, ⟨_, SqL.of gl⟩, fun D hDn => ?_⟩
    refine lc_it (walk_list (xs := (pathsL fs k).map V.str)) (MapP H1 D ((placesM fs dl k).map V.str)) (MapP.zero hDn) (fun _ _ _ p => SqL.of (p.1 _ _ gl)) ?_ ?_
    · rintro i x H2 H3 hi p ⟨rfl, hx⟩
      obtain ⟨z, hz, rfl⟩ := getE hx
      have S := s1.trans p.1
      refine ⟨rfl, ?_⟩
      refine ⟨_, rfl, _, rfl, q, _, 0, _, rfl, rfl, SqT.of (S _ _ hq), rfl, _, rfl, dv, k.1, z, dl, rfl, hD.same S, ?_⟩
      refine p.step hDn ?_ (by unfold placesM; rw [List.length_map, List.length_map]; omega) (Same.refl _)
      unfold placesM
      rw [List.getElem?_map, List.getElem?_map, hz]
      rfl
    intro H2 p
    obtain ⟨s2, g2⟩ := p.done (by unfold placesM; rw [List.length_map, List.length_map, List.length_map])
    refine ⟨D, placesM fs dl k, rfl, SqL.of g2, by unfold placesM; rw [List.length_map]; omega, fun ys p3 pm srt np => ?_⟩
    have s3 := Same.upd_new (o := .lst (ys.map V.str)) np
    have g3 : upd H2 p3 (.lst (ys.map V.str)) p3 = some (.lst (ys.map V.str)) := upd_same
    generalize upd H2 p3 (.lst (ys.map V.str)) = H3 at s3 g3 ⊢
    refine ⟨p3, _, rfl, .inl ⟨SqL.of g3, fun t nt => ?_⟩⟩
    have s4 := Same.upd_new (o := .tup (ys.map V.str)) nt
    exact kk _ t ys (s1.trans (s2.trans (s3.trans s4))) (SqT.of upd_same) pm srt
end
end Half

namespace Half
open PySem PySem.Spec PyProof.Rows L2
/-! ### the rivals by places that are tuples -/
structure PlT (K : PySem.W.Frag) (H : Hp) (dp : Addr) (pl : Tks) : Prop where
  g : H dp = some (.dT (kvG (fun p : Addr × List Str => p.1) pl))
  ls : ∀ e ∈ pl, SqT K H e.2.1 (e.2.2.map V.str)
  nd : (pl.map (·.1)).Nodup
  few : ∀ e ∈ pl, e.2.2.length ≤ 10
theorem PlT.same {K : PySem.W.Frag} {H H' : Hp} {dp : Addr} {pl : Tks} (S : Same H H') (h : PlT K H dp pl) : PlT K H' dp pl := ⟨S _ _ h.g, fun e he => S.sqT (h.ls e he), h.nd, h.few⟩
theorem PlT.at_ {K : PySem.W.Frag} {H : Hp} {dp : Addr} {pl : Tks} {k : Kk} (h : PlT K H dp pl) (hk : k ∈ pl.map (·.1)) : ∃ a, valV (kvG (fun p : Addr × List Str => p.1) pl) (keyL k) = some (.ref a) ∧ SqT K H a ((takL pl k).map V.str) := by
  have e := kvG_val (v := fun p : Addr × List Str => p.1) pl k
  have tl : takL pl k = match pl.find? fun e => decide (e.1 = k) with
    | some e => e.2.2
    | none => [] := rfl
  cases c : pl.find? fun e => decide (e.1 = k) with
  | none =>
    obtain ⟨x, hx, hxe⟩ := List.mem_map.mp hk
    have := List.find?_eq_none.mp c x hx
    simp [hxe] at this
  | some x =>
    rw [c] at e tl
    refine ⟨x.2.1, e, ?_⟩
    rw [tl]
    exact h.ls x (List.mem_of_find?_eq_some c)
def spClt (K : PySem.W.Frag) (CT CY : Addr) : Sp := fun vs H Q _ => ∃ (y dp st d1 d2 : Addr) (es : Eds) (fs : Fls) (ts pl : Tks), vs = [.ref y, .ref dp] ∧ LayS K CT CY H y st d1 d2 es fs ts ∧ PlT K H dp pl ∧ (∀ k ∈ keysOf es, k ∈ pl.map (·.1)) ∧
  ∀ H' l as ys trs, Same H H' → H l = none → H' l = some (.lst (as.map V.ref)) → Paired (TriAt H') as trs → ys.Perm (keysOf es) → Asc ys → trs.Perm (clashL ts ys pl) → SortedT trs → Q (.ref l) H'
section
variable {P : Program} {w : World} {K : PySem.W.Frag} {mg : Str → Option Value} {base : Heap} {CT CY : Addr}
theorem ok_clt {f : Addr} {fd : FuncData} (F : Fun K "clashes" "clashes" sCls f fd) (gS : mg "sorted" = none) (Y : LayP P w K mg base CY) (dE : Def P w K mg base 3 "edition_keys" ["store"] (spEk CT)) (dC : Def P w K mg base 4 "can_clash" ["layout", "key", "other"] (spCc K CT CY)) : FnOk P w K mg base CX0 5 f fd ["layout", "places"] (spClt K CT CY) := by
  refine F.ok scCls (fun vs H Q E h => ?_) (fun cdv A outer s H vs Q E hr h => ?_)
  · obtain ⟨y, dp, st, d1, d2, es, fs, ts, pl, rfl, _⟩ := h
    rfl
  · obtain ⟨y, dp, st, d1, d2, es, fs, ts, pl, rfl, L, hp, all, kk⟩ := h
    have nd := scCls.nd
    have hu := hr.units
    have hu1 := hu_of hr
    have r2 : Room 2 _ := hr.mono (by decide)
    have r3 : Room 3 _ := hr.mono (by decide)
    have r4 : Room 4 _ := hr.mono (by decide)
    have hu40 : (A.deeper (envOfC "clashes" (defScope sCls) s.heap.objs.size f cdv)).units + 40 < cLine := Nat.lt_of_le_of_lt (Nat.add_le_add_left (by decide : 40 ≤ 64) _) hu
    refine ⟨_, pss_cons (ps_set (i := 2) nd rfl (by first | exact Or.inl rfl | exact Or.inr rfl) (pe_def dE r3 rfl (pa_cons (pe_lsP Y r2 (pv 0)) pa_nil)))
      (pss_cons (ps_setLc2 (i := 3) (own := [("key", 4), ("other", 5)]) (vs1 := [5]) (g := gName 4) (g1 := gName 5) (tt := tYes) (tt1 := tAnd (tTest (tOp (rLtD K) (tVar 4) (tVar 5))) (tB (tCall (spCc K CT CY) [] E0 (tCons (tVar 0) (tCons (tVar 4) (tCons (tVar 5) tNil)))))) (te := tTup (tCons (tVar 4) (tCons (tVar 5) tNil))) (wi1 := iList K (tVar 2)) rfl nd rfl rfl (sw_true rfl rfl rfl (by decide +kernel)) (pi_list (pv 2)) (blkOk_by (N := ClsN) (sc := defScope sCls) (by decide +kernel)) (by decide)
        (fun _ _ _ _ _ => pg_name (i := 4) nd rfl (Or.inl rfl)) (fun _ _ _ _ _ => pts_nil) (fun _ _ _ _ _ => pi_list (pv 2)) (fun _ _ _ _ _ => pg_name (i := 5) nd rfl (Or.inl rfl)) (fun _ _ _ _ _ => pts_one (PW.pt (pw_and (pt_cmpR (op_ltD hu40) (pv 4) (pv 5) (nomark _)) (pw_and1 (pt_val (pe_def dC r4 rfl (pa_cons (pv 0) (pa_cons (pv 4) (pa_cons (pv 5) pa_nil)))))))))
        (fun _ _ _ _ _ => pe_tup (pa_cons (pv 4) (pa_cons (pv 5) pa_nil))))
      (pss_one (ps_ret (pe_callB (cr_sortRd hu40) (by rfl) gS (by decide +kernel) (pa_cons (pe_lc2 (own := [("key", 4), ("other", 5), ("place", 6)]) (vs1 := [6]) (g := gTup K 2 (gCons (gName 4) (gCons (gName 5) gNil))) (g1 := gName 6) (tt := tYes) (tt1 := tTest (tOp (rIn K false) (tVar 6) (tDGet (tVar 1) (tVar 5)))) (te := tTup (tCons (tVar 4) (tCons (tVar 5) (tCons (tVar 6) tNil)))) (wi1 := iTup K (tDGet (tVar 1) (tVar 4))) rfl nd (pi_list (pv 3)) (blkOk_by (N := ClsN) (sc := defScope sCls) (by decide +kernel)) (by decide)
        (fun _ _ _ _ _ => pg_tup rfl (pgs_cons (pg_name (i := 4) nd rfl (Or.inl rfl)) (pgs_cons (pg_name (i := 5) nd rfl (Or.inl rfl)) pgs_nil))) (fun _ _ _ _ _ => pts_nil) (fun _ _ _ _ _ => pi_tup (pe_dget hu1 (pv 1) (pv 4) (fun _ _ => rfl))) (fun _ _ _ _ _ => pg_name (i := 6) nd rfl (Or.inl rfl)) (fun _ _ _ _ _ => pts_one (pt_cmpR op_in_seq (pv 6) (pe_dget hu1 (pv 1) (pv 5) (fun _ _ => rfl)) (by rfl)))
        (fun _ _ _ _ _ => pe_tup (pa_cons (pv 4) (pa_cons (pv 5) (pa_cons (pv 6) pa_nil))))) pa_nil))))), ?_⟩
    obtain ⟨dx, hy⟩ := L.la.ob
    refine ⟨_, rfl, y, dx, _, rfl, hy, y, st, d1, d2, fs, ts, rfl, L.la, ?_⟩
    refine ⟨st, es, rfl, L.sto, L.few, fun H1 kl qs ys s1 nkl gkl pk pm asc => ?_⟩
    have L1 := L.same s1
    have hp1 := hp.same s1
    have ndy : ys.Nodup := pm.symm.nodup_iff.mp L.sto.one
    have ly : ys.length ≤ 40 := by
      rw [pm.length_eq]
      unfold keysOf
      rw [List.length_map]
      exact L.few
    have lq := Paired.length pk
    -- the pairs
    refine ⟨_, rfl, kl, rfl, ⟨_, SqL.of gkl⟩, fun D hD => ?_⟩
    have lenF : ∀ k, ((ys.filter fun o => kLt k o && canB ts k o).map fun o => (k, o)).length ≤ 40 := fun k => by
      rw [List.length_map]
      exact Nat.le_trans (List.length_filter_le ..) ly
    have lenP : ∀ i, ((ys.take i).flatMap fun k => (ys.filter fun o => kLt k o && canB ts k o).map fun o => (k, o)).length ≤ 1600 := fun i => by
      have h := flatMap_len (l := ys.take i) fun x _ => lenF x
      have : (ys.take i).length ≤ 40 := Nat.le_trans (List.take_sublist ..).length_le ly
      omega
    refine lc2_it (walk_list (xs := qs.map V.ref)) (fun i H' => AccR H1 D PairAt ((ys.take i).flatMap fun k => (ys.filter fun o => kLt k o && canB ts k o).map fun o => (k, o)) H') (AccR.zero hD) (fun _ _ _ h => SqL.of (h.1 _ _ gkl)) ?_ ?_
    · rintro i v H2 H3 hi acc ⟨rfl, hv⟩
      obtain ⟨q, hq, rfl⟩ := getE hv
      obtain ⟨k, hk, gk⟩ := paired_get pk hq
      refine ⟨rfl, ?_⟩
      refine ⟨_, rfl, kl, rfl, ⟨_, SqL.of (acc.1 _ _ gkl)⟩, ?_⟩
      rw [flat_next hk]
      have lp := lenP i
      generalize (ys.take i).flatMap (fun k => (ys.filter fun o => kLt k o && canB ts k o).map fun o => (k, o)) = done at acc lp ⊢
      refine lc2_in (walk_list (xs := qs.map V.ref)) (fun j H' => AccR H1 D PairAt (done ++ ((ys.take j).filter fun o => kLt k o && canB ts k o).map fun o => (k, o)) H') (by simpa using acc) (fun _ _ _ h => SqL.of (h.1 _ _ gkl)) ?_ (fun H' h => by
        rw [List.length_map, lq, List.take_length] at h
        exact h)
      rintro j w2 H5 H6 hj acc5 ⟨rfl, hw⟩
      obtain ⟨q', hq', rfl⟩ := getE hw
      obtain ⟨o, ho, go⟩ := paired_get pk hq'
      have S5 := acc5.1
      rw [filt_next ho, ← List.append_assoc]
      have lf : (done ++ ((ys.take j).filter fun o => kLt k o && canB ts k o).map fun o => (k, o)).length ≤ 1000000 := by
        rw [List.length_append, List.length_map]
        have h1 := List.length_filter_le (fun o => kLt k o && canB ts k o) (ys.take j)
        have h2 : (ys.take j).length ≤ 40 := Nat.le_trans (List.take_sublist ..).length_le ly
        omega
      refine ⟨rfl, ?_⟩
      refine ⟨_, rfl, _, rfl, _, _, dp_key (S5 _ _ gk), dp_key (S5 _ _ go), kD_alike _ _, (by unfold kD; exact fun z => nomatch z), (by simp [kD, PyData.depth, PyData.depthAll]), _, rfl, ?_⟩
      cases c1 : PySem.W.dataLt (kD k) (kD o) with
      | false =>
        refine iteF ?_
        refine iteF ?_
        rw [if_neg (by simp [kLt, c1]), List.append_nil]
        exact acc5
      | true =>
        refine iteT ?_
        refine ⟨_, rfl, _, rfl, _, rfl, y, q, q', st, d1, d2, es, fs, ts, k, o, rfl, L1.same S5, S5 _ _ gk, S5 _ _ go, fun H7 s7 => ⟨_, rfl, ?_⟩⟩
        cases c2 : canB ts k o with
        | false =>
          refine iteF ?_
          rw [if_neg (by simp [c2]), List.append_nil]
          exact acc5.same pair_stab s7
        | true =>
          refine iteT ?_
          rw [if_pos (by simp [kLt, c1, c2])]
          refine ⟨_, rfl, _, rfl, two_le, fun p np => ?_⟩
          have s8 := Same.upd_new (o := .tup [.ref q, .ref q']) np
          refine acc5.step pair_stab hD (s7.trans s8) ?_ lf
          exact ⟨q, q', upd_same, s8 _ _ (s7 _ _ (S5 _ _ gk)), s8 _ _ (s7 _ _ (S5 _ _ go))⟩
    rintro H2 acc
    rw [List.length_map, lq, List.take_length] at acc
    obtain ⟨as2, s2, g2, p2⟩ := acc.at_
    have lP : (pairsL ts ys).length ≤ 1600 := by
      have h := lenP ys.length
      rw [List.take_length] at h
      exact h
    have inP : ∀ p ∈ pairsL ts ys, p.1 ∈ ys ∧ p.2 ∈ ys := fun p hp => by
      obtain ⟨k, hk, h⟩ := List.mem_flatMap.mp hp
      obtain ⟨o, ho, rfl⟩ := List.mem_map.mp h
      exact ⟨hk, (List.mem_filter.mp ho).1⟩
    change Paired (PairAt H2) as2 (pairsL ts ys) at p2
    have lq2 := Paired.length p2
    have hp2 := hp1.same s2
    -- the triples
    refine ⟨_, rfl, D, rfl, ⟨_, SqL.of g2⟩, fun D2 hD2 => ?_⟩
    have lenG : ∀ i, (((pairsL ts ys).take i).flatMap fun p => ((takL pl p.1).filter fun z => has (takL pl p.2) z).map fun z => (p.1, p.2, z)).length ≤ 16000 := fun i => by
      have h := flatMap_len (l := (pairsL ts ys).take i) (f := fun p => ((takL pl p.1).filter fun z => has (takL pl p.2) z).map fun z => (p.1, p.2, z)) (c := 10) fun x _ => by
        rw [List.length_map]
        exact Nat.le_trans (List.length_filter_le ..) (takL_few hp.few x.1)
      have : ((pairsL ts ys).take i).length ≤ 1600 := Nat.le_trans (List.take_sublist ..).length_le lP
      omega
    refine lc2_it (walk_list (xs := as2.map V.ref)) (fun i H' => AccR H2 D2 TriAt (((pairsL ts ys).take i).flatMap fun p => ((takL pl p.1).filter fun z => has (takL pl p.2) z).map fun z => (p.1, p.2, z)) H') (AccR.zero hD2) (fun _ _ _ h => SqL.of (h.1 _ _ g2)) ?_ ?_
    · rintro i v H3 H4 hi acc3 ⟨rfl, hv⟩
      obtain ⟨a, ha, rfl⟩ := getE hv
      obtain ⟨⟨k, o⟩, hko, gp⟩ := paired_get p2 ha
      obtain ⟨q, q', g3, gk, go⟩ := gp
      obtain ⟨ik, io⟩ := inP _ (List.mem_of_getElem? hko)
      have hp3 := hp2.same acc3.1
      obtain ⟨ak, vk, lk⟩ := hp3.at_ (all k (pm.mem_iff.mp ik))
      refine ⟨a, _, rfl, SqT.of (acc3.1 _ _ g3), rfl, ?_⟩
      refine ⟨_, _, rfl, _, _, rfl, rfl, ?_⟩
      refine ⟨rfl, ?_⟩
      refine ⟨_, rfl, _, rfl, dp, .ref ak, rfl, .inr ⟨_, keyL k, q, .inl hp3.g, rfl, acc3.1 _ _ gk, vk.symm⟩, ak, rfl, ⟨_, lk⟩, ?_⟩
      rw [flat_next hko]
      have lp := lenG i
      generalize ((pairsL ts ys).take i).flatMap (fun p => ((takL pl p.1).filter fun z => has (takL pl p.2) z).map fun z => (p.1, p.2, z)) = done at acc3 lp ⊢
      have keepL : ∀ {H'}, Same H2 H' → SqT K H' ak ((takL pl k).map V.str) := fun {H'} S => by
        obtain ⟨ak', vk', lk'⟩ := (hp2.same S).at_ (all k (pm.mem_iff.mp ik))
        rw [vk] at vk'
        cases vk'
        exact lk'
      refine lc2_in (walk_tup (xs := (takL pl k).map V.str)) (fun j H' => AccR H2 D2 TriAt (done ++ (((takL pl k).take j).filter fun z => has (takL pl o) z).map fun z => (k, o, z)) H') (by simpa using acc3) (fun _ _ _ h => keepL h.1) ?_ (fun H' h => by
        rw [List.length_map, List.take_length] at h
        exact h)
      rintro j w2 H5 H6 hj acc5 ⟨rfl, hw⟩
      obtain ⟨z, hz, rfl⟩ := getE hw
      have S5 := acc5.1
      have hp5 := hp2.same S5
      obtain ⟨ao, vo, lo⟩ := hp5.at_ (all o (pm.mem_iff.mp io))
      rw [filt_next hz, ← List.append_assoc]
      have lf : (done ++ (((takL pl k).take j).filter fun z => has (takL pl o) z).map fun z => (k, o, z)).length ≤ 1000000 := by
        rw [List.length_append, List.length_map]
        have h1 := List.length_filter_le (fun z => has (takL pl o) z) ((takL pl k).take j)
        have h2 : ((takL pl k).take j).length ≤ 10 := Nat.le_trans (List.take_sublist ..).length_le (takL_few hp.few k)
        omega
      refine ⟨rfl, ?_⟩
      refine ⟨_, rfl, _, rfl, _, rfl, dp, .ref ao, rfl, .inr ⟨_, keyL o, q', .inl hp5.g, rfl, S5 _ _ go, vo.symm⟩, ao, _, rfl, .inr lo, rfl, flat_strs _, ?_⟩
      simp only [Bool.false_eq_true, if_false, inV_str]
      refine ⟨_, rfl, ?_⟩
      cases c : has (takL pl o) z with
      | false =>
        refine iteF ?_
        rw [if_neg (by simp), List.append_nil]
        exact acc5
      | true =>
        refine iteT ?_
        rw [if_pos rfl]
        refine ⟨_, rfl, _, rfl, _, rfl, (by show 3 ≤ sizeLine; decide), fun p np => ?_⟩
        have s8 := Same.upd_new (o := .tup [.ref q, .ref q', .str z]) np
        refine acc5.step tri_stab hD2 s8 ?_ lf
        exact ⟨q, q', upd_same, s8 _ _ (S5 _ _ gk), s8 _ _ (S5 _ _ go)⟩
    rintro H3 acc3
    rw [List.length_map, lq2, List.take_length] at acc3
    obtain ⟨as3, s3, g3, p3⟩ := acc3.at_
    refine sort_read (R := TriAt) (d := trD) g3 p3 (fun a b h => tri_dp h) tri_alike (fun b => ⟨_, _, rfl⟩) tri_depth fun l' as' L' nl' pL pmL pwL => ?_
    have s4 := Same.upd_new (o := .lst (as'.map V.ref)) nl'
    have S := s1.trans (s2.trans (s3.trans s4))
    have nl : H l' = none := by
      cases c : H l' with
      | none => rfl
      | some o => rw [(s1.trans (s2.trans s3)) _ _ c] at nl'; cases nl'
    exact kk _ l' as' ys L' S nl upd_same (paired_imp (fun a b h => tri_stab _ _ _ _ (TupK.same s4) h) pL) pm asc pmL pwL
end
end Half

namespace Half
open PySem PySem.Spec PyProof.Rows L2
/-! ### InvalidDiversions -/
abbrev sIv : Stmt := inClass (top 7) 0
def spErrR (C : Addr) (fl : Str) : Sp := fun vs H Q _ => ∃ (a : Addr) (p : Str), vs = [.ref a, .str p] ∧ H a = some (exo a C none) ∧ (reprText p).length ≤ 1000 ∧
  ∀ dx, H dx = none → dx ≠ a → Q .non (upd (upd H dx (exd dx [(fl, .str p)])) a (exo a C (some dx)))
theorem scIv : SupScope ["self", "path"] ["self", "path"] (defScope sIv) := ⟨rfl, rfl, rfl, by decide +kernel, rfl, by decide +kernel, by decide +kernel, by decide +kernel, rfl, rfl⟩
section
variable {P : Program} {w : World} {K : PySem.W.Frag} {mg : Str → Option Value} {base : Heap}
theorem ok_iv {C f : Addr} {fd : FuncData} (F : ErrFn P K C "InvalidDiversions.__init__" sIv f fd) (T : SupC P K mg C) (nF : PySem.W.findIn K (.ref C) "path" = some none) : FnOk P w K mg base CX0 1 f fd ["self", "path"] (spErrR C "path") := by
  obtain ⟨oc, od, kV, doc, pm, an, cda, cc, ct, osl, ccl, cdd, vsc, ccs, file, tf, cl, cld, csl, rfl, lk, hcd, hcode, hvs, hfile, hcell⟩ := F.ex
  refine fn_sup (N := ["self", "path"]) lk hcd scIv rfl rfl rfl hcode hvs hfile hcell T (fun vs H Q E h => ?_) (fun _ => rfl) (fun _ => rfl) (fun _ => rfl) (fun A outer s H vs Q E hr h => ?_)
  · obtain ⟨a, p, rfl, _⟩ := h
    rfl
  · obtain ⟨a, p, rfl, ha, hp, k⟩ := h
    refine ⟨a, _, _, rfl, ha, pa_cons (pe_joined (.cons pe_str (.cons (pe_fmtR (pv 1)) (.cons pe_str .nil)))) pa_nil, pss_one (ps_ost (pv 0) (pv 1)), ?_⟩
    have : ("the path " : Str).length = 9 := by decide
    have : (" cannot be diverted so" : Str).length = 22 := by decide
    have e0 : (Str.empty).length = 0 := by decide
    refine ⟨_, rfl, (by decide), _, rfl, .inl ⟨p, rfl, Nat.le_trans hp (by decide), _, rfl, ?_, _, rfl, ?_, ?_⟩⟩
    · rw [app_len, app_len, sizeLine_eq]
      omega
    · rw [app_len, app_len, app_len, sizeLine_eq]
      omega
    · refine ⟨by show 1 ≤ 1000; decide, ha, ?_⟩
      refine ⟨_, rfl, _, rfl, a, C, rfl, T.oex, nF, .inl ⟨ha, fun dx h1 h2 => k dx h1 h2⟩⟩
end
/-! ### check_diversions, crowded: where one may be wrong -/
def WrgOf (fs : Fls) (es : Eds) (dl : Dvs) (w : Option Str) : Prop := ∃ ys zs ns, ys.Perm (keysOf es) ∧ Asc ys ∧ zs.Perm (dl.map (·.1)) ∧ sortedS zs = true ∧ IsNm (keysOf es) ns ∧ w = wrongY ns dl (allP fs ys ++ dl.map (·.1)) zs
theorem wrongY_mem {ns : List Str} {dl : Dvs} {z : Str} : ∀ {zs tk : List Str}, wrongY ns dl tk zs = some z → z ∈ zs
  | [], _, h => by cases h
  | y :: zs, tk, h => by
    cases c : lookD dl y with
    | none =>
      have e : wrongY ns dl tk (y :: zs) = none := by
        show (match lookD dl y with
          | some e => if !has ns e.2.2.1 || has tk e.2.2.2 then some y else wrongY ns dl (tk ++ [e.2.2.2]) zs
          | none => none) = _
        rw [c]
      rw [e] at h
      cases h
    | some e =>
      rw [wrongY_at c] at h
      split at h
      · injection h with h
        rw [h]
        exact .head _
      · exact .tail _ (wrongY_mem h)
theorem WrgOf.mem {fs : Fls} {es : Eds} {dl : Dvs} {z : Str} (h : WrgOf fs es dl (some z)) : ∃ e ∈ dl, e.1 = z := by
  obtain ⟨ys, zs, ns, _, _, pz, _, _, e⟩ := h
  exact List.mem_map.mp (pz.mem_iff.mp (wrongY_mem e.symm))
theorem WrgOf.uniq {fs : Fls} {es : Eds} {dl : Dvs} {w w' : Option Str} (h : WrgOf fs es dl w) (h' : WrgOf fs es dl w') : w = w' := by
  obtain ⟨ys, zs, ns, p1, a1, q1, s1, n1, e1⟩ := h
  obtain ⟨ys', zs', ns', p2, a2, q2, s2, n2, e2⟩ := h'
  obtain rfl : ys = ys' := asc_uniq p1 a1 p2 a2
  obtain rfl : ns = ns' := n1.uniq n2
  obtain rfl : zs = zs' := sorted_uniq txLe_as (sortedS_pw s1) (sortedS_pw s2) (q1.trans q2.symm)
  rw [e1, e2]
def DvOk (dl : Dvs) : Prop := ∀ e ∈ dl, (reprText e.1).length ≤ 1000
def spCv (K : PySem.W.Frag) (CT CY CV : Addr) : Sp := fun vs H Q E => ∃ (y dv st d1 d2 : Addr) (es : Eds) (fs : Fls) (ts : Tks) (dl : Dvs), vs = [.ref y, .ref dv] ∧ LayS K CT CY H y st d1 d2 es fs ts ∧ DvS K H dv dl ∧ DvOk dl ∧
  ∀ w, WrgOf fs es dl w → (w = none → ∀ H', Same H H' → Q .non H') ∧ ∀ z, w = some z → ∀ H' dd, Same H H' → H' dd = some (.xd [("path", .str z)]) → E (.ref CV) (some dd) H'
structure TxtV (P : Program) (w : World) (K : PySem.W.Frag) (mg : Str → Option Value) (base : Heap) (CV fV : Addr) (fdV : FuncData) : Prop where
  mgE : mg "InvalidDiversions" = some (.ref CV)
  sup : SupC P K mg CV
  nF : PySem.W.findIn K (.ref CV) "path" = some none
  iC : PySem.W.findIn K (.ref CV) "__init__" = some (some (.ref fV))
  tI : PySem.W.typeIn K (.ref fV) = some (.type "function")
  er : ErrFn P K CV "InvalidDiversions.__init__" sIv fV fdV
  bI : Binds K fdV ["self", "path"] []
section
variable {P : Program} {w : World} {K : PySem.W.Frag} {mg : Str → Option Value} {base : Heap} {CT CY CV fV : Addr} {fdV : FuncData}
theorem ok_cv {f : Addr} {fd : FuncData} (F : Fun K "check_diversions" "check_diversions" sCd f fd) (T : TxtV P w K mg base CV fV fdV) (dW : Def P w K mg base 5 "wrong_path" ["layout", "diversions"] (spWp K CT CY)) : FnOk P w K mg base (L2.CX P w) 6 f fd ["layout", "diversions"] (spCv K CT CY CV) := by
  refine F.okX scCd (fun vs H Q E h => ?_) (fun cdv A outer s H vs Q E hr h => ?_)
  · obtain ⟨y, dv, st, d1, d2, es, fs, ts, dl, rfl, _⟩ := h
    rfl
  · obtain ⟨y, dv, st, d1, d2, es, fs, ts, dl, rfl, L, hD, okD, kk⟩ := h
    have nd := scCd.nd
    have FI : FnOk P w K mg base CX0 1 fV fdV ["self", "path"] (spErrR CV "path") := ok_iv T.er T.sup T.nF
    refine ⟨_, pss_cons (ps_set (i := 2) nd rfl (Or.inl rfl) (pe_def dW hr rfl (pa_cons (pv 0) (pa_cons (pv 1) pa_nil))))
      (pss_one (ps_if (pt_cmp (pc_notN (pv 2))) (pss_one (ps_raise rfl (takes_of rfl rfl rfl rfl) (pmk_oex T.sup.oex T.iC T.tI FI (hr.mono (by decide)) T.bI .nil (fun _ _ _ _ _ _ _ h => h.elim) rfl T.mgE (pa_cons (pv 2) pa_nil)))) pss_nil)), ?_⟩
    refine ⟨_, rfl, _, rfl, y, dv, st, d1, d2, es, fs, ts, dl, rfl, L, hD, fun H1 ys zs ns s1 pm asc pz srt isn => ?_⟩
    obtain ⟨kN, kS⟩ := kk _ ⟨ys, zs, ns, pm, asc, pz, srt, isn, rfl⟩
    cases hw : wrongY ns dl (allP fs ys ++ dl.map (·.1)) zs with
    | none => exact ⟨_, rfl, false, rfl, iteF (kN hw H1 s1)⟩
    | some z =>
      have kE := kS z hw
      obtain ⟨e, he, hz⟩ := List.mem_map.mp (pz.mem_iff.mp (wrongY_mem hw))
      have lr := okD e he
      rw [hz] at lr
      refine ⟨_, rfl, true, rfl, ?_⟩
      refine iteT ?_
      refine ⟨_, rfl, (by show 1 ≤ 1000; decide), fun a ha => ⟨a, z, rfl, upd_same, lr, fun dd hd1 hd2 => ⟨rfl, dd, [("path", .str z)], upd_same, ?_, ?_, ?_⟩⟩⟩
      · rw [upd_ne hd2, upd_same]
      · rw [upd_ne hd2] at hd1
        exact hd1
      · rw [upd_ne hd2] at hd1
        refine kE _ dd (fun b o q => ?_) upd_same
        have q1 := s1 b o q
        have nb : b ≠ dd := ne_of_none q1 hd1
        have na : b ≠ a := ne_of_none q1 ha
        rw [upd_ne nb, del_ne na, upd_ne na, upd_ne nb, upd_ne na]
        exact q1
end
def clashG (ts : Tks) (ys : List Kk) (P : Kk → List Str) : List (Kk × Kk × Str) := (pairsL ts ys).flatMap fun p => ((P p.1).filter fun z => has (P p.2) z).map fun z => (p.1, p.2, z)
abbrev sCrd : Stmt := top 53
theorem scCrd : FnScope ["layout", "diversions", "key"] ["layout", "diversions"] (defScope sCrd) := ⟨rfl, rfl, rfl, by decide +kernel, rfl, by decide +kernel, by decide +kernel⟩
def spCrd (K : PySem.W.Frag) (CT CY CV : Addr) : Sp := fun vs H Q E => ∃ (y dv st d1 d2 : Addr) (es : Eds) (fs : Fls) (ts : Tks) (dl : Dvs), vs = [.ref y, .ref dv] ∧ LayS K CT CY H y st d1 d2 es fs ts ∧ DvS K H dv dl ∧ DvOk dl ∧
  ∀ w, WrgOf fs es dl w → (w = none → ∀ H' l as ys trs P, Same H H' → H l = none → H' l = some (.lst (as.map V.ref)) → Paired (TriAt H') as trs → ys.Perm (keysOf es) → Asc ys → (∀ k ∈ ys, (P k).Perm (placesM fs dl k) ∧ sortedS (P k) = true) → trs.Perm (clashG ts ys P) → SortedT trs → Q (.ref l) H') ∧
    ∀ z, w = some z → ∀ H' dd, Same H H' → H' dd = some (.xd [("path", .str z)]) → E (.ref CV) (some dd) H'
theorem takL_at {pl : Tks} {k : Kk} (h : k ∈ pl.map (·.1)) : ∃ e ∈ pl, e.1 = k ∧ takL pl k = e.2.2 := by
  have tl : takL pl k = match pl.find? fun e => decide (e.1 = k) with
    | some e => e.2.2
    | none => [] := rfl
  cases c : pl.find? fun e => decide (e.1 = k) with
  | none =>
    obtain ⟨x, hx, hxe⟩ := List.mem_map.mp h
    have := List.find?_eq_none.mp c x hx
    simp [hxe] at this
  | some x =>
    rw [c] at tl
    exact ⟨x, List.mem_of_find?_eq_some c, of_decide_eq_true (List.find?_some (p := fun (e : Kk × Addr × List Str) => decide (e.1 = k)) c), tl⟩
section
variable {P : Program} {w : World} {K : PySem.W.Frag} {mg : Str → Option Value} {base : Heap} {CT CY CV : Addr}
theorem ok_crd {f : Addr} {fd : FuncData} (F : Fun K "crowded" "crowded" sCrd f fd) (Y : LayP P w K mg base CY) (dE : Def P w K mg base 3 "edition_keys" ["store"] (spEk CT)) (dD : DefX P w K mg base 6 "check_diversions" ["layout", "diversions"] (spCv K CT CY CV)) (dP : Def P w K mg base 5 "places_of" ["layout", "diversions", "key"] (spPs K CT CY)) (dC : Def P w K mg base 5 "clashes" ["layout", "places"] (spClt K CT CY)) : FnOk P w K mg base (L2.CX P w) 7 f fd ["layout", "diversions"] (spCrd K CT CY CV) := by
  refine F.okX scCrd (fun vs H Q E h => ?_) (fun cdv A outer s H vs Q E hr h => ?_)
  · obtain ⟨y, dv, st, d1, d2, es, fs, ts, dl, rfl, _⟩ := h
    rfl
  · obtain ⟨y, dv, st, d1, d2, es, fs, ts, dl, rfl, L0, hD, okD, kk0⟩ := h
    have nd := scCrd.nd
    have hu1 := hu_of hr
    have r2 : Room 2 _ := hr.mono (by decide)
    have r3 : Room 3 _ := hr.mono (by decide)
    have r5 : Room 5 _ := hr.mono (by decide)
    refine ⟨_, pss_cons (ps_expr (pe_defX dD hr rfl (passes_call (takes_of rfl rfl rfl rfl) (fun _ _ _ _ h => h)) (pa_cons (pv 0) (pa_cons (pv 1) pa_nil))))
      (pss_one (ps_ret (pe_def dC r5 rfl (pa_cons (pv 0) (pa_cons (pe_dcG (own := [("key", 2)]) (g := gName 2) (tt := tYes) (tk := tVar 2) (tv := tCall (spPs K CT CY) [] E0 (tCons (tVar 0) (tCons (tVar 1) (tCons (tVar 2) tNil)))) Bare.t hu1 rfl nd (pi_list (pe_def dE r3 rfl (pa_cons (pe_lsP Y r2 (pv 0)) pa_nil))) (blkOk_by (N := ["layout", "diversions", "key"]) (sc := defScope sCrd) (by decide +kernel))
        (fun _ _ _ _ _ => pg_name (i := 2) nd rfl (Or.inl rfl)) (fun _ _ _ _ _ => pts_nil) (fun _ _ _ _ _ => pv 2) (fun _ _ _ _ _ => pe_def dP r5 rfl (pa_cons (pv 0) (pa_cons (pv 1) (pa_cons (pv 2) pa_nil))))) pa_nil))))), ?_⟩
    refine ⟨_, rfl, _, rfl, y, dv, st, d1, d2, es, fs, ts, dl, rfl, L0, hD, okD, fun wr hwr => ⟨fun wn H0 s0 => ?_, (kk0 wr hwr).2⟩⟩
    have kk := (kk0 wr hwr).1 wn
    have L := L0.same s0
    have hD := hD.same s0
    obtain ⟨dx, hy⟩ := L.la.ob
    refine ⟨_, rfl, ?_⟩
    refine ⟨_, rfl, y, dx, _, rfl, hy, y, st, d1, d2, fs, ts, rfl, L.la, ?_⟩
    refine ⟨st, es, rfl, L.sto, L.few, fun H1 kl qs ys s1 nkl gkl pk pm asc => ?_⟩
    have L1 := L.same s1
    have ndy : ys.Nodup := pm.symm.nodup_iff.mp L.sto.one
    have ly : ys.length ≤ 40 := by
      rw [pm.length_eq]
      unfold keysOf
      rw [List.length_map]
      exact L.few
    have lq := Paired.length pk
    refine ⟨kl, rfl, ⟨_, SqL.of gkl⟩, fun D hD0 => ?_⟩
    refine dcG_it (walk_list (xs := qs.map V.ref)) (fun i H' => Same H1 H' ∧ ∃ pl : Tks, pl.map (·.1) = ys.take i ∧ (∀ e ∈ pl, e.2.2.Perm (placesM fs dl e.1) ∧ sortedS e.2.2 = true ∧ SqT K H' e.2.1 (e.2.2.map V.str)) ∧ H' D = some (.dT (kvG (fun p : Addr × List Str => p.1) pl))) ⟨Same.upd_new hD0, [], rfl, fun e h => (nomatch h), upd_same⟩ (fun _ _ _ h => SqL.of (h.1 _ _ gkl)) ?_ ?_
    · rintro i v H4 H5 hi ⟨s4, pl, ek, ev, gD⟩ ⟨rfl, hv⟩
      obtain ⟨q, hq, rfl⟩ := getE hv
      obtain ⟨k, hk, gk⟩ := paired_get pk hq
      refine ⟨rfl, ?_⟩
      refine ⟨_, rfl, _, rfl, _, rfl, _, rfl, y, dv, q, st, d1, d2, es, fs, ts, dl, k, rfl, L1.same s4, (hD.same s1).same s4, s4 _ _ gk, fun H6 a zs s6 ga pz srt => ?_⟩
      have lp : pl.length ≤ 40 := by
        have h := congrArg List.length ek
        rw [List.length_map] at h
        rw [h]
        exact Nat.le_trans (List.take_sublist ..).length_le ly
      have ek2 : (pl ++ [(k, a, zs)]).map (·.1) = ys.take (i + 1) := by rw [List.map_append, ek, take_next hk]; rfl
      have new := kvG_new (v := fun p : Addr × List Str => p.1) (l := pl ++ [(k, a, zs)]) (i := pl.length) (e := (k, a, zs)) (by rw [ek2]; exact ndy.sublist (List.take_sublist ..)) (by rw [List.getElem?_append_right (Nat.le_refl _), Nat.sub_self]; rfl)
      rw [List.take_append_of_le_length (Nat.le_refl _), List.take_length] at new
      have gD6 := s6 _ _ gD
      have kp : Kp K H6 (upd H6 D (.dT (putK (kvG (fun p : Addr × List Str => p.1) pl) (keyL k) (.ref a)))) := Kp.upd gD6 (fun _ z => by cases z) (fun _ _ z => by cases z)
      refine ⟨_, DPut.t (k := keyL k) gD6 (s6 _ _ (s4 _ _ gk)) (by unfold kvG; rw [List.length_map, sizeLine_eq]; omega), fun b o q' => ?_, pl ++ [(k, a, zs)], ek2, fun e he => ?_, ?_⟩
      · rw [upd_ne (ne_of_none q' hD0)]
        exact s6 _ _ (s4 _ _ q')
      · rcases List.mem_append.mp he with he | he
        · obtain ⟨e1, e2, e3⟩ := ev e he
          exact ⟨e1, e2, kp _ _ (s6.sqT e3)⟩
        · rw [List.mem_singleton.mp he]
          exact ⟨pz, srt, kp _ _ ga⟩
      · rw [putK_new _ new, upd_same]
        unfold kvG
        rw [List.map_append]
        rfl
    · rintro H4 ⟨s4, pl, ek, ev, gD⟩
      rw [List.length_map, lq, List.take_length] at ek
      have S := s1.trans s4
      refine ⟨y, D, st, d1, d2, es, fs, ts, pl, rfl, L.same S, ⟨gD, fun e he => (ev e he).2.2, by rw [ek]; exact ndy, fun e he => ?_⟩, fun k hk => by rw [ek]; exact pm.mem_iff.mpr hk, fun H5 l as ys2 trs s5 nl gl pl2 pm2 asc2 pt srt => ?_⟩
      · rw [(ev e he).1.length_eq]
        unfold placesM pathsL
        rw [List.length_map, List.length_map]
        exact filL_len L.s e.1
      · obtain rfl : ys2 = ys := asc_uniq pm2 asc2 pm asc
        have nH : H l = none := by
          cases q : H l with
          | none => rfl
          | some o => rw [(s0.trans S) _ _ q] at nl; cases nl
        refine kk H5 l as ys2 trs (takL pl) ((s0.trans S).trans s5) nH gl pl2 pm2 asc2 (fun k hk => ?_) pt srt
        obtain ⟨e, he, rfl, et⟩ := takL_at (pl := pl) (k := k) (by rw [ek]; exact hk)
        rw [et]
        exact ⟨(ev e he).1, (ev e he).2.1⟩
end
end Half

namespace Half
open PySem PySem.Spec PyProof.Rows L2
/-! ### check_key, placed -/
abbrev sCk : Stmt := top 49
abbrev sPd : Stmt := top 52
theorem scCk : FnScope ["layout", "key"] ["layout", "key"] (defScope sCk) := ⟨rfl, rfl, rfl, by decide +kernel, rfl, by decide +kernel, by decide +kernel⟩
theorem scPd : FnScope ["layout", "diversions", "key"] ["layout", "diversions", "key"] (defScope sPd) := ⟨rfl, rfl, rfl, by decide +kernel, rfl, by decide +kernel, by decide +kernel⟩
def spCk (K : PySem.W.Frag) (CT CY CU : Addr) : Sp := fun vs H Q E => ∃ (y q st d1 d2 : Addr) (es : Eds) (fs : Fls) (ts : Tks) (k : Kk), vs = [.ref y, .ref q] ∧ LayS K CT CY H y st d1 d2 es fs ts ∧ KeyAt H q k ∧ (k ∈ keysOf es → Q .non H) ∧ (k ∉ keysOf es → E (.ref CU) none H)
def spPd (K : PySem.W.Frag) (CT CY CV CU : Addr) : Sp := fun vs H Q E => ∃ (y dv q st d1 d2 : Addr) (es : Eds) (fs : Fls) (ts : Tks) (dl : Dvs) (k : Kk), vs = [.ref y, .ref dv, .ref q] ∧ LayS K CT CY H y st d1 d2 es fs ts ∧ DvS K H dv dl ∧ DvOk dl ∧ KeyAt H q k ∧
  ∀ w, WrgOf fs es dl w → (w = none → (k ∈ keysOf es → ∀ H' a ys, Same H H' → SqT K H' a (ys.map V.str) → ys.Perm (placesM fs dl k) → sortedS ys = true → Q (.ref a) H') ∧ (k ∉ keysOf es → ∀ H', Same H H' → E (.ref CU) none H')) ∧
    ∀ z, w = some z → ∀ H' dd, Same H H' → H' dd = some (.xd [("path", .str z)]) → E (.ref CV) (some dd) H'
section
variable {P : Program} {w : World} {K : PySem.W.Frag} {mg : Str → Option Value} {base : Heap} {CT CY CN CU CV : Addr}
theorem ok_ck {f : Addr} {fd : FuncData} (F : Fun K "check_key" "check_key" sCk f fd) (Y : LayP P w K mg base CY) (HF : HasF P w K mg base CT) (eu : ErrC K mg "UnknownEdition" CU) : FnOk P w K mg base (L2.CX P w) 3 f fd ["layout", "key"] (spCk K CT CY CU) := by
  refine F.okX scCk (fun vs H Q E h => ?_) (fun cdv A outer s H vs Q E hr h => ?_)
  · obtain ⟨y, q, st, d1, d2, es, fs, ts, k, rfl, _⟩ := h
    rfl
  · obtain ⟨y, q, st, d1, d2, es, fs, ts, k, rfl, L, hq, kY, kN⟩ := h
    have r1 : Room 1 _ := hr.mono (by decide)
    refine ⟨_, pss_one (ps_if (pt_cmpR (op_notinS HF r1) (pv 1) (pe_lsP Y hr (pv 0)) (by rfl)) (pss_one (ps_raise rfl (takes_of rfl rfl rfl rfl) (pmk_own PySem.F.excBase_ValueError eu.x eu.g eu.k (raises_own eu.b eu.t) rfl))) pss_nil), ?_⟩
    obtain ⟨dx, hy⟩ := L.la.ob
    refine ⟨_, rfl, _, rfl, y, dx, _, rfl, hy, y, st, d1, d2, fs, ts, rfl, L.la, ?_⟩
    refine inS_read L.sto hq ?_
    refine ⟨_, rfl, ?_⟩
    by_cases hm : k ∈ keysOf es
    · rw [has_iff.mpr hm]
      refine ite_no rfl ?_
      exact kY hm
    · rw [has_no hm]
      refine ite_yes rfl ?_
      exact kN hm
theorem ok_pd {f : Addr} {fd : FuncData} (F : Fun K "placed" "placed" sPd f fd) (dD : DefX P w K mg base 6 "check_diversions" ["layout", "diversions"] (spCv K CT CY CV)) (dK : DefX P w K mg base 3 "check_key" ["layout", "key"] (spCk K CT CY CU)) (dP : Def P w K mg base 5 "places_of" ["layout", "diversions", "key"] (spPs K CT CY)) : FnOk P w K mg base (L2.CX P w) 7 f fd ["layout", "diversions", "key"] (spPd K CT CY CV CU) := by
  refine F.okX scPd (fun vs H Q E h => ?_) (fun cdv A outer s H vs Q E hr h => ?_)
  · obtain ⟨y, dv, q, st, d1, d2, es, fs, ts, dl, k, rfl, _⟩ := h
    rfl
  · obtain ⟨y, dv, q, st, d1, d2, es, fs, ts, dl, k, rfl, L, hD, okD, hq, kk⟩ := h
    have r3 : Room 3 _ := hr.mono (by decide)
    have r5 : Room 5 _ := hr.mono (by decide)
    refine ⟨_, pss_cons (ps_expr (pe_defX dD hr rfl (passes_call (takes_of rfl rfl rfl rfl) (fun _ _ _ _ h => h)) (pa_cons (pv 0) (pa_cons (pv 1) pa_nil))))
      (pss_cons (ps_expr (pe_defX dK r3 rfl (passes_call (takes_of rfl rfl rfl rfl) (fun _ _ _ _ h => h)) (pa_cons (pv 0) (pa_cons (pv 2) pa_nil))))
      (pss_one (ps_ret (pe_def dP r5 rfl (pa_cons (pv 0) (pa_cons (pv 1) (pa_cons (pv 2) pa_nil))))))), ?_⟩
    refine ⟨_, rfl, _, rfl, y, dv, st, d1, d2, es, fs, ts, dl, rfl, L, hD, okD, fun wr hwr => ⟨fun wn H0 s0 => ?_, (kk wr hwr).2⟩⟩
    obtain ⟨kY, kN⟩ := (kk wr hwr).1 wn
    refine ⟨_, rfl, _, rfl, y, q, st, d1, d2, es, fs, ts, k, rfl, L.same s0, s0 _ _ hq, fun hm => ?_, fun hm => kN hm H0 s0⟩
    refine ⟨_, rfl, _, rfl, _, rfl, y, dv, q, st, d1, d2, es, fs, ts, dl, k, rfl, L.same s0, hD.same s0, s0 _ _ hq, fun H' a ys s g p srt => ?_⟩
    exact kY hm H' a ys (s0.trans s) g p srt
end
end Half

namespace Half
open PySem PySem.Spec PyProof.Rows L2
/-! ### _law_wrong -/
abbrev sWr : Stmt := top 59
abbrev WrN : List Str := ["_law_layout_here", "_law_paths", "_law_put_here", "_law_met", "_law_path", "_law_name", "_law_other"]
theorem scWr : FnScope WrN ["_law_layout_here", "_law_paths", "_law_put_here"] (defScope sWr) := ⟨rfl, rfl, rfl, by decide +kernel, rfl, by decide +kernel, by decide +kernel⟩
def spWr (K : PySem.W.Frag) (CT CY : Addr) : Sp := fun vs H Q _ => ∃ (y pl dv st d1 d2 : Addr) (es : Eds) (fs : Fls) (ts : Tks) (dl : Dvs) (ps ns : List Str), vs = [.ref y, .ref pl, .ref dv] ∧ LayS K CT CY H y st d1 d2 es fs ts ∧ DvS K H dv dl ∧ H pl = some (.lst (ps.map V.str)) ∧ IsNm (keysOf es) ns ∧
  ∀ H' zs, Same H H' → zs.Perm (dl.map (·.1)) → sortedS zs = true → Q (optV (wrongY ns dl (ps ++ dl.map (·.1)) zs)) H'
section
variable {P : Program} {w : World} {K : PySem.W.Frag} {mg : Str → Option Value} {base : Heap} {CT CY : Addr}
theorem ok_wr {f : Addr} {fd : FuncData} (F : Fun K "_law_wrong" "_law_wrong" sWr f fd) (gS : mg "sorted" = none) (Y : LayP P w K mg base CY) (N : NamF P w K mg base CT) : FnOk P w K mg base CX0 3 f fd ["_law_layout_here", "_law_paths", "_law_put_here"] (spWr K CT CY) := by
  refine F.ok scWr (fun vs H Q E h => ?_) (fun cdv A outer s H vs Q E hr h => ?_)
  · obtain ⟨y, pl, dv, st, d1, d2, es, fs, ts, dl, ps, ns, rfl, _⟩ := h
    rfl
  · obtain ⟨y, pl, dv, st, d1, d2, es, fs, ts, dl, ps, ns, rfl, L, hD, gP, isn, kk⟩ := h
    have nd := scWr.nd
    have hu1 := hu_of hr
    have r2 : Room 2 _ := hr.mono (by decide)
    refine ⟨_, pss_cons (ps_set (i := 3) nd rfl (Or.inl rfl) (pe_lst pa_nil))
      (pss_cons (ps_for PassesOwn.never rfl (pi_list (pe_callB (cr_sortDS rfl) (by rfl) gS (by decide +kernel) (pa_cons (pv 2) pa_nil))) (pg_name (i := 4) nd rfl (by first | exact Or.inl rfl | exact Or.inr rfl))
        (pss_cons (ps_asg (pe_dget hu1 (pv 2) (pv 4) (fun _ _ => rfl)) (pg_tup rfl (pgs_cons (pg_name (i := 5) nd rfl (by first | exact Or.inl rfl | exact Or.inr rfl)) (pgs_cons (pg_name (i := 6) nd rfl (by first | exact Or.inl rfl | exact Or.inr rfl)) pgs_nil))))
        (pss_cons (ps_if (PW.pt (pw_or (pt_cmpR op_notIn_seq (pv 5) (pe_nam N r2 (pe_lsP Y r2 (pv 0))) (by rfl)) (pw_or (pt_cmpR op_in_seq (pv 6) (pv 1) (by rfl)) (pw_or (pt_cmp (pc_din hu1 (pv 6) (pv 2))) (pw_or1 (pt_cmpR op_in_seq (pv 6) (pv 3) (by rfl))))))) (pss_one (ps_ret (pv 4))) pss_nil)
        (pss_one (ps_expr (pe_bm PySem.F.plainAttrs_list PySem.F.slot_list_append PySem.F.type_list_append mt_append (pv 3) (pa_cons (pv 6) pa_nil)))))))
      (pss_one (ps_ret pe_non))), ?_⟩
    refine ⟨Nat.zero_le _, fun ml nml => ?_⟩
    have s0 := Same.upd_new (o := .lst []) nml
    have g0 : upd H ml (.lst []) ml = some (.lst (([] : List Str).map V.str)) := upd_same
    generalize upd H ml (.lst []) = H0 at s0 g0 ⊢
    have hD0 := hD.same s0
    have fewD := hD.few
    refine ⟨_, rfl, dv, kvD dl, dl.map (·.1), rfl, .inl hD0.g, by unfold kvD; rw [List.map_map, List.map_map]; rfl, by rw [List.length_map]; omega, fun zs p pmz srt np => ?_⟩
    have s1 := Same.upd_new (o := .lst (zs.map V.str)) np
    have gp : upd H0 p (.lst (zs.map V.str)) p = some (.lst (zs.map V.str)) := upd_same
    have S1 := s0.trans s1
    have g1 := s1 _ _ g0
    have npm : p ≠ ml := fun e => by rw [e, g0] at np; cases np
    generalize upd H0 p (.lst (zs.map V.str)) = H1 at gp S1 g1 ⊢
    have lz : zs.length ≤ 20 := by
      rw [pmz.length_eq, List.length_map]
      exact fewD
    have res : ∀ H', Same H H' → Q (optV (wrongY ns dl (ps ++ dl.map (·.1)) zs)) H' := fun H' S => kk H' zs S pmz srt
    refine ⟨p, rfl, ⟨_, SqL.of gp⟩, ?_⟩
    refine for_it (walk_list (xs := zs.map V.str)) (fun i σ H' => ∃ x4 x5 x6 met, σ = [some (.ref y), some (.ref pl), some (.ref dv), some (.ref ml), x4, x5, x6] ∧ Same H H' ∧ H' p = some (.lst (zs.map V.str)) ∧ H' ml = some (.lst (met.map V.str)) ∧ met.length ≤ i ∧ wrongY ns dl (ps ++ dl.map (·.1)) zs = wrongY ns dl (ps ++ dl.map (·.1) ++ met) (zs.drop i))
      ⟨none, none, none, [], rfl, S1, gp, g1, Nat.le_refl _, by rw [List.append_nil]; rfl⟩ ?_ ?_ ?_
    · rintro i σ H' _ ⟨x4, x5, x6, met, rfl, S, g, _⟩
      exact SqL.of g
    · rintro i v σ H7 H8 hi ⟨x4, x5, x6, met, rfl, S, g, gm, lm, eq⟩ ⟨rfl, hv⟩
      obtain ⟨z, hz, rfl⟩ := getE hv
      rw [List.length_map] at hi
      have dz : zs.drop i = z :: zs.drop (i + 1) := by
        rw [List.drop_eq_getElem_cons hi, (List.getElem?_eq_some_iff.mp hz).2]
      obtain ⟨e, le, hem, rfl⟩ := lookD_in (pmz.mem_iff.mp (List.mem_of_getElem? hz))
      have hD8 := hD.same S
      have L8 := L.same S
      rw [dz, wrongY_at le, has_app, has_app] at eq
      refine ⟨_, rfl, _, rfl, dv, .ref e.2.1, rfl, .inl ⟨kvD dl, .inr e.1, .inl hD8.g, rfl, by rw [kvD_val, le]; rfl⟩, ?_⟩
      refine ⟨e.2.1, _, rfl, hD8.t e hem, rfl, ?_⟩
      refine ⟨_, _, rfl, _, _, rfl, rfl, ?_⟩
      obtain ⟨⟨dy, tb, nb, hst, -⟩, -⟩ := id L8.sto
      obtain ⟨dx, hy⟩ := L8.la.ob
      refine ⟨_, rfl, _, rfl, y, dx, _, rfl, hy, y, st, d1, d2, fs, ts, rfl, L8.la, st, dy, _, rfl, hst, st, es, rfl, L8.sto, fun ys2 nt pm2 asc2 nnt => ?_⟩
      have en := (isNm_of pm2 asc2).uniq isn
      rw [en]
      have s9 := Same.upd_new (o := .tup (ns.map V.str)) nnt
      refine ⟨nt, _, rfl, .inr (SqT.of upd_same), rfl, flat_strs _, ?_⟩
      rw [if_pos rfl, inV_str]
      have S9 := S.trans s9
      have g9 := s9 _ _ g
      have gm9 := s9 _ _ gm
      have nmp : ml ≠ p := Ne.symm npm
      generalize upd H8 nt (.tup (ns.map V.str)) = H9 at S9 g9 gm9 ⊢
      refine ⟨_, rfl, ?_⟩
      have yes : (!has ns e.2.2.1 || (has ps e.2.2.2 || has (dl.map (·.1)) e.2.2.2 || has met e.2.2.2)) = true → Q (.str e.1) H9 := fun c => by
        have h := res H9 S9
        rw [eq, c] at h
        exact h
      cases c1 : has ns e.2.2.1 with
      | false =>
        refine iteT ?_
        refine iteT ?_
        exact ⟨_, rfl, yes (by rw [c1]; rfl)⟩
      | true =>
        refine iteF ?_
        refine ⟨_, rfl, _, rfl, pl, _, rfl, .inl (SqL.of (S9 _ _ gP)), rfl, flat_strs _, ?_⟩
        rw [if_neg Bool.false_ne_true, inV_str]
        refine ⟨_, rfl, ?_⟩
        cases c2 : has ps e.2.2.2 with
        | true =>
          refine iteT ?_
          refine iteT ?_
          exact ⟨_, rfl, yes (by rw [c1, c2]; rfl)⟩
        | false =>
          refine iteF ?_
          refine ⟨_, rfl, _, rfl, dv, _, rfl, DGet.k (k := .inr e.2.2.2) (hD.same S9).g, ?_⟩
          refine ⟨_, rfl, ?_⟩
          have e3 : (valV (kvD dl) (.inr e.2.2.2)).isSome = has (dl.map (·.1)) e.2.2.2 := by
            rw [kvD_val]
            cases c : lookD dl e.2.2.2 with
            | some x =>
              have := lookD_in (dl := dl) (z := e.2.2.2)
              rw [has_iff.mpr]
              · rfl
              · have h1 := List.mem_of_find?_eq_some c
                have h2 : x.1 = e.2.2.2 := of_decide_eq_true (List.find?_some (p := fun (y : Str × Addr × Str × Str) => decide (y.1 = e.2.2.2)) c)
                exact List.mem_map.mpr ⟨x, h1, h2⟩
            | none =>
              rw [has_no]
              · rfl
              · intro h
                obtain ⟨x, hx, _⟩ := lookD_in h
                rw [c] at hx
                cases hx
          rw [e3]
          cases c3 : has (dl.map (·.1)) e.2.2.2 with
          | true =>
            refine iteT ?_
            refine iteT ?_
            exact ⟨_, rfl, yes (by rw [c1, c2, c3]; rfl)⟩
          | false =>
            refine iteF ?_
            refine ⟨_, rfl, _, rfl, ml, _, rfl, .inl (SqL.of gm9), rfl, flat_strs _, ?_⟩
            rw [if_neg Bool.false_ne_true, inV_str]
            refine ⟨_, rfl, ?_⟩
            cases c4 : has met e.2.2.2 with
            | true =>
              refine iteT ?_
              exact ⟨_, rfl, yes (by rw [c1, c2, c3, c4]; rfl)⟩
            | false =>
              refine iteF ?_
              rw [c1, c2, c3, c4] at eq
              refine ⟨_, rfl, .inl ⟨rfl, _, SqL.of gm9⟩, _, rfl, ?_⟩
              refine ⟨ml, _, _, rfl, rfl, gm9, by rw [List.length_map, sizeLine_eq]; omega, ?_⟩
              refine ⟨_, _, _, met ++ [e.2.2.2], rfl, fun b o hb => ?_, ?_, by rw [upd_same, List.map_append]; rfl, by rw [List.length_append]; show _ + 1 ≤ _; omega, ?_⟩
              · rw [upd_ne (ne_of_none hb nml)]
                exact S9 _ _ hb
              · rw [upd_ne npm]
                exact g9
              · rw [eq, List.append_assoc, List.append_assoc]
                rfl
    · rintro σ H7 ⟨x4, x5, x6, met, rfl, S, g, gm, lm, eq⟩
      rw [List.length_map, List.drop_length] at eq
      have h := res H7 S
      rw [eq] at h
      exact h
end
end Half

namespace Half
open PySem PySem.Spec PyProof.Rows L2
/-! ### rivals by places in their order -/
theorem tr_lt (a b : Kk × Kk × Str) : PySem.W.dataLt (trD a) (trD b) = if a.1 = b.1 then (if a.2.1 = b.2.1 then (if a.2.2 = b.2.2 then false else decide (a.2.2.cps.toList < b.2.2.cps.toList)) else PySem.W.dataLt (kD a.2.1) (kD b.2.1)) else PySem.W.dataLt (kD a.1) (kD b.1) := by
  unfold trD
  rw [PySem.W.dataLt_tuple, PySem.W.dataLt_cons (kD_alike _ _), kD_eqv]
  by_cases c1 : a.1 = b.1
  · rw [if_pos (decide_eq_true c1), if_pos c1, PySem.W.dataLt_cons (kD_alike _ _), kD_eqv]
    by_cases c2 : a.2.1 = b.2.1
    · rw [if_pos (decide_eq_true c2), if_pos c2, PySem.W.dataLt_cons (by simp [PySem.W.alike])]
      by_cases c3 : a.2.2 = b.2.2
      · rw [if_pos (by simp [PyData.eqv, c3]), if_pos c3, ← PySem.W.dataLt_tuple]
        exact PySem.W.dataLt_self _
      · rw [if_neg (by simp [PyData.eqv, c3]), if_neg c3, PySem.W.dataLt_str]
    · rw [if_neg (by simp [c2]), if_neg c2]
  · rw [if_neg (by simp [c1]), if_neg c1]
theorem tr_anti {a b : Kk × Kk × Str} (h1 : PySem.W.dataLt (trD a) (trD b) = false) (h2 : PySem.W.dataLt (trD b) (trD a) = false) : a = b := by
  rw [tr_lt] at h1 h2
  by_cases c1 : a.1 = b.1
  · rw [if_pos c1] at h1
    rw [if_pos c1.symm] at h2
    by_cases c2 : a.2.1 = b.2.1
    · rw [if_pos c2] at h1
      rw [if_pos c2.symm] at h2
      by_cases c3 : a.2.2 = b.2.2
      · exact Prod.ext c1 (Prod.ext c2 c3)
      · rw [if_neg c3] at h1
        rw [if_neg (Ne.symm c3)] at h2
        exact absurd (txLe_as a.2.2 b.2.2 h2 h1) c3
    · rw [if_neg c2] at h1
      rw [if_neg (Ne.symm c2)] at h2
      exact absurd (kD_anti h1 h2) c2
  · rw [if_neg c1] at h1
    rw [if_neg (Ne.symm c1)] at h2
    exact absurd (kD_anti h1 h2) c1
theorem sorted_same {a b L : List (Kk × Kk × Str)} (pa : a.Perm L) (pb : b.Perm L) (sa : SortedT a) (sb : SortedT b) : a = b :=
  sorted_uniq (le := fun x y : Kk × Kk × Str => PySem.W.dataLt (trD y) (trD x) = false) (fun x y h1 h2 => tr_anti h2 h1) sa sb (pa.trans pb.symm)
theorem dp_tris {K : PySem.W.Frag} {H : Hp} : ∀ {as : List Addr} {L : List (Kk × Kk × Str)}, Paired (TriAt H) as L → DpAll K H (as.map V.ref) (L.map trD)
  | _, _, .nil => .nil
  | _, _, .cons a t => .cons (tri_dp a) (dp_tris t)
def TriOk (t : Kk × Kk × Str) : Prop := PyData.strOk t.1.1 = true ∧ PyData.strOk t.2.1.1 = true ∧ PyData.strOk t.2.2 = true
theorem lay_tri {t : Kk × Kk × Str} (h : TriOk t) : PyData.canLay0 (trD t) = true ∧ PyData.depth (trD t) ≤ 2 := lay_tup (n := 1) fun d hd => by
  rcases List.mem_cons.mp hd with rfl | hd
  · exact lay_kD h.1
  · rcases List.mem_cons.mp hd with rfl | hd
    · exact lay_kD h.2.1
    · rw [List.mem_singleton.mp hd]
      exact lay_str h.2.2
theorem shaped_tris {L : List (Kk × Kk × Str)} (h : ∀ t ∈ L, TriOk t) : SeqAt.shaped (.list (L.map trD)) = true := shaped_of (n := 3) (lay_list (n := 2) fun d hd => by
  obtain ⟨t, ht, rfl⟩ := List.mem_map.mp hd
  exact lay_tri (h t ht)) (by decide)
theorem clashG_sorted {ts : Tks} {ys : List Kk} {P : Kk → List Str} (asc : Asc ys) (nd : ys.Nodup) (hP : ∀ k ∈ ys, (P k).Pairwise txLe) : SortedT (clashG ts ys P) := by
  unfold SortedT clashG
  have an : ys.Pairwise fun a b => pLt b a = false ∧ a ≠ b := List.Pairwise.and asc nd
  rw [List.pairwise_flatMap]
  refine ⟨fun p hp => ?_, ?_⟩
  · obtain ⟨k, hk, h⟩ := List.mem_flatMap.mp hp
    obtain ⟨o, ho, rfl⟩ := List.mem_map.mp h
    rw [List.pairwise_map]
    refine ((hP k hk).sublist List.filter_sublist).imp fun {a b} h => ?_
    rw [tr_lt, if_pos rfl, if_pos rfl]
    by_cases c : b = a
    · rw [if_pos c]
    · rw [if_neg c]
      exact h
  · unfold pairsL
    rw [List.pairwise_flatMap]
    refine ⟨fun k hk => ?_, ?_⟩
    · rw [List.pairwise_map]
      refine (an.sublist List.filter_sublist).imp fun {a b} h x hx y hy => ?_
      obtain ⟨z1, h1, rfl⟩ := List.mem_map.mp hx
      obtain ⟨z2, h2, rfl⟩ := List.mem_map.mp hy
      rw [tr_lt, if_pos rfl, if_neg (Ne.symm h.2), kD_lt]
      exact h.1
    · refine an.imp fun {a b} h p hp q hq x hx y hy => ?_
      obtain ⟨o1, _, rfl⟩ := List.mem_map.mp hp
      obtain ⟨o2, _, rfl⟩ := List.mem_map.mp hq
      obtain ⟨z1, h1, rfl⟩ := List.mem_map.mp hx
      obtain ⟨z2, h2, rfl⟩ := List.mem_map.mp hy
      rw [tr_lt, if_neg (Ne.symm h.2), kD_lt]
      exact h.1
theorem clashG_congr {ts : Tks} {ys : List Kk} {P R : Kk → List Str} (h : ∀ k ∈ ys, P k = R k) : clashG ts ys P = clashG ts ys R := by
  unfold clashG
  refine flatMap_same fun p hp => ?_
  obtain ⟨h1, h2⟩ := pairs_in hp
  rw [h _ h1, h _ h2]
/-! ### _law_crowded -/
theorem flatMap_filter {α β : Type} {p : α → Bool} {g : α → List β} : ∀ {l : List α}, (l.filter p).flatMap g = l.flatMap fun x => if p x = true then g x else []
  | [] => rfl
  | x :: l => by
    rw [List.flatMap_cons, ← flatMap_filter]
    by_cases c : p x = true
    · rw [List.filter_cons_of_pos c, List.flatMap_cons, if_pos c]
    · rw [List.filter_cons_of_neg c, if_neg c, List.nil_append]
theorem flatMap_map' {α β γ : Type} {f : α → β} {g : β → List γ} : ∀ {l : List α}, (l.map f).flatMap g = l.flatMap fun x => g (f x)
  | [] => rfl
  | x :: l => by rw [List.map_cons, List.flatMap_cons, List.flatMap_cons, flatMap_map']
theorem flatMap_flatMap' {α β γ : Type} {f : α → List β} {g : β → List γ} : ∀ {l : List α}, (l.flatMap f).flatMap g = l.flatMap fun x => (f x).flatMap g
  | [] => rfl
  | x :: l => by rw [List.flatMap_cons, List.flatMap_append, List.flatMap_cons, flatMap_flatMap']
abbrev sCw : Stmt := top 60
abbrev CwN : List Str := ["_law_layout_here", "_law_places", "_law_found", "_law_keys_here", "_law_one", "_law_other", "_law_is_taken", "_law_spot"]
theorem scCw : FnScope CwN ["_law_layout_here", "_law_places"] (defScope sCw) := ⟨rfl, rfl, rfl, by decide +kernel, rfl, by decide +kernel, by decide +kernel⟩
def spCw (K : PySem.W.Frag) (CT CY : Addr) : Sp := fun vs H Q _ => ∃ (y dp st d1 d2 : Addr) (es : Eds) (fs : Fls) (ts pl : Tks), vs = [.ref y, .ref dp] ∧ LayS K CT CY H y st d1 d2 es fs ts ∧ es.length ≤ 6 ∧ PlT K H dp pl ∧ (∀ e ∈ pl, sortedS e.2.2 = true) ∧ (∀ k ∈ keysOf es, k ∈ pl.map (·.1)) ∧
  ∀ H' l as ys, Same H H' → H' l = some (.lst (as.map V.ref)) → Paired (TriAt H') as (clashG ts ys (takL pl)) → ys.Perm (keysOf es) → Asc ys → Q (.ref l) H'
def cwBody : List Stmt := forBody (nth (forBody (nth (defBody sCw) 1)) 0)
def cwOne (ts pl : Tks) (k o : Kk) : List (Kk × Kk × Str) := if (kLt k o && canB ts k o) = true then ((takL pl k).filter fun z => has (takL pl o) z).map fun z => (k, o, z) else []
theorem cw_eq (ts pl : Tks) (ys : List Kk) : (ys.flatMap fun k => ys.flatMap fun o => cwOne ts pl k o) = clashG ts ys (takL pl) := by
  unfold clashG pairsL
  rw [flatMap_flatMap']
  refine flatMap_same fun k _ => ?_
  rw [flatMap_map', flatMap_filter]
  rfl
end Half

namespace Half
open PySem PySem.Spec PyProof.Rows L2
section
variable {P : Program} {w : World} {K : PySem.W.Frag} {mg : Str → Option Value} {base : Heap} {CT CY : Addr}
/-- layout.takes.get(key, ()) -/
theorem tget2_read {σ : L2.St} {H : Hp} {i j : Nat} {y q st d1 d2 : Addr} {es : Eds} {fs : Fls} {ts : Tks} {k : Kk} {Q : VK} (hi : σ[i]? = some (some (.ref y))) (hj : σ[j]? = some (some (.ref q))) (L : LayS K CT CY H y st d1 d2 es fs ts) (hq : KeyAt H q k)
    (kk : ∀ H' a, Same H H' → SqT K H' a ((takL ts k).map V.str) → Q (.ref a) H') : tDGet2 (tLt CY (tVar i)) (tVar j) (tTup tNil) σ H Q := by
  obtain ⟨dx, hy⟩ := L.la.ob
  have s := L.s
  refine ⟨_, hi, y, dx, _, rfl, hy, y, st, d1, d2, fs, ts, rfl, L.la, by have := s.lt; omega, s.ndT, fun H1 D s1 nD gD => ?_⟩
  refine ⟨D, rfl, .inr ⟨_, .inl gD⟩, _, hj, Nat.zero_le _, fun p np => ?_⟩
  have s2 := Same.upd_new (o := .tup []) np
  have S := s1.trans s2
  refine ⟨_, DGet.t (k := keyL k) (s2 _ _ gD) (S _ _ hq), ?_⟩
  have e : valV (kvT ts) (keyL k) = (ts.find? fun e => decide (e.1 = k)).map fun e => V.ref e.2.1 := kvG_val (v := fun p : Addr × List Str => p.1) ts k
  rw [e]
  have tl : takL ts k = match ts.find? fun e => decide (e.1 = k) with
    | some e => e.2.2
    | none => [] := rfl
  cases c : ts.find? fun e => decide (e.1 = k) with
  | none =>
    rw [c] at tl
    refine kk _ p S ?_
    rw [tl]
    exact SqT.of upd_same
  | some e =>
    rw [c] at tl
    refine kk _ e.2.1 S ?_
    rw [tl]
    exact S.sqT (L.hT e (List.mem_of_find?_eq_some c))
/-- layout.files.get(key, ()) -/
theorem fget2_read {σ : L2.St} {H : Hp} {i j : Nat} {y q st d1 d2 : Addr} {es : Eds} {fs : Fls} {ts : Tks} {k : Kk} {Q : VK} (hi : σ[i]? = some (some (.ref y))) (hj : σ[j]? = some (some (.ref q))) (L : LayS K CT CY H y st d1 d2 es fs ts) (hq : KeyAt H q k)
    (kk : ∀ H' a, Same H H' → FilesAt K H' a (filL fs k) → Q (.ref a) H') : tDGet2 (tLf CY (tVar i)) (tVar j) (tTup tNil) σ H Q := by
  obtain ⟨dx, hy⟩ := L.la.ob
  have s := L.s
  refine ⟨_, hi, y, dx, _, rfl, hy, y, st, d1, d2, fs, ts, rfl, L.la, by have := s.lf; omega, s.ndF, fun H1 D s1 nD gD => ?_⟩
  refine ⟨D, rfl, .inr ⟨_, .inl gD⟩, _, hj, Nat.zero_le _, fun p np => ?_⟩
  have s2 := Same.upd_new (o := .tup []) np
  have S := s1.trans s2
  refine ⟨_, DGet.t (k := keyL k) (s2 _ _ gD) (S _ _ hq), ?_⟩
  have e : valV (kvF fs) (keyL k) = (fs.find? fun e => decide (e.1 = k)).map fun e => V.ref e.2.1 := kvG_val (v := fun p : Addr × List (Str × V) => p.1) fs k
  rw [e]
  have fl : filL fs k = match fs.find? fun e => decide (e.1 = k) with
    | some e => e.2.2
    | none => [] := rfl
  cases c : fs.find? fun e => decide (e.1 = k) with
  | none =>
    rw [c] at fl
    refine kk _ p S ?_
    rw [fl]
    exact ⟨[], SqT.of upd_same, rfl, fun i t p h => by simp at h⟩
  | some e =>
    rw [c] at fl
    refine kk _ e.2.1 S ?_
    rw [fl]
    exact (L.hF e (List.mem_of_find?_eq_some c)).kp S.kp
/-- one pair of editions -/
theorem cw_pair {f : Addr} {cdv : Value} {A : Around} {outer : List Env} {sh : Shared} {H0 : Hp} {E : XK} (gS : mg "sorted" = none) (Y : LayP P w K mg base CY)
    (hr : Room 4 (A.deeper (envOfC "_law_crowded" (defScope sCw) sh.heap.objs.size f cdv))) (nd : CwN.Nodup) :
    ∃ t, PSs (cxOf CX0 P w K mg base CwN "_law_crowded" (defScope sCw) f cdv A outer sh H0 E).nox cwBody t ∧ ∀ (D' : Ends) (H : Hp) (y dp l kl q q' st d1 d2 : Addr) (es : Eds) (fs : Fls) (ts pl : Tks) (k o : Kk) (as : List Addr) (L : List (Kk × Kk × Str)) (x6 : Option V),
      LayS K CT CY H y st d1 d2 es fs ts → PlT K H dp pl → (∀ e ∈ pl, sortedS e.2.2 = true) → k ∈ pl.map (·.1) → o ∈ pl.map (·.1) → KeyAt H q k → KeyAt H q' o → H l = some (.lst (as.map V.ref)) → Paired (TriAt H) as L → L.length ≤ 10000 →
      (∀ H' l' as' x6, Same H H' → H' l' = some (.lst (as'.map V.ref)) → Paired (TriAt H') as' (L ++ cwOne ts pl k o) → D'.nx [some (.ref y), some (.ref dp), some (.ref l'), some (.ref kl), some (.ref q), some (.ref q'), x6, none] H') →
      t D' [some (.ref y), some (.ref dp), some (.ref l), some (.ref kl), some (.ref q), some (.ref q'), x6, none] H := by
  have hu := hr.units
  have hu1 := hu_of hr
  have r2 : Room 2 _ := hr.mono (by decide)
  have hu40 : (A.deeper (envOfC "_law_crowded" (defScope sCw) sh.heap.objs.size f cdv)).units + 40 < cLine := Nat.lt_of_le_of_lt (Nat.add_le_add_left (by decide : 40 ≤ 64) _) hu
  refine ⟨_, pss_cons (ps_set (i := 6) nd rfl (Or.inl rfl) (pe_or (pe_cmpR op_in_seq (pe_ix ix_tup (pv 5) pe_int (fun _ _ => rfl)) (pe_dget2 hu1 (pe_ltP Y r2 (pv 0)) (pv 4) (pe_tup pa_nil) ⟨rfl, rfl, rfl, rfl⟩) (by rfl)) (pe_one (pe_cmpR op_in_seq (pe_ix ix_tup (pv 4) pe_int (fun _ _ => rfl)) (pe_dget2 hu1 (pe_ltP Y r2 (pv 0)) (pv 5) (pe_tup pa_nil) ⟨rfl, rfl, rfl, rfl⟩) (by rfl)))))
    (pss_one (ps_if (PW.pt (pw_and (pt_cmpR (op_ltD hu40) (pv 4) (pv 5) (nomark _)) (pw_and (pt_cmpR op_ne (pe_ix ix_tup (pv 4) pe_int (fun _ _ => rfl)) (pe_ix ix_tup (pv 5) pe_int (fun _ _ => rfl)) (nomark _)) (pw_and1 (pt_not (pt_val (pv 6)))))))
      (pss_one (ps_set (i := 2) nd rfl (Or.inl rfl) (pe_op op_cat (pv 2) (pe_lc (own := [("_law_spot", 7)]) (g := gName 7) (tt := tTest (tOp (rIn K false) (tVar 7) (tDGet (tVar 1) (tVar 5)))) (te := tTup (tCons (tVar 4) (tCons (tVar 5) (tCons (tVar 7) tNil)))) rfl nd (pi_list (pe_callB cr_sortST (by rfl) gS (by decide +kernel) (pa_cons (pe_dget hu1 (pv 1) (pv 4) (fun _ _ => rfl)) pa_nil))) (blkOk_by (N := CwN) (sc := defScope sCw) (by decide +kernel))
        (fun _ _ _ _ _ => pg_name (i := 7) nd rfl (Or.inl rfl)) (fun _ _ _ _ _ => pts_one (pt_cmpR op_in_seq (pv 7) (pe_dget hu1 (pv 1) (pv 5) (fun _ _ => rfl)) (by rfl))) (fun _ _ _ _ _ => pe_tup (pa_cons (pv 4) (pa_cons (pv 5) (pa_cons (pv 7) pa_nil)))))))) pss_nil)), ?_⟩
  intro D' H y dp l kl q q' st d1 d2 es fs ts pl k o as L x6 La hp srt ik io hk ho gl pL len kk
  refine ⟨_, rfl, q', _, 0, _, rfl, rfl, SqT.of ho, rfl, ?_⟩
  show tDGet2 (tLt CY (tVar 0)) (tVar 4) (tTup tNil) _ _ _
  refine tget2_read (k := k) (by rfl) (by rfl) La hk fun H1 a1 s1 g1 => ?_
  refine ⟨a1, _, rfl, .inr g1, rfl, flat_strs _, ?_⟩
  simp only [Bool.false_eq_true, if_false, inV_str]
  -- the test and the triples
  have fin : ∀ H' (b : Bool), Same H H' → b = (has (takL ts k) o.1 || has (takL ts o) k.1) → tIfS (tAnd (tTest (tOp (rLtD K) (tVar 4) (tVar 5))) (tAnd (tTest (tOp rNe (tOp (rIxT K) (tVar 4) (tC (.int 0))) (tOp (rIxT K) (tVar 5) (tC (.int 0))))) (tNot (tB (tVar 6)))))
      (tAsg (tOp rCat (tVar 2) (tLc (iList K (tCB (rSortST K) (tCons (tDGet (tVar 1) (tVar 4)) tNil))) (gName 7) (tTest (tOp (rIn K false) (tVar 7) (tDGet (tVar 1) (tVar 5)))) (tTup (tCons (tVar 4) (tCons (tVar 5) (tCons (tVar 7) tNil)))) [7])) (gName 2)) tNext D'
      [some (.ref y), some (.ref dp), some (.ref l), some (.ref kl), some (.ref q), some (.ref q'), some (.bl b), none] H' := by
    intro H' b S hb
    have no : (kLt k o && canB ts k o) = false → D'.nx [some (.ref y), some (.ref dp), some (.ref l), some (.ref kl), some (.ref q), some (.ref q'), some (.bl b), none] H' := fun c => by
      refine kk H' l as _ S (S _ _ gl) ?_
      unfold cwOne
      rw [if_neg (by simp [c]), List.append_nil]
      exact paired_imp (fun a b h => tri_stab _ _ _ _ (TupK.same S) h) pL
    refine ⟨_, rfl, _, rfl, _, _, dp_key (S _ _ hk), dp_key (S _ _ ho), kD_alike _ _, (by unfold kD; exact fun z => nomatch z), (by simp [kD, PyData.depth, PyData.depthAll]), _, rfl, ?_⟩
    cases c1 : PySem.W.dataLt (kD k) (kD o) with
    | false =>
      refine iteF ?_
      refine iteF ?_
      exact no (by simp [kLt, c1])
    | true =>
      refine iteT ?_
      refine ⟨_, rfl, q, _, 0, _, rfl, rfl, SqT.of (S _ _ hk), rfl, _, rfl, q', _, 0, _, rfl, rfl, SqT.of (S _ _ ho), rfl, rfl, _, rfl, ?_⟩
      by_cases c2 : k.1 = o.1
      · rw [show (!decide (V.str k.1 = V.str o.1)) = false by rw [c2]; simp]
        refine iteF ?_
        refine iteF ?_
        exact no (by simp [canB, c2])
      · rw [show (!decide (V.str k.1 = V.str o.1)) = true by rw [dec_str, decide_eq_false c2]; rfl]
        refine iteT ?_
        refine ⟨_, rfl, _, rfl, ?_⟩
        dsimp only
        have cb : canB ts k o = !b := by
          unfold canB
          rw [if_neg c2, hb, Bool.not_or]
        cases b with
        | true =>
          refine iteF ?_
          exact no (by simp [cb])
        | false =>
          refine iteT ?_
          have yes : (kLt k o && canB ts k o) = true := by simp [kLt, c1, cb]
          have hp1 := hp.same S
          obtain ⟨ak, vk, lk⟩ := hp1.at_ ik
          refine ⟨_, rfl, _, rfl, _, rfl, dp, .ref ak, rfl, .inr ⟨_, keyL k, q, .inl hp1.g, rfl, S _ _ hk, vk.symm⟩, ak, takL pl k, rfl, lk, Nat.lt_of_le_of_lt (takL_few hp.few k) (by decide), fun zs p pm sz np => ?_⟩
          have sk : sortedS (takL pl k) = true := by
            obtain ⟨e, he, _, et⟩ := takL_at ik
            rw [et]
            exact srt e he
          obtain rfl : zs = takL pl k := sorted_uniq txLe_as (sortedS_pw sz) (sortedS_pw sk) pm
          have s2 := Same.upd_new (o := .lst ((takL pl k).map V.str)) np
          have gp : upd H' p (.lst ((takL pl k).map V.str)) p = some (.lst ((takL pl k).map V.str)) := upd_same
          have S2 := S.trans s2
          generalize upd H' p (.lst ((takL pl k).map V.str)) = H2 at S2 gp ⊢
          refine ⟨p, rfl, ⟨_, SqL.of gp⟩, fun D hD => ?_⟩
          refine lc_it (walk_list (xs := (takL pl k).map V.str)) (fun j H' => AccR H2 D TriAt ((((takL pl k).take j).filter fun z => has (takL pl o) z).map fun z => (k, o, z)) H') (AccR.zero hD) (fun _ _ _ h => SqL.of (h.1 _ _ gp)) ?_ ?_
          · rintro j w2 H5 H6 hj acc5 ⟨rfl, hw⟩
            obtain ⟨z, hz, rfl⟩ := getE hw
            have S5 := S2.trans acc5.1
            have hp5 := hp.same S5
            obtain ⟨ao, vo, lo⟩ := hp5.at_ io
            rw [filt_next (p := fun z => has (takL pl o) z) (f := fun z => (k, o, z)) hz]
            have lf : ((((takL pl k).take j).filter fun z => has (takL pl o) z).map fun z => (k, o, z)).length ≤ 1000000 := by
              rw [List.length_map]
              have h1 := List.length_filter_le (fun z => has (takL pl o) z) ((takL pl k).take j)
              have h2 : ((takL pl k).take j).length ≤ 10 := Nat.le_trans (List.take_sublist ..).length_le (takL_few hp.few k)
              omega
            refine ⟨rfl, ?_⟩
            refine ⟨_, rfl, _, rfl, _, rfl, dp, .ref ao, rfl, .inr ⟨_, keyL o, q', .inl hp5.g, rfl, S5 _ _ ho, vo.symm⟩, ao, _, rfl, .inr lo, rfl, flat_strs _, ?_⟩
            simp only [Bool.false_eq_true, if_false, inV_str]
            refine ⟨_, rfl, ?_⟩
            cases c : has (takL pl o) z with
            | false =>
              refine iteF ?_
              rw [if_neg (by simp), List.append_nil]
              exact acc5
            | true =>
              refine iteT ?_
              rw [if_pos rfl]
              refine ⟨_, rfl, _, rfl, _, rfl, (by show 3 ≤ sizeLine; decide), fun p np => ?_⟩
              have s8 := Same.upd_new (o := .tup [.ref q, .ref q', .str z]) np
              refine acc5.step tri_stab hD s8 ?_ lf
              exact ⟨q, q', upd_same, s8 _ _ (S5 _ _ hk), s8 _ _ (S5 _ _ ho)⟩
          · rintro H3 acc3
            rw [List.length_map, List.take_length] at acc3
            obtain ⟨as3, s3, g3, p3⟩ := acc3.at_
            have S3 := S2.trans s3
            have l3 := Paired.length p3
            rw [List.length_map] at l3
            have lq := Paired.length pL
            have lf : ((takL pl k).filter fun z => has (takL pl o) z).length ≤ 10 := Nat.le_trans (List.length_filter_le ..) (takL_few hp.few k)
            refine ⟨l, D, _, _, rfl, rfl, S3 _ _ gl, g3, by rw [List.length_map, List.length_map, sizeLine_eq]; omega, fun p9 np9 => ?_⟩
            have s9 := Same.upd_new (o := .lst (as.map V.ref ++ as3.map V.ref)) np9
            refine kk _ p9 (as ++ as3) _ (S3.trans s9) (by rw [upd_same, List.map_append]) ?_
            unfold cwOne
            rw [if_pos yes]
            exact paired_two (paired_imp (fun a b h => tri_stab _ _ _ _ (TupK.same (S3.trans s9)) h) pL) (paired_imp (fun a b h => tri_stab _ _ _ _ (TupK.same s9) h) p3)
  cases c : has (takL ts k) o.1 with
  | true =>
    refine ⟨true, rfl, iteT ?_⟩
    exact fin H1 _ s1 (by rw [c]; rfl)
  | false =>
    refine ⟨false, rfl, iteF ?_⟩
    refine ⟨_, rfl, q, _, 0, _, rfl, rfl, SqT.of (s1 _ _ hk), rfl, ?_⟩
    show tDGet2 (tLt CY (tVar 0)) (tVar 5) (tTup tNil) _ _ _
    refine tget2_read (k := o) (by rfl) (by rfl) (La.same s1) (s1 _ _ ho) fun H2 a2 s2 g2 => ?_
    refine ⟨a2, _, rfl, .inr g2, rfl, flat_strs _, ?_⟩
    simp only [Bool.false_eq_true, if_false, inV_str]
    exact fin H2 _ (s1.trans s2) (by rw [c]; rfl)
end
end Half

namespace Half
open PySem PySem.Spec PyProof.Rows L2
theorem cwOne_len {K : PySem.W.Frag} {H : Hp} {dp : Addr} {ts pl : Tks} (hp : PlT K H dp pl) (k o : Kk) : (cwOne ts pl k o).length ≤ 10 := by
  unfold cwOne
  split
  · rw [List.length_map]
    exact Nat.le_trans (List.length_filter_le ..) (takL_few hp.few k)
  · exact Nat.zero_le _
section
variable {P : Program} {w : World} {K : PySem.W.Frag} {mg : Str → Option Value} {base : Heap} {CT CY : Addr}
theorem ok_cw {f : Addr} {fd : FuncData} (F : Fun K "_law_crowded" "_law_crowded" sCw f fd) (gS : mg "sorted" = none) (Y : LayP P w K mg base CY) (dK : Def P w K mg base 3 "_law_keys" ["_law_store_here"] (spKs CT)) : FnOk P w K mg base CX0 5 f fd ["_law_layout_here", "_law_places"] (spCw K CT CY) := by
  refine F.ok scCw (fun vs H Q E h => ?_) (fun cdv A outer s H vs Q E hr h => ?_)
  · obtain ⟨y, dp, st, d1, d2, es, fs, ts, pl, rfl, _⟩ := h
    rfl
  · obtain ⟨y, dp, st, d1, d2, es, fs, ts, pl, rfl, L, few6, hp, srt, all, kk⟩ := h
    have nd := scCw.nd
    have r2 : Room 2 _ := hr.mono (by decide)
    have r3 : Room 3 _ := hr.mono (by decide)
    obtain ⟨tP, hP, rdP⟩ := cw_pair (CT := CT) (f := f) (cdv := cdv) (A := A) (outer := outer) (sh := s) (H0 := H) (E := E) gS Y hr nd
    refine ⟨_, pss_cons (ps_par (i := 2) (j := 3) rfl nd rfl rfl (by decide) rfl rfl (pa_cons (pe_lst pa_nil) (pa_cons (pe_def dK r3 rfl (pa_cons (pe_lsP Y r2 (pv 0)) pa_nil)) pa_nil)) (by rfl))
      (pss_cons (ps_for PassesOwn.never rfl (pi_list (pv 3)) (pg_name (i := 4) nd rfl (by first | exact Or.inl rfl | exact Or.inr rfl)) (pss_one (ps_for PassesOwn.never rfl (pi_list (pv 3)) (pg_name (i := 5) nd rfl (by first | exact Or.inl rfl | exact Or.inr rfl)) hP)))
      (pss_one (ps_ret (pv 2)))), ?_⟩
    refine ⟨Nat.zero_le _, fun l0 nl0 => ?_⟩
    have s0 := Same.upd_new (o := .lst []) nl0
    have g0 : upd H l0 (.lst []) l0 = some (.lst (([] : List Addr).map V.ref)) := upd_same
    generalize upd H l0 (.lst []) = H0 at s0 g0 ⊢
    have L0 := L.same s0
    obtain ⟨dx, hy⟩ := L0.la.ob
    refine ⟨_, rfl, y, dx, _, rfl, hy, y, st, d1, d2, fs, ts, rfl, L0.la, ?_⟩
    refine ⟨st, es, rfl, L0.sto, by omega, fun H1 kl qs ys s1 nkl gkl pk pm asc => ⟨_, _, rfl, ?_⟩⟩
    have S1 := s0.trans s1
    have g1 := s1 _ _ g0
    have lq := Paired.length pk
    have ly : ys.length ≤ 6 := by
      rw [pm.length_eq]
      unfold keysOf
      rw [List.length_map]
      exact few6
    have row : ∀ (k : Kk) i, ((ys.take i).flatMap fun o => cwOne ts pl k o).length ≤ 60 := fun k i => by
      have h1 := flatMap_len (l := ys.take i) (f := fun o => cwOne ts pl k o) (c := 10) fun o _ => cwOne_len hp k o
      have h2 : (ys.take i).length ≤ ys.length := (List.take_sublist ..).length_le
      omega
    have rowA : ∀ (k : Kk), (ys.flatMap fun o => cwOne ts pl k o).length ≤ 60 := fun k => by
      have h := row k ys.length
      rw [List.take_length] at h
      exact h
    have tab : ∀ i, ((ys.take i).flatMap fun k => ys.flatMap fun o => cwOne ts pl k o).length ≤ 360 := fun i => by
      have h1 := flatMap_len (l := ys.take i) (f := fun k => ys.flatMap fun o => cwOne ts pl k o) (c := 60) fun k _ => rowA k
      have h2 : (ys.take i).length ≤ ys.length := (List.take_sublist ..).length_le
      omega
    refine ⟨_, rfl, kl, rfl, ⟨_, SqL.of gkl⟩, ?_⟩
    refine for_it (walk_list (xs := qs.map V.ref)) (fun i σ H' => ∃ l as x4 x5 x6, σ = [some (.ref y), some (.ref dp), some (.ref l), some (.ref kl), x4, x5, x6, none] ∧ Same H1 H' ∧ H' l = some (.lst (as.map V.ref)) ∧ Paired (TriAt H') as ((ys.take i).flatMap fun k => ys.flatMap fun o => cwOne ts pl k o))
      ⟨l0, [], none, none, none, rfl, Same.refl _, g1, .nil⟩ ?_ ?_ ?_
    · rintro i σ H' _ ⟨l, as, x4, x5, x6, rfl, S, _⟩
      exact SqL.of (S _ _ gkl)
    · rintro i v σ H2 H3 hi ⟨l, as, x4, x5, x6, rfl, S, gl, pL⟩ ⟨rfl, hv⟩
      obtain ⟨q, hq, rfl⟩ := getE hv
      obtain ⟨k, hk, gk⟩ := paired_get pk hq
      rw [flat_next hk]
      have lt := tab i
      generalize (ys.take i).flatMap (fun k => ys.flatMap fun o => cwOne ts pl k o) = done at pL lt
      refine ⟨_, rfl, kl, rfl, ⟨_, SqL.of (S _ _ gkl)⟩, ?_⟩
      refine for_it (walk_list (xs := qs.map V.ref)) (fun j σ H' => ∃ l as x5 x6, σ = [some (.ref y), some (.ref dp), some (.ref l), some (.ref kl), some (.ref q), x5, x6, none] ∧ Same H1 H' ∧ H' l = some (.lst (as.map V.ref)) ∧ Paired (TriAt H') as (done ++ (ys.take j).flatMap fun o => cwOne ts pl k o))
        ⟨l, as, _, _, rfl, S, gl, by rw [List.take_zero, List.flatMap_nil, List.append_nil]; exact pL⟩ ?_ ?_ ?_
      · rintro j σ H' _ ⟨l, as, x5, x6, rfl, S, _⟩
        exact SqL.of (S _ _ gkl)
      · rintro j v2 σ H4 H5 hj ⟨l, as, x5, x6, rfl, S4, gl4, pL4⟩ ⟨rfl, hv2⟩
        obtain ⟨q', hq', rfl⟩ := getE hv2
        obtain ⟨o, ho, go⟩ := paired_get pk hq'
        have SS := S1.trans S4
        refine rdP _ H5 y dp l kl q q' st d1 d2 es fs ts pl k o as _ _ (L.same SS) (hp.same SS) srt (all k (pm.mem_iff.mp (List.mem_of_getElem? hk))) (all o (pm.mem_iff.mp (List.mem_of_getElem? ho))) (S4 _ _ gk) (S4 _ _ go) gl4 pL4 (by have := row k j; rw [List.length_append]; omega) fun H6 l6 as6 y6 s6 g6 p6 => ?_
        refine ⟨l6, as6, _, _, rfl, S4.trans s6, g6, ?_⟩
        rw [flat_next ho, ← List.append_assoc]
        exact p6
      · rintro σ H4 ⟨l, as, x5, x6, rfl, S4, gl4, pL4⟩
        rw [List.length_map, lq, List.take_length] at pL4
        exact ⟨l, as, _, _, _, rfl, S4, gl4, pL4⟩
    · rintro σ H2 ⟨l, as, x4, x5, x6, rfl, S, gl, pL⟩
      rw [List.length_map, lq, List.take_length, cw_eq] at pL
      exact ⟨_, rfl, kk H2 l as ys (S1.trans S) gl pL pm asc⟩
end
end Half

/-! t * k, k none or one -/
namespace L2
open PySem PySem.Spec PyProof.Rows
theorem times_one (a : Addr) (vs : Array Value) (m : Nat) (dd : Option Addr) (sl : Array (Option Value)) (u : Tok) :
    Meets (Builtin.«tuple.__mul__» ⟨[.ref a, .int 1 u], []⟩) (fun _ R s => s.heap.get? a = some ⟨.type "tuple", dd, .seq vs m, sl⟩ ∧ R (.ok (.ret (.ref a))) s) :=
  .of_wp fun P w A R st hh => by
    obtain ⟨H, gs, ds, ts, os⟩ := st
    obtain ⟨ha, go⟩ := hh
    have ix := AutoSeq1.idx_int
    wp_walk using wpAny_loadPart' ha
    exact ⟨_, rfl, go⟩
theorem times_none (a : Addr) (vs : Array Value) (m : Nat) (dd : Option Addr) (sl : Array (Option Value)) (u : Tok) (ne : vs.isEmpty = false) :
    Meets (Builtin.«tuple.__mul__» ⟨[.ref a, .int 0 u], []⟩) (fun _ R s => s.heap.get? a = some ⟨.type "tuple", dd, .seq vs m, sl⟩ ∧ R (.ok (.ret (.ref s.heap.objs.size))) { s with heap := s.heap.push { cls := .type "tuple", data := .seq #[] }, toks := s.toks }) :=
  .of_wp fun P w A R st hh => by
    obtain ⟨H, gs, ds, ts, os⟩ := st
    obtain ⟨ha, go⟩ := hh
    have ix := AutoSeq1.idx_int
    wp_walk using wpAny_loadPart' ha
    exact ⟨_, rfl, go⟩
def rTimes (K : PySem.W.Frag) : R2 := fun x y H Q => ∃ (l : Addr) (b : Bool) (xs : List V), x = .ref l ∧ y = .int (if b then 1 else 0) ∧ SqT K H l xs ∧ xs ≠ [] ∧ (b = true → Q (.ref l) H) ∧ (b = false → ∀ p, H p = none → Q (.ref p) (upd H p (.tup [])))
theorem op_times {X : Cx} : OpR X (binaryOp .Mult) (rTimes X.K) := by
  rintro pins s σ H x y v u Q I rx ry ⟨l, b, xs, rfl, rfl, hT, ne, q1, q0⟩
  cases rx
  obtain ⟨t, rfl⟩ := ry
  obtain ⟨us, rel, ⟨⟨cl, dd, da, sl⟩, at_, hcl, m, hda⟩, _⟩ := I.tuple hT
  dsimp only at hcl hda
  subst hcl hda
  have un : us.toArray.isEmpty = false := by
    cases us with
    | nil => cases rel; exact absurd rfl ne
    | cons _ _ => rfl
  have road : ∀ (k : Int) (R : Value → Shared → Prop), Meets (Builtin.«tuple.__mul__» ⟨[.ref l, .int k t], []⟩) (fun _ R s => s.heap.get? l = some ⟨.type "tuple", dd, .seq us.toArray m, sl⟩ ∧ R (.ok (.ret (.ref (if k = 1 then l else s.heap.objs.size)))) (if k = 1 then s else { s with heap := s.heap.push { cls := .type "tuple", data := .seq #[] }, toks := s.toks })) → R (.ref (if k = 1 then l else s.heap.objs.size)) (if k = 1 then s else { s with heap := s.heap.push { cls := .type "tuple", data := .seq #[] }, toks := s.toks }) → wpAny (model X.prog X.w) X.A (binaryOp .Mult (.ref l) (.int k t)) R X.xe s := fun k R mt hR =>
    wpAny_binaryOp_repeat_ref (T := "tuple") (U := "int") (by decide) ⟨_, at_, rfl⟩ (fun s' => typeIs_int s' k t) noFill_tuple_mul F.fills_int_mul F.slot_int_rmul repeat_tuple F.slot_int_index.lookup
      (call_meets F.slot_int_rmul (typeIs_int s k t) F.entry_int_rmul (F.args_int_rmul_2 _ _) (int_rmul_tuple k t l us.toArray m dd sl)
        ⟨at_, rfl, ⟨_, at_, rfl⟩, call_meets F.slot_tuple_mul ⟨_, at_, rfl⟩ F.entry_tuple_mul (F.args_tuple_mul_2 _ _) mt ⟨at_, hR⟩⟩)
  cases b with
  | true =>
    refine road 1 _ (times_one l us.toArray m dd sl t) ?_
    exact ⟨.ref l, H, I, rfl, q1 rfl⟩
  | false =>
    refine road 0 _ (times_none l us.toArray m dd sl t un) ?_
    exact ⟨.ref s.heap.objs.size, _, I.laid (t' := s.toks) (o := .tup []) (fun b ob q => Heap.get?_push_of_some _ q) (Nat.le_refl _) ⟨by decide, _, .nil, IsTup.new _ _⟩, rfl, q0 rfl _ (I.hok.fresh (Nat.le_refl _))⟩
end L2

namespace Half
open PySem PySem.Spec PyProof.Rows L2
/-! ### _law_put -/
abbrev sPt : Stmt := top 61
abbrev PtN : List Str := ["_law_row", "_law_store_here", "_law_put_here", "_law_path", "_law_some", "_law_name", "_law_other"]
theorem scPt : FnScope PtN ["_law_row", "_law_store_here"] (defScope sPt) := ⟨rfl, rfl, rfl, by decide +kernel, rfl, by decide +kernel, by decide +kernel⟩
def ifBody : Stmt → List Stmt
  | .If _ b _ _ => b
  | _ => []
abbrev ptBody : List Stmt := forBody (nth (defBody sPt) 1)
abbrev ptIn : List Stmt := ifBody (nth ptBody 0)
def PD4 : List Str := ["bin", "conf", "doc", "new"]
def OT : List Str := ["olddoc", "bin", "new", "oldbin", "oldconf", "oldnew"]
theorem putK_app : ∀ {kvs : List (Key × V)} {k : Key} {v : V}, k ∉ kvs.map (·.1) → putK kvs k v = kvs ++ [(k, v)] := by
  intro kvs k v h
  have hk : (kvs.any fun kv => decide (kv.1 = k)) = false := List.any_eq_false.mpr fun x hx z => h (List.mem_map.mpr ⟨x, hx, of_decide_eq_true z⟩)
  unfold putK
  rw [hk]
  rfl
theorem kvD_app (dl : Dvs) (e : Str × Addr × Str × Str) : kvD (dl ++ [e]) = kvD dl ++ [(.inr e.1, .ref e.2.1)] := by
  unfold kvD
  rw [List.map_append]
  rfl
theorem DvS.kp {K : PySem.W.Frag} {H H' : Hp} {dv : Addr} {dl : Dvs} (g : H' dv = H dv) (k : Kp K H H') (h : DvS K H dv dl) : DvS K H' dv dl := ⟨g.trans h.g, fun e he => k _ _ (h.t e he), h.nd, h.few⟩
theorem DvS.put {K : PySem.W.Frag} {H : Hp} {dv p : Addr} {dl : Dvs} {z n o : Str} (h : DvS K H dv dl) (hp : SqT K H p [.str n, .str o]) (new : z ∉ dl.map (·.1)) (few : dl.length < 20) : DvS K (upd H dv (.dK (putK (kvD dl) (.inr z) (.ref p)))) dv (dl ++ [(z, p, n, o)]) := by
  have kp : Kp K H (upd H dv (.dK (putK (kvD dl) (.inr z) (.ref p)))) := Kp.upd h.g (fun _ z => by cases z) (fun _ _ z => by cases z)
  refine ⟨?_, fun e he => ?_, ?_, by rw [List.length_append]; show _ + 1 ≤ _; omega⟩
  · rw [upd_same, kvD_app, putK_app]
    intro q
    unfold kvD at q
    rw [List.map_map] at q
    obtain ⟨x, hx, e⟩ := List.mem_map.mp q
    refine new (List.mem_map.mpr ⟨x, hx, ?_⟩)
    injection e
  · rcases List.mem_append.mp he with he | he
    · exact kp _ _ (h.t e he)
    · rw [List.mem_singleton.mp he]
      exact kp _ _ hp
  · rw [List.map_append, List.nodup_append]
    refine ⟨h.nd, by simp, fun a ha b hb e => ?_⟩
    rw [List.map_singleton, List.mem_singleton] at hb
    rw [e, hb] at ha
    exact new ha
section
variable {P : Program} {w : World} {K : PySem.W.Frag} {mg : Str → Option Value} {base : Heap} {CT : Addr}
/-- the name, the other path, both put -/
theorem put_rest {f : Addr} {cdv : Value} {A : Around} {outer : List Env} {sh : Shared} {H0 : Hp} {E : XK} (gL : mg "len" = none) (dT : Def P w K mg base 1 "_law_taken" ["_law_row", "_law_many"] (spTaken K))
    (hr : Room 3 (A.deeper (envOfC "_law_put" (defScope sPt) sh.heap.objs.size f cdv))) (nd : PtN.Nodup) :
    ∃ t, PSs (cxOf CX0 P w K mg base PtN "_law_put" (defScope sPt) f cdv A outer sh H0 E).nox [nth ptIn 1, nth ptIn 2, nth ptIn 3] t ∧ ∀ (D' : Ends) (Hb H : Hp) (r a st dv sa : Addr) (xs : List Str) (dl : Dvs) (z : Str) (x5 x6 : Option V),
      Row K Hb r a → Dr r a Hb H → Hb dv = none → DvS K H dv dl → dl.length < 20 → z ∉ dl.map (·.1) → z ∈ PD4 → SqT K H sa (xs.map V.str) → xs ≠ [] → xs.length ≤ 100 →
      (∀ H' p n o x5 x6, Dr r a Hb H' → Kp K H H' → DvS K H' dv (dl ++ [(z, p, n, o)]) → o ∈ OT → D'.nx [some (.ref r), some (.ref st), some (.ref dv), some (.str z), some (.ref sa), x5, x6] H') →
      t D' [some (.ref r), some (.ref st), some (.ref dv), some (.str z), some (.ref sa), x5, x6] H := by
  have hu1 := hu_of hr
  have r1 : Room 1 _ := hr.mono (by decide)
  refine ⟨_, pss_cons (ps_set (i := 5) nd rfl (Or.inl rfl) (pe_ix ix_tup (pv 4) (pe_def dT r1 rfl (pa_cons (pv 0) (pa_cons (pe_callB call_len_seq (by rfl) gL PySem.boot_len (pa_cons (pv 4) pa_nil)) pa_nil))) (fun _ _ => rfl)))
    (pss_cons (ps_set (i := 6) nd rfl (Or.inl rfl) (pe_ix ix_list (pe_lst (pa_cons pe_str (pa_cons pe_str (pa_cons pe_str pa_nil)))) (pe_def dT r1 rfl (pa_cons (pv 0) (pa_cons pe_int pa_nil))) (fun _ _ => rfl)))
    (pss_one (ps_dput hu1 (pv 2) (pv 3) (pe_tup (pa_cons (pv 5) (pa_cons (pe_ifExp (pt_cmpR op_eq (pe_def dT r1 rfl (pa_cons (pv 0) (pa_cons pe_int pa_nil))) pe_int (nomark _)) (pv 6) (pe_op op_add_str pe_str (pv 3))) pa_nil))) rfl))), ?_⟩
  intro D' Hb H r a st dv sa xs dl z x5 x6 Rb d0 ndv hD few new zin hS ne len kk
  have R := d0.row Rb
  have ndr : dv ≠ r := Rb.ne ndv
  have pos : 0 < xs.length := List.length_pos_iff.mpr ne
  refine ⟨_, rfl, _, rfl, _, rfl, sa, _, rfl, .inr hS, ?_⟩
  rw [List.length_map]
  refine ⟨r, (xs.length : Int), a, rfl, R, by omega, by omega, fun v1 o1 v10 v1l Ro1 => ?_⟩
  have d1 := Dr.draw Ro1
  generalize upd H r o1 = H1 at d1 ⊢
  obtain ⟨j, rfl⟩ : ∃ j : Nat, v1 = (j : Int) := ⟨v1.toNat, by omega⟩
  have hj : j < xs.length := by omega
  have hz := List.getElem?_eq_getElem hj
  generalize xs[j] = n at hz
  have R1 := d1.row R
  have g1 : H1 dv = H dv := by rw [d1.sb dv _ ndr hD.g, hD.g]
  have hD1 := hD.kp g1 (d1.kp R)
  have hS1 := d1.kp R _ _ hS
  refine ⟨sa, _, (j : Int), .str n, rfl, rfl, hS1, ?_, ?_⟩
  · unfold atI ixN
    rw [if_pos (by omega), if_pos (by rw [List.length_map]; omega)]
    show (xs.map V.str)[((j : Nat) : Int).toNat]? = _
    rw [Int.toNat_natCast, List.getElem?_map, hz]
    rfl
  refine ⟨(by decide : 3 ≤ sizeLine), fun lo nlo => ?_⟩
  have s2 := Same.upd_new (o := .lst [.str "olddoc", .str "bin", .str "new"]) nlo
  have g2 : upd H1 lo (.lst [.str "olddoc", .str "bin", .str "new"]) lo = some (.lst [.str "olddoc", .str "bin", .str "new"]) := upd_same
  have R2 := R1.same' s2
  have hD2 := hD1.same s2
  have d2 := (d0.trans d1).same s2
  have nlr := R1.ne nlo
  generalize upd H1 lo (.lst [.str "olddoc", .str "bin", .str "new"]) = H2 at s2 g2 R2 hD2 d2 ⊢
  refine ⟨_, rfl, r, 3, a, rfl, R2, by decide, by decide, fun v3 o3 v30 v3l Ro3 => ?_⟩
  have d3 := Dr.draw Ro3
  generalize upd H2 r o3 = H3 at d3 ⊢
  have g3 := d3.lst nlr g2
  have R3 := d3.row R2
  have hD3 := hD2.kp (by rw [d3.sb dv _ ndr hD2.g, hD2.g]) (d3.kp R2)
  have pick : ∃ o ∈ OT, atI [.str "olddoc", .str "bin", .str "new"] v3 = some (V.str o) := by
    have : v3 = 0 ∨ v3 = 1 ∨ v3 = 2 := by omega
    rcases this with rfl | rfl | rfl
    · exact ⟨"olddoc", by decide, atI_nat (j := 0) rfl⟩
    · exact ⟨"bin", by decide, atI_nat (j := 1) rfl⟩
    · exact ⟨"new", by decide, atI_nat (j := 2) rfl⟩
  obtain ⟨o, ho, ha⟩ := pick
  refine ⟨lo, _, v3, .str o, rfl, rfl, SqL.of g3, ha, ?_⟩
  have d03 := d2.trans d3
  refine ⟨_, rfl, _, rfl, r, 2, a, rfl, R3, by decide, by decide, fun v4 o4 v40 v4l Ro4 => ⟨rfl, _, rfl, ?_⟩⟩
  have d4 := Dr.draw Ro4
  generalize upd H3 r o4 = H4 at d4 ⊢
  have R4 := d4.row R3
  have hD4 := hD3.kp (by rw [d4.sb dv _ ndr hD3.g, hD3.g]) (d4.kp R3)
  have d04 := d03.trans d4
  have k04 : Kp K H H4 := (d1.kp R).trans (s2.kp.trans ((d3.kp R2).trans (d4.kp R3)))
  have store : ∀ u ∈ OT, ∀ p, H4 p = none → ∃ b H5, V.ref dv = .ref b ∧ DPut (upd H4 p (.tup [.str n, .str u])) b (.str z) (.ref p) H5 ∧ D'.nx [some (.ref r), some (.ref st), some (.ref dv), some (.str z), some (.ref sa), some (.str n), some (.str o)] H5 := fun u hu p np => by
    have s5 := Same.upd_new (o := .tup [.str n, .str u]) np
    have g5 : SqT K (upd H4 p (.tup [.str n, .str u])) p [.str n, .str u] := SqT.of upd_same
    have hD5 := hD4.same s5
    have d5 := d04.same s5
    have k5 := k04.trans s5.kp
    generalize upd H4 p (.tup [.str n, .str u]) = H5 at s5 g5 hD5 d5 k5 ⊢
    refine ⟨dv, _, rfl, DPut.k (k := .inr z) hD5.g (by unfold kvD; rw [List.length_map, sizeLine_eq]; omega), ?_⟩
    exact kk _ p n u _ _ (d5.put ndv ndr) (k5.trans (Kp.upd hD5.g (fun _ z => by cases z) (fun _ _ z => by cases z))) (hD5.put g5 new few) hu
  cases c : decide (V.int v4 = V.int 0) with
  | true =>
    refine iteT ?_
    refine ⟨_, rfl, two_le, fun p np => ⟨_, rfl, _, rfl, store o ho p np⟩⟩
  | false =>
    refine iteF ?_
    have zl : z.length ≤ 100 := by
      have all : ∀ x ∈ PD4, x.length ≤ 100 := by decide +kernel
      exact all z zin
    have ol : ("old" ++ z : Str) ∈ OT := by
      have all : ∀ x ∈ PD4, ("old" ++ x : Str) ∈ OT := by decide +kernel
      exact all z zin
    refine ⟨_, rfl, _, _, rfl, rfl, by rw [sizeLine_eq]; show 3 + _ ≤ _; omega, two_le, fun p np => ⟨_, rfl, _, rfl, store _ ol p np⟩⟩
end
end Half

namespace Half
open PySem PySem.Spec PyProof.Rows L2
section
variable {P : Program} {w : World} {K : PySem.W.Frag} {mg : Str → Option Value} {base : Heap} {CT : Addr}
/-- one path, diverted or not -/
theorem put_one {f : Addr} {cdv : Value} {A : Around} {outer : List Env} {sh : Shared} {H0 : Hp} {E : XK} (gL : mg "len" = none) (gI : mg "int" = none) (dT : Def P w K mg base 1 "_law_taken" ["_law_row", "_law_many"] (spTaken K)) (N : NamF P w K mg base CT)
    (hr : Room 3 (A.deeper (envOfC "_law_put" (defScope sPt) sh.heap.objs.size f cdv))) (nd : PtN.Nodup) :
    ∃ t, PSs (cxOf CX0 P w K mg base PtN "_law_put" (defScope sPt) f cdv A outer sh H0 E).nox ptBody t ∧ ∀ (D' : Ends) (Hb H : Hp) (r a st dv : Addr) (es : Eds) (dl : Dvs) (z : Str) (x4 x5 x6 : Option V),
      Row K Hb r a → Dr r a Hb H → Hb dv = none → StObj CT Hb st es → es.length ≤ 6 → keysOf es ≠ [] → DvS K H dv dl → dl.length < 20 → z ∉ dl.map (·.1) → z ∈ PD4 →
      (∀ H' dl' x4 x5 x6, Dr r a Hb H' → Kp K H H' → DvS K H' dv dl' → (dl' = dl ∨ ∃ p n o, dl' = dl ++ [(z, p, n, o)] ∧ o ∈ OT) → D'.nx [some (.ref r), some (.ref st), some (.ref dv), some (.str z), x4, x5, x6] H') →
      t D' [some (.ref r), some (.ref st), some (.ref dv), some (.str z), x4, x5, x6] H := by
  have r1 : Room 1 _ := hr.mono (by decide)
  have r2 : Room 2 _ := hr.mono (by decide)
  obtain ⟨tR, hR, rdR⟩ := put_rest (f := f) (cdv := cdv) (A := A) (outer := outer) (sh := sh) (H0 := H0) (E := E) gL dT hr nd
  refine ⟨_, pss_one (ps_if (pt_cmpR op_eq (pe_def dT r1 rfl (pa_cons (pv 0) (pa_cons pe_int pa_nil))) pe_int (nomark _))
    (pss_cons (ps_set (i := 4) nd rfl (Or.inl rfl) (pe_op op_catA (pe_nam N r2 (pv 1)) (pe_op op_times (pe_tup (pa_cons pe_str pa_nil)) (pe_callTy call_int1 (by rfl) gI (by decide +kernel) (pa_cons (pe_cmpR op_eq (pe_def dT r1 rfl (pa_cons (pv 0) (pa_cons pe_int pa_nil))) pe_int (nomark _)) pa_nil))))) hR) pss_nil), ?_⟩
  intro D' Hb H r a st dv es dl z x4 x5 x6 Rb d0 ndv hO few6 ne hD few new zin kk
  have R := d0.row Rb
  have ndr : dv ≠ r := Rb.ne ndv
  refine ⟨_, rfl, r, 3, a, rfl, R, by decide, by decide, fun v1 o1 v10 v1l Ro1 => ⟨rfl, _, rfl, ?_⟩⟩
  have d1 := Dr.draw Ro1
  have R1 := d1.row R
  generalize upd H r o1 = H1 at d1 R1 ⊢
  have hD1 := hD.kp (by rw [d1.sb dv _ ndr hD.g, hD.g]) (d1.kp R)
  have d01 := d0.trans d1
  cases c1 : decide (V.int v1 = V.int 0) with
  | false =>
    refine iteF ?_
    exact kk H1 dl _ _ _ d01 (d1.kp R) hD1 (.inl rfl)
  | true =>
    refine iteT ?_
    have hO1 := hO.nl (d01.nl Rb)
    obtain ⟨⟨dx, tb, nb, ha, -⟩, -⟩ := id hO1
    refine ⟨_, rfl, st, dx, _, rfl, ha, st, es, rfl, hO1, fun ys nt pm asc nnt => ?_⟩
    have s2 := Same.upd_new (o := .tup ((dset (ys.map (·.1))).map V.str)) nnt
    have gn : SqT K (upd H1 nt (.tup ((dset (ys.map (·.1))).map V.str))) nt ((dset (ys.map (·.1))).map V.str) := SqT.of upd_same
    have nne : dset (ys.map (·.1)) ≠ [] := fun e => by
      obtain ⟨k, hk⟩ := List.exists_mem_of_ne_nil _ ne
      have h1 : k.1 ∈ dset (ys.map (·.1)) := (mem_dset _ _).mpr (List.mem_map.mpr ⟨k, pm.mem_iff.mpr hk, rfl⟩)
      rw [e] at h1
      cases h1
    have n6 : (dset (ys.map (·.1))).length ≤ 6 := by
      have h1 := len_sub (dset_nodup (ys.map (·.1))) (m := ys.map (·.1)) fun z hz => (mem_dset _ _).mp hz
      rw [List.length_map, pm.length_eq] at h1
      unfold keysOf at h1
      rw [List.length_map] at h1
      omega
    generalize upd H1 nt (.tup ((dset (ys.map (·.1))).map V.str)) = H2 at s2 gn ⊢
    generalize dset (ys.map (·.1)) = ns at gn nne n6
    have nsne : ns.map V.str ≠ [] := fun e => nne (List.map_eq_nil_iff.mp e)
    refine ⟨(by decide : 1 ≤ sizeLine), fun pw npw => ?_⟩
    have s3 := Same.upd_new (o := .tup [.str "web"]) npw
    have gw : SqT K (upd H2 pw (.tup [.str "web"])) pw [.str "web"] := SqT.of upd_same
    have S3 := s2.trans s3
    have R3 := R1.same' S3
    have hD3 := hD1.same S3
    have d3 := d01.same S3
    have gn3 := s3.sqT gn
    generalize upd H2 pw (.tup [.str "web"]) = H3 at S3 gw R3 hD3 d3 gn3 ⊢
    refine ⟨_, rfl, r, 6, a, rfl, R3, by decide, by decide, fun v4 o4 v40 v4l Ro4 => ⟨rfl, .inr ⟨_, rfl, ?_⟩⟩⟩
    have d4 := Dr.draw Ro4
    generalize upd H3 r o4 = H4 at d4 ⊢
    have R4 := d4.row R3
    have hD4 := hD3.kp (by rw [d4.sb dv _ ndr hD3.g, hD3.g]) (d4.kp R3)
    have gn4 := d4.kp R3 _ _ gn3
    have gw4 := d4.kp R3 _ _ gw
    have d04 := d3.trans d4
    have k04 : Kp K H H4 := (d1.kp R).trans (S3.kp.trans (d4.kp R3))
    have fin : ∀ H' sa xs, Same H4 H' → SqT K H' sa (xs.map V.str) → xs ≠ [] → xs.length ≤ 100 → tR D' [some (.ref r), some (.ref st), some (.ref dv), some (.str z), some (.ref sa), x5, x6] H' := fun H' sa xs S g h1 h2 =>
      rdR D' Hb H' r a st dv sa xs dl z x5 x6 Rb (d04.same S) ndv (hD4.same S) few new zin g h1 h2 fun H'' p n o y5 y6 e1 e0 e2 e3 => kk H'' _ _ _ _ e1 (k04.trans (S.kp.trans e0)) e2 (.inr ⟨p, n, o, rfl, e3⟩)
    refine ⟨pw, decide (V.int v4 = V.int 0), _, rfl, rfl, gw4, (by simp), fun hb => ?_, fun hb p np => ?_⟩
    · refine ⟨nt, pw, _, _, rfl, rfl, gn4, gw4, by rw [List.length_map, sizeLine_eq]; show _ + 1 ≤ _; omega, fun e => absurd e nsne, fun _ e => (nomatch e), fun _ _ p np => ?_⟩
      exact fin _ p (ns ++ (["web"] : List Str)) (Same.upd_new np) (SqT.of (by rw [upd_same, List.map_append]; rfl)) (by simp) (by rw [List.length_append]; show _ + 1 ≤ _; omega)
    · have s5 := Same.upd_new (o := .tup []) np
      refine ⟨nt, p, _, _, rfl, rfl, s5.sqT gn4, SqT.of upd_same, by rw [List.length_map, sizeLine_eq]; show _ + 0 ≤ _; omega, fun e => absurd e nsne, fun _ _ => ?_, fun _ n => absurd rfl n⟩
      exact fin _ nt ns s5 (s5.sqT gn4) nne (by omega)
/-- the diversions that are drawn -/
def spPt (K : PySem.W.Frag) (CT : Addr) : Sp := fun vs H Q _ => ∃ (r a st : Addr) (es : Eds), vs = [.ref r, .ref st] ∧ Row K H r a ∧ StObj CT H st es ∧ es.length ≤ 6 ∧ keysOf es ≠ [] ∧
  ∀ H' dv dl, Dr r a H H' → H dv = none → DvS K H' dv dl → (∀ e ∈ dl, e.1 ∈ PD4 ∧ e.2.2.2 ∈ OT) → Q (.ref dv) H'
theorem ok_pt {f : Addr} {fd : FuncData} (F : Fun K "_law_put" "_law_put" sPt f fd) (gL : mg "len" = none) (gI : mg "int" = none) (dT : Def P w K mg base 1 "_law_taken" ["_law_row", "_law_many"] (spTaken K)) (N : NamF P w K mg base CT) : FnOk P w K mg base CX0 4 f fd ["_law_row", "_law_store_here"] (spPt K CT) := by
  refine F.ok scPt (fun vs H Q E h => ?_) (fun cdv A outer s H vs Q E hr h => ?_)
  · obtain ⟨r, a, st, es, rfl, _⟩ := h
    rfl
  · obtain ⟨r, a, st, es, rfl, R, hO, few6, ne, kk⟩ := h
    have nd := scPt.nd
    obtain ⟨tO, hO1, rdO⟩ := put_one (CT := CT) (f := f) (cdv := cdv) (A := A) (outer := outer) (sh := s) (H0 := H) (E := E) gL gI dT N hr nd
    refine ⟨_, pss_cons (ps_set (i := 2) nd rfl (Or.inl rfl) pe_dnewK)
      (pss_cons (ps_for PassesOwn.never rfl (pi_tup (pe_tup (pa_cons pe_str (pa_cons pe_str (pa_cons pe_str (pa_cons pe_str pa_nil)))))) (pg_name (i := 3) nd rfl (by first | exact Or.inl rfl | exact Or.inr rfl)) hO1)
      (pss_one (ps_ret (pv 2)))), ?_⟩
    refine fun dv ndv => ?_
    have s1 := Same.upd_new (o := .dK []) ndv
    have g1 : upd H dv (.dK []) dv = some (.dK []) := upd_same
    generalize upd H dv (.dK []) = H1 at s1 g1 ⊢
    refine ⟨(by show 4 ≤ sizeLine; decide), fun tp ntp => ?_⟩
    have s2 := Same.upd_new (o := .tup (PD4.map V.str)) ntp
    have gt : SqT K (upd H1 tp (.tup (PD4.map V.str))) tp (PD4.map V.str) := SqT.of upd_same
    have g2 := s2 _ _ g1
    have S2 := s1.trans s2
    have e0 : (upd H1 tp (.tup [.str "bin", .str "conf", .str "doc", .str "new"])) = upd H1 tp (.tup (PD4.map V.str)) := rfl
    rw [e0]
    generalize upd H1 tp (.tup (PD4.map V.str)) = H2 at S2 gt g2 ⊢
    have R2 := R.same' S2
    have d2 : Dr r a H H2 := R.of S2
    have ndp : PD4.Nodup := by decide +kernel
    refine ⟨tp, rfl, ⟨_, gt⟩, ?_⟩
    refine for_it (walk_tup (xs := PD4.map V.str)) (fun i σ H' => ∃ dl x3 x4 x5 x6, σ = [some (.ref r), some (.ref st), some (.ref dv), x3, x4, x5, x6] ∧ Dr r a H H' ∧ SqT K H' tp (PD4.map V.str) ∧ DvS K H' dv dl ∧ (∀ e ∈ dl, e.1 ∈ PD4.take i ∧ e.2.2.2 ∈ OT) ∧ dl.length ≤ i)
      ⟨[], none, none, none, none, rfl, d2, gt, ⟨g2, fun e h => (nomatch h), .nil, Nat.zero_le _⟩, fun e h => (nomatch h), Nat.le_refl _⟩ ?_ ?_ ?_
    · rintro i σ H' _ ⟨dl, x3, x4, x5, x6, rfl, d, g, _⟩
      exact g
    · rintro i v σ H3 H4 hi ⟨dl, x3, x4, x5, x6, rfl, d, g, hD, hin, ln⟩ ⟨rfl, hv⟩
      obtain ⟨z, hz, rfl⟩ := getE hv
      have hi4 : i < 4 := by rw [List.length_map] at hi; exact hi
      have new : z ∉ dl.map (·.1) := fun h => by
        obtain ⟨e, he, rfl⟩ := List.mem_map.mp h
        have h1 := (hin e he).1
        have ap : (PD4.take i ++ PD4.drop i).Nodup := by rw [List.take_append_drop]; exact ndp
        exact (List.nodup_append.mp ap).2.2 e.1 h1 e.1 (List.mem_of_getElem? (i := 0) (by rw [List.getElem?_drop]; exact hz)) rfl
      refine rdO _ H H4 r a st dv es dl z _ _ _ R d ndv hO few6 ne hD (by omega) new (List.mem_of_getElem? hz) fun H5 dl5 y4 y5 y6 d5 k5 hD5 hk => ?_
      have nx : PD4.take (i + 1) = PD4.take i ++ [z] := take_next hz
      have gt5 : SqT K H5 tp (PD4.map V.str) := k5 _ _ g
      refine ⟨dl5, _, _, _, _, rfl, d5, gt5, hD5, fun e he => ?_, ?_⟩
      · rcases hk with rfl | ⟨p, n, o, rfl, ho⟩
        · obtain ⟨h1, h2⟩ := hin e he
          exact ⟨by rw [nx]; exact List.mem_append.mpr (.inl h1), h2⟩
        · rcases List.mem_append.mp he with he | he
          · obtain ⟨h1, h2⟩ := hin e he
            exact ⟨by rw [nx]; exact List.mem_append.mpr (.inl h1), h2⟩
          · rw [List.mem_singleton.mp he]
            exact ⟨by rw [nx]; exact List.mem_append.mpr (.inr (.head _)), ho⟩
      · rcases hk with rfl | ⟨p, n, o, rfl, ho⟩
        · omega
        · rw [List.length_append]
          show _ + 1 ≤ _
          omega
    · rintro σ H3 ⟨dl, x3, x4, x5, x6, rfl, d, g, hD, hin, ln⟩
      exact ⟨_, rfl, kk H3 dv dl d ndv hD fun e he => ⟨List.mem_of_mem_take (hin e he).1, (hin e he).2⟩⟩
end
end Half

namespace Half
open PySem PySem.Spec PyProof.Rows L2
abbrev sLaw : Stmt := top 62
abbrev LawN : List Str := ["_law_script", "_law_row", "_law_turn", "_law_store_here", "_law_layout_here", "_law_keys_here", "_law_paths", "_law_put_here", "_law_key", "_law_due", "_law_told", "_law_wrong_here", "e", "_law_places", "_law_some", "_law_path", "_law_content", "_law_name", "_law_other"]
theorem scLaw : FnScope LawN ["_law_script"] (defScope sLaw) := ⟨rfl, rfl, rfl, by decide +kernel, rfl, by decide +kernel, by decide +kernel⟩
abbrev tBody : List Stmt := forBody (nth (defBody sLaw) 1)
section
variable {P : Program} {w : World} {K : PySem.W.Frag} {mg : Str → Option Value} {base : Heap} {CT CY CV CU : Addr}
/-- the paths of all editions -/
theorem law_paths {f : Addr} {cdv : Value} {A : Around} {outer : List Env} {sh : Shared} {H0 : Hp} {E : XK} (Y : LayP P w K mg base CY)
    (hr : Room 8 (A.deeper (envOfC "law" (defScope sLaw) sh.heap.objs.size f cdv))) (nd : LawN.Nodup) :
    ∃ t, PS (cxOf CX0 P w K mg base LawN "law" (defScope sLaw) f cdv A outer sh H0 E).nox (nth tBody 3) t ∧ ∀ (D' : Ends) (H : Hp) (y st d1 d2 kl pl : Addr) (es : Eds) (fs : Fls) (ts : Tks) (qs : List Addr) (ks : List Kk) (x0 x1 x2 x3 x7 x8 x9 x10 x11 x12 x13 x14 x15 x16 x17 x18 : Option V),
      LayS K CT CY H y st d1 d2 es fs ts → H kl = some (.lst (qs.map V.ref)) → Paired (KeyAt H) qs ks → ks.length ≤ 40 → H pl = some (.lst []) →
      (∀ H' pl' x8, Same H H' → H' pl' = some (.lst ((allP fs ks).map V.str)) → D'.nx [x0, x1, x2, x3, some (.ref y), some (.ref kl), some (.ref pl'), x7, x8, x9, x10, x11, x12, x13, x14, x15, x16, x17, x18] H') →
      t D' [x0, x1, x2, x3, some (.ref y), some (.ref kl), some (.ref pl), x7, x8, x9, x10, x11, x12, x13, x14, x15, x16, x17, x18] H := by
  have hu1 := hu_of hr
  have r2 : Room 2 _ := hr.mono (by decide)
  refine ⟨_, ps_for PassesOwn.never rfl (pi_list (pv 5)) (pg_name (i := 8) nd rfl (by first | exact Or.inl rfl | exact Or.inr rfl))
    (pss_one (ps_set (i := 6) nd rfl (by first | exact Or.inl rfl | exact Or.inr rfl) (pe_op op_cat (pv 6) (pe_lc (own := [("_law_path", 15), ("_law_content", 16)]) (g := gTup K 2 (gCons (gName 15) (gCons (gName 16) gNil))) (tt := tYes) (te := tVar 15) rfl nd (pi_tup (pe_dget2 hu1 (pe_lfP Y r2 (pv 4)) (pv 8) (pe_tup pa_nil) ⟨rfl, rfl, rfl, rfl⟩)) (blkOk_by (N := LawN) (sc := defScope sLaw) (by decide +kernel))
        (fun _ _ _ _ _ => pg_tup rfl (pgs_cons (pg_name (i := 15) nd rfl (Or.inl rfl)) (pgs_cons (pg_name (i := 16) nd rfl (Or.inl rfl)) pgs_nil))) (fun _ _ _ _ _ => pts_nil) (fun _ _ _ _ _ => pv 15))))), ?_⟩
  intro D' H y st d1 d2 kl pl es fs ts qs ks x0 x1 x2 x3 x7 x8 x9 x10 x11 x12 x13 x14 x15 x16 x17 x18 L gk pk lk gl kk
  have lq := Paired.length pk
  have lenA : ∀ i, (allP fs (ks.take i)).length ≤ 400 := fun i => by
    have h := flatMap_len (l := ks.take i) (f := pathsL fs) (c := 10) fun k _ => by
      unfold pathsL
      rw [List.length_map]
      exact filL_len L.s k
    have : (ks.take i).length ≤ ks.length := (List.take_sublist ..).length_le
    unfold allP
    omega
  refine ⟨_, rfl, kl, rfl, ⟨_, SqL.of gk⟩, ?_⟩
  refine for_it (walk_list (xs := qs.map V.ref)) (fun i σ H' => ∃ l x8, σ = [x0, x1, x2, x3, some (.ref y), some (.ref kl), some (.ref l), x7, x8, x9, x10, x11, x12, x13, x14, x15, x16, x17, x18] ∧ Same H H' ∧ H' l = some (.lst ((allP fs (ks.take i)).map V.str)))
    ⟨pl, _, rfl, Same.refl _, gl⟩ ?_ ?_ ?_
  · rintro i σ H' _ ⟨l, y8, rfl, S, _⟩
    exact SqL.of (S _ _ gk)
  · rintro i v σ H2 H3 hi ⟨l, y8, rfl, S, g⟩ ⟨rfl, hv⟩
    obtain ⟨q, hq, rfl⟩ := getE hv
    obtain ⟨k, hk, gq⟩ := paired_get pk hq
    have nxt : allP fs (ks.take (i + 1)) = allP fs (ks.take i) ++ pathsL fs k := flat_next (f := pathsL fs) hk
    have la := lenA i
    rw [nxt]
    refine ⟨_, rfl, ?_⟩
    dsimp only [tLc, iTup]
    refine fget2_read (k := k) (by rfl) (by rfl) (L.same S) (S _ _ gq) fun H4 a s4 hFa => ?_
    obtain ⟨as1, hS, hl, hp⟩ := hFa
    have few := filL_len L.s k
    refine ⟨a, rfl, ⟨_, hS⟩, fun D hDn => ?_⟩
    refine lc_it (walk_tup (xs := as1.map V.ref)) (MapP H4 D ((filL fs k).map fun p => V.str p.1)) (MapP.zero hDn) (fun _ _ _ p => p.1.sqT hS) ?_ ?_
    · rintro j x H5 H6 hj p ⟨rfl, hx⟩
      obtain ⟨t, ht, rfl⟩ := getE hx
      have hip : j < (filL fs k).length := by rw [List.length_map] at hj; omega
      have hfp := List.getElem?_eq_getElem hip
      refine ⟨t, _, rfl, p.1.sqT (hp j t _ ht hfp), rfl, ?_⟩
      refine ⟨_, _, rfl, _, _, rfl, rfl, rfl, ?_⟩
      refine ⟨_, rfl, ?_⟩
      refine p.step hDn ?_ (by rw [List.length_map]; omega) (Same.refl _)
      rw [List.getElem?_map, hfp]
      rfl
    intro H5 p
    obtain ⟨s5, gD⟩ := p.done (by rw [List.length_map, List.length_map, hl])
    have eP : (filL fs k).map (fun p => V.str p.1) = (pathsL fs k).map V.str := by unfold pathsL; rw [List.map_map]; rfl
    rw [eP] at gD
    have S5 := s4.trans s5
    have lp : (pathsL fs k).length ≤ 10 := by unfold pathsL; rw [List.length_map]; exact few
    refine ⟨l, D, _, _, rfl, rfl, S5 _ _ g, gD, by rw [List.length_map, List.length_map, sizeLine_eq]; omega, fun p9 np9 => ?_⟩
    have s9 := Same.upd_new (o := .lst ((allP fs (ks.take i)).map V.str ++ (pathsL fs k).map V.str)) np9
    exact ⟨p9, _, rfl, S.trans (S5.trans s9), by rw [upd_same, List.map_append]⟩
  · rintro σ H2 ⟨l, y8, rfl, S, g⟩
    rw [List.length_map, lq, List.take_length] at g
    exact kk H2 l _ S g
end
end Half

/-! o.f, a property, within an except suite -/
namespace L2H
open PySem PySem.Spec PyProof.Rows L2 HotX
section
variable {X : Cx} {CX : CXT} {k : Nat} {C p g : Addr} {f : Str} {fd : FuncData} {sp : Sp} {E : XK} {e : Expr} {pos : Pos} {ta : TE}
theorem RoomH.in1 {k : Nat} {A : Around} (r : RoomH (k + 1) A) : RoomH k A.in1 :=
  ⟨by have := r.dp; show A.depth + 3 * k + 5 < _; omega, by have := r.un; show A.units + 1 + 16 * k + 200 < _; omega⟩
theorem pe_propH (he : PE X e ta) (c : Cls X.K C) (hp : PropOf X.K C f p g) (F : FnH X.prog X.w X.K X.mg X.base CX k g fd ["self"] sp) (hr : RoomH (k + 1) X.A) (hc : HotC X) (hb : Binds X.K fd ["self"] []) (hx : Passes CX X.nox E)
    (hab : attributeBase e f X.env (eval e X.env) = eval e X.env) : PE X (.Attribute e f pos) (tProp C sp [] E ta) := by
  constructor
  intro pns st τ G R J0 rd
  refine attr_of hab (thn (he.run pns st τ G _ J0 rd) ?_)
  rintro vv st1 ⟨_, G1, J1, rel, o, od, flds, rfl, at_o, keep⟩
  cases rel
  have J2 := J1.tok (st1.toks + 1)
  obtain ⟨_, own, -⟩ := ins_get J1.hok at_o
  obtain ⟨_, inst, -⟩ := own.look
  obtain ⟨_, getter⟩ := hp.rec_
  obtain ⟨cd0, hcd0, -⟩ := PySem.W.any_some c.hd
  have isC : (PySem.W.clsIn X.K C).isSome = true := by simp only [hcd0, Option.isSome_some]
  have plain := PySem.W.plainGet_of (c.get f)
  obtain ⟨hp1, hotP, memP⟩ := hc
  obtain ⟨a1, a2, a3, a4, a5⟩ := J2.pin hp1 (List.mem_append_left _ memP)
  have off : hp1.1 ∉ frs X.stack := fun z => (List.mem_cons.mp (J2.stkSub hp1.1 z)).elim a3 a4
  have body := F.run X.A.in1 X.stack _ G1 ⟨[.ref o], []⟩ [.ref o] [.ref o] R E hp1 hr.in1 hotP ⟨a1, a2, off, a5⟩ J2.env0.in1 (hb _ [.ref o] J2.kIn rfl) (.cons rfl .nil) keep
  refine PySem.W.get_bind J1.kIn inst plain.1 (PySem.W.findObj_data isC hp.at_ hp.get hp.tak) plain.2 (wpAny_call (PySem.W.prop_get (s := { st1 with toks := st1.toks + 1 }) J1.kIn getter (codeAny_mono body ?_)))
  rintro (er | (_ | _ | _ | ret)) st2 z
  · exact (hx pns τ G1 { st1 with toks := st1.toks + 1 } er st2 (J2.wish _) z).elim
  · exact z.elim
  · exact z.elim
  · exact z.elim
  · obtain ⟨v, G2, J3, rv, fin⟩ := J2.after z
    show wpAny _ _ (handedOut ret) _ _ _
    rw [PySem.W.handedOut_of (handed_of rv)]
    exact wpAny_pure ⟨v, G2, J3, rv, fin⟩
variable {m : Str} {o : Expr} {apos : Pos} {f0 : Addr} {ps : List Str} {Es : L2.St → XK}
/-- o.m() -/
theorem pe_meth0H {pl : Sem Bool} (obj : PE X o ta) (c : Cls X.K C) (isM : Meth X.K C m f0) (F : FnH X.prog X.w X.K X.mg X.base CX k f0 fd ps sp) (room : RoomH k X.A) (hot : HotC X) (bs : Binds X.K fd ps []) (out : ∀ σ, PassesAt CX X σ (Es σ))
    (ht : eval (.Call (.Attribute o m apos) [] [] pos) X.env = (do
      let recv ← eval o X.env
      standAt apos.atName
      let (g, lead) ← holding [recv] (getMethod recv m pl)
      callWith pos g lead (backTo pos (starEach [] X.env)) (backToKw pos (keywordEach [] X.env))) := by rfl) : PE X (.Call (.Attribute o m apos) [] [] pos) (tMethH C m sp Es ta tNil) where
  run pns st τ G R J rd := by
    refine PySem.W.methodCall_KW (pl := pl) (thn (obj.run pns st τ G _ J rd) ?_) ht
    rintro v st1 ⟨_, G1, J1, rel, o1, od, flds, rfl, at_o, free, keep⟩
    cases rel
    exact getmeth_ok J1 at_o c isM free (PySem.W.callWith_K0 (first := [.ref o1]) J1.kIn isM.kp (run_fnH (us := [.ref o1]) (vs := [.ref o1]) F room hot bs (out τ) J1 (.cons rfl .nil) keep))
variable {arg : Expr} {args : List Expr} {tas : TA}
/-- o.m(e, ..), what flies out told at the slots where the call stands -/
theorem pe_methE {pl : Sem Bool} (obj : PE X o ta) (c : Cls X.K C) (isM : Meth X.K C m f0) (F : FnOk X.prog X.w X.K X.mg X.base CX k f0 fd ps sp) (room : Room k X.A) (bs : Binds X.K fd ps []) (out : ∀ σ, PassesAt CX X σ (Es σ)) (as : PA X (arg :: args) tas)
    (plain : starEach (arg :: args) X.env = (false, eval arg X.env) :: starEach args X.env := by rfl) (none_ : (backTo pos (starEach args X.env)).any (·.1) = false := by rfl)
    (ht : eval (.Call (.Attribute o m apos) (arg :: args) [] pos) X.env = (do
      let recv ← eval o X.env
      standAt apos.atName
      let (g, lead) ← holding [recv] (getMethod recv m pl)
      callWith pos g lead (backTo pos (starEach (arg :: args) X.env)) (backToKw pos (keywordEach [] X.env))) := by rfl) : PE X (.Call (.Attribute o m apos) (arg :: args) [] pos) (tMethH C m sp Es ta tas) where
  run pns st τ G R J rd := by
    refine PySem.W.methodCall_KW (pl := pl) (thn (obj.run pns st τ G _ J rd) ?_) ht
    rintro v st1 ⟨_, G1, J1, rel, o1, od, flds, rfl, at_o, free, keep⟩
    cases rel
    refine getmeth_ok J1 at_o c isM free (PySem.W.callWith_K (first := [.ref o1]) (h₀ := X.base) J.ok.mod.kin isM.kp (thn (as.run pos pns st1 τ G1 _ J1 keep) ?_) plain none_)
    rintro us st2 ⟨vs, G2, J2, rel2, keep2⟩
    exact ⟨J2.kIn, run_fnS (us := .ref o1 :: us) (vs := .ref o1 :: vs) F room bs (out τ) J2 (.cons rfl rel2) keep2⟩
end
end L2H

/-! a, b = x, y within an except suite; an exception of an own __init__, its context being None -/
namespace L2H
open PySem PySem.Spec PyProof.Rows L2 HotX
section
variable {prog : Program} {w : World} {A : Around} {E : Value → Shared → Prop} {s : Shared}
/-- a tuple's iterator at its end, while an exception is handled -/
theorem tup_over {it t x1 : Addr} {i : Nat} {its : Array Value} {R : Option Value → Shared → Prop} (hot : HotAt A x1 s.heap) (ne : x1 ≠ it) (I : IsTupIter s.heap it t i) (T : IsTup s.heap t its) (no : its[i]? = none)
    (go : ∀ g, Heap.ExtBut it s.heap g → R none { s with heap := g }) : wpAny (model prog w) A (pyNext (.ref it)) R E s := by
  have ty := I.typeIs
  rcases I with ⟨ob, at1, _, da1⟩
  rcases T with ⟨tb, at2, _, m2, da2⟩
  obtain ⟨hh, o1, vs1, h1, d1, c1⟩ := hot
  unfold pyNext
  refine wpAny_bind (wpAny_attempt (wpAny_callSpecial?_slot (name := Str.ofString "__next__") ty slot_tupleiter_next (wpAny_call_entry slot_tupleiter_next ty entry_tupleiter_next ?_ (args_tupleiter_next _))))
  show wpAny _ _ (field (.ref it) 0 >>= _) _ _ s
  refine wpAny_bind (wpAny_field at1 da1 (x := .ref t) rfl ?_)
  show wpAny _ _ (if (Value.ref t == Value.none) = true then _ else _) _ _ s
  rw [if_neg (show ¬ ((Value.ref t == Value.none) = true) from fun z => Bool.false_ne_true z)]
  show wpAny _ _ (field (.ref it) 1 >>= _) _ _ s
  refine wpAny_bind (wpAny_field at1 da1 (x := .int i 0) rfl ?_)
  show wpAny _ _ (seqItems? (.ref t) >>= _) _ _ s
  refine wpAny_bind (wpAny_seqItems at2 da2 ?_)
  simp only [Int.toNat_natCast, no]
  refine wpAny_bind (wpAny_rule (wpAny_bind (wpAny_setField at1 da1 (by simp) ?_)))
  have h2 := (Heap.get?_update_other s.heap (Obj.mapFields (·.setIfInBounds 0 Value.none)) (Ne.symm ne)).trans h1
  have xb : Heap.ExtBut it s.heap (s.heap.update it (Obj.mapFields (·.setIfInBounds 0 Value.none))) := (Heap.SameBut.update ..).extBut
  generalize s.heap.update it (Obj.mapFields (·.setIfInBounds 0 Value.none)) = g at h2 xb ⊢
  change wpAny _ A.in1 (newExc (.type "StopIteration") [] >>= _) _ _ _
  apply wpAny_bind
  simp only [newTuple, newExc]
  refine wpAny_newObj_type ?_ (by size_fits) |> wpAny_bind
  refine wpAny_bind (m := firstArgMember _ _) (wpAny_of_eq (a := Value.none) (by first | rfl | (simp only [firstArgMember]; rfl)) ?_)
  refine wpAny_newObj_type ?_ (by size_fits)
  have h3 := Heap.get?_push_of_some { cls := .type "tuple", data := .seq #[] } h2
  have up : ∀ {p : Heap} {o : Obj} {b : Addr} {u : Obj} {f : Obj → Obj}, p.get? b = some u → ((p.push o).update p.objs.size f).get? b = some u := fun {p o b u f} e => by
    rw [Heap.get?_update_other _ _ (Nat.ne_of_gt (Heap.lt_size e))]
    exact Heap.get?_push_of_some _ e
  refine raiseNew_hot ⟨hh, o1, vs1, Heap.get?_push_of_some _ h3, d1, c1⟩ (Nat.ne_of_lt (Heap.lt_size h3)) (Heap.get?_push_size _ rfl) rfl (by first | (simp; done) | (simp; omega) | (simp only [Array.size_append]; simp; omega)) ?_
  refine wpAny_bind (wpAny_isInstance (T := "StopIteration") (b := true) ⟨_, Heap.get?_update_self _ (Heap.get?_push_size _ rfl) rfl, rfl⟩ isSubtype_stop ?_)
  exact wpAny_pure (go _ fun b o nb e => up (Heap.get?_push_of_some _ (xb b o nb e)))
/-- a tuple unpacked there -/
theorem unpack_hot {t x1 : Addr} {its : Array Value} {R : List Value → Shared → Prop} (hot : HotAt A x1 s.heap) (T : IsTup s.heap t its)
    (go : ∀ g, Heap.ExtBut s.heap.objs.size s.heap g → R its.toList { s with heap := g }) : wpAny (model prog w) A (unpackItems (.ref t) its.size none) R E s := by
  have lt : t < s.heap.objs.size := let ⟨_, at1, _⟩ := T; Heap.lt_size at1
  obtain ⟨hh, o1, vs1, h1, d1, c1⟩ := hot
  unfold unpackItems
  refine wpAny_bind ?_
  unfold notIterableAtAll
  refine wpAny_bind (wpAny_specialOf T.typeIs slot_tuple_iter.lookup (wpAny_pure ?_))
  simp only [Bool.false_eq_true, if_false]
  refine wpAny_bind (wpAny_holding (iter_tuple T ?_))
  refine wpAny_bind (wpAny_holding (draw_tuple (Nat.ne_of_lt lt) its.size 0 _ _ ⟨_, Heap.get?_push_size _ rfl, rfl, rfl⟩ (T.push _) (Nat.le_of_eq (Nat.zero_add _)) fun g it1 sb1 => ?_))
  rw [show (its.toList.drop 0).take its.size = its.toList by rw [List.drop_zero]; exact List.take_of_length_le (by simp), if_neg (by simp)]
  have hx := sb1.extBut x1 o1 (Nat.ne_of_lt (Heap.lt_size h1)) (Heap.get?_push_of_some _ h1)
  refine wpAny_bind (wpAny_holding (tup_over (s := { s with heap := g }) ⟨hh, o1, vs1, hx, d1, c1⟩ (Nat.ne_of_lt (Heap.lt_size h1)) it1 ((T.push _).extBut sb1.extBut (Nat.ne_of_lt lt)) (by simp) fun g2 xb2 => ?_))
  simp only [Option.isSome_none, Bool.false_eq_true, if_false]
  exact wpAny_pure (go g2 fun b o nb e => xb2 b o nb (sb1.extBut b o nb (Heap.get?_push_of_some _ e)))
end
/-- a, b = x, y within an except suite -/
theorem ps_parH {X : Cx} {i j : Nat} {x y : Str} {e1 e2 : Expr} {ta : TA} {p1 p2 p3 : Pos} {c3 c4 p4} {pos : Pos} (hot : HotC X) (hN : X.N.Nodup) (hi : X.N[i]? = some x) (hj : X.N[j]? = some y) (ne : i ≠ j)
    (lx : X.env.scope.names.lookup x = some .local) (ly : X.env.scope.names.lookup y = some .local) (ha : PA X [e1, e2] ta)
    (hw : swappedStores [.Tuple [.Name x p1, .Name y p2] c3 p3] (.Tuple [e1, e2] c4 p4) X.env = pure (some [x, y]))
    (hs : swapsWithSole [.Tuple [.Name x p1, .Name y p2] c3 p3] (.Tuple [e1, e2] c4 p4) pos.line X.env = pure false := by rfl) :
    PS X (.Assign [.Tuple [.Name x p1, .Name y p2] c3 p3] (.Tuple [e1, e2] c4 p4) pos) (tPar i j ta) := by
  constructor
  intro pins st τ G D J rd
  rw [exec_Assign_arm]
  apply wpAny_bind
  apply wpAny_standAt
  rw [hs]
  apply wpAny_bind
  apply wpAny_pure
  rw [if_neg (by decide)]
  refine wpAny_bind (Tuple_ (thn (ha.run _ pins st τ G _ J rd) ?_))
  rintro us st1 ⟨vs, G1, J1, r1, v, u, rfl, q1⟩
  obtain ⟨u1, u2, rfl, rv, ru⟩ : ∃ u1 u2, us = [u1, u2] ∧ RelV v u1 ∧ RelV u u2 := by
    match us, r1 with
    | [_, _], .cons p (.cons p' .nil) => exact ⟨_, _, rfl, p, p'⟩
  refine wpAny_newObj_type ?_ (by show 2 ≤ sizeLine; decide)
  have J2 : Inv X pins τ G1 { st1 with heap := st1.heap.push { cls := .type "tuple", data := .seq [u1, u2].toArray } } := J1.kept (t' := st1.toks) (fun _ _ e => Heap.get?_push_of_some _ e)
  rw [hw]
  refine wpAny_bind (wpAny_pure ?_)
  obtain ⟨x1, hx1⟩ := hot.at J2
  change wpAny (model X.prog X.w) X.A (do rule "assign.swapped-stores"; let its ← unpackItems (.ref st1.heap.objs.size) 2 none; assignInOrder [fun z => bindName X.env y z, fun z => bindName X.env x z] its.reverse; pure Flow.next) _ _ _
  refine wpAny_bind (wpAny_rule (wpAny_bind (unpack_hot (its := #[u1, u2]) hx1 (IsTup.new st1.heap _) fun g xb => ?_)))
  have J3 := J2.kept (h' := g) (t' := st1.toks) (fun c o e => xb c o (Nat.ne_of_lt (Heap.lt_size e)) e)
  change wpAny _ _ (assignInOrder [fun z => bindName X.env y z, fun z => bindName X.env x z] [u2, u1] >>= fun _ => pure Flow.next) _ _ _
  refine wpAny_bind (assignInOrder_cons (wpAny_bindName (store_ok J3 hN hj (.inl ly) ru (fun st2 J4 => ?_) (.inr ly))))
  refine assignInOrder_cons (wpAny_bindName (store_ok J4 hN hi (.inl lx) rv (fun st3 J5 => ?_) (.inr lx)))
  refine assignInOrder_nil (wpAny_pure ?_)
  rw [List.set_comm _ _ (Ne.symm ne)] at J5
  exact ⟨_, G1, J5, q1⟩
/-- the suite's exception, its context being None -/
theorem hot_suite {X : Cx} {a : Addr} {oe : Obj} {cls : Value} {d : Option Addr} {pn : List (Addr × Obj)} (z : L2N.Zn cls d oe) (f : ∃ vs, oe.data = .fields vs) : HotC (X.suite a ((a, oe) :: pn)) := by
  obtain ⟨vs, e⟩ := f
  exact ⟨(a, oe), ⟨rfl, vs, e, z.2.2 vs e⟩, .head _⟩
end L2H

/-! an exception with an own __init__, made where nothing is handled: its context is None -/
namespace L2N
open PySem PySem.Spec PyProof.Rows L2
section
variable {X : Cx} {e : Expr} {es : List Expr} {ta : TA} {p pos : Pos}
theorem pmk_init {CX : CXT} {x : Str} {C g : Addr} {k : Nat} {fd : FuncData} {ps : List Str} {sp : Sp} (T : OexC X.K C) (ini : PySem.W.findIn X.K (.ref C) "__init__" = some (some (.ref g))) (ty : PySem.W.typeIn X.K (.ref g) = some (.type "function"))
    (FI : FnOk X.prog X.w X.K X.mg X.base CX k g fd ps sp) (room : Room (k + 1) X.A) (bd : Binds X.K fd ps []) (never : Passes CX X (fun _ _ _ => False)) (gl : Gl X x) (gm : X.mg x = some (.ref C)) (args : PA X (e :: es) ta)
    (c1 : (x == ("__debug__" : Str)) = false := by decide) (c2 : starEach (e :: es) X.env = (false, eval e X.env) :: starEach es X.env := by rfl) (c3 : (backTo pos (starEach es X.env)).any (·.1) = false := by rfl) :
    PMk X (.Call (.Name x p) (e :: es) [] pos) (tMkO C sp [] ta) := by
  intro pins st τ G R J rd
  obtain ⟨n1, n2, n3, n4, refs, n6, n7, n8, n9, n10, n11, n12, n13, n14, n15, cObj, isVE⟩ := T.cls
  refine wpAny_Call_Name_kw (ld_glob J gl gm ?_ c1)
  refine PySem.W.callWith_K (h₀ := X.base) J.ok.mod.kin T.kC (thn (args.run pos pins st τ G _ J rd) ?_) c2 c3
  rintro us ⟨hp, gs, dr, tk, os⟩ ⟨vs, G1, J1, rel, small, want⟩
  refine ⟨J1.kIn, ?_⟩
  change wpAny _ _ (call (.ref C) us) _ _ _
  have up1 : hp.objs.size ≤ hp.objs.size + 1 := Nat.le_succ _
  have isNew : G1 (hp.objs.size + 1) = none := J1.hok.fresh up1
  have sp1 := want (hp.objs.size + 1) isNew
  have stays : ∀ b o, hp.get? b = some o → ((hp.push (PySem.W.kdv_tup us)).push (PySem.HandSPX.excO C hp.objs.size)).get? b = some o := fun _ _ q => Heap.get?_push_of_some _ (Heap.get?_push_of_some _ q)
  have made : ((hp.push (PySem.W.kdv_tup us)).push (PySem.HandSPX.excO C hp.objs.size)).get? (hp.objs.size + 1) = some (PySem.HandSPX.excO C hp.objs.size) := by heap_get
  have J2 := J1.laid (t' := tk) (a := hp.objs.size + 1) (o := exo (hp.objs.size + 1) C none) (h' := (hp.push (PySem.W.kdv_tup us)).push (PySem.HandSPX.excO C hp.objs.size)) stays up1 (exo_ok made)
  have rel2 : Vals (V.ref (hp.objs.size + 1) :: vs) (Value.ref (hp.objs.size + 1) :: us) := .cons rfl rel
  rw [List.append_nil] at sp1
  have lens := (rel2.length.symm.trans (FI.len _ _ _ _ sp1))
  have few : us.length ≤ sizeLine := by have q := Paired.length rel; rw [sizeLine_eq]; omega
  have binds := bd _ (Value.ref (hp.objs.size + 1) :: us) J2.kIn (by rw [List.append_nil]; exact lens)
  rw [List.append_nil] at binds
  have body := FI.run _ X.stack _ _ ⟨Value.ref (hp.objs.size + 1) :: us, []⟩ _ _ _ (fun _ _ _ => False) (room.make C us []) (J2.env0.make C us []) binds rel2 sp1
  refine wpAny_call (PySem.HandSPX.call_own PySem.F.excBase_ValueError (fun Y => PySem.HandSPX.refsVE_contains Y refs isVE) (J1.kIn _ _ cObj) (PySem.W.looks_findIn J1.kIn ini) (fun self => PySem.W.bind_fn J1.kIn self ty) few (codeAny_mono body ?_))
  rintro (er | (_ | _ | _ | u)) ⟨h2, gs2, dr2, tk2, os2⟩ q
  · exact never pins τ _ _ er _ J2 q
  · exact q.elim
  · exact q.elim
  · exact q.elim
  · obtain ⟨v, G2, eos, bare, un, ok2, rv, nonV, d, fs, ea, ed, nd, fin⟩ := q
    subst nonV
    obtain ⟨t0, B, J3, keepB, newB, obj, away⟩ := mk_end0 (d2 := dr2) (t2 := tk2) J1 up1 stays un ok2 eos bare ea ed nd
    exact ⟨rv, hp.objs.size + 1, _, _, ⟨B, gs2, dr2, tk2, os2⟩, _, .ref C, some d, rfl, J3, keepB, newB, obj, ⟨rfl, rfl, fun _ z => by cases z; rfl⟩, rfl, rfl, away, rfl, bare, raises_own T.exC T.tyC, fin⟩
end
end L2N

namespace Half
open PySem PySem.Spec PyProof.Rows L2
/-! ### check_diversions and crowded, called where nothing is handled -/
structure DefN (P : Program) (w : World) (K : PySem.W.Frag) (mg : Str → Option Value) (base : Heap) (k : Nat) (x : Str) (ps : List Str) (sp : Sp) : Prop where
  ex : ∃ f fd, FnOk P w K mg base (L2N.CX P w) k f fd ps sp ∧ mg x = some (.ref f) ∧ PySem.W.keepIn K (.ref f) = true ∧ Binds K fd ps []
theorem pe_defN {X : Cx} {k : Nat} {x : Str} {ps : List Str} {sp : Sp} {e : Expr} {es : List Expr} {t : TA} {p pos : Pos} {E : XK} (D : DefN X.prog X.w X.K X.mg X.base k x ps sp) (room : Room k X.A) (gl : Gl X x) (out : Passes (L2N.CX X.prog X.w) X E) (args : PA X (e :: es) t)
    (c1 : (x == ("__debug__" : Str)) = false := by decide) (c2 : starEach (e :: es) X.env = (false, eval e X.env) :: starEach es X.env := by rfl) (c3 : (backTo pos (starEach es X.env)).any (·.1) = false := by rfl) : PE X (.Call (.Name x p) (e :: es) [] pos) (tCall sp [] E t) :=
  let ⟨_, _, F, hm, hk, hb⟩ := D.ex; pe_call F room gl hm hk hb .nil out args c1 c2 c3
section
variable {P : Program} {w : World} {K : PySem.W.Frag} {mg : Str → Option Value} {base : Heap} {CT CY CV fV : Addr} {fdV : FuncData}
theorem ok_cvN {f : Addr} {fd : FuncData} (F : Fun K "check_diversions" "check_diversions" sCd f fd) (T : TxtV P w K mg base CV fV fdV) (dW : Def P w K mg base 5 "wrong_path" ["layout", "diversions"] (spWp K CT CY)) : FnOk P w K mg base (L2N.CX P w) 6 f fd ["layout", "diversions"] (spCv K CT CY CV) := by
  obtain ⟨oc, od, kV, doc, pm, an, cdv, ct, osl, rfl, lk, hcd⟩ := F.ex
  refine fn_of lk hcd scCd (fun vs H Q E h => ?_) (fun A outer s H vs Q E hr h => ?_)
  · obtain ⟨y, dv, st, d1, d2, es, fs, ts, dl, rfl, _⟩ := h
    rfl
  · obtain ⟨y, dv, st, d1, d2, es, fs, ts, dl, rfl, L, hD, okD, kk⟩ := h
    have nd := scCd.nd
    have FI : FnOk P w K mg base CX0 1 fV fdV ["self", "path"] (spErrR CV "path") := ok_iv T.er T.sup T.nF
    refine ⟨_, pss_cons (ps_set (i := 2) nd rfl (Or.inl rfl) (pe_def dW hr rfl (pa_cons (pv 0) (pa_cons (pv 1) pa_nil))))
      (pss_one (ps_if (pt_cmp (pc_notN (pv 2))) (pss_one (L2N.ps_raise rfl (L2N.takes_of rfl rfl rfl rfl) (L2N.pmk_init T.sup.oex T.iC T.tI FI (hr.mono (by decide)) T.bI (fun _ _ _ _ _ _ _ h => h.elim) rfl T.mgE (pa_cons (pv 2) pa_nil)))) pss_nil)), ?_⟩
    refine ⟨_, rfl, _, rfl, y, dv, st, d1, d2, es, fs, ts, dl, rfl, L, hD, fun H1 ys zs ns s1 pm asc pz srt isn => ?_⟩
    obtain ⟨kN, kS⟩ := kk _ ⟨ys, zs, ns, pm, asc, pz, srt, isn, rfl⟩
    cases hw : wrongY ns dl (allP fs ys ++ dl.map (·.1)) zs with
    | none => exact ⟨_, rfl, false, rfl, iteF (kN hw H1 s1)⟩
    | some z =>
      have kE := kS z hw
      obtain ⟨e, he, hz⟩ := List.mem_map.mp (pz.mem_iff.mp (wrongY_mem hw))
      have lr := okD e he
      rw [hz] at lr
      refine ⟨_, rfl, true, rfl, ?_⟩
      refine iteT ?_
      refine ⟨_, rfl, (by show 1 ≤ 1000; decide), fun a ha => ⟨a, z, rfl, upd_same, lr, fun dd hd1 hd2 => ⟨rfl, dd, [("path", .str z)], upd_same, ?_, ?_, ?_⟩⟩⟩
      · rw [upd_ne hd2, upd_same]
      · rw [upd_ne hd2] at hd1
        exact hd1
      · rw [upd_ne hd2] at hd1
        refine kE _ dd (fun b o q => ?_) upd_same
        have q1 := s1 b o q
        have nb : b ≠ dd := ne_of_none q1 hd1
        have na : b ≠ a := ne_of_none q1 ha
        rw [upd_ne nb, del_ne na, upd_ne na, upd_ne nb, upd_ne na]
        exact q1
end
section
variable {P : Program} {w : World} {K : PySem.W.Frag} {mg : Str → Option Value} {base : Heap} {CT CY CV : Addr}
theorem ok_crdN {f : Addr} {fd : FuncData} (F : Fun K "crowded" "crowded" sCrd f fd) (Y : LayP P w K mg base CY) (dE : Def P w K mg base 3 "edition_keys" ["store"] (spEk CT)) (dD : DefN P w K mg base 6 "check_diversions" ["layout", "diversions"] (spCv K CT CY CV)) (dP : Def P w K mg base 5 "places_of" ["layout", "diversions", "key"] (spPs K CT CY)) (dC : Def P w K mg base 5 "clashes" ["layout", "places"] (spClt K CT CY)) : FnOk P w K mg base (L2N.CX P w) 7 f fd ["layout", "diversions"] (spCrd K CT CY CV) := by
  obtain ⟨oc, od, kV, doc, pm, an, cdv, ct, osl, rfl, lk, hcd⟩ := F.ex
  refine fn_of lk hcd scCrd (fun vs H Q E h => ?_) (fun A outer s H vs Q E hr h => ?_)
  · obtain ⟨y, dv, st, d1, d2, es, fs, ts, dl, rfl, _⟩ := h
    rfl
  · obtain ⟨y, dv, st, d1, d2, es, fs, ts, dl, rfl, L0, hD, okD, kk0⟩ := h
    have nd := scCrd.nd
    have hu1 := hu_of hr
    have r2 : Room 2 _ := hr.mono (by decide)
    have r3 : Room 3 _ := hr.mono (by decide)
    have r5 : Room 5 _ := hr.mono (by decide)
    refine ⟨_, pss_cons (ps_expr (pe_defN dD hr rfl (L2N.passes_call (L2N.takes_of rfl rfl rfl rfl) (fun _ _ _ _ h => h)) (pa_cons (pv 0) (pa_cons (pv 1) pa_nil))))
      (pss_one (ps_ret (pe_def dC r5 rfl (pa_cons (pv 0) (pa_cons (pe_dcG (own := [("key", 2)]) (g := gName 2) (tt := tYes) (tk := tVar 2) (tv := tCall (spPs K CT CY) [] E0 (tCons (tVar 0) (tCons (tVar 1) (tCons (tVar 2) tNil)))) Bare.t hu1 rfl nd (pi_list (pe_def dE r3 rfl (pa_cons (pe_lsP Y r2 (pv 0)) pa_nil))) (blkOk_by (N := ["layout", "diversions", "key"]) (sc := defScope sCrd) (by decide +kernel))
        (fun _ _ _ _ _ => pg_name (i := 2) nd rfl (Or.inl rfl)) (fun _ _ _ _ _ => pts_nil) (fun _ _ _ _ _ => pv 2) (fun _ _ _ _ _ => pe_def dP r5 rfl (pa_cons (pv 0) (pa_cons (pv 1) (pa_cons (pv 2) pa_nil))))) pa_nil))))), ?_⟩
    refine ⟨_, rfl, _, rfl, y, dv, st, d1, d2, es, fs, ts, dl, rfl, L0, hD, okD, fun wr hwr => ⟨fun wn H0 s0 => ?_, (kk0 wr hwr).2⟩⟩
    have kk := (kk0 wr hwr).1 wn
    have L := L0.same s0
    have hD := hD.same s0
    obtain ⟨dx, hy⟩ := L.la.ob
    refine ⟨_, rfl, ?_⟩
    refine ⟨_, rfl, y, dx, _, rfl, hy, y, st, d1, d2, fs, ts, rfl, L.la, ?_⟩
    refine ⟨st, es, rfl, L.sto, L.few, fun H1 kl qs ys s1 nkl gkl pk pm asc => ?_⟩
    have L1 := L.same s1
    have ndy : ys.Nodup := pm.symm.nodup_iff.mp L.sto.one
    have ly : ys.length ≤ 40 := by
      rw [pm.length_eq]
      unfold keysOf
      rw [List.length_map]
      exact L.few
    have lq := Paired.length pk
    refine ⟨kl, rfl, ⟨_, SqL.of gkl⟩, fun D hD0 => ?_⟩
    refine dcG_it (walk_list (xs := qs.map V.ref)) (fun i H' => Same H1 H' ∧ ∃ pl : Tks, pl.map (·.1) = ys.take i ∧ (∀ e ∈ pl, e.2.2.Perm (placesM fs dl e.1) ∧ sortedS e.2.2 = true ∧ SqT K H' e.2.1 (e.2.2.map V.str)) ∧ H' D = some (.dT (kvG (fun p : Addr × List Str => p.1) pl))) ⟨Same.upd_new hD0, [], rfl, fun e h => (nomatch h), upd_same⟩ (fun _ _ _ h => SqL.of (h.1 _ _ gkl)) ?_ ?_
    · rintro i v H4 H5 hi ⟨s4, pl, ek, ev, gD⟩ ⟨rfl, hv⟩
      obtain ⟨q, hq, rfl⟩ := getE hv
      obtain ⟨k, hk, gk⟩ := paired_get pk hq
      refine ⟨rfl, ?_⟩
      refine ⟨_, rfl, _, rfl, _, rfl, _, rfl, y, dv, q, st, d1, d2, es, fs, ts, dl, k, rfl, L1.same s4, (hD.same s1).same s4, s4 _ _ gk, fun H6 a zs s6 ga pz srt => ?_⟩
      have lp : pl.length ≤ 40 := by
        have h := congrArg List.length ek
        rw [List.length_map] at h
        rw [h]
        exact Nat.le_trans (List.take_sublist ..).length_le ly
      have ek2 : (pl ++ [(k, a, zs)]).map (·.1) = ys.take (i + 1) := by rw [List.map_append, ek, take_next hk]; rfl
      have new := kvG_new (v := fun p : Addr × List Str => p.1) (l := pl ++ [(k, a, zs)]) (i := pl.length) (e := (k, a, zs)) (by rw [ek2]; exact ndy.sublist (List.take_sublist ..)) (by rw [List.getElem?_append_right (Nat.le_refl _), Nat.sub_self]; rfl)
      rw [List.take_append_of_le_length (Nat.le_refl _), List.take_length] at new
      have gD6 := s6 _ _ gD
      have kp : Kp K H6 (upd H6 D (.dT (putK (kvG (fun p : Addr × List Str => p.1) pl) (keyL k) (.ref a)))) := Kp.upd gD6 (fun _ z => by cases z) (fun _ _ z => by cases z)
      refine ⟨_, DPut.t (k := keyL k) gD6 (s6 _ _ (s4 _ _ gk)) (by unfold kvG; rw [List.length_map, sizeLine_eq]; omega), fun b o q' => ?_, pl ++ [(k, a, zs)], ek2, fun e he => ?_, ?_⟩
      · rw [upd_ne (ne_of_none q' hD0)]
        exact s6 _ _ (s4 _ _ q')
      · rcases List.mem_append.mp he with he | he
        · obtain ⟨e1, e2, e3⟩ := ev e he
          exact ⟨e1, e2, kp _ _ (s6.sqT e3)⟩
        · rw [List.mem_singleton.mp he]
          exact ⟨pz, srt, kp _ _ ga⟩
      · rw [putK_new _ new, upd_same]
        unfold kvG
        rw [List.map_append]
        rfl
    · rintro H4 ⟨s4, pl, ek, ev, gD⟩
      rw [List.length_map, lq, List.take_length] at ek
      have S := s1.trans s4
      refine ⟨y, D, st, d1, d2, es, fs, ts, pl, rfl, L.same S, ⟨gD, fun e he => (ev e he).2.2, by rw [ek]; exact ndy, fun e he => ?_⟩, fun k hk => by rw [ek]; exact pm.mem_iff.mpr hk, fun H5 l as ys2 trs s5 nl gl pl2 pm2 asc2 pt srt => ?_⟩
      · rw [(ev e he).1.length_eq]
        unfold placesM pathsL
        rw [List.length_map, List.length_map]
        exact filL_len L.s e.1
      · obtain rfl : ys2 = ys := asc_uniq pm2 asc2 pm asc
        have nH : H l = none := by
          cases q : H l with
          | none => rfl
          | some o => rw [(s0.trans S) _ _ q] at nl; cases nl
        refine kk H5 l as ys2 trs (takL pl) ((s0.trans S).trans s5) nH gl pl2 pm2 asc2 (fun k hk => ?_) pt srt
        obtain ⟨e, he, rfl, et⟩ := takL_at (pl := pl) (k := k) (by rw [ek]; exact hk)
        rw [et]
        exact ⟨(ev e he).1, (ev e he).2.1⟩
end
end Half

namespace Half
open PySem PySem.Spec PyProof.Rows L2
/-- what the program told: the rivals by places, or the path that is wrong -/
structure ToldOf (H : Hp) (es : Eds) (fs : Fls) (ts : Tks) (dl : Dvs) (wr : Option Str) (u v : V) : Prop where
  v : v = optV wr
  l : wr = none → ∃ l as ys trs P, u = .ref l ∧ H l = some (.lst (as.map V.ref)) ∧ Paired (TriAt H) as trs ∧ ys.Perm (keysOf es) ∧ Asc ys ∧ (∀ k ∈ ys, (P k).Perm (placesM fs dl k) ∧ sortedS (P k) = true) ∧ trs.Perm (clashG ts ys P) ∧ SortedT trs
theorem ToldOf.same {H H' : Hp} {es : Eds} {fs : Fls} {ts : Tks} {dl : Dvs} {wr : Option Str} {u v : V} (S : Same H H') (h : ToldOf H es fs ts dl wr u v) : ToldOf H' es fs ts dl wr u v := ⟨h.v, fun e => by
  obtain ⟨l, as, ys, trs, P, h1, h2, h3, h4⟩ := h.l e
  exact ⟨l, as, ys, trs, P, h1, S _ _ h2, paired_imp (fun a b r => tri_stab _ _ _ _ (TupK.same S) r) h3, h4⟩⟩
theorem takesN0 {X : Cx} : L2N.Takes X (fun _ _ _ _ => False) := fun _ _ x => by
  obtain ⟨_, _, _, _, _, _, _, _, _, _, _, _, _, _, _, _, z⟩ := x
  exact z.elim
structure TxC (K : PySem.W.Frag) (mg : Str → Option Value) (CV : Addr) : Prop where
  g : mg "InvalidDiversions" = some (.ref CV)
  x : XfC K CV
  nP : PySem.W.findIn K (.ref CV) "path" = some none
  em : PySem.W.exmOne K (.ref CV) (.ref CV) = some true
section
variable {P : Program} {w : World} {K : PySem.W.Frag} {mg : Str → Option Value} {base : Heap} {CT CY CV CU : Addr}
theorem law_try {f : Addr} {cdv : Value} {A : Around} {outer : List Env} {sh : Shared} {H0 : Hp} {E : XK} (T : TxC K mg CV) (dC : DefN P w K mg base 7 "crowded" ["layout", "diversions"] (spCrd K CT CY CV))
    (hr : Room 8 (A.deeper (envOfC "law" (defScope sLaw) sh.heap.objs.size f cdv))) (nd : LawN.Nodup) :
    ∃ t, PS (cxOf CX0 P w K mg base LawN "law" (defScope sLaw) f cdv A outer sh H0 E).nox (nth tBody 5) t ∧ ∀ (D' : Ends) (H : Hp) (y st d1 d2 dv : Addr) (es : Eds) (fs : Fls) (ts : Tks) (dl : Dvs) (wr : Option Str) (x0 x1 x2 x3 x5 x6 x8 x9 x10 x11 x13 x14 x15 x16 x17 x18 : Option V),
      LayS K CT CY H y st d1 d2 es fs ts → DvS K H dv dl → DvOk dl → WrgOf fs es dl wr →
      (∀ H' u v, Same H H' → ToldOf H' es fs ts dl wr u v → D'.nx [x0, x1, x2, x3, some (.ref y), x5, x6, some (.ref dv), x8, x9, some u, some v, none, x13, x14, x15, x16, x17, x18] H') →
      t D' [x0, x1, x2, x3, some (.ref y), x5, x6, some (.ref dv), x8, x9, x10, x11, none, x13, x14, x15, x16, x17, x18] H := by
  have r7 : Room 7 _ := hr.mono (by decide)
  obtain ⟨fC, fdC, FC, gC, kpC, bC⟩ := dC.ex
  refine ⟨_, L2N.ps_try_as (i := 12) (c := .ref CV) (tb := fun W D σ H => tPar 10 11 (tCons (tCallS (spCrd K CT CY CV) (fun σ => WE W σ) (tCons (tVar 4) (tCons (tVar 7) tNil))) (tCons (tC .non) tNil)) D σ H) rfl rfl nd rfl rfl ⟨rfl, by decide, .inl T.g⟩ takesN0
      (fun W pn xe tk _ => pss_one (ps_par (i := 10) (j := 11) rfl nd rfl rfl (by decide) rfl rfl (pa_cons (pe_callS FC r7 rfl gC kpC bC (fun σ => L2N.passAt tk σ) (pa_cons (pv 4) (pa_cons (pv 7) pa_nil))) (pa_cons pe_non pa_nil)) (by rfl)))
      (fun a oe cls d pn hz hf => pss_one (L2H.ps_parH (i := 10) (j := 11) (L2H.hot_suite hz hf) nd rfl rfl (by decide) rfl rfl (pa_cons (pe_lst pa_nil) (pa_cons (pe_xf T.x T.nP hz.zc hf (pv 12)) pa_nil)) (by rfl))), ?_⟩
  intro D' H y st d1 d2 dv es fs ts dl wr x0 x1 x2 x3 x5 x6 x8 x9 x10 x11 x13 x14 x15 x16 x17 x18 L hD okD hw kk
  refine ⟨_, rfl, _, rfl, ?_⟩
  dsimp only [tNil]
  refine ⟨y, dv, st, d1, d2, es, fs, ts, dl, rfl, L, hD, okD, fun w' hw' => ⟨fun wn H' l as ys trs P s nl gl pT pm asc pP ptr srt => ?_, fun z wz H' dd s gx => ?_⟩⟩
  · obtain rfl := hw'.uniq hw
    refine ⟨_, _, rfl, ?_⟩
    exact kk H' (.ref l) .non s ⟨by rw [wn]; rfl, fun _ => ⟨l, as, ys, trs, P, rfl, gl, pT, pm, asc, pP, ptr, srt⟩⟩
  · obtain rfl := hw'.uniq hw
    refine ⟨true, T.em, fun _ a ha => ?_, fun z => nomatch z⟩
    refine ⟨Nat.zero_le _, fun l0 nl0 => ?_⟩
    have s1 := Same.upd_new (o := .lst []) nl0
    refine ⟨_, rfl, rfl, rfl, dd, _, _, rfl, s1 _ _ gx, rfl, ?_⟩
    refine ⟨_, _, rfl, ?_⟩
    exact kk _ (.ref l0) (.str z) (s.trans s1) ⟨by rw [wz]; rfl, fun e => by rw [wz] at e; cases e⟩
/-- the told path is the one that is due -/
theorem law_eq {f : Addr} {cdv : Value} {A : Around} {outer : List Env} {sh : Shared} {H0 : Hp} {E : XK} (nd : LawN.Nodup) :
    ∃ t, PS (cxOf CX0 P w K mg base LawN "law" (defScope sLaw) f cdv A outer sh H0 E).nox (nth tBody 6) t ∧ ∀ (D' : Ends) (H : Hp) (wr : Option Str) (x0 x1 x2 x3 x4 x5 x6 x7 x8 x10 x12 x13 x14 x15 x16 x17 x18 : Option V),
      D'.nx [x0, x1, x2, x3, x4, x5, x6, x7, x8, some (optV wr), x10, some (optV wr), x12, x13, x14, x15, x16, x17, x18] H →
      t D' [x0, x1, x2, x3, x4, x5, x6, x7, x8, some (optV wr), x10, some (optV wr), x12, x13, x14, x15, x16, x17, x18] H := by
  refine ⟨_, ps_if (pt_cmpR op_ne (pv 11) (pv 9) (nomark _)) (pss_one (ps_ret pe_bl)) pss_nil, ?_⟩
  intro D' H wr x0 x1 x2 x3 x4 x5 x6 x7 x8 x10 x12 x13 x14 x15 x16 x17 x18 kk
  refine ⟨_, rfl, _, rfl, ?_, _, rfl, ?_⟩
  · cases wr <;> rfl
  · rw [decide_eq_true rfl]
    exact iteF kk
/-- a key that is in no store is refused -/
theorem law_bad {f : Addr} {cdv : Value} {A : Around} {outer : List Env} {sh : Shared} {H0 : Hp} {E : XK} (dP : DefX P w K mg base 7 "placed" ["layout", "diversions", "key"] (spPd K CT CY CV CU)) (gU : mg "UnknownEdition" = some (.ref CU)) (em : PySem.W.exmOne K (.ref CU) (.ref CU) = some true)
    (hr : Room 8 (A.deeper (envOfC "law" (defScope sLaw) sh.heap.objs.size f cdv))) (nd : LawN.Nodup) :
    ∃ t, PS (cxOf CX0 P w K mg base LawN "law" (defScope sLaw) f cdv A outer sh H0 E).nox (nth tBody 9) t ∧ ∀ (D' : Ends) (H : Hp) (y st d1 d2 : Addr) (es : Eds) (fs : Fls) (ts : Tks) (x0 x1 x2 x3 x5 x6 x7 x8 x9 x10 x11 x12 x13 x14 x15 x16 x17 x18 : Option V),
      LayS K CT CY H y st d1 d2 es fs ts → (∀ k ∈ keysOf es, k.1 ≠ "web") →
      (∀ H' u, Same H H' → D'.nx [x0, x1, x2, x3, some (.ref y), x5, x6, x7, x8, some u, x10, x11, x12, x13, x14, x15, x16, x17, x18] H') →
      t D' [x0, x1, x2, x3, some (.ref y), x5, x6, x7, x8, x9, x10, x11, x12, x13, x14, x15, x16, x17, x18] H := by
  have r7 : Room 7 _ := hr.mono (by decide)
  obtain ⟨fP, fdP, FP, gP, kpP, bP⟩ := dP.ex
  refine ⟨_, ps_try_only (c := .ref CU) (tb := fun W D σ H => tSeq (tDrop (tCallS (spPd K CT CY CV CU) (fun σ => WE W σ) (tCons (tVar 4) (tCons tDNewK (tCons (tTup (tCons (tC (.str "web")) (tCons (tC (.int 1)) tNil))) tNil))))) (tRet (tC (.bl false))) D σ H) rfl rfl ⟨rfl, by decide, .inl gU⟩ LamX.takes0
      (fun W pn xe tk _ => pss_cons (ps_expr (pe_callS FP r7 rfl gP kpP bP (fun σ => passAt tk σ) (pa_cons (pv 4) (pa_cons pe_dnewK (pa_cons (pe_tup (pa_cons pe_str (pa_cons pe_int pa_nil))) pa_nil))))) (pss_one (ps_ret pe_bl)))
      (fun a oe cls d pn _ _ => pss_one (ps_set (i := 9) nd rfl (by first | exact Or.inl rfl | exact Or.inr rfl) pe_non)), ?_⟩
  intro D' H y st d1 d2 es fs ts x0 x1 x2 x3 x5 x6 x7 x8 x9 x10 x11 x12 x13 x14 x15 x16 x17 x18 L nw kk
  refine ⟨_, rfl, fun dv ndv => ?_⟩
  have s1 := Same.upd_new (o := .dK []) ndv
  have g1 : upd H dv (.dK []) dv = some (.dK []) := upd_same
  generalize upd H dv (.dK []) = H1 at s1 g1 ⊢
  refine ⟨two_le, fun p np => ?_⟩
  have s2 := Same.upd_new (o := .tup [.str "web", .int 1]) np
  have gp : (upd H1 p (.tup [.str "web", .int 1])) p = some (.tup [.str "web", .int 1]) := upd_same
  generalize upd H1 p (.tup [.str "web", .int 1]) = H2 at s2 gp ⊢
  have S2 := s1.trans s2
  dsimp only [tNil]
  refine ⟨y, dv, p, st, d1, d2, es, fs, ts, [], ("web", 1), rfl, L.same S2, ⟨s2 _ _ g1, fun e h => (nomatch h), .nil, Nat.zero_le _⟩, fun e h => (nomatch h), gp, fun w' hw' => ⟨fun wn => ⟨fun hm => absurd rfl (nw _ hm), fun _ H' s => ?_⟩, fun z wz => ?_⟩⟩
  · refine ⟨true, em, fun _ _ _ => ?_, fun z => nomatch z⟩
    exact kk _ _ (S2.trans s)
  · rw [wz] at hw'
    obtain ⟨e, he, _⟩ := hw'.mem
    cases he
end
end Half

namespace Half
open PySem PySem.Spec PyProof.Rows L2
abbrev b7 : List Stmt := ifBody (nth tBody 7)
abbrev kBody : List Stmt := forBody (nth b7 1)
section
variable {P : Program} {w : World} {K : PySem.W.Frag} {mg : Str → Option Value} {base : Heap} {CT CY CV CU : Addr}
/-- the places of one edition, reckoned by the law -/
theorem law_some {f : Addr} {cdv : Value} {A : Around} {outer : List Env} {sh : Shared} {H0 : Hp} {E : XK} (Y : LayP P w K mg base CY)
    (hr : Room 8 (A.deeper (envOfC "law" (defScope sLaw) sh.heap.objs.size f cdv))) (nd : LawN.Nodup) :
    ∃ t, PS (cxOf CX0 P w K mg base LawN "law" (defScope sLaw) f cdv A outer sh H0 E).nox (nth kBody 1) t ∧ ∀ (D' : Ends) (Hb H : Hp) (y st d1 d2 dv sl q : Addr) (es : Eds) (fs : Fls) (ts : Tks) (dl : Dvs) (k : Kk) (x0 x1 x2 x3 x5 x6 x9 x10 x11 x12 x13 x15 x16 x17 x18 : Option V),
      LayS K CT CY Hb y st d1 d2 es fs ts → DvS K Hb dv dl → KeyAt Hb q k → Same Hb H → Hb sl = none → H sl = some (.lst []) →
      (∀ H' x15 x16 x17 x18, Same Hb H' → H' sl = some (.lst ((placesM fs dl k).map V.str)) → D'.nx [x0, x1, x2, x3, some (.ref y), x5, x6, some (.ref dv), some (.ref q), x9, x10, x11, x12, x13, some (.ref sl), x15, x16, x17, x18] H') →
      t D' [x0, x1, x2, x3, some (.ref y), x5, x6, some (.ref dv), some (.ref q), x9, x10, x11, x12, x13, some (.ref sl), x15, x16, x17, x18] H := by
  have hu1 := hu_of hr
  have r2 : Room 2 _ := hr.mono (by decide)
  refine ⟨_, ps_for PassesOwn.never rfl (pi_tup (pe_dget2 hu1 (pe_lfP Y r2 (pv 4)) (pv 8) (pe_tup pa_nil) ⟨rfl, rfl, rfl, rfl⟩)) (pg_tup rfl (pgs_cons (pg_name (i := 15) nd rfl (by first | exact Or.inl rfl | exact Or.inr rfl)) (pgs_cons (pg_name (i := 16) nd rfl (by first | exact Or.inl rfl | exact Or.inr rfl)) pgs_nil)))
    (pss_cons (ps_asg (pe_dget2 hu1 (pv 7) (pv 15) (pe_tup (pa_cons (pe_ix ix_tup (pv 8) pe_int (fun _ _ => rfl)) (pa_cons (pv 15) pa_nil))) ⟨rfl, rfl, rfl, rfl⟩) (pg_tup rfl (pgs_cons (pg_name (i := 17) nd rfl (by first | exact Or.inl rfl | exact Or.inr rfl)) (pgs_cons (pg_name (i := 18) nd rfl (by first | exact Or.inl rfl | exact Or.inr rfl)) pgs_nil))))
    (pss_one (ps_expr (pe_bm PySem.F.plainAttrs_list PySem.F.slot_list_append PySem.F.type_list_append mt_append (pv 14) (pa_cons (pe_ifExp (pt_cmpR op_eq (pv 17) (pe_ix ix_tup (pv 8) pe_int (fun _ _ => rfl)) (nomark _)) (pv 15) (pv 18)) pa_nil))))), ?_⟩
  intro D' Hb H y st d1 d2 dv sl q es fs ts dl k x0 x1 x2 x3 x5 x6 x9 x10 x11 x12 x13 x15 x16 x17 x18 L hD hq S0 nsl gl kk
  dsimp only [tFor, iTup]
  refine fget2_read (k := k) (by rfl) (by rfl) (L.same S0) (S0 _ _ hq) fun H1 a s1 hFa => ?_
  obtain ⟨as1, hS, hl, hp⟩ := hFa
  have few := filL_len L.s k
  have lM : (placesM fs dl k).length = (filL fs k).length := by unfold placesM pathsL; rw [List.length_map, List.length_map]
  refine ⟨a, rfl, ⟨_, hS⟩, ?_⟩
  refine for_it (walk_tup (xs := as1.map V.ref)) (fun j σ H' => ∃ x15 x16 x17 x18, σ = [x0, x1, x2, x3, some (.ref y), x5, x6, some (.ref dv), some (.ref q), x9, x10, x11, x12, x13, some (.ref sl), x15, x16, x17, x18] ∧ Same Hb H' ∧ Kp K H1 H' ∧ H' sl = some (.lst (((placesM fs dl k).take j).map V.str)))
    ⟨_, _, _, _, rfl, S0.trans s1, Kp.refl, s1 _ _ gl⟩ ?_ ?_ ?_
  · rintro j σ H' _ ⟨y15, y16, y17, y18, rfl, S, kp, g⟩
    exact kp _ _ hS
  · rintro j x σ H2 H3 hj ⟨y15, y16, y17, y18, rfl, S, kp, g⟩ ⟨rfl, hx⟩
    obtain ⟨t, ht, rfl⟩ := getE hx
    have hip : j < (filL fs k).length := by rw [List.length_map] at hj; omega
    have hfp := List.getElem?_eq_getElem hip
    generalize (filL fs k)[j] = pz at hfp
    obtain ⟨z, c⟩ := pz
    have hz : (pathsL fs k)[j]? = some z := by unfold pathsL; rw [List.getElem?_map, hfp]; rfl
    have hM : (placesM fs dl k)[j]? = some (placeM dl k.1 z) := by unfold placesM; rw [List.getElem?_map, hz]; rfl
    have hD2 := hD.same S
    have hq2 := S _ _ hq
    refine ⟨t, _, rfl, kp _ _ (hp j t _ ht hfp), rfl, ?_⟩
    refine ⟨_, _, rfl, _, _, rfl, rfl, ?_⟩
    refine ⟨_, rfl, dv, rfl, .inl ⟨_, .inl hD2.g⟩, _, rfl, _, rfl, q, _, 0, _, rfl, rfl, SqT.of hq2, rfl, _, rfl, two_le, fun p np => ?_⟩
    have s3 := Same.upd_new (o := .tup [.str k.1, .str z]) np
    have gp : upd H3 p (.tup [.str k.1, .str z]) p = some (.tup [.str k.1, .str z]) := upd_same
    have S4 := S.trans s3
    have k4 : Kp K H1 (upd H3 p (.tup [.str k.1, .str z])) := kp.trans s3.kp
    have g4 := s3 _ _ g
    generalize upd H3 p (.tup [.str k.1, .str z]) = H4 at gp S4 k4 g4 ⊢
    have hD4 := hD.same S4
    refine ⟨_, DGet.k (k := .inr z) hD4.g, ?_⟩
    rw [kvD_val]
    have key : ∃ t n o, ((lookD dl z).map fun e => V.ref e.2.1).getD (V.ref p) = .ref t ∧ SqT K H4 t [.str n, .str o] ∧ (if n = k.1 then z else o) = placeM dl k.1 z := by
      have pm : placeM dl k.1 z = match lookD dl z with
        | some e => if e.2.2.1 = k.1 then z else e.2.2.2
        | none => z := rfl
      cases c : lookD dl z with
      | none =>
        rw [c] at pm
        exact ⟨p, k.1, z, rfl, SqT.of gp, by rw [if_pos rfl, pm]⟩
      | some e =>
        rw [c] at pm
        exact ⟨e.2.1, e.2.2.1, e.2.2.2, rfl, hD4.t e (List.mem_of_find?_eq_some c), pm.symm⟩
    obtain ⟨t2, n, o, et, gt, eq⟩ := key
    refine ⟨t2, _, et, gt, rfl, ?_⟩
    refine ⟨_, _, rfl, _, _, rfl, rfl, ?_⟩
    have fin : ∀ u, u = placeM dl k.1 z → ∃ l xs y', V.ref sl = .ref l ∧ [V.str u] = [y'] ∧ H4 l = some (.lst xs) ∧ xs.length < sizeLine ∧ ∃ x15 x16 x17 x18, ([x0, x1, x2, x3, some (.ref y), x5, x6, some (.ref dv), some (.ref q), x9, x10, x11, x12, x13, some (.ref sl), some (.str z), some c, some (.str n), some (.str o)] : L2.St) = [x0, x1, x2, x3, some (.ref y), x5, x6, some (.ref dv), some (.ref q), x9, x10, x11, x12, x13, some (.ref sl), x15, x16, x17, x18] ∧ Same Hb (upd H4 l (.lst (xs ++ [y']))) ∧ Kp K H1 (upd H4 l (.lst (xs ++ [y']))) ∧ (upd H4 l (.lst (xs ++ [y']))) sl = some (.lst (((placesM fs dl k).take (j + 1)).map V.str)) := fun u eu => by
      refine ⟨sl, _, _, rfl, rfl, g4, ?_, _, _, _, _, rfl, fun b w hb => ?_, k4.trans (Kp.upd g4 (fun _ z => by cases z) (fun _ _ z => by cases z)), ?_⟩
      · rw [List.length_map, sizeLine_eq]
        have : ((placesM fs dl k).take j).length ≤ (placesM fs dl k).length := (List.take_sublist ..).length_le
        omega
      · rw [upd_ne (ne_of_none hb nsl)]
        exact S4 _ _ hb
      · rw [upd_same, take_next hM, List.map_append, eu]
        rfl
    refine ⟨_, rfl, .inl ⟨rfl, _, SqL.of g4⟩, ?_⟩
    refine ⟨_, rfl, _, rfl, q, _, 0, _, rfl, rfl, SqT.of (S4 _ _ hq), rfl, rfl, _, rfl, ?_⟩
    by_cases cn : n = k.1
    · rw [decide_eq_true (show V.str n = V.str k.1 by rw [cn])]
      rw [if_pos cn] at eq
      refine iteT ?_
      exact ⟨_, rfl, fin _ eq⟩
    · rw [decide_eq_false (show ¬ V.str n = V.str k.1 from fun z => cn (by injection z))]
      rw [if_neg cn] at eq
      refine iteF ?_
      exact ⟨_, rfl, fin _ eq⟩
  · rintro σ H2 ⟨y15, y16, y17, y18, rfl, S, kp, g⟩
    rw [List.length_map, hl, ← lM, List.take_length] at g
    exact kk H2 _ _ _ _ S g
end
end Half

namespace Half
open PySem PySem.Spec PyProof.Rows L2
theorem takL_app {pl : Tks} {k : Kk} {a : Addr} {zs : List Str} (h : k ∉ pl.map (·.1)) : takL (pl ++ [(k, a, zs)]) k = zs := by
  have e : (pl ++ [(k, a, zs)]).find? (fun e => decide (e.1 = k)) = some (k, a, zs) := by
    rw [List.find?_append, List.find?_eq_none.mpr fun x hx q => h (List.mem_map.mpr ⟨x, hx, of_decide_eq_true q⟩), Option.none_or, List.find?_cons_of_pos (by simp)]
  unfold takL
  rw [e]
theorem PlT.put {K : PySem.W.Frag} {H : Hp} {dp a : Addr} {pl : Tks} {k : Kk} {zs : List Str} (h : PlT K H dp pl) (ha : SqT K H a (zs.map V.str)) (new : k ∉ pl.map (·.1)) (few : zs.length ≤ 10) : PlT K (upd H dp (.dT (putK (kvG (fun p : Addr × List Str => p.1) pl) (keyL k) (.ref a)))) dp (pl ++ [(k, a, zs)]) := by
  have kp : Kp K H (upd H dp (.dT (putK (kvG (fun p : Addr × List Str => p.1) pl) (keyL k) (.ref a)))) := Kp.upd h.g (fun _ z => by cases z) (fun _ _ z => by cases z)
  have nd2 : ((pl ++ [(k, a, zs)]).map (·.1)).Nodup := by
    rw [List.map_append, List.nodup_append]
    refine ⟨h.nd, by simp, fun x hx b hb e => ?_⟩
    rw [List.map_singleton, List.mem_singleton] at hb
    rw [e, hb] at hx
    exact new hx
  refine ⟨?_, fun e he => ?_, nd2, fun e he => ?_⟩
  · have nw := kvG_new (v := fun p : Addr × List Str => p.1) (l := pl ++ [(k, a, zs)]) (i := pl.length) (e := (k, a, zs)) nd2 (by rw [List.getElem?_append_right (Nat.le_refl _), Nat.sub_self]; rfl)
    rw [List.take_append_of_le_length (Nat.le_refl _), List.take_length] at nw
    rw [putK_new _ nw, upd_same]
    unfold kvG
    rw [List.map_append]
    rfl
  · rcases List.mem_append.mp he with he | he
    · exact kp _ _ (h.ls e he)
    · rw [List.mem_singleton.mp he]
      exact kp _ _ ha
  · rcases List.mem_append.mp he with he | he
    · exact h.few e he
    · rw [List.mem_singleton.mp he]
      exact few
section
variable {P : Program} {w : World} {K : PySem.W.Frag} {mg : Str → Option Value} {base : Heap} {CT CY CV CU : Addr}
/-- one edition: its places, and what placed tells -/
theorem law_key {f : Addr} {cdv : Value} {A : Around} {outer : List Env} {sh : Shared} {H0 : Hp} {E : XK} (gT : mg "tuple" = none) (gS : mg "sorted" = none) (Y : LayP P w K mg base CY) (dP : DefX P w K mg base 7 "placed" ["layout", "diversions", "key"] (spPd K CT CY CV CU))
    (hr : Room 8 (A.deeper (envOfC "law" (defScope sLaw) sh.heap.objs.size f cdv))) (nd : LawN.Nodup) :
    ∃ t, PSs (cxOf CX0 P w K mg base LawN "law" (defScope sLaw) f cdv A outer sh H0 E).nox kBody t ∧ ∀ (D' : Ends) (Hb H : Hp) (y st d1 d2 dv dp q : Addr) (es : Eds) (fs : Fls) (ts pl : Tks) (dl : Dvs) (k : Kk) (x0 x1 x2 x3 x5 x6 x9 x10 x11 x12 x14 x15 x16 x17 x18 : Option V),
      LayS K CT CY Hb y st d1 d2 es fs ts → DvS K Hb dv dl → DvOk dl → WrgOf fs es dl none → KeyAt Hb q k → k ∈ keysOf es → (∀ z ∈ placesM fs dl k, PyData.strOk z = true) → Same Hb H → Hb dp = none → PlT K H dp pl → k ∉ pl.map (·.1) → pl.length ≤ 40 →
      (∀ H' a zs x14 x15 x16 x17 x18, Same Hb H' → PlT K H' dp (pl ++ [(k, a, zs)]) → zs.Perm (placesM fs dl k) → sortedS zs = true → D'.nx [x0, x1, x2, x3, some (.ref y), x5, x6, some (.ref dv), some (.ref q), x9, x10, x11, x12, some (.ref dp), x14, x15, x16, x17, x18] H') →
      t D' [x0, x1, x2, x3, some (.ref y), x5, x6, some (.ref dv), some (.ref q), x9, x10, x11, x12, some (.ref dp), x14, x15, x16, x17, x18] H := by
  have hu := hr.units
  have hu1 := hu_of hr
  have r7 : Room 7 _ := hr.mono (by decide)
  obtain ⟨tS, hS, rdS⟩ := law_some (CT := CT) (f := f) (cdv := cdv) (A := A) (outer := outer) (sh := sh) (H0 := H0) (E := E) Y hr nd
  refine ⟨_, pss_cons (ps_set (i := 14) nd rfl (by first | exact Or.inl rfl | exact Or.inr rfl) (pe_lst pa_nil)) (pss_cons hS
    (pss_cons (ps_dput hu1 (pv 13) (pv 8) (pe_callTy call_tuple_of (by rfl) gT (by decide +kernel) (pa_cons (pe_callB cr_sortedS (by rfl) gS (by decide +kernel) (pa_cons (pv 14) pa_nil)) pa_nil)) rfl)
    (pss_one (ps_if (pt_cmpR (op_neD hu) (pe_defX dP r7 rfl passL (pa_cons (pv 4) (pa_cons (pv 7) (pa_cons (pv 8) pa_nil)))) (pe_dget hu1 (pv 13) (pv 8) (fun _ _ => rfl)) (nomark _)) (pss_one (ps_ret pe_bl)) pss_nil)))), ?_⟩
  intro D' Hb H y st d1 d2 dv dp q es fs ts pl dl k x0 x1 x2 x3 x5 x6 x9 x10 x11 x12 x14 x15 x16 x17 x18 L hD okD hw hq hin okz S ndp hp new few kk
  have lM : (placesM fs dl k).length ≤ 10 := by
    unfold placesM pathsL
    rw [List.length_map, List.length_map]
    exact filL_len L.s k
  refine ⟨Nat.zero_le _, fun sl nsl => ?_⟩
  refine rdS _ H _ y st d1 d2 dv sl q es fs ts dl k _ _ _ _ _ _ _ _ _ _ _ _ _ _ _ (L.same S) (hD.same S) (S _ _ hq) (Same.upd_new nsl) nsl upd_same fun H2 y15 y16 y17 y18 s2 g2 => ?_
  refine ⟨_, rfl, sl, placesM fs dl k, rfl, SqL.of g2, Nat.lt_of_le_of_lt lM (by decide), fun zs p pm srt np => ?_⟩
  have s3 := Same.upd_new (o := .lst (zs.map V.str)) np
  have g3 : upd H2 p (.lst (zs.map V.str)) p = some (.lst (zs.map V.str)) := upd_same
  generalize upd H2 p (.lst (zs.map V.str)) = H3 at s3 g3 ⊢
  refine ⟨p, _, rfl, .inl ⟨SqL.of g3, fun t nt => ?_⟩⟩
  have s4 := Same.upd_new (o := .tup (zs.map V.str)) nt
  have g4 : SqT K (upd H3 t (.tup (zs.map V.str))) t (zs.map V.str) := SqT.of upd_same
  have S4 := s2.trans (s3.trans s4)
  generalize upd H3 t (.tup (zs.map V.str)) = H4 at S4 g4 ⊢
  have hp4 := hp.same S4
  have SB := S.trans S4
  refine ⟨_, rfl, _, rfl, dp, _, rfl, DPut.t (k := keyL k) hp4.g (SB _ _ hq) (by unfold kvG; rw [List.length_map, sizeLine_eq]; omega), ?_⟩
  have lz : zs.length ≤ 10 := by rw [pm.length_eq]; exact lM
  have hp5 := hp4.put g4 new lz
  have S5 : Same Hb (upd H4 dp (.dT (putK (kvG (fun p : Addr × List Str => p.1) pl) (keyL k) (.ref t)))) := fun b o hb => by
    rw [upd_ne (ne_of_none hb ndp)]
    exact SB _ _ hb
  generalize upd H4 dp (.dT (putK (kvG (fun p : Addr × List Str => p.1) pl) (keyL k) (.ref t))) = H5 at hp5 S5 ⊢
  refine ⟨_, rfl, _, rfl, _, rfl, y, dv, q, st, d1, d2, es, fs, ts, dl, k, rfl, L.same S5, hD.same S5, okD, S5 _ _ hq, fun w' hw' => ⟨fun wn => ⟨fun hm H6 a ys s6 ga pa sa => ?_, fun hm => absurd hin hm⟩, fun z wz => ?_⟩⟩
  · obtain rfl : ys = zs := sorted_uniq txLe_as (sortedS_pw sa) (sortedS_pw srt) (pa.trans pm.symm)
    have hp6 := hp5.same s6
    have S6 := S5.trans s6
    obtain ⟨ak, vk, lk⟩ := hp6.at_ (k := k) (by rw [List.map_append]; exact List.mem_append.mpr (.inr (.head _)))
    rw [takL_app new] at lk
    have ok : SeqAt.shaped (.tuple (ys.map PyData.str)) = true := tup_lay fun z hz => okz z (pm.mem_iff.mp hz)
    refine ⟨_, rfl, _, rfl, dp, .ref ak, rfl, .inr ⟨_, keyL k, q, .inl hp6.g, rfl, S6 _ _ hq, vk.symm⟩, _, _, .tup ga (dp_words ys), .tup lk (dp_words ys), ok, ok, ?_⟩
    rw [SeqAt.eqv_refl _ (SeqAt.canLay_of_shaped ok)]
    refine ⟨_, rfl, iteF ?_⟩
    exact kk H6 t ys _ _ _ _ _ S6 hp6 pm srt
  · have := hw'.uniq hw
    rw [wz] at this
    cases this
end
end Half

namespace Half
open PySem PySem.Spec PyProof.Rows L2
theorem clash_in {ts : Tks} {ys : List Kk} {P : Kk → List Str} {t : Kk × Kk × Str} (h : t ∈ clashG ts ys P) : t.1 ∈ ys ∧ t.2.1 ∈ ys ∧ t.2.2 ∈ P t.1 := by
  obtain ⟨p, hp, h⟩ := List.mem_flatMap.mp h
  obtain ⟨z, hz, rfl⟩ := List.mem_map.mp h
  obtain ⟨h1, h2⟩ := pairs_in hp
  exact ⟨h1, h2, (List.mem_filter.mp hz).1⟩
section
variable {P : Program} {w : World} {K : PySem.W.Frag} {mg : Str → Option Value} {base : Heap} {CT CY CV CU : Addr}
/-- where nothing is wrong: all places, and the rivals by places -/
theorem law_places {f : Addr} {cdv : Value} {A : Around} {outer : List Env} {sh : Shared} {H0 : Hp} {E : XK} (gT : mg "tuple" = none) (gS : mg "sorted" = none) (Y : LayP P w K mg base CY) (dP : DefX P w K mg base 7 "placed" ["layout", "diversions", "key"] (spPd K CT CY CV CU)) (dW : Def P w K mg base 5 "_law_crowded" ["_law_layout_here", "_law_places"] (spCw K CT CY))
    (hr : Room 8 (A.deeper (envOfC "law" (defScope sLaw) sh.heap.objs.size f cdv))) (nd : LawN.Nodup) :
    ∃ t, PS (cxOf CX0 P w K mg base LawN "law" (defScope sLaw) f cdv A outer sh H0 E).nox (nth tBody 7) t ∧ ∀ (D' : Ends) (H : Hp) (y st d1 d2 dv kl : Addr) (es : Eds) (fs : Fls) (ts : Tks) (dl : Dvs) (qs : List Addr) (ks : List Kk) (wr : Option Str) (u v : V) (x0 x1 x2 x3 x6 x8 x12 x13 x14 x15 x16 x17 x18 : Option V),
      LayS K CT CY H y st d1 d2 es fs ts → es.length ≤ 6 → DvS K H dv dl → DvOk dl → WrgOf fs es dl wr → H kl = some (.lst (qs.map V.ref)) → Paired (KeyAt H) qs ks → ks.Perm (keysOf es) → Asc ks → ToldOf H es fs ts dl wr u v → (∀ k ∈ keysOf es, PyData.strOk k.1 = true) → (∀ k, ∀ z ∈ placesM fs dl k, PyData.strOk z = true) →
      (∀ H' x8 x13 x14 x15 x16 x17 x18, Same H H' → D'.nx [x0, x1, x2, x3, some (.ref y), some (.ref kl), x6, some (.ref dv), x8, some (optV wr), some u, some v, x12, x13, x14, x15, x16, x17, x18] H') →
      t D' [x0, x1, x2, x3, some (.ref y), some (.ref kl), x6, some (.ref dv), x8, some (optV wr), some u, some v, x12, x13, x14, x15, x16, x17, x18] H := by
  have hu := hr.units
  have r5 : Room 5 _ := hr.mono (by decide)
  obtain ⟨tK, hK, rdK⟩ := law_key (f := f) (cdv := cdv) (A := A) (outer := outer) (sh := sh) (H0 := H0) (E := E) gT gS Y dP hr nd
  refine ⟨_, ps_if (pt_cmp (pc_isN (pv 9))) (pss_cons (ps_set (i := 13) nd rfl (by first | exact Or.inl rfl | exact Or.inr rfl) pe_dnewT)
    (pss_cons (ps_for PassesOwn.never rfl (pi_list (pv 5)) (pg_name (i := 8) nd rfl (by first | exact Or.inl rfl | exact Or.inr rfl)) hK)
    (pss_one (ps_if (pt_cmpR (op_neD hu) (pv 10) (pe_def dW r5 rfl (pa_cons (pv 4) (pa_cons (pv 13) pa_nil))) (nomark _)) (pss_one (ps_ret pe_bl)) pss_nil)))) pss_nil, ?_⟩
  intro D' H y st d1 d2 dv kl es fs ts dl qs ks wr u v x0 x1 x2 x3 x6 x8 x12 x13 x14 x15 x16 x17 x18 L few6 hD okD hw gk pk pm asc T okE okP kk
  refine ⟨_, rfl, _, rfl, ?_⟩
  cases wr with
  | some z => exact ite_no (decide_eq_false (by intro q; cases q)) (kk H _ _ _ _ _ _ _ (Same.refl _))
  | none =>
    refine ite_yes (decide_eq_true rfl) ?_
    refine fun dp ndp => ?_
    have s1 := Same.upd_new (o := .dT []) ndp
    have g1 : upd H dp (.dT []) dp = some (.dT []) := upd_same
    generalize upd H dp (.dT []) = H1 at s1 g1 ⊢
    have lq := Paired.length pk
    have ndk : ks.Nodup := pm.symm.nodup_iff.mp L.sto.one
    have lk : ks.length ≤ 6 := by
      rw [pm.length_eq]
      unfold keysOf
      rw [List.length_map]
      exact few6
    refine ⟨_, rfl, kl, rfl, ⟨_, SqL.of (s1 _ _ gk)⟩, ?_⟩
    refine for_it (walk_list (xs := qs.map V.ref)) (fun i σ H' => ∃ pl x8 x14 x15 x16 x17 x18, σ = [x0, x1, x2, x3, some (.ref y), some (.ref kl), x6, some (.ref dv), x8, some (optV none), some u, some v, x12, some (.ref dp), x14, x15, x16, x17, x18] ∧ Same H H' ∧ PlT K H' dp pl ∧ pl.map (·.1) = ks.take i ∧ ∀ e ∈ pl, e.2.2.Perm (placesM fs dl e.1) ∧ sortedS e.2.2 = true)
      ⟨[], _, _, _, _, _, _, rfl, s1, ⟨g1, fun e h => (nomatch h), .nil, fun e h => (nomatch h)⟩, rfl, fun e h => (nomatch h)⟩ ?_ ?_ ?_
    · rintro i σ H' _ ⟨pl, y8, y14, y15, y16, y17, y18, rfl, S, _⟩
      exact SqL.of (S _ _ gk)
    · rintro i x σ H2 H3 hi ⟨pl, y8, y14, y15, y16, y17, y18, rfl, S, hp, ep, hv⟩ ⟨rfl, hx⟩
      obtain ⟨q, hq, rfl⟩ := getE hx
      obtain ⟨k, hk, gq⟩ := paired_get pk hq
      have lp : pl.length ≤ ks.length := by
        have h := congrArg List.length ep
        rw [List.length_map] at h
        rw [h]
        exact (List.take_sublist ..).length_le
      have new : k ∉ pl.map (·.1) := by
        rw [ep]
        intro h
        have ap : (ks.take i ++ ks.drop i).Nodup := by rw [List.take_append_drop]; exact ndk
        exact (List.nodup_append.mp ap).2.2 k h k (List.mem_of_getElem? (i := 0) (by rw [List.getElem?_drop]; exact hk)) rfl
      refine rdK _ H H3 y st d1 d2 dv dp q es fs ts pl dl k _ _ _ _ _ _ _ _ _ _ _ _ _ _ _ L hD okD hw gq (pm.mem_iff.mp (List.mem_of_getElem? hk)) (okP k) S ndp hp new (by omega) fun H4 a zs z14 z15 z16 z17 z18 S4 hp4 pz sz => ?_
      refine ⟨pl ++ [(k, a, zs)], _, _, _, _, _, _, rfl, S4, hp4, by rw [List.map_append, ep, take_next hk]; rfl, fun e he => ?_⟩
      rcases List.mem_append.mp he with he | he
      · exact hv e he
      · rw [List.mem_singleton.mp he]
        exact ⟨pz, sz⟩
    · rintro σ H2 ⟨pl, y8, y14, y15, y16, y17, y18, rfl, S, hp, ep, hv⟩
      rw [List.length_map, lq, List.take_length] at ep
      have T2 := T.same S
      obtain ⟨l, as, ys, trs, Pf, rfl, g3, p3, pm3, asc3, pP, ptr, srt⟩ := T2.l rfl
      refine ⟨_, rfl, _, rfl, _, rfl, y, dp, st, d1, d2, es, fs, ts, pl, rfl, L.same S, few6, hp, fun e he => (hv e he).2, fun k hk => by rw [ep]; exact pm.mem_iff.mpr hk, fun H3 l4 as4 ys4 s3 g4 p4 pm4 asc4 => ?_⟩
      obtain rfl := asc_uniq pm3 asc3 pm asc
      obtain rfl := asc_uniq pm4 asc4 pm3 asc3
      have eqP : clashG ts ys4 Pf = clashG ts ys4 (takL pl) := clashG_congr fun k hk => by
        obtain ⟨e, he, e1, et⟩ := takL_at (pl := pl) (k := k) (by rw [ep]; exact hk)
        obtain ⟨h1, h2⟩ := hv e he
        obtain ⟨h3, h4⟩ := pP k hk
        rw [et]
        rw [e1] at h1
        exact sorted_uniq txLe_as (sortedS_pw h4) (sortedS_pw h2) (h3.trans h1.symm)
      have e2 : trs = clashG ts ys4 (takL pl) := by
        rw [eqP] at ptr
        exact sorted_same ptr (.refl _) srt (clashG_sorted asc4 ndk fun k hk => by
          obtain ⟨e, he, _, et⟩ := takL_at (pl := pl) (k := k) (by rw [ep]; exact hk)
          rw [et]
          exact sortedS_pw (hv e he).2)
      rw [e2] at p3
      have ok := shaped_tris (L := clashG ts ys4 (takL pl)) fun t ht => by
        obtain ⟨h1, h2, h3⟩ := clash_in ht
        refine ⟨okE _ (pm.mem_iff.mp h1), okE _ (pm.mem_iff.mp h2), ?_⟩
        obtain ⟨e, he, e1, et⟩ := takL_at (pl := pl) (k := t.1) (by rw [ep]; exact h1)
        rw [et] at h3
        have h4 := (hv e he).1.mem_iff.mp h3
        exact okP _ _ h4
      refine ⟨_, _, .lst (SqL.of (s3 _ _ g3)) (dp_tris (paired_imp (fun a b h => tri_stab _ _ _ _ (TupK.same s3) h) p3)), .lst (SqL.of g4) (dp_tris p4), ok, ok, ?_⟩
      rw [SeqAt.eqv_refl _ (SeqAt.canLay_of_shaped ok)]
      refine ⟨_, rfl, iteF ?_⟩
      exact kk H3 _ _ _ _ _ _ _ (S.trans s3)
end
end Half

namespace Half
open PySem PySem.Spec PyProof.Rows L2
theorem LayS.nl {K : PySem.W.Frag} {CT CY : Addr} {H H' : Hp} {y st d1 d2 : Addr} {es : Eds} {fs : Fls} {ts : Tks} (k : Nl H H') (kp : Kp K H H') (h : LayS K CT CY H y st d1 d2 es fs ts) : LayS K CT CY H' y st d1 d2 es fs ts := by
  obtain ⟨dx, ho⟩ := h.la.ob
  exact ⟨⟨⟨dx, k _ _ ho (by intro _ z; cases z)⟩, k _ _ h.la.gf (by intro _ z; cases z), k _ _ h.la.gt (by intro _ z; cases z)⟩, h.sto.nl k, fun e he => (h.hF e he).kp kp, fun e he => kp _ _ (h.hT e he), h.s, h.few⟩
theorem lt_tr {a b c : Str} (h1 : strLt a b = true) (h2 : strLt b c = true) : strLt a c = true := by
  unfold strLt at *
  exact decide_eq_true (List.lt_trans (of_decide_eq_true h1) (of_decide_eq_true h2))
theorem lt_ir {a : Str} (h : strLt a a = true) : False := by
  unfold strLt at h
  exact List.lt_irrefl _ (of_decide_eq_true h)
theorem lt_ir' {a : Str} (h : txLt a a = true) : False := List.lt_irrefl _ (of_decide_eq_true h)
theorem asc_at {l : List Str} (h : ascS l = true) : ∀ j i, i < j → j < l.length → strLt (l.getD i "") (l.getD j "") = true
  | 0, _, q, _ => absurd q (Nat.not_lt_zero _)
  | j + 1, i, q, r => by
    have st : strLt (l.getD j "") (l.getD (j + 1) "") = true := List.all_eq_true.mp h j (List.mem_range.mpr (by omega))
    by_cases c : i = j
    · rw [c]; exact st
    · exact lt_tr (asc_at h j i (by omega) (by omega)) st
theorem paths_asc {f : List (Str × V)} (h : areFiles f = true) : (f.map (·.1)).Pairwise txLe := by
  unfold areFiles at h
  obtain ⟨_, h⟩ := Bool.and_eq_true_iff.mp h
  obtain ⟨_, h⟩ := Bool.and_eq_true_iff.mp h
  refine List.pairwise_iff_getElem.mpr fun i j hi hj q => ?_
  have := asc_at h j i q hj
  rw [List.getD_eq_getElem?_getD, List.getD_eq_getElem?_getD, List.getElem?_eq_getElem hi, List.getElem?_eq_getElem hj] at this
  exact tx_as this
theorem pathsL_asc {fs : Fls} (h : ∀ e ∈ fs, areFiles e.2.2 = true) (k : Kk) : (pathsL fs k).Pairwise txLe := by
  unfold pathsL filL
  split
  · rename_i e he
    exact paths_asc (h e (List.mem_of_find?_eq_some he))
  · exact .nil
theorem pathsL_in {fs : Fls} (h : ∀ e ∈ fs, ∀ p ∈ e.2.2, p.1 ∈ PF4) (k : Kk) : ∀ z ∈ pathsL fs k, z ∈ PF4 := fun z hz => by
  unfold pathsL filL at hz
  obtain ⟨p, hp, rfl⟩ := List.mem_map.mp hz
  split at hp
  · rename_i e he
    exact h e (List.mem_of_find?_eq_some he) p hp
  · cases hp
theorem web_no : ∀ x ∈ PN3, x ≠ "web" := by decide +kernel
theorem pf_ok : ∀ x ∈ PF4, PyData.strOk x = true := by decide +kernel
theorem ot_ok : ∀ x ∈ OT, PyData.strOk x = true := by decide +kernel
theorem pd_ok : ∀ x ∈ PD4, (reprText x).length ≤ 1000 := by decide +kernel
theorem places_ok {fs : Fls} {dl : Dvs} (h : ∀ e ∈ fs, ∀ p ∈ e.2.2, p.1 ∈ PF4) (o : ∀ e ∈ dl, e.2.2.2 ∈ OT) (k : Kk) : ∀ z ∈ placesM fs dl k, PyData.strOk z = true := fun z hz => by
  obtain ⟨p, hp, rfl⟩ := List.mem_map.mp hz
  have pok := pf_ok _ (pathsL_in h k p hp)
  unfold placeM
  split
  · rename_i e he
    split
    · exact pok
    · exact ot_ok _ (o e (List.mem_of_find?_eq_some he))
  · exact pok
theorem placesM_nil (fs : Fls) (k : Kk) : placesM fs [] k = pathsL fs k := (List.map_congr_left fun z _ => rfl).trans (List.map_id _)
theorem wrg_nil {fs : Fls} {es : Eds} {ks : List Kk} {ns : List Str} (pm : ks.Perm (keysOf es)) (asc : Asc ks) (isn : IsNm (keysOf es) ns) : WrgOf fs es [] none := ⟨ks, [], ns, pm, asc, .nil, rfl, isn, rfl⟩
section
variable {P : Program} {w : World} {K : PySem.W.Frag} {mg : Str → Option Value} {base : Heap} {CT CY CV CU : Addr}
/-- without diversions: the rivals -/
theorem law_riv {f : Addr} {cdv : Value} {A : Around} {outer : List Env} {sh : Shared} {H0 : Hp} {E : XK} (dC : DefX P w K mg base 7 "crowded" ["layout", "diversions"] (spCrd K CT CY CV)) (dR : Def P w K mg base 6 "rivals" ["layout"] (spRiv K CT CY))
    (hr : Room 8 (A.deeper (envOfC "law" (defScope sLaw) sh.heap.objs.size f cdv))) (nd : LawN.Nodup) :
    ∃ t, PS (cxOf CX0 P w K mg base LawN "law" (defScope sLaw) f cdv A outer sh H0 E).nox (nth tBody 8) t ∧ ∀ (D' : Ends) (H : Hp) (y st d1 d2 : Addr) (es : Eds) (fs : Fls) (ts : Tks) (ks : List Kk) (x0 x1 x2 x3 x5 x6 x7 x8 x9 x10 x11 x12 x13 x14 x15 x16 x17 x18 : Option V),
      LayS K CT CY H y st d1 d2 es fs ts → ks.Perm (keysOf es) → Asc ks → (∀ k, (pathsL fs k).Pairwise txLe) → (∀ k ∈ keysOf es, PyData.strOk k.1 = true) → (∀ k, ∀ z ∈ pathsL fs k, PyData.strOk z = true) →
      (∀ H', Same H H' → D'.nx [x0, x1, x2, x3, some (.ref y), x5, x6, x7, x8, x9, x10, x11, x12, x13, x14, x15, x16, x17, x18] H') →
      t D' [x0, x1, x2, x3, some (.ref y), x5, x6, x7, x8, x9, x10, x11, x12, x13, x14, x15, x16, x17, x18] H := by
  have hu := hr.units
  have r6 : Room 6 _ := hr.mono (by decide)
  have r7 : Room 7 _ := hr.mono (by decide)
  refine ⟨_, ps_if (pt_cmpR (op_neD hu) (pe_defX dC r7 rfl passL (pa_cons (pv 4) (pa_cons pe_dnewK pa_nil))) (pe_def dR r6 rfl (pa_cons (pv 4) pa_nil)) (nomark _)) (pss_one (ps_ret pe_bl)) pss_nil, ?_⟩
  intro D' H y st d1 d2 es fs ts ks x0 x1 x2 x3 x5 x6 x7 x8 x9 x10 x11 x12 x13 x14 x15 x16 x17 x18 L pm asc pasc okE okP kk
  refine ⟨_, rfl, fun dv ndv => ?_⟩
  have s1 := Same.upd_new (o := .dK []) ndv
  have g1 : upd H dv (.dK []) dv = some (.dK []) := upd_same
  generalize upd H dv (.dK []) = H1 at s1 g1 ⊢
  dsimp only [tNil]
  have isn := isNm_of pm asc
  refine ⟨y, dv, st, d1, d2, es, fs, ts, [], rfl, L.same s1, ⟨g1, fun e h => (nomatch h), .nil, Nat.zero_le _⟩, fun e h => (nomatch h), fun w' hw' => ⟨fun wn H2 l as ys trs Pf s2 nl gl pT pm2 asc2 pP ptr srt => ?_, fun z wz => ?_⟩⟩
  · obtain rfl := asc_uniq pm2 asc2 pm asc
    refine ⟨_, rfl, y, st, d1, d2, es, fs, ts, rfl, L.same (s1.trans s2), fun H3 l3 as3 ys3 trs3 s3 nl3 gl3 pT3 pm3 asc3 ptr3 srt3 => ?_⟩
    obtain rfl := asc_uniq pm3 asc3 pm2 asc2
    have eqP : clashG ts ys3 Pf = clashF fs ts ys3 := clashG_congr fun k hk => by
      obtain ⟨h1, h2⟩ := pP k hk
      rw [placesM_nil] at h1
      exact sorted_uniq txLe_as (sortedS_pw h2) (pasc k) h1
    rw [eqP] at ptr
    have e := sorted_same ptr ptr3 srt srt3
    subst e
    have ok := shaped_tris (L := trs) fun t ht => by
      have ht := ptr.mem_iff.mp ht
      obtain ⟨h1, h2, h3⟩ := clash_in (P := pathsL fs) ht
      exact ⟨okE _ (pm.mem_iff.mp h1), okE _ (pm.mem_iff.mp h2), okP _ _ h3⟩
    refine ⟨_, _, .lst (SqL.of (s3 _ _ gl)) (dp_tris (paired_imp (fun a b h => tri_stab _ _ _ _ (TupK.same s3) h) pT)), .lst (SqL.of gl3) (dp_tris pT3), ok, ok, ?_⟩
    rw [SeqAt.eqv_refl _ (SeqAt.canLay_of_shaped ok)]
    refine ⟨_, rfl, iteF ?_⟩
    exact kk H3 (s1.trans (s2.trans s3))
  · rw [wz] at hw'
    obtain ⟨e, he, _⟩ := hw'.mem
    cases he
end
end Half

namespace Half
open PySem PySem.Spec PyProof.Rows L2
structure LawAll (P : Program) (w : World) (K : PySem.W.Frag) (mg : Str → Option Value) (base : Heap) (C CT CY CN CU CV : Addr) : Prop where
  gR : mg "range" = none
  gS : mg "sorted" = none
  gT : mg "tuple" = none
  gU : mg "UnknownEdition" = some (.ref CU)
  em : PySem.W.exmOne K (.ref CU) (.ref CU) = some true
  T : TxC K mg CV
  dT : Def P w K mg base 1 "_law_taken" ["_law_row", "_law_many"] (spTaken K)
  dSto : Def P w K mg base 8 "_law_store" ["_law_row", "_law_most"] (spSto K C CT)
  dYl : Def P w K mg base 7 "_law_layout" ["_law_row", "_law_store_here"] (spYl K CT CY)
  dKs : Def P w K mg base 3 "_law_keys" ["_law_store_here"] (spKs CT)
  dPt : Def P w K mg base 4 "_law_put" ["_law_row", "_law_store_here"] (spPt K CT)
  dWr : Def P w K mg base 3 "_law_wrong" ["_law_layout_here", "_law_paths", "_law_put_here"] (spWr K CT CY)
  dCw : Def P w K mg base 5 "_law_crowded" ["_law_layout_here", "_law_places"] (spCw K CT CY)
  Y : LayP P w K mg base CY
  dC : DefX P w K mg base 7 "crowded" ["layout", "diversions"] (spCrd K CT CY CV)
  dCN : DefN P w K mg base 7 "crowded" ["layout", "diversions"] (spCrd K CT CY CV)
  dP : DefX P w K mg base 7 "placed" ["layout", "diversions", "key"] (spPd K CT CY CV CU)
  dR : Def P w K mg base 6 "rivals" ["layout"] (spRiv K CT CY)
section
variable {P : Program} {w : World} {K : PySem.W.Frag} {mg : Str → Option Value} {base : Heap} {C CT CY CN CU CV : Addr}
theorem law_turn {f : Addr} {cdv : Value} {A : Around} {outer : List Env} {sh : Shared} {H0 : Hp} {E : XK} (L : LawAll P w K mg base C CT CY CN CU CV)
    (hr : Room 8 (A.deeper (envOfC "law" (defScope sLaw) sh.heap.objs.size f cdv))) (nd : LawN.Nodup) :
    ∃ t, PSs (cxOf CX0 P w K mg base LawN "law" (defScope sLaw) f cdv A outer sh H0 E).nox tBody t ∧ ∀ (D' : Ends) (H : Hp) (r a : Addr) (x0 x2 x3 x4 x5 x6 x7 x8 x9 x10 x11 x13 x14 x15 x16 x17 x18 : Option V),
      Row K H r a →
      (∀ H' x3 x4 x5 x6 x7 x8 x9 x10 x11 x13 x14 x15 x16 x17 x18, Row K H' r a → D'.nx [x0, some (.ref r), x2, x3, x4, x5, x6, x7, x8, x9, x10, x11, none, x13, x14, x15, x16, x17, x18] H') →
      t D' [x0, some (.ref r), x2, x3, x4, x5, x6, x7, x8, x9, x10, x11, none, x13, x14, x15, x16, x17, x18] H := by
  have r3 : Room 3 _ := hr.mono (by decide)
  have r4 : Room 4 _ := hr.mono (by decide)
  have r7 : Room 7 _ := hr.mono (by decide)
  obtain ⟨t3, h3, rd3⟩ := law_paths (CT := CT) (f := f) (cdv := cdv) (A := A) (outer := outer) (sh := sh) (H0 := H0) (E := E) L.Y hr nd
  obtain ⟨t5, h5, rd5⟩ := law_try (f := f) (cdv := cdv) (A := A) (outer := outer) (sh := sh) (H0 := H0) (E := E) L.T L.dCN hr nd
  obtain ⟨t6, h6, rd6⟩ := law_eq (P := P) (w := w) (K := K) (mg := mg) (base := base) (f := f) (cdv := cdv) (A := A) (outer := outer) (sh := sh) (H0 := H0) (E := E) nd
  obtain ⟨t7, h7, rd7⟩ := law_places (f := f) (cdv := cdv) (A := A) (outer := outer) (sh := sh) (H0 := H0) (E := E) L.gT L.gS L.Y L.dP L.dCw hr nd
  obtain ⟨t8, h8, rd8⟩ := law_riv (f := f) (cdv := cdv) (A := A) (outer := outer) (sh := sh) (H0 := H0) (E := E) L.dC L.dR hr nd
  obtain ⟨t9, h9, rd9⟩ := law_bad (f := f) (cdv := cdv) (A := A) (outer := outer) (sh := sh) (H0 := H0) (E := E) L.dP L.gU L.em hr nd
  refine ⟨_, pss_cons (ps_set (i := 3) nd rfl (by first | exact Or.inl rfl | exact Or.inr rfl) (pe_def L.dSto hr rfl (pa_cons (pv 1) (pa_cons pe_int pa_nil))))
    (pss_cons (ps_par (i := 4) (j := 5) rfl nd rfl rfl (by decide) rfl rfl (pa_cons (pe_def L.dYl r7 rfl (pa_cons (pv 1) (pa_cons (pv 3) pa_nil))) (pa_cons (pe_def L.dKs r3 rfl (pa_cons (pv 3) pa_nil)) pa_nil)) (by rfl))
    (pss_cons (ps_par (i := 6) (j := 7) rfl nd rfl rfl (by decide) rfl rfl (pa_cons (pe_lst pa_nil) (pa_cons (pe_def L.dPt r4 rfl (pa_cons (pv 1) (pa_cons (pv 3) pa_nil))) pa_nil)) (by rfl))
    (pss_cons h3 (pss_cons (ps_set (i := 9) nd rfl (by first | exact Or.inl rfl | exact Or.inr rfl) (pe_def L.dWr r3 rfl (pa_cons (pv 4) (pa_cons (pv 6) (pa_cons (pv 7) pa_nil)))))
    (pss_cons h5 (pss_cons h6 (pss_cons h7 (pss_cons h8 (pss_one h9))))))))), ?_⟩
  intro D' H r a x0 x2 x3 x4 x5 x6 x7 x8 x9 x10 x11 x13 x14 x15 x16 x17 x18 R k
  refine ⟨_, rfl, r, a, 3, rfl, R, by decide, by decide, fun st es ns H1 nst d1 hO1 hX1 dr => ?_⟩
  have rt := dr.right
  have R1 := d1.row R
  have keys : ∀ k ∈ keysOf es.eds, k.1 ∈ PN3 ∧ 1 ≤ k.2 ∧ k.2 ≤ 3 := fun k hk => by
    rw [keys_eds] at hk
    obtain ⟨e0, he0, rfl⟩ := List.mem_map.mp hk
    obtain ⟨e1, he1, rfl⟩ := List.mem_map.mp he0
    exact ⟨rt.txt e1 he1, rt.ver e1 he1⟩
  have few6 : es.eds.length ≤ 6 := by
    unfold Es.eds
    rw [List.length_map]
    exact rt.few
  have some_ : keysOf es.eds ≠ [] := by
    obtain ⟨j, j1, j3, rfl⟩ := dr.pre
    have hm : ("app" : Str) ∈ PN3.take j := by
      have : j = 1 ∨ j = 2 ∨ j = 3 := by omega
      rcases this with rfl | rfl | rfl <;> decide
    obtain ⟨e, he, _⟩ := dr.good.all "app" hm
    rw [keys_eds]
    intro q
    have := List.map_eq_nil_iff.mp (List.map_eq_nil_iff.mp q)
    rw [this] at he
    cases he
  generalize es.eds = eds at hO1 keys few6 some_
  refine ⟨_, rfl, _, rfl, r, st, a, eds, rfl, R1, hO1, few6, keys, fun H2 y c1 c2 fs ts R2 L2 ar => ?_⟩
  refine ⟨_, rfl, st, eds, rfl, L2.sto, by omega, fun H3 kl qs ks s3 nkl gkl pk pm asc => ⟨_, _, rfl, ?_⟩⟩
  have R3 := R2.same' s3
  have L3 := L2.same s3
  have nkr : kl ≠ r := R2.ne nkl
  refine ⟨Nat.zero_le _, fun pl npl => ?_⟩
  have s4 := Same.upd_new (o := .lst []) npl
  have gpl : upd H3 pl (.lst []) pl = some (.lst []) := upd_same
  have npr : pl ≠ r := R3.ne npl
  have R4 := R3.same' s4
  have L4 := L3.same s4
  have gkl4 := s4 _ _ gkl
  have pk4 := paired_imp (fun q k h => s4 _ _ h) pk
  generalize upd H3 pl (.lst []) = H4 at gpl R4 L4 gkl4 pk4 ⊢
  refine ⟨_, rfl, _, rfl, r, a, st, eds, rfl, R4, L4.sto, few6, some_, fun H5 dv dl d5 ndv hD hok => ⟨_, _, rfl, ?_⟩⟩
  have R5 := d5.row R4
  have L5 := L4.nl (d5.nl R4) (d5.kp R4)
  have gkl5 := d5.lst nkr gkl4
  have gpl5 := d5.lst npr gpl
  have pk5 : Paired (KeyAt H5) qs ks := by
    obtain ⟨zs, hrr⟩ := R4.at_
    exact paired_imp (fun q k h => d5.sb _ _ (ne_of h hrr (by intro z; cases z)) h) pk4
  have okD : DvOk dl := fun e he => pd_ok _ (hok e he).1
  have lk : ks.length ≤ 40 := by
    rw [pm.length_eq]
    unfold keysOf
    rw [List.length_map]
    omega
  have okE : ∀ k ∈ keysOf eds, PyData.strOk k.1 = true := fun k hk => (pn4_ok _ (pn3_in (keys k hk).1)).1
  have arP : ∀ e ∈ fs, ∀ p ∈ e.2.2, p.1 ∈ PF4 := fun e he => (ar e he).2
  have okM : ∀ k, ∀ z ∈ placesM fs dl k, PyData.strOk z = true := fun k => places_ok arP (fun e he => (hok e he).2) k
  have okP : ∀ k, ∀ z ∈ pathsL fs k, PyData.strOk z = true := fun k z hz => pf_ok _ (pathsL_in arP k z hz)
  have pasc : ∀ k, (pathsL fs k).Pairwise txLe := fun k => pathsL_asc (fun e he => (ar e he).1) k
  have isn := isNm_of pm asc
  refine rd3 _ H5 y st c1 c2 kl pl eds fs ts qs ks _ _ _ _ _ _ _ _ _ _ _ _ _ _ _ _ L5 gkl5 pk5 lk gpl5 fun H6 pl6 y8 s6 g6 => ?_
  have L6 := L5.same s6
  have hD6 := hD.same s6
  refine ⟨_, rfl, _, rfl, _, rfl, y, pl6, dv, st, c1, c2, eds, fs, ts, dl, allP fs ks, dset (ks.map (·.1)), rfl, L6, hD6, g6, isn, fun H7 zs s7 pz srt => ?_⟩
  have hw : WrgOf fs eds dl (wrongY (dset (ks.map (·.1))) dl (allP fs ks ++ dl.map (·.1)) zs) := ⟨ks, zs, _, pm, asc, pz, srt, isn, rfl⟩
  generalize wrongY (dset (ks.map (·.1))) dl (allP fs ks ++ dl.map (·.1)) zs = wr at hw
  have S7 := s6.trans s7
  refine rd5 _ H7 y st c1 c2 dv eds fs ts dl wr _ _ _ _ _ _ _ _ _ _ _ _ _ _ _ _ (L5.same S7) (hD.same S7) okD hw fun H8 u v s8 T8 => ?_
  obtain rfl := T8.v
  have S8 := S7.trans s8
  refine rd6 _ H8 wr _ _ _ _ _ _ _ _ _ _ _ _ _ _ _ _ _ ?_
  refine rd7 _ H8 y st c1 c2 dv kl eds fs ts dl qs ks wr u _ _ _ _ _ _ _ _ _ _ _ _ _ _ (L5.same S8) few6 (hD.same S8) okD hw (S8 _ _ gkl5) (paired_imp (fun q k h => S8 _ _ h) pk5) pm asc T8 okE okM fun H9 z8 z13 z14 z15 z16 z17 z18 s9 => ?_
  have S9 := S8.trans s9
  refine rd8 _ H9 y st c1 c2 eds fs ts ks _ _ _ _ _ _ _ _ _ _ _ _ _ _ _ _ _ _ (L5.same S9) pm asc pasc okE okP fun H10 s10 => ?_
  have S10 := S9.trans s10
  refine rd9 _ H10 y st c1 c2 eds fs ts _ _ _ _ _ _ _ _ _ _ _ _ _ _ _ _ _ _ (L5.same S10) (fun k hk => web_no _ (keys k hk).1) fun H11 u' s11 => ?_
  exact k H11 _ _ _ _ _ _ _ _ _ _ _ _ _ _ _ (R5.same' (S10.trans s11))
end
end Half

namespace Half
open PySem PySem.Spec PyProof.Rows L2
section
variable {P : Program} {w : World} {K : PySem.W.Frag} {mg : Str → Option Value} {base : Heap} {C CT CY CN CU CV : Addr}
def spLaw (K : PySem.W.Frag) : Sp := fun vs H Q _ => ∃ (a : Addr) (ns : List Int), vs = [.ref a] ∧ SqL K H a (ns.map V.int) ∧ ns.length ≤ 63 ∧ ∀ H', Q (.bl true) H'
theorem ok_law {f c : Addr} {oc kV doc pm ct : Value} {od an : Option Addr} {osl : Array (Option Value)} (lk : K.lookup f = some ⟨oc, od, .func (PySem.W.fnOf "law" "law" (defArgs sLaw) (defBody sLaw) (defScope sLaw) .none kV doc pm an (.ref c) ct), osl⟩) (hcd : PySem.W.codeIn K (.ref c) "law" = true)
    (L : LawAll P w K mg base C CT CY CN CU CV) :
    FnOk P w K mg base CX0 9 f (PySem.W.fnOf "law" "law" (defArgs sLaw) (defBody sLaw) (defScope sLaw) .none kV doc pm an (.ref c) ct) ["_law_script"] (spLaw K) := by
  refine fn_of lk hcd scLaw (fun vs H Q E h => ?_) (fun A outer s H vs Q E hr h => ?_)
  · obtain ⟨a, ns, rfl, _⟩ := h
    rfl
  · obtain ⟨a, ns, rfl, hS, hlen, k⟩ := h
    have nd := scLaw.nd
    obtain ⟨tT, hT, rdT⟩ := law_turn (f := f) (A := A) (outer := outer) (sh := s) (H0 := H) (E := E) L hr nd
    refine ⟨_, (pss_cons (ps_set (i := 1) nd rfl (by first | exact Or.inl rfl | exact Or.inr rfl) (pe_lst (pa_cons (pv 0) (pa_cons pe_int (pa_cons pe_int (pa_cons pe_int pa_nil))))))
      (pss_cons (ps_for PassesOwn.never rfl (pi_range1 (by rfl) L.gR (pa_cons pe_int pa_nil)) (pg_name (i := 2) nd rfl (by first | exact Or.inl rfl | exact Or.inr rfl)) hT)
      (pss_one (ps_ret pe_bl)))).nox, ?_⟩
    refine ⟨_, rfl, (by show 4 ≤ sizeLine; decide), fun r nr => ?_⟩
    have s1 := Same.upd_new (o := .lst [.ref a, .int 0, .int 0, .int 0]) nr
    have R1 : Row K (upd H r (.lst [.ref a, .int 0, .int 0, .int 0])) r a := ⟨ns, 0, 0, 0, upd_same, s1.seq hS, hlen, Int.le_refl 0⟩
    generalize upd H r (.lst [.ref a, .int 0, .int 0, .int 0]) = H1 at R1 ⊢
    refine ⟨5, rfl, by decide, by decide, ?_⟩
    refine for_it walk_range (fun i σ H' => ∃ x2 x3 x4 x5 x6 x7 x8 x9 x10 x11 x13 x14 x15 x16 x17 x18, Row K H' r a ∧ σ = [some (.ref a), some (.ref r), x2, x3, x4, x5, x6, x7, x8, x9, x10, x11, none, x13, x14, x15, x16, x17, x18]) ⟨none, none, none, none, none, none, none, none, none, none, none, none, none, none, none, none, R1, rfl⟩ (fun _ _ _ _ _ => trivial) ?_ ?_
    · rintro i x σ H4 H5 hi ⟨x2, x3, x4, x5, x6, x7, x8, x9, x10, x11, x13, x14, x15, x16, x17, x18, W4, rfl⟩ ⟨rfl, rfl⟩
      refine rdT _ _ r a _ _ _ _ _ _ _ _ _ _ _ _ _ _ _ _ _ W4 fun H6 y3 y4 y5 y6 y7 y8 y9 y10 y11 y13 y14 y15 y16 y17 y18 W6 => ?_
      exact ⟨_, _, _, _, _, _, _, _, _, _, _, _, _, _, _, _, W6, rfl⟩
    · rintro σ H4 ⟨x2, x3, x4, x5, x6, x7, x8, x9, x10, x11, x13, x14, x15, x16, x17, x18, W4, rfl⟩
      exact k H4
end
end Half

namespace Half
open PySem PySem.Spec PyProof.Rows L2 LamX
theorem all_mk {l : PySem.W.OpenLaw} {w : World} {K : PySem.W.Frag} {h : Heap} {mg : Str → Option Value} {fa : Addr} (X : K.In h) (G : h.Ns mainGlobals mg) (hfa : mg "law" = some (.ref fa))
    {f_word : Addr} {oc_word kV_word dc_word pm_word cd_word ct_word : Value} {od_word an_word : Option Addr} {sl_word : Array (Option Value)}
    {f_numb : Addr} {oc_numb kV_numb dc_numb pm_numb cd_numb ct_numb : Value} {od_numb an_numb : Option Addr} {sl_numb : Array (Option Value)}
    {f_asc : Addr} {oc_asc kV_asc dc_asc pm_asc cd_asc ct_asc : Value} {od_asc an_asc : Option Addr} {sl_asc : Array (Option Value)}
    {f_vers : Addr} {oc_vers kV_vers dc_vers pm_vers cd_vers ct_vers : Value} {od_vers an_vers : Option Addr} {sl_vers : Array (Option Value)}
    {f_scri : Addr} {oc_scri kV_scri dc_scri pm_scri cd_scri ct_scri : Value} {od_scri an_scri : Option Addr} {sl_scri : Array (Option Value)}
    {f_othe : Addr} {oc_othe kV_othe dc_othe pm_othe cd_othe ct_othe : Value} {od_othe an_othe : Option Addr} {sl_othe : Array (Option Value)}
    {f_pair : Addr} {oc_pair kV_pair dc_pair pm_pair cd_pair ct_pair : Value} {od_pair an_pair : Option Addr} {sl_pair : Array (Option Value)}
    {f_need : Addr} {oc_need kV_need dc_need pm_need cd_need ct_need : Value} {od_need an_need : Option Addr} {sl_need : Array (Option Value)}
    {f_wron : Addr} {oc_wron kV_wron dc_wron pm_wron cd_wron ct_wron : Value} {od_wron an_wron : Option Addr} {sl_wron : Array (Option Value)}
    {f_wi : Addr} {oc_wi kV_wi dc_wi pm_wi cd_wi ct_wi : Value} {od_wi an_wi : Option Addr} {sl_wi : Array (Option Value)}
    {f_vn : Addr} {oc_vn kV_vn dc_vn pm_vn cd_vn ct_vn : Value} {od_vn an_vn : Option Addr} {sl_vn : Array (Option Value)}
    {f_take : Addr} {oc_take kV_take dc_take pm_take cd_take ct_take : Value} {od_take an_take : Option Addr} {sl_take : Array (Option Value)}
    {f_fi : Addr} {oc_fi kV_fi dc_fi pm_fi cd_fi ct_fi : Value} {od_fi an_fi : Option Addr} {sl_fi : Array (Option Value)}
    {f_fs : Addr} {oc_fs kV_fs dc_fs pm_fs cd_fs ct_fs : Value} {od_fs an_fs : Option Addr} {sl_fs : Array (Option Value)}
    {f_tk : Addr} {oc_tk kV_tk dc_tk pm_tk cd_tk ct_tk : Value} {od_tk an_tk : Option Addr} {sl_tk : Array (Option Value)}
    {f_cl : Addr} {oc_cl kV_cl dc_cl pm_cl cd_cl ct_cl : Value} {od_cl an_cl : Option Addr} {sl_cl : Array (Option Value)}
    {f_sto : Addr} {oc_sto kV_sto dc_sto pm_sto cd_sto ct_sto : Value} {od_sto an_sto : Option Addr} {sl_sto : Array (Option Value)}
    {f_ek : Addr} {oc_ek kV_ek dc_ek pm_ek cd_ek ct_ek : Value} {od_ek an_ek : Option Addr} {sl_ek : Array (Option Value)}
    {f_xfo : Addr} {oc_xfo kV_xfo dc_xfo pm_xfo cd_xfo ct_xfo : Value} {od_xfo an_xfo : Option Addr} {sl_xfo : Array (Option Value)}
    {f_xpo : Addr} {oc_xpo kV_xpo dc_xpo pm_xpo cd_xpo ct_xpo : Value} {od_xpo an_xpo : Option Addr} {sl_xpo : Array (Option Value)}
    {f_xto : Addr} {oc_xto kV_xto dc_xto pm_xto cd_xto ct_xto : Value} {od_xto an_xto : Option Addr} {sl_xto : Array (Option Value)}
    {f_xcc : Addr} {oc_xcc kV_xcc dc_xcc pm_xcc cd_xcc ct_xcc : Value} {od_xcc an_xcc : Option Addr} {sl_xcc : Array (Option Value)}
    {f_xcls : Addr} {oc_xcls kV_xcls dc_xcls pm_xcls cd_xcls ct_xcls : Value} {od_xcls an_xcls : Option Addr} {sl_xcls : Array (Option Value)}
    {f_xwp : Addr} {oc_xwp kV_xwp dc_xwp pm_xwp cd_xwp ct_xwp : Value} {od_xwp an_xwp : Option Addr} {sl_xwp : Array (Option Value)}
    {f_xcd : Addr} {oc_xcd kV_xcd dc_xcd pm_xcd cd_xcd ct_xcd : Value} {od_xcd an_xcd : Option Addr} {sl_xcd : Array (Option Value)}
    {f_xck : Addr} {oc_xck kV_xck dc_xck pm_xck cd_xck ct_xck : Value} {od_xck an_xck : Option Addr} {sl_xck : Array (Option Value)}
    {f_xpl : Addr} {oc_xpl kV_xpl dc_xpl pm_xpl cd_xpl ct_xpl : Value} {od_xpl an_xpl : Option Addr} {sl_xpl : Array (Option Value)}
    {f_xps : Addr} {oc_xps kV_xps dc_xps pm_xps cd_xps ct_xps : Value} {od_xps an_xps : Option Addr} {sl_xps : Array (Option Value)}
    {f_xcr : Addr} {oc_xcr kV_xcr dc_xcr pm_xcr cd_xcr ct_xcr : Value} {od_xcr an_xcr : Option Addr} {sl_xcr : Array (Option Value)}
    {f_xpd : Addr} {oc_xpd kV_xpd dc_xpd pm_xpd cd_xpd ct_xpd : Value} {od_xpd an_xpd : Option Addr} {sl_xpd : Array (Option Value)}
    {f_xriv : Addr} {oc_xriv kV_xriv dc_xriv pm_xriv cd_xriv ct_xriv : Value} {od_xriv an_xriv : Option Addr} {sl_xriv : Array (Option Value)}
    {f_ks : Addr} {oc_ks kV_ks dc_ks pm_ks cd_ks ct_ks : Value} {od_ks an_ks : Option Addr} {sl_ks : Array (Option Value)}
    {f_xwr : Addr} {oc_xwr kV_xwr dc_xwr pm_xwr cd_xwr ct_xwr : Value} {od_xwr an_xwr : Option Addr} {sl_xwr : Array (Option Value)}
    {f_xcw : Addr} {oc_xcw kV_xcw dc_xcw pm_xcw cd_xcw ct_xcw : Value} {od_xcw an_xcw : Option Addr} {sl_xcw : Array (Option Value)}
    {f_xpt : Addr} {oc_xpt kV_xpt dc_xpt pm_xpt cd_xpt ct_xpt : Value} {od_xpt an_xpt : Option Addr} {sl_xpt : Array (Option Value)}
    {f_xyl : Addr} {oc_xyl kV_xyl dc_xyl pm_xyl cd_xyl ct_xyl : Value} {od_xyl an_xyl : Option Addr} {sl_xyl : Array (Option Value)}
    {f_law cLaw : Addr} {oc_law kV_law dc_law pm_law ct_law : Value} {od_law an_law : Option Addr} {sl_law : Array (Option Value)}
    {C : Addr}
    {CT : Addr}
    {CY : Addr}
    {c0 : Addr}
    {c1 : Addr}
    {c4 : Addr}
    {c5 : Addr}
    {CL : Addr}
    {CV : Addr}
    {nmc0 qc0 : Str} {Nc0 : Addr} {bsc0 bmc0 : List Value} {snc0 : List Str} {subc0 : List Value} {abc0 : Bool} {colc0 : Option Bool} {ddc0 : Option Addr} {k0c0 k1c0 k2c0 k3c0 k5c0 : Option Value}
    {f_ie : Addr}
    {oc_ie kV_ie dc_ie pm_ie ct_ie : Value} {od_ie an_ie : Option Addr} {cdI_ie ccI_ie : Addr} {sl_ie : Array (Option Value)} {cclI_ie : Value} {cddI_ie : Option Addr} {vsI_ie : Array Value} {ccsI_ie : Array (Option Value)} {fileI_ie : Str} {tfI_ie : Tok} {clI_ie : Value} {cldI_ie : Option Addr} {cslI_ie : Array (Option Value)}
    {nmc1 qc1 : Str} {Nc1 : Addr} {bsc1 bmc1 : List Value} {snc1 : List Str} {subc1 : List Value} {abc1 : Bool} {colc1 : Option Bool} {ddc1 : Option Addr} {k0c1 k1c1 k2c1 k3c1 k5c1 : Option Value}
    {f_is : Addr}
    {oc_is kV_is dc_is pm_is ct_is : Value} {od_is an_is : Option Addr} {cdI_is ccI_is : Addr} {sl_is : Array (Option Value)} {cclI_is : Value} {cddI_is : Option Addr} {vsI_is : Array Value} {ccsI_is : Array (Option Value)} {fileI_is : Str} {tfI_is : Tok} {clI_is : Value} {cldI_is : Option Addr} {cslI_is : Array (Option Value)}
    {nmCL qCL : Str} {NCL : Addr} {bsCL bmCL : List Value} {snCL : List Str} {subCL : List Value} {abCL : Bool} {colCL : Option Bool} {ddCL : Option Addr} {k0CL k1CL k2CL k3CL k5CL : Option Value}
    {f_il : Addr}
    {oc_il kV_il dc_il pm_il ct_il : Value} {od_il an_il : Option Addr} {cdI_il ccI_il : Addr} {sl_il : Array (Option Value)} {cclI_il : Value} {cddI_il : Option Addr} {vsI_il : Array Value} {ccsI_il : Array (Option Value)} {fileI_il : Str} {tfI_il : Tok} {clI_il : Value} {cldI_il : Option Addr} {cslI_il : Array (Option Value)}
    {nmCV qCV : Str} {NCV : Addr} {bsCV bmCV : List Value} {snCV : List Str} {subCV : List Value} {abCV : Bool} {colCV : Option Bool} {ddCV : Option Addr} {k0CV k1CV k2CV k3CV k5CV : Option Value}
    {f_iv : Addr}
    {oc_iv kV_iv dc_iv pm_iv ct_iv : Value} {od_iv an_iv : Option Addr} {cdI_iv ccI_iv : Addr} {sl_iv : Array (Option Value)} {cclI_iv : Value} {cddI_iv : Option Addr} {vsI_iv : Array Value} {ccsI_iv : Array (Option Value)} {fileI_iv : Str} {tfI_iv : Tok} {clI_iv : Value} {cldI_iv : Option Addr} {cslI_iv : Array (Option Value)}
    {tLet : Tok} {aS : Addr}
    {t_lon : Tok}
    {t_lv : Tok}
    {t_mv : Tok}
    {t_me : Tok}
    {t_mn : Tok}
    {t_mf : Tok}
    {t_mc : Tok}
    {f_ei kD : Addr} {oc_ei dc_ei pm_ei cd_ei ct_ei : Value} {od_ei an_ei : Option Addr} {sl_ei : Array (Option Value)}
    {z1 z2 z3 : Addr}
    {ddS dd1 dd2 dd3 : Option Addr} {q0 q1 q2 q3 : Tok} {nS n1 n2 n3 : Nat} {slS sl1 sl2 sl3 : Array (Option Value)}
    {p_g0 : Addr} {rest_g0 : List Value}
    {f_g0 : Addr} {oc_g0 kV_g0 dc_g0 pm_g0 cd_g0 ct_g0 : Value} {od_g0 an_g0 : Option Addr} {sl_g0 : Array (Option Value)}
    {p_g1 : Addr} {rest_g1 : List Value}
    {f_g1 : Addr} {oc_g1 kV_g1 dc_g1 pm_g1 cd_g1 ct_g1 : Value} {od_g1 an_g1 : Option Addr} {sl_g1 : Array (Option Value)}
    {p_g2 : Addr} {rest_g2 : List Value}
    {f_g2 : Addr} {oc_g2 kV_g2 dc_g2 pm_g2 cd_g2 ct_g2 : Value} {od_g2 an_g2 : Option Addr} {sl_g2 : Array (Option Value)}
    {p_g3 : Addr} {rest_g3 : List Value}
    {f_g3 : Addr} {oc_g3 kV_g3 dc_g3 pm_g3 cd_g3 ct_g3 : Value} {od_g3 an_g3 : Option Addr} {sl_g3 : Array (Option Value)}
    {p_g4 : Addr} {rest_g4 : List Value}
    {f_g4 : Addr} {oc_g4 kV_g4 dc_g4 pm_g4 cd_g4 ct_g4 : Value} {od_g4 an_g4 : Option Addr} {sl_g4 : Array (Option Value)}
    {p_g5 : Addr} {rest_g5 : List Value}
    {f_g5 : Addr} {oc_g5 kV_g5 dc_g5 pm_g5 cd_g5 ct_g5 : Value} {od_g5 an_g5 : Option Addr} {sl_g5 : Array (Option Value)}
    {f_eq : Addr} {oc_eq kV_eq dc_eq pm_eq cd_eq ct_eq : Value} {od_eq an_eq : Option Addr} {sl_eq : Array (Option Value)}
    {nmC qC : Str} {NC : Addr} {bsC : List Value} {hdC : Bool} {snC : List Str} {subC : List Value} {abC : Bool} {colC : Option Bool} {ddC : Option Addr} {k0C k1C k2C k3C k5C : Option Value} {newC : String}
    {f_si : Addr} {oc_si kV_si dc_si pm_si cd_si ct_si : Value} {od_si an_si : Option Addr} {sl_si : Array (Option Value)}
    {p_sn : Addr} {rest_sn : List Value}
    {f_sn : Addr} {oc_sn kV_sn dc_sn pm_sn cd_sn ct_sn : Value} {od_sn an_sn : Option Addr} {sl_sn : Array (Option Value)}
    {f_sv : Addr} {oc_sv kV_sv dc_sv pm_sv cd_sv ct_sv : Value} {od_sv an_sv : Option Addr} {sl_sv : Array (Option Value)}
    {f_sh : Addr} {oc_sh kV_sh dc_sh pm_sh cd_sh ct_sh : Value} {od_sh an_sh : Option Addr} {sl_sh : Array (Option Value)}
    {f_se : Addr} {oc_se kV_se dc_se pm_se cd_se ct_se : Value} {od_se an_se : Option Addr} {sl_se : Array (Option Value)}
    {nmCT qCT : Str} {NCT : Addr} {bsCT : List Value} {hdCT : Bool} {snCT : List Str} {subCT : List Value} {abCT : Bool} {colCT : Option Bool} {ddCT : Option Addr} {k0CT k1CT k2CT k3CT k5CT : Option Value} {newCT : String}
    {f_li : Addr} {oc_li kV_li dc_li pm_li cd_li ct_li : Value} {od_li an_li : Option Addr} {sl_li : Array (Option Value)}
    {p_ls : Addr} {rest_ls : List Value}
    {f_ls : Addr} {oc_ls kV_ls dc_ls pm_ls cd_ls ct_ls : Value} {od_ls an_ls : Option Addr} {sl_ls : Array (Option Value)}
    {p_lf : Addr} {rest_lf : List Value}
    {f_lf : Addr} {oc_lf kV_lf dc_lf pm_lf cd_lf ct_lf : Value} {od_lf an_lf : Option Addr} {sl_lf : Array (Option Value)}
    {p_lt : Addr} {rest_lt : List Value}
    {f_lt : Addr} {oc_lt kV_lt dc_lt pm_lt cd_lt ct_lt : Value} {od_lt an_lt : Option Addr} {sl_lt : Array (Option Value)}
    {f_le : Addr} {oc_le kV_le dc_le pm_le cd_le ct_le : Value} {od_le an_le : Option Addr} {sl_le : Array (Option Value)}
    {nmCY qCY : Str} {NCY : Addr} {bsCY : List Value} {hdCY : Bool} {snCY : List Str} {subCY : List Value} {abCY : Bool} {colCY : Option Bool} {ddCY : Option Addr} {k0CY k1CY k2CY k3CY k5CY : Option Value} {newCY : String}
    (n_int : PySem.W.nsIn K mainGlobals "int" = some none)
    (n_len : PySem.W.nsIn K mainGlobals "len" = some none)
    (n_isinstance : PySem.W.nsIn K mainGlobals "isinstance" = some none)
    (n_str : PySem.W.nsIn K mainGlobals "str" = some none)
    (n_bool : PySem.W.nsIn K mainGlobals "bool" = some none)
    (n_tuple : PySem.W.nsIn K mainGlobals "tuple" = some none)
    (n_all : PySem.W.nsIn K mainGlobals "all" = some none)
    (n_range : PySem.W.nsIn K mainGlobals "range" = some none)
    (n_ValueError : PySem.W.nsIn K mainGlobals "ValueError" = some none)
    (n_super : PySem.W.nsIn K mainGlobals "super" = some none)
    (n_set : PySem.W.nsIn K mainGlobals "set" = some none)
    (n_sorted : PySem.W.nsIn K mainGlobals "sorted" = some none)
    (n_list : PySem.W.nsIn K mainGlobals "list" = some none)
    (n_enumerate : PySem.W.nsIn K mainGlobals "enumerate" = some none)
    (n_dict : PySem.W.nsIn K mainGlobals "dict" = some none)
    (n_any : PySem.W.nsIn K mainGlobals "any" = some none)
    (n_min : PySem.W.nsIn K mainGlobals "min" = some none)
    (n_max : PySem.W.nsIn K mainGlobals "max" = some none)
    (a_word : PySem.W.nsIn K mainGlobals "is_word" = some (some (.ref f_word)))
    (l_word : K.lookup f_word = some ⟨oc_word, od_word, .func (PySem.W.fnOf "is_word" "is_word" (defArgs sWord) (defBody sWord) (defScope sWord) .none kV_word dc_word pm_word an_word cd_word ct_word), sl_word⟩)
    (c_word : PySem.W.codeIn K cd_word "is_word" = true)
    (k_word : PySem.W.keepIn K (.ref f_word) = true)
    (a_numb : PySem.W.nsIn K mainGlobals "is_number" = some (some (.ref f_numb)))
    (l_numb : K.lookup f_numb = some ⟨oc_numb, od_numb, .func (PySem.W.fnOf "is_number" "is_number" (defArgs sNumber) (defBody sNumber) (defScope sNumber) .none kV_numb dc_numb pm_numb an_numb cd_numb ct_numb), sl_numb⟩)
    (c_numb : PySem.W.codeIn K cd_numb "is_number" = true)
    (k_numb : PySem.W.keepIn K (.ref f_numb) = true)
    (a_asc : PySem.W.nsIn K mainGlobals "ascends" = some (some (.ref f_asc)))
    (l_asc : K.lookup f_asc = some ⟨oc_asc, od_asc, .func (PySem.W.fnOf "ascends" "ascends" (defArgs sAscends) (defBody sAscends) (defScope sAscends) .none kV_asc dc_asc pm_asc an_asc cd_asc ct_asc), sl_asc⟩)
    (c_asc : PySem.W.codeIn K cd_asc "ascends" = true)
    (k_asc : PySem.W.keepIn K (.ref f_asc) = true)
    (a_vers : PySem.W.nsIn K mainGlobals "is_version" = some (some (.ref f_vers)))
    (l_vers : K.lookup f_vers = some ⟨oc_vers, od_vers, .func (PySem.W.fnOf "is_version" "is_version" (defArgs sVersion) (defBody sVersion) (defScope sVersion) .none kV_vers dc_vers pm_vers an_vers cd_vers ct_vers), sl_vers⟩)
    (c_vers : PySem.W.codeIn K cd_vers "is_version" = true)
    (k_vers : PySem.W.keepIn K (.ref f_vers) = true)
    (a_scri : PySem.W.nsIn K mainGlobals "are_scripts" = some (some (.ref f_scri)))
    (l_scri : K.lookup f_scri = some ⟨oc_scri, od_scri, .func (PySem.W.fnOf "are_scripts" "are_scripts" (defArgs sScripts) (defBody sScripts) (defScope sScripts) .none kV_scri dc_scri pm_scri an_scri cd_scri ct_scri), sl_scri⟩)
    (c_scri : PySem.W.codeIn K cd_scri "are_scripts" = true)
    (k_scri : PySem.W.keepIn K (.ref f_scri) = true)
    (a_othe : PySem.W.nsIn K mainGlobals "are_other_names" = some (some (.ref f_othe)))
    (l_othe : K.lookup f_othe = some ⟨oc_othe, od_othe, .func (PySem.W.fnOf "are_other_names" "are_other_names" (defArgs sOthers) (defBody sOthers) (defScope sOthers) .none kV_othe dc_othe pm_othe an_othe cd_othe ct_othe), sl_othe⟩)
    (c_othe : PySem.W.codeIn K cd_othe "are_other_names" = true)
    (k_othe : PySem.W.keepIn K (.ref f_othe) = true)
    (a_pair : PySem.W.nsIn K mainGlobals "is_pair_with_version" = some (some (.ref f_pair)))
    (l_pair : K.lookup f_pair = some ⟨oc_pair, od_pair, .func (PySem.W.fnOf "is_pair_with_version" "is_pair_with_version" (defArgs sPair) (defBody sPair) (defScope sPair) .none kV_pair dc_pair pm_pair an_pair cd_pair ct_pair), sl_pair⟩)
    (c_pair : PySem.W.codeIn K cd_pair "is_pair_with_version" = true)
    (k_pair : PySem.W.keepIn K (.ref f_pair) = true)
    (a_need : PySem.W.nsIn K mainGlobals "are_needs" = some (some (.ref f_need)))
    (l_need : K.lookup f_need = some ⟨oc_need, od_need, .func (PySem.W.fnOf "are_needs" "are_needs" (defArgs sNeeds) (defBody sNeeds) (defScope sNeeds) .none kV_need dc_need pm_need an_need cd_need ct_need), sl_need⟩)
    (c_need : PySem.W.codeIn K cd_need "are_needs" = true)
    (k_need : PySem.W.keepIn K (.ref f_need) = true)
    (a_wron : PySem.W.nsIn K mainGlobals "wrong_part" = some (some (.ref f_wron)))
    (l_wron : K.lookup f_wron = some ⟨oc_wron, od_wron, .func (PySem.W.fnOf "wrong_part" "wrong_part" (defArgs sWrong) (defBody sWrong) (defScope sWrong) .none kV_wron dc_wron pm_wron an_wron cd_wron ct_wron), sl_wron⟩)
    (c_wron : PySem.W.codeIn K cd_wron "wrong_part" = true)
    (k_wron : PySem.W.keepIn K (.ref f_wron) = true)
    (a_wi : PySem.W.nsIn K mainGlobals "wrong_index" = some (some (.ref f_wi)))
    (l_wi : K.lookup f_wi = some ⟨oc_wi, od_wi, .func (PySem.W.fnOf "wrong_index" "wrong_index" (defArgs sWi) (defBody sWi) (defScope sWi) .none kV_wi dc_wi pm_wi an_wi cd_wi ct_wi), sl_wi⟩)
    (c_wi : PySem.W.codeIn K cd_wi "wrong_index" = true)
    (k_wi : PySem.W.keepIn K (.ref f_wi) = true)
    (a_vn : PySem.W.nsIn K mainGlobals "versions_by_name" = some (some (.ref f_vn)))
    (l_vn : K.lookup f_vn = some ⟨oc_vn, od_vn, .func (PySem.W.fnOf "versions_by_name" "versions_by_name" (defArgs sVn) (defBody sVn) (defScope sVn) .none kV_vn dc_vn pm_vn an_vn cd_vn ct_vn), sl_vn⟩)
    (c_vn : PySem.W.codeIn K cd_vn "versions_by_name" = true)
    (k_vn : PySem.W.keepIn K (.ref f_vn) = true)
    (a_take : PySem.W.nsIn K mainGlobals "_law_taken" = some (some (.ref f_take)))
    (l_take : K.lookup f_take = some ⟨oc_take, od_take, .func (PySem.W.fnOf "_law_taken" "_law_taken" (defArgs sTaken) (defBody sTaken) (defScope sTaken) .none kV_take dc_take pm_take an_take cd_take ct_take), sl_take⟩)
    (c_take : PySem.W.codeIn K cd_take "_law_taken" = true)
    (k_take : PySem.W.keepIn K (.ref f_take) = true)
    (a_fi : PySem.W.nsIn K mainGlobals "is_file" = some (some (.ref f_fi)))
    (l_fi : K.lookup f_fi = some ⟨oc_fi, od_fi, .func (PySem.W.fnOf "is_file" "is_file" (defArgs sFi) (defBody sFi) (defScope sFi) .none kV_fi dc_fi pm_fi an_fi cd_fi ct_fi), sl_fi⟩)
    (c_fi : PySem.W.codeIn K cd_fi "is_file" = true)
    (k_fi : PySem.W.keepIn K (.ref f_fi) = true)
    (a_fs : PySem.W.nsIn K mainGlobals "are_files" = some (some (.ref f_fs)))
    (l_fs : K.lookup f_fs = some ⟨oc_fs, od_fs, .func (PySem.W.fnOf "are_files" "are_files" (defArgs sFs) (defBody sFs) (defScope sFs) .none kV_fs dc_fs pm_fs an_fs cd_fs ct_fs), sl_fs⟩)
    (c_fs : PySem.W.codeIn K cd_fs "are_files" = true)
    (k_fs : PySem.W.keepIn K (.ref f_fs) = true)
    (a_tk : PySem.W.nsIn K mainGlobals "are_takes" = some (some (.ref f_tk)))
    (l_tk : K.lookup f_tk = some ⟨oc_tk, od_tk, .func (PySem.W.fnOf "are_takes" "are_takes" (defArgs sTk) (defBody sTk) (defScope sTk) .none kV_tk dc_tk pm_tk an_tk cd_tk ct_tk), sl_tk⟩)
    (c_tk : PySem.W.codeIn K cd_tk "are_takes" = true)
    (k_tk : PySem.W.keepIn K (.ref f_tk) = true)
    (a_cl : PySem.W.nsIn K mainGlobals "check_layout" = some (some (.ref f_cl)))
    (l_cl : K.lookup f_cl = some ⟨oc_cl, od_cl, .func (PySem.W.fnOf "check_layout" "check_layout" (defArgs sCl) (defBody sCl) (defScope sCl) .none kV_cl dc_cl pm_cl an_cl cd_cl ct_cl), sl_cl⟩)
    (c_cl : PySem.W.codeIn K cd_cl "check_layout" = true)
    (k_cl : PySem.W.keepIn K (.ref f_cl) = true)
    (a_sto : PySem.W.nsIn K mainGlobals "_law_store" = some (some (.ref f_sto)))
    (l_sto : K.lookup f_sto = some ⟨oc_sto, od_sto, .func (PySem.W.fnOf "_law_store" "_law_store" (defArgs sSto) (defBody sSto) (defScope sSto) .none kV_sto dc_sto pm_sto an_sto cd_sto ct_sto), sl_sto⟩)
    (c_sto : PySem.W.codeIn K cd_sto "_law_store" = true)
    (k_sto : PySem.W.keepIn K (.ref f_sto) = true)
    (a_ek : PySem.W.nsIn K mainGlobals "edition_keys" = some (some (.ref f_ek)))
    (l_ek : K.lookup f_ek = some ⟨oc_ek, od_ek, .func (PySem.W.fnOf "edition_keys" "edition_keys" (defArgs sEk) (defBody sEk) (defScope sEk) .none kV_ek dc_ek pm_ek an_ek cd_ek ct_ek), sl_ek⟩)
    (c_ek : PySem.W.codeIn K cd_ek "edition_keys" = true)
    (k_ek : PySem.W.keepIn K (.ref f_ek) = true)
    (a_xfo : PySem.W.nsIn K mainGlobals "files_of" = some (some (.ref f_xfo)))
    (l_xfo : K.lookup f_xfo = some ⟨oc_xfo, od_xfo, .func (PySem.W.fnOf "files_of" "files_of" (defArgs sFo) (defBody sFo) (defScope sFo) .none kV_xfo dc_xfo pm_xfo an_xfo cd_xfo ct_xfo), sl_xfo⟩)
    (c_xfo : PySem.W.codeIn K cd_xfo "files_of" = true)
    (k_xfo : PySem.W.keepIn K (.ref f_xfo) = true)
    (a_xpo : PySem.W.nsIn K mainGlobals "paths_of" = some (some (.ref f_xpo)))
    (l_xpo : K.lookup f_xpo = some ⟨oc_xpo, od_xpo, .func (PySem.W.fnOf "paths_of" "paths_of" (defArgs sPo) (defBody sPo) (defScope sPo) .none kV_xpo dc_xpo pm_xpo an_xpo cd_xpo ct_xpo), sl_xpo⟩)
    (c_xpo : PySem.W.codeIn K cd_xpo "paths_of" = true)
    (k_xpo : PySem.W.keepIn K (.ref f_xpo) = true)
    (a_xto : PySem.W.nsIn K mainGlobals "takes_of" = some (some (.ref f_xto)))
    (l_xto : K.lookup f_xto = some ⟨oc_xto, od_xto, .func (PySem.W.fnOf "takes_of" "takes_of" (defArgs sTo) (defBody sTo) (defScope sTo) .none kV_xto dc_xto pm_xto an_xto cd_xto ct_xto), sl_xto⟩)
    (c_xto : PySem.W.codeIn K cd_xto "takes_of" = true)
    (k_xto : PySem.W.keepIn K (.ref f_xto) = true)
    (a_xcc : PySem.W.nsIn K mainGlobals "can_clash" = some (some (.ref f_xcc)))
    (l_xcc : K.lookup f_xcc = some ⟨oc_xcc, od_xcc, .func (PySem.W.fnOf "can_clash" "can_clash" (defArgs sCc) (defBody sCc) (defScope sCc) .none kV_xcc dc_xcc pm_xcc an_xcc cd_xcc ct_xcc), sl_xcc⟩)
    (c_xcc : PySem.W.codeIn K cd_xcc "can_clash" = true)
    (k_xcc : PySem.W.keepIn K (.ref f_xcc) = true)
    (a_xcls : PySem.W.nsIn K mainGlobals "clashes" = some (some (.ref f_xcls)))
    (l_xcls : K.lookup f_xcls = some ⟨oc_xcls, od_xcls, .func (PySem.W.fnOf "clashes" "clashes" (defArgs sCls) (defBody sCls) (defScope sCls) .none kV_xcls dc_xcls pm_xcls an_xcls cd_xcls ct_xcls), sl_xcls⟩)
    (c_xcls : PySem.W.codeIn K cd_xcls "clashes" = true)
    (k_xcls : PySem.W.keepIn K (.ref f_xcls) = true)
    (a_xwp : PySem.W.nsIn K mainGlobals "wrong_path" = some (some (.ref f_xwp)))
    (l_xwp : K.lookup f_xwp = some ⟨oc_xwp, od_xwp, .func (PySem.W.fnOf "wrong_path" "wrong_path" (defArgs sWp) (defBody sWp) (defScope sWp) .none kV_xwp dc_xwp pm_xwp an_xwp cd_xwp ct_xwp), sl_xwp⟩)
    (c_xwp : PySem.W.codeIn K cd_xwp "wrong_path" = true)
    (k_xwp : PySem.W.keepIn K (.ref f_xwp) = true)
    (a_xcd : PySem.W.nsIn K mainGlobals "check_diversions" = some (some (.ref f_xcd)))
    (l_xcd : K.lookup f_xcd = some ⟨oc_xcd, od_xcd, .func (PySem.W.fnOf "check_diversions" "check_diversions" (defArgs sCd) (defBody sCd) (defScope sCd) .none kV_xcd dc_xcd pm_xcd an_xcd cd_xcd ct_xcd), sl_xcd⟩)
    (c_xcd : PySem.W.codeIn K cd_xcd "check_diversions" = true)
    (k_xcd : PySem.W.keepIn K (.ref f_xcd) = true)
    (a_xck : PySem.W.nsIn K mainGlobals "check_key" = some (some (.ref f_xck)))
    (l_xck : K.lookup f_xck = some ⟨oc_xck, od_xck, .func (PySem.W.fnOf "check_key" "check_key" (defArgs sCk) (defBody sCk) (defScope sCk) .none kV_xck dc_xck pm_xck an_xck cd_xck ct_xck), sl_xck⟩)
    (c_xck : PySem.W.codeIn K cd_xck "check_key" = true)
    (k_xck : PySem.W.keepIn K (.ref f_xck) = true)
    (a_xpl : PySem.W.nsIn K mainGlobals "place_of" = some (some (.ref f_xpl)))
    (l_xpl : K.lookup f_xpl = some ⟨oc_xpl, od_xpl, .func (PySem.W.fnOf "place_of" "place_of" (defArgs sPl) (defBody sPl) (defScope sPl) .none kV_xpl dc_xpl pm_xpl an_xpl cd_xpl ct_xpl), sl_xpl⟩)
    (c_xpl : PySem.W.codeIn K cd_xpl "place_of" = true)
    (k_xpl : PySem.W.keepIn K (.ref f_xpl) = true)
    (a_xps : PySem.W.nsIn K mainGlobals "places_of" = some (some (.ref f_xps)))
    (l_xps : K.lookup f_xps = some ⟨oc_xps, od_xps, .func (PySem.W.fnOf "places_of" "places_of" (defArgs sPs) (defBody sPs) (defScope sPs) .none kV_xps dc_xps pm_xps an_xps cd_xps ct_xps), sl_xps⟩)
    (c_xps : PySem.W.codeIn K cd_xps "places_of" = true)
    (k_xps : PySem.W.keepIn K (.ref f_xps) = true)
    (a_xcr : PySem.W.nsIn K mainGlobals "crowded" = some (some (.ref f_xcr)))
    (l_xcr : K.lookup f_xcr = some ⟨oc_xcr, od_xcr, .func (PySem.W.fnOf "crowded" "crowded" (defArgs sCrd) (defBody sCrd) (defScope sCrd) .none kV_xcr dc_xcr pm_xcr an_xcr cd_xcr ct_xcr), sl_xcr⟩)
    (c_xcr : PySem.W.codeIn K cd_xcr "crowded" = true)
    (k_xcr : PySem.W.keepIn K (.ref f_xcr) = true)
    (a_xpd : PySem.W.nsIn K mainGlobals "placed" = some (some (.ref f_xpd)))
    (l_xpd : K.lookup f_xpd = some ⟨oc_xpd, od_xpd, .func (PySem.W.fnOf "placed" "placed" (defArgs sPd) (defBody sPd) (defScope sPd) .none kV_xpd dc_xpd pm_xpd an_xpd cd_xpd ct_xpd), sl_xpd⟩)
    (c_xpd : PySem.W.codeIn K cd_xpd "placed" = true)
    (k_xpd : PySem.W.keepIn K (.ref f_xpd) = true)
    (a_xriv : PySem.W.nsIn K mainGlobals "rivals" = some (some (.ref f_xriv)))
    (l_xriv : K.lookup f_xriv = some ⟨oc_xriv, od_xriv, .func (PySem.W.fnOf "rivals" "rivals" (defArgs sRiv) (defBody sRiv) (defScope sRiv) .none kV_xriv dc_xriv pm_xriv an_xriv cd_xriv ct_xriv), sl_xriv⟩)
    (c_xriv : PySem.W.codeIn K cd_xriv "rivals" = true)
    (k_xriv : PySem.W.keepIn K (.ref f_xriv) = true)
    (a_ks : PySem.W.nsIn K mainGlobals "_law_keys" = some (some (.ref f_ks)))
    (l_ks : K.lookup f_ks = some ⟨oc_ks, od_ks, .func (PySem.W.fnOf "_law_keys" "_law_keys" (defArgs sKs) (defBody sKs) (defScope sKs) .none kV_ks dc_ks pm_ks an_ks cd_ks ct_ks), sl_ks⟩)
    (c_ks : PySem.W.codeIn K cd_ks "_law_keys" = true)
    (k_ks : PySem.W.keepIn K (.ref f_ks) = true)
    (a_xwr : PySem.W.nsIn K mainGlobals "_law_wrong" = some (some (.ref f_xwr)))
    (l_xwr : K.lookup f_xwr = some ⟨oc_xwr, od_xwr, .func (PySem.W.fnOf "_law_wrong" "_law_wrong" (defArgs sWr) (defBody sWr) (defScope sWr) .none kV_xwr dc_xwr pm_xwr an_xwr cd_xwr ct_xwr), sl_xwr⟩)
    (c_xwr : PySem.W.codeIn K cd_xwr "_law_wrong" = true)
    (k_xwr : PySem.W.keepIn K (.ref f_xwr) = true)
    (a_xcw : PySem.W.nsIn K mainGlobals "_law_crowded" = some (some (.ref f_xcw)))
    (l_xcw : K.lookup f_xcw = some ⟨oc_xcw, od_xcw, .func (PySem.W.fnOf "_law_crowded" "_law_crowded" (defArgs sCw) (defBody sCw) (defScope sCw) .none kV_xcw dc_xcw pm_xcw an_xcw cd_xcw ct_xcw), sl_xcw⟩)
    (c_xcw : PySem.W.codeIn K cd_xcw "_law_crowded" = true)
    (k_xcw : PySem.W.keepIn K (.ref f_xcw) = true)
    (a_xpt : PySem.W.nsIn K mainGlobals "_law_put" = some (some (.ref f_xpt)))
    (l_xpt : K.lookup f_xpt = some ⟨oc_xpt, od_xpt, .func (PySem.W.fnOf "_law_put" "_law_put" (defArgs sPt) (defBody sPt) (defScope sPt) .none kV_xpt dc_xpt pm_xpt an_xpt cd_xpt ct_xpt), sl_xpt⟩)
    (c_xpt : PySem.W.codeIn K cd_xpt "_law_put" = true)
    (k_xpt : PySem.W.keepIn K (.ref f_xpt) = true)
    (a_xyl : PySem.W.nsIn K mainGlobals "_law_layout" = some (some (.ref f_xyl)))
    (l_xyl : K.lookup f_xyl = some ⟨oc_xyl, od_xyl, .func (PySem.W.fnOf "_law_layout" "_law_layout" (defArgs sYl) (defBody sYl) (defScope sYl) .none kV_xyl dc_xyl pm_xyl an_xyl cd_xyl ct_xyl), sl_xyl⟩)
    (c_xyl : PySem.W.codeIn K cd_xyl "_law_layout" = true)
    (k_xyl : PySem.W.keepIn K (.ref f_xyl) = true)
    (a_law : PySem.W.nsIn K mainGlobals "law" = some (some (.ref f_law)))
    (l_law : K.lookup f_law = some ⟨oc_law, od_law, .func (PySem.W.fnOf "law" "law" (defArgs sLaw) (defBody sLaw) (defScope sLaw) .none kV_law dc_law pm_law an_law (.ref cLaw) ct_law), sl_law⟩)
    (c_law : PySem.W.codeIn K (.ref cLaw) "law" = true)
    (k_law : PySem.W.keepIn K (.ref f_law) = true)
    (g_C : PySem.W.nsIn K mainGlobals "Edition" = some (some (.ref C)))
    (g_CT : PySem.W.nsIn K mainGlobals "Store" = some (some (.ref CT)))
    (g_CY : PySem.W.nsIn K mainGlobals "Layout" = some (some (.ref CY)))
    (pg_C : PySem.W.plainGet K C Str.empty = true)
    (hd_C : PySem.W.hasDictIn K C = true)
    (po_C : PySem.W.plainOver K C = true)
    (sa_C : PySem.W.findIn K (.ref C) "__setattr__" = some (some (.builtin "object.__setattr__")))
    (ha_C : PySem.W.findIn K (.ref C) "__class__" = some (some (.builtin "object.__class__")))
    (hm_C : PySem.W.mroIn K C (.type "object") = some true)
    (ki_C : PySem.W.kitOne K (.ref C) (.ref C) = some true)
    (hn : PySem.W.specialIn K (.builtin "object.__class__") "__get__" = some (some (.builtin "getset_descriptor.__get__")))
    (ht : PySem.W.takesIn K (.builtin "object.__class__") = some true)
    (pg_CT : PySem.W.plainGet K CT Str.empty = true)
    (hd_CT : PySem.W.hasDictIn K CT = true)
    (po_CT : PySem.W.plainOver K CT = true)
    (sa_CT : PySem.W.findIn K (.ref CT) "__setattr__" = some (some (.builtin "object.__setattr__")))
    (ha_CT : PySem.W.findIn K (.ref CT) "__class__" = some (some (.builtin "object.__class__")))
    (hm_CT : PySem.W.mroIn K CT (.type "object") = some true)
    (ki_CT : PySem.W.kitOne K (.ref CT) (.ref CT) = some true)
    (pg_CY : PySem.W.plainGet K CY Str.empty = true)
    (hd_CY : PySem.W.hasDictIn K CY = true)
    (po_CY : PySem.W.plainOver K CY = true)
    (sa_CY : PySem.W.findIn K (.ref CY) "__setattr__" = some (some (.builtin "object.__setattr__")))
    (ha_CY : PySem.W.findIn K (.ref CY) "__class__" = some (some (.builtin "object.__class__")))
    (hm_CY : PySem.W.mroIn K CY (.type "object") = some true)
    (ki_CY : PySem.W.kitOne K (.ref CY) (.ref CY) = some true)
    (g_c0 : PySem.W.nsIn K mainGlobals "InvalidEdition" = some (some (.ref c0)))
    (g_c1 : PySem.W.nsIn K mainGlobals "InvalidStore" = some (some (.ref c1)))
    (g_c4 : PySem.W.nsIn K mainGlobals "UnknownEdition" = some (some (.ref c4)))
    (g_c5 : PySem.W.nsIn K mainGlobals "UnknownName" = some (some (.ref c5)))
    (g_CL : PySem.W.nsIn K mainGlobals "InvalidLayout" = some (some (.ref CL)))
    (g_CV : PySem.W.nsIn K mainGlobals "InvalidDiversions" = some (some (.ref CV)))
    (ex_c0 : PySem.W.subIn K (.ref c0) (.type "BaseException") = some true)
    (nf_c0 : PySem.W.findIn K (.ref c0) "part" = some none)
    (ex_c1 : PySem.W.subIn K (.ref c1) (.type "BaseException") = some true)
    (nf_c1 : PySem.W.findIn K (.ref c1) "index" = some none)
    (ocl_c0 : K.lookup c0 = some (excClassObj nmc0 qc0 c0 Nc0 bsc0 bmc0 true snc0 subc0 abc0 colc0 ddc0 k0c0 k1c0 k2c0 k3c0 k5c0 "ValueError.__new__"))
    (ove_c0 : PySem.HandSPX.refsVE bmc0 = true)
    (osa_c0 : PySem.W.findIn K (.ref c0) "__setattr__" = some (some (.builtin "object.__setattr__")))
    (oty_c0 : PySem.W.typeIn K (.ref c0) = some (.type "type"))
    (okc_c0 : PySem.W.keepIn K (.ref c0) = true)
    (osb_c0 : PySem.W.mroIn K c0 (.ref c0) = some true)
    (osu_c0 : PySem.W.ks_superIn K c0 c0 "__init__" = some (some (.builtin "ValueError.__init__")))
    (osv_c0 : PySem.W.subIn K (.ref c0) (.type "ValueError") = some true)
    (o_op : PySem.W.nsIn K cStatics "thirdparty.any" = some none)
    (o_top : (l.prog.main.scope.names.lookup ("super" : Str)).isSome = false)
    (a_ie : PySem.W.findIn K (.ref c0) "__init__" = some (some (.ref f_ie)))
    (y_ie : PySem.W.typeIn K (.ref f_ie) = some (.type "function"))
    (l_ie : K.lookup f_ie = some ⟨oc_ie, od_ie, .func (PySem.W.ksFn "__init__" "InvalidEdition.__init__" (defArgs sIe) (defBody sIe) (defScope sIe) .none kV_ie dc_ie pm_ie an_ie (.ref cdI_ie) ct_ie ccI_ie), sl_ie⟩)
    (c_ie : PySem.W.codeIn K (.ref cdI_ie) "InvalidEdition.__init__" = true)
    (e_ie : K.lookup cdI_ie = some ⟨cclI_ie, cddI_ie, .fields vsI_ie, ccsI_ie⟩)
    (f2_ie : vsI_ie[2]? = some (.str fileI_ie tfI_ie))
    (fl_ie : ((l.prog.main.file : Str) == fileI_ie) = true)
    (ce_ie : K.lookup ccI_ie = some ⟨clI_ie, cldI_ie, .cell (some (.ref c0)), cslI_ie⟩)
    (ocl_c1 : K.lookup c1 = some (excClassObj nmc1 qc1 c1 Nc1 bsc1 bmc1 true snc1 subc1 abc1 colc1 ddc1 k0c1 k1c1 k2c1 k3c1 k5c1 "ValueError.__new__"))
    (ove_c1 : PySem.HandSPX.refsVE bmc1 = true)
    (osa_c1 : PySem.W.findIn K (.ref c1) "__setattr__" = some (some (.builtin "object.__setattr__")))
    (oty_c1 : PySem.W.typeIn K (.ref c1) = some (.type "type"))
    (okc_c1 : PySem.W.keepIn K (.ref c1) = true)
    (osb_c1 : PySem.W.mroIn K c1 (.ref c1) = some true)
    (osu_c1 : PySem.W.ks_superIn K c1 c1 "__init__" = some (some (.builtin "ValueError.__init__")))
    (osv_c1 : PySem.W.subIn K (.ref c1) (.type "ValueError") = some true)
    (a_is : PySem.W.findIn K (.ref c1) "__init__" = some (some (.ref f_is)))
    (y_is : PySem.W.typeIn K (.ref f_is) = some (.type "function"))
    (l_is : K.lookup f_is = some ⟨oc_is, od_is, .func (PySem.W.ksFn "__init__" "InvalidStore.__init__" (defArgs sIs) (defBody sIs) (defScope sIs) .none kV_is dc_is pm_is an_is (.ref cdI_is) ct_is ccI_is), sl_is⟩)
    (c_is : PySem.W.codeIn K (.ref cdI_is) "InvalidStore.__init__" = true)
    (e_is : K.lookup cdI_is = some ⟨cclI_is, cddI_is, .fields vsI_is, ccsI_is⟩)
    (f2_is : vsI_is[2]? = some (.str fileI_is tfI_is))
    (fl_is : ((l.prog.main.file : Str) == fileI_is) = true)
    (ce_is : K.lookup ccI_is = some ⟨clI_is, cldI_is, .cell (some (.ref c1)), cslI_is⟩)
    (ex_CL : PySem.W.subIn K (.ref CL) (.type "BaseException") = some true)
    (nfp_CL : PySem.W.findIn K (.ref CL) "part" = some none)
    (nfk_CL : PySem.W.findIn K (.ref CL) "key" = some none)
    (ocl_CL : K.lookup CL = some (excClassObj nmCL qCL CL NCL bsCL bmCL true snCL subCL abCL colCL ddCL k0CL k1CL k2CL k3CL k5CL "ValueError.__new__"))
    (ove_CL : PySem.HandSPX.refsVE bmCL = true)
    (osa_CL : PySem.W.findIn K (.ref CL) "__setattr__" = some (some (.builtin "object.__setattr__")))
    (oty_CL : PySem.W.typeIn K (.ref CL) = some (.type "type"))
    (okc_CL : PySem.W.keepIn K (.ref CL) = true)
    (osb_CL : PySem.W.mroIn K CL (.ref CL) = some true)
    (osu_CL : PySem.W.ks_superIn K CL CL "__init__" = some (some (.builtin "ValueError.__init__")))
    (osv_CL : PySem.W.subIn K (.ref CL) (.type "ValueError") = some true)
    (a_il : PySem.W.findIn K (.ref CL) "__init__" = some (some (.ref f_il)))
    (y_il : PySem.W.typeIn K (.ref f_il) = some (.type "function"))
    (l_il : K.lookup f_il = some ⟨oc_il, od_il, .func (PySem.W.ksFn "__init__" "InvalidLayout.__init__" (defArgs sIl) (defBody sIl) (defScope sIl) .none kV_il dc_il pm_il an_il (.ref cdI_il) ct_il ccI_il), sl_il⟩)
    (c_il : PySem.W.codeIn K (.ref cdI_il) "InvalidLayout.__init__" = true)
    (e_il : K.lookup cdI_il = some ⟨cclI_il, cddI_il, .fields vsI_il, ccsI_il⟩)
    (f2_il : vsI_il[2]? = some (.str fileI_il tfI_il))
    (fl_il : ((l.prog.main.file : Str) == fileI_il) = true)
    (ce_il : K.lookup ccI_il = some ⟨clI_il, cldI_il, .cell (some (.ref CL)), cslI_il⟩)
    (ex_CV : PySem.W.subIn K (.ref CV) (.type "BaseException") = some true)
    (nf_CV : PySem.W.findIn K (.ref CV) "path" = some none)
    (ocl_CV : K.lookup CV = some (excClassObj nmCV qCV CV NCV bsCV bmCV true snCV subCV abCV colCV ddCV k0CV k1CV k2CV k3CV k5CV "ValueError.__new__"))
    (ove_CV : PySem.HandSPX.refsVE bmCV = true)
    (osa_CV : PySem.W.findIn K (.ref CV) "__setattr__" = some (some (.builtin "object.__setattr__")))
    (oty_CV : PySem.W.typeIn K (.ref CV) = some (.type "type"))
    (okc_CV : PySem.W.keepIn K (.ref CV) = true)
    (osb_CV : PySem.W.mroIn K CV (.ref CV) = some true)
    (osu_CV : PySem.W.ks_superIn K CV CV "__init__" = some (some (.builtin "ValueError.__init__")))
    (osv_CV : PySem.W.subIn K (.ref CV) (.type "ValueError") = some true)
    (a_iv : PySem.W.findIn K (.ref CV) "__init__" = some (some (.ref f_iv)))
    (y_iv : PySem.W.typeIn K (.ref f_iv) = some (.type "function"))
    (l_iv : K.lookup f_iv = some ⟨oc_iv, od_iv, .func (PySem.W.ksFn "__init__" "InvalidDiversions.__init__" (defArgs sIv) (defBody sIv) (defScope sIv) .none kV_iv dc_iv pm_iv an_iv (.ref cdI_iv) ct_iv ccI_iv), sl_iv⟩)
    (c_iv : PySem.W.codeIn K (.ref cdI_iv) "InvalidDiversions.__init__" = true)
    (e_iv : K.lookup cdI_iv = some ⟨cclI_iv, cddI_iv, .fields vsI_iv, ccsI_iv⟩)
    (f2_iv : vsI_iv[2]? = some (.str fileI_iv tfI_iv))
    (fl_iv : ((l.prog.main.file : Str) == fileI_iv) = true)
    (ce_iv : K.lookup ccI_iv = some ⟨clI_iv, cldI_iv, .cell (some (.ref CV)), cslI_iv⟩)
    (ga_CV : PySem.W.findIn K (.ref CV) "__getattribute__" = some (some (.builtin "BaseException.__getattribute__")))
    (gg_CV : PySem.W.findIn K (.ref CV) "__getattr__" = some none)
    (hx_CV : PySem.W.hasDictIn K CV = true)
    (tt_CV : PySem.W.typeIn K (.ref CV) = some (.type "type"))
    (ss_CV : PySem.W.subIn K (.ref CV) (.ref CV) = some true)
    (exi_c4 : PySem.W.excIn K c4 [.type "ValueError", .type "Exception", .type "BaseException", .type "object"] "ValueError.__new__" = true)
    (ekc_c4 : PySem.W.keepIn K (.ref c4) = true)
    (eb_c4 : PySem.W.subIn K (.ref c4) (.type "BaseException") = some true)
    (et_c4 : PySem.W.typeIn K (.ref c4) = some (.type "type"))
    (exi_c5 : PySem.W.excIn K c5 [.type "ValueError", .type "Exception", .type "BaseException", .type "object"] "ValueError.__new__" = true)
    (ekc_c5 : PySem.W.keepIn K (.ref c5) = true)
    (eb_c5 : PySem.W.subIn K (.ref c5) (.type "BaseException") = some true)
    (et_c5 : PySem.W.typeIn K (.ref c5) = some (.type "type"))
    (hx_c4 : PySem.W.hasDictIn K c4 = true)
    (ss_c4 : PySem.W.subIn K (.ref c4) (.ref c4) = some true)
    (v_let : PySem.W.nsIn K mainGlobals "LETTERS" = some (some (.str LET tLet)))
    (v_lon : PySem.W.nsIn K mainGlobals "LONGEST_WORD" = some (some (.int 8 t_lon)))
    (v_lv : PySem.W.nsIn K mainGlobals "LEAST_VERSION" = some (some (.int 1 t_lv)))
    (v_mv : PySem.W.nsIn K mainGlobals "MOST_VERSION" = some (some (.int 99 t_mv)))
    (v_me : PySem.W.nsIn K mainGlobals "MOST_EDITIONS" = some (some (.int 12 t_me)))
    (v_mn : PySem.W.nsIn K mainGlobals "MOST_NAMES" = some (some (.int 4 t_mn)))
    (v_mf : PySem.W.nsIn K mainGlobals "MOST_FILES" = some (some (.int 6 t_mf)))
    (v_mc : PySem.W.nsIn K mainGlobals "MOST_CONTENT" = some (some (.int 99 t_mc)))
    (v_scr : PySem.W.nsIn K mainGlobals "SCRIPTS" = some (some (.ref aS)))
    (a_ei : PySem.W.findIn K (.ref C) "__init__" = some (some (.ref f_ei)))
    (l_ei : K.lookup f_ei = some ⟨oc_ei, od_ei, .func (PySem.W.fnOf "__init__" "Edition.__init__" (defArgs sEi) (defBody sEi) (defScope sEi) .none (.ref kD) dc_ei pm_ei an_ei cd_ei ct_ei), sl_ei⟩)
    (c_ei : PySem.W.codeIn K cd_ei "Edition.__init__" = true)
    (k_ei : PySem.W.keepIn K (.ref f_ei) = true)
    (i_ei : PySem.W.isFn K (.ref f_ei) = true)
    (mk_C : PySem.W.makesIn K C = true)
    (kc_C : PySem.W.keepIn K (.ref C) = true)
    (d_scripts : PySem.W.nsIn K kD "scripts" = some (some (.ref aS)))
    (d_needs : PySem.W.nsIn K kD "needs" = some (some (.ref z1)))
    (d_first : PySem.W.nsIn K kD "first" = some (some (.ref z2)))
    (d_against : PySem.W.nsIn K kD "against" = some (some (.ref z3)))
    (t_S : K.lookup aS = some ⟨.type "tuple", ddS, .seq #[.str "clean" q0, .str "enter" q1, .str "leave" q2, .str "setup" q3] nS, slS⟩)
    (t_1 : K.lookup z1 = some ⟨.type "tuple", dd1, .seq #[] n1, sl1⟩)
    (t_2 : K.lookup z2 = some ⟨.type "tuple", dd2, .seq #[] n2, sl2⟩)
    (t_3 : K.lookup z3 = some ⟨.type "tuple", dd3, .seq #[] n3, sl3⟩)
    (na_C_parts : PySem.W.findIn K (.ref C) "parts" = some none)
    (pa_g0 : PySem.W.findIn K (.ref C) "name" = some (some (.ref p_g0)))
    (pg_g0 : PySem.W.specialIn K (.ref p_g0) "__get__" = some (some (.builtin "property.__get__")))
    (pt_g0 : PySem.W.takesIn K (.ref p_g0) = some true)
    (pr_g0 : PySem.W.recIn K p_g0 "property" = some (.ref f_g0 :: rest_g0))
    (l_g0 : K.lookup f_g0 = some ⟨oc_g0, od_g0, .func (PySem.W.fnOf "name" "Edition.name" (defArgs (sGet 0)) (defBody (sGet 0)) (defScope (sGet 0)) .none kV_g0 dc_g0 pm_g0 an_g0 cd_g0 ct_g0), sl_g0⟩)
    (c_g0 : PySem.W.codeIn K cd_g0 "Edition.name" = true)
    (k_g0 : PySem.W.keepIn K (.ref f_g0) = true)
    (pa_g1 : PySem.W.findIn K (.ref C) "version" = some (some (.ref p_g1)))
    (pg_g1 : PySem.W.specialIn K (.ref p_g1) "__get__" = some (some (.builtin "property.__get__")))
    (pt_g1 : PySem.W.takesIn K (.ref p_g1) = some true)
    (pr_g1 : PySem.W.recIn K p_g1 "property" = some (.ref f_g1 :: rest_g1))
    (l_g1 : K.lookup f_g1 = some ⟨oc_g1, od_g1, .func (PySem.W.fnOf "version" "Edition.version" (defArgs (sGet 1)) (defBody (sGet 1)) (defScope (sGet 1)) .none kV_g1 dc_g1 pm_g1 an_g1 cd_g1 ct_g1), sl_g1⟩)
    (c_g1 : PySem.W.codeIn K cd_g1 "Edition.version" = true)
    (k_g1 : PySem.W.keepIn K (.ref f_g1) = true)
    (pa_g2 : PySem.W.findIn K (.ref C) "scripts" = some (some (.ref p_g2)))
    (pg_g2 : PySem.W.specialIn K (.ref p_g2) "__get__" = some (some (.builtin "property.__get__")))
    (pt_g2 : PySem.W.takesIn K (.ref p_g2) = some true)
    (pr_g2 : PySem.W.recIn K p_g2 "property" = some (.ref f_g2 :: rest_g2))
    (l_g2 : K.lookup f_g2 = some ⟨oc_g2, od_g2, .func (PySem.W.fnOf "scripts" "Edition.scripts" (defArgs (sGet 2)) (defBody (sGet 2)) (defScope (sGet 2)) .none kV_g2 dc_g2 pm_g2 an_g2 cd_g2 ct_g2), sl_g2⟩)
    (c_g2 : PySem.W.codeIn K cd_g2 "Edition.scripts" = true)
    (k_g2 : PySem.W.keepIn K (.ref f_g2) = true)
    (pa_g3 : PySem.W.findIn K (.ref C) "needs" = some (some (.ref p_g3)))
    (pg_g3 : PySem.W.specialIn K (.ref p_g3) "__get__" = some (some (.builtin "property.__get__")))
    (pt_g3 : PySem.W.takesIn K (.ref p_g3) = some true)
    (pr_g3 : PySem.W.recIn K p_g3 "property" = some (.ref f_g3 :: rest_g3))
    (l_g3 : K.lookup f_g3 = some ⟨oc_g3, od_g3, .func (PySem.W.fnOf "needs" "Edition.needs" (defArgs (sGet 3)) (defBody (sGet 3)) (defScope (sGet 3)) .none kV_g3 dc_g3 pm_g3 an_g3 cd_g3 ct_g3), sl_g3⟩)
    (c_g3 : PySem.W.codeIn K cd_g3 "Edition.needs" = true)
    (k_g3 : PySem.W.keepIn K (.ref f_g3) = true)
    (pa_g4 : PySem.W.findIn K (.ref C) "first" = some (some (.ref p_g4)))
    (pg_g4 : PySem.W.specialIn K (.ref p_g4) "__get__" = some (some (.builtin "property.__get__")))
    (pt_g4 : PySem.W.takesIn K (.ref p_g4) = some true)
    (pr_g4 : PySem.W.recIn K p_g4 "property" = some (.ref f_g4 :: rest_g4))
    (l_g4 : K.lookup f_g4 = some ⟨oc_g4, od_g4, .func (PySem.W.fnOf "first" "Edition.first" (defArgs (sGet 4)) (defBody (sGet 4)) (defScope (sGet 4)) .none kV_g4 dc_g4 pm_g4 an_g4 cd_g4 ct_g4), sl_g4⟩)
    (c_g4 : PySem.W.codeIn K cd_g4 "Edition.first" = true)
    (k_g4 : PySem.W.keepIn K (.ref f_g4) = true)
    (pa_g5 : PySem.W.findIn K (.ref C) "against" = some (some (.ref p_g5)))
    (pg_g5 : PySem.W.specialIn K (.ref p_g5) "__get__" = some (some (.builtin "property.__get__")))
    (pt_g5 : PySem.W.takesIn K (.ref p_g5) = some true)
    (pr_g5 : PySem.W.recIn K p_g5 "property" = some (.ref f_g5 :: rest_g5))
    (l_g5 : K.lookup f_g5 = some ⟨oc_g5, od_g5, .func (PySem.W.fnOf "against" "Edition.against" (defArgs (sGet 5)) (defBody (sGet 5)) (defScope (sGet 5)) .none kV_g5 dc_g5 pm_g5 an_g5 cd_g5 ct_g5), sl_g5⟩)
    (c_g5 : PySem.W.codeIn K cd_g5 "Edition.against" = true)
    (k_g5 : PySem.W.keepIn K (.ref f_g5) = true)
    (a_eq : PySem.W.findIn K (.ref C) "__eq__" = some (some (.ref f_eq)))
    (l_eq : K.lookup f_eq = some ⟨oc_eq, od_eq, .func (PySem.W.fnOf "__eq__" "Edition.__eq__" (defArgs sEq) (defBody sEq) (defScope sEq) .none kV_eq dc_eq pm_eq an_eq cd_eq ct_eq), sl_eq⟩)
    (c_eq : PySem.W.codeIn K cd_eq "Edition.__eq__" = true)
    (k_eq : PySem.W.keepIn K (.ref f_eq) = true)
    (i_eq : PySem.W.isFn K (.ref f_eq) = true)
    (x_C : K.lookup C = some (excClassObj nmC qC C NC bsC [.type "object"] hdC snC subC abC colC ddC k0C k1C k2C k3C k5C newC))
    (xq_C : PySem.W.nsIn K NC "__eq__" = some (some (.ref f_eq)))
    (xn_C : PySem.W.nsIn K NC "__ne__" = some none)
    (xo_C : PySem.W.nsOkIn K NC = true)
    (na_CT_table : PySem.W.findIn K (.ref CT) "table" = some none)
    (na_CT_numbers : PySem.W.findIn K (.ref CT) "numbers" = some none)
    (a_si : PySem.W.findIn K (.ref CT) "__init__" = some (some (.ref f_si)))
    (l_si : K.lookup f_si = some ⟨oc_si, od_si, .func (PySem.W.fnOf "__init__" "Store.__init__" (defArgs (sSt 0)) (defBody (sSt 0)) (defScope (sSt 0)) .none kV_si dc_si pm_si an_si cd_si ct_si), sl_si⟩)
    (c_si : PySem.W.codeIn K cd_si "Store.__init__" = true)
    (k_si : PySem.W.keepIn K (.ref f_si) = true)
    (i_si : PySem.W.isFn K (.ref f_si) = true)
    (mk_CT : PySem.W.makesIn K CT = true)
    (kc_CT : PySem.W.keepIn K (.ref CT) = true)
    (pa_sn : PySem.W.findIn K (.ref CT) "names" = some (some (.ref p_sn)))
    (pg_sn : PySem.W.specialIn K (.ref p_sn) "__get__" = some (some (.builtin "property.__get__")))
    (pt_sn : PySem.W.takesIn K (.ref p_sn) = some true)
    (pr_sn : PySem.W.recIn K p_sn "property" = some (.ref f_sn :: rest_sn))
    (l_sn : K.lookup f_sn = some ⟨oc_sn, od_sn, .func (PySem.W.fnOf "names" "Store.names" (defArgs (sSt 1)) (defBody (sSt 1)) (defScope (sSt 1)) .none kV_sn dc_sn pm_sn an_sn cd_sn ct_sn), sl_sn⟩)
    (c_sn : PySem.W.codeIn K cd_sn "Store.names" = true)
    (k_sn : PySem.W.keepIn K (.ref f_sn) = true)
    (a_sv : PySem.W.findIn K (.ref CT) "versions" = some (some (.ref f_sv)))
    (l_sv : K.lookup f_sv = some ⟨oc_sv, od_sv, .func (PySem.W.fnOf "versions" "Store.versions" (defArgs (sSt 2)) (defBody (sSt 2)) (defScope (sSt 2)) .none kV_sv dc_sv pm_sv an_sv cd_sv ct_sv), sl_sv⟩)
    (c_sv : PySem.W.codeIn K cd_sv "Store.versions" = true)
    (k_sv : PySem.W.keepIn K (.ref f_sv) = true)
    (i_sv : PySem.W.isFn K (.ref f_sv) = true)
    (a_sh : PySem.W.findIn K (.ref CT) "__contains__" = some (some (.ref f_sh)))
    (l_sh : K.lookup f_sh = some ⟨oc_sh, od_sh, .func (PySem.W.fnOf "__contains__" "Store.__contains__" (defArgs (sSt 4)) (defBody (sSt 4)) (defScope (sSt 4)) .none kV_sh dc_sh pm_sh an_sh cd_sh ct_sh), sl_sh⟩)
    (c_sh : PySem.W.codeIn K cd_sh "Store.__contains__" = true)
    (k_sh : PySem.W.keepIn K (.ref f_sh) = true)
    (i_sh : PySem.W.isFn K (.ref f_sh) = true)
    (a_se : PySem.W.findIn K (.ref CT) "__eq__" = some (some (.ref f_se)))
    (l_se : K.lookup f_se = some ⟨oc_se, od_se, .func (PySem.W.fnOf "__eq__" "Store.__eq__" (defArgs (sSt 7)) (defBody (sSt 7)) (defScope (sSt 7)) .none kV_se dc_se pm_se an_se cd_se ct_se), sl_se⟩)
    (c_se : PySem.W.codeIn K cd_se "Store.__eq__" = true)
    (k_se : PySem.W.keepIn K (.ref f_se) = true)
    (i_se : PySem.W.isFn K (.ref f_se) = true)
    (x_CT : K.lookup CT = some (excClassObj nmCT qCT CT NCT bsCT [.type "object"] hdCT snCT subCT abCT colCT ddCT k0CT k1CT k2CT k3CT k5CT newCT))
    (xq_CT : PySem.W.nsIn K NCT "__eq__" = some (some (.ref f_se)))
    (xn_CT : PySem.W.nsIn K NCT "__ne__" = some none)
    (xo_CT : PySem.W.nsOkIn K NCT = true)
    (na_CY_held_store : PySem.W.findIn K (.ref CY) "held_store" = some none)
    (na_CY_held_files : PySem.W.findIn K (.ref CY) "held_files" = some none)
    (na_CY_held_takes : PySem.W.findIn K (.ref CY) "held_takes" = some none)
    (a_li : PySem.W.findIn K (.ref CY) "__init__" = some (some (.ref f_li)))
    (l_li : K.lookup f_li = some ⟨oc_li, od_li, .func (PySem.W.fnOf "__init__" "Layout.__init__" (defArgs (sLy 0)) (defBody (sLy 0)) (defScope (sLy 0)) .none kV_li dc_li pm_li an_li cd_li ct_li), sl_li⟩)
    (c_li : PySem.W.codeIn K cd_li "Layout.__init__" = true)
    (k_li : PySem.W.keepIn K (.ref f_li) = true)
    (i_li : PySem.W.isFn K (.ref f_li) = true)
    (mk_CY : PySem.W.makesIn K CY = true)
    (kc_CY : PySem.W.keepIn K (.ref CY) = true)
    (pa_ls : PySem.W.findIn K (.ref CY) "store" = some (some (.ref p_ls)))
    (pg_ls : PySem.W.specialIn K (.ref p_ls) "__get__" = some (some (.builtin "property.__get__")))
    (pt_ls : PySem.W.takesIn K (.ref p_ls) = some true)
    (pr_ls : PySem.W.recIn K p_ls "property" = some (.ref f_ls :: rest_ls))
    (l_ls : K.lookup f_ls = some ⟨oc_ls, od_ls, .func (PySem.W.fnOf "store" "Layout.store" (defArgs (sLy 1)) (defBody (sLy 1)) (defScope (sLy 1)) .none kV_ls dc_ls pm_ls an_ls cd_ls ct_ls), sl_ls⟩)
    (c_ls : PySem.W.codeIn K cd_ls "Layout.store" = true)
    (k_ls : PySem.W.keepIn K (.ref f_ls) = true)
    (pa_lf : PySem.W.findIn K (.ref CY) "files" = some (some (.ref p_lf)))
    (pg_lf : PySem.W.specialIn K (.ref p_lf) "__get__" = some (some (.builtin "property.__get__")))
    (pt_lf : PySem.W.takesIn K (.ref p_lf) = some true)
    (pr_lf : PySem.W.recIn K p_lf "property" = some (.ref f_lf :: rest_lf))
    (l_lf : K.lookup f_lf = some ⟨oc_lf, od_lf, .func (PySem.W.fnOf "files" "Layout.files" (defArgs (sLy 2)) (defBody (sLy 2)) (defScope (sLy 2)) .none kV_lf dc_lf pm_lf an_lf cd_lf ct_lf), sl_lf⟩)
    (c_lf : PySem.W.codeIn K cd_lf "Layout.files" = true)
    (k_lf : PySem.W.keepIn K (.ref f_lf) = true)
    (pa_lt : PySem.W.findIn K (.ref CY) "takes" = some (some (.ref p_lt)))
    (pg_lt : PySem.W.specialIn K (.ref p_lt) "__get__" = some (some (.builtin "property.__get__")))
    (pt_lt : PySem.W.takesIn K (.ref p_lt) = some true)
    (pr_lt : PySem.W.recIn K p_lt "property" = some (.ref f_lt :: rest_lt))
    (l_lt : K.lookup f_lt = some ⟨oc_lt, od_lt, .func (PySem.W.fnOf "takes" "Layout.takes" (defArgs (sLy 3)) (defBody (sLy 3)) (defScope (sLy 3)) .none kV_lt dc_lt pm_lt an_lt cd_lt ct_lt), sl_lt⟩)
    (c_lt : PySem.W.codeIn K cd_lt "Layout.takes" = true)
    (k_lt : PySem.W.keepIn K (.ref f_lt) = true)
    (a_le : PySem.W.findIn K (.ref CY) "__eq__" = some (some (.ref f_le)))
    (l_le : K.lookup f_le = some ⟨oc_le, od_le, .func (PySem.W.fnOf "__eq__" "Layout.__eq__" (defArgs (sLy 4)) (defBody (sLy 4)) (defScope (sLy 4)) .none kV_le dc_le pm_le an_le cd_le ct_le), sl_le⟩)
    (c_le : PySem.W.codeIn K cd_le "Layout.__eq__" = true)
    (k_le : PySem.W.keepIn K (.ref f_le) = true)
    (i_le : PySem.W.isFn K (.ref f_le) = true)
    (x_CY : K.lookup CY = some (excClassObj nmCY qCY CY NCY bsCY [.type "object"] hdCY snCY subCY abCY colCY ddCY k0CY k1CY k2CY k3CY k5CY newCY))
    (xq_CY : PySem.W.nsIn K NCY "__eq__" = some (some (.ref f_le)))
    (xn_CY : PySem.W.nsIn K NCY "__ne__" = some none)
    (xo_CY : PySem.W.nsOkIn K NCY = true)
    : LawAtS l w K CX0 9 63 "_law_script" mg fa h := by
  have e := hfa.symm.trans (PySem.W.mg_of X G a_law)
  cases e
  have none_ : ∀ {x : Str}, PySem.W.nsIn K mainGlobals x = some none → mg x = none := fun h => PySem.W.mg_none_of X G h
  have F_word := fun_mk (st := sWord) l_word c_word k_word
  have B_word := F_word.binds (ps := ["text"]) fun _ _ _ _ _ _ us hl => match us, hl with | [_], _ => rfl
  have F_numb := fun_mk (st := sNumber) l_numb c_numb k_numb
  have B_numb := F_numb.binds (ps := ["value", "least", "most"]) fun _ _ _ _ _ _ us hl => match us, hl with | [_, _, _], _ => rfl
  have F_asc := fun_mk (st := sAscends) l_asc c_asc k_asc
  have B_asc := F_asc.binds (ps := ["values"]) fun _ _ _ _ _ _ us hl => match us, hl with | [_], _ => rfl
  have F_vers := fun_mk (st := sVersion) l_vers c_vers k_vers
  have B_vers := F_vers.binds (ps := ["value"]) fun _ _ _ _ _ _ us hl => match us, hl with | [_], _ => rfl
  have F_scri := fun_mk (st := sScripts) l_scri c_scri k_scri
  have B_scri := F_scri.binds (ps := ["values"]) fun _ _ _ _ _ _ us hl => match us, hl with | [_], _ => rfl
  have F_othe := fun_mk (st := sOthers) l_othe c_othe k_othe
  have B_othe := F_othe.binds (ps := ["values", "name"]) fun _ _ _ _ _ _ us hl => match us, hl with | [_, _], _ => rfl
  have F_pair := fun_mk (st := sPair) l_pair c_pair k_pair
  have B_pair := F_pair.binds (ps := ["value"]) fun _ _ _ _ _ _ us hl => match us, hl with | [_], _ => rfl
  have F_need := fun_mk (st := sNeeds) l_need c_need k_need
  have B_need := F_need.binds (ps := ["values", "name"]) fun _ _ _ _ _ _ us hl => match us, hl with | [_, _], _ => rfl
  have F_wron := fun_mk (st := sWrong) l_wron c_wron k_wron
  have B_wron := F_wron.binds (ps := ["name", "version", "scripts", "needs", "first", "against"]) fun _ _ _ _ _ _ us hl => match us, hl with | [_, _, _, _, _, _], _ => rfl
  have F_wi := fun_mk (st := sWi) l_wi c_wi k_wi
  have B_wi := F_wi.binds (ps := ["editions"]) fun _ _ _ _ _ _ us hl => match us, hl with | [_], _ => rfl
  have F_vn := fun_mk (st := sVn) l_vn c_vn k_vn
  have B_vn := F_vn.binds (ps := ["keys"]) fun _ _ _ _ _ _ us hl => match us, hl with | [_], _ => rfl
  have F_take := fun_mk (st := sTaken) l_take c_take k_take
  have B_take := F_take.binds (ps := ["_law_row", "_law_many"]) fun _ _ _ _ _ _ us hl => match us, hl with | [_, _], _ => rfl
  have F_fi := fun_mk (st := sFi) l_fi c_fi k_fi
  have B_fi := F_fi.binds (ps := ["value"]) fun _ _ _ _ _ _ us hl => match us, hl with | [_], _ => rfl
  have F_fs := fun_mk (st := sFs) l_fs c_fs k_fs
  have B_fs := F_fs.binds (ps := ["values"]) fun _ _ _ _ _ _ us hl => match us, hl with | [_], _ => rfl
  have F_tk := fun_mk (st := sTk) l_tk c_tk k_tk
  have B_tk := F_tk.binds (ps := ["values", "store", "name"]) fun _ _ _ _ _ _ us hl => match us, hl with | [_, _, _], _ => rfl
  have F_cl := fun_mk (st := sCl) l_cl c_cl k_cl
  have B_cl := F_cl.binds (ps := ["store", "files", "takes"]) fun _ _ _ _ _ _ us hl => match us, hl with | [_, _, _], _ => rfl
  have F_sto := fun_mk (st := sSto) l_sto c_sto k_sto
  have B_sto := F_sto.binds (ps := ["_law_row", "_law_most"]) fun _ _ _ _ _ _ us hl => match us, hl with | [_, _], _ => rfl
  have F_ek := fun_mk (st := sEk) l_ek c_ek k_ek
  have B_ek := F_ek.binds (ps := ["store"]) fun _ _ _ _ _ _ us hl => match us, hl with | [_], _ => rfl
  have F_xfo := fun_mk (st := sFo) l_xfo c_xfo k_xfo
  have B_xfo := F_xfo.binds (ps := ["layout", "key"]) fun _ _ _ _ _ _ us hl => match us, hl with | [_, _], _ => rfl
  have F_xpo := fun_mk (st := sPo) l_xpo c_xpo k_xpo
  have B_xpo := F_xpo.binds (ps := ["layout", "key"]) fun _ _ _ _ _ _ us hl => match us, hl with | [_, _], _ => rfl
  have F_xto := fun_mk (st := sTo) l_xto c_xto k_xto
  have B_xto := F_xto.binds (ps := ["layout", "key"]) fun _ _ _ _ _ _ us hl => match us, hl with | [_, _], _ => rfl
  have F_xcc := fun_mk (st := sCc) l_xcc c_xcc k_xcc
  have B_xcc := F_xcc.binds (ps := ["layout", "key", "other"]) fun _ _ _ _ _ _ us hl => match us, hl with | [_, _, _], _ => rfl
  have F_xcls := fun_mk (st := sCls) l_xcls c_xcls k_xcls
  have B_xcls := F_xcls.binds (ps := ["layout", "places"]) fun _ _ _ _ _ _ us hl => match us, hl with | [_, _], _ => rfl
  have F_xwp := fun_mk (st := sWp) l_xwp c_xwp k_xwp
  have B_xwp := F_xwp.binds (ps := ["layout", "diversions"]) fun _ _ _ _ _ _ us hl => match us, hl with | [_, _], _ => rfl
  have F_xcd := fun_mk (st := sCd) l_xcd c_xcd k_xcd
  have B_xcd := F_xcd.binds (ps := ["layout", "diversions"]) fun _ _ _ _ _ _ us hl => match us, hl with | [_, _], _ => rfl
  have F_xck := fun_mk (st := sCk) l_xck c_xck k_xck
  have B_xck := F_xck.binds (ps := ["layout", "key"]) fun _ _ _ _ _ _ us hl => match us, hl with | [_, _], _ => rfl
  have F_xpl := fun_mk (st := sPl) l_xpl c_xpl k_xpl
  have B_xpl := F_xpl.binds (ps := ["diversions", "name", "path"]) fun _ _ _ _ _ _ us hl => match us, hl with | [_, _, _], _ => rfl
  have F_xps := fun_mk (st := sPs) l_xps c_xps k_xps
  have B_xps := F_xps.binds (ps := ["layout", "diversions", "key"]) fun _ _ _ _ _ _ us hl => match us, hl with | [_, _, _], _ => rfl
  have F_xcr := fun_mk (st := sCrd) l_xcr c_xcr k_xcr
  have B_xcr := F_xcr.binds (ps := ["layout", "diversions"]) fun _ _ _ _ _ _ us hl => match us, hl with | [_, _], _ => rfl
  have F_xpd := fun_mk (st := sPd) l_xpd c_xpd k_xpd
  have B_xpd := F_xpd.binds (ps := ["layout", "diversions", "key"]) fun _ _ _ _ _ _ us hl => match us, hl with | [_, _, _], _ => rfl
  have F_xriv := fun_mk (st := sRiv) l_xriv c_xriv k_xriv
  have B_xriv := F_xriv.binds (ps := ["layout"]) fun _ _ _ _ _ _ us hl => match us, hl with | [_], _ => rfl
  have F_ks := fun_mk (st := sKs) l_ks c_ks k_ks
  have B_ks := F_ks.binds (ps := ["_law_store_here"]) fun _ _ _ _ _ _ us hl => match us, hl with | [_], _ => rfl
  have F_xwr := fun_mk (st := sWr) l_xwr c_xwr k_xwr
  have B_xwr := F_xwr.binds (ps := ["_law_layout_here", "_law_paths", "_law_put_here"]) fun _ _ _ _ _ _ us hl => match us, hl with | [_, _, _], _ => rfl
  have F_xcw := fun_mk (st := sCw) l_xcw c_xcw k_xcw
  have B_xcw := F_xcw.binds (ps := ["_law_layout_here", "_law_places"]) fun _ _ _ _ _ _ us hl => match us, hl with | [_, _], _ => rfl
  have F_xpt := fun_mk (st := sPt) l_xpt c_xpt k_xpt
  have B_xpt := F_xpt.binds (ps := ["_law_row", "_law_store_here"]) fun _ _ _ _ _ _ us hl => match us, hl with | [_, _], _ => rfl
  have F_xyl := fun_mk (st := sYl) l_xyl c_xyl k_xyl
  have B_xyl := F_xyl.binds (ps := ["_law_row", "_law_store_here"]) fun _ _ _ _ _ _ us hl => match us, hl with | [_, _], _ => rfl
  have cl_C : Cls K C := ⟨pg_C, hd_C, po_C, sa_C⟩
  have cl_CT : Cls K CT := ⟨pg_CT, hd_CT, po_CT, sa_CT⟩
  have cl_CY : Cls K CY := ⟨pg_CY, hd_CY, po_CY, sa_CY⟩
  have OX_c0 : OexC K c0 := ⟨⟨_, _, _, _, _, _, _, _, _, _, _, _, _, _, _, ocl_c0, ove_c0⟩, osa_c0, ex_c0, oty_c0, okc_c0⟩
  have SP_c0 : SupC l.prog K mg c0 := ⟨OX_c0, osb_c0, osu_c0, osv_c0, o_op, none_ n_super, o_top⟩
  have ER_ie : ErrFn l.prog K c0 "InvalidEdition.__init__" sIe f_ie _ := ⟨⟨_, _, _, _, _, _, _, _, _, _, _, _, _, _, _, _, _, _, _, rfl, l_ie, c_ie, e_ie, f2_ie, fl_ie, ce_ie⟩⟩
  have OX_c1 : OexC K c1 := ⟨⟨_, _, _, _, _, _, _, _, _, _, _, _, _, _, _, ocl_c1, ove_c1⟩, osa_c1, ex_c1, oty_c1, okc_c1⟩
  have SP_c1 : SupC l.prog K mg c1 := ⟨OX_c1, osb_c1, osu_c1, osv_c1, o_op, none_ n_super, o_top⟩
  have ER_is : ErrFn l.prog K c1 "InvalidStore.__init__" sIs f_is _ := ⟨⟨_, _, _, _, _, _, _, _, _, _, _, _, _, _, _, _, _, _, _, rfl, l_is, c_is, e_is, f2_is, fl_is, ce_is⟩⟩
  have OX_CL : OexC K CL := ⟨⟨_, _, _, _, _, _, _, _, _, _, _, _, _, _, _, ocl_CL, ove_CL⟩, osa_CL, ex_CL, oty_CL, okc_CL⟩
  have SP_CL : SupC l.prog K mg CL := ⟨OX_CL, osb_CL, osu_CL, osv_CL, o_op, none_ n_super, o_top⟩
  have ER_il : ErrFn l.prog K CL "InvalidLayout.__init__" sIl f_il _ := ⟨⟨_, _, _, _, _, _, _, _, _, _, _, _, _, _, _, _, _, _, _, rfl, l_il, c_il, e_il, f2_il, fl_il, ce_il⟩⟩
  have OX_CV : OexC K CV := ⟨⟨_, _, _, _, _, _, _, _, _, _, _, _, _, _, _, ocl_CV, ove_CV⟩, osa_CV, ex_CV, oty_CV, okc_CV⟩
  have SP_CV : SupC l.prog K mg CV := ⟨OX_CV, osb_CV, osu_CV, osv_CV, o_op, none_ n_super, o_top⟩
  have ER_iv : ErrFn l.prog K CV "InvalidDiversions.__init__" sIv f_iv _ := ⟨⟨_, _, _, _, _, _, _, _, _, _, _, _, _, _, _, _, _, _, _, rfl, l_iv, c_iv, e_iv, f2_iv, fl_iv, ce_iv⟩⟩
  have EC_c4 : ErrC K mg "UnknownEdition" c4 := ⟨PySem.W.mg_of X G g_c4, exi_c4, ekc_c4, eb_c4, et_c4⟩
  have EC_c5 : ErrC K mg "UnknownName" c5 := ⟨PySem.W.mg_of X G g_c5, exi_c5, ekc_c5, eb_c5, et_c5⟩
  have F_g0 := fun_mk (st := (sGet 0)) l_g0 c_g0 k_g0
  have B_g0 := F_g0.binds (ps := ["self"]) fun _ _ _ _ _ _ us hl => match us, hl with | [_], _ => rfl
  have P_g0 : PropOf K C "name" p_g0 f_g0 := ⟨pa_g0, pg_g0, pt_g0, ⟨_, pr_g0⟩⟩
  have F_g1 := fun_mk (st := (sGet 1)) l_g1 c_g1 k_g1
  have B_g1 := F_g1.binds (ps := ["self"]) fun _ _ _ _ _ _ us hl => match us, hl with | [_], _ => rfl
  have P_g1 : PropOf K C "version" p_g1 f_g1 := ⟨pa_g1, pg_g1, pt_g1, ⟨_, pr_g1⟩⟩
  have F_g2 := fun_mk (st := (sGet 2)) l_g2 c_g2 k_g2
  have B_g2 := F_g2.binds (ps := ["self"]) fun _ _ _ _ _ _ us hl => match us, hl with | [_], _ => rfl
  have P_g2 : PropOf K C "scripts" p_g2 f_g2 := ⟨pa_g2, pg_g2, pt_g2, ⟨_, pr_g2⟩⟩
  have F_g3 := fun_mk (st := (sGet 3)) l_g3 c_g3 k_g3
  have B_g3 := F_g3.binds (ps := ["self"]) fun _ _ _ _ _ _ us hl => match us, hl with | [_], _ => rfl
  have P_g3 : PropOf K C "needs" p_g3 f_g3 := ⟨pa_g3, pg_g3, pt_g3, ⟨_, pr_g3⟩⟩
  have F_g4 := fun_mk (st := (sGet 4)) l_g4 c_g4 k_g4
  have B_g4 := F_g4.binds (ps := ["self"]) fun _ _ _ _ _ _ us hl => match us, hl with | [_], _ => rfl
  have P_g4 : PropOf K C "first" p_g4 f_g4 := ⟨pa_g4, pg_g4, pt_g4, ⟨_, pr_g4⟩⟩
  have F_g5 := fun_mk (st := (sGet 5)) l_g5 c_g5 k_g5
  have B_g5 := F_g5.binds (ps := ["self"]) fun _ _ _ _ _ _ us hl => match us, hl with | [_], _ => rfl
  have P_g5 : PropOf K C "against" p_g5 f_g5 := ⟨pa_g5, pg_g5, pt_g5, ⟨_, pr_g5⟩⟩
  have F_eq := fun_mk (st := sEq) l_eq c_eq k_eq
  have B_eq := F_eq.binds (ps := ["self", "other"]) fun _ _ _ _ _ _ us hl => match us, hl with | [_, _], _ => rfl
  have OE_C : OwnEqC K C f_eq := ⟨⟨_, _, _, _, _, _, _, _, _, _, _, _, _, _, _, _, x_C, xq_C, xn_C, xo_C⟩, a_eq, i_eq⟩
  have F_si := fun_mk (st := (sSt 0)) l_si c_si k_si
  have B_si := F_si.binds (ps := ["self", "editions"]) fun _ _ _ _ _ _ us hl => match us, hl with | [_, _], _ => rfl
  have F_sn := fun_mk (st := (sSt 1)) l_sn c_sn k_sn
  have B_sn := F_sn.binds (ps := ["self"]) fun _ _ _ _ _ _ us hl => match us, hl with | [_], _ => rfl
  have P_sn : PropOf K CT "names" p_sn f_sn := ⟨pa_sn, pg_sn, pt_sn, ⟨_, pr_sn⟩⟩
  have F_sv := fun_mk (st := (sSt 2)) l_sv c_sv k_sv
  have B_sv := F_sv.binds (ps := ["self", "name"]) fun _ _ _ _ _ _ us hl => match us, hl with | [_, _], _ => rfl
  have F_sh := fun_mk (st := (sSt 4)) l_sh c_sh k_sh
  have B_sh := F_sh.binds (ps := ["self", "x"]) fun _ _ _ _ _ _ us hl => match us, hl with | [_, _], _ => rfl
  have F_se := fun_mk (st := (sSt 7)) l_se c_se k_se
  have B_se := F_se.binds (ps := ["self", "other"]) fun _ _ _ _ _ _ us hl => match us, hl with | [_, _], _ => rfl
  have OE_CT : OwnEqC K CT f_se := ⟨⟨_, _, _, _, _, _, _, _, _, _, _, _, _, _, _, _, x_CT, xq_CT, xn_CT, xo_CT⟩, a_se, i_se⟩
  have F_li := fun_mk (st := (sLy 0)) l_li c_li k_li
  have B_li := F_li.binds (ps := ["self", "store", "files", "takes"]) fun _ _ _ _ _ _ us hl => match us, hl with | [_, _, _, _], _ => rfl
  have F_ls := fun_mk (st := (sLy 1)) l_ls c_ls k_ls
  have B_ls := F_ls.binds (ps := ["self"]) fun _ _ _ _ _ _ us hl => match us, hl with | [_], _ => rfl
  have P_ls : PropOf K CY "store" p_ls f_ls := ⟨pa_ls, pg_ls, pt_ls, ⟨_, pr_ls⟩⟩
  have F_lf := fun_mk (st := (sLy 2)) l_lf c_lf k_lf
  have B_lf := F_lf.binds (ps := ["self"]) fun _ _ _ _ _ _ us hl => match us, hl with | [_], _ => rfl
  have P_lf : PropOf K CY "files" p_lf f_lf := ⟨pa_lf, pg_lf, pt_lf, ⟨_, pr_lf⟩⟩
  have F_lt := fun_mk (st := (sLy 3)) l_lt c_lt k_lt
  have B_lt := F_lt.binds (ps := ["self"]) fun _ _ _ _ _ _ us hl => match us, hl with | [_], _ => rfl
  have P_lt : PropOf K CY "takes" p_lt f_lt := ⟨pa_lt, pg_lt, pt_lt, ⟨_, pr_lt⟩⟩
  have F_le := fun_mk (st := (sLy 4)) l_le c_le k_le
  have B_le := F_le.binds (ps := ["self", "other"]) fun _ _ _ _ _ _ us hl => match us, hl with | [_, _], _ => rfl
  have OE_CY : OwnEqC K CY f_le := ⟨⟨_, _, _, _, _, _, _, _, _, _, _, _, _, _, _, _, x_CY, xq_CY, xn_CY, xo_CY⟩, a_le, i_le⟩
  have tS : ∀ H, SqT K H aS (SCR.map V.str) := fun H => .inr ⟨_, _, _, t_S, rfl, rfl, (by decide : 4 ≤ sizeLine), .cons ⟨_, rfl⟩ (.cons ⟨_, rfl⟩ (.cons ⟨_, rfl⟩ (.cons ⟨_, rfl⟩ .nil)))⟩
  have t1 : ∀ H, SqT K H z1 [] := fun H => .inr ⟨_, _, _, t_1, rfl, rfl, by decide, .nil⟩
  have t2 : ∀ H, SqT K H z2 [] := fun H => .inr ⟨_, _, _, t_2, rfl, rfl, by decide, .nil⟩
  have t3 : ∀ H, SqT K H z3 [] := fun H => .inr ⟨_, _, _, t_3, rfl, rfl, by decide, .nil⟩
  have TD0 : TxtD mg := ⟨none_ n_int, none_ n_len⟩
  have TC : TxtC K mg 0 0 0 0 0 0 0 := ⟨TD0, none_ n_isinstance, none_ n_str, none_ n_bool, none_ n_tuple, none_ n_all, none_ n_range, ⟨_, PySem.W.mg_of X G v_let⟩, ⟨_, PySem.W.mg_of X G v_lon⟩⟩
  have TE0 : TxtE K mg := ⟨TD0, none_ n_isinstance, none_ n_str, none_ n_bool, none_ n_tuple, none_ n_all, none_ n_range, ⟨_, PySem.W.mg_of X G v_lv⟩, ⟨_, PySem.W.mg_of X G v_mv⟩, ⟨_, PySem.W.mg_of X G v_scr, tS⟩⟩
  have TG : TxtG l.prog K mg C c0 f_ie _ := ⟨cl_C, na_C_parts, PySem.W.mg_of X G g_C, PySem.W.mg_of X G g_c0, SP_c0, nf_c0, a_ie, y_ie, ER_ie, Binds.all fun us hl => match us, hl with | [_, _], _ => rfl⟩
  have TI : TxtI K mg C := ⟨cl_C, na_C_parts, PySem.W.mg_of X G g_C, none_ n_isinstance, ha_C, hn, ht, hm_C, ki_C⟩
  have TT : TxtT K mg CT c5 c4 := ⟨cl_CT, na_CT_table, na_CT_numbers, none_ n_tuple, none_ n_len, none_ n_isinstance, none_ n_bool, PySem.W.mg_of X G g_CT, EC_c5, EC_c4, ha_CT, hn, ht, hm_CT, ki_CT⟩
  have FE : FunD K "__init__" "Edition.__init__" (defArgs sEi) (defBody sEi) (defScope sEi) [] [("scripts", .ref aS), ("needs", .ref z1), ("first", .ref z2), ("against", .ref z3)] f_ei _ :=
    ⟨⟨_, _, _, _, _, _, _, _, _, _, rfl, l_ei, c_ei, .inl ⟨rfl, rfl⟩, .inr ⟨kD, rfl, fun q hq => by
      simp only [List.mem_cons, List.not_mem_nil, or_false] at hq
      rcases hq with rfl | rfl | rfl | rfl
      · exact ⟨_, d_scripts, rfl⟩
      · exact ⟨_, d_needs, rfl⟩
      · exact ⟨_, d_first, rfl⟩
      · exact ⟨_, d_against, rfl⟩⟩⟩, k_ei⟩
  refine ⟨PySem.W.fnOf "law" "law" (defArgs sLaw) (defBody sLaw) (defScope sLaw) .none kV_law dc_law pm_law an_law (.ref cLaw) ct_law, [], spLaw K, fun p hp => (nomatch hp), fun p hp => (nomatch hp), fun p hp => (nomatch hp), fun s v => .of_eq rfl, fun H a ns hl _ hT hS => ⟨a, ns, rfl, hS, hl, fun _ => rfl⟩, fun base KB GB TB => ?_⟩
  · have dN : Def l.prog w K mg base 1 "is_number" _ spNumber := ⟨_, _, ok_number F_numb TE0, PySem.W.mg_of X G a_numb, k_numb, B_numb⟩
    have dV : Def l.prog w K mg base 2 "is_version" _ spVersion := ⟨_, _, ok_version F_vers TE0 dN, PySem.W.mg_of X G a_vers, k_vers, B_vers⟩
    have dA : Def l.prog w K mg base 1 "ascends" _ (spAsc K) := ⟨_, _, ok_asc F_asc TE0, PySem.W.mg_of X G a_asc, k_asc, B_asc⟩
    have dW : Def l.prog w K mg base 1 "is_word" _ spWord := ⟨_, _, ok_word F_word TC, PySem.W.mg_of X G a_word, k_word, B_word⟩
    have dS : Def l.prog w K mg base 2 "are_scripts" _ (spScripts K) := ⟨_, _, ok_scripts F_scri TE0 dA, PySem.W.mg_of X G a_scri, k_scri, B_scri⟩
    have dO : Def l.prog w K mg base 2 "are_other_names" _ (spOthers K) := ⟨_, _, ok_others F_othe TE0 dA dW, PySem.W.mg_of X G a_othe, k_othe, B_othe⟩
    have dPr : Def l.prog w K mg base 3 "is_pair_with_version" _ (spPair K) := ⟨_, _, ok_pair F_pair TE0 dV, PySem.W.mg_of X G a_pair, k_pair, B_pair⟩
    have dNe : Def l.prog w K mg base 4 "are_needs" _ (spNeeds K) := ⟨_, _, ok_needs F_need TE0 dPr dO, PySem.W.mg_of X G a_need, k_need, B_need⟩
    have dWr : Def l.prog w K mg base 5 "wrong_part" _ (spWrong K) := ⟨_, _, ok_wrong F_wron TE0 ⟨dW, dV, dS, dNe, dO⟩, PySem.W.mg_of X G a_wron, k_wron, B_wron⟩
    have EI : EdF l.prog w K mg base C c0 f_ei _ aS z1 z2 z3 := ⟨ok_ei FE TG dWr, FE, ⟨mk_C, a_ei, i_ei, kc_C⟩, PySem.W.mg_of X G g_C, tS, t1, t2, t3⟩
    have eqF : EqF l.prog w K mg base C := ⟨_, _, ok_eq F_eq TI, OE_C, B_eq⟩
    have D : EdAll l.prog w K mg base C c0 := ⟨⟨_, _, _, _, _, _, EI⟩, eqF, cl_C, ⟨_, _, _, P_g0, ok_get (by decide) F_g0 cl_C na_C_parts, B_g0⟩, ⟨_, _, _, P_g1, ok_get (by decide) F_g1 cl_C na_C_parts, B_g1⟩, ⟨_, _, _, P_g2, ok_get (by decide) F_g2 cl_C na_C_parts, B_g2⟩, ⟨_, _, _, P_g3, ok_get (by decide) F_g3 cl_C na_C_parts, B_g3⟩, ⟨_, _, _, P_g4, ok_get (by decide) F_g4 cl_C na_C_parts, B_g4⟩, ⟨_, _, _, P_g5, ok_get (by decide) F_g5 cl_C na_C_parts, B_g5⟩⟩
    have dT : Def l.prog w K mg base 1 "_law_taken" _ (spTaken K) := ⟨_, _, ok_taken F_take TD0, PySem.W.mg_of X G a_take, k_take, B_take⟩
    have TW : TxtW l.prog w K mg base C := ⟨none_ n_set, none_ n_len, none_ n_enumerate, ⟨_, PySem.W.mg_of X G v_me⟩, ⟨_, PySem.W.mg_of X G v_mn⟩, D.p0, D.p1, cl_C⟩
    have dWi : Def l.prog w K mg base 3 "wrong_index" _ (spWi K C) := ⟨_, _, ok_wi F_wi TW, PySem.W.mg_of X G a_wi, k_wi, B_wi⟩
    have dVn : Def l.prog w K mg base 1 "versions_by_name" _ (spVn K) := ⟨_, _, ok_vn F_vn (none_ n_sorted), PySem.W.mg_of X G a_vn, k_vn, B_vn⟩
    have TS : TxtS l.prog w K mg base C CT c1 f_is _ := ⟨cl_CT, na_CT_table, na_CT_numbers, none_ n_list, PySem.W.mg_of X G g_c1, SP_c1, nf_c1, a_is, y_is, ER_is, (Binds.all fun us hl => match us, hl with | [_, _], _ => rfl), D.p0, D.p1, cl_C, dWi, dVn⟩
    have FH := ok_has (P := l.prog) (w := w) (base := base) F_sh TT
    have HF : HasF l.prog w K mg base CT := ⟨_, _, ⟨a_sh, i_sh⟩, FH, B_sh⟩
    have NF : NamF l.prog w K mg base CT := ⟨cl_CT, ⟨_, _, _, P_sn, ok_names F_sn TT, B_sn⟩⟩
    have MS : MkSt l.prog w K mg base C CT c1 := ⟨⟨_, _, ⟨mk_CT, a_si, i_si, kc_CT⟩, ok_si F_si TS, B_si⟩, PySem.W.mg_of X G g_CT⟩
    have SV : SvF l.prog w K mg base CT c5 := ⟨cl_CT, _, _, ⟨a_sv, i_sv, k_sv⟩, ok_vers F_sv TT, B_sv⟩
    have dSto : Def l.prog w K mg base 8 "_law_store" _ (spSto K C CT) := ⟨_, _, ok_sto F_sto (none_ n_tuple) dT EI MS, PySem.W.mg_of X G a_sto, k_sto, B_sto⟩
    have dAL : Def l.prog w K mg base 1 "ascends" _ (spAscL K) := ⟨_, _, ok_ascL F_asc TE0, PySem.W.mg_of X G a_asc, k_asc, B_asc⟩
    have dFi : Def l.prog w K mg base 2 "is_file" _ (spFi K) := ⟨_, _, ok_fi F_fi TE0 ⟨_, PySem.W.mg_of X G v_mc⟩ dW dN, PySem.W.mg_of X G a_fi, k_fi, B_fi⟩
    have dFs : Def l.prog w K mg base 3 "are_files" _ (spFs K) := ⟨_, _, ok_fs F_fs TE0 ⟨_, PySem.W.mg_of X G v_mf⟩ dFi dAL, PySem.W.mg_of X G a_fs, k_fs, B_fs⟩
    have dTk : Def l.prog w K mg base 3 "are_takes" _ (spTk K CT) := ⟨_, _, ok_tk F_tk TE0 NF dO, PySem.W.mg_of X G a_tk, k_tk, B_tk⟩
    have TL : TxtL l.prog w K mg base C CT CL f_il _ := ⟨none_ n_min, HF, dFs, dTk, PySem.W.mg_of X G g_CL, SP_CL, nfp_CL, nfk_CL, a_il, y_il, ER_il, Binds.all fun us hl => match us, hl with | [_, _, _], _ => rfl⟩
    have dCl : DefX l.prog w K mg base 4 "check_layout" _ (spCl K CT CL) := ⟨_, _, ok_cl F_cl TL, PySem.W.mg_of X G a_cl, k_cl, B_cl⟩
    have TLy : TxtLy K CY := ⟨cl_CY, na_CY_held_store, na_CY_held_files, na_CY_held_takes⟩
    have SE : StEqF l.prog w K mg base CT := ⟨_, _, OE_CT, ok_steq F_se TT, B_se⟩
    have TLe : TxtLe K mg CY := ⟨TLy, none_ n_isinstance, PySem.W.mg_of X G g_CY, ha_CY, hn, ht, hm_CY, ki_CY⟩
    have LF : LayF l.prog w K mg base CT CY CL := ⟨cl_CY, ⟨_, _, ok_li F_li TLy (none_ n_sorted) dCl, ⟨mk_CY, a_li, i_li, kc_CY⟩, B_li, PySem.W.mg_of X G g_CY⟩, ⟨_, _, _, P_lf, ok_lf F_lf TLy, B_lf⟩, ⟨_, _, _, P_lt, ok_lt F_lt TLy, B_lt⟩, ⟨_, _, _, P_ls, ok_ls F_ls TLy, B_ls⟩, ⟨_, _, OE_CY, ok_leq F_le TLe SE, B_le⟩, SE⟩
    have YP : LayP l.prog w K mg base CY := ⟨cl_CY, ⟨_, _, _, P_lf, ok_lf F_lf TLy, B_lf⟩, ⟨_, _, _, P_lt, ok_lt F_lt TLy, B_lt⟩, ⟨_, _, _, P_ls, ok_ls F_ls TLy, B_ls⟩⟩
    have dEk : Def l.prog w K mg base 3 "edition_keys" _ (spEk CT) := ⟨_, _, ok_ek F_ek NF SV, PySem.W.mg_of X G a_ek, k_ek, B_ek⟩
    have dFo : Def l.prog w K mg base 3 "files_of" _ (spFo K CT CY) := ⟨_, _, ok_fo F_xfo YP, PySem.W.mg_of X G a_xfo, k_xfo, B_xfo⟩
    have dPo : Def l.prog w K mg base 4 "paths_of" _ (spPo K CT CY) := ⟨_, _, ok_po F_xpo dFo, PySem.W.mg_of X G a_xpo, k_xpo, B_xpo⟩
    have dTo : Def l.prog w K mg base 3 "takes_of" _ (spTo K CT CY) := ⟨_, _, ok_to F_xto YP, PySem.W.mg_of X G a_xto, k_xto, B_xto⟩
    have dCc : Def l.prog w K mg base 4 "can_clash" _ (spCc K CT CY) := ⟨_, _, ok_cc F_xcc dTo, PySem.W.mg_of X G a_xcc, k_xcc, B_xcc⟩
    have dCls : Def l.prog w K mg base 5 "clashes" _ (spCls K CT CY) := ⟨_, _, ok_cls F_xcls (none_ n_sorted) YP dEk dCc, PySem.W.mg_of X G a_xcls, k_xcls, B_xcls⟩
    have dClt : Def l.prog w K mg base 5 "clashes" _ (spClt K CT CY) := ⟨_, _, ok_clt F_xcls (none_ n_sorted) YP dEk dCc, PySem.W.mg_of X G a_xcls, k_xcls, B_xcls⟩
    have dRiv : Def l.prog w K mg base 6 "rivals" _ (spRiv K CT CY) := ⟨_, _, ok_riv F_xriv YP dEk dPo dCls, PySem.W.mg_of X G a_xriv, k_xriv, B_xriv⟩
    have dWp : Def l.prog w K mg base 5 "wrong_path" _ (spWp K CT CY) := ⟨_, _, ok_wp F_xwp (none_ n_sorted) YP NF dEk dPo, PySem.W.mg_of X G a_xwp, k_xwp, B_xwp⟩
    have TV : TxtV l.prog w K mg base CV f_iv _ := ⟨PySem.W.mg_of X G g_CV, SP_CV, nf_CV, a_iv, y_iv, ER_iv, Binds.all fun us hl => match us, hl with | [_, _], _ => rfl⟩
    have dCv : DefX l.prog w K mg base 6 "check_diversions" _ (spCv K CT CY CV) := ⟨_, _, ok_cv F_xcd TV dWp, PySem.W.mg_of X G a_xcd, k_xcd, B_xcd⟩
    have dCvN : DefN l.prog w K mg base 6 "check_diversions" _ (spCv K CT CY CV) := ⟨_, _, ok_cvN F_xcd TV dWp, PySem.W.mg_of X G a_xcd, k_xcd, B_xcd⟩
    have dPl : Def l.prog w K mg base 1 "place_of" _ (spPl K) := ⟨_, _, ok_pl F_xpl, PySem.W.mg_of X G a_xpl, k_xpl, B_xpl⟩
    have dPs : Def l.prog w K mg base 5 "places_of" _ (spPs K CT CY) := ⟨_, _, ok_ps F_xps (none_ n_tuple) (none_ n_sorted) dPo dPl, PySem.W.mg_of X G a_xps, k_xps, B_xps⟩
    have dCr : DefX l.prog w K mg base 7 "crowded" _ (spCrd K CT CY CV) := ⟨_, _, ok_crd F_xcr YP dEk dCv dPs dClt, PySem.W.mg_of X G a_xcr, k_xcr, B_xcr⟩
    have dCrN : DefN l.prog w K mg base 7 "crowded" _ (spCrd K CT CY CV) := ⟨_, _, ok_crdN F_xcr YP dEk dCvN dPs dClt, PySem.W.mg_of X G a_xcr, k_xcr, B_xcr⟩
    have dCk : DefX l.prog w K mg base 3 "check_key" _ (spCk K CT CY c4) := ⟨_, _, ok_ck F_xck YP HF EC_c4, PySem.W.mg_of X G a_xck, k_xck, B_xck⟩
    have dPd : DefX l.prog w K mg base 7 "placed" _ (spPd K CT CY CV c4) := ⟨_, _, ok_pd F_xpd dCv dCk dPs, PySem.W.mg_of X G a_xpd, k_xpd, B_xpd⟩
    have dKs : Def l.prog w K mg base 3 "_law_keys" _ (spKs CT) := ⟨_, _, ok_ks F_ks NF SV, PySem.W.mg_of X G a_ks, k_ks, B_ks⟩
    have dPt : Def l.prog w K mg base 4 "_law_put" _ (spPt K CT) := ⟨_, _, ok_pt F_xpt (none_ n_len) (none_ n_int) dT NF, PySem.W.mg_of X G a_xpt, k_xpt, B_xpt⟩
    have dWr2 : Def l.prog w K mg base 3 "_law_wrong" _ (spWr K CT CY) := ⟨_, _, ok_wr F_xwr (none_ n_sorted) YP NF, PySem.W.mg_of X G a_xwr, k_xwr, B_xwr⟩
    have dCw : Def l.prog w K mg base 5 "_law_crowded" _ (spCw K CT CY) := ⟨_, _, ok_cw F_xcw (none_ n_sorted) YP dKs, PySem.W.mg_of X G a_xcw, k_xcw, B_xcw⟩
    have dYl : Def l.prog w K mg base 7 "_law_layout" _ (spYl K CT CY) := ⟨_, _, ok_yl F_xyl (none_ n_tuple) dT NF SV LF, PySem.W.mg_of X G a_xyl, k_xyl, B_xyl⟩
    exact ok_law (CN := c5) l_law c_law ⟨none_ n_range, none_ n_sorted, none_ n_tuple, PySem.W.mg_of X G g_c4, PySem.W.exm_ref eb_c4 hx_c4 et_c4 ss_c4, ⟨PySem.W.mg_of X G g_CV, ⟨ga_CV, gg_CV, ex_CV, hx_CV⟩, nf_CV, PySem.W.exm_ref ex_CV hx_CV tt_CV ss_CV⟩, dT, dSto, dYl, dKs, dPt, dWr2, dCw, YP, dCr, dCrN, dPd, dRiv⟩
end Half

open PySem PySem.W PyProof.Rows
set_option maxRecDepth 100000 in
set_option maxHeartbeats 0 in
theorem PySem.Challenge.cw_halfsetup_k34_diversions_by_places_holds : PySem.Challenge.rw_halfsetup_k34_diversions_by_places.Holds := by
  w_on; o_law; k_head; (case hw => w_witness2)
  k_fill
  refine LamX.walk_ofTs (l := PySem.Challenge.rw_halfsetup_k34_diversions_by_places) (n := 63) (k := 9) (x := "_law_script") (CX := fun _ => L2.CX0) rfl (by decide) rfl ⟨rfl, by decide, by decide⟩ (fun w h Y => PySem.W.kIn_of Y) ?F (fun _ _ _ _ _ z => z)
  case F =>
    intro w mg fa h Y KX G hmg
    refine' Half.all_mk KX G hmg ?n_int ?n_len ?n_isinstance ?n_str ?n_bool ?n_tuple ?n_all ?n_range ?n_ValueError ?n_super ?n_set ?n_sorted ?n_list ?n_enumerate ?n_dict ?n_any ?n_min ?n_max ?a_word ?l_word ?c_word ?k_word ?a_numb ?l_numb ?c_numb ?k_numb ?a_asc ?l_asc ?c_asc ?k_asc ?a_vers ?l_vers ?c_vers ?k_vers ?a_scri ?l_scri ?c_scri ?k_scri ?a_othe ?l_othe ?c_othe ?k_othe ?a_pair ?l_pair ?c_pair ?k_pair ?a_need ?l_need ?c_need ?k_need ?a_wron ?l_wron ?c_wron ?k_wron ?a_wi ?l_wi ?c_wi ?k_wi ?a_vn ?l_vn ?c_vn ?k_vn ?a_take ?l_take ?c_take ?k_take ?a_fi ?l_fi ?c_fi ?k_fi ?a_fs ?l_fs ?c_fs ?k_fs ?a_tk ?l_tk ?c_tk ?k_tk ?a_cl ?l_cl ?c_cl ?k_cl ?a_sto ?l_sto ?c_sto ?k_sto ?a_ek ?l_ek ?c_ek ?k_ek ?a_xfo ?l_xfo ?c_xfo ?k_xfo ?a_xpo ?l_xpo ?c_xpo ?k_xpo ?a_xto ?l_xto ?c_xto ?k_xto ?a_xcc ?l_xcc ?c_xcc ?k_xcc ?a_xcls ?l_xcls ?c_xcls ?k_xcls ?a_xwp ?l_xwp ?c_xwp ?k_xwp ?a_xcd ?l_xcd ?c_xcd ?k_xcd ?a_xck ?l_xck ?c_xck ?k_xck ?a_xpl ?l_xpl ?c_xpl ?k_xpl ?a_xps ?l_xps ?c_xps ?k_xps ?a_xcr ?l_xcr ?c_xcr ?k_xcr ?a_xpd ?l_xpd ?c_xpd ?k_xpd ?a_xriv ?l_xriv ?c_xriv ?k_xriv ?a_ks ?l_ks ?c_ks ?k_ks ?a_xwr ?l_xwr ?c_xwr ?k_xwr ?a_xcw ?l_xcw ?c_xcw ?k_xcw ?a_xpt ?l_xpt ?c_xpt ?k_xpt ?a_xyl ?l_xyl ?c_xyl ?k_xyl ?a_law ?l_law ?c_law ?k_law ?g_C ?g_CT ?g_CY ?pg_C ?hd_C ?po_C ?sa_C ?ha_C ?hm_C ?ki_C ?hn ?ht ?pg_CT ?hd_CT ?po_CT ?sa_CT ?ha_CT ?hm_CT ?ki_CT ?pg_CY ?hd_CY ?po_CY ?sa_CY ?ha_CY ?hm_CY ?ki_CY ?g_c0 ?g_c1 ?g_c4 ?g_c5 ?g_CL ?g_CV ?ex_c0 ?nf_c0 ?ex_c1 ?nf_c1 ?ocl_c0 ?ove_c0 ?osa_c0 ?oty_c0 ?okc_c0 ?osb_c0 ?osu_c0 ?osv_c0 ?o_op ?o_top ?a_ie ?y_ie ?l_ie ?c_ie ?e_ie ?f2_ie ?fl_ie ?ce_ie ?ocl_c1 ?ove_c1 ?osa_c1 ?oty_c1 ?okc_c1 ?osb_c1 ?osu_c1 ?osv_c1 ?a_is ?y_is ?l_is ?c_is ?e_is ?f2_is ?fl_is ?ce_is ?ex_CL ?nfp_CL ?nfk_CL ?ocl_CL ?ove_CL ?osa_CL ?oty_CL ?okc_CL ?osb_CL ?osu_CL ?osv_CL ?a_il ?y_il ?l_il ?c_il ?e_il ?f2_il ?fl_il ?ce_il ?ex_CV ?nf_CV ?ocl_CV ?ove_CV ?osa_CV ?oty_CV ?okc_CV ?osb_CV ?osu_CV ?osv_CV ?a_iv ?y_iv ?l_iv ?c_iv ?e_iv ?f2_iv ?fl_iv ?ce_iv ?ga_CV ?gg_CV ?hx_CV ?tt_CV ?ss_CV ?exi_c4 ?ekc_c4 ?eb_c4 ?et_c4 ?exi_c5 ?ekc_c5 ?eb_c5 ?et_c5 ?hx_c4 ?ss_c4 ?v_let ?v_lon ?v_lv ?v_mv ?v_me ?v_mn ?v_mf ?v_mc ?v_scr ?a_ei ?l_ei ?c_ei ?k_ei ?i_ei ?mk_C ?kc_C ?d_scripts ?d_needs ?d_first ?d_against ?t_S ?t_1 ?t_2 ?t_3 ?na_C_parts ?pa_g0 ?pg_g0 ?pt_g0 ?pr_g0 ?l_g0 ?c_g0 ?k_g0 ?pa_g1 ?pg_g1 ?pt_g1 ?pr_g1 ?l_g1 ?c_g1 ?k_g1 ?pa_g2 ?pg_g2 ?pt_g2 ?pr_g2 ?l_g2 ?c_g2 ?k_g2 ?pa_g3 ?pg_g3 ?pt_g3 ?pr_g3 ?l_g3 ?c_g3 ?k_g3 ?pa_g4 ?pg_g4 ?pt_g4 ?pr_g4 ?l_g4 ?c_g4 ?k_g4 ?pa_g5 ?pg_g5 ?pt_g5 ?pr_g5 ?l_g5 ?c_g5 ?k_g5 ?a_eq ?l_eq ?c_eq ?k_eq ?i_eq ?x_C ?xq_C ?xn_C ?xo_C ?na_CT_table ?na_CT_numbers ?a_si ?l_si ?c_si ?k_si ?i_si ?mk_CT ?kc_CT ?pa_sn ?pg_sn ?pt_sn ?pr_sn ?l_sn ?c_sn ?k_sn ?a_sv ?l_sv ?c_sv ?k_sv ?i_sv ?a_sh ?l_sh ?c_sh ?k_sh ?i_sh ?a_se ?l_se ?c_se ?k_se ?i_se ?x_CT ?xq_CT ?xn_CT ?xo_CT ?na_CY_held_store ?na_CY_held_files ?na_CY_held_takes ?a_li ?l_li ?c_li ?k_li ?i_li ?mk_CY ?kc_CY ?pa_ls ?pg_ls ?pt_ls ?pr_ls ?l_ls ?c_ls ?k_ls ?pa_lf ?pg_lf ?pt_lf ?pr_lf ?l_lf ?c_lf ?k_lf ?pa_lt ?pg_lt ?pt_lt ?pr_lt ?l_lt ?c_lt ?k_lt ?a_le ?l_le ?c_le ?k_le ?i_le ?x_CY ?xq_CY ?xn_CY ?xo_CY
    (case n_int => k_is)
    (case n_len => k_is)
    (case n_isinstance => k_is)
    (case n_str => k_is)
    (case n_bool => k_is)
    (case n_tuple => k_is)
    (case n_all => k_is)
    (case n_range => k_is)
    (case n_ValueError => k_is)
    (case n_super => k_is)
    (case n_set => k_is)
    (case n_sorted => k_is)
    (case n_list => k_is)
    (case n_enumerate => k_is)
    (case n_dict => k_is)
    (case n_any => k_is)
    (case n_min => k_is)
    (case n_max => k_is)
    (case a_word => k_is)
    (case l_word => k_is)
    (case c_word => k_is)
    (case k_word => k_is)
    (case a_numb => k_is)
    (case l_numb => k_is)
    (case c_numb => k_is)
    (case k_numb => k_is)
    (case a_asc => k_is)
    (case l_asc => k_is)
    (case c_asc => k_is)
    (case k_asc => k_is)
    (case a_vers => k_is)
    (case l_vers => k_is)
    (case c_vers => k_is)
    (case k_vers => k_is)
    (case a_scri => k_is)
    (case l_scri => k_is)
    (case c_scri => k_is)
    (case k_scri => k_is)
    (case a_othe => k_is)
    (case l_othe => k_is)
    (case c_othe => k_is)
    (case k_othe => k_is)
    (case a_pair => k_is)
    (case l_pair => k_is)
    (case c_pair => k_is)
    (case k_pair => k_is)
    (case a_need => k_is)
    (case l_need => k_is)
    (case c_need => k_is)
    (case k_need => k_is)
    (case a_wron => k_is)
    (case l_wron => k_is)
    (case c_wron => k_is)
    (case k_wron => k_is)
    (case a_wi => k_is)
    (case l_wi => k_is)
    (case c_wi => k_is)
    (case k_wi => k_is)
    (case a_vn => k_is)
    (case l_vn => k_is)
    (case c_vn => k_is)
    (case k_vn => k_is)
    (case a_take => k_is)
    (case l_take => k_is)
    (case c_take => k_is)
    (case k_take => k_is)
    (case a_fi => k_is)
    (case l_fi => k_is)
    (case c_fi => k_is)
    (case k_fi => k_is)
    (case a_fs => k_is)
    (case l_fs => k_is)
    (case c_fs => k_is)
    (case k_fs => k_is)
    (case a_tk => k_is)
    (case l_tk => k_is)
    (case c_tk => k_is)
    (case k_tk => k_is)
    (case a_cl => k_is)
    (case l_cl => k_is)
    (case c_cl => k_is)
    (case k_cl => k_is)
    (case a_sto => k_is)
    (case l_sto => k_is)
    (case c_sto => k_is)
    (case k_sto => k_is)
    (case a_ek => k_is)
    (case l_ek => k_is)
    (case c_ek => k_is)
    (case k_ek => k_is)
    (case a_xfo => k_is)
    (case l_xfo => k_is)
    (case c_xfo => k_is)
    (case k_xfo => k_is)
    (case a_xpo => k_is)
    (case l_xpo => k_is)
    (case c_xpo => k_is)
    (case k_xpo => k_is)
    (case a_xto => k_is)
    (case l_xto => k_is)
    (case c_xto => k_is)
    (case k_xto => k_is)
    (case a_xcc => k_is)
    (case l_xcc => k_is)
    (case c_xcc => k_is)
    (case k_xcc => k_is)
    (case a_xcls => k_is)
    (case l_xcls => k_is)
    (case c_xcls => k_is)
    (case k_xcls => k_is)
    (case a_xwp => k_is)
    (case l_xwp => k_is)
    (case c_xwp => k_is)
    (case k_xwp => k_is)
    (case a_xcd => k_is)
    (case l_xcd => k_is)
    (case c_xcd => k_is)
    (case k_xcd => k_is)
    (case a_xck => k_is)
    (case l_xck => k_is)
    (case c_xck => k_is)
    (case k_xck => k_is)
    (case a_xpl => k_is)
    (case l_xpl => k_is)
    (case c_xpl => k_is)
    (case k_xpl => k_is)
    (case a_xps => k_is)
    (case l_xps => k_is)
    (case c_xps => k_is)
    (case k_xps => k_is)
    (case a_xcr => k_is)
    (case l_xcr => k_is)
    (case c_xcr => k_is)
    (case k_xcr => k_is)
    (case a_xpd => k_is)
    (case l_xpd => k_is)
    (case c_xpd => k_is)
    (case k_xpd => k_is)
    (case a_xriv => k_is)
    (case l_xriv => k_is)
    (case c_xriv => k_is)
    (case k_xriv => k_is)
    (case a_ks => k_is)
    (case l_ks => k_is)
    (case c_ks => k_is)
    (case k_ks => k_is)
    (case a_xwr => k_is)
    (case l_xwr => k_is)
    (case c_xwr => k_is)
    (case k_xwr => k_is)
    (case a_xcw => k_is)
    (case l_xcw => k_is)
    (case c_xcw => k_is)
    (case k_xcw => k_is)
    (case a_xpt => k_is)
    (case l_xpt => k_is)
    (case c_xpt => k_is)
    (case k_xpt => k_is)
    (case a_xyl => k_is)
    (case l_xyl => k_is)
    (case c_xyl => k_is)
    (case k_xyl => k_is)
    (case a_law => k_is)
    (case l_law => k_is)
    (case c_law => k_is)
    (case k_law => k_is)
    (case g_C => k_is)
    (case g_CT => k_is)
    (case g_CY => k_is)
    (case pg_C => k_is)
    (case hd_C => k_is)
    (case po_C => k_is)
    (case sa_C => k_is)
    (case ha_C => k_is)
    (case hm_C => k_is)
    (case ki_C => kit_is)
    (case hn => k_is)
    (case ht => k_is)
    (case pg_CT => k_is)
    (case hd_CT => k_is)
    (case po_CT => k_is)
    (case sa_CT => k_is)
    (case ha_CT => k_is)
    (case hm_CT => k_is)
    (case ki_CT => kit_is)
    (case pg_CY => k_is)
    (case hd_CY => k_is)
    (case po_CY => k_is)
    (case sa_CY => k_is)
    (case ha_CY => k_is)
    (case hm_CY => k_is)
    (case ki_CY => kit_is)
    (case g_c0 => k_is)
    (case g_c1 => k_is)
    (case g_c4 => k_is)
    (case g_c5 => k_is)
    (case g_CL => k_is)
    (case g_CV => k_is)
    (case ex_c0 => k_is)
    (case nf_c0 => k_is)
    (case ex_c1 => k_is)
    (case nf_c1 => k_is)
    (case ocl_c0 => k_is)
    (case ove_c0 => decide +kernel)
    (case osa_c0 => k_is)
    (case oty_c0 => k_is)
    (case okc_c0 => k_is)
    (case osb_c0 => k_is)
    (case osu_c0 => ks_is)
    (case osv_c0 => k_is)
    (case o_op => k_is)
    (case o_top => decide +kernel)
    (case a_ie => k_is)
    (case y_ie => k_is)
    (case l_ie => k_is)
    (case c_ie => k_is)
    (case e_ie => k_is)
    (case f2_ie => rfl)
    (case fl_ie => decide +kernel)
    (case ce_ie => k_is)
    (case ocl_c1 => k_is)
    (case ove_c1 => decide +kernel)
    (case osa_c1 => k_is)
    (case oty_c1 => k_is)
    (case okc_c1 => k_is)
    (case osb_c1 => k_is)
    (case osu_c1 => ks_is)
    (case osv_c1 => k_is)
    (case a_is => k_is)
    (case y_is => k_is)
    (case l_is => k_is)
    (case c_is => k_is)
    (case e_is => k_is)
    (case f2_is => rfl)
    (case fl_is => decide +kernel)
    (case ce_is => k_is)
    (case ex_CL => k_is)
    (case nfp_CL => k_is)
    (case nfk_CL => k_is)
    (case ocl_CL => k_is)
    (case ove_CL => decide +kernel)
    (case osa_CL => k_is)
    (case oty_CL => k_is)
    (case okc_CL => k_is)
    (case osb_CL => k_is)
    (case osu_CL => ks_is)
    (case osv_CL => k_is)
    (case a_il => k_is)
    (case y_il => k_is)
    (case l_il => k_is)
    (case c_il => k_is)
    (case e_il => k_is)
    (case f2_il => rfl)
    (case fl_il => decide +kernel)
    (case ce_il => k_is)
    (case ex_CV => k_is)
    (case nf_CV => k_is)
    (case ocl_CV => k_is)
    (case ove_CV => decide +kernel)
    (case osa_CV => k_is)
    (case oty_CV => k_is)
    (case okc_CV => k_is)
    (case osb_CV => k_is)
    (case osu_CV => ks_is)
    (case osv_CV => k_is)
    (case a_iv => k_is)
    (case y_iv => k_is)
    (case l_iv => k_is)
    (case c_iv => k_is)
    (case e_iv => k_is)
    (case f2_iv => rfl)
    (case fl_iv => decide +kernel)
    (case ce_iv => k_is)
    (case ga_CV => k_is)
    (case gg_CV => k_is)
    (case hx_CV => k_is)
    (case tt_CV => k_is)
    (case ss_CV => k_is)
    (case exi_c4 => kernel_rfl)
    (case ekc_c4 => k_is)
    (case eb_c4 => k_is)
    (case et_c4 => k_is)
    (case exi_c5 => kernel_rfl)
    (case ekc_c5 => k_is)
    (case eb_c5 => k_is)
    (case et_c5 => k_is)
    (case hx_c4 => k_is)
    (case ss_c4 => k_is)
    (case v_let => k_is)
    (case v_lon => k_is)
    (case v_lv => k_is)
    (case v_mv => k_is)
    (case v_me => k_is)
    (case v_mn => k_is)
    (case v_mf => k_is)
    (case v_mc => k_is)
    (case v_scr => k_is)
    (case a_ei => k_is)
    (case l_ei => k_is)
    (case c_ei => k_is)
    (case k_ei => k_is)
    (case i_ei => k_is)
    (case mk_C => k_is)
    (case kc_C => k_is)
    (case d_scripts => k_is)
    (case d_needs => k_is)
    (case d_first => k_is)
    (case d_against => k_is)
    (case t_S => k_is)
    (case t_1 => k_is)
    (case t_2 => k_is)
    (case t_3 => k_is)
    (case na_C_parts => k_is)
    (case pa_g0 => k_is)
    (case pg_g0 => k_is)
    (case pt_g0 => k_is)
    (case pr_g0 => k_is)
    (case l_g0 => k_is)
    (case c_g0 => k_is)
    (case k_g0 => k_is)
    (case pa_g1 => k_is)
    (case pg_g1 => k_is)
    (case pt_g1 => k_is)
    (case pr_g1 => k_is)
    (case l_g1 => k_is)
    (case c_g1 => k_is)
    (case k_g1 => k_is)
    (case pa_g2 => k_is)
    (case pg_g2 => k_is)
    (case pt_g2 => k_is)
    (case pr_g2 => k_is)
    (case l_g2 => k_is)
    (case c_g2 => k_is)
    (case k_g2 => k_is)
    (case pa_g3 => k_is)
    (case pg_g3 => k_is)
    (case pt_g3 => k_is)
    (case pr_g3 => k_is)
    (case l_g3 => k_is)
    (case c_g3 => k_is)
    (case k_g3 => k_is)
    (case pa_g4 => k_is)
    (case pg_g4 => k_is)
    (case pt_g4 => k_is)
    (case pr_g4 => k_is)
    (case l_g4 => k_is)
    (case c_g4 => k_is)
    (case k_g4 => k_is)
    (case pa_g5 => k_is)
    (case pg_g5 => k_is)
    (case pt_g5 => k_is)
    (case pr_g5 => k_is)
    (case l_g5 => k_is)
    (case c_g5 => k_is)
    (case k_g5 => k_is)
    (case a_eq => k_is)
    (case l_eq => k_is)
    (case c_eq => k_is)
    (case k_eq => k_is)
    (case i_eq => k_is)
    (case x_C => k_is)
    (case xq_C => k_is)
    (case xn_C => k_is)
    (case xo_C => kernel_rfl)
    (case na_CT_table => k_is)
    (case na_CT_numbers => k_is)
    (case a_si => k_is)
    (case l_si => k_is)
    (case c_si => k_is)
    (case k_si => k_is)
    (case i_si => k_is)
    (case mk_CT => k_is)
    (case kc_CT => k_is)
    (case pa_sn => k_is)
    (case pg_sn => k_is)
    (case pt_sn => k_is)
    (case pr_sn => k_is)
    (case l_sn => k_is)
    (case c_sn => k_is)
    (case k_sn => k_is)
    (case a_sv => k_is)
    (case l_sv => k_is)
    (case c_sv => k_is)
    (case k_sv => k_is)
    (case i_sv => k_is)
    (case a_sh => k_is)
    (case l_sh => k_is)
    (case c_sh => k_is)
    (case k_sh => k_is)
    (case i_sh => k_is)
    (case a_se => k_is)
    (case l_se => k_is)
    (case c_se => k_is)
    (case k_se => k_is)
    (case i_se => k_is)
    (case x_CT => k_is)
    (case xq_CT => k_is)
    (case xn_CT => k_is)
    (case xo_CT => kernel_rfl)
    (case na_CY_held_store => k_is)
    (case na_CY_held_files => k_is)
    (case na_CY_held_takes => k_is)
    (case a_li => k_is)
    (case l_li => k_is)
    (case c_li => k_is)
    (case k_li => k_is)
    (case i_li => k_is)
    (case mk_CY => k_is)
    (case kc_CY => k_is)
    (case pa_ls => k_is)
    (case pg_ls => k_is)
    (case pt_ls => k_is)
    (case pr_ls => k_is)
    (case l_ls => k_is)
    (case c_ls => k_is)
    (case k_ls => k_is)
    (case pa_lf => k_is)
    (case pg_lf => k_is)
    (case pt_lf => k_is)
    (case pr_lf => k_is)
    (case l_lf => k_is)
    (case c_lf => k_is)
    (case k_lf => k_is)
    (case pa_lt => k_is)
    (case pg_lt => k_is)
    (case pt_lt => k_is)
    (case pr_lt => k_is)
    (case l_lt => k_is)
    (case c_lt => k_is)
    (case k_lt => k_is)
    (case a_le => k_is)
    (case l_le => k_is)
    (case c_le => k_is)
    (case k_le => k_is)
    (case i_le => k_is)
    (case x_CY => k_is)
    (case xq_CY => k_is)
    (case xn_CY => k_is)
    (case xo_CY => kernel_rfl)
