import PyProof.Rows.All
import Wide.All
import OpenK.AllK
import Wide.FinOn
import KE.KExcSuper
import HandS.ForMost
import HandS.ForExc
import HandS.ExcInit
import PyProof.InstNe
import KE.KExcIs
import HandS.ExcIs
import HandS.SetFor
import HandS.IsInst
import HandS.Walk
import HandS.FStr
import HandS.More
import HandS.Codes
import HandS.Conv
import HandS.Defaults
import HandS.MakeKwOnly
import HandS.Property
import HandS.TupSets
import HandS.SetKeys
import HandS.SetTxt0
import HandS.Strs
import PyProof.Rows.SortShellAny
import HandS.SortRule
import HandS.SortOrd
import HandS.DictComp
import KE.GoesMore
import KE.KEqDict
import HandS.Lambda
import KE.KDflt
import HandS.Style
import HandS.TupAny
import HandS.Star
import KE.KRevSl
import HandS.ExcField
import HandS.TupLen
import HandS.RaiseMore
import HandS.ExcOwn
import HandS.Deep
import HandS.EndTab
import KE.KNestM
import KE.RegKIsAll
import PySem.Challenge.RW_halfsetup_k02_stores_validated
set_option Elab.async false
set_option linter.all false
set_option maxRecDepth 100000
set_option maxHeartbeats 8000000
/-! a def (the own __init__ of an exception class) whose first statement is super().__init__(e) -/
namespace L2
open PySem PySem.Spec PyProof.Rows
theorem zip_rev_lookup : ∀ {ps : List Str} {us : List Value} {i : Nat} {y : Str} {u : Value}, ps.Nodup → ps[i]? = some y → us[i]? = some u → (ps.zip us).reverse.lookup y = some u
  | [], _, i, _, _, _, h, _ => by simp at h
  | p :: ps, [], i, _, _, _, _, h => by simp at h
  | p :: ps, u0 :: us, 0, y, u, nd, h1, h2 => by
    have e1 : p = y := by simpa using h1
    have e2 : u0 = u := by simpa using h2
    subst e1 e2
    have hp : p ∉ ps := (List.nodup_cons.mp nd).1
    have q : ((ps.zip us).reverse).lookup p = none := by
      rw [List.lookup_eq_none_iff]
      intro z hz
      have n : p ≠ z.1 := fun e' => hp (by rw [e']; exact (List.of_mem_zip (List.mem_reverse.mp hz)).1)
      simpa using n
    rw [List.zip_cons_cons, List.reverse_cons, List.lookup_append, q]
    simp [List.lookup]
  | p :: ps, u0 :: us, i + 1, y, u, nd, h1, h2 => by
    have ih := zip_rev_lookup (ps := ps) (us := us) (i := i) (y := y) (u := u) (List.nodup_cons.mp nd).2 (by simpa using h1) (by simpa using h2)
    rw [List.zip_cons_cons, List.reverse_cons, List.lookup_append, ih]
    rfl
/-- what a slot holds at the start is an argument -/
theorem start_val {N : List Str} {vs : List V} {i : Nat} {v : V} (h : (start N vs)[i]? = some (some v)) : vs[i]? = some v := by
  rcases Nat.lt_or_ge i vs.length with lt | ge
  · rw [show start N vs = vs.map some ++ List.replicate (N.length - vs.length) none from rfl, List.getElem?_append_left (by rwa [List.length_map]), List.getElem?_map, List.getElem?_eq_getElem lt] at h
    rw [List.getElem?_eq_getElem lt]
    exact Option.some.inj h
  · rw [show start N vs = vs.map some ++ List.replicate (N.length - vs.length) none from rfl, List.getElem?_append_right (by rwa [List.length_map])] at h
    exact nomatch (List.mem_replicate.mp (List.mem_of_getElem? h)).2
structure SupScope (N P : List Str) (sc : Scope) : Prop where
  kind : sc.kind = .function
  co : sc.isCoroutine = false
  gen : sc.isGenerator = false
  nd : N.Nodup
  pre : N.take P.length = P
  par : ∀ x ∈ P, sc.names.lookup x = some .local
  nocell : ∀ y ∈ sc.names, y.2 ≠ .cell
  free : ∀ y ∈ sc.names, y.2 = .free → y.1 = ("__class__" : Str)
  hs : sc.names.lookup ("super" : Str) = some .globalImplicit
  hc : sc.names.lookup ("__class__" : Str) = some .free
def cxSup (CX : CXT) (P : Program) (w : World) (K : PySem.W.Frag) (mg : Str → Option Value) (base : Heap) (N : List Str) (qual : Str) (scope : Scope) (f : Addr) (cd : Value) (cc : Addr) (A : Around) (outer : List Env) (s : Shared) (H : Hp) (E : XK) : Cx where
  prog := P
  w := w
  K := K
  mg := mg
  base := base
  A := A.deeper (PySem.W.ksEnv qual scope s.heap.objs.size f cd cc)
  N := N
  s_0 := s
  H_0 := H
  env := PySem.W.ksEnv qual scope s.heap.objs.size f cd cc
  outer := outer
  stack := PySem.W.ksEnv qual scope s.heap.objs.size f cd cc :: outer
  ex := []
  calm := true
  fn := fun _ => false
  pn := []
  xe := fun e s' => wpAny (model P w) (A.deeper (PySem.W.ksEnv qual scope s.heap.objs.size f cd cc)) (leaving (PySem.W.ksEnv qual scope s.heap.objs.size f cd cc) e) (fun _ s'' => CX outer H s E e s'') (fun e' s'' => CX outer H s E e' s'') s'
theorem inv_startS {CX : CXT} {P : Program} {w : World} {K : PySem.W.Frag} {mg : Str → Option Value} {base : Heap} {N ps : List Str} {qual : Str} {scope : Scope} {f cc : Addr} {cd : Value} {A : Around} {outer : List Env} {s : Shared} {H : Hp} {E : XK} {us : List Value} {vs : List V} {h₀ : Heap} {tk : Nat}
    {oc : Obj} {cv : Option Value} (S : SupScope N ps scope) (hd : A.handled = none) (e0 : Env0 P w K mg base A outer s H) (hl : vs.length = ps.length) (r : Vals vs us) (hcell : K.lookup cc = some oc) (hcd : oc.data = .cell cv)
    (hns : h₀.Ns s.heap.objs.size (fun x => (ps.zip us).reverse.lookup x)) (kp : ∀ b o, s.heap.get? b = some o → h₀.get? b = some o) :
    Inv (cxSup CX P w K mg base N qual scope f cd cc A outer s H E) [] (start N vs) H { s with heap := h₀, toks := tk } := by
  have hpl : ps.length ≤ N.length := by have := congrArg List.length S.pre; rw [List.length_take] at this; omega
  have noA : ∀ b : Addr, b ∉ (cxSup CX P w K mg base N qual scope f cd cc A outer s H E).ex := fun b z => absurd (show b ∈ ([] : List Addr) from z) (by simp)
  have hb := e0.bs cc oc (e0.mod.kin _ _ hcell)
  have lk : ∀ {y : Str} {c : Addr}, ([(("__class__" : Str), cc)] : List (Str × Addr)).lookup y = some c → y = ("__class__" : Str) ∧ c = cc := fun {y c} e => by
    simp only [List.lookup] at e
    split at e
    · rename_i q
      exact ⟨by simpa using q, (Option.some.inj e).symm⟩
    · cases e
  refine ⟨⟨e0.mod, S.kind, rfl, rfl, Nat.le_refl _, fun y z c h1 h2 => ?_, fun y hy => ?_, fun y c z _ => ?_, fun _ => hd, Around.frames_deeper e0.frames, .inr ⟨rfl, rfl⟩, fun b z => absurd z (noA b), e0.bs, e0.bsz, fun b _ _ => noA b, fun b z => absurd z (noA b), e0.funs, e0.frf⟩,
    rfl, e0.bare, Un.kept kp, ⟨_, hns, fun i y v h1 h2 h3 => ?_⟩, fun y c h => ?_, e0.hok.fresh (Nat.le_refl _), fun y c h => ?_, fun p hp => absurd (show p ∈ ([] : List (Addr × Obj)) from hp) (by simp), e0.hok.kept kp, ?_⟩
  · exact (lk h1).1.trans (lk h2).1.symm
  · have hy : scope.names.lookup y = some .cell ∨ scope.names.lookup y = some .free := hy
    rcases hy with hy | hy
    · exact absurd rfl (S.nocell _ (PySem.mem_of_lookup hy))
    · have e := S.free _ (PySem.mem_of_lookup hy) rfl
      have e : y = ("__class__" : Str) := e
      subst e
      exact ⟨cc, by show ([(("__class__" : Str), cc)] : List (Str × Addr)).lookup _ = _; simp [List.lookup]⟩
  · have z : false = true := z
    cases z
  · have ha := start_val h2
    have hi := (List.getElem?_eq_some_iff.mp ha).1
    obtain ⟨u, hu, rv⟩ := r.get ha
    have hp : ps[i]? = some y := by rw [← S.pre, List.getElem?_take_of_lt (by omega)]; exact h1
    have ndP : ps.Nodup := by rw [← S.pre]; exact S.nd.sublist (List.take_sublist _ _)
    exact ⟨u, rv, .inl ⟨S.par y (List.mem_of_getElem? hp), zip_rev_lookup ndP hp hu⟩⟩
  · have e := (lk h).2
    subst e
    exact ⟨cv, oc, kp _ _ hb.1, hcd⟩
  · have e := (lk h).2
    subst e
    exact hb.2
  · unfold start
    show _ = N.length
    rw [List.length_append, List.length_map, List.length_replicate]
    omega
/-- the built-in __init__, bound to the exception at a, called -/
theorem call_mw {P : Program} {w : World} {A : Around} {E : Value → Shared → Prop} {h : Heap} {g : Array GenState} {d : Drawn} {t : Nat} {os : OsState} {nm q : Str} {C N : Addr} {bs bm : List Value} {hdct : Bool} {sn : List Str} {sub : List Value} {ab : Bool} {col : Option Bool} {dd : Option Addr} {k0 k1 k2 k3 k5 : Option Value}
    {u e t0 : Addr} {rest : List Value} {Q : Value → Shared → Prop}
    (hC : h.get? C = some (excClassObj nm q C N bs bm hdct sn sub ab col dd k0 k1 k2 k3 k5 "ValueError.__new__")) (he : h.get? e = some (HandSPX.excO C t0)) (hu : h.get? u = some (PySem.W.kxs_mw "ValueError.__init__" e)) (hz : rest.length ≤ sizeLine)
    (hq : ∀ h' t1, (∀ b o, b ≠ e → h.get? b = some o → h'.get? b = some o) → h'.get? e = some (HandSPX.excO C t1) → Q .none ⟨h', g, d, t, os⟩) :
    wpAny (model P w) A (call (.ref u) rest) Q E ⟨h, g, d, t, os⟩ := by
  have FB := F.excBase_ValueError
  refine wpAny_call (codeAny_of_tree ?_); show wpAny _ A.in1 (callAny (.ref u) ⟨rest, []⟩) _ _ _
  simp only [callAny]; refine wpAny_bind (wpAny_load hu ?_)
  simp only [PySem.W.kxs_mw, show (Value.type "method-wrapper" == Value.type "method" || Value.type "method-wrapper" == Value.type "builtin_function_or_method" || Value.type "method-wrapper" == Value.type "method-wrapper") = true by decide, if_true]
  refine PySem.W.KFB.if_so (by decide) (wpAny_bind (PySem.W.check_bound_init FB.toExcCallFacts hC he rfl (wpAny_bind (wpAny_pure (wpAny_pure ⟨plainId_quiet FB.init.plain _, codeAny_builtin FB.initEntry ?_⟩)))))
  exact PySem.W.exc_init_tree (cls := .ref C) (t0 := t0) (dv := none) (c2 := .none) (c3 := .none) (b4 := .bool false) he hz fun h' k hx _ => hq h' h.objs.size k hx
/-- what the written part says besides, for super() in the __init__ of the class at D -/
structure SupC (P : Program) (K : PySem.W.Frag) (mg : Str → Option Value) (D : Addr) : Prop where
  oex : OexC K D
  sub : PySem.W.mroIn K D (.ref D) = some true
  sup : PySem.W.ks_superIn K D D "__init__" = some (some (.builtin "ValueError.__init__"))
  ve : PySem.W.subIn K (.ref D) (.type "ValueError") = some true
  op : PySem.W.nsIn K cStatics "thirdparty.any" = some none
  mgs : mg "super" = none
  top : (P.main.scope.names.lookup ("super" : Str)).isSome = false
theorem fn_sup {CX : CXT} {P : Program} {w : World} {K : PySem.W.Frag} {mg : Str → Option Value} {base : Heap} {k : Nat} {f cc D cda : Addr} {name qual : Str} {params : Arguments} {body rest : List Stmt} {scope : Scope} {dV kV doc pm ct oc : Value} {an od : Option Addr}
    {osl : Array (Option Value)} {N ps : List Str} {sp : Sp} {e : Expr} {p0 p1 p2 p3 p4 : Pos} {pl : Sem Bool} {ar : Arg} {vsc : Array Value} {file : Str} {tf : Tok} {ccl : Value} {cdd : Option Addr} {ccs : Array (Option Value)} {cl : Value} {cld : Option Addr} {csl : Array (Option Value)}
    (lk : K.lookup f = some ⟨oc, od, .func (PySem.W.ksFn name qual params body scope dV kV doc pm an (.ref cda) ct cc), osl⟩) (hcd : PySem.W.codeIn K (.ref cda) qual = true) (S : SupScope N ps scope)
    (hb : body = .Expr (.Call (.Attribute (.Call (.Name "super" p0) [] [] p1) "__init__" p2) [e] [] p3) p4 :: rest)
    (hp : (params.posonlyargs ++ params.args).head? = some ar) (hps : ps[0]? = some ar.arg)
    (hcode : K.lookup cda = some ⟨ccl, cdd, .fields vsc, ccs⟩) (hvs : vsc[2]? = some (.str file tf)) (hfile : ((P.main.file : Str) == file) = true)
    (hcell : K.lookup cc = some ⟨cl, cld, .cell (some (.ref D)), csl⟩) (T : SupC P K mg D)
    (len : ∀ vs H Q E, sp vs H Q E → vs.length = ps.length)
    (he : ∀ L : Addr, starEach [e] (PySem.W.ksEnv qual scope L f (.ref cda) cc) = [(false, eval e (PySem.W.ksEnv qual scope L f (.ref cda) cc))])
    (hsw : ∀ L : Addr, swapsWith (.Call (.Attribute (.Call (.Name "super" p0) [] [] p1) "__init__" p2) [e] [] p3) none p4.line (PySem.W.ksEnv qual scope L f (.ref cda) cc) = pure false)
    (hev : ∀ L : Addr, eval (.Call (.Attribute (.Call (.Name "super" p0) [] [] p1) "__init__" p2) [e] [] p3) (PySem.W.ksEnv qual scope L f (.ref cda) cc) = (do
      let ov ← attributeBase (.Call (.Name "super" p0) [] [] p1) "__init__" (PySem.W.ksEnv qual scope L f (.ref cda) cc) (eval (.Call (.Name "super" p0) [] [] p1) (PySem.W.ksEnv qual scope L f (.ref cda) cc))
      standAt p2.atName
      let (fn, first) ← holding [ov] (getMethod ov "__init__" pl)
      callWith p3 fn first (backTo p3 (starEach [e] (PySem.W.ksEnv qual scope L f (.ref cda) cc))) []))
    (hbody : ∀ (A : Around) (outer : List Env) (s : Shared) (H : Hp) (vs : List V) (Q : VK) (E : XK), Room k (A.deeper (PySem.W.ksEnv qual scope s.heap.objs.size f (.ref cda) cc)) → sp vs H Q E →
      ∃ (a : Addr) (ta : TA) (t : TS), vs[0]? = some (.ref a) ∧ H a = some (exo a D none) ∧ PA (cxSup CX P w K mg base N qual scope f (.ref cda) cc A outer s H E) [e] ta ∧ PSs (cxSup CX P w K mg base N qual scope f (.ref cda) cc A outer s H E) rest t ∧
        ta (start N vs) H fun ws H1 => ws.length ≤ 1000 ∧ H1 a = some (exo a D none) ∧ t { nx := fun _ H' => Q .non H', rt := Q } (start N vs) H1) :
    FnOk P w K mg base CX (k + 1) f (PySem.W.ksFn name qual params body scope dV kV doc pm an (.ref cda) ct cc) ps sp := by
  refine ⟨len, fun A outer s H args us vs Q E hr e0 hbd r hsp => ?_⟩
  have hl := len _ _ _ _ hsp
  have KX : K.In s.heap := e0.mod.kin.keeps fun b o e => (e0.bs b o e).1
  have lim : s.heap.NoLimit := e0.mod.nolimit.keeps fun b o e => (e0.bs b o e).1
  obtain ⟨a, ta, t, hv0, ha, hpa, hpss, hq⟩ := hbody A outer s H vs Q E (hr.deeper _) hsp
  subst hb
  refine ks_codeAny_call_defAt (fd := PySem.W.ksFn name qual params _ scope dV kV doc pm an (.ref cda) ct cc) (binds := ps.zip us) hr.depth (KX _ _ lk) rfl lim (PySem.W.codeRec_of KX hcd) rfl hbd S.nocell (fun y hy => S.par _ (List.of_mem_zip hy).1) (fun h₀ hns kp => ?_) S.co S.gen S.kind
  have I := inv_startS (CX := CX) (E := E) (qual := qual) (f := f) (cd := .ref cda) (tk := s.toks + (ps.zip us).length) S hr.hd e0 hl r hcell rfl hns kp
  obtain ⟨u0, hu0, ru0⟩ := r.get hv0
  obtain rfl : u0 = Value.ref a := ru0
  have ndP : ps.Nodup := by rw [← S.pre]; exact S.nd.sublist (List.take_sublist _ _)
  have hself := zip_rev_lookup ndP hps hu0
  have KX0 : K.In h₀ := KX.keeps kp
  obtain ⟨nm, q, N', bs, bm, sn, sub, ab, col, dd, k0, k1, k2, k3, k5, hC, hbm⟩ := T.oex.cls
  have hcl : PySem.W.clsIn K D = some { name := nm, bases := bs, mro := .ref D :: bm, ns := N', qualname := q, hasDict := true, slotNames := sn, subclasses := sub, abstract := ab, collection := col, hasDel := false } := by unfold PySem.W.clsIn; rw [hC] <;> rfl
  obtain ⟨t1, ho⟩ := exo_at I.hok ha
  obtain ⟨mb, hmb, hbl⟩ := e0.mod.blt
  have bk : ∀ b o, base.get? b = some o → h₀.get? b = some o := fun b o e => kp b o (e0.bs b o e).1
  refine ks_wpAt_execs_cons (ks_wpAt_Expr_any (ks_wpAt_MethodCall (env := PySem.W.ksEnv qual scope s.heap.objs.size f (.ref cda) cc) ?_ (hev _)) I.quiet (hsw _))
  refine ks_wpAt_super_base (env := PySem.W.ksEnv qual scope s.heap.objs.size f (.ref cda) cc) S.hs S.hc (by decide) rfl (KX0 _ _ lk) rfl hp rfl (KX0 _ _ hcode) rfl hvs hfile T.top ?_
  refine PySem.W.ks_loadName_global S.kind S.hs (Calls.loadGlobal_builtin (e0.mod.glob.keeps bk) T.mgs (hmb.keeps bk) ((hbl _ (by decide)).trans (show bootBuiltins "super" = some (.type "super") by decide +kernel)) ⟨rfl, ?_⟩)
  refine wpAny_loadName_free S.kind S.hc rfl ⟨_, KX0 _ _ hcell, rfl⟩ ?_
  refine wpAny_loadName_local S.kind (S.par _ (List.mem_of_getElem? hps)) hns hself ?_
  refine ks_wpAny_isType_cls (KX0 _ _ hC) rfl ⟨rfl, ?_⟩
  obtain ⟨hs0, g, d, tk, os⟩ := s
  refine ks_wpAny_call_super (KX0 _ _ hC) rfl ho rfl (fun c z => by cases z) (PySem.W.looks_mroIn KX0 T.sub) (fun h1 e1 kp1 => ?_)
  have hsup := T.sup
  unfold PySem.W.ks_superIn at hsup
  rw [hcl] at hsup
  have KX1 : K.In h1 := KX0.keeps kp1
  have ho1 := kp1 _ _ ho
  have aD : a ≠ D := fun z => by
    rw [z] at ho1
    have := ho1.symm.trans (KX1 _ _ hC)
    cases this
  refine PySem.W.kxs_getMethod PySem.W.kxs_ValueError e1 (PySem.W.looks_opaque KX1 T.op) (fun A Q E s k q => wpAny_bind ((PySem.W.looks_clsIn KX1 hcl) A _ E s k (wpAny_pure q))) rfl KX1 hsup
    (PySem.W.InstAt.type (od := none) ⟨ho1, rfl, rfl, trivial⟩ |>.andThen (PySem.W.looks_subIn KX1 T.ve)) aD (by decide) ?_
  have kp2 : ∀ b o, h₀.get? b = some o → (h1.push (PySem.W.kxs_mw "ValueError.__init__" a)).get? b = some o := fun b o e => Heap.get?_push_of_some _ (kp1 b o e)
  have I2 := (I.kept (t' := tk + (ps.zip us).length + 1) kp2).pins_of (pins' := [(h1.objs.size, PySem.W.kxs_mw "ValueError.__init__" a)]) fun p hp => by
    have e : p = (h1.objs.size, PySem.W.kxs_mw "ValueError.__init__" a) := by simpa using hp
    subst e
    have big : h₀.objs.size ≤ h1.objs.size := by
      refine Nat.le_of_lt (Nat.lt_of_le_of_lt ?_ (Heap.lt_size e1))
      exact Nat.le_refl _
    refine ⟨Heap.get?_push_at rfl rfl, I.hok.fresh big, ?_, I.nofs big, fun v z => by cases z⟩
    exact Nat.ne_of_gt (Nat.lt_of_lt_of_le I.lt big)
  refine PySem.W.kxs_callWith (i := "ValueError.__init__") (x := a) (by rw [he _]; rfl) ?_
  rw [he _]
  refine Calls.evalArgs_plain ?_
  have hrun := hpa.run p3 _ _ (start N vs) H _ I2 hq
  have he' : starEach [e] (cxSup CX P w K mg base N qual scope f (.ref cda) cc A outer ⟨hs0, g, d, tk, os⟩ H E).env = _ := he _
  rw [he'] at hrun
  refine thn hrun fun ws s2 ⟨vs2, H1, I3, r3, hlen, ha1, ht⟩ => ?_
  obtain ⟨hu, _⟩ := I3.pin (h1.objs.size, PySem.W.kxs_mw "ValueError.__init__" a) (by simp)
  refine ⟨hu, ?_⟩
  obtain ⟨t2, ho2⟩ := exo_at I3.hok ha1
  obtain ⟨hp2, g2, d2, tk2, os2⟩ := s2
  refine call_mw (I3.kIn _ _ hC) ho2 hu (by rw [List.nil_append, ← Paired.length r3, sizeLine_eq]; omega) fun h' t3 k' hx => ?_
  have J0 := I3.write (t' := tk2) (x := a) (e := a) (o := exo a D none) (by rw [ha1]; exact True.intro) (.inl rfl) k' ⟨_, hx⟩ (exo_ok hx)
  have eu : upd H1 a (exo a D none) = H1 := by
    funext b
    by_cases hb : b = a
    · rw [hb, upd_same, ha1]
    · rw [upd_ne hb]
  rw [eu] at J0
  refine wpAt_of_wpAny (wpAny_mono (hpss.run _ _ (start N vs) H1 _ J0 ht) (fun fl s' hs => ?_) fun e s' hs => hs)
  have fin : ∀ {σ' : St} {H' : Hp} {v : V} {u : Value}, Inv (cxSup CX P w K mg base N qual scope f (.ref cda) cc A outer ⟨hs0, g, d, tk, os⟩ H E) [(h1.objs.size, PySem.W.kxs_mw "ValueError.__init__" a)] σ' H' s' → RelV v u → Q v H' → CE outer P w H ⟨hs0, g, d, tk, os⟩ Q u s' :=
    fun {σ' H' v u} J rv q => ⟨v, H', J.os, J.bare, J.base, J.hok, rv, q⟩
  match fl, hs with
  | .ret _, ⟨_, _, _, J, rv, q⟩ => exact fin J rv q
  | .next, ⟨_, _, J, q⟩ => exact fin (v := .non) J rfl q
  | .brk, ⟨_, _, _, q⟩ => exact q.elim
  | .cont, ⟨_, _, _, q⟩ => exact q.elim
end L2

namespace L2
open PySem PySem.Spec PyProof.Rows
/-! ### isinstance of a caught error, with or without a dict of its own -/
def rIsX (K : PySem.W.Frag) (a : Addr) (cls : Value) (d : Option Addr) : List V → Hp → VK → Prop := fun xs H Q => ∃ (c : V) (cv : Value) (b : Bool) (D : Addr), xs = [.ref a, c] ∧ (∀ u, RelV c u → u = cv) ∧ cls = .ref D ∧ ExcC K D ∧ PySem.W.kitOne K (.ref D) cv = some b ∧
  (d = none ∨ ∃ dd fs, d = some dd ∧ H dd = some (.xd fs)) ∧ Q (.bl b) H
theorem call_isX {X : Cx} {a : Addr} {oe : Obj} {cls : Value} {d : Option Addr} {pn : List (Addr × Obj)} (hz : Zc cls d oe) (hf : ∃ vs, oe.data = .fields vs) : CallR (X.suite a ((a, oe) :: pn)) (.builtin "isinstance") (rIsX X.K a cls d) := by
  intro pins s σ H xs us Q I r h
  obtain ⟨c, cv, b, D, rfl, hcv, rfl, C, e, hd, q⟩ := h
  cases r with
  | cons rx rr =>
    cases rr with
    | cons rt rr =>
      cases rr
      cases rx
      have ec := hcv _ rt
      subst ec
      obtain ⟨hget, _⟩ := I.pin (a, oe) (List.mem_append.mpr (.inl List.mem_cons_self))
      obtain ⟨vs, hv⟩ := hf
      have J : ∃ od, PySem.W.InstAt s.heap a oe D od := by
        rcases hd with hd | ⟨dd, fs, hd, hxd⟩
        · exact ⟨none, hget, hz.1, by unfold PySem.W.notCls; rw [hv] <;> rfl, by rw [hz.2, hd]; trivial⟩
        · obtain ⟨mA, hns, _⟩ := (show ObjOk X.prog X.w H s.heap dd (.xd fs) from I.hok dd _ hxd)
          obtain ⟨od, ho, _⟩ := lookIn_ns hns
          exact ⟨some od, hget, hz.1, by unfold PySem.W.notCls; rw [hv] <;> rfl, by rw [hz.2, hd]; exact ho⟩
      obtain ⟨od, J⟩ := J
      have hcl : (PySem.W.clsIn X.K D).isSome = true := by
        obtain ⟨cd, hc, _⟩ := PySem.W.any_some C.hd
        rw [hc]
        rfl
      exact PySem.W.kia_one (PySem.W.kitx_exc hcl C.hg C.hk C.hs C.ha C.hn C.ht C.hm) I.kIn J e (fun z => nomatch z) fun tk => ⟨.bl b, H, I.kept (t' := tk) fun _ _ z => z, rfl, q⟩
/-! ### xs.count(True), a list of True and False -/
def eqb (v : Value) : Bool := match v with
  | .bool b => b
  | _ => false
theorem eqb_all {A : Around} {s : Shared} : ∀ {us : List Value} {bs : List Bool}, Vals (bs.map V.bl) us → (∀ y ∈ us, SeqAt.EqAt A s y (.bool true) (eqb y)) ∧ us.countP eqb = bs.count true
  | _, [], h => by
    cases h
    refine ⟨fun y hy => ?_, rfl⟩; cases hy
  | _, b :: bs, h => by
    cases h with
    | @cons _ u _ us r t =>
      obtain ⟨h1, h2⟩ := eqb_all (A := A) (s := s) t
      obtain rfl : u = Value.bool b := r
      refine ⟨fun y hy => ?_, ?_⟩
      · rcases List.mem_cons.mp hy with e | e
        · rw [e]
          have z := eqAt_V (A := A) (s := s) (y := .bl b) (x := .bl true) (u := .bool b) (v := .bool true) rfl rfl rfl rfl
          have e2 : eqV (.bl b) (.bl true) = eqb (.bool b) := by cases b <;> decide
          rw [e2] at z
          exact z
        · exact h1 y e
      · rw [List.countP_cons, List.count_cons, h2]
        cases b <;> rfl
def rCntB (K : PySem.W.Frag) : V → List V → Hp → VK → Prop := fun x xs H Q => ∃ (p : Addr) (bs : List Bool), x = .ref p ∧ xs = [.bl true] ∧ SqL K H p (bs.map V.bl) ∧ Q (.int (bs.count true : Nat)) H
theorem mt_countB {X : Cx} : MtR X "list.count" (rCntB X.K) := by
  intro pins s σ H x xs v us Q I rx rxs h
  obtain ⟨p, bs, rfl, rfl, hS, q⟩ := h
  cases rx
  obtain ⟨u, rfl, ru⟩ := rxs.one
  obtain rfl : u = Value.bool true := ru
  obtain ⟨its, r, ⟨⟨cls, dd, data, sl⟩, n, ho, hc, hdn, hd⟩, z⟩ := I.list hS
  simp only at hc hd
  subst hc hd
  refine call_meets PySem.F.slot_list_count ⟨_, ho, rfl⟩ PySem.F.entry_list_count (PySem.F.args_list_count_2 _ _) (SeqAt.list_countAt p its.toArray n dd sl (.bool true) eqb) ⟨ho, fun y hy => (eqb_all r).1 y (by simpa using hy), ?_⟩
  have ec : its.toArray.toList.countP eqb = bs.count true := (eqb_all (A := X.A) (s := s) r).2
  refine ⟨.int (bs.count true : Nat), H, I.tok _, ⟨s.toks, congrArg (fun n : Nat => Value.int (n : Int) s.toks) ec⟩, q⟩
/-! ### == and != of two instances of a class with its own __eq__, whatever it answers -/
theorem ns_someX {K : PySem.W.Frag} {h : Heap} {N : Addr} {m : Str → Option Value} {n : Str} {v : Value} (X : K.In h) (G : h.Ns N m) (e : PySem.W.nsIn K N n = some (some v)) : m n = some v := by
  obtain ⟨o, es, ep, ho, hd, _, hf⟩ := G
  unfold PySem.W.nsIn at e; split at e
  · rename_i c d es' n' sl q
    have z := X _ _ q; rw [ho] at z; cases z; cases hd
    split at e
    · rename_i ent he
      rw [← hf]; unfold nsFind findBy; rw [← Array.find?_toList, he]
      simpa using e
    · split at e <;> cases e
  · cases e
structure OwnEqC (K : PySem.W.Frag) (C f : Addr) : Prop where
  cls : ∃ nm q N bs hd sn sub ab col dd k0 k1 k2 k3 k5 newId, K.lookup C = some (excClassObj nm q C N bs [.type "object"] hd sn sub ab col dd k0 k1 k2 k3 k5 newId) ∧ PySem.W.nsIn K N "__eq__" = some (some (.ref f)) ∧ PySem.W.nsIn K N "__ne__" = some none ∧ PySem.W.nsOkIn K N = true
  fi : PySem.W.findIn K (.ref C) "__eq__" = some (some (.ref f))
  fn : PySem.W.isFn K (.ref f) = true
def rEqO (C : Addr) (sp : Sp) (fl : Bool → Bool) : R2 := fun x y H Q => ∃ a b dx dy fs gs, x = .ref a ∧ y = .ref b ∧ H a = some (.ins C dx fs) ∧ H b = some (.ins C dy gs) ∧ sp [.ref a, .ref b] H (fun v H' => ∃ r, v = .bl r ∧ Q (.bl (fl r)) H') E0
section
variable {X : Cx} {C f : Addr} {fd : FuncData} {ps : List Str} {sp : Sp} {k : Nat}
theorem call_eqO (F : FnOk X.prog X.w X.K X.mg X.base CX0 k f fd ps sp) (hb : Binds X.K fd ps []) {A : Around} (hr : Room k A) (hA : A.frames = X.A.frames) {pins : List (Addr × Obj)} {s : Shared} {σ : St} {H : Hp} {a b : Addr} {Q : VK} {E : Value → Shared → Prop} (I : Inv X pins σ H s) (hsp : sp [.ref a, .ref b] H Q E0) :
    wpAny (model X.prog X.w) A (call (.ref f) [.ref a, .ref b]) (EP X pins σ Q) E s := by
  have e0 : Env0 X.prog X.w X.K X.mg X.base A X.stack s H := by
    have e := I.env0
    exact ⟨by rw [hA]; exact e.frames, e.mod, e.bs, e.bsz, e.funs, e.frf, e.hok, e.bare⟩
  have hl := F.len _ _ _ _ hsp
  have r2 : Vals [V.ref a, V.ref b] [Value.ref a, Value.ref b] := .cons rfl (.cons rfl .nil)
  have hbd := hb s [.ref a, .ref b] I.kIn (by simpa using hl)
  rw [List.append_nil] at hbd
  refine wpAny_call (codeAny_mono (F.run A X.stack s H ⟨[.ref a, .ref b], []⟩ [.ref a, .ref b] [.ref a, .ref b] _ E0 hr e0 hbd r2 hsp) fun r s' hq => ?_)
  cases r with
  | error e => exact (show False from hq).elim
  | ok fl =>
    cases fl with
    | ret w => exact I.after hq
    | next => exact False.elim hq
    | brk => exact False.elim hq
    | cont => exact False.elim hq
theorem op_eqO (F : FnOk X.prog X.w X.K X.mg X.base CX0 k f fd ps sp) (T : OwnEqC X.K C f) (hb : Binds X.K fd ps []) (hr : Room k X.A) : OpR X (compareOp .Eq) (rEqO C sp id) := by
  intro pins s σ H x y v u Q I rx ry hq
  obtain ⟨a, b, dx, dy, fs, gs, rfl, rfl, ha, hb', hsp⟩ := hq
  cases rx
  cases ry
  obtain ⟨mA, J, _⟩ := ins_get I.hok ha
  obtain ⟨mB, J', _⟩ := ins_get I.hok hb'
  obtain ⟨od, J, _⟩ := J.look
  obtain ⟨od', J', _⟩ := J'.look
  obtain ⟨m, hF⟩ := I.fr
  show wpAny (model X.prog X.w) X.A (richCompare .Eq (.ref a) (.ref b)) (EP X pins σ Q) X.xe s
  refine PySem.W.cmp_K (op := .Eq) (tb := .ref C) hr.units0 hF I.ok.mod.kin J J'.type (by simp [PySem.W.notFirst]) T.fi T.fn ?_
  refine thn (call_eqO F hb hr rfl I hsp) fun w s' hw => ?_
  obtain ⟨z, H', I', rz, r, rfl, q⟩ := hw
  obtain rfl : w = Value.bool r := rz
  exact ⟨.bl r, H', I', rfl, q⟩
theorem op_neO (F : FnOk X.prog X.w X.K X.mg X.base CX0 k f fd ps sp) (T : OwnEqC X.K C f) (hb : Binds X.K fd ps []) (hr : Room (k + 1) X.A) : OpR X (compareOp .NotEq) (rEqO C sp not) := by
  intro pins s σ H x y v u Q I rx ry hq
  obtain ⟨a, b, dx, dy, fs, gs, rfl, rfl, ha, hb', hsp⟩ := hq
  cases rx
  cases ry
  obtain ⟨mA, J, _⟩ := ins_get I.hok ha
  obtain ⟨mB, J', _⟩ := ins_get I.hok hb'
  obtain ⟨od, J, _⟩ := J.look
  obtain ⟨od', J', _⟩ := J'.look
  obtain ⟨nm, q, N, bs, hd, sn, sub, ab, col, dd, k0, k1, k2, k3, k5, newId, hC, he, hn, hok⟩ := T.cls
  have KX := I.kIn
  obtain ⟨of, hof, hofc⟩ : ∃ of, s.heap.get? f = some of ∧ of.cls = .type "function" := by
    have z := T.fn
    unfold PySem.W.isFn at z
    cases e : X.K.lookup f with
    | none => simp [PySem.W.typeIn, e] at z
    | some of => exact ⟨of, KX _ _ e, by simpa [PySem.W.typeIn, e] using z⟩
  have hN := Heap.Ns.of_isNs (PySem.W.isNs_of_in KX hok)
  have h1 := ns_someX KX hN he
  have h2 := PySem.W.ns_none_of KX hN hn
  obtain ⟨hp, g, d, t, os⟩ := s
  refine compareOp_ne_ownEq (C := C) (f := f) PySem.F.cmp_object ⟨_, of, nm, q, N, bs, hd, sn, sub, ab, col, dd, k0, k1, k2, k3, k5, newId, _, _, J.at_, J.cls, KX _ _ hC, hN, h1, hof, hofc, PySem.F.mro_object, PySem.F.cmp_object.eq.lookup, h2⟩ J'.at_ J'.cls (hu_of hr) ?_
  refine thn (call_eqO F hb hr.in1 rfl I hsp) fun w s' hw => ?_
  obtain ⟨z, H', I', rz, r, rfl, q⟩ := hw
  obtain rfl : w = Value.bool r := rz
  exact ⟨r, rfl, .bl (!r), H', I', rfl, q⟩
end
end L2

namespace Half
open PySem PySem.Spec PyProof.Rows L2
def top (i : Nat) : Stmt := PySem.Challenge.pw_halfsetup_k02_stores_validated.main.body.getD i (.Pass ⟨0, 0, 0, 0⟩)
abbrev sTaken : Stmt := top 35
abbrev sPick : Stmt := top 36
/-- the row of draws: the script, how many of its cells were read, the seed, what is left of a great cell -/
def Row (K : PySem.W.Frag) (H : Hp) (r a : Addr) : Prop := ∃ (ns : List Int) (i g l : Int), H r = some (.lst [.ref a, .int i, .int g, .int l]) ∧ SqL K H a (ns.map V.int) ∧ ns.length ≤ 63 ∧ 0 ≤ i
/-- a draw: some number below the bound; the row alone is changed -/
def spTaken (K : PySem.W.Frag) : Sp := fun vs H Q _ => ∃ (r : Addr) (m : Int) (a : Addr), vs = [.ref r, .int m] ∧ Row K H r a ∧ 0 < m ∧ m < 1073741824 ∧
  ∀ (v : Int) (o : HO), 0 ≤ v → v < m → Row K (upd H r o) r a → Q (.int v) (upd H r o)
theorem seqNe {K : PySem.W.Frag} {H : Hp} {r a : Addr} {o : HO} {xs : List V} (h : SqL K H a xs) (n : r ≠ a) : SqL K (upd H r o) a xs := by
  rcases h with (h | ⟨q, h⟩) | h
  · exact .inl (.inl (by rw [upd_ne (Ne.symm n)]; exact h))
  · exact .inl (.inr ⟨q, by rw [upd_ne (Ne.symm n)]; exact h⟩)
  · exact .inr h
theorem Row.seq {K : PySem.W.Frag} {H : Hp} {r a b : Addr} {o : HO} {ns : List Int} {l : List V} (hr : H r = some (.lst (.ref b :: l))) (h : SqL K H a (ns.map V.int)) : SqL K (upd H r o) a (ns.map V.int) := by
  have z : HO.lst (ns.map V.int) ≠ HO.lst (.ref b :: l) := fun z => by
    have z' : ns.map V.int = .ref b :: l := by injection z
    cases ns with
    | nil => cases z'
    | cons n ns => cases z'
  rcases h with (h | ⟨q, h⟩) | h
  · exact .inl (.inl (by rw [upd_ne (ne_of h hr z)]; exact h))
  · exact .inl (.inr ⟨q, by rw [upd_ne (ne_of h hr (fun w => by cases w))]; exact h⟩)
  · exact .inr h
structure TxtD (mg : Str → Option Value) : Prop where
  int : mg "int" = none
  len : mg "len" = none
section
variable {P : Program} {w : World} {K : PySem.W.Frag} {mg : Str → Option Value} {base : Heap}
theorem scTaken : FnScope ["_law_row", "_law_many", "_law_found", "_law_cell"] ["_law_row", "_law_many"] (defScope sTaken) := ⟨rfl, rfl, rfl, by decide +kernel, rfl, by decide +kernel, by decide +kernel⟩
theorem ok_taken {f : Addr} {fd : FuncData} (F : Fun K "_law_taken" "_law_taken" sTaken f fd) (T : TxtD mg) : FnOk P w K mg base CX0 1 f fd ["_law_row", "_law_many"] (spTaken K) := by
  refine F.ok scTaken (fun vs H Q E h => ?_) (fun cdv A outer s H vs Q E hr h => ?_)
  · obtain ⟨r, m, a, rfl, _⟩ := h
    rfl
  · obtain ⟨r, m, a, rfl, ⟨ns, i, g, l, hR, hS, hlen, hi⟩, hm0, hm1, k⟩ := h
    have nd := scTaken.nd
    refine ⟨_, pss_cons (ps_if (pt_cmpR op_gt (pe_ix ix_list (pv 0) pe_int (fun _ _ => rfl)) pe_int (nomark _))
        (pss_cons (ps_set (i := 2) nd rfl (Or.inl rfl) (pe_op op_mod (pe_callTy call_int1 (by rfl) T.int (by decide +kernel) (pa_cons (pe_ix ix_list (pv 0) pe_int (fun _ _ => rfl)) pa_nil)) (pv 1)))
        (pss_cons (ps_asg (pe_op op_fdiv (pe_ix ix_list (pv 0) pe_int (fun _ _ => rfl)) (pv 1)) (pg_sub (pv 0) pe_int set_list))
        (pss_one (ps_ret (pv 2))))) pss_nil)
      (pss_cons (ps_asg (pe_op op_add (pe_ix ix_list (pv 0) pe_int (fun _ _ => rfl)) pe_int) (pg_sub (pv 0) pe_int set_list))
      (pss_cons (ps_if (pt_cmpR op_gt (pe_ix ix_list (pv 0) pe_int (fun _ _ => rfl)) (pe_callB call_len_seq (by rfl) T.len PySem.boot_len (pa_cons (pe_ix ix_list (pv 0) pe_int (fun _ _ => rfl)) pa_nil)) (nomark _))
        (pss_cons (ps_asg (pe_op op_mod (pe_callTy call_int1 (by rfl) T.int (by decide +kernel) (pa_cons (pe_op op_add (pe_op op_mul (pe_ix ix_list (pv 0) pe_int (fun _ _ => rfl)) pe_int) pe_int) pa_nil)) pe_int) (pg_sub (pv 0) pe_int set_list))
        (pss_one (ps_ret (pe_op op_mod (pe_callTy call_int1 (by rfl) T.int (by decide +kernel) (pa_cons (pe_op op_fdiv (pe_ix ix_list (pv 0) pe_int (fun _ _ => rfl)) pe_int) pa_nil)) (pv 1))))) pss_nil)
      (pss_cons (ps_set (i := 3) nd rfl (Or.inl rfl) (pe_ix ix_list (pe_ix ix_list (pv 0) pe_int (fun _ _ => rfl)) (pe_op op_sub (pe_ix ix_list (pv 0) pe_int (fun _ _ => rfl)) pe_int) (fun _ _ => rfl)))
      (pss_cons (ps_asg (pe_op op_mod (pe_callTy call_int1 (by rfl) T.int (by decide +kernel) (pa_cons (pe_op op_add (pe_op op_add (pe_op op_mul (pe_ix ix_list (pv 0) pe_int (fun _ _ => rfl)) pe_int) (pv 3)) pe_int) pa_nil)) pe_int) (pg_sub (pv 0) pe_int set_list))
      (pss_cons (ps_asg (pe_ifExp (pt_cmpR op_ge (pv 3) (pe_op op_pow pe_int pe_int) (nomark _)) (pe_op op_fdiv (pv 3) (pv 1)) pe_int) (pg_sub (pv 0) pe_int set_list))
      (pss_one (ps_ret (pe_op op_mod (pe_callTy call_int1 (by rfl) T.int (by decide +kernel) (pa_cons (pv 3) pa_nil)) (pv 1))))))))), ?_⟩
    have mk : ∀ (i' g' l' : Int), 0 ≤ i' → ∀ o, o = HO.lst [.ref a, .int i', .int g', .int l'] → Row K (upd H r o) r a := fun i' g' l' h o e => ⟨ns, i', g', l', by rw [upd_same, e], Row.seq hR hS, hlen, h⟩
    refine ⟨_, rfl, r, _, _, _, rfl, rfl, SqL.of hR, rfl, _, _, rfl, rfl, _, rfl, ?_⟩
    refine ite2 (fun c => ?_) (fun c => ?_)
    · refine ⟨_, rfl, r, _, _, _, rfl, rfl, SqL.of hR, rfl, .inl ⟨_, rfl, _, rfl, _, _, rfl, rfl, hm0, ?_⟩⟩
      refine ⟨_, rfl, r, _, _, _, rfl, rfl, SqL.of hR, rfl, _, rfl, _, _, rfl, rfl, ⟨hm0, hm1⟩, _, rfl, r, _, _, _, rfl, rfl, hR, rfl, ?_⟩
      refine ⟨_, rfl, ?_⟩
      exact k _ _ (Int.emod_nonneg _ (by omega)) (Int.emod_lt_of_pos _ hm0) (mk i g (l / m) hi _ rfl)
    · refine ⟨_, rfl, r, _, _, _, rfl, rfl, SqL.of hR, rfl, _, _, rfl, rfl, _, rfl, r, _, _, _, rfl, rfl, hR, rfl, ?_⟩
      have hR1 : ∀ o : HO, (upd H r o) r = some o := fun o => upd_same
      refine ⟨_, rfl, r, _, _, _, rfl, rfl, SqL.of (hR1 _), rfl, _, rfl, r, _, _, _, rfl, rfl, SqL.of (hR1 _), rfl, a, _, rfl, .inl (Row.seq hR hS), _, _, rfl, rfl, _, rfl, ?_⟩
      refine ite2 (fun c2 => ?_) (fun c2 => ?_)
      · refine ⟨_, rfl, r, _, _, _, rfl, rfl, SqL.of (hR1 _), rfl, _, _, rfl, rfl, .inr ⟨by decide, by decide⟩, _, _, rfl, rfl, .inl ⟨_, rfl, _, _, rfl, rfl, (by show (0 : Int) < 2147483647; decide), _, rfl, r, _, _, _, rfl, rfl, hR1 _, rfl, ?_⟩⟩
        rw [upd_upd]
        refine ⟨_, rfl, r, _, _, _, rfl, rfl, SqL.of (hR1 _), rfl, _, _, rfl, rfl, ⟨by decide, by decide⟩, .inl ⟨_, rfl, _, rfl, _, _, rfl, rfl, hm0, ?_⟩⟩
        exact k _ _ (Int.emod_nonneg _ (by omega)) (Int.emod_lt_of_pos _ hm0) (mk (i + 1) _ l (by omega) _ rfl)
      · have c3 : ¬ ((ns.map V.int).length : Int) < i + 1 := fun z => c2 (decide_eq_true z)
        rw [List.length_map] at c3
        have hin : i.toNat < ns.length := by omega
        have hat : atI (ns.map V.int) ((i + 1) - 1) = some (V.int ns[i.toNat]) := by
          have e : (i + 1) - 1 = ((i.toNat : Nat) : Int) := by omega
          rw [e]
          refine atI_nat ?_
          rw [List.getElem?_map, List.getElem?_eq_getElem hin]
          rfl
        refine ⟨_, rfl, r, _, _, _, rfl, rfl, SqL.of (hR1 _), rfl, _, rfl, r, _, _, _, rfl, rfl, SqL.of (hR1 _), rfl, _, _, rfl, rfl, a, _, _, _, rfl, rfl, Row.seq hR hS, hat, ?_⟩
        refine ⟨_, rfl, r, _, _, _, rfl, rfl, SqL.of (hR1 _), rfl, _, _, rfl, rfl, .inr ⟨by decide, by decide⟩, _, rfl, _, _, rfl, rfl, _, _, rfl, rfl, .inl ⟨_, rfl, _, _, rfl, rfl, (by show (0 : Int) < 2147483647; decide), _, rfl, r, _, _, _, rfl, rfl, hR1 _, rfl, ?_⟩⟩
        rw [upd_upd]
        refine ⟨_, rfl, _, _, rfl, rfl, ⟨by decide, by decide, by decide⟩, _, _, rfl, rfl, _, rfl, ?_⟩
        refine ite2 (fun c4 => ?_) (fun c4 => ?_)
        · refine ⟨_, rfl, _, rfl, _, _, rfl, rfl, ⟨hm0, hm1⟩, _, rfl, r, _, _, _, rfl, rfl, hR1 _, rfl, ?_⟩
          rw [upd_upd]
          refine ⟨_, rfl, .inl ⟨_, rfl, _, rfl, _, _, rfl, rfl, hm0, ?_⟩⟩
          exact k _ _ (Int.emod_nonneg _ (by omega)) (Int.emod_lt_of_pos _ hm0) (mk (i + 1) _ _ (by omega) _ rfl)
        · refine ⟨_, rfl, r, _, _, _, rfl, rfl, hR1 _, rfl, ?_⟩
          rw [upd_upd]
          refine ⟨_, rfl, .inl ⟨_, rfl, _, rfl, _, _, rfl, rfl, hm0, ?_⟩⟩
          exact k _ _ (Int.emod_nonneg _ (by omega)) (Int.emod_lt_of_pos _ hm0) (mk (i + 1) _ _ (by omega) _ rfl)
end
end Half

namespace Half
open PySem PySem.Spec PyProof.Rows L2
abbrev sWord : Stmt := top 20
abbrev sNumber : Stmt := top 21
abbrev sAscends : Stmt := top 22
abbrev sVersion : Stmt := top 27
abbrev sScripts : Stmt := top 28
abbrev sOthers : Stmt := top 29
abbrev sPair : Stmt := top 30
abbrev sNeeds : Stmt := top 31
/-! comprehensions that make one item of each -/
def MapP (H1 : Hp) (D : Addr) (ys : List V) : Nat → Hp → Prop := fun i H => Same H1 H ∧ H D = some (.lst (ys.take i))
theorem MapP.zero {H1 : Hp} {D : Addr} {ys : List V} (hD : H1 D = none) : MapP H1 D ys 0 (upd H1 D (.lst [])) :=
  ⟨fun b o e => by rw [upd_ne (ne_of_none e hD)]; exact e, upd_same⟩
theorem MapP.step {H1 H H4 : Hp} {D : Addr} {ys : List V} {i : Nat} {y : V} (p : MapP H1 D ys i H) (hD : H1 D = none) (hy : ys[i]? = some y) (hl : ys.length ≤ 1000) (e : Same H H4) :
    ∃ acc, H4 D = some (.lst acc) ∧ acc.length < sizeLine ∧ MapP H1 D ys (i + 1) (upd H4 D (.lst (acc ++ [y]))) := by
  refine ⟨_, e _ _ p.2, small1000 (by rw [List.length_take]; omega), fun b o q => ?_, ?_⟩
  · rw [upd_ne (ne_of_none q hD)]
    exact e _ _ (p.1 b o q)
  · rw [upd_same, List.take_add_one, hy]
    rfl
theorem MapP.done {H1 H : Hp} {D : Addr} {ys : List V} {n : Nat} (p : MapP H1 D ys n H) (hn : n = ys.length) : Same H1 H ∧ H D = some (.lst ys) := by
  refine ⟨p.1, ?_⟩
  rw [p.2, hn, List.take_length]
theorem iteNT {c A B : Prop} [Decidable c] (hc : ¬ c) (h : A) : if (!decide c) = true then A else B := by
  rw [decide_eq_false hc]
  exact iteT h
/-! the mirror -/
def LET : Str := "abcdefghijklmnopqrstuvwxyz"
def isWord (z : Str) : Bool := decide (1 ≤ (z.length : Int)) && decide ((z.length : Int) ≤ 8) && z.cps.toList.all fun c => decide (c ∈ LET.cps.toList)
/-- what the top says -/
structure TxtC (K : PySem.W.Frag) (mg : Str → Option Value) (fW fN fA fV fO fP : Addr) (tS : Addr) : Prop where
  d : TxtD mg
  isi : mg "isinstance" = none
  str : mg "str" = none
  boo : mg "bool" = none
  tup : mg "tuple" = none
  all : mg "all" = none
  ran : mg "range" = none
  lets : ∃ t, mg "LETTERS" = some (.str LET t)
  lon : ∃ t, mg "LONGEST_WORD" = some (.int 8 t)
section
variable {P : Program} {w : World} {K : PySem.W.Frag} {mg : Str → Option Value} {base : Heap} {fW fN fA fV fO fP tS : Addr}
def spWord : Sp := fun vs H Q _ => ∃ z : Str, vs = [.str z] ∧ z.length ≤ 1000 ∧ ∀ H', Same H H' → Q (.bl (isWord z)) H'
theorem scWord : FnScope ["text", "letter"] ["text"] (defScope sWord) := ⟨rfl, rfl, rfl, by decide +kernel, rfl, by decide +kernel, by decide +kernel⟩
theorem ok_word {f : Addr} {fd : FuncData} (F : Fun K "is_word" "is_word" sWord f fd) (T : TxtC K mg fW fN fA fV fO fP tS) : FnOk P w K mg base CX0 1 f fd ["text"] spWord := by
  refine F.ok scWord (fun vs H Q E h => ?_) (fun cdv A outer s H vs Q E hr h => ?_)
  · obtain ⟨z, rfl, _⟩ := h
    rfl
  · obtain ⟨z, rfl, hz, k⟩ := h
    obtain ⟨tl, gl⟩ := T.lets
    obtain ⟨t8, g8⟩ := T.lon
    have nd := scWord.nd
    refine ⟨_, pss_cons (ps_if (PW.pt (pw_or (pt_not (pt_val (pe_callB call_isi (by rfl) T.isi (by decide +kernel) (pa_cons (pv 0) (pa_cons (pe_bltn (v := .ty "str") (by rfl) T.str (by decide +kernel) rfl) pa_nil)))))
        (pw_or1 (pt_not (pt_chain op_le op_le pe_int (pe_callB call_len_str (by rfl) T.d.len PySem.boot_len (pa_cons (pv 0) pa_nil)) (pe_glob (v := .int 8) rfl g8 ⟨_, rfl⟩))))))
        (pss_one (ps_ret pe_bl)) pss_nil)
      (pss_one (ps_ret (pe_callB (cr_all rfl) (by rfl) T.all (by decide +kernel) (pa_cons
        (pe_lc (own := [("letter", 1)]) (g := gName 1) (tt := tYes) rfl nd (pi_str (pv 0)) (blkOk_by (N := ["text", "letter"]) (sc := defScope sWord) (by decide +kernel))
          (fun _ _ _ _ _ => pg_name (i := 1) nd rfl (Or.inl rfl)) (fun _ _ _ _ _ => pts_nil)
          (fun _ _ _ _ _ => pe_cmpR op_in_sign (pv 1) (pe_glob (v := .str LET) rfl gl ⟨_, rfl⟩) rfl)) pa_nil)))), ?_⟩
    refine ⟨_, rfl, _, _, _, _, _, rfl, .ty _, .base (.str _), kit_ty (r := true) (by decide +kernel), _, rfl, iteF ?_⟩
    refine ⟨_, rfl, _, rfl, Nat.le_trans hz (by decide), _, _, rfl, rfl, _, rfl, ?_⟩
    have bad : isWord z = false → Q (.bl false) H := fun e => by
      have q := k H (Same.refl H)
      rw [e] at q
      exact q
    refine ite2 (fun c1 => ?_) (fun c1 => ?_)
    · refine ⟨_, _, rfl, rfl, _, rfl, ?_⟩
      by_cases c2 : (z.length : Int) ≤ 8
      · refine iteNS c2 ?_
        refine ⟨_, rfl, z, rfl, fun D hD => lc_it walk_str (MapP H D (z.cps.toList.map fun c => V.bl (decide (c ∈ LET.cps.toList)))) (MapP.zero hD) (fun _ _ _ _ => trivial) ?_ ?_⟩
        · rintro i x H1 H2 hi p ⟨rfl, c, hc, rfl⟩
          refine ⟨rfl, _, rfl, c, _, rfl, rfl, ?_⟩
          refine p.step hD ?_ (by rw [List.length_map, Array.length_toList]; exact hz) (Same.refl _)
          rw [List.getElem?_map, Array.getElem?_toList, hc]
          rfl
        · intro H2 p
          obtain ⟨s2, hl⟩ := p.done (by rw [List.length_map, Array.length_toList])
          refine ⟨D, z.cps.toList.map fun c => decide (c ∈ LET.cps.toList), rfl, SqL.of (by rw [hl, List.map_map]; rfl), ?_⟩
          have e : isWord z = (z.cps.toList.map fun c => decide (c ∈ LET.cps.toList)).all id := by
            unfold isWord
            rw [c1, decide_eq_true c2, List.all_map]
            rfl
          rw [← e]
          exact k H2 s2
      · refine iteNT c2 ?_
        exact bad (by unfold isWord; rw [decide_eq_false c2, Bool.and_false, Bool.false_and])
    · have c1' : decide (1 ≤ (z.length : Int)) = false := by simpa using c1
      refine ⟨_, rfl, iteT ?_⟩
      exact bad (by unfold isWord; rw [c1', Bool.false_and, Bool.false_and])
end
end Half

namespace Half
open PySem PySem.Spec PyProof.Rows L2
/-! ### a def that is known by its promise -/
structure Def (P : Program) (w : World) (K : PySem.W.Frag) (mg : Str → Option Value) (base : Heap) (k : Nat) (x : Str) (ps : List Str) (sp : Sp) : Prop where
  ex : ∃ f fd, FnOk P w K mg base CX0 k f fd ps sp ∧ mg x = some (.ref f) ∧ PySem.W.keepIn K (.ref f) = true ∧ Binds K fd ps []
theorem pe_def {X : Cx} {k : Nat} {x : Str} {ps : List Str} {sp : Sp} {e : Expr} {es : List Expr} {t : TA} {p pos : Pos} (D : Def X.prog X.w X.K X.mg X.base k x ps sp) (hr : Room k X.A) (hg : Gl X x) (ha : PA X (e :: es) t)
    (hdb : (x == ("__debug__" : Str)) = false := by decide) (he : starEach (e :: es) X.env = (false, eval e X.env) :: starEach es X.env := by rfl) (hpl : (backTo pos (starEach es X.env)).any (·.1) = false := by rfl) :
    PE X (.Call (.Name x p) (e :: es) [] pos) (tCall sp [] E0 t) := by
  obtain ⟨f, fd, F, hm, hk, hb⟩ := D.ex
  exact pe_call F hr hg hm hk hb .nil pass0 ha hdb he hpl
theorem _root_.L2.Same.sqT {K : PySem.W.Frag} {H H' : Hp} {a : Addr} {xs : List V} (e : Same H H') (h : SqT K H a xs) : SqT K H' a xs := by
  rcases h with (h | ⟨o, h⟩) | h
  · exact .inl (.inl (e _ _ h))
  · exact .inl (.inr ⟨o, e _ _ h⟩)
  · exact .inr h
theorem tyT {K : PySem.W.Frag} {H : Hp} {a : Addr} {xs : List V} (h : SqT K H a xs) : TyX K H (.ref a) (.type "tuple") := by
  rcases h with (h | ⟨o, h⟩) | ⟨o, its, n, h1, h2, _⟩
  · exact .base (.tup h)
  · exact .fTuple h
  · exact .kTuple h1 h2
theorem _root_.L2.Same.upd_new {H : Hp} {p : Addr} {o : HO} (h : H p = none) : Same H (upd H p o) := fun b u e => by rw [upd_ne (ne_of_none e h)]; exact e
/-! ### the mirror -/
def inR (v : V) (lo hi : Int) : Bool := match v with
  | .int n => decide (lo ≤ n) && decide (n ≤ hi)
  | _ => false
def strLt (a b : Str) : Bool := decide (a.cps.toList < b.cps.toList)
def ascS (ss : List Str) : Bool := (List.range (ss.length - 1)).all fun i => strLt (ss.getD i "") (ss.getD (i + 1) "")
def SCR : List Str := ["clean", "enter", "leave", "setup"]
def areScripts (ss : List Str) : Bool := (ss.all fun z => inV (.str z) (SCR.map V.str)) && ascS ss
def areOthers (ss : List Str) (nm : Str) : Bool := (ss.all fun z => isWord z && !decide (V.str z = V.str nm)) && ascS ss
def areNeeds (ps : List (Str × Int)) (nm : Str) : Bool := (ps.all fun p => inR (.int p.2) 1 99) && areOthers (ps.map (·.1)) nm
/-- needs: a tuple of pairs -/
def NeedsAt (K : PySem.W.Frag) (H : Hp) (a : Addr) (ps : List (Str × Int)) : Prop := ∃ ts : List Addr, SqT K H a (ts.map V.ref) ∧ ts.length = ps.length ∧ ∀ (i : Nat) t p, ts[i]? = some t → ps[i]? = some p → SqT K H t [.str p.1, .int p.2]
theorem NeedsAt.same {K : PySem.W.Frag} {H H' : Hp} {a : Addr} {ps : List (Str × Int)} (e : Same H H') (h : NeedsAt K H a ps) : NeedsAt K H' a ps := by
  obtain ⟨ts, h1, h2, h3⟩ := h
  exact ⟨ts, e.sqT h1, h2, fun i t p q r => e.sqT (h3 i t p q r)⟩
/-! ### promises -/
def spNumber : Sp := fun vs H Q _ => ∃ (v : V) (lo hi : Int), vs = [v, .int lo, .int hi] ∧ ((∃ n, v = .int n) ∨ ∃ b, v = .bl b) ∧ Q (.bl (inR v lo hi)) H
def spVersion : Sp := fun vs H Q _ => ∃ v : V, vs = [v] ∧ ((∃ n, v = .int n) ∨ ∃ b, v = .bl b) ∧ Q (.bl (inR v 1 99)) H
def spAsc (K : PySem.W.Frag) : Sp := fun vs H Q _ => ∃ (a : Addr) (ss : List Str), vs = [.ref a] ∧ SqT K H a (ss.map V.str) ∧ ss.length ≤ 100 ∧ ∀ H', Same H H' → Q (.bl (ascS ss)) H'
def spScripts (K : PySem.W.Frag) : Sp := fun vs H Q _ => ∃ (a : Addr) (ss : List Str), vs = [.ref a] ∧ SqT K H a (ss.map V.str) ∧ ss.length ≤ 100 ∧ ∀ H', Same H H' → Q (.bl (areScripts ss)) H'
def spOthers (K : PySem.W.Frag) : Sp := fun vs H Q _ => ∃ (a : Addr) (ss : List Str) (nm : Str), vs = [.ref a, .str nm] ∧ SqT K H a (ss.map V.str) ∧ ss.length ≤ 100 ∧ (∀ z ∈ ss, z.length ≤ 1000) ∧ ∀ H', Same H H' → Q (.bl (areOthers ss nm)) H'
def spPair (K : PySem.W.Frag) : Sp := fun vs H Q _ => ∃ (t : Addr) (n : Str) (v : Int), vs = [.ref t] ∧ SqT K H t [.str n, .int v] ∧ Q (.bl (inR (.int v) 1 99)) H
def spNeeds (K : PySem.W.Frag) : Sp := fun vs H Q _ => ∃ (a : Addr) (ps : List (Str × Int)) (nm : Str), vs = [.ref a, .str nm] ∧ NeedsAt K H a ps ∧ ps.length ≤ 100 ∧ (∀ p ∈ ps, p.1.length ≤ 1000) ∧ ∀ H', Same H H' → Q (.bl (areNeeds ps nm)) H'
structure TxtE (K : PySem.W.Frag) (mg : Str → Option Value) : Prop where
  d : TxtD mg
  isi : mg "isinstance" = none
  str : mg "str" = none
  boo : mg "bool" = none
  tup : mg "tuple" = none
  all : mg "all" = none
  ran : mg "range" = none
  lv : ∃ t, mg "LEAST_VERSION" = some (.int 1 t)
  mv : ∃ t, mg "MOST_VERSION" = some (.int 99 t)
  scr : ∃ a, mg "SCRIPTS" = some (.ref a) ∧ ∀ H, SqT K H a (SCR.map V.str)
section
variable {P : Program} {w : World} {K : PySem.W.Frag} {mg : Str → Option Value} {base : Heap}
theorem scNumber : FnScope ["value", "least", "most"] ["value", "least", "most"] (defScope sNumber) := ⟨rfl, rfl, rfl, by decide +kernel, rfl, by decide +kernel, by decide +kernel⟩
theorem ok_number {f : Addr} {fd : FuncData} (F : Fun K "is_number" "is_number" sNumber f fd) (T : TxtE K mg) : FnOk P w K mg base CX0 1 f fd ["value", "least", "most"] spNumber := by
  refine F.ok scNumber (fun vs H Q E h => ?_) (fun cdv A outer s H vs Q E hr h => ?_)
  · obtain ⟨v, lo, hi, rfl, _⟩ := h
    rfl
  · obtain ⟨v, lo, hi, rfl, hv, k⟩ := h
    refine ⟨_, pss_cons (ps_if (PW.pt (pw_or (pt_val (pe_callB call_isi (by rfl) T.isi (by decide +kernel) (pa_cons (pv 0) (pa_cons (pe_bltn (v := .ty "bool") (by rfl) T.boo (by decide +kernel) rfl) pa_nil))))
        (pw_or1 (pt_not (pt_val (pe_callB call_isi (by rfl) T.isi (by decide +kernel) (pa_cons (pv 0) (pa_cons (pe_bltn (v := .ty "int") (by rfl) T.d.int (by decide +kernel) rfl) pa_nil))))))))
        (pss_one (ps_ret pe_bl)) pss_nil)
      (pss_one (ps_ret (pe_chain op_le op_le (pv 1) (pv 0) (pv 2)))), ?_⟩
    rcases hv with ⟨n, rfl⟩ | ⟨b, rfl⟩
    · refine ⟨_, rfl, _, _, _, _, _, rfl, .ty _, .base (.int _), kit_ty (r := false) (by decide +kernel), _, rfl, ?_⟩
      refine iteF ?_
      refine ⟨_, rfl, _, _, _, _, _, rfl, .ty _, .base (.int _), kit_ty (r := true) (by decide +kernel), _, rfl, ?_⟩
      refine iteF ?_
      refine ⟨_, rfl, _, rfl, _, _, rfl, rfl, _, rfl, ?_⟩
      refine ite2 (fun c => ?_) (fun c => ?_)
      · refine ⟨_, rfl, _, _, rfl, rfl, ?_⟩
        have e : inR (.int n) lo hi = decide (n ≤ hi) := by show (decide (lo ≤ n) && decide (n ≤ hi)) = _; rw [c, Bool.true_and]
        rw [e] at k
        exact k
      · have c' : decide (lo ≤ n) = false := by simpa using c
        have e : inR (.int n) lo hi = false := by show (decide (lo ≤ n) && decide (n ≤ hi)) = _; rw [c', Bool.false_and]
        rw [e] at k
        exact k
    · refine ⟨_, rfl, _, _, _, _, _, rfl, .ty _, .base (.bl _), kit_ty (r := true) (by decide +kernel), _, rfl, ?_⟩
      exact k
theorem scVersion : FnScope ["value"] ["value"] (defScope sVersion) := ⟨rfl, rfl, rfl, by decide +kernel, rfl, by decide +kernel, by decide +kernel⟩
theorem ok_version {f : Addr} {fd : FuncData} (F : Fun K "is_version" "is_version" sVersion f fd) (T : TxtE K mg) (dN : Def P w K mg base 1 "is_number" ["value", "least", "most"] spNumber) : FnOk P w K mg base CX0 2 f fd ["value"] spVersion := by
  refine F.ok scVersion (fun vs H Q E h => ?_) (fun cdv A outer s H vs Q E hr h => ?_)
  · obtain ⟨v, rfl, _⟩ := h
    rfl
  · obtain ⟨v, rfl, hv, k⟩ := h
    obtain ⟨t1, g1⟩ := T.lv
    obtain ⟨t2, g2⟩ := T.mv
    refine ⟨_, pss_one (ps_ret (pe_def dN hr rfl (pa_cons (pv 0) (pa_cons (pe_glob (v := .int 1) rfl g1 ⟨_, rfl⟩) (pa_cons (pe_glob (v := .int 99) rfl g2 ⟨_, rfl⟩) pa_nil))))), ?_⟩
    exact ⟨_, rfl, v, 1, 99, rfl, hv, k⟩
theorem scAsc : FnScope ["values", "at"] ["values"] (defScope sAscends) := ⟨rfl, rfl, rfl, by decide +kernel, rfl, by decide +kernel, by decide +kernel⟩
theorem ok_asc {f : Addr} {fd : FuncData} (F : Fun K "ascends" "ascends" sAscends f fd) (T : TxtE K mg) : FnOk P w K mg base CX0 1 f fd ["values"] (spAsc K) := by
  refine F.ok scAsc (fun vs H Q E h => ?_) (fun cdv A outer s H vs Q E hr h => ?_)
  · obtain ⟨a, ss, rfl, _⟩ := h
    rfl
  · obtain ⟨a, ss, rfl, hS, hl, k⟩ := h
    have nd := scAsc.nd
    refine ⟨_, pss_one (ps_ret (pe_callB (cr_all rfl) (by rfl) T.all (by decide +kernel) (pa_cons
        (pe_lc (own := [("at", 1)]) (g := gName 1) (tt := tYes) rfl nd (pi_range2 (by rfl) T.ran (pa_cons pe_int (pa_cons (pe_callB call_len_seq (by rfl) T.d.len PySem.boot_len (pa_cons (pv 0) pa_nil)) pa_nil))) (blkOk_by (N := ["values", "at"]) (sc := defScope sAscends) (by decide +kernel))
          (fun _ _ _ _ _ => pg_name (i := 1) nd rfl (Or.inl rfl)) (fun _ _ _ _ _ => pts_nil)
          (fun _ _ _ _ _ => pe_cmpR op_lt_str (pe_ix (ix_tup : IxR _ (rIxT K)) (pv 0) (pe_op op_sub (pv 1) pe_int) (fun _ _ => rfl)) (pe_ix (ix_tup : IxR _ (rIxT K)) (pv 0) (pv 1) (fun _ _ => rfl)) (nomark _))) pa_nil))), ?_⟩
    have hlm : (ss.map V.str).length = ss.length := List.length_map ..
    have hn : (((ss.map V.str).length : Int) - 1).toNat = ss.length - 1 := by omega
    refine ⟨_, rfl, a, _, rfl, .inr hS, 1, _, rfl, ⟨by decide, by decide, by omega, by omega⟩, ?_⟩
    rw [hn]
    refine fun D hD => lc_it walk_range (MapP H D ((List.range (ss.length - 1)).map fun i => V.bl (strLt (ss.getD i "") (ss.getD (i + 1) "")))) (MapP.zero hD) (fun _ _ _ _ => trivial) ?_ ?_
    · rintro i x H1 H2 hi p ⟨rfl, rfl⟩
      have e1 : atI (ss.map V.str) ((1 + (i : Int)) - 1) = some (V.str (ss.getD i "")) := by
        have e : (1 + (i : Int)) - 1 = ((i : Nat) : Int) := by omega
        rw [e]
        refine atI_nat ?_
        rw [List.getElem?_map, List.getD_eq_getElem?_getD, List.getElem?_eq_getElem (by omega)]
        rfl
      have e2 : atI (ss.map V.str) (1 + (i : Int)) = some (V.str (ss.getD (i + 1) "")) := by
        have e : (1 + (i : Int)) = ((i + 1 : Nat) : Int) := by omega
        rw [e]
        refine atI_nat ?_
        rw [List.getElem?_map, List.getD_eq_getElem?_getD, List.getElem?_eq_getElem (by omega)]
        rfl
      refine ⟨rfl, _, rfl, _, rfl, _, _, rfl, rfl, a, _, _, _, rfl, rfl, p.1.sqT hS, e1, _, rfl, _, rfl, a, _, _, _, rfl, rfl, p.1.sqT hS, e2, _, _, rfl, rfl, ?_⟩
      refine p.step hD ?_ (by rw [List.length_map, List.length_range]; omega) (Same.refl _)
      rw [List.getElem?_map, List.getElem?_range hi]
      rfl
    · intro H2 p
      obtain ⟨s2, hl2⟩ := p.done (by rw [List.length_map, List.length_range])
      refine ⟨D, (List.range (ss.length - 1)).map fun i => strLt (ss.getD i "") (ss.getD (i + 1) ""), rfl, SqL.of (by rw [hl2, List.map_map]; rfl), ?_⟩
      have e : ascS ss = ((List.range (ss.length - 1)).map fun i => strLt (ss.getD i "") (ss.getD (i + 1) "")).all id := by
        rw [List.all_map]
        rfl
      rw [← e]
      exact k H2 s2
end
end Half

namespace Half
open PySem PySem.Spec PyProof.Rows L2
theorem all_map_bl {α : Type} (l : List α) (f : α → Bool) : (l.map f).all id = l.all f := by rw [List.all_map]; rfl
theorem flat_strs (l : List Str) : (l.map V.str).all flatV = true := by
  rw [List.all_map, List.all_eq_true]
  intro x _
  rfl
theorem getE {α : Type} {l : List α} {i : Nat} {β : Type} {f : α → β} {y : β} (h : (l.map f)[i]? = some y) : ∃ a, l[i]? = some a ∧ y = f a := by
  rw [List.getElem?_map] at h
  cases e : l[i]? with
  | none => rw [e] at h; cases h
  | some a => rw [e] at h; exact ⟨a, rfl, (Option.some.inj h).symm⟩
section
variable {P : Program} {w : World} {K : PySem.W.Frag} {mg : Str → Option Value} {base : Heap}
theorem scScripts : FnScope ["values", "value"] ["values"] (defScope sScripts) := ⟨rfl, rfl, rfl, by decide +kernel, rfl, by decide +kernel, by decide +kernel⟩
theorem ok_scripts {f : Addr} {fd : FuncData} (F : Fun K "are_scripts" "are_scripts" sScripts f fd) (T : TxtE K mg) (dA : Def P w K mg base 1 "ascends" ["values"] (spAsc K)) : FnOk P w K mg base CX0 2 f fd ["values"] (spScripts K) := by
  refine F.ok scScripts (fun vs H Q E h => ?_) (fun cdv A outer s H vs Q E hr h => ?_)
  · obtain ⟨a, ss, rfl, _⟩ := h
    rfl
  · obtain ⟨a, ss, rfl, hS, hl, k⟩ := h
    have nd := scScripts.nd
    obtain ⟨aS, gS, hSC⟩ := T.scr
    refine ⟨_, pss_cons (ps_if (pt_not (pt_val (pe_callB call_isi (by rfl) T.isi (by decide +kernel) (pa_cons (pv 0) (pa_cons (pe_bltn (v := .ty "tuple") (by rfl) T.tup (by decide +kernel) rfl) pa_nil)))))
        (pss_one (ps_ret pe_bl)) pss_nil)
      (pss_one (ps_ret (pe_and (pe_callB (cr_all rfl) (by rfl) T.all (by decide +kernel) (pa_cons
        (pe_lc (own := [("value", 1)]) (g := gName 1) (tt := tYes) rfl nd (pi_tup (pv 0)) (blkOk_by (N := ["values", "value"]) (sc := defScope sScripts) (by decide +kernel))
          (fun _ _ _ _ _ => pg_name (i := 1) nd rfl (Or.inl rfl)) (fun _ _ _ _ _ => pts_nil)
          (fun _ _ _ _ _ => pe_cmpR (op_in_seq : OpR _ _ (rIn K false)) (pv 1) (pe_glob (v := .ref aS) rfl gS rfl) (by rfl))) pa_nil))
        (pe_one (pe_def dA hr rfl (pa_cons (pv 0) pa_nil)))))), ?_⟩
    refine ⟨_, rfl, _, _, _, _, _, rfl, .ty _, tyT hS, kit_ty (r := true) (by decide +kernel), _, rfl, ?_⟩
    refine iteF ?_
    refine ⟨_, rfl, a, rfl, ⟨_, hS⟩, fun D hD => lc_it (walk_tup (xs := ss.map V.str)) (MapP H D (ss.map fun z => V.bl (inV (.str z) (SCR.map V.str)))) (MapP.zero hD) (fun _ _ _ p => p.1.sqT hS) ?_ ?_⟩
    · rintro i x H1 H2 hi p ⟨rfl, hx⟩
      obtain ⟨z, hz, rfl⟩ := getE hx
      refine ⟨rfl, _, rfl, aS, _, rfl, .inr (hSC _), rfl, flat_strs _, ?_⟩
      refine p.step hD ?_ (by rw [List.length_map]; omega) (Same.refl _)
      rw [List.getElem?_map, hz]
      rfl
    · intro H2 p
      obtain ⟨s2, hl2⟩ := p.done (by rw [List.length_map, List.length_map])
      refine ⟨D, ss.map fun z => inV (.str z) (SCR.map V.str), rfl, SqL.of (by rw [hl2, List.map_map]; rfl), _, rfl, ?_⟩
      rw [all_map_bl]
      refine ite2 (fun c => ?_) (fun c => ?_)
      · refine ⟨_, rfl, a, ss, rfl, s2.sqT hS, hl, fun H3 s3 => ?_⟩
        have e : areScripts ss = ascS ss := by unfold areScripts; rw [c, Bool.true_and]
        rw [← e]
        exact k H3 (s2.trans s3)
      · have c' : (ss.all fun z => inV (.str z) (SCR.map V.str)) = false := by simpa using c
        have e : areScripts ss = false := by unfold areScripts; rw [c', Bool.false_and]
        rw [← e]
        exact k H2 s2
theorem scOthers : FnScope ["values", "name", "value"] ["values", "name"] (defScope sOthers) := ⟨rfl, rfl, rfl, by decide +kernel, rfl, by decide +kernel, by decide +kernel⟩
theorem ok_others {f : Addr} {fd : FuncData} (F : Fun K "are_other_names" "are_other_names" sOthers f fd) (T : TxtE K mg) (dA : Def P w K mg base 1 "ascends" ["values"] (spAsc K)) (dW : Def P w K mg base 1 "is_word" ["text"] spWord) : FnOk P w K mg base CX0 2 f fd ["values", "name"] (spOthers K) := by
  refine F.ok scOthers (fun vs H Q E h => ?_) (fun cdv A outer s H vs Q E hr h => ?_)
  · obtain ⟨a, ss, nm, rfl, _⟩ := h
    rfl
  · obtain ⟨a, ss, nm, rfl, hS, hl, hw, k⟩ := h
    have nd := scOthers.nd
    refine ⟨_, pss_cons (ps_if (pt_not (pt_val (pe_callB call_isi (by rfl) T.isi (by decide +kernel) (pa_cons (pv 0) (pa_cons (pe_bltn (v := .ty "tuple") (by rfl) T.tup (by decide +kernel) rfl) pa_nil)))))
        (pss_one (ps_ret pe_bl)) pss_nil)
      (pss_one (ps_ret (pe_and (pe_callB (cr_all rfl) (by rfl) T.all (by decide +kernel) (pa_cons
        (pe_lc (own := [("value", 2)]) (g := gName 2) (tt := tYes) rfl nd (pi_tup (pv 0)) (blkOk_by (N := ["values", "name", "value"]) (sc := defScope sOthers) (by decide +kernel))
          (fun _ _ _ _ _ => pg_name (i := 2) nd rfl (Or.inl rfl)) (fun _ _ _ _ _ => pts_nil)
          (fun _ _ _ _ _ => pe_and (pe_def dW hr rfl (pa_cons (pv 2) pa_nil)) (pe_one (pe_cmpR op_ne (pv 2) (pv 1) (nomark _))))) pa_nil))
        (pe_one (pe_def dA hr rfl (pa_cons (pv 0) pa_nil)))))), ?_⟩
    refine ⟨_, rfl, _, _, _, _, _, rfl, .ty _, tyT hS, kit_ty (r := true) (by decide +kernel), _, rfl, ?_⟩
    refine iteF ?_
    refine ⟨_, rfl, a, rfl, ⟨_, hS⟩, fun D hD => lc_it (walk_tup (xs := ss.map V.str)) (MapP H D (ss.map fun z => V.bl (isWord z && !decide (V.str z = V.str nm)))) (MapP.zero hD) (fun _ _ _ p => p.1.sqT hS) ?_ ?_⟩
    · rintro i x H1 H2 hi p ⟨rfl, hx⟩
      obtain ⟨z, hz, rfl⟩ := getE hx
      refine ⟨rfl, _, rfl, z, rfl, hw z (List.mem_of_getElem? hz), fun H3 s3 => ⟨_, rfl, ?_⟩⟩
      have fin : ∀ b, b = (isWord z && !decide (V.str z = V.str nm)) → ∃ acc, H3 D = some (.lst acc) ∧ acc.length < sizeLine ∧ MapP H D (ss.map fun z => V.bl (isWord z && !decide (V.str z = V.str nm))) (i + 1) (upd H3 D (.lst (acc ++ [V.bl b]))) := fun b e => by
        refine p.step hD ?_ (by rw [List.length_map]; omega) s3
        rw [List.getElem?_map, hz, e]
        rfl
      refine ite2 (fun c => ?_) (fun c => ?_)
      · refine ⟨_, rfl, _, rfl, rfl, ?_⟩
        exact fin _ (by rw [c, Bool.true_and])
      · have c' : isWord z = false := by simpa using c
        exact fin _ (by rw [c', Bool.false_and])
    · intro H2 p
      obtain ⟨s2, hl2⟩ := p.done (by rw [List.length_map, List.length_map])
      refine ⟨D, ss.map fun z => (isWord z && !decide (V.str z = V.str nm)), rfl, SqL.of (by rw [hl2, List.map_map]; rfl), _, rfl, ?_⟩
      rw [all_map_bl]
      refine ite2 (fun c => ?_) (fun c => ?_)
      · refine ⟨_, rfl, a, ss, rfl, s2.sqT hS, hl, fun H3 s3 => ?_⟩
        have e : areOthers ss nm = ascS ss := by unfold areOthers; rw [c, Bool.true_and]
        rw [← e]
        exact k H3 (s2.trans s3)
      · have c' : (ss.all fun z => (isWord z && !decide (V.str z = V.str nm))) = false := by simpa using c
        have e : areOthers ss nm = false := by unfold areOthers; rw [c', Bool.false_and]
        rw [← e]
        exact k H2 s2
theorem scPair : FnScope ["value"] ["value"] (defScope sPair) := ⟨rfl, rfl, rfl, by decide +kernel, rfl, by decide +kernel, by decide +kernel⟩
theorem ok_pair {f : Addr} {fd : FuncData} (F : Fun K "is_pair_with_version" "is_pair_with_version" sPair f fd) (T : TxtE K mg) (dV : Def P w K mg base 2 "is_version" ["value"] spVersion) : FnOk P w K mg base CX0 3 f fd ["value"] (spPair K) := by
  refine F.ok scPair (fun vs H Q E h => ?_) (fun cdv A outer s H vs Q E hr h => ?_)
  · obtain ⟨t, n, v, rfl, _⟩ := h
    rfl
  · obtain ⟨t, n, v, rfl, hS, k⟩ := h
    refine ⟨_, pss_one (ps_ret (pe_and (pe_callB call_isi (by rfl) T.isi (by decide +kernel) (pa_cons (pv 0) (pa_cons (pe_bltn (v := .ty "tuple") (by rfl) T.tup (by decide +kernel) rfl) pa_nil)))
      (pe_and (pe_cmpR op_eq (pe_callB call_len_seq (by rfl) T.d.len PySem.boot_len (pa_cons (pv 0) pa_nil)) pe_int (nomark _))
        (pe_one (pe_def dV hr rfl (pa_cons (pe_ix ix_tup (pv 0) pe_int (fun _ _ => rfl)) pa_nil)))))), ?_⟩
    refine ⟨_, rfl, _, _, _, _, _, rfl, .ty _, tyT hS, kit_ty (r := true) (by decide +kernel), _, rfl, ?_⟩
    refine iteT ?_
    refine ⟨_, rfl, t, _, rfl, .inr hS, rfl, true, rfl, ?_⟩
    refine iteT ?_
    exact ⟨_, rfl, t, _, _, _, rfl, rfl, hS, rfl, _, rfl, .inl ⟨_, rfl⟩, k⟩
theorem scNeeds : FnScope ["values", "name", "value"] ["values", "name"] (defScope sNeeds) := ⟨rfl, rfl, rfl, by decide +kernel, rfl, by decide +kernel, by decide +kernel⟩
theorem ok_needs {f : Addr} {fd : FuncData} (F : Fun K "are_needs" "are_needs" sNeeds f fd) (T : TxtE K mg) (dP : Def P w K mg base 3 "is_pair_with_version" ["value"] (spPair K)) (dO : Def P w K mg base 2 "are_other_names" ["values", "name"] (spOthers K)) : FnOk P w K mg base CX0 4 f fd ["values", "name"] (spNeeds K) := by
  refine F.ok scNeeds (fun vs H Q E h => ?_) (fun cdv A outer s H vs Q E hr h => ?_)
  · obtain ⟨a, ps, nm, rfl, _⟩ := h
    rfl
  · obtain ⟨a, ps, nm, rfl, hN, hl, hw, k⟩ := h
    have nd := scNeeds.nd
    obtain ⟨ts, hS, htl, hts⟩ := id hN
    refine ⟨_, pss_cons (ps_if (PW.pt (pw_or (pt_not (pt_val (pe_callB call_isi (by rfl) T.isi (by decide +kernel) (pa_cons (pv 0) (pa_cons (pe_bltn (v := .ty "tuple") (by rfl) T.tup (by decide +kernel) rfl) pa_nil)))))
        (pw_or1 (pt_not (pt_val (pe_callB (cr_all rfl) (by rfl) T.all (by decide +kernel) (pa_cons
          (pe_lc (own := [("value", 2)]) (g := gName 2) (tt := tYes) rfl nd (pi_tup (pv 0)) (blkOk_by (N := ["values", "name", "value"]) (sc := defScope sNeeds) (by decide +kernel))
            (fun _ _ _ _ _ => pg_name (i := 2) nd rfl (Or.inl rfl)) (fun _ _ _ _ _ => pts_nil)
            (fun _ _ _ _ _ => pe_def dP hr rfl (pa_cons (pv 2) pa_nil))) pa_nil)))))))
        (pss_one (ps_ret pe_bl)) pss_nil)
      (pss_one (ps_ret (pe_def dO (hr.mono (by decide)) rfl (pa_cons (pe_callTy call_tuple_of (by rfl) T.tup (by decide +kernel) (pa_cons
          (pe_lc (own := [("value", 2)]) (g := gName 2) (tt := tYes) rfl nd (pi_tup (pv 0)) (blkOk_by (N := ["values", "name", "value"]) (sc := defScope sNeeds) (by decide +kernel))
            (fun _ _ _ _ _ => pg_name (i := 2) nd rfl (Or.inl rfl)) (fun _ _ _ _ _ => pts_nil)
            (fun _ _ _ _ _ => pe_ix (ix_tup : IxR _ (rIxT K)) (pv 2) pe_int (fun _ _ => rfl))) pa_nil)) (pa_cons (pv 1) pa_nil))))), ?_⟩
    refine ⟨_, rfl, _, _, _, _, _, rfl, .ty _, tyT hS, kit_ty (r := true) (by decide +kernel), _, rfl, ?_⟩
    refine iteF ?_
    refine ⟨_, rfl, a, rfl, ⟨_, hS⟩, fun D hD => lc_it (walk_tup (xs := ts.map V.ref)) (MapP H D (ps.map fun p => V.bl (inR (.int p.2) 1 99))) (MapP.zero hD) (fun _ _ _ p => p.1.sqT hS) ?_ ?_⟩
    · rintro i x H1 H2 hi p ⟨rfl, hx⟩
      obtain ⟨t, ht, rfl⟩ := getE hx
      have hip : i < ps.length := by rw [List.length_map] at hi; omega
      refine ⟨rfl, _, rfl, t, _, _, rfl, p.1.sqT (hts i t _ ht (List.getElem?_eq_getElem hip)), ?_⟩
      refine p.step hD ?_ (by rw [List.length_map]; omega) (Same.refl _)
      rw [List.getElem?_map, List.getElem?_eq_getElem hip]
      rfl
    · intro H2 p
      obtain ⟨s2, hl2⟩ := p.done (by rw [List.length_map, List.length_map, htl])
      refine ⟨D, ps.map fun p => inR (.int p.2) 1 99, rfl, SqL.of (by rw [hl2, List.map_map]; rfl), _, rfl, ?_⟩
      rw [all_map_bl]
      cases c : (ps.all fun p => inR (.int p.2) 1 99) with
      | false =>
        refine iteT ?_
        have e : areNeeds ps nm = false := by unfold areNeeds; rw [c, Bool.false_and]
        have q := k H2 s2
        rw [e] at q
        exact q
      | true =>
        refine iteF ?_
        refine ⟨_, rfl, a, rfl, ⟨_, s2.sqT hS⟩, fun D2 hD2 => lc_it (walk_tup (xs := ts.map V.ref)) (MapP H2 D2 (ps.map fun p => V.str p.1)) (MapP.zero hD2) (fun _ _ _ p => (s2.trans p.1).sqT hS) ?_ ?_⟩
        · rintro i x H3 H4 hi p2 ⟨rfl, hx⟩
          obtain ⟨t, ht, rfl⟩ := getE hx
          have hip : i < ps.length := by rw [List.length_map] at hi; omega
          refine ⟨rfl, _, rfl, t, _, _, _, rfl, rfl, (s2.trans p2.1).sqT (hts i t _ ht (List.getElem?_eq_getElem hip)), rfl, ?_⟩
          refine p2.step hD2 ?_ (by rw [List.length_map]; omega) (Same.refl _)
          rw [List.getElem?_map, List.getElem?_eq_getElem hip]
          rfl
        · intro H3 p2
          obtain ⟨s3, hl3⟩ := p2.done (by rw [List.length_map, List.length_map, htl])
          refine ⟨D2, _, rfl, .inl ⟨SqL.of hl3, fun tp htp => ⟨_, rfl, tp, ps.map (·.1), nm, rfl, .inl (.inl ?_), ?_, ?_, fun H5 s5 => ?_⟩⟩⟩
          · rw [upd_same, List.map_map]
            rfl
          · rw [List.length_map]
            exact hl
          · intro z hz
            obtain ⟨p, hp, rfl⟩ := List.mem_map.mp hz
            exact hw p hp
          · have e : areNeeds ps nm = areOthers (ps.map (·.1)) nm := by unfold areNeeds; rw [c, Bool.true_and]
            rw [← e]
            exact k H5 (s2.trans (s3.trans ((Same.upd_new htp).trans s5)))
end
end Half

namespace Half
open PySem PySem.Spec PyProof.Rows L2
abbrev sWrong : Stmt := top 32
/-- an edition's parameters -/
structure Ed where
  name : Str
  version : V
  scripts : List Str
  needs : List (Str × Int)
  first : List (Str × Int)
  against : List Str
def Ed.checks (e : Ed) : List (Str × Bool) := [("name", isWord e.name), ("version", inR e.version 1 99), ("scripts", areScripts e.scripts), ("needs", areNeeds e.needs e.name), ("first", areNeeds e.first e.name), ("against", areOthers e.against e.name)]
def Ed.wrong (e : Ed) : Option Str := (e.checks.find? fun q => !q.2).map (·.1)
def optV : Option Str → V
  | none => .non
  | some x => .str x
/-- sizes that no check is beyond -/
structure Ed.Small (e : Ed) : Prop where
  name : e.name.length ≤ 1000
  version : (∃ n, e.version = .int n) ∨ ∃ b, e.version = .bl b
  scripts : e.scripts.length ≤ 100
  needs : e.needs.length ≤ 100 ∧ ∀ p ∈ e.needs, p.1.length ≤ 1000
  first : e.first.length ≤ 100 ∧ ∀ p ∈ e.first, p.1.length ≤ 1000
  against : e.against.length ≤ 100 ∧ ∀ z ∈ e.against, z.length ≤ 1000
/-- its six values -/
structure EdAt (K : PySem.W.Frag) (H : Hp) (e : Ed) (s n f g : Addr) : Prop where
  scripts : SqT K H s (e.scripts.map V.str)
  needs : NeedsAt K H n e.needs
  first : NeedsAt K H f e.first
  against : SqT K H g (e.against.map V.str)
theorem EdAt.same {K : PySem.W.Frag} {H H' : Hp} {e : Ed} {s n f g : Addr} (S : Same H H') (h : EdAt K H e s n f g) : EdAt K H' e s n f g :=
  ⟨S.sqT h.scripts, h.needs.same S, h.first.same S, S.sqT h.against⟩
theorem find_first {l : List (Str × Bool)} {i : Nat} {p : Str × Bool} (h : ∀ j q, j < i → l[j]? = some q → q.2 = true) (hi : l[i]? = some p) (hp : p.2 = false) : l.find? (fun q => !q.2) = some p := by
  induction l generalizing i with
  | nil => simp at hi
  | cons a l ih =>
    cases i with
    | zero =>
      have e : a = p := by simpa using hi
      subst e
      simp [hp]
    | succ i =>
      have ha : a.2 = true := h 0 a (Nat.succ_pos _) rfl
      rw [List.find?_cons_of_neg (by simp [ha])]
      exact ih (i := i) (fun j q hj e => h (j + 1) q (Nat.succ_lt_succ hj) (by simpa using e)) (by simpa using hi)
theorem find_none {l : List (Str × Bool)} (h : ∀ j q, j < l.length → l[j]? = some q → q.2 = true) : l.find? (fun q => !q.2) = none := by
  rw [List.find?_eq_none]
  intro q hq
  obtain ⟨j, hj, e⟩ := List.mem_iff_getElem.mp hq
  have := h j q hj (by rw [List.getElem?_eq_getElem hj, e])
  simp [this]
def spWrong (K : PySem.W.Frag) : Sp := fun vs H Q _ => ∃ (e : Ed) (s n f g : Addr), vs = [.str e.name, e.version, .ref s, .ref n, .ref f, .ref g] ∧ EdAt K H e s n f g ∧ e.Small ∧ ∀ H', Same H H' → Q (optV e.wrong) H'
structure Checks (P : Program) (w : World) (K : PySem.W.Frag) (mg : Str → Option Value) (base : Heap) : Prop where
  wo : Def P w K mg base 1 "is_word" ["text"] spWord
  ve : Def P w K mg base 2 "is_version" ["value"] spVersion
  sc : Def P w K mg base 2 "are_scripts" ["values"] (spScripts K)
  ne : Def P w K mg base 4 "are_needs" ["values", "name"] (spNeeds K)
  ot : Def P w K mg base 2 "are_other_names" ["values", "name"] (spOthers K)
section
variable {P : Program} {w : World} {K : PySem.W.Frag} {mg : Str → Option Value} {base : Heap}
theorem scWrong : FnScope ["name", "version", "scripts", "needs", "first", "against", "checked", "part", "right"] ["name", "version", "scripts", "needs", "first", "against"] (defScope sWrong) := ⟨rfl, rfl, rfl, by decide +kernel, rfl, by decide +kernel, by decide +kernel⟩
theorem two_le : 2 ≤ sizeLine := by decide
theorem ok_wrong {f : Addr} {fd : FuncData} (F : Fun K "wrong_part" "wrong_part" sWrong f fd) (T : TxtE K mg) (C : Checks P w K mg base) : FnOk P w K mg base CX0 5 f fd ["name", "version", "scripts", "needs", "first", "against"] (spWrong K) := by
  refine F.ok scWrong (fun vs H Q E h => ?_) (fun cdv A outer s H vs Q E hr h => ?_)
  · obtain ⟨e, s, n, f, g, rfl, _⟩ := h
    rfl
  · obtain ⟨e, as, an, af, ag, rfl, hE, hz, k⟩ := h
    have nd := scWrong.nd
    have r1 : Room 1 _ := hr.mono (by decide)
    have r2 : Room 2 _ := hr.mono (by decide)
    refine ⟨_, pss_cons (ps_set (i := 6) nd rfl (Or.inl rfl) (pe_tup
        (pa_cons (pe_tup (pa_cons pe_str (pa_cons (pe_def C.wo r1 rfl (pa_cons (pv 0) pa_nil)) pa_nil)))
        (pa_cons (pe_tup (pa_cons pe_str (pa_cons (pe_def C.ve r2 rfl (pa_cons (pv 1) pa_nil)) pa_nil)))
        (pa_cons (pe_tup (pa_cons pe_str (pa_cons (pe_def C.sc r2 rfl (pa_cons (pv 2) pa_nil)) pa_nil)))
        (pa_cons (pe_tup (pa_cons pe_str (pa_cons (pe_def C.ne hr rfl (pa_cons (pv 3) (pa_cons (pv 0) pa_nil))) pa_nil)))
        (pa_cons (pe_tup (pa_cons pe_str (pa_cons (pe_def C.ne hr rfl (pa_cons (pv 4) (pa_cons (pv 0) pa_nil))) pa_nil)))
        (pa_cons (pe_tup (pa_cons pe_str (pa_cons (pe_def C.ot r2 rfl (pa_cons (pv 5) (pa_cons (pv 0) pa_nil))) pa_nil))) pa_nil))))))))
      (pss_cons (ps_for PassesOwn.never rfl (pi_tup (pv 6)) (pg_tup rfl (pgs_cons (pg_name (i := 7) nd rfl (Or.inl rfl)) (pgs_cons (pg_name (i := 8) nd rfl (Or.inl rfl)) pgs_nil)))
        (pss_one (ps_if (pt_not (pt_val (pv 8))) (pss_one (ps_ret (pv 7))) pss_nil)))
      (pss_one (ps_ret pe_non))), ?_⟩
    refine ⟨_, rfl, e.name, rfl, hz.name, fun H1 s1 => ⟨two_le, fun t1 n1 => ?_⟩⟩
    refine ⟨_, rfl, e.version, rfl, hz.version, two_le, fun t2 n2 => ?_⟩
    have s2 := (s1.trans (Same.upd_new (o := .tup [.str "name", .bl (isWord e.name)]) n1)).trans (Same.upd_new (o := .tup [.str "version", .bl (inR e.version 1 99)]) n2)
    refine ⟨_, rfl, as, _, rfl, s2.sqT hE.scripts, hz.scripts, fun H3 s3 => ⟨two_le, fun t3 n3 => ?_⟩⟩
    have s3' := (s2.trans s3).trans (Same.upd_new (o := .tup [.str "scripts", .bl (areScripts e.scripts)]) n3)
    refine ⟨_, rfl, _, rfl, an, _, _, rfl, hE.needs.same s3', hz.needs.1, hz.needs.2, fun H4 s4 => ⟨two_le, fun t4 n4 => ?_⟩⟩
    have s4' := (s3'.trans s4).trans (Same.upd_new (o := .tup [.str "needs", .bl (areNeeds e.needs e.name)]) n4)
    refine ⟨_, rfl, _, rfl, af, _, _, rfl, hE.first.same s4', hz.first.1, hz.first.2, fun H5 s5 => ⟨two_le, fun t5 n5 => ?_⟩⟩
    have s5' := (s4'.trans s5).trans (Same.upd_new (o := .tup [.str "first", .bl (areNeeds e.first e.name)]) n5)
    refine ⟨_, rfl, _, rfl, ag, _, _, rfl, s5'.sqT hE.against, hz.against.1, hz.against.2, fun H6 s6 => ⟨two_le, fun t6 n6 => ⟨(by show 6 ≤ sizeLine; decide), fun TT nT => ?_⟩⟩⟩
    have z6 := Same.upd_new (o := .tup [.str "against", .bl (areOthers e.against e.name)]) n6
    have zT := Same.upd_new (o := .tup [.ref t1, .ref t2, .ref t3, .ref t4, .ref t5, .ref t6]) nT
    have zz := z6.trans zT
    have z5 := ((Same.upd_new (o := .tup [.str "first", .bl (areNeeds e.first e.name)]) n5).trans s6).trans zz
    have z4 := ((Same.upd_new (o := .tup [.str "needs", .bl (areNeeds e.needs e.name)]) n4).trans s5).trans z5
    have z3 := ((Same.upd_new (o := .tup [.str "scripts", .bl (areScripts e.scripts)]) n3).trans s4).trans z4
    have z2 := ((Same.upd_new (o := .tup [.str "version", .bl (inR e.version 1 99)]) n2).trans s3).trans z3
    have z1 := (Same.upd_new (o := .tup [.str "name", .bl (isWord e.name)]) n1).trans z2
    have hAll := (s5'.trans s6).trans zz
    generalize hHF : upd (upd H6 t6 _) TT _ = HF at *
    have hts : ∀ (i : Nat) x p, ([t1, t2, t3, t4, t5, t6] : List Addr)[i]? = some x → e.checks[i]? = some p → SqT K HF x [.str p.1, .bl p.2] := by
      have a1 : HF t1 = _ := z2 _ _ upd_same
      have a2 : HF t2 = _ := z3 _ _ (s3 _ _ upd_same)
      have a3 : HF t3 = _ := z4 _ _ (s4 _ _ upd_same)
      have a4 : HF t4 = _ := z5 _ _ (s5 _ _ upd_same)
      have a5 : HF t5 = _ := zz _ _ (s6 _ _ upd_same)
      have a6 : HF t6 = _ := zT _ _ upd_same
      intro i x p hx hp
      match i with
      | 0 => cases hx; cases hp; exact .inl (.inl a1)
      | 1 => cases hx; cases hp; exact .inl (.inl a2)
      | 2 => cases hx; cases hp; exact .inl (.inl a3)
      | 3 => cases hx; cases hp; exact .inl (.inl a4)
      | 4 => cases hx; cases hp; exact .inl (.inl a5)
      | 5 => cases hx; cases hp; exact .inl (.inl a6)
      | i + 6 => simp at hx
    have hTT : SqT K HF TT ([t1, t2, t3, t4, t5, t6].map V.ref) := .inl (.inl (by rw [← hHF]; exact upd_same))
    refine ⟨_, rfl, TT, rfl, ⟨_, hTT⟩, for_it (walk_tup (xs := [t1, t2, t3, t4, t5, t6].map V.ref)) (fun i σ H' => H' = HF ∧ (∃ v7 v8, σ = [some (.str e.name), some e.version, some (.ref as), some (.ref an), some (.ref af), some (.ref ag), some (.ref TT), v7, v8]) ∧ ∀ j q, j < i → e.checks[j]? = some q → q.2 = true)
      ⟨rfl, ⟨none, none, rfl⟩, fun j q hj => absurd hj (Nat.not_lt_zero _)⟩ (fun i σ H' _ h => by rw [h.1]; exact hTT) ?_ ?_⟩
    · rintro i x σ H' H'' hi ⟨rfl, ⟨v7, v8, rfl⟩, hbef⟩ ⟨rfl, hx⟩
      obtain ⟨t, ht, rfl⟩ := getE hx
      have hip : i < e.checks.length := hi
      have hp := List.getElem?_eq_getElem hip
      refine ⟨t, _, rfl, hts i t _ ht hp, rfl, _, _, rfl, _, _, rfl, rfl, ?_⟩
      refine ⟨_, rfl, _, rfl, ?_⟩
      cases c : e.checks[i].2 with
      | false =>
        refine iteT ?_
        refine ⟨_, rfl, ?_⟩
        have e1 : e.wrong = some e.checks[i].1 := by
          unfold Ed.wrong
          rw [find_first hbef hp c]
          rfl
        have q := k H'' hAll
        rw [e1] at q
        exact q
      | true =>
        refine iteF ?_
        refine ⟨rfl, ⟨_, _, rfl⟩, fun j q hj hq => ?_⟩
        by_cases hji : j = i
        · subst hji
          rw [hp] at hq
          rw [← Option.some.inj hq]
          exact c
        · exact hbef j q (by omega) hq
    · rintro σ H' ⟨rfl, _, hbef⟩
      have e1 : e.wrong = none := by
        unfold Ed.wrong
        rw [find_none fun j q hj hq => hbef j q hj hq]
        rfl
      have q := k H' hAll
      rw [e1] at q
      exact q
end
end Half

namespace Half
open PySem PySem.Spec PyProof.Rows L2
abbrev sIe : Stmt := inClass (top 2) 0
/-- what stands of an error class with its own __init__ (one parameter, super().__init__(..), one field fl) -/
def spErr (C : Addr) (fl : Str) : Sp := fun vs H Q _ => ∃ (a : Addr) (p : Str), vs = [.ref a, .str p] ∧ H a = some (exo a C none) ∧ p.length ≤ 1000 ∧
  ∀ dx, H dx = none → dx ≠ a → Q .non (upd (upd H dx (exd dx [(fl, .str p)])) a (exo a C (some dx)))
/-- the __init__ at f as the top has made it -/
structure ErrFn (P : Program) (K : PySem.W.Frag) (C : Addr) (qual : Str) (st : Stmt) (f : Addr) (fd : FuncData) : Prop where
  ex : ∃ (oc : Value) (od : Option Addr) (kV doc pm : Value) (an : Option Addr) (cda cc : Addr) (ct : Value) (osl : Array (Option Value)) (ccl : Value) (cdd : Option Addr) (vsc : Array Value) (ccs : Array (Option Value)) (file : Str) (tf : Tok) (cl : Value) (cld : Option Addr) (csl : Array (Option Value)),
    fd = PySem.W.ksFn "__init__" qual (defArgs st) (defBody st) (defScope st) .none kV doc pm an (.ref cda) ct cc ∧ K.lookup f = some ⟨oc, od, .func fd, osl⟩ ∧ PySem.W.codeIn K (.ref cda) qual = true ∧
    K.lookup cda = some ⟨ccl, cdd, .fields vsc, ccs⟩ ∧ vsc[2]? = some (.str file tf) ∧ ((P.main.file : Str) == file) = true ∧ K.lookup cc = some ⟨cl, cld, .cell (some (.ref C)), csl⟩
theorem scIe : SupScope ["self", "part"] ["self", "part"] (defScope sIe) := ⟨rfl, rfl, rfl, by decide +kernel, rfl, by decide +kernel, by decide +kernel, by decide +kernel, rfl, rfl⟩
theorem app_len (a b : Str) : (a ++ b).length = a.length + b.length := by
  show (a.cps ++ b.cps).size = _
  rw [Array.size_append]
  rfl
section
variable {P : Program} {w : World} {K : PySem.W.Frag} {mg : Str → Option Value} {base : Heap}
theorem ok_ie {C f : Addr} {fd : FuncData} (F : ErrFn P K C "InvalidEdition.__init__" sIe f fd) (T : SupC P K mg C) (nF : PySem.W.findIn K (.ref C) "part" = some none) : FnOk P w K mg base CX0 1 f fd ["self", "part"] (spErr C "part") := by
  obtain ⟨oc, od, kV, doc, pm, an, cda, cc, ct, osl, ccl, cdd, vsc, ccs, file, tf, cl, cld, csl, rfl, lk, hcd, hcode, hvs, hfile, hcell⟩ := F.ex
  refine fn_sup (N := ["self", "part"]) lk hcd scIe rfl rfl rfl hcode hvs hfile hcell T (fun vs H Q E h => ?_) (fun _ => rfl) (fun _ => rfl) (fun _ => rfl) (fun A outer s H vs Q E hr h => ?_)
  · obtain ⟨a, p, rfl, _⟩ := h
    rfl
  · obtain ⟨a, p, rfl, ha, hp, k⟩ := h
    refine ⟨a, _, _, rfl, ha, pa_cons (pe_joined (.cons pe_str (.cons (pe_fmt (pv 1)) (.cons pe_str .nil)))) pa_nil, pss_one (ps_ost (pv 0) (pv 1)), ?_⟩
    have l1 : ∀ x y : Str, x.length ≤ 100 → y.length ≤ 1200 → (x ++ y).length ≤ sizeLine := fun x y hx hy => by rw [app_len, sizeLine_eq]; omega
    refine ⟨_, rfl, (by decide), _, rfl, .inl ⟨p, rfl, Nat.le_trans hp (by decide), p, rfl, ?_, _, rfl, ?_, ?_⟩⟩
    · rw [app_len, app_len, sizeLine_eq]
      have : ("this cannot be the " : Str).length = 19 := by decide
      have e0 : (Str.empty).length = 0 := by decide
      omega
    · rw [app_len, app_len, app_len, sizeLine_eq]
      have : ("this cannot be the " : Str).length = 19 := by decide
      have : (" of an edition" : Str).length = 14 := by decide
      have e0 : (Str.empty).length = 0 := by decide
      omega
    · refine ⟨by show 1 ≤ 1000; decide, ha, ?_⟩
      refine ⟨_, rfl, _, rfl, a, C, rfl, T.oex, nF, .inl ⟨ha, fun dx h1 h2 => k dx h1 h2⟩⟩
end
end Half

namespace Half
open PySem PySem.Spec PyProof.Rows L2
abbrev sEi : Stmt := inClass (top 33) 0
abbrev sGet (i : Nat) : Stmt := inClass (top 33) (i + 1)
abbrev sEq : Stmt := inClass (top 33) 7
/-- all but the object at x stands as it stood -/
def SameBut (x : Addr) (H H' : Hp) : Prop := ∀ b o, b ≠ x → H b = some o → H' b = some o
/-- an edition at a -/
structure EdObj (K : PySem.W.Frag) (H : Hp) (C : Addr) (a : Addr) (e : Ed) (s n f g : Addr) : Prop where
  ob : ∃ dx p, H a = some (.ins C dx [("parts", .ref p)]) ∧ H p = some (.tup [.str e.name, e.version, .ref s, .ref n, .ref f, .ref g])
  at_ : EdAt K H e s n f g
theorem EdObj.same {K : PySem.W.Frag} {H H' : Hp} {C a : Addr} {e : Ed} {s n f g : Addr} (S : Same H H') (h : EdObj K H C a e s n f g) : EdObj K H' C a e s n f g := by
  obtain ⟨⟨dx, p, h1, h2⟩, h3⟩ := h
  exact ⟨⟨dx, p, S _ _ h1, S _ _ h2⟩, h3.same S⟩
def EiNames : List Str := ["self", "name", "version", "scripts", "needs", "first", "against"]
def spEi (K : PySem.W.Frag) (C CE : Addr) : Sp := fun vs H Q E => ∃ (x dx : Addr) (e : Ed) (s n f g : Addr), vs = [.ref x, .str e.name, e.version, .ref s, .ref n, .ref f, .ref g] ∧ H x = some (.ins C dx []) ∧ EdAt K H e s n f g ∧ e.Small ∧
  (e.wrong = none → ∀ H', SameBut x H H' → EdObj K H' C x e s n f g → Q .non H') ∧
  (∀ p, e.wrong = some p → ∀ H' d, Same H H' → H' d = some (.xd [("part", .str p)]) → E (.ref CE) (some d) H')
structure TxtG (P : Program) (K : PySem.W.Frag) (mg : Str → Option Value) (C CE fI : Addr) (fdI : FuncData) : Prop where
  cl : Cls K C
  nP : NoAttr K C "parts"
  mgC : mg "Edition" = some (.ref C)
  mgE : mg "InvalidEdition" = some (.ref CE)
  sup : SupC P K mg CE
  nF : PySem.W.findIn K (.ref CE) "part" = some none
  iC : PySem.W.findIn K (.ref CE) "__init__" = some (some (.ref fI))
  tI : PySem.W.typeIn K (.ref fI) = some (.type "function")
  er : ErrFn P K CE "InvalidEdition.__init__" sIe fI fdI
  bI : Binds K fdI ["self", "part"] []
section
variable {P : Program} {w : World} {K : PySem.W.Frag} {mg : Str → Option Value} {base : Heap} {C CE fI : Addr} {fdI : FuncData}
theorem scEi : FnScope ["self", "name", "version", "scripts", "needs", "first", "against", "part"] ["self", "name", "version", "scripts", "needs", "first", "against"] (defScope sEi) := ⟨rfl, rfl, rfl, by decide +kernel, rfl, by decide +kernel, by decide +kernel⟩
theorem wrong_small (e : Ed) {p : Str} (h : e.wrong = some p) : p.length ≤ 1000 := by
  unfold Ed.wrong at h
  cases q : e.checks.find? (fun q => !q.2) with
  | none => rw [q] at h; cases h
  | some r =>
    rw [q] at h
    have hp : r.1 = p := by simpa using h
    have hm := List.mem_of_find?_eq_some q
    rw [← hp]
    unfold Ed.checks at hm
    simp only [List.mem_cons, List.not_mem_nil, or_false] at hm
    rcases hm with rfl | rfl | rfl | rfl | rfl | rfl <;> (dsimp only; decide)
theorem ok_ei {f : Addr} {fd : FuncData} {kws : List (Str × V)} (F : FunD K "__init__" "Edition.__init__" (defArgs sEi) (defBody sEi) (defScope sEi) [] kws f fd) (T : TxtG P K mg C CE fI fdI) (dW : Def P w K mg base 5 "wrong_part" ["name", "version", "scripts", "needs", "first", "against"] (spWrong K)) :
    FnOk P w K mg base (L2.CX P w) 6 f fd ["self", "name", "version", "scripts", "needs", "first", "against"] (spEi K C CE) := by
  refine F.ok scEi (fun vs H Q E h => ?_) (fun cdv A outer s H vs Q E hr h => ?_)
  · obtain ⟨x, dx, e, s, n, f, g, rfl, _⟩ := h
    rfl
  · obtain ⟨x, dx, e, as, an, af, ag, rfl, hx, hE, hz, kOk, kBad⟩ := h
    have nd := scEi.nd
    have FI : FnOk P w K mg base CX0 1 fI fdI ["self", "part"] (spErr CE "part") := ok_ie T.er T.sup T.nF
    refine ⟨_, pss_cons (ps_set (i := 7) nd rfl (Or.inl rfl) (pe_def dW hr rfl (pa_cons (pv 1) (pa_cons (pv 2) (pa_cons (pv 3) (pa_cons (pv 4) (pa_cons (pv 5) (pa_cons (pv 6) pa_nil))))))))
      (pss_cons (ps_if (pt_cmp (pc_notN (pv 7))) (pss_one (ps_raise rfl (takes_of rfl rfl rfl rfl) (pmk_oex T.sup.oex T.iC T.tI FI (hr.mono (by decide)) T.bI .nil (fun _ _ _ _ _ _ _ h => h.elim) rfl T.mgE (pa_cons (pv 7) pa_nil)))) pss_nil)
      (pss_one (ps_fld (pv 0) (pe_tup (pa_cons (pv 1) (pa_cons (pv 2) (pa_cons (pv 3) (pa_cons (pv 4) (pa_cons (pv 5) (pa_cons (pv 6) pa_nil))))))) rfl))), ?_⟩
    refine ⟨_, rfl, _, rfl, _, rfl, _, rfl, _, rfl, _, rfl, e, as, an, af, ag, rfl, hE, hz, fun H1 s1 => ?_⟩
    cases hw : e.wrong with
    | some p =>
      refine ⟨_, rfl, true, rfl, ?_⟩
      refine iteT ?_
      refine ⟨_, rfl, (by show 1 ≤ 1000; decide), fun a ha => ⟨a, p, rfl, upd_same, wrong_small e hw, fun d hd1 hd2 => ⟨rfl, d, [("part", .str p)], upd_same, ?_, ?_, ?_⟩⟩⟩
      · rw [upd_ne hd2, upd_same]
      · rw [upd_ne hd2] at hd1
        exact hd1
      · rw [upd_ne hd2] at hd1
        refine kBad p hw _ d (fun b o q => ?_) upd_same
        have q1 := s1 b o q
        have nb : b ≠ d := ne_of_none q1 hd1
        have na : b ≠ a := ne_of_none q1 ha
        rw [upd_ne nb, del_ne na, upd_ne na, upd_ne nb, upd_ne na]
        exact q1
    | none =>
      refine ⟨_, rfl, false, rfl, ?_⟩
      refine iteF ?_
      refine ⟨_, rfl, _, rfl, _, rfl, _, rfl, _, rfl, _, rfl, (by show 6 ≤ sizeLine; decide), fun p hp => ?_⟩
      have nx : x ≠ p := ne_of_none (s1 _ _ hx) hp
      refine ⟨_, rfl, x, C, dx, [], rfl, (by rw [upd_ne nx]; exact s1 _ _ hx), T.cl, T.nP, (by show 0 < 1000; decide), ?_⟩
      have sb : SameBut x H (upd (upd H1 p (.tup [.str e.name, e.version, .ref as, .ref an, .ref af, .ref ag])) x (.ins C dx (putF "parts" (.ref p) []))) := fun b o hb q => by
        rw [upd_ne hb, upd_ne (ne_of_none (s1 _ _ q) hp)]
        exact s1 _ _ q
      refine kOk hw _ sb ⟨⟨dx, p, upd_same, by rw [upd_ne (Ne.symm nx), upd_same]⟩, ?_⟩
      have hE1 : EdAt K (upd H1 p (.tup [.str e.name, e.version, .ref as, .ref an, .ref af, .ref ag])) e as an af ag := hE.same (s1.trans (Same.upd_new hp))
      have tr : ∀ {a xs}, SqT K (upd H1 p (.tup [.str e.name, e.version, .ref as, .ref an, .ref af, .ref ag])) a xs → SqT K (upd (upd H1 p (.tup [.str e.name, e.version, .ref as, .ref an, .ref af, .ref ag])) x (.ins C dx (putF "parts" (.ref p) []))) a xs := fun {a xs} h => by
        have hxx : (upd H1 p (.tup [.str e.name, e.version, .ref as, .ref an, .ref af, .ref ag])) x = some (.ins C dx []) := by rw [upd_ne nx]; exact s1 _ _ hx
        rcases h with (h | ⟨o, h⟩) | h
        · exact .inl (.inl (by rw [upd_ne (ne_of h hxx (by intro z; cases z))]; exact h))
        · exact .inl (.inr ⟨o, by rw [upd_ne (ne_of h hxx (by intro z; cases z))]; exact h⟩)
        · exact .inr h
      have trN : ∀ {a ps}, NeedsAt K (upd H1 p (.tup [.str e.name, e.version, .ref as, .ref an, .ref af, .ref ag])) a ps → NeedsAt K (upd (upd H1 p (.tup [.str e.name, e.version, .ref as, .ref an, .ref af, .ref ag])) x (.ins C dx (putF "parts" (.ref p) []))) a ps := fun {a ps} h => by
        obtain ⟨ts, h1, h2, h3⟩ := h
        exact ⟨ts, tr h1, h2, fun i t p q r => tr (h3 i t p q r)⟩
      exact ⟨tr hE1.scripts, trN hE1.needs, trN hE1.first, tr hE1.against⟩
end
end Half

namespace Half
open PySem PySem.Spec PyProof.Rows L2
/-! ### the six properties -/
def spGet (C : Addr) (i : Nat) : Sp := fun vs H Q _ => ∃ (a dx p : Addr) (xs : List V) (v : V), vs = [.ref a] ∧ H a = some (.ins C dx [("parts", .ref p)]) ∧ H p = some (.tup xs) ∧ xs[i]? = some v ∧ Q v H
section
variable {P : Program} {w : World} {K : PySem.W.Frag} {mg : Str → Option Value} {base : Heap} {C : Addr}
theorem scGet {i : Nat} (h : i < 6) : FnScope ["self"] ["self"] (defScope (sGet i)) := by
  match i, h with
  | 0, _ => exact ⟨rfl, rfl, rfl, by decide +kernel, rfl, by decide +kernel, by decide +kernel⟩
  | 1, _ => exact ⟨rfl, rfl, rfl, by decide +kernel, rfl, by decide +kernel, by decide +kernel⟩
  | 2, _ => exact ⟨rfl, rfl, rfl, by decide +kernel, rfl, by decide +kernel, by decide +kernel⟩
  | 3, _ => exact ⟨rfl, rfl, rfl, by decide +kernel, rfl, by decide +kernel, by decide +kernel⟩
  | 4, _ => exact ⟨rfl, rfl, rfl, by decide +kernel, rfl, by decide +kernel, by decide +kernel⟩
  | 5, _ => exact ⟨rfl, rfl, rfl, by decide +kernel, rfl, by decide +kernel, by decide +kernel⟩
theorem getBody {i : Nat} (h : i < 6) : ∃ p1 p2 p3 p4 p5 : Pos, ∃ j, defBody (sGet i) = [.Return (some (.Subscript (.Attribute (.Name "self" p1) "parts" p2) (.Constant (.int i) j p3) p4)) p5] := by
  match i, h with
  | 0, _ => exact ⟨_, _, _, _, _, _, rfl⟩
  | 1, _ => exact ⟨_, _, _, _, _, _, rfl⟩
  | 2, _ => exact ⟨_, _, _, _, _, _, rfl⟩
  | 3, _ => exact ⟨_, _, _, _, _, _, rfl⟩
  | 4, _ => exact ⟨_, _, _, _, _, _, rfl⟩
  | 5, _ => exact ⟨_, _, _, _, _, _, rfl⟩
theorem ok_get {f : Addr} {fd : FuncData} {x qual : Str} {i : Nat} (hi : i < 6) (F : Fun K x qual (sGet i) f fd) (cl : Cls K C) (nP : NoAttr K C "parts") : FnOk P w K mg base CX0 1 f fd ["self"] (spGet C i) := by
  refine F.ok (scGet hi) (fun vs H Q E h => ?_) (fun cdv A outer s H vs Q E hr h => ?_)
  · obtain ⟨a, dx, p, xs, v, rfl, _⟩ := h
    rfl
  · obtain ⟨a, dx, p, xs, v, rfl, ha, hp, hv, k⟩ := h
    obtain ⟨p1, p2, p3, p4, p5, j, hb⟩ := getBody hi
    rw [hb]
    have hvis : Vis (defScope (sGet i)) "self" := ((scGet hi).par "self" (List.Mem.head _)).elim (fun z => .inl z) (fun z => .inr (.inl z))
    refine ⟨_, pss_one (ps_ret (pe_ix ix_tup (pe_fld (pe_var (i := 0) rfl hvis) rfl) pe_int (fun _ _ => rfl))), ?_⟩
    exact ⟨_, rfl, a, C, dx, _, _, rfl, ha, cl, nP, rfl, p, xs, _, v, rfl, rfl, .inl (.inl hp), atI_nat hv, k⟩
/-! ### == -/
def pairD (p : Str × Int) : PyData := .tuple [.str p.1, .int p.2]
def verD : V → PyData
  | .int n => .int n
  | .bl b => .bool b
  | _ => .none
def Ed.data (e : Ed) : PyData := .tuple [.str e.name, verD e.version, .tuple (e.scripts.map PyData.str), .tuple (e.needs.map pairD), .tuple (e.first.map pairD), .tuple (e.against.map PyData.str)]
theorem dpStrs {H : Hp} : ∀ l : List Str, DpAll K H (l.map V.str) (l.map PyData.str)
  | [] => .nil
  | x :: l => .cons (.str x) (dpStrs l)
theorem dpPairs {H : Hp} : ∀ (ts : List Addr) (ps : List (Str × Int)), ts.length = ps.length → (∀ (i : Nat) t p, ts[i]? = some t → ps[i]? = some p → SqT K H t [.str p.1, .int p.2]) → DpAll K H (ts.map V.ref) (ps.map pairD)
  | [], [], _, _ => .nil
  | t :: ts, p :: ps, hl, h => .cons (.tup (h 0 t p rfl rfl) (.cons (.str _) (.cons (.int _) .nil))) (dpPairs ts ps (by simpa using hl) fun i t' p' h1 h2 => h (i + 1) t' p' (by simpa using h1) (by simpa using h2))
  | [], _ :: _, hl, _ => by simp at hl
  | _ :: _, [], hl, _ => by simp at hl
theorem NeedsAt.dp {H : Hp} {a : Addr} {ps : List (Str × Int)} (h : NeedsAt K H a ps) : Dp K H (.ref a) (.tuple (ps.map pairD)) := by
  obtain ⟨ts, h1, h2, h3⟩ := h
  exact .tup h1 (dpPairs ts ps h2 h3)
theorem verDp {H : Hp} {v : V} (h : (∃ n, v = .int n) ∨ ∃ b, v = .bl b) : Dp K H v (verD v) := by
  rcases h with ⟨n, rfl⟩ | ⟨b, rfl⟩
  · exact .int n
  · exact .bl b
theorem EdObj.dp {H : Hp} {p s n f g : Addr} {e : Ed} (hp : H p = some (.tup [.str e.name, e.version, .ref s, .ref n, .ref f, .ref g])) (hE : EdAt K H e s n f g) (hv : (∃ n, e.version = .int n) ∨ ∃ b, e.version = .bl b) : Dp K H (.ref p) e.data :=
  .tup (.inl (.inl hp)) (.cons (.str _) (.cons (verDp hv) (.cons (.tup hE.scripts (dpStrs _)) (.cons hE.needs.dp (.cons hE.first.dp (.cons (.tup hE.against (dpStrs _)) .nil))))))
/-- an edition's promise of ==: what the data say -/
def EdIs (K : PySem.W.Frag) (H : Hp) (C a : Addr) (e : Ed) : Prop := (∃ s n f g, EdObj K H C a e s n f g) ∧ ((∃ n, e.version = .int n) ∨ ∃ b, e.version = .bl b) ∧ SeqAt.shaped e.data = true
theorem EdIs.same {H H' : Hp} {a : Addr} {e : Ed} (S : Same H H') (h : EdIs K H C a e) : EdIs K H' C a e := by
  obtain ⟨⟨s, n, f, g, h1⟩, h2⟩ := h
  exact ⟨⟨s, n, f, g, h1.same S⟩, h2⟩
def spEq (K : PySem.W.Frag) (C : Addr) : Sp := fun vs H Q _ => ∃ (a b : Addr) (e e' : Ed), vs = [.ref a, .ref b] ∧ EdIs K H C a e ∧ EdIs K H C b e' ∧ Q (.bl (PyData.eqv e.data e'.data)) H
structure TxtI (K : PySem.W.Frag) (mg : Str → Option Value) (C : Addr) : Prop where
  cl : Cls K C
  nP : NoAttr K C "parts"
  mgC : mg "Edition" = some (.ref C)
  isi : mg "isinstance" = none
  ha : PySem.W.findIn K (.ref C) "__class__" = some (some (.builtin "object.__class__"))
  hn : PySem.W.specialIn K (.builtin "object.__class__") "__get__" = some (some (.builtin "getset_descriptor.__get__"))
  ht : PySem.W.takesIn K (.builtin "object.__class__") = some true
  hm : PySem.W.mroIn K C (.type "object") = some true
  ki : PySem.W.kitOne K (.ref C) (.ref C) = some true
theorem scEq : FnScope ["self", "other"] ["self", "other"] (defScope sEq) := ⟨rfl, rfl, rfl, by decide +kernel, rfl, by decide +kernel, by decide +kernel⟩
theorem ok_eq {f : Addr} {fd : FuncData} (F : Fun K "__eq__" "Edition.__eq__" sEq f fd) (T : TxtI K mg C) : FnOk P w K mg base CX0 1 f fd ["self", "other"] (spEq K C) := by
  refine F.ok scEq (fun vs H Q E h => ?_) (fun cdv A outer s H vs Q E hr h => ?_)
  · obtain ⟨a, b, e, e', rfl, _⟩ := h
    rfl
  · obtain ⟨a, b, e, e', rfl, ⟨⟨s1, n1, f1, g1, ⟨dx, p, ha, hp⟩, hE⟩, hv, hs⟩, ⟨⟨s2, n2, f2, g2, ⟨dy, q, hb, hq⟩, hE'⟩, hv', hs'⟩, k⟩ := h
    refine ⟨_, pss_one (ps_ret (pe_and (pe_callB call_isi (by rfl) T.isi (by decide +kernel) (pa_cons (pv 1) (pa_cons (pe_glob (v := .ref C) rfl T.mgC rfl) pa_nil)))
      (pe_one (pe_cmpR (op_eqD hr.units) (pe_fld (pv 0) rfl) (pe_fld (pv 1) rfl) (nomark _))))), ?_⟩
    refine ⟨_, rfl, _, _, _, _, _, rfl, .own C, .base (.ins hb T.cl T.ha T.hn T.ht T.hm), T.ki, _, rfl, ?_⟩
    refine iteT ?_
    refine ⟨_, rfl, a, C, dx, _, _, rfl, ha, T.cl, T.nP, rfl, _, rfl, b, C, dy, _, _, rfl, hb, T.cl, T.nP, rfl, _, _, EdObj.dp hp hE hv, EdObj.dp hq hE' hv', hs, hs', k⟩
end
end Half

/-! sets whose items are tuples of ints and texts: s.add(t), t in s -/
namespace L2
open PySem PySem.Spec PyProof.Rows
abbrev kh (P : Program) (w : World) (k : List Key) : Int := tupleKeyHash (mixKind P w) k
abbrev TupK (P : Program) (w : World) (h : Heap) (k : List Key) (a : Addr) : Prop := IsTupleKey (mixKind P w) h k a
section
variable {P : Program} {w : World} {A : Around} {E : Value → Shared → Prop} {s : Shared}
def flatKey (v : Value) : Prop := (∃ i t, v = Value.int i t) ∨ ∃ x t, v = Value.str x t
theorem items_flat {k : List Key} {vs : List Value} (h : ItemsAre (mixKind P w) k vs) : ∀ v ∈ vs, flatKey v := by
  induction h with
  | nil => exact fun v hv => nomatch hv
  | @cons c u ks us one _ more =>
    intro v hv
    rcases List.mem_cons.mp hv with rfl | hv
    · rcases keyIs_shape (k := c) (v := v) one with ⟨i, t, _, e⟩ | ⟨x, t, _, e⟩
      · exact .inl ⟨i, t, e⟩
      · exact .inr ⟨x, t, e⟩
    · exact more v hv
theorem cls_flat {n : Nat} {v : Value} (h : flatKey v) : ofAClassStatement n v = pure false := by
  rcases h with ⟨i, t, rfl⟩ | ⟨x, t, rfl⟩ <;> cases n <;> rfl
theorem val_flat {n : Nat} {v : Value} (h : flatKey v) : ∃ b, hashByValue n v = pure b := by
  rcases h with ⟨i, t, rfl⟩ | ⟨x, t, rfl⟩
  · exact ⟨true, by cases n <;> rfl⟩
  · exact ⟨false, by cases n <;> rfl⟩
theorem cls_tup {k : List Key} {b : Addr} {Q : Bool → Shared → Prop} (T : TupK P w s.heap k b) (q : Q false s) : wpAny (model P w) A (ofAClassStatement 8 (.ref b)) Q E s := by
  have ty := T.typeIs
  obtain ⟨o, its, n, go, _, gd, gi⟩ := T
  unfold ofAClassStatement
  refine wpAny_bind (wpAny_typeOf ty ?_)
  dsimp only
  simp only [show (("tuple" : String) == "tuple") = true by decide, if_true, Bool.not_true, Bool.false_eq_true, if_false]
  first
    | refine wpAny_bind (wpAny_pure ?_)
    | skip
  try simp only [Bool.not_true, Bool.false_eq_true, if_false]
  show wpAny _ _ (seqItems? (.ref b) >>= _) _ _ s
  refine wpAny_bind (wpAny_seqItems go gd ?_)
  dsimp only
  refine wpAny_bind ?_
  show wpAny _ _ (forIn its _ _) _ _ s
  rw [← Array.forIn_toList]
  refine wpAny_forIn_list _ (fun rest r s' => r.1 = none ∧ s' = s ∧ ∀ v ∈ rest, flatKey v) _ ?_ ?_ _ _ ⟨rfl, rfl, items_flat gi⟩
  · rintro v rest r z ⟨hr, rfl, hall⟩
    rw [cls_flat (hall v List.mem_cons_self)]
    refine wpAny_bind (wpAny_pure ?_)
    simp only [Bool.false_eq_true, if_false]
    exact wpAny_pure ⟨rfl, rfl, fun u hu' => hall u (.tail _ hu')⟩
  · rintro ⟨r1, r2⟩ z ⟨hr, rfl, _⟩
    simp only at hr
    subst hr
    exact wpAny_pure q
theorem val_tup {k : List Key} {b : Addr} {Q : Bool → Shared → Prop} (T : TupK P w s.heap k b) (q : ∀ c, Q c s) : wpAny (model P w) A (hashByValue 8 (.ref b)) Q E s := by
  have ty := T.typeIs
  obtain ⟨o, its, n, go, _, gd, gi⟩ := T
  unfold hashByValue
  refine wpAny_bind (wpAny_specialOf ty F.slot_tuple_hash.lookup ?_)
  show wpAny _ _ (seqItems? (.ref b) >>= _) _ _ s
  refine wpAny_bind (wpAny_seqItems go gd ?_)
  refine wpAny_bind ?_
  show wpAny _ _ (forIn its _ _) _ _ s
  rw [← Array.forIn_toList]
  refine wpAny_forIn_list _ (fun rest r s' => (∀ c, r.1 = some c → c = false) ∧ s' = s ∧ ∀ v ∈ rest, flatKey v) _ ?_ ?_ _ _ ⟨(fun c h => nomatch h), rfl, items_flat gi⟩
  · rintro v rest r z ⟨hr, rfl, hall⟩
    obtain ⟨c, e⟩ := val_flat (n := 7) (hall v List.mem_cons_self)
    rw [e]
    refine wpAny_bind (wpAny_pure ?_)
    cases c
    · simp only [Bool.not_false, if_true]
      exact wpAny_pure (wpAny_pure (q false))
    · simp only [Bool.not_true, Bool.false_eq_true, if_false]
      exact wpAny_pure ⟨(fun c h => nomatch h), rfl, fun u hu' => hall u (.tail _ hu')⟩
  · rintro ⟨r1, r2⟩ z ⟨hr, rfl, _⟩
    cases r1 with
    | none => exact wpAny_pure (q true)
    | some c => exact wpAny_pure (q c)
theorem unseen {k : List Key} {b : Addr} {Q : Bool → Shared → Prop} (T : TupK P w s.heap k b) {ys : List Value} (hy : ∀ y ∈ ys, ∃ k' c, y = Value.ref c ∧ TupK P w s.heap k' c) (q : Q false s) :
    wpAny (model P w) A (searchCouldBeSeen (.ref b) ys) Q E s := by
  unfold searchCouldBeSeen
  refine wpAny_bind ?_
  refine wpAny_forIn_list _ (fun rest r s' => r.1 = none ∧ s' = s ∧ ∀ y ∈ rest, ∃ k' c, y = Value.ref c ∧ TupK P w s.heap k' c) _ ?_ ?_ _ _ ⟨rfl, rfl, hy⟩
  · rintro v rest r z ⟨hr, rfl, hall⟩
    obtain ⟨k', c, rfl, hc⟩ := hall v List.mem_cons_self
    have more : ∀ y ∈ rest, ∃ k' c, y = Value.ref c ∧ TupK P w z.heap k' c := fun u m => hall u (.tail _ m)
    dsimp only
    by_cases hv : (b == c || (carriedByValue (.ref b) && carriedByValue (.ref c))) = true
    · exact wp_if_pos hv (wpAny_pure ⟨rfl, rfl, more⟩)
    · refine wp_if_neg hv (wpAny_bind (wpAny_eqIsQuiet_tuple T ?_))
      simp only [Bool.not_true, Bool.false_eq_true, if_false]
      refine wpAny_bind (wpAny_eqIsQuiet_tuple hc ?_)
      simp only [Bool.not_true, Bool.false_eq_true, if_false]
      refine wpAny_bind (cls_tup T ?_)
      simp only [Bool.false_eq_true, if_false]
      refine wpAny_bind (cls_tup hc ?_)
      simp only [Bool.false_eq_true, if_false]
      exact wpAny_pure ⟨rfl, rfl, more⟩
  · rintro ⟨r1, r2⟩ z ⟨hr, rfl, _⟩
    simp only at hr
    subst hr
    exact wpAny_pure q
/-! the table of such a set -/
def ents (P : Program) (w : World) (L : List (Addr × List Key)) : List (Int × Value) := L.map fun p => (kh P w p.2, Value.ref p.1)
structure SetTK (P : Program) (w : World) (h : Heap) (a : Addr) (L : List (Addr × List Key)) (es : Array (Int × Value)) (ep : Nat) (t : SetTable) : Prop where
  ob : ∃ o, h.get? a = some o ∧ o.ExactSet ∧ o.data = .set es ep t
  row : es.toList = ents P w L
  tab : TabOk t (L.map fun p => kh P w p.2)
  one : (L.map (·.2)).Nodup
  room : L.length * 5 < t.mask * 3
  few : L.length < 64
variable {a : Addr} {L : List (Addr × List Key)} {es : Array (Int × Value)} {ep : Nat} {t : SetTable} {h : Heap}
theorem ents_len (e : es.toList = ents P w L) : es.size = L.length := by
  have z := congrArg List.length e
  unfold ents at z
  rwa [Array.length_toList, List.length_map] at z
theorem fit_of (n : es.size = L.length) (z : t.place.size = L.length) (d : t.dummies = #[]) (r : L.length ≤ t.mask) : t.fits es.size = true := by
  unfold SetTable.fits SetTable.fill
  rw [d, Bool.and_eq_true, beq_iff_eq, decide_eq_true_eq]
  exact ⟨z.trans n.symm, by show t.place.size + 0 ≤ t.mask; omega⟩
theorem SetTK.psz (R : SetTK P w h a L es ep t) : t.place.size = L.length := by
  have z := R.tab.sz
  rwa [List.length_map] at z
theorem SetTK.fit (R : SetTK P w h a L es ep t) : t.fits es.size = true := fit_of (ents_len R.row) R.psz R.tab.dm (by have := R.room; omega)
theorem SetTK.at (R : SetTK P w h a L es ep t) {i : Nat} {p : Addr × List Key} (m : L[i]? = some p) : es[i]? = some (kh P w p.2, Value.ref p.1) := by
  rw [← Array.getElem?_toList, R.row]
  unfold ents
  rw [List.getElem?_map, m] <;> rfl
theorem SetTK.odd (R : SetTK P w h a L es ep t) : ¬ t.gaveWay = true := by
  unfold SetTable.gaveWay
  rw [mask_odd R.tab.mok] <;> decide
/-- the c-th probe of the key -/
abbrev prb (P : Program) (w : World) (t : SetTable) (k : List Key) (c : Nat) : SetTable.Probe := nth t.mask (runAt t.mask (SetTable.bits (kh P w k) % (t.mask + 1)) (SetTable.bits (kh P w k))) c
theorem nth_dummy (m : Nat) : ∀ (n : Nat) (p : SetTable.Probe), p.dummy = none → (nth m p n).dummy = none
  | 0, _, e => e
  | n + 1, p, e => nth_dummy m n (adv m p) (by unfold adv; split <;> exact e)
/-- a search for a key, in a table that has its first free place at the K-th step -/
theorem look_from {ad : Bool} (R : SetTK P w s.heap a L es ep t) (TT : ∀ p ∈ L, TupK P w s.heap p.2 p.1) {x : Addr} {k : List Key} (hx : TupK P w s.heap k x) (hu : A.units < cLine) {K : Nat} (hKf : K < 10 * SetTable.turns t.mask)
    (free : way t.mask (kh P w k) K ∉ t.place.toList) (busy : ∀ c, c < K → way t.mask (kh P w k) c ∈ t.place.toList) {Q : SetFound → Shared → Prop}
    (yes : ∀ r, (ad = false → r.isSome = true) → k ∈ L.map (·.2) → Q (.there r) s) (no : k ∉ L.map (·.2) → Q (.free (way t.mask (kh P w k) K) false) s) :
    ∀ (f c : Nat) (stand : Option SetTable.Probe), stand.getD (t.probeStart (kh P w k)) = prb P w t k c → c ≤ K → K - c < f →
      (∀ (i : Nat) p, L[i]? = some p → p.2 = k → ∃ c', c ≤ c' ∧ c' < K ∧ t.place.toList[i]? = some (way t.mask (kh P w k) c')) →
      wpAny (model P w) A (setSearchFrom a (.ref x) (kh P w k) ad f stand) Q E s
  | 0, c, stand, _, _, hf, _ => absurd hf (Nat.not_lt_zero _)
  | f + 1, c, stand, hst, hc, hf, hre => by
    obtain ⟨o, go, gx, gd⟩ := R.ob
    rw [setSearchFrom_succ]
    refine wpAny_bind (wpAny_setState_of go gd R.fit ?_)
    dsimp only
    refine wp_if_neg R.odd ?_
    first
      | refine wpAny_bind (wpAny_pure ?_)
      | skip
    have nod : (prb P w t k c).dummy = none := nth_dummy t.mask c _ rfl
    have sh : ∀ q, nth t.mask (prb P w t k c) q = prb P w t k (c + q) := fun q => (nth_add t.mask c _ q).symm
    have e1 : ∀ q, (nth t.mask (prb P w t k c) q).j = way t.mask (kh P w k) (c + q) := fun q => congrArg SetTable.Probe.j (sh q)
    have spec := go_spec t R.tab.ris R.tab.dm (fun i => (es[i]?.map (·.1)).getD 0) (kh P w k) (10 * SetTable.turns t.mask) (K - c) _ nod (by omega)
      (fun q hq => by rw [e1]; exact busy (c + q) (by omega)) (by rw [e1, show c + (K - c) = K by omega]; exact free)
    have hsh : ∀ (i : Nat) p, L[i]? = some p → (fun i => (es[i]?.map (·.1)).getD 0) i = kh P w p.2 := fun i p hp => by
      show (es[i]?.map (·.1)).getD 0 = _
      rw [R.at hp] <;> rfl
    rcases spec with ⟨q, i, hq, hi, hh, hno, hpr⟩ | ⟨hno, hpr⟩
    · have met : t.probe (fun i => (es[i]?.map (·.1)).getD 0) (kh P w k) (stand.getD (t.probeStart (kh P w k))) = some (.candidate (way t.mask (kh P w k) (c + q)) i (prb P w t k (c + (q + 1)))) := by
        rw [hst, ← e1, ← sh]
        exact hpr
      rw [met]
      dsimp only
      rw [e1] at hi
      have hil : i < L.length := by
        have h1 := (List.getElem?_eq_some_iff.mp hi).1
        rw [Array.length_toList, R.psz] at h1
        exact h1
      have hp : L[i]? = some L[i] := List.getElem?_eq_getElem hil
      generalize L[i] = p at hp
      have hm : p ∈ L := List.mem_of_getElem? hp
      have live : t.slot (way t.mask (kh P w k) (c + q)) = .live i := slot_live R.tab.ris hi
      have rest : wpAny (model P w) A (searchRest a (.ref x) (kh P w k) ad f es t (way t.mask (kh P w k) (c + q)) i (prb P w t k (c + (q + 1)))) Q E s := by
        unfold searchRest
        rw [R.at hp]
        dsimp only
        refine wpAny_bind (wpAny_holding (wpAny_eqBool_tuple hu (TT p hm) hx ?_))
        refine wpAny_bind (wpAny_setState_of go gd R.fit ?_)
        dsimp only
        by_cases both : (ad && decide (p.2 = k)) = true
        · refine wp_if_pos both (wpAny_pure (yes none (fun z => ?_) ?_))
          · rw [z] at both; exact nomatch both
          · exact List.mem_map.mpr ⟨p, hm, of_decide_eq_true (Bool.and_eq_true _ _ ▸ both).2⟩
        · refine wp_if_neg both ?_
          first
            | refine wpAny_bind (wpAny_pure ?_)
            | skip
          rw [sameMem]
          dsimp only
          simp only [if_true, live, R.at hp]
          refine wpAny_bind (wpAny_isSame_ref_self (wpAny_bind (wpAny_pure ?_)))
          simp only [if_true]
          by_cases same : p.2 = k
          · exact wp_if_pos (by simp [same]) (wpAny_pure (yes (some i) (fun _ => rfl) (List.mem_map.mpr ⟨p, hm, same⟩)))
          · refine wp_if_neg (by simp [same]) ?_
            refine look_from R TT hx hu hKf free busy yes no f (c + (q + 1)) _ rfl (by omega) (by omega) fun i0 p0 h0 hk0 => ?_
            obtain ⟨c', a1, a2, a3⟩ := hre i0 p0 h0 hk0
            refine ⟨c', ?_, a2, a3⟩
            rcases Nat.lt_trichotomy c' (c + q) with z | z | z
            · exact (hno (c' - c) i0 (by omega) (by rw [e1, show c + (c' - c) = c' by omega]; exact a3) ((hsh i0 p0 h0).trans (congrArg (kh P w) hk0))).elim
            · rw [z] at a3
              have s0 := live.symm.trans (slot_live R.tab.ris a3)
              injection s0 with s0
              rw [← s0, hp] at h0
              exact absurd ((congrArg Prod.snd (Option.some.inj h0)).trans hk0) same
            · omega
      by_cases hl : t.led = true
      · refine wp_if_neg (by simp [hl]) ?_
        first
          | exact rest
          | exact wpAny_bind (wpAny_pure rest)
      · refine wp_if_pos (by simp [hl]) (wpAny_bind (unseen hx (fun y hy => ?_) ?_))
        · obtain ⟨e, he, ee⟩ := List.mem_map.mp hy
          have he1 : e ∈ es ∧ e.1 = kh P w k := by simpa using he
          have he2 : e ∈ es.toList := by simpa using he1.1
          rw [R.row] at he2
          obtain ⟨p2, hp2, e2⟩ := List.mem_map.mp he2
          exact ⟨p2.2, p2.1, by rw [← ee, ← e2], TT p2 hp2⟩
        · refine wp_if_neg (by decide) ?_
          first
            | exact rest
            | exact wpAny_bind (wpAny_pure rest)
    · have met : t.probe (fun i => (es[i]?.map (·.1)).getD 0) (kh P w k) (stand.getD (t.probeStart (kh P w k))) = some (.empty (way t.mask (kh P w k) K) none) := by
        have e2 : way t.mask (kh P w k) K = (nth t.mask (prb P w t k c) (K - c)).j := by rw [e1, show c + (K - c) = K by omega]
        rw [hst, e2]
        exact hpr
      rw [met]
      dsimp only
      refine wpAny_pure (no fun hm => ?_)
      obtain ⟨p0, h0, hk0⟩ := List.mem_map.mp hm
      obtain ⟨i0, hi0, e0⟩ := List.getElem_of_mem h0
      have h00 : L[i0]? = some p0 := by rw [List.getElem?_eq_getElem hi0, e0]
      obtain ⟨c', a1, a2, a3⟩ := hre i0 p0 h00 hk0
      exact hno (c' - c) i0 (by omega) (by rw [e1, show c + (c' - c) = c' by omega]; exact a3) ((hsh i0 p0 h00).trans (congrArg (kh P w) hk0))
theorem look_at {ad : Bool} (R : SetTK P w s.heap a L es ep t) (TT : ∀ p ∈ L, TupK P w s.heap p.2 p.1) {x : Addr} {k : List Key} (hx : TupK P w s.heap k x) (hu : A.units < cLine) {Q : SetFound → Shared → Prop}
    (yes : ∀ r, (ad = false → r.isSome = true) → k ∈ L.map (·.2) → Q (.there r) s)
    (no : ∀ K, k ∉ L.map (·.2) → way t.mask (kh P w k) K ∉ t.place.toList → (∀ c, c < K → way t.mask (kh P w k) c ∈ t.place.toList) → Q (.free (way t.mask (kh P w k) K) false) s) :
    wpAny (model P w) A (setSearch a (.ref x) (kh P w k) ad) Q E s := by
  have hroom := R.room
  obtain ⟨K, hKf, free, busy⟩ := R.tab.first (by rw [List.length_map]; omega) (kh P w k)
  have small : 10 * SetTable.turns t.mask ≤ 1420 := by
    unfold SetTable.turns
    rcases R.tab.mok with e | e | e <;> omega
  unfold setSearch
  refine look_from R TT hx hu hKf free busy yes (fun hn => no K hn free busy) 100000 0 none rfl (Nat.zero_le _) (by omega) fun i p hp hk => ?_
  have hil : i < t.place.toList.length := by
    rw [Array.length_toList, R.psz]
    exact (List.getElem?_eq_some_iff.mp hp).1
  have hj := List.getElem?_eq_getElem hil
  obtain ⟨c, hc, e⟩ := R.tab.before free (by rw [List.getElem?_map, hp, ← hk] <;> rfl) hj
  exact ⟨c, Nat.zero_le _, hc, by rw [hj, e]⟩
/-! adding -/
theorem tup_same {h h' : Heap} {k : List Key} {a b : Addr} {o : Obj} {es : Array (Int × Value)} {ep : Nat} {t : SetTable} (T : TupK P w h k b) (ho : h.get? a = some o) (hd : o.data = .set es ep t) (sb : Heap.SameBut a h h') : TupK P w h' k b := by
  obtain ⟨z, its, n, go, gc, gd, gi⟩ := T
  have ne : b ≠ a := by
    rintro rfl
    obtain rfl : z = o := Option.some.inj (go.symm.trans ho)
    rw [hd] at gd
    exact nomatch gd
  exact ⟨z, its, n, (sb.2 b ne).trans go, gc, gd, gi⟩
theorem ents_put (L : List (Addr × List Key)) (p : Nat) (x : Addr) (k : List Key) : ents P w (L.take p ++ (x, k) :: L.drop p) = (ents P w L).take p ++ (kh P w k, Value.ref x) :: (ents P w L).drop p := by
  unfold ents
  rw [List.map_append, List.map_cons, List.map_take, List.map_drop]
theorem pick_all {α : Type} (L : List α) : (List.range L.length).filterMap (fun i => L[i]?) = L := by
  have key : ∀ n, n ≤ L.length → (List.range n).filterMap (fun i => L[i]?) = L.take n := by
    intro n
    induction n with
    | zero => exact fun _ => rfl
    | succ n more =>
      intro hn
      rw [List.range_succ, List.filterMap_append, more (Nat.le_of_succ_le hn), List.take_succ, List.getElem?_eq_getElem hn, List.filterMap_cons_some (List.getElem?_eq_getElem hn)] <;> rfl
  rw [key _ (Nat.le_refl _), List.take_length]
theorem ents_order (L : List (Addr × List Key)) (es : Array (Int × Value)) (order : Array Nat) (hr : es.toList = ents P w L) (hp : order.toList.Perm (List.range L.length)) :
    ∃ L2, (order.filterMap (es[·]?)).toList = ents P w L2 ∧ L2.Perm L ∧ (L2.map fun p => kh P w p.2) = order.toList.map fun i => (es.map (·.1)).getD i 0 := by
  have sz := ents_len hr
  have ent : ∀ i (h : i < L.length), es[i]? = some (kh P w (L[i]).2, Value.ref (L[i]).1) := fun i h => by
    rw [← Array.getElem?_toList, hr]
    unfold ents
    rw [List.getElem?_map, List.getElem?_eq_getElem h] <;> rfl
  have key : ∀ l : List Nat, (∀ i ∈ l, i < L.length) → l.filterMap (fun i => es[i]?) = ents P w (l.filterMap (fun i => L[i]?)) ∧ ((l.filterMap (fun i => L[i]?)).map fun p => kh P w p.2) = l.map fun i => (es.map (·.1)).getD i 0 := by
    intro l
    induction l with
    | nil => exact fun _ => ⟨rfl, rfl⟩
    | cons i l more =>
      intro hl
      have hi := hl i List.mem_cons_self
      obtain ⟨e1, e2⟩ := more fun j hj => hl j (.tail _ hj)
      have e4 : (es.map (·.1)).getD i 0 = kh P w (L[i]).2 := by
        have e5 : (es.map (·.1))[i]? = some (kh P w (L[i]).2) := by rw [Array.getElem?_map, ent i hi] <;> rfl
        simp [Array.getD_eq_getD_getElem?, e5]
      rw [List.filterMap_cons_some (List.getElem?_eq_getElem hi), List.filterMap_cons_some (ent i hi), e1, List.map_cons, List.map_cons, e2, e4]
      exact ⟨rfl, rfl⟩
  obtain ⟨e1, e2⟩ := key order.toList fun i hi => List.mem_range.mp (hp.mem_iff.mp hi)
  refine ⟨_, by first | (rw [Array.toList_filterMap]; exact e1) | simpa using e1, ?_, e2⟩
  have h1 := hp.filterMap (fun i => L[i]?)
  rwa [pick_all] at h1
theorem relay_key {o : Obj} (ho : s.heap.get? a = some o) (hex : o.ExactSet) (hd : o.data = .set es ep t) (row : es.toList = ents P w L) (psz : t.place.size = L.length) (hdm : t.dummies = #[]) (hfl : L.length ≤ t.mask)
    (one : (L.map (·.2)).Nodup) (few : L.length < 64) {wanted M : Nat} (hw : SetTable.sizeAbove wanted - 1 = M) (hM : MaskOk M) (hw2 : SetTable.sizeAbove wanted ≤ 128) (hn : L.length * 5 < M * 3) {Q : Unit → Shared → Prop}
    (q : ∀ h' L' es' ep' t', Heap.SameBut a s.heap h' → SetTK P w h' a L' es' ep' t' → L'.Perm L → Q () { s with heap := h' }) : wpAny (model P w) A (setRelay a wanted) Q E s := by
  have sz := ents_len row
  obtain ⟨t', order, e, hp, T, em, el, _, ed⟩ := relaid_ok t (hs := es.map (·.1)) (wanted := wanted) hw hM (by rw [Array.size_map, sz]; omega)
  rw [Array.size_map, sz] at hp
  obtain ⟨L2, r1, r2, r3⟩ := ents_order L es order row hp
  rw [← r3] at T
  have hs2 : (order.filterMap (es[·]?)).size = es.size := by rw [ents_len r1, r2.length_eq, sz]
  rw [setRelay_eq]
  refine wpAny_bind (wpAny_setState_of ho hd (fit_of sz psz hdm hfl) ?_)
  dsimp only
  refine wp_if_neg (by rw [sizeLine_eq]; omega) ?_
  first
    | refine wpAny_bind (wpAny_pure ?_)
    | skip
  rw [e]
  dsimp only
  refine wpAny_bind (wp_if_neg (by rw [hs2]; simp) ?_)
  first
    | refine wpAny_bind (wpAny_pure (wpAny_pure ?_))
    | refine wpAny_pure ?_
  dsimp only
  refine wpAny_storeSet_of ho hd ?_ (by rw [hs2, sz, sizeLine_eq]; omega)
  refine q _ L2 (order.filterMap (es[·]?)) (ep + 1) t' (Heap.SameBut.update ..) ⟨⟨_, store_at ho hd, ⟨hex.1, hex.2.1, hex.2.2⟩, rfl⟩, r1, T, (r2.map (·.2)).nodup_iff.mpr one, ?_, by rw [r2.length_eq]; exact few⟩ r2
  rw [r2.length_eq, em]
  exact hn
theorem add_key (R : SetTK P w s.heap a L es ep t) (TT : ∀ p ∈ L, TupK P w s.heap p.2 p.1) {x : Addr} {k : List Key} (hx : TupK P w s.heap k x) (hu : A.units < cLine) (hfew : L.length + 1 < 64) {Q : Bool → Shared → Prop}
    (q : ∀ b h' L' es' ep' t', Heap.SameBut a s.heap h' → SetTK P w h' a L' es' ep' t' → (k ∈ L.map (·.2) → L' = L) → (k ∉ L.map (·.2) → L'.Perm ((x, k) :: L)) → Q b { s with heap := h' }) :
    wpAny (model P w) A (setAddHashed a (.ref x) (kh P w k)) Q E s := by
  obtain ⟨o, go, gx, gd⟩ := R.ob
  have sz := ents_len R.row
  have room := R.room
  unfold setAddHashed
  refine wpAny_holding ?_
  rw [show (100000 : Nat) = 99999 + 1 from rfl, setAddHashedIn_succ]
  refine wpAny_bind (wpAny_setState_of go gd R.fit ?_)
  dsimp only
  refine wp_if_neg (by simp [byScan, Value.scannable]) ?_
  first
    | refine wpAny_bind (wpAny_pure ?_)
    | skip
  refine wpAny_bind (look_at R TT hx hu (fun r _ hm => ?_) fun K hm free busy => ?_)
  · exact wpAny_pure (q false s.heap L es ep t (Heap.SameBut.refl a s.heap) R (fun _ => rfl) fun z => absurd hm z)
  · dsimp only
    refine wpAny_bind (wpAny_setState_of go gd R.fit ?_)
    dsimp only
    obtain ⟨q1, q2, q3, q4, q5, q6, q7, q8, q9⟩ := R.tab.put free busy
    generalize t.put (way t.mask (kh P w k) K) = pt at q1 q3 q4 q5 q6 q7 q8 q9 ⊢
    obtain ⟨t1, p⟩ := pt
    dsimp only at q1 q3 q4 q5 q6 q7 q8 q9 ⊢
    subst q1
    have ins : (SetTable.insertAt es (SetTable.below t.place (way t.mask (kh P w k) K)) (kh P w k, Value.ref x)).toList = ents P w (L.take (SetTable.below t.place (way t.mask (kh P w k) K)) ++ (x, k) :: L.drop (SetTable.below t.place (way t.mask (kh P w k) K))) := by
      rw [SetTable.toList_insertAt, ents_put, R.row]
    generalize SetTable.below t.place (way t.mask (kh P w k) K) = p at q2 q3 ins ⊢
    have pm := put_perm L p (x, k)
    have hhs : (L.take p ++ (x, k) :: L.drop p).map (fun p => kh P w p.2) = (L.map fun p => kh P w p.2).take p ++ kh P w k :: (L.map fun p => kh P w p.2).drop p := by
      rw [List.map_append, List.map_cons, List.map_take, List.map_drop]
    rw [← hhs] at q3
    generalize L.take p ++ (x, k) :: L.drop p = L1 at pm q3 ins hhs
    have len1 : L1.length = L.length + 1 := pm.length_eq
    have one1 : (L1.map (·.2)).Nodup := (pm.map (·.2)).nodup_iff.mpr (by rw [List.map_cons]; exact List.nodup_cons.mpr ⟨hm, R.one⟩)
    have hes := (ents_len ins).trans len1
    generalize SetTable.insertAt es p (kh P w k, Value.ref x) = es1 at ins hes ⊢
    have body : ∀ t2 : SetTable, t2 = t1 ∨ t2 = { t1 with plain := false } → wpAny (model P w) A (do
        storeSet a es1 t2
        if !false && t2.tooFull then setRelay a (SetTable.grown (es.size + 1))
        return true) Q E s := fun t2 ht2 => by
      have q32 : TabOk t2 (L1.map fun p => kh P w p.2) := by
        rcases ht2 with rfl | rfl
        · exact q3
        · exact ⟨q3.ris, q3.dm, q3.sz, q3.mok, q3.bd, q3.reach⟩
      have q42 : t2.mask = t.mask := by rcases ht2 with rfl | rfl <;> exact q4
      have full : t2.tooFull = t1.tooFull := by rcases ht2 with rfl | rfl <;> rfl
      refine wpAny_bind (wpAny_storeSet_of go gd ?_ (by rw [hes, sizeLine_eq]; omega))
      have sb : Heap.SameBut a s.heap (s.heap.update a (Obj.putSet es1 t2)) := Heap.SameBut.update ..
      have ho1 := store_at (es' := es1) (t' := t2) go gd
      generalize s.heap.update a (Obj.putSet es1 t2) = h1 at sb ho1 ⊢
      have psz2 : t2.place.size = L1.length := by
        have z := q32.sz
        rwa [List.length_map] at z
      have say : t1.tooFull = decide ((L.length + 1) * 5 ≥ t1.mask * 3) := by
        unfold SetTable.tooFull
        rw [q9, List.length_map]
      by_cases hf : t2.tooFull = true
      · first
          | (refine wpAny_bind ?_; refine wp_if_pos (by simp [hf]) ?_)
          | (refine wp_if_pos (by simp [hf]) ?_; refine wpAny_bind ?_)
        have big : (L.length + 1) * 5 ≥ t.mask * 3 := by
          rw [full, say, decide_eq_true_eq, q4] at hf
          exact hf
        rw [sz]
        have two : (t.mask = 7 ∧ L.length = 4) ∨ (t.mask = 31 ∧ L.length = 18) := by
          rcases R.tab.mok with e | e | e
          · exact .inl ⟨e, by rw [e] at big room; omega⟩
          · exact .inr ⟨e, by rw [e] at big room; omega⟩
          · rw [e] at big; omega
        have go2 : ∀ M, SetTable.sizeAbove (SetTable.grown (L.length + 1)) - 1 = M → MaskOk M → SetTable.sizeAbove (SetTable.grown (L.length + 1)) ≤ 128 → (L.length + 1) * 5 < M * 3 →
            wpAny (model P w) A (setRelay a (SetTable.grown (L.length + 1))) (fun _ s' => wpAny (model P w) A (pure true) Q E s') E { s with heap := h1 } := fun M b1 b2 b3 b4 =>
          relay_key (s := { s with heap := h1 }) ho1 ⟨gx.1, gx.2.1, gx.2.2⟩ rfl ins psz2 q32.dm (by rw [len1, q42]; rcases two with ⟨e, e2⟩ | ⟨e, e2⟩ <;> omega) one1 (by rw [len1]; exact hfew) b1 b2 b3 (by rw [len1]; exact b4)
            fun h2 L2 es2 ep2 t2 sb2 R2 pm2 => wpAny_pure (q true h2 L2 es2 ep2 t2 (sb.trans sb2) R2 (fun z => absurd z hm) fun _ => pm2.trans pm)
        rcases two with ⟨_, e2⟩ | ⟨_, e2⟩
        · exact go2 31 (by rw [e2, size_20]) (.inr (.inl rfl)) (by rw [e2, size_20]; decide) (by omega)
        · exact go2 127 (by rw [e2, size_76]) (.inr (.inr rfl)) (by rw [e2, size_76]; decide) (by omega)
      · first
          | refine wp_if_neg (by simp [hf]) ?_
          | (refine wpAny_bind ?_; refine wp_if_neg (by simp [hf]) ?_; refine wpAny_pure ?_)
        refine wpAny_pure (q true h1 L1 es1 (ep + 1) t2 sb ⟨⟨_, ho1, ⟨gx.1, gx.2.1, gx.2.2⟩, rfl⟩, ins, q32, one1, ?_, by rw [len1]; exact hfew⟩ (fun z => absurd z hm) fun _ => pm)
        rw [full, say, decide_eq_true_eq, q4] at hf
        rw [len1, q42]
        omega
    by_cases hp1 : t1.plain = true
    · first
        | (refine wpAny_bind ?_; refine wp_if_pos hp1 ?_; refine val_tup hx fun c => ?_)
        | refine wp_if_pos hp1 (wpAny_bind (val_tup hx fun c => ?_))
      cases c
      · exact body _ (.inr rfl)
      · exact body _ (.inl rfl)
    · first
        | (refine wpAny_bind ?_; refine wp_if_neg hp1 ?_; refine wpAny_pure ?_)
        | refine wp_if_neg hp1 (wpAny_bind (wpAny_pure ?_))
      exact body _ (.inl rfl)
end
end L2

namespace L2
open PySem PySem.Spec PyProof.Rows
/-- the set at a: tuples of ints and texts, each with its address -/
def TsO (P : Program) (w : World) (a : Addr) (L : List (Addr × List Key)) : HO := .ext fun h => ∃ es ep t, SetTK P w h a L es ep t
/-- its tuples stand where they stood -/
def TupsIn (H : Hp) (L : List (Addr × List Key)) : Prop := ∀ p ∈ L, H p.1 = some (.tup (p.2.map kV))
/-- the key is among them -/
def hasK (L : List (Addr × List Key)) (k : List Key) : Bool := L.any fun p => decide (p.2 = k)
theorem hasK_iff {L : List (Addr × List Key)} {k : List Key} : hasK L k = true ↔ k ∈ L.map (·.2) := by simp [hasK]
theorem hasK_no {L : List (Addr × List Key)} {k : List Key} (h : k ∉ L.map (·.2)) : hasK L k = false := by
  cases e : hasK L k
  · rfl
  · exact absurd (hasK_iff.mp e) h
section
variable {X : Cx} {P : Program} {w : World}
theorem setTK_move {h h' : Heap} {a : Addr} {L : List (Addr × List Key)} {es : Array (Int × Value)} {ep : Nat} {t : SetTable} (R : SetTK P w h a L es ep t) (k : ∀ o, h.get? a = some o → h'.get? a = some o) : SetTK P w h' a L es ep t := by
  obtain ⟨o, go, r⟩ := R.ob
  exact ⟨⟨o, k o go, r⟩, R.row, R.tab, R.one, R.room, R.few⟩
theorem tsO_new {H : Hp} {h : Heap} {a : Addr} {L : List (Addr × List Key)} {es : Array (Int × Value)} {ep : Nat} {t : SetTable} (R : SetTK P w h a L es ep t) : ObjOk P w H h a (TsO P w a L) := by
  have ⟨o, go, _⟩ := R.ob
  exact ⟨⟨es, ep, t, R⟩, ⟨o, go⟩, fun h1 h2 ⟨e1, p1, t1, p⟩ k => ⟨e1, p1, t1, setTK_move p k⟩⟩
theorem tsO_get {pins : List (Addr × Obj)} {σ : St} {H : Hp} {s : Shared} {a : Addr} {L : List (Addr × List Key)} (I : Inv X pins σ H s) (ha : H a = some (TsO X.prog X.w a L)) : ∃ es ep t, SetTK X.prog X.w s.heap a L es ep t := (I.hok a _ ha).1
theorem setTK_type {s : Shared} {a : Addr} {L : List (Addr × List Key)} {es : Array (Int × Value)} {ep : Nat} {t : SetTable} (R : SetTK P w s.heap a L es ep t) : s.TypeIs (.ref a) "set" := by
  obtain ⟨o, go, gx, _⟩ := R.ob
  exact ⟨o, go, gx.1⟩
/-- set(), that tuples will be put into -/
def rSet0T (P : Program) (w : World) : List V → Hp → VK → Prop := fun xs H Q => xs = [] ∧ ∀ p, H p = none → Q (.ref p) (upd H p (TsO P w p []))
theorem setTK_nil {h : Heap} {a : Addr} (ho : h.get? a = some { cls := .type "set", dict := none, data := .set #[] 0 (.fresh 0 0 (!w.params.followText "set-order")) }) : SetTK P w h a [] #[] 0 (.fresh 0 0 (!w.params.followText "set-order")) :=
  ⟨⟨_, ho, ⟨rfl, rfl, rfl⟩, rfl⟩, rfl, ⟨.nil, rfl, rfl, .inl rfl, (fun x hx => nomatch hx), fun i h j hi => by simp at hi⟩, .nil, by show 0 * 5 < 7 * 3; decide, by show 0 < 64; decide⟩
theorem cr_set0T : CallR X (.type "set") (rSet0T X.prog X.w) := by
  intro pins s σ H xs us Q I r h
  obtain ⟨rfl, q⟩ := h
  cases r
  refine setR_new fun _ => ?_
  refine ⟨.ref _, upd H s.heap.objs.size (TsO X.prog X.w s.heap.objs.size []), I.laid (t' := s.toks) (fun b u e => Heap.get?_push_of_some _ e) (Nat.le_refl _) (tsO_new (setTK_nil (Heap.get?_push_size _ rfl))), rfl, q _ (I.hok.fresh (Nat.le_refl _))⟩
theorem tupK_of {pins : List (Addr × Obj)} {σ : St} {H : Hp} {s : Shared} {b : Addr} {k : List Key} (I : Inv X pins σ H s) (e : H b = some (.tup (k.map kV))) : TupK X.prog X.w s.heap k b := key_of I.hok e
/-- s.add(t) -/
def rSAddT (P : Program) (w : World) : V → List V → Hp → VK → Prop := fun x xs H Q => ∃ (a b : Addr) (k : List Key) (L : List (Addr × List Key)), x = V.ref a ∧ xs = [.ref b] ∧ H b = some (.tup (k.map kV)) ∧ H a = some (TsO P w a L) ∧ TupsIn H L ∧ L.length + 1 < 64 ∧
  (k ∈ L.map (·.2) → Q .non (upd H a (TsO P w a L))) ∧ (k ∉ L.map (·.2) → ∀ L', L'.Perm ((b, k) :: L) → Q .non (upd H a (TsO P w a L')))
theorem mt_saddT (hu : X.A.units + 1 < cLine) : MtR X "set.add" (rSAddT X.prog X.w) := by
  intro pins s σ H x xs v us Q I rx rxs h
  obtain ⟨a, b, k, L, rfl, rfl, hb, ha, hL, room, q1, q2⟩ := h
  cases rx
  obtain ⟨u, rfl, ru⟩ := rxs.one
  cases ru
  obtain ⟨es, ep, t, R⟩ := tsO_get I ha
  have T := tupK_of I hb
  refine wpAny_call_entry F.slot_set_add (setTK_type R) F.entry_set_add ?_ (F.args_set_add_2 _ _)
  simp only [Builtin.«set.add», Builtin.Frozenset.oneOther, Builtin.Frozenset.addrOf, setAdd, List.isEmpty_nil, bind_assoc]
  refine wpAny_bind (wpAny_pure (wpAny_bind (wpAny_pure (wpAny_bind (wpAny_holding (wpAny_bind (wpAny_pyHash_tuple (A := X.A.in1) hu T ?_)))))))
  refine add_key (s := { s with toks := s.toks + (k.length + 1) }) R (fun p hp => tupK_of (s := s) I (hL p hp)) T (by exact hu) room fun c h' L' es' ep' t' sb R' y n => ?_
  show wpAny _ _ (ret Value.none) _ _ _
  refine wpAny_pure ⟨_, rfl, ?_⟩
  have he : ∃ u, h'.get? a = some u := by
    have ⟨o, go, _⟩ := R'.ob
    exact ⟨o, go⟩
  refine ⟨.non, upd H a (TsO X.prog X.w a L'), I.write (e := a) (t' := s.toks + (k.length + 1)) (by rw [ha]; trivial) (.inl rfl) (fun b u hb hu => (sb.2 b hb).trans hu) he (tsO_new R'), rfl, ?_⟩
  by_cases m : k ∈ L.map (·.2)
  · rw [y m]; exact q1 m
  · exact q2 m L' (n m)
def tSAddT (P : Program) (w : World) (to : TE) (t : TA) : TE := fun σ H Q => to σ H fun x H1 => (∃ a L, x = V.ref a ∧ H1 a = some (TsO P w a L)) ∧ t σ H1 fun xs H2 => rSAddT P w x xs H2 Q
theorem pe_saddT {o e : Expr} {es : List Expr} {to : TE} {t : TA} {apos cpos : Pos} (hu : X.A.units + 1 < cLine) (ho : PE X o to) (ha : PA X (e :: es) t)
    (h1 : attributeBase o "add" X.env (eval o X.env) = eval o X.env := by rfl)
    (h2 : ((backTo cpos (starEach (e :: es) X.env)).all (fun x => !x.1) && (backToKw cpos (keywordEach [] X.env)).all (fun x => x.1.isSome) && decide ((e :: es).length + ([] : List Keyword).length + (if ([] : List Keyword).isEmpty then 0 else 1) < 30)) = true := by rfl)
    (h3 : (apos.endLine == cpos.line) = true := by rfl) (h4 : starEach (e :: es) X.env = (false, eval e X.env) :: starEach es X.env := by rfl) (h5 : (backTo cpos (starEach es X.env)).any (·.1) = false := by rfl) :
    PE X (.Call (.Attribute o "add" apos) (e :: es) [] cpos) (tSAddT X.prog X.w to t) := by
  refine ⟨fun pins s σ H Q I h => ?_⟩
  refine wpAny_Call_method_late h1 h2 h3 rfl (thn (ho.run pins s σ H _ I h) fun v s1 ⟨x, H1, I1, r1, ty, q1⟩ => ?_)
  obtain ⟨a, L, rfl, hka⟩ := ty
  obtain ⟨ee, ep, tt, R⟩ := tsO_get I1 hka
  cases r1
  refine ⟨"set", "set.add", F.plainAttrs_set, F.slot_set_add, F.type_set_add, setTK_type R, (fun b e => ?_), ?_⟩
  · injection e with e
    subst e
    have ⟨o, go, gx, _⟩ := R.ob
    exact ⟨o, go, gx.2.1⟩
  have hA := ha.run cpos pins s1 σ H1 _ I1 q1
  rw [h4] at hA ⊢
  refine Calls.callWith_builtin (by show (false || (backTo cpos (starEach es X.env)).any (·.1)) = false; rw [h5] <;> rfl) (Calls.evalArgs_plain ?_)
  exact thn hA fun us s2 ⟨vs, H2, I2, r2, q2⟩ => mt_saddT hu pins s2 σ H2 (.ref a) vs (.ref a) us Q I2 rfl r2 q2
/-- t in s -/
def rSInT (P : Program) (w : World) : V → V → Hp → VK → Prop := fun x y H Q => ∃ (a b : Addr) (k : List Key) (L : List (Addr × List Key)), x = .ref b ∧ y = .ref a ∧ H b = some (.tup (k.map kV)) ∧ H a = some (TsO P w a L) ∧ TupsIn H L ∧ Q (.bl (hasK L k)) H
theorem find_key {A : Around} {E : Value → Shared → Prop} {s : Shared} {a : Addr} {L : List (Addr × List Key)} {es : Array (Int × Value)} {ep : Nat} {t : SetTable} (R : SetTK P w s.heap a L es ep t) (TT : ∀ p ∈ L, TupK P w s.heap p.2 p.1) {x : Addr} {k : List Key} (hx : TupK P w s.heap k x) (hu : A.units < cLine) {Q : Option Nat → Shared → Prop}
    (q : ∀ r : Option Nat, r.isSome = hasK L k → Q r s) : wpAny (model P w) A (setFind a (.ref x) (kh P w k)) Q E s := by
  obtain ⟨o, go, gx, gd⟩ := R.ob
  unfold setFind setFindIn
  refine wpAny_bind (wpAny_setState_of go gd R.fit ?_)
  dsimp only
  refine wp_if_neg (by simp [byScan, Value.scannable]) ?_
  first
    | refine wpAny_bind (wpAny_pure ?_)
    | skip
  refine wpAny_bind (look_at (ad := false) R TT hx hu (fun r hr m => ?_) fun K m _ _ => ?_)
  · exact wpAny_pure (q r (by rw [hr rfl, hasK_iff.mpr m]))
  · exact wpAny_pure (q none (by rw [hasK_no m] <;> rfl))
/-- x in s, s a set: the set's own __contains__ is asked -/
theorem set_asked {A : Around} {E : Value → Shared → Prop} {s : Shared} {a b : Addr} {Q : Bool → Shared → Prop} (ty : s.TypeIs (.ref a) "set") (h : ∀ X, wpAny (model P w) A.in1 (setContains a (.ref b)) Q X s) : wpAny (model P w) A (contains (.ref a) (.ref b)) Q E s := by
  have own : ¬ (some (Value.builtin "set.__contains__") == some Value.none) = true := by rw [beq_builtin_none]; exact Bool.false_ne_true
  refine wpAny_holding ?_
  refine wpAny_bind (wpAny_specialOf ty F.slot_set_contains.lookup ?_)
  refine wp_if_neg own (wpAny_bind (wpAny_callSpecialUnlessNone?_slot (name := Str.ofString "__contains__") ty F.slot_set_contains (wpAny_call_entry F.slot_set_contains ty entry_set_contains ?_ (F.args_set_contains_2 _ _))))
  simp only [Builtin.«frozenset.__contains__», Builtin.Frozenset.oneOther, Builtin.Frozenset.addrOf, Builtin.Frozenset.withSetAsKey, List.isEmpty_nil, bind_assoc]
  exact wpAny_bind (wpAny_pure (wpAny_bind (wpAny_pure (wpAny_bind (wpAny_tryCatch (wpAny_mono (h _) (fun r z q => wpAny_pure ⟨_, rfl, wpAny_truthy_bool q⟩) fun _ _ q => q))))))
theorem or_sinT (hu : X.A.units + 1 < cLine) : OpR X (compareOp .In) (rSInT X.prog X.w) := by
  intro pins s σ H x y v u Q I rx ry h
  obtain ⟨a, b, k, L, rfl, rfl, hb, ha, hL, q⟩ := h
  cases rx
  cases ry
  obtain ⟨es, ep, t, R⟩ := tsO_get I ha
  have T := tupK_of I hb
  have ty := setTK_type R
  refine wpAny_bind (set_asked ty fun _ => wpAny_holding (wpAny_bind (wpAny_pyHash_tuple (A := X.A.in1) hu T ?_)))
  refine wpAny_bind (find_key (s := { s with toks := s.toks + (k.length + 1) }) R (fun p hp => tupK_of (s := s) I (hL p hp)) T (by exact hu) fun r hr => ?_)
  exact wpAny_pure (wpAny_pure ⟨.bl (hasK L k), H, I.tok _, by rw [hr]; rfl, q⟩)
/-- len(s), a set of ints and texts -/
def rLenSK (P : Program) (w : World) : List V → Hp → VK → Prop := fun xs H Q => ∃ (a : Addr) (S : Key → Bool) (n : Nat), xs = [.ref a] ∧ H a = some (SetK P w a S n) ∧ Q (.int n) H
theorem call_lenSK : CallR X (.builtin "len") (rLenSK X.prog X.w) := by
  intro pins s σ H xs us Q I r h
  obtain ⟨a, S, n, rfl, ha, q⟩ := h
  rw [Vals.ref1 r]
  obtain ⟨o, es, ep, t, ho, hex, hd, _, _, hb, hf, hn⟩ := setK_get I ha
  have hb' : es.size < 4096 := hb
  refine call_len_set ho hex hd hf (by omega) ⟨.int n, H, I.tok _, ⟨_, by rw [hn]⟩, q⟩
end
end L2

/-! set(l) of a list: the shell, and the loop that puts the items in -/
namespace L2
open PySem PySem.Froz PyProof.Rows PySem.Spec
section
variable {P : Program} {w : World} {A : Around} {E : Value → Shared → Prop} {s : Shared}
/-- the set that set() begins with -/
def bareSet (w : World) : Obj := { cls := .type "set", dict := none, data := .set #[] 0 (.fresh 0 0 (!w.params.followText "set-order")) }
/-- set(l): what the loop that puts the items in makes of the bare set is the set -/
theorem set_made {l : Addr} {xs : Array Value} {Q : Value → Shared → Prop} (Gd : Heap → Prop) (hl : s.heap.IsList l xs) (hh : A.handled = none)
    (loop : ∀ B : Around, B.handled = none → codeAny (model P w) B (.builtin "set.update.loop" ⟨[.ref s.heap.objs.size, .ref (s.heap.objs.size + 1)], []⟩)
      (fun r z => r = .ok (.ret .none) ∧ ∃ h' tk, z = { s with heap := h', toks := tk } ∧ Gd h' ∧ ∀ b o, s.heap.get? b = some o → h'.get? b = some o)
      { s with heap := (s.heap.push (bareSet w)).push { cls := .type "list_iterator", data := .fields #[.ref l, .int 0 0] } })
    (q : ∀ h' tk, Gd h' → (∀ b o, s.heap.get? b = some o → h'.get? b = some o) → Q (.ref s.heap.objs.size) { s with heap := h', toks := tk }) : wpAny (model P w) A (call (.type "set") [.ref l]) Q E s := by
  obtain ⟨c, tl, hmro⟩ := F.called_set.mro
  have f1 := F.called_set.made
  have f2 := F.called_set.sub
  have f3 := F.called_set.notType
  have f4 := F.called_set.canCreate
  have f5 := F.typeCall_set_1 (.ref l)
  refine wpAny_call (codeAny_of_tree (?_ : wpAny _ _ (callAny (.type "set") _) _ _ _))
  refine wpAny_pure ⟨Code.quiet_builtin _ (by decide +kernel), codeAny_builtin F.entry_type_call ?_⟩
  rw [Around.under_plain (weight_type_call_type "set" [.ref l] []) rfl]
  repeat (any_goals (first | assumption | wp_step))
  refine codeAny_mono (code_set_led1 (.ref l) (E := E) (Q₁ := fun v z => v = .ref s.heap.objs.size ∧ z = { s with heap := s.heap.push (bareSet w) }) ⟨rfl, rfl⟩) fun r z hr => ?_
  match r, hr with
  | .error e, hr => exact hr
  | .ok .next, hr => exact hr.elim
  | .ok .brk, hr => exact hr.elim
  | .ok .cont, hr => exact hr.elim
  | .ok (.ret v), hr =>
    obtain ⟨rfl, rfl⟩ := hr
    have own : (s.heap.push (bareSet w)).get? s.heap.objs.size = some (bareSet w) := Heap.get?_push_size _ rfl
    have ty : Shared.TypeIs { s with heap := s.heap.push (bareSet w) } (.ref s.heap.objs.size) "set" := ⟨_, own, rfl⟩
    have f6 := F.called_set.init.lookup
    have f7 := F.called_set.init.bind (.ref s.heap.objs.size)
    repeat (any_goals (first | assumption | wp_step))
    refine codeAny_mono (codeAny_call_builtin (R := wants (fun v z => v = .none ∧ ∃ h' tk, z = { s with heap := h', toks := tk } ∧ Gd h' ∧ ∀ b o, s.heap.get? b = some o → h'.get? b = some o) E) F.called_set.init.plain F.entry_set_init (check_set_init_1 ty ?init)) fun r2 z2 hr2 => ?_
    case init =>
      obtain ⟨⟨cl, dc, dt, sl⟩, g, gc, n, gd⟩ := hl
      simp only at gc gd
      subst gc gd
      have g1 : (s.heap.push (bareSet w)).get? l = some ⟨.type "list", dc, .seq xs n, sl⟩ := Heap.get?_push_of_some _ g
      have li : (s.heap.push (bareSet w)).IsList l xs := ⟨_, g1, rfl, n, rfl⟩
      have k1 := F.sub_list_set
      have k2 := F.sub_list_frozenset
      have k3 : (Value.type "list" == Value.type "dict") = false := by decide
      unfold Builtin.«set.__init__» noKeywords Builtin.Frozenset.updateFrom
      generalize hi : pyIter = PI
      wp_walk
      subst hi
      refine wpAny_pyIter_list li (wpAny_bind (wpAny_runValue ?_))
      have lo := loop A.in1.in1 (by simp [hh])
      rw [Heap.size_push]
      refine codeAny_mono lo fun r3 z3 h3 => ?_
      obtain ⟨rfl, h', tk, rfl, gd, keep⟩ := h3
      exact wpAny_pure (wpAny_pure ⟨rfl, h', tk, rfl, gd, keep⟩)
    match r2, hr2 with
    | .error e, hr2 => exact hr2
    | .ok .next, hr2 => exact hr2.elim
    | .ok .brk, hr2 => exact hr2.elim
    | .ok .cont, hr2 => exact hr2.elim
    | .ok (.ret v), hr2 =>
      obtain ⟨rfl, h', tk, rfl, gd, keep⟩ := hr2
      repeat (any_goals (first | assumption | wp_step))
      exact q h' tk gd keep
/-- the loop over a list: J tells what the set at S is behind i items -/
theorem fill_list {S I l : Addr} {items : Array Value} (J : Nat → Heap → Prop) (calm : A.handled = none) (apart : S ≠ I ∧ S ≠ l ∧ l ≠ I) (stay : ∀ i h h', (∀ o, h.get? S = some o → h'.get? S = some o) → J i h → J i h')
    (add : ∀ i x (z : Shared) (Q : Bool → Shared → Prop) (X : Value → Shared → Prop), items[i]? = some x → J i z.heap → (∀ b h', Heap.SameBut S z.heap h' → J (i + 1) h' → Q b { z with heap := h', toks := z.toks + 1 }) → wpAny (model P w) A.in1 (setAdd S x) Q X z) :
    ∀ (n i : Nat) (z : Shared), n + i = items.size → z.heap.IsListIter I l i → z.heap.IsList l items → J i z.heap → codeAny (model P w) A (.builtin "set.update.loop" ⟨[.ref S, .ref I], []⟩)
      (fun r y => r = .ok (.ret .none) ∧ ∃ h' tk, y = { z with heap := h', toks := tk } ∧ J items.size h' ∧ ∀ b o, b ≠ S → b ≠ I → z.heap.get? b = some o → h'.get? b = some o) z := by
  intro n
  induction n with
  | zero =>
    intro i z en it li j
    obtain rfl : i = items.size := by omega
    exact codeAny_builtin F.entry_set_update_loop ((Around.under_plainId F.plain_set_update_loop _).symm ▸ wpAny_bind (wpAny_pyNext_list_end calm it li (Array.getElem?_eq_none (Nat.le_refl _)) fun h' ext => wpAny_pure ⟨rfl, h', z.toks, rfl, stay _ _ _ (fun o e => ext S o apart.1 e) j, fun b o _ bI e => ext b o bI e⟩))
  | succ n more =>
    intro i z en it li j
    have lt : i < items.size := by omega
    refine codeAny_builtin F.entry_set_update_loop ((Around.under_plainId F.plain_set_update_loop _).symm ▸ wpAny_bind (wpAny_pyNext_list_item it li (Array.getElem?_eq_getElem lt) fun h1 it1 sb1 => ?_))
    refine wpAny_bind (wpAny_holding (add i _ { z with heap := h1 } _ _ (Array.getElem?_eq_getElem lt) (stay _ _ _ (fun o e => (sb1.2 S apart.1).trans e) j) fun b h2 sb2 j2 => wpAny_pure ⟨plainId_quiet F.plain_set_update_loop _, ?_⟩))
    have li1 : h1.IsList l items := li.at fun o e => (sb1.2 l apart.2.2).trans e
    refine codeAny_mono (more (i + 1) { z with heap := h2, toks := z.toks + 1 } (by omega) (it1.at fun o e => (sb2.2 I (Ne.symm apart.1)).trans e) (li1.at fun o e => (sb2.2 l (Ne.symm apart.2.1)).trans e) j2) ?_
    rintro r y ⟨rfl, h', tk, rfl, jn, far⟩
    exact ⟨rfl, h', tk, rfl, jn, fun b o bS bI e => far b o bS bI ((sb2.2 b bS).trans ((sb1.2 b bI).trans e))⟩
end
end L2

/-! sets of texts, made of a list; sorted of them -/
namespace L2
open PySem PySem.Spec PyProof.Rows PySem.Froz
/-- the payload of a set of the texts l -/
structure TxS (P : Program) (w : World) (D : SD) (l : List Str) : Prop where
  ok : TxOk P w D l
  one : l.Nodup
  ris : Ris D.2.2.place.toList
  led : w.params.followText "set-order" = true ∨ D.2.2.led = true
section
variable {P : Program} {w : World} {A : Around} {E : Value → Shared → Prop} {s : Shared}
theorem add_tab (D : SD) (h : Int) (v : Value) (r : Ris D.2.2.place.toList) : Ris (addTx h v D).2.2.place.toList ∧ (addTx h v D).2.2.led = D.2.2.led := by
  obtain ⟨es, ep, t⟩ := D
  have a1 := layNew_ris t es h v r
  have a2 := layNew_led t es h v
  unfold addTx
  dsimp only
  generalize layNew t es h v = L at a1 a2
  obtain ⟨es1, t1, wd, gv⟩ := L
  dsimp only at a1 a2 ⊢
  have b1 : Ris (if t1.plain = true then { t1 with plain := false } else t1).place.toList := by split <;> exact a1
  have b2 : (if t1.plain = true then { t1 with plain := false } else t1).led = t.led := by split <;> exact a2
  generalize (if t1.plain = true then { t1 with plain := false } else t1) = t2 at b1 b2
  unfold tailTx
  split
  · exact ⟨relayAll_ris _ _ _, (relayAll_led _ _ _).trans b2⟩
  · exact ⟨b1, b2⟩
theorem TxS.more {D : SD} {l : List Str} (R : TxS P w D l) {k : Str} (u : Tok) (hk : k ∉ l) : TxS P w (addTx (hashStr w k) (.str k u) D) (k :: l) := by
  obtain ⟨a, b⟩ := add_tab D (hashStr w k) (.str k u) R.ris
  exact ⟨add_ok u R.ok, List.nodup_cons.mpr ⟨hk, R.one⟩, a, by rw [b]; exact R.led⟩
/-- adding a text that is there -/
theorem add_there {a : Addr} {D : SD} {l : List Str} {k : Str} {u : Tok} {Q : Bool → Shared → Prop} (ho : s.heap.get? a = some (sObj "set" D)) (F : TxOk P w D l) (hk : k ∈ l) (hb : l.length < scanBound) (q : Q false s) :
    wpAny (model P w) A (setAddHashed a (.str k u) (hashStr w k)) Q E s := by
  obtain ⟨es, ep, t⟩ := D
  have gd : (sObj "set" (es, ep, t)).data = .set es ep t := rfl
  have gf : t.fits es.size = true := F.fit
  have gel : ElemsOf (strKind P w) es.toList := F.el
  have gsz : es.size = l.length := F.sz
  have gk : (strKind P w).is k (.str k u) = true := is_str k u
  obtain ⟨j, hj⟩ : ∃ j, List.findIdx? (fun e => (strKind P w).is k e.2) es.toList = some j := by
    cases hr : List.findIdx? (fun e => (strKind P w).is k e.2) es.toList with
    | some j => exact ⟨j, rfl⟩
    | none =>
      obtain ⟨e, he, z⟩ := (F.mem k).mp hk
      have z' := List.findIdx?_eq_none_iff.mp hr e he
      rw [z] at z'
      exact nomatch z'
  unfold setAddHashed setAddHashedIn
  refine wpAny_holding (wpAny_bind (wpAny_setState_of ho gd gf ?_))
  dsimp only
  rw [byScan_of rfl (by omega) gel]
  simp only [↓reduceIte]
  unfold setAddByScan
  refine wpAny_bind (wpAny_bind (wpAny_rule ?_))
  refine wpAny_bind (wpAny_setScan_of (knd := strKind P w) (k := k) gk ho gd gf gel ?_)
  rw [hj]
  dsimp only
  exact wpAny_pure (wpAny_pure q)
/-- a text is put in, be it there or not -/
theorem add_text {S : Addr} {D : SD} {l : List Str} {x : Str} {u : Tok} {Q : Bool → Shared → Prop} (at_ : s.heap.get? S = some (sObj "set" D)) (T : TxS P w D l) (few : l.length + 1 < scanBound)
    (q : ∀ b h' D' l', Heap.SameBut S s.heap h' → h'.get? S = some (sObj "set" D') → TxS P w D' l' → l'.length ≤ l.length + 1 → (∀ z, z ∈ l' ↔ z = x ∨ z ∈ l) → Q b { s with heap := h', toks := s.toks + 1 }) :
    wpAny (model P w) A (setAdd S (.str x u)) Q E s := by
  refine wpAny_holding (wpAny_bind ((strKind P w).pyHash (is_str x u) ?_))
  by_cases there : x ∈ l
  · refine add_there (s := { s with toks := s.toks + 1 }) at_ T.ok there (by omega) (q _ s.heap D l (Heap.SameBut.refl S _) at_ T (by omega) fun z => ⟨.inr, ?_⟩)
    rintro (rfl | h)
    · exact there
    · exact h
  · exact add_x (s := { s with toks := s.toks + 1 }) at_ T.ok there few (q _ _ _ (x :: l) (Heap.SameBut.update ..) (get_upd _ at_ rfl) (T.more u there) (Nat.le_refl _) fun z => List.mem_cons)
/-- set(xs), xs a list of texts -/
theorem set_texts {l : Addr} {items : Array Value} (xs : List Str) {Q : Value → Shared → Prop} (hh : A.handled = none) (hl : s.heap.IsList l items) (hit : StrsAre items.toList xs) (few : xs.length < 64)
    (q : ∀ (h' : Heap) (tk : Nat) D ys, h'.get? s.heap.objs.size = some (sObj "set" D) → TxS P w D ys → ys.length ≤ xs.length → (∀ z, z ∈ ys ↔ z ∈ xs) → (∀ b o, s.heap.get? b = some o → h'.get? b = some o) → Q (.ref s.heap.objs.size) { s with heap := h', toks := tk }) :
    wpAny (model P w) A (call (.type "set") [.ref l]) Q E s := by
  have size : items.size = xs.length := by rw [← Array.length_toList]; exact hit.length
  have low : l < s.heap.objs.size := let ⟨_, g, _⟩ := hl; Heap.lt_size g
  have led : w.params.followText "set-order" = true ∨ (!w.params.followText "set-order") = true := by cases w.params.followText "set-order" <;> simp
  refine set_made (fun h' => ∃ D ys, h'.get? s.heap.objs.size = some (sObj "set" D) ∧ TxS P w D ys ∧ ys.length ≤ items.size ∧ ∀ z, z ∈ ys ↔ z ∈ xs.take items.size) hl hh (fun B hB => ?_) fun h' tk ⟨D, ys, g, T, le, mem⟩ keep => ?_
  · have top : ((s.heap.push (bareSet w)).push { cls := .type "list_iterator", data := .fields #[.ref l, .int 0 0] }).get? (s.heap.objs.size + 1) = some { cls := .type "list_iterator", data := .fields #[.ref l, .int 0 0] } := by
      rw [← Heap.size_push s.heap (bareSet w)]
      exact Heap.get?_push_size _ rfl
    refine codeAny_mono (fill_list (A := B) (fun i h => ∃ D ys, h.get? s.heap.objs.size = some (sObj "set" D) ∧ TxS P w D ys ∧ ys.length ≤ i ∧ ∀ z, z ∈ ys ↔ z ∈ xs.take i) hB ⟨Nat.ne_of_lt (Nat.lt_succ_self _), Nat.ne_of_gt low, Nat.ne_of_lt (Nat.lt_succ_of_lt low)⟩
      (fun i h h' k ⟨D, ys, g, r⟩ => ⟨D, ys, k _ g, r⟩) (fun i x z Q' X hx ⟨D, ys, g, T, le, mem⟩ k => ?_) items.size 0 _ rfl ⟨_, top, rfl, rfl⟩ ((hl.push _).push _) ?_) ?_
    · have lt : i < xs.length := by rw [← size]; exact (Array.getElem?_eq_some_iff.mp hx).1
      obtain ⟨t, e⟩ := SS.strs_at hit i x (by rw [Array.getElem?_toList]; exact hx)
      have e' : x = .str xs[i] t := by rw [e, List.getD_eq_getElem?_getD, List.getElem?_eq_getElem lt] <;> rfl
      rw [e']
      refine add_text g T (by unfold scanBound; omega) fun b h' D' l' sb g' T' le' mem' => k b h' sb ⟨D', l', g', T', by omega, fun z => ?_⟩
      rw [mem', mem, take_next (List.getElem?_eq_getElem lt), List.mem_append, List.mem_singleton, or_comm]
    · exact ⟨(#[], 0, .fresh 0 0 (!w.params.followText "set-order")), [], Heap.get?_push_of_some _ (Heap.get?_push_size _ rfl), ⟨TxOk.nil rfl, .nil, .nil, led⟩, Nat.le_refl _, fun z => by rw [List.take_zero]⟩
    · rintro r y ⟨rfl, h', tk, rfl, J, far⟩
      exact ⟨rfl, h', tk, rfl, J, fun b o e => far b o (Nat.ne_of_lt (Heap.lt_size e)) (Nat.ne_of_lt (Nat.lt_succ_of_lt (Heap.lt_size e))) (Heap.get?_push_of_some _ (Heap.get?_push_of_some _ e))⟩
  · refine q h' tk D ys g T (by rw [← size]; exact le) (fun z => ?_) keep
    rw [mem, size, List.take_length]
end
end L2

namespace L2
open PySem PySem.Spec PyProof.Rows PySem.Froz
/-- a set of the texts l -/
def TxO (P : Program) (w : World) (a : Addr) (l : List Str) : HO := .ext fun h => ∃ D, h.get? a = some (sObj "set" D) ∧ TxS P w D l
section
variable {X : Cx} {P : Program} {w : World} {A : Around} {E : Value → Shared → Prop} {s : Shared}
theorem txO_new {H : Hp} {h : Heap} {a : Addr} {l : List Str} {D : SD} (g : h.get? a = some (sObj "set" D)) (T : TxS P w D l) : ObjOk P w H h a (TxO P w a l) :=
  ⟨⟨D, g, T⟩, ⟨_, g⟩, fun h1 h2 ⟨D', g', T'⟩ k => ⟨D', k _ g', T'⟩⟩
/-- set(xs), xs a list of texts -/
def rSetTx (K : PySem.W.Frag) (P : Program) (w : World) : List V → Hp → VK → Prop := fun vs H Q => ∃ (p : Addr) (xs : List Str), vs = [.ref p] ∧ SqL K H p (xs.map V.str) ∧ xs.length < 64 ∧
  ∀ (a : Addr) (l : List Str), l.Nodup → (∀ z, z ∈ l ↔ z ∈ xs) → l.length ≤ xs.length → H a = none → Q (.ref a) (upd H a (TxO P w a l))
theorem cr_setTx (hc : X.calm = true) : CallR X (.type "set") (rSetTx X.K X.prog X.w) := by
  intro pins s σ H vs us Q I r h
  obtain ⟨p, xs, rfl, hs, few, q⟩ := h
  obtain ⟨its, rv, hl, _⟩ := I.list hs
  rw [Vals.ref1 r]
  refine set_texts xs (I.ok.hd hc) hl.isList (by simpa using rv.strs) few fun h' tk D ys g T hlen hm keep => ?_
  exact ⟨.ref _, upd H s.heap.objs.size (TxO X.prog X.w s.heap.objs.size ys), I.laid (t' := tk) (fun b u e => keep b u e) (Nat.le_refl _) (txO_new g T), rfl, q _ ys T.one hm hlen (I.hok.fresh (Nat.le_refl _))⟩
theorem texts_of {D : SD} {l : List Str} (T : TxOk P w D l) : ∃ ss, StrsAre (D.1.toList.map (·.2)) ss ∧ (∀ z, z ∈ ss ↔ z ∈ l) ∧ ss.length = l.length := by
  have key : ∀ es : List (Int × Value), ElemsOf (strKind P w) es → ∃ ss, StrsAre (es.map (·.2)) ss ∧ (∀ z, z ∈ ss ↔ ∃ e ∈ es, (strKind P w).is z e.2 = true) ∧ ss.length = es.length := by
    intro es
    induction es with
    | nil => exact fun _ => ⟨[], .nil, fun z => by simp, rfl⟩
    | cons e es more =>
      intro h
      obtain ⟨ss, h1, h2, h3⟩ := more h.tail
      obtain ⟨⟨k, hk, _⟩, _⟩ := h.head
      obtain ⟨t, et⟩ := Value.isStrOf_shape (x := k) (v := e.2) hk
      refine ⟨k :: ss, by rw [List.map_cons, et]; exact .cons k t h1, fun z => ?_, by rw [List.length_cons, List.length_cons, h3]⟩
      rw [List.mem_cons, h2 z]
      constructor
      · rintro (rfl | ⟨f, hf, q⟩)
        · exact ⟨e, List.mem_cons_self, hk⟩
        · exact ⟨f, .tail _ hf, q⟩
      · rintro ⟨f, hf, q⟩
        rcases List.mem_cons.mp hf with rfl | hf
        · exact .inl ((strKind P w).inj f.2 z k q hk)
        · exact .inr ⟨f, hf, q⟩
  obtain ⟨ss, h1, h2, h3⟩ := key D.1.toList T.el
  exact ⟨ss, h1, fun z => (h2 z).trans (T.mem z).symm, by rw [h3, Array.length_toList, T.sz]⟩
/-- as many different ones as there are: one order of the others -/
theorem perm_of_len {α : Type} [DecidableEq α] : ∀ {l m : List α}, l.Nodup → (∀ z, z ∈ l → z ∈ m) → m.length ≤ l.length → m.Perm l
  | [], [], _, _, _ => .nil
  | [], _ :: _, _, _, h => absurd h (by simp)
  | x :: l, m, hn, hs, hle => by
    have hx := hs x List.mem_cons_self
    obtain ⟨n1, n2⟩ := List.nodup_cons.mp hn
    have hm := List.perm_cons_erase hx
    have hlen := hm.length_eq
    rw [List.length_cons] at hlen hle
    refine hm.trans (.cons x (perm_of_len n2 (fun z hz => ?_) (by omega)))
    have hne : z ≠ x := fun e => n1 (e ▸ hz)
    exact (List.mem_erase_of_ne hne).mpr (hs z (.tail _ hz))
/-- sorted(s), s a set of texts -/
def rSortTx (P : Program) (w : World) : List V → Hp → VK → Prop := fun vs H Q => ∃ (a : Addr) (l : List Str), vs = [.ref a] ∧ H a = some (TxO P w a l) ∧ l.length < 64 ∧
  ∀ (ys : List Str) (p : Addr), ys.Perm l → sortedS ys = true → H p = none → Q (.ref p) (upd H p (.lst (ys.map V.str)))
theorem cr_sortTx (hc : X.calm = true) : CallR X (.builtin "sorted") (rSortTx X.prog X.w) := by
  intro pins s σ H vs us Q I r h
  obtain ⟨a, l, rfl, ha, few, q⟩ := h
  obtain ⟨D, g, T⟩ : ∃ D, s.heap.get? a = some (sObj "set" D) ∧ TxS X.prog X.w D l := (I.hok a _ ha).1
  rw [Vals.ref1 r]
  obtain ⟨es, ep, t⟩ := D
  have sz : es.size = l.length := T.ok.sz
  obtain ⟨ss, s1, s2, s3⟩ := texts_of T.ok
  refine Calls.call_function_entry kind_sorted plain_sorted entry_sorted (args_sorted1 _) ?_
  unfold Builtin.«sorted»
  refine wpAny_bind (m := checkCount "sorted" 1 1 _) (wpAny_pure ?_)
  refine wpAny_bind (collect_set (A := X.A.in1) (I.ok.hd hc) ⟨_, g, rfl, rfl⟩ T.ok.fit (by show es.size < 4096; omega) T.ris T.led fun z vs keep hz g1 o1 pm => ?_)
  have vlen : vs.length = l.length := by rw [pm.length_eq, List.length_map, Array.length_toList, sz]
  obtain ⟨ss', p1, p2⟩ : ∃ ss', StrsAre vs ss' ∧ ss'.Perm ss := by
    refine ⟨vs.map strOf, strsAre_map vs fun v hv => s1.all _ (pm.mem_iff.mp hv), ?_⟩
    have e := pm.map strOf
    rwa [s1.strs] at e
  have pl : ss.Perm l := perm_of_len T.one (fun z hz => (s2 z).mpr hz) (Nat.le_of_eq s3)
  refine wpAny_bind (wpAny_newList ?_ (by rw [vlen, sizeLine_eq]; omega))
  have hoL : (z.heap.push (seqObj "list" vs.toArray 0)).get? z.heap.objs.size = some (seqObj "list" vs.toArray 0) := Heap.get?_push_size _ rfl
  refine wpAny_bind (wpAny_holding (wpAny_call_entry slot_list_sort ⟨_, hoL, rfl⟩ entry_list_sort (list_sort_treeKAny strKind_oneLt hoL p1.keysOf (fun v₁ v₂ rest e => keyKind_strs (by rw [← e]; exact p1)) (by rw [vlen, sizeLine_eq]; omega) fun st' a1 a2 => ⟨_, rfl, ?_⟩) (args_list_sort _)))
  obtain ⟨ys, b1, b2, b3⟩ := sorted_out_str p1 a1 a2
  obtain ⟨c, hcn⟩ := sortedHeap_at (vs := vs) (out := (arrOf st').map (·.2)) hoL
  refine wpAny_pure ⟨_, rfl, ?_⟩
  generalize (arrOf st').map (·.2) = out at b1 hcn ⊢
  have perm : ys.Perm l := b2.trans (p2.trans pl)
  have hlen : (ys.map V.str).length ≤ sizeLine := by rw [List.length_map, perm.length_eq, sizeLine_eq]; omega
  have hn : H z.heap.objs.size = none := I.hok.fresh hz
  have keep2 : ∀ b u, s.heap.get? b = some u → (sortedHeap (z.heap.push (seqObj "list" vs.toArray 0)) z.heap.objs.size vs out).get? b = some u := fun b u e => by
    have k := keep b u e
    have hlt := Heap.lt_size k
    rw [sortedHeap_old (Nat.ne_of_lt hlt) (by rw [size_push']; exact Nat.lt_succ_of_lt hlt)]
    exact Heap.get?_push_of_some _ k
  obtain ⟨zh, zg, zd, zt, zo⟩ := z
  dsimp only at *
  subst g1 o1
  refine ⟨.ref zh.objs.size, upd H zh.objs.size (.lst (ys.map V.str)), ?_, rfl, q ys _ perm b3 hn⟩
  exact I.call (ch := []) (d' := zd) (t' := zt) (Un.laid keep2 hz hn) (I.hok.laid (o := .lst (ys.map V.str)) keep2 hz ⟨hlen, out.toList, c, vals_of_strs b1, hcn⟩) I.bare (fun _ z => nomatch z)
end
end L2

/-! sorted(xs), xs a list of pairs of a text and an int -/
namespace L2
open PySem PySem.Spec PyProof.Rows
def txLt (x y : Str) : Bool := decide (x.cps.toList < y.cps.toList)
theorem tx_irr (x : Str) : txLt x x = false := PyProof.Rows.strKind.irrefl x.cps.toList
theorem tx_tr {x y z : Str} (h1 : txLt x y = true) (h2 : txLt y z = true) : txLt x z = true := PyProof.Rows.strKind.trans x.cps.toList y.cps.toList z.cps.toList h1 h2
theorem str_ext {x y : Str} (h : x.cps.toList = y.cps.toList) : x = y := by
  cases x; cases y
  congr 1
  exact Array.toList_inj.mp h
theorem tx_tot {x y : Str} (h1 : txLt x y = false) (h2 : txLt y x = false) : x = y := str_ext (PyProof.Rows.strKind.total x.cps.toList y.cps.toList h1 h2)
theorem tx_as {x y : Str} (h : txLt x y = true) : txLt y x = false := by
  cases e : txLt y x
  · rfl
  · have z := tx_tr h e
    rw [tx_irr] at z
    exact nomatch z
/-- x before y: by the text, then by the number -/
def pLt (p q : Str × Int) : Bool := if p.1 = q.1 then decide (p.2 < q.2) else txLt p.1 q.1
theorem pLt_iff {p q : Str × Int} : pLt p q = true ↔ txLt p.1 q.1 = true ∨ (p.1 = q.1 ∧ p.2 < q.2) := by
  unfold pLt
  by_cases e : p.1 = q.1
  · rw [if_pos e, decide_eq_true_eq, e, tx_irr]
    simp
  · rw [if_neg e]
    simp [e]
theorem pLt_as {p q : Str × Int} (h : pLt p q = true) : pLt q p = false := by
  cases e : pLt q p
  · rfl
  · rcases pLt_iff.mp h with a | ⟨a, b⟩ <;> rcases pLt_iff.mp e with c | ⟨c, d⟩
    · rw [tx_as a] at c; exact nomatch c
    · rw [c, tx_irr] at a; exact nomatch a
    · rw [a, tx_irr] at c; exact nomatch c
    · omega
theorem pLt_no {p q : Str × Int} (h : pLt p q = false) : txLt q.1 p.1 = true ∨ (q.1 = p.1 ∧ q.2 ≤ p.2) := by
  unfold pLt at h
  by_cases e : p.1 = q.1
  · rw [if_pos e] at h
    exact .inr ⟨e.symm, Int.not_lt.mp (of_decide_eq_false h)⟩
  · rw [if_neg e] at h
    cases c : txLt q.1 p.1
    · exact absurd (tx_tot h c) e
    · exact .inl rfl
theorem pLt_ge {p q : Str × Int} (h : txLt q.1 p.1 = true ∨ (q.1 = p.1 ∧ q.2 ≤ p.2)) : pLt p q = false := by
  cases e : pLt p q
  · rfl
  · rcases pLt_iff.mp e with a | ⟨a, b⟩ <;> rcases h with c | ⟨c, d⟩
    · rw [tx_as a] at c; exact nomatch c
    · rw [c, tx_irr] at a; exact nomatch a
    · rw [a, tx_irr] at c; exact nomatch c
    · omega
theorem pLt_swo {α : Type} (k : α → Str × Int) : SrtO.Swo fun x y => pLt (k x) (k y) := by
  refine ⟨fun x y h => pLt_as h, fun x y z h1 h2 => pLt_ge ?_⟩
  rcases pLt_no h1 with a | ⟨a, b⟩ <;> rcases pLt_no h2 with c | ⟨c, d⟩
  · exact .inl (tx_tr a c)
  · exact .inl (by rw [← c]; exact a)
  · exact .inl (by rw [a]; exact c)
  · exact .inr ⟨a.trans c, Int.le_trans b d⟩
def PairTI (h : Heap) (v : Value) (x : Str) (y : Int) : Prop := ∃ a o t u n, v = .ref a ∧ h.get? a = some o ∧ o.cls = .type "tuple" ∧ o.data = .seq #[.str x t, .int y u] n
section
variable {prog : Program} {w : World} {A : Around} {E : Value → Shared → Prop} {s : Shared}
theorem pairTI_firsts {h : Heap} : ∀ {vs : List Value}, (∀ v ∈ vs, ∃ x y, PairTI h v x y) → ∃ fs : List Value, PySem.W.KatTups h vs fs ∧ fs.length = vs.length ∧ ∀ f ∈ fs, ∃ x t, f = Value.str x t
  | [], _ => ⟨[], .nil, rfl, fun _ hm => nomatch hm⟩
  | v :: vs, hp => by
    obtain ⟨fs, h1, h2, h3⟩ := pairTI_firsts (vs := vs) fun v' hm => hp v' (.tail _ hm)
    obtain ⟨x, y, a, o, t, u, n, e, ho, hc, hd⟩ := hp v List.mem_cons_self
    subst e
    exact ⟨.str x t :: fs, PySem.W.KatTups.cons ho hc hd rfl h1, congrArg (· + 1) h2, fun f hm => (List.mem_cons.mp hm).elim (fun z => ⟨x, t, z⟩) (h3 f)⟩
theorem pairTI_cmp {vs : List Value} {k : Value → Str × Int} (hp : ∀ v ∈ vs, PairTI s.heap v (k v).1 (k v).2) : SrtO.Cmp prog w A s (tuples' true) (fun p => p.1 ∈ vs) (SrtO.lt2 fun v u => pLt (k v) (k u)) := by
  rintro ⟨v, v0⟩ ⟨v', v0'⟩ m m'
  have goal : ∀ (P1 P2 : Str × Int), PairTI s.heap v P1.1 P1.2 → PairTI s.heap v' P2.1 P2.2 → wpAny (model prog w) A (keyLt' (tuples' true) v v') (fun r s' => s' = s ∧ r = pLt P1 P2) (fun _ _ => False) s := by
    rintro ⟨x, y⟩ ⟨x', y'⟩ ⟨a, o, t, u, n, rfl, ho, -, hd⟩ ⟨a', o', t', u', n', rfl, ho', -, hd'⟩
    refine PySem.W.kat_lt ho hd ho' hd' (PySem.W.kat_cons (SeqAt.EqAt.str_str x t x' t' prog w _ _ (PySem.W.kat_go (fun same => ?_) fun less => ?_)))
    · obtain rfl : x = x' := by simpa using same
      refine PySem.W.kat_yes (PySem.W.kat_cons (SeqAt.EqAt.int_int y u y' u' prog w _ _ (PySem.W.kat_go (fun same2 => ?_) fun _ => PySem.W.kat_no (PySem.W.kat_one _ _ (PyProof.Rows.lt_int ⟨rfl, (if_pos rfl).symm⟩)))))
      obtain rfl : y = y' := by simpa using same2
      refine PySem.W.kat_yes (PySem.W.kat_nil ⟨rfl, ?_⟩)
      rw [pLt, if_pos rfl, decide_eq_false (Int.lt_irrefl y)]
      rfl
    · have diff : ¬ x = x' := by simpa using less
      exact PySem.W.kat_no (PyProof.Rows.strKind_oneLt _ _ _ _ _ _ _ x.cps.toList x'.cps.toList rfl rfl ⟨rfl, (if_neg diff).symm⟩)
  exact goal (k v) (k v') (hp v m) (hp v' m')
theorem pairTI_sortable {a : Addr} {vs : List Value} {k : Value → Str × Int} (h0 : 0 < vs.length) (hp : ∀ v ∈ vs, PairTI s.heap v (k v).1 (k v).2) (ha : ∀ o, s.heap.get? a = some o → o.cls ≠ .type "tuple") : SrtO.SortableO prog w A s a vs fun v u => pLt (k v) (k u) := by
  intro h' keep
  have hp' : ∀ v ∈ vs, PairTI h' v (k v).1 (k v).2 := fun v hm => by
    obtain ⟨b, o, t, u, n, e, ho, hc, hd⟩ := hp v hm
    exact ⟨b, o, t, u, n, e, keep b o (fun z => by subst z; exact ha o ho hc) ho, hc, hd⟩
  obtain ⟨fs, h1, h2, h3⟩ := pairTI_firsts fun v hm => ⟨_, _, hp' v hm⟩
  refine ⟨tuples' true, fun Q E hq => ?_, pairTI_cmp hp'⟩
  refine PySem.W.kat_kind (T := .type "str") h1 (by omega) (fun f hm => ?_) (by rfl) ?_
  · obtain ⟨x, t, rfl⟩ := h3 f hm
    exact PySem.W.Looks.now
  · rw [show (Value.type "str" != Value.type "tuple") = true by first | decide +kernel | rfl | decide]
    exact hq
end
def rSortTI (K : PySem.W.Frag) : List V → Hp → VK → Prop := fun vs H Q => ∃ (a : Addr) (xs : List V) (k : V → Str × Int), vs = [V.ref a] ∧ SqL K H a xs ∧ (∀ x ∈ xs, ∃ t, x = V.ref t ∧ H t = some (.tup [.str (k x).1, .int (k x).2])) ∧
  ∀ ys p, ys.Pairwise (fun x y => pLt (k y) (k x) = false) → ys.Perm xs → H p = none → Q (.ref p) (upd H p (.lst ys))
section
variable {X : Cx}
theorem cr_sortTI : CallR X (.builtin "sorted") (rSortTI X.K) := by
  intro pins s σ H vs us Q I r h
  obtain ⟨a, xs, k, rfl, hs, hx, q⟩ := h
  obtain ⟨its, rv, hl, hz⟩ := I.list hs
  rw [Vals.ref1 r]
  obtain ⟨e1, e2⟩ := refs_back rv fun x m => by
    obtain ⟨t, e, _⟩ := hx x m
    exact ⟨t, e⟩
  have hp : ∀ v ∈ its, PairTI s.heap v (k (backV v)).1 (k (backV v)).2 := fun v hv => by
    obtain ⟨t, rfl⟩ := e2 v hv
    obtain ⟨t', e, ht⟩ := hx (.ref t) (by rw [e1]; exact List.mem_map.mpr ⟨_, hv, rfl⟩)
    cases e
    obtain ⟨_, its2, r2, o, ho, hc, n, hd⟩ := I.hok _ _ ht
    obtain ⟨u1, u2, rfl, ri, rj⟩ := vals2 r2
    obtain ⟨t1, rfl⟩ := ri
    obtain ⟨t2, rfl⟩ := rj
    exact ⟨t, o, t1, t2, n, rfl, ho, hc, hd⟩
  refine SrtO.sorted_ord (pLt_swo fun u => k (backV u)) hl.isList (by rw [← rv.length]; exact hz) (fun h2 h₁ a ha kk => ?_) fun out h1 h2 => ?_
  · refine pairTI_sortable (k := fun u => k (backV u)) (s := { s with heap := h₁ }) (by omega) (fun v hm => ?_) fun o e => ?_
    · obtain ⟨b, o, t, u, n, e, ho, hc, hd⟩ := hp v hm
      exact ⟨b, o, t, u, n, e, (kk b o ho).2, hc, hd⟩
    · cases (e.symm.trans ha : some o = some (seqObj "list" its.toArray 0))
      exact fun c => absurd (Value.type.inj c) (by decide)
  · have same : (out.map backV).Perm xs := e1 ▸ h2.perm.map backV
    have ⟨n, hn⟩ := sortedAll_at s.heap its out.toArray
    exact ⟨.ref _, upd H _ (.lst (out.map backV)), I.laid (t' := s.toks) (fun _ _ e => sortedAll_old e) (Nat.le_succ _) ⟨same.length_eq ▸ hz, out, n, vals_back fun u hu => e2 u (h2.perm.mem_iff.mp hu), hn⟩, rfl, q _ _ (List.pairwise_map.mpr h1) same (I.hok.fresh (Nat.le_succ _))⟩
end
end L2

/-! {k: v for x in xs} of any keys that a dict can have: ints and texts, or tuples of them -/
namespace L2
open PySem PySem.Spec PyProof.Rows
/-- an entry put in, as a display or a comprehension does it -/
theorem dput_any {X : Cx} {pins : List (Addr × Obj)} {σ : St} {H H' : Hp} {s : Shared} {A : Around} {E : Value → Shared → Prop} {D : Addr} {y v : V} {u r : Value} {Q : Unit → Shared → Prop} (hu : A.units + 1 < cLine) (I : Inv X pins σ H s) (g : DPut H D y v H') (ry : RelV y u) (rv : RelV v r)
    (q : ∀ z, Inv X pins σ H' z → Q () z) : wpAny (model X.prog X.w) A (dictSet D u r) Q E s := by
  rcases g with ⟨kvs, k, e, rfl, l, rfl⟩ | ⟨kvs, k, b, e, rfl, eb, l, rfl⟩
  · obtain ⟨z, hd, vs, rel, dd⟩ := dk_of I.hok e
    have sml : (putK kvs k v).length ≤ sizeLine := Nat.le_trans (length_putK kvs k v) l
    refine wpAny_dictSet_pairs (hsz := by rw [← rel.length]; exact z) (kV_is ry) dd fun h' dd' hs => q _ ?_
    exact d_write I (by rw [e]; exact True.intro) hs (let ⟨q, _, _, hq, _⟩ := dd'; ⟨q, hq⟩) (dk_new sml hd (rel.put k rv) dd')
  · cases (show u = Value.ref b from ry)
    obtain ⟨z, hd, xs, rel, dd⟩ := dt_of I.hok e
    have sml : (putK kvs k v).length ≤ sizeLine := Nat.le_trans (length_putK kvs k v) l
    refine wpAny_dictSet_heap (hsz := by rw [← Paired.length rel]; exact z) (show A.units < cLine by omega) (key_of I.hok eb) dd fun h' dd' hs => q _ ?_
    obtain ⟨o, es, ep, hq, h2, h3, h4, _, h5⟩ := dd'
    refine d_write I (by rw [e]; exact True.intro) hs ⟨o, hq⟩ ⟨sml, hd, _, (rel.put k eb rv).keeps fun c ys ec => ?_, o, es, ep, hq, h2, h3, h4, h5⟩
    rw [upd_ne (ne_of ec e (fun z => nomatch z))]
    exact ec
/-- the dict that is begun with -/
inductive Bare : HO → Prop
  | k : Bare (.dK [])
  | t : Bare (.dT [])
theorem bare_ok {P : Program} {w : World} {H : Hp} {o : HO} (b : Bare o) (h : Heap) (hb : sysModules < h.objs.size) : ObjOk P w H (h.push { cls := .type "dict", data := .dict #[] }) h.objs.size o := by
  cases b
  · exact dk_empty h hb
  · exact dt_empty h hb
section
variable {X : Cx}
def tDcG (o : HO) (wi : TI) (g : TG) (tt : TT) (tk tv : TE) (vs : List Nat) : TE := fun σ H Q => wi σ H fun J H1 => ∀ D, H1 D = none → ∃ W : Nat → Nat → Hp → Prop, (∃ m, W 0 m (upd H1 D o)) ∧ ∀ i m H, W i m H →
  (J.stop i H ∧ Q (.ref D) H) ∨ (J.go i H ∧ ∃ Nx : Hp → Prop, (∀ H', Nx H' → ∃ m', m' < m ∧ W (i + 1) m' H') ∧ ∀ x H', J.yld i H x H' → g x (wipe σ vs) H' fun σ2 H2 => wipe σ2 vs = wipe σ vs ∧ tt σ2 H2 fun b H3 =>
    if b = true then tk σ2 H3 fun y H4 => tv σ2 H4 fun z H5 => ∃ H6, DPut H5 D y z H6 ∧ Nx H6 else Nx H3)
abbrev InBlk (X : Cx) (scope : Scope) (T : Cx → Prop) : Prop := ∀ (s : Shared) (H : Hp) (C : Addr) (cl : List (Str × Addr)) (fp : List Addr), T (X.blk s H scope (compEnvC scope cl C X.env) fp)
theorem pe_dcG {o : HO} {kx vx tg iter : Expr} {ifs : List Expr} {scope : Scope} {own : List (Str × Nat)} {pos : Pos} {wi : TI} {g : TG} {tt : TT} {tk tv : TE} (bo : Bare o) (hu : X.A.units + 1 < cLine) (hc : X.calm = true) (hN : X.N.Nodup) (hi : PI X tg iter wi) (ok : BlkOk X.N X.env.scope scope own)
    (hg : InBlk X scope fun B => PG B tg g) (ht : InBlk X scope fun B => PTs B ifs tt) (hk : InBlk X scope fun B => PE B kx tk) (he : InBlk X scope fun B => PE B vx tv) (hs : ∀ x, foldedSetIterable iter X.env x = pure x := by intro _; rfl) :
    PE X (.DictComp kx vx [⟨tg, iter, ifs, 0⟩] scope pos) (tDcG o wi g tt tk tv (own.map (·.2))) := by
  refine ⟨fun pins s σ H Q I h => ?_⟩
  rw [arm_eval_DictComp]
  have frees : ∀ y ∈ scope.names, y.2 = .free → ∃ c, X.env.cells.lookup y.1 = some c := fun y hy e => (ok.free y hy e).elim (fun k => I.ok.has _ (.inl k)) fun k => I.ok.has _ (.inr k)
  refine wpAny_comprehension_free (use := none) rfl hs (closure_ok frees) ok.kind (fun y hy e => by rw [ok.uniq y hy, e]) (thn (hi.run pins s σ H _ I h) fun xv s1 hx => thn hx fun itv s2 h2 => ?_)
  obtain ⟨it, fp, tn, J, H2, rfl, I2, T, st2, f2, q⟩ := h2
  refine wpAny_newObj_type (newEnv_comp ?_)
  generalize hD : s2.heap.objs.size = D
  have new : H2 D = none := I2.hok.fresh (Nat.le_of_eq hD)
  obtain ⟨W, ⟨m0, w0⟩, turn⟩ := q D new
  generalize es3 : ({ s2 with heap := s2.heap.push { cls := .type "dict", data := .dict #[] } } : Shared) = s3
  have h3 : s3.heap = s2.heap.push { cls := .type "dict", data := .dict #[] } := by rw [← es3]
  have I3 : Inv X pins σ (upd H2 D o) s3 := by
    rw [← es3]
    refine I2.laid (t' := s2.toks) (fun b u e => Heap.get?_push_of_some _ e) (Nat.le_of_eq hD) ?_
    rw [← hD]
    exact bare_ok bo s2.heap I2.big
  have low : ∀ b ∈ fp, b < s2.heap.objs.size := fun b hb => by
    obtain ⟨u, e, _⟩ := T.obj _ _ st2 b hb
    exact Heap.lt_size e
  have f3 : ∀ b ∈ fp, FpOk X pins (upd H2 D o) b ∧ b < s3.heap.objs.size := fun b hb => by
    refine ⟨⟨?_, (f2 b hb).2⟩, by rw [h3, Heap.size_push]; exact Nat.lt_succ_of_lt (low b hb)⟩
    rw [upd_ne (by rw [← hD]; exact Nat.ne_of_lt (low b hb))]
    exact (f2 b hb).1
  have st3 : tn 0 s3.heap := T.keep _ _ _ st2 fun b _ u e => by rw [h3]; exact Heap.get?_push_of_some _ e
  have I4 := block_start I3 ok hN f3
  have pg := hg s3 (upd H2 D o) s3.heap.objs.size (cellsFrom (s3.heap.objs.size + 1) scope.names (cloFrom X.env.cells scope.names [])) fp
  have pt := ht s3 (upd H2 D o) s3.heap.objs.size (cellsFrom (s3.heap.objs.size + 1) scope.names (cloFrom X.env.cells scope.names [])) fp
  have pk := hk s3 (upd H2 D o) s3.heap.objs.size (cellsFrom (s3.heap.objs.size + 1) scope.names (cloFrom X.env.cells scope.names [])) fp
  have pe := he s3 (upd H2 D o) s3.heap.objs.size (cellsFrom (s3.heap.objs.size + 1) scope.names (cloFrom X.env.cells scope.names [])) fp
  have nfp : ∀ b ∈ fp, (upd H2 D o) b = none := fun b hb => (f3 b hb).1.1
  show codeAny _ _ (.compStart (.DictComp kx vx [⟨tg, iter, ifs, 0⟩] scope pos) 0 (.ref it) (.ref D) (compEnvC scope (cellsFrom (s3.heap.objs.size + 1) scope.names (cloFrom X.env.cells scope.names [])) s3.heap.objs.size X.env)) (compPost (model X.prog X.w) X.A X.xe none _ (.ref D) s3.heap.objs.size) { s3 with heap := pushCells (s3.heap.push { cls := .type "dict", data := .dict #[] }) scope.names }
  generalize ece : compEnvC scope (cellsFrom (s3.heap.objs.size + 1) scope.names (cloFrom X.env.cells scope.names [])) s3.heap.objs.size X.env = ce at I4 pg pt pk pe ⊢
  have loc : ce.locals = s3.heap.objs.size := by subst ece; rfl
  generalize upd H2 D o = H3 at I3 I4 pg pt pk pe w0 nfp f3
  generalize es4 : ({ s3 with heap := pushCells (s3.heap.push { cls := .type "dict", data := .dict #[] }) scope.names } : Shared) = s4 at I4 ⊢
  have st4 : tn 0 s4.heap := T.keep _ _ _ st3 fun b _ u e => by rw [← es4]; exact pushCells_keeps _ _ _ _ (Heap.get?_push_of_some _ e)
  have quiet : ∀ {σ' : St} {H' : Hp} {z : Shared}, Inv (X.blk s3 H3 scope ce fp) [] σ' H' z → (∀ b ∈ fp, H' b = none) → ∀ b ∈ fp, FpOk (X.blk s3 H3 scope ce fp) [] H' b := fun {σ' H' z} I' hn b hb =>
    ⟨hn b hb, (I'.ok.exf b hb).1, I'.ok.exfs b hb, .inl hb, fun x c e => (I'.ok.exf b hb).2 x c e, fun p hp => absurd (show p ∈ ([] : List (Addr × Obj)) ++ [] from hp) (by simp)⟩
  have loop : codeAny (model X.prog X.w) X.A (.compLoop (.DictComp kx vx [⟨tg, iter, ifs, 0⟩] scope pos) 0 (.ref it) (.ref D) ce) (compPost (model X.prog X.w) X.A X.xe none (EP X pins σ Q) (.ref D) s3.heap.objs.size) s4 := by
    refine compLoop_anyD (fun n z => ∃ i H', Inv (X.blk s3 H3 scope ce fp) [] (wipe σ (own.map (·.2))) H' z ∧ tn i z.heap ∧ (∀ b ∈ fp, H' b = none) ∧ W i n H') ?_ m0 ⟨0, H3, I4, st4, nfp, w0⟩
    rintro n s5 ⟨i, H5, I5, st5, n5, w5⟩
    rcases turn i n H5 w5 with ⟨stop, qq⟩ | ⟨go, Nx, hNx, step⟩
    · refine thnF (T.done (X.blk s3 H3 scope ce fp) rfl rfl rfl hc i [] s5 _ H5 (fun _ _ => False) I5 (quiet I5 n5) st5 stop) fun r s6 ⟨hr, I6⟩ => ?_
      subst hr
      have I7 : Inv X pins σ H5 s6 := I3.call' (ch := fp) I6.os I6.base I6.hok I6.bare fun b hb => ⟨(f3 b hb).1.2.2.2.1, (f3 b hb).1.2.1, (f3 b hb).1.2.2.2.2.1, (f3 b hb).1.2.2.2.2.2⟩
      have nC : H5 s3.heap.objs.size = none := by
        have z : H5 ce.locals = none := I6.free
        rwa [loc] at z
      obtain ⟨m, hn, _⟩ := I6.loc
      have hn : s6.heap.Ns ce.locals m := hn
      rw [loc] at hn
      refine ⟨m, hn, fun h'' sb => ?_⟩
      obtain ⟨f0, f1, f2, f3, f4, f5⟩ := I3.fpOk (Nat.le_refl _) nC
      exact ⟨.ref D, H5, I7.turned (t' := s6.toks) (fun b u hb e => (sb.2 b hb).trans e) f0 f1 f3 f4 f5, rfl, qq⟩
    · refine thnF (T.item (X.blk s3 H3 scope ce fp) rfl rfl rfl hc i [] s5 _ H5 (fun _ _ => False) I5 (quiet I5 n5) st5 go) fun r s6 ⟨u, hr, h6⟩ => ?_
      subst hr
      refine thnF h6 fun _ s7 ⟨x, H7, I7, r7, y7, st7, n7⟩ => ?_
      refine thnF (pg.run _ s7 _ H7 x u _ (I7.pinned (quiet I7 n7) (T.obj _ _ st7)) r7 (step x H7 y7)) fun _ s8 ⟨σ8, H8, I8, hw8, q8⟩ => ?_
      refine thnF (pt.run _ s8 σ8 H8 _ I8 q8) fun b s9 ⟨H9, I9, q9⟩ => ?_
      have fin : ∀ {z : Shared} {H' : Hp}, Inv (X.blk s3 H3 scope ce fp) ([] ++ pinsAt fp s7.heap) σ8 H' z → Nx H' → ∃ m, m < n ∧ ∃ i H', Inv (X.blk s3 H3 scope ce fp) [] (wipe σ (own.map (·.2))) H' z ∧ tn i z.heap ∧ (∀ b ∈ fp, H' b = none) ∧ W i m H' := fun {z H'} I' nx => by
        obtain ⟨m', hm, w'⟩ := hNx H' nx
        have pin' : ∀ b ∈ fp, ∀ u, s7.heap.get? b = some u → z.heap.get? b = some u ∧ H' b = none := fun b hb u e =>
          let k := I'.pin (b, u) (List.mem_append_right _ (List.mem_append_right _ (mem_pinsAt hb e)))
          ⟨k.1, k.2.1⟩
        refine ⟨m', hm, i + 1, H', (I'.unpinned (pins := [])).weak (by rw [← hw8, wipe_length]) (fun j v e => ?_), T.keep _ _ _ st7 fun b hb u e => (pin' b hb u e).1, fun b hb => ?_, w'⟩
        · rw [← hw8] at e
          exact (wipe_some e).1
        · obtain ⟨u, e, _⟩ := T.obj _ _ st7 b hb
          exact (pin' b hb u e).2
      cases b with
      | false =>
        simp only [Bool.false_eq_true, if_false] at q9 ⊢
        exact fin I9 q9
      | true =>
        simp only [if_true] at q9 ⊢
        refine thnF (pk.run _ s9 σ8 H9 _ I9 q9) fun z s10 ⟨yk, H10, I10, r10, q10⟩ => ?_
        refine thnF (pe.run _ s10 σ8 H10 _ I10 q10) fun z2 s11 ⟨yv, H11, I11, r11, H12, put, nx⟩ => ?_
        exact dput_any (X := X.blk s3 H3 scope ce fp) hu I11 put r10 r11 fun s12 I12 => fin I12 nx
  exact codeAny_compStart_dict loop (T.self X.A 0 _ _ _ st4 loop)
/-- the turns, by an invariant -/
theorem dcG_it {J : It} {n : Nat} {G : Hp → Prop} {Y : Nat → Hp → V → Hp → Prop} (w : Walk J n G Y) {o : HO} {g : TG} {tt : TT} {tk tv : TE} {vs : List Nat} {σ : St} {H1 : Hp} {D : Addr} {Qd : Hp → Prop} (Pv : Nat → Hp → Prop) (h0 : Pv 0 (upd H1 D o)) (hG : ∀ i H, i ≤ n → Pv i H → G H)
    (hs : ∀ i x H H', i < n → Pv i H → Y i H x H' → g x (wipe σ vs) H' fun σ2 H2 => wipe σ2 vs = wipe σ vs ∧ tt σ2 H2 fun b H3 =>
      if b = true then tk σ2 H3 fun y H4 => tv σ2 H4 fun z H5 => ∃ H6, DPut H5 D y z H6 ∧ Pv (i + 1) H6 else Pv (i + 1) H3) (hd : ∀ H, Pv n H → Qd H) :
    ∃ W : Nat → Nat → Hp → Prop, (∃ m, W 0 m (upd H1 D o)) ∧ ∀ i m H, W i m H →
      (J.stop i H ∧ Qd H) ∨ (J.go i H ∧ ∃ Nx : Hp → Prop, (∀ H', Nx H' → ∃ m', m' < m ∧ W (i + 1) m' H') ∧ ∀ x H', J.yld i H x H' → g x (wipe σ vs) H' fun σ2 H2 => wipe σ2 vs = wipe σ vs ∧ tt σ2 H2 fun b H3 =>
        if b = true then tk σ2 H3 fun y H4 => tv σ2 H4 fun z H5 => ∃ H6, DPut H5 D y z H6 ∧ Nx H6 else Nx H3) := by
  refine ⟨fun i m H => m = n - i ∧ i ≤ n ∧ Pv i H, ⟨n, by simp, Nat.zero_le _, h0⟩, ?_⟩
  rintro i m H ⟨rfl, hi, p⟩
  have q := hG i H hi p
  rcases Nat.lt_or_ge i n with hlt | hge
  · exact .inr ⟨w.goes i H hlt q, Pv (i + 1), fun H' p' => ⟨n - (i + 1), by omega, rfl, hlt, p'⟩, fun x H' y => hs i x H H' hlt p (w.yields i H x H' hlt q y)⟩
  · obtain rfl : i = n := Nat.le_antisymm hi hge
    exact .inl ⟨w.stops H q, hd H p⟩
end
end L2

/-! for i, x in enumerate(t), t a tuple: the library's Begins and Draws of a tuple, put together -/
namespace L2
open PySem PyProof.Rows PySem.Spec
/-- a new enumerate over the iterator at j -/
abbrev enObj (j : Addr) : Obj := { cls := .type "enumerate", data := .fields #[.none, .bool false, .ref j, rawInt 0, .none, .none] }
theorem enum_one {v : Value} {o : Obj} {G : Heap → Prop} (B : Begins v o G) : Meets (Builtin.«enumerate.__new__» ⟨[.type "enumerate", v], []⟩) fun _ R s =>
    G s.heap ∧ R (.ok (.ret (.ref (s.heap.push o).objs.size))) { s with heap := (s.heap.push o).push (enObj s.heap.objs.size) } :=
  .of_wp fun P w _ R ⟨h, gs, dr, tk, os⟩ ⟨g, q⟩ => by
    have sub0 := sub_enumerate
    have goes : ∀ {A' : Around} {E' : Value → Shared → Prop} {Q' : Value → Shared → Prop}, Q' (.ref h.objs.size) ⟨h.push o, gs, dr, tk, os⟩ → wpAny (model P w) A' (pyIter v) Q' E' ⟨h, gs, dr, tk, os⟩ := fun z => B.iter P w _ _ _ _ g z
    wp_walk using goes
    refine wpAny_stack_any fun _ => wpAny_pure ?_
    split
    all_goals first
      | (rename_i c _ _ _ _ _; cases (c == Value.type "enumerate") <;> (wp_walk using goes; exact ⟨_, rfl, q⟩))
      | (wp_walk using goes; exact ⟨_, rfl, q⟩)
theorem enum_call {P : Program} {w : World} {A : Around} {E : Value → Shared → Prop} {s : Shared} {v : Value} {o : Obj} {G : Heap → Prop} {Q : Value → Shared → Prop} (B : Begins v o G) (g : G s.heap)
    (q : ∀ n h', n = s.heap.objs.size → IsEnum h' (n + 1) n 0 .none → h'.get? n = some o → (∀ b u, s.heap.get? b = some u → h'.get? b = some u) → Q (.ref (n + 1)) { s with heap := h' }) :
    wpAny (model P w) A (call (.type "enumerate") [v]) Q E s := by
  have up : ∀ (b : Addr) (u : Obj), (s.heap.push o).get? b = some u → ((s.heap.push o).push (enObj s.heap.objs.size)).get? b = some u := fun b u e => Heap.get?_push_of_some _ e
  have top := Heap.get?_push_size (s.heap.push o) (o := enObj s.heap.objs.size) rfl
  refine callType_new F.called_enumerate (by decide) (F.typeCall_enumerate_1 _) (F.newCall_enumerate_1 _) (fun c => F.args_object_init_2 c _) F.entry_enumerate_new (enum_one B) ⟨g, ?_⟩
  rw [Heap.size_push] at top
  rw [show (s.heap.push o).objs.size = s.heap.objs.size + 1 from Heap.size_push ..]
  exact ⟨⟨_, top, rfl⟩, q _ _ rfl top (up _ _ (Heap.get?_push_size _ B.free)) fun b u e => up b u (Heap.get?_push_of_some _ e)⟩
/-- the tuple at a, each item in a new pair -/
def Itq (K : PySem.W.Frag) (a : Addr) : It :=
  ⟨fun i H => ∃ (xs : List V) (x : V), SqT K H a xs ∧ xs[i]? = some x, fun i H v H' => ∃ T x, v = .ref T ∧ H T = none ∧ H' = upd H T (.tup [.int (i : Nat), x]) ∧ ∀ xs, SqT K H a xs → xs[i]? = some x, fun i H => ∃ xs : List V, SqT K H a xs ∧ xs.length ≤ i⟩
/-- enumerate at e, its iterator at j, the tuple at a: i items are drawn -/
structure EnT (a e j : Addr) (i : Nat) (h : Heap) : Prop where
  en : ∃ old, IsEnum h e j ((i : Nat) : Int) old
  it : h.IsTupleIter j a i
  ne : e ≠ j
theorem EnT.apart {a e j : Addr} {i : Nat} {h : Heap} {xs : Array Value} (T : EnT a e j i h) (p : h.IsTuple a xs) : a ≠ j ∧ a ≠ e := by
  obtain ⟨o, ho, hc, -⟩ := p
  obtain ⟨u, hu, hk, -⟩ := T.it
  obtain ⟨old, he⟩ := T.en
  refine ⟨fun z => ?_, fun z => ?_⟩
  · rw [← z, ho] at hu
    rw [← Option.some.inj hu, hc] at hk
    exact absurd (Value.type.inj hk) (by decide)
  · have y : h.get? e = some _ := he
    rw [← z, ho] at y
    rw [Option.some.inj y] at hc
    exact absurd (Value.type.inj hc) (by decide)
theorem turn_enumT {P : Program} {w : World} {K : PySem.W.Frag} {elts : List Expr} {kk : Nat} {tpos : Pos} (a e j : Addr) : Turn P w K (.Tuple elts kk tpos) (Itq K a) [e, j] e (EnT a e j) where
  mem := List.mem_cons_self ..
  obj i h T b hb := by
    rcases List.mem_cons.mp hb with z | z
    · rw [z]
      exact ⟨_, T.en.choose_spec, fun _ y => nomatch y⟩
    · rw [List.mem_singleton.mp z]
      obtain ⟨o, ho, -, hd⟩ := T.it
      exact ⟨o, ho, fun _ y => nomatch (hd.symm.trans y)⟩
  keep _ _ _ T k := ⟨T.en.imp fun _ y => k e (List.mem_cons_self ..) _ y, T.it.at fun o y => k j (List.mem_cons_of_mem _ (List.mem_cons_self ..)) o y, T.ne⟩
  item := by
    rintro X rfl rfl rfl calm i pins s σ H E I fp T ⟨xs, x, hq, hx⟩
    obtain ⟨us, rel, isT, -⟩ := I.tuple hq
    obtain ⟨u, hu, ru⟩ := rel.get hx
    obtain ⟨aj, ae⟩ := T.apart isT
    obtain ⟨old, en⟩ := T.en
    have lt : i < us.toArray.size := by rw [List.size_toArray]; exact (List.getElem?_eq_some_iff.mp hu).1
    have low : ∀ b ∈ [e, j], b < s.heap.objs.size := fun b hb => by
      rcases List.mem_cons.mp hb with z | z
      · rw [z]; exact Heap.lt_size en
      · rw [List.mem_singleton.mp z]; exact Heap.lt_size T.it.choose_spec.1
    have out : e ∉ [j, a] := fun z => by
      rcases List.mem_cons.mp z with z | z
      · exact T.ne z
      · exact ae (List.mem_singleton.mp z).symm
    refine wpAny_pyNext_enum_itemD (Draws.tuple (A := X.A.in1) (I.ok.hd calm) j a aj us.toArray) en ⟨T.it, isT⟩ lt T.ne out fun y h1 tk hy eo T1 pr _ kp => ⟨_, rfl, wpAny_letOwnedTupleGo_enum (s := { s with heap := h1, toks := tk + 1 }) eo fun h2 e2 sb => ?_⟩
    have ey : y = u := Option.some.inj (hy.symm.trans (by rw [List.getElem?_toArray]; exact hu))
    rw [ey] at pr e2
    have far : ∀ b, b ∉ [e, j] → b ≠ e ∧ b ≠ j := fun b hb => ⟨fun z => hb (by rw [z]; exact List.mem_cons_self ..), fun z => hb (by rw [z]; exact List.mem_cons_of_mem _ (List.mem_cons_self ..))⟩
    have keeps : ∀ b o, b ∉ [e, j] → s.heap.get? b = some o → h2.get? b = some o := fun b o hb y => (sb.2 b (far b hb).1).trans (kp b o (far b hb).1 (far b hb).2 y)
    have at2 := (sb.2 _ (Nat.ne_of_gt (low e (List.mem_cons_self ..)))).trans pr
    have ok2 : ObjOk X.prog X.w (upd H s.heap.objs.size (.tup [.int (i : Nat), x])) h2 s.heap.objs.size (.tup [.int (i : Nat), x]) := ⟨(by decide : 2 ≤ sizeLine), [_, u], .cons ⟨tk, rfl⟩ (.cons ru .nil), _, at2, rfl, _, rfl⟩
    exact ⟨.ref s.heap.objs.size, _, I.turnedNew keeps fp (Nat.le_refl _) ok2, rfl, ⟨_, x, rfl, I.hok.fresh (Nat.le_refl _), rfl, fun zs hz => I.tuple_inj hz hq ▸ hx⟩,
      ⟨⟨u, by rw [show ((i + 1 : Nat) : Int) = (i : Int) + 1 from rfl]; exact e2⟩, T1.1.at fun o z => (sb.2 j (Ne.symm T.ne)).trans z, T.ne⟩, fun b hb => (upd_ne (Nat.ne_of_lt (low b hb))).trans (fp b hb).1⟩
  done := by
    rintro X rfl rfl rfl calm i pins s σ H E I fp T ⟨xs, hq, hl⟩
    obtain ⟨us, rel, isT, -⟩ := I.tuple hq
    obtain ⟨old, en⟩ := T.en
    obtain ⟨n1, n2, -, n3, n4, n5⟩ := fp j (List.mem_cons_of_mem _ (List.mem_cons_self ..))
    have D : Draws X.prog X.w X.A.in1 j [j, a] i (fun _ _ => False) (fun n h => n = i ∧ h.IsTupleIter j a i ∧ h.IsTuple a us.toArray) :=
      ⟨fun _ _ st => ⟨_, st.2.1.choose_spec.1⟩, fun _ _ _ st k => ⟨st.1, st.2.1.at fun o z => k j (List.mem_cons_self ..) o z, st.2.2.at fun o z => k a (List.mem_cons_of_mem _ (List.mem_cons_self ..)) o z⟩,
        fun n _ _ _ lt st _ => absurd st.1 (Nat.ne_of_lt lt), fun _ _ _ st k => wpAny_nextOf_tuple_end (I.ok.hd calm) st.2.1 st.2.2 (by rw [List.getElem?_toArray, List.getElem?_eq_none]; rw [← rel.length]; exact hl) k⟩
    exact wpAny_pyNext_enum_endD D en ⟨rfl, T.it, isT⟩ fun h1 k => ⟨rfl, I.turned (t' := s.toks) k n1 n2 n3 n4 n5⟩
  self _ _ _ _ _ T q := wpAny_pyIter_enum T.en.choose_spec q
def iEnumT (K : PySem.W.Frag) (ta : TA) : TI := fun σ H R => ta σ H fun vs H1 => ∃ a xs, vs = [.ref a] ∧ SqT K H1 a xs ∧ R (Itq K a) H1
theorem pi_enumT {X : Cx} {e : Expr} {ta : TA} {p pos tpos : Pos} {elts : List Expr} {kk : Nat} (hg : Gl X "enumerate") (hm : X.mg "enumerate" = none) (ha : PA X [e] ta) (hs : starEach [e] X.env = [(false, eval e X.env)] := by rfl) :
    PI X (.Tuple elts kk tpos) (.Call (.Name "enumerate" p) [e] [] pos) (iEnumT X.K ta) where
  run pins s σ H R I h := by
    refine Call_ (ld_blt I hg hm boot_enumerate (PyProof.Rows.callWith_type1 (thn (ha.run pos pins s σ H _ I h) ?_) hs rfl))
    rintro us s1 ⟨vs, H1, I1, rel, a, xs, rfl, hq, k⟩
    rw [Vals.ref1 rel]
    obtain ⟨its, -, isT, -⟩ := I1.tuple hq
    refine enum_call (begins_tuple a its.toArray) isT fun n h' hn en it0 kp => wpAny_pyIter_enum en ⟨n + 1, [n + 1, n], EnT a (n + 1) n, Itq X.K a, H1, rfl, I1.kept (t' := s1.toks) kp, turn_enumT a (n + 1) n, ⟨⟨_, en⟩, ⟨_, it0, rfl, rfl⟩, Nat.succ_ne_self n⟩, ?_, k⟩
    intro b hb
    have le : s1.heap.objs.size ≤ b := by
      rcases List.mem_cons.mp hb with z | z
      · rw [z, ← hn]; exact Nat.le_succ _
      · rw [List.mem_singleton.mp z, hn]; exact Nat.le_refl _
    exact I1.fpOk le (I1.hok.fresh le)
theorem walk_enumT {K : PySem.W.Frag} {a : Addr} {xs : List V} : Walk (Itq K a) xs.length (fun H => SqT K H a xs) (YPair (fun i => some (.int (i : Nat))) (fun i => xs[i]?)) where
  goes i H lt g := ⟨xs, xs[i], g, List.getElem?_eq_getElem lt⟩
  stops H g := ⟨xs, g, Nat.le_refl _⟩
  yields i H x H' lt g y := let ⟨T, z, e, n, e', h⟩ := y; ⟨T, .int (i : Nat), z, e, n, e', rfl, h xs g⟩
end L2

/-! tuple(d), d a dict of ints and texts -/
namespace L2
open PySem PySem.Spec PyProof.Rows
section
variable {prog : Program} {w : World} {A : Around} {E : Value → Shared → Prop} {s : Shared} {T : String} {r d : Addr} {n : Nat} {P : Nat → Value → Prop} {OK : Heap → Prop}
theorem collect_src {Q : List Value → Shared → Prop} (K : PySem.W.KdlSrc prog w T r d n P OK) (hh : A.handled = none) (hok : OK s.heap) (hn : n ≤ sizeLine)
    (q : ∀ (h' : Heap) (tk : Nat) (acc : Array Value), (∀ b o, s.heap.get? b = some o → h'.get? b = some o) → ItemsOf P acc n → Q acc.toList { s with heap := h', toks := tk }) : wpAny (model prog w) A (collect (.ref r)) Q E s := by
  have lt := K.there _ hok
  unfold collect
  refine wpAny_bind (wpAny_runValue (codeAny_builtin F.entry_proto_collect ?_))
  rw [Around.under_plainId F.plain_proto_collect _]
  show wpAny _ A.in1 (newList [] >>= fun l => again (.builtin "list.__iadd__" ⟨[l, .ref r], []⟩)) _ _ s
  refine wpAny_bind (wpAny_newObj_type (wpAny_pure ⟨plainId_quiet F.plain_list_iadd _, codeAny_builtin F.entry_list_iadd ?_⟩))
  rw [Around.under_plainId F.plain_list_iadd _]
  show wpAny _ A.in1 (Builtin.List.listExtendWith (.ref s.heap.objs.size) (.ref r) (.ref s.heap.objs.size)) _ _ _
  have gS : (s.heap.push { cls := .type "list", data := .seq ([] : List Value).toArray }).get? s.heap.objs.size = some { cls := .type "list", data := .seq #[] 0 } := Heap.get?_push_size _ rfl
  have go := PySem.W.kdl_extend (A := A) (R := fun rr z => rr = .ok (.ret (.ref s.heap.objs.size)) ∧ ∃ (h' : Heap) (tk : Nat) (acc : Array Value) (c' : Nat), z = { s with heap := h', toks := tk } ∧
      (∀ b o, s.heap.get? b = some o → h'.get? b = some o) ∧ h'.get? s.heap.objs.size = some { cls := .type "list", dict := none, data := .seq acc c', slots := #[] } ∧ ItemsOf P acc n)
    (s := { s with heap := s.heap.push { cls := .type "list", data := .seq ([] : List Value).toArray } }) K hh (K.keep _ _ hok fun b _ o e => Heap.get?_push_of_some _ e) s.heap.objs.size (Nat.ne_of_gt lt.1) (Nat.ne_of_gt lt.2) (.ref s.heap.objs.size) 0 gS
    (fun h' tk acc c' hk e hi => ⟨rfl, h', tk, acc, c', rfl, fun b o y => hk b o (Nat.ne_of_lt (Heap.lt_size y)) (Heap.get?_push_of_some _ y), e, hi⟩) hn
  refine wpAny_mono go (fun fin z x => ?_) fun e z x => absurd x.1 (by simp)
  cases fin with
  | done f =>
    obtain ⟨e, h', tk, acc, c', rfl, hk, hS', hi⟩ := x
    cases e
    show wpAny _ A (load s.heap.objs.size >>= _) _ _ _
    exact wpAny_bind (wpAny_load hS' (wpAny_pure (q h' tk acc hk hi)))
  | again c =>
    refine ⟨x.1, codeAny_mono x.2 fun rr y hr' => ?_⟩
    obtain ⟨rfl, h', tk, acc, c', rfl, hk, hS', hi⟩ := hr'
    show wpAny _ A (load s.heap.objs.size >>= _) _ _ _
    exact wpAny_bind (wpAny_load hS' (wpAny_pure (q h' tk acc hk hi)))
theorem tuple_src {Q : Value → Shared → Prop} (K : PySem.W.KdlSrc prog w T r d n P OK) (hh : A.handled = none) (hok : OK s.heap) (hn : n ≤ sizeLine)
    (q : ∀ (h' : Heap) (tk : Nat) (acc : Array Value), (∀ b o, s.heap.get? b = some o → h'.get? b = some o) → ItemsOf P acc n → Q (.ref h'.objs.size) { s with heap := h'.push { cls := .type "tuple", data := .seq acc }, toks := tk }) :
    wpAny (model prog w) A (call (.type "tuple") [.ref r]) Q E s := by
  refine callType_codes (Q₁ := fun obj s₁ => s₁.TypeIs obj "tuple" ∧ Q obj s₁) F.called_tuple (F.typeCall_tuple_1 _) F.entry_object_init (codeAny_of_tree ?_) fun obj s₁ h₁ => ⟨h₁.1, F.args_object_init_2 obj _, object_init_meets F.called_tuple.init.lookup F.called_tuple.made (by decide) prog w A.in1 _ s₁ ⟨h₁.1, rfl, h₁.2⟩⟩
  show wpAny _ A.in1.in1 (do checkBuiltinCall "tuple.__new__" ⟨[.type "tuple", .ref r], []⟩; again (.builtin "tuple.__new__" ⟨[.type "tuple", .ref r], []⟩)) _ _ s
  refine wpAny_bind (wpAny_of_eq (F.newCall_tuple_1 _) (wpAny_pure ⟨plainId_quiet F.plain_tuple_new _, codeAny_builtin F.entry_tuple_new ?_⟩))
  rw [Around.under_plainId F.plain_tuple_new _]
  have hsub := sub_tuple_self
  have hinit := init_tuple_lookup
  have hmh := madeHere_tuple
  have ty : s.TypeIs (.ref r) T := K.type s hok
  have nt := K.notTuple
  have nl := K.notList
  have hh2 : A.in1.in1.handled = none := hh
  wp_walk using wpAny_typeOf ty, collect_src (A := A.in1.in1) K hh2 hok hn
  intro h' tk acc hk hacc
  show wpAny _ _ (Builtin.Tuple.tupleExact acc.toList.toArray >>= fun v => ret v) _ _ _
  unfold Builtin.Tuple.tupleExact
  rw [Array.toArray_toList]
  refine wpAny_bind (wpAny_newObj_type (wpAny_pure ?_) (by show acc.size ≤ sizeLine; rw [hacc.1]; exact hn))
  exact ⟨⟨_, Heap.get?_push_size _ rfl, rfl⟩, q h' tk acc hk hacc⟩
end
theorem dk_items {P : Program} {w : World} {kvs : List (Key × V)} {vs : List (Key × Value)} {acc : Array Value} (rk : KV kvs vs) (ia : ItemsOf (fun i v => ∃ k x, vs[i]? = some (k, x) ∧ (mixKind P w).is k v = true) acc vs.length) : Vals (kvs.map fun kv => kV kv.1) acc.toList := by
  refine vals_of_at (by rw [List.length_map]; exact (Paired.length rk).trans (ia.1.symm.trans Array.length_toList.symm)) fun j x u h1 h2 => ?_
  obtain ⟨k, y, hky, hi⟩ := ia.2 j u (by rw [← Array.getElem?_toList]; exact h2)
  have e1 : (kvs.map (·.1))[j]? = some k := by rw [KV.keys rk, List.getElem?_map, hky] <;> rfl
  rw [show (kvs.map fun kv => kV kv.1) = (kvs.map (·.1)).map kV by rw [List.map_map] <;> rfl, List.getElem?_map, e1] at h1
  cases h1
  exact keyIs_rel hi
def rTupD : List V → Hp → VK → Prop := fun xs H Q => ∃ p kvs, xs = [.ref p] ∧ H p = some (.dK kvs) ∧ ∀ q, H q = none → Q (.ref q) (upd H q (.tup (kvs.map fun kv => kV kv.1)))
theorem call_tuple_dK {X : Cx} (hc : X.calm = true) : CallR X (.type "tuple") rTupD := by
  intro pins s σ H xs us Q I r h
  obtain ⟨p, kvs, rfl, hk, q⟩ := h
  rw [Vals.ref1 r]
  obtain ⟨z, lo, vs, rk, hd⟩ := (show ObjOk X.prog X.w H s.heap p (.dK kvs) from I.hok p _ hk)
  obtain ⟨ep, hat⟩ := hd.dictAt
  have hl : kvs.length = vs.length := Paired.length rk
  refine tuple_src (PySem.W.kdl_dict (knd := mixKind X.prog X.w) (kvs := vs) (ep := ep) lo) (I.ok.hd hc) hat (by rw [← hl]; exact z) fun h' tk acc keep ia => ?_
  have I1 : Inv X pins σ H { s with heap := h', toks := tk } := I.kept (t' := tk) keep
  refine ⟨.ref h'.objs.size, upd H h'.objs.size (.tup (kvs.map fun kv => kV kv.1)), I1.laid (t' := tk) (fun b o e => Heap.get?_push_of_some _ e) (Nat.le_refl _) (show ObjOk X.prog X.w _ _ _ (.tup (kvs.map fun kv => kV kv.1)) from ⟨?_, acc.toList, dk_items rk ia, by rw [Array.toArray_toList]; exact IsTup.new _ _⟩), rfl, q _ (I1.hok.fresh (Nat.le_refl _))⟩
  rw [List.length_map]
  exact z
end L2

/-! len(o), k in o, o[k] by own __len__, __contains__, __getitem__ -/
namespace L2
open PySem PySem.Spec PyProof.Rows
section
variable {X : Cx} {CX : CXT} {C f : Addr} {fd : FuncData} {ps : List Str} {sp : Sp} {k : Nat} {E : XK}
theorem call_ownA (F : FnOk X.prog X.w X.K X.mg X.base CX k f fd ps sp) (hb : Binds X.K fd ps []) {A : Around} (hr : Room k A) (hA : A.frames = X.A.frames) (hx : Passes CX X E) {pins : List (Addr × Obj)} {s : Shared} {σ : St} {H : Hp} {us : List Value} {vs : List V} {Q : VK}
    (I : Inv X pins σ H s) (r : Vals vs us) (h : sp vs H Q E) : wpAny (model X.prog X.w) A (call (.ref f) us) (EP X pins σ Q) X.xe s := by
  have e := I.env0
  have e0 : Env0 X.prog X.w X.K X.mg X.base A X.stack s H := ⟨by rw [hA]; exact e.frames, e.mod, e.bs, e.bsz, e.funs, e.frf, e.hok, e.bare⟩
  have hl : us.length = ps.length := by rw [← r.length]; exact F.len _ _ _ _ h
  have hbd := hb s us I.kIn (by simpa using hl)
  rw [List.append_nil] at hbd
  refine wpAny_call (codeAny_mono (F.run A X.stack s H ⟨us, []⟩ us vs Q E hr e0 hbd r h) fun r z hq => ?_)
  cases r with
  | error e => exact hx pins σ H s e z I hq
  | ok fl =>
    cases fl with
    | ret w => exact I.after hq
    | next => exact False.elim hq
    | brk => exact False.elim hq
    | cont => exact False.elim hq
/-- an own special method -/
structure OwnSp (K : PySem.W.Frag) (C f : Addr) (name : Str) : Prop where
  fi : PySem.W.findIn K (.ref C) name = some (some (.ref f))
  fn : PySem.W.isFn K (.ref f) = true
def rInO (C : Addr) (sp : Sp) (E : XK) (fl : Bool → Bool) : R2 := fun x y H Q => ∃ a dx fs, y = .ref a ∧ H a = some (.ins C dx fs) ∧ sp [.ref a, x] H (fun v H' => ∃ r, v = .bl r ∧ Q (.bl (fl r)) H') E
theorem has_own (F : FnOk X.prog X.w X.K X.mg X.base CX k f fd ps sp) (T : OwnSp X.K C f "__contains__") (hb : Binds X.K fd ps []) (hr : Room k X.A) (hx : Passes CX X E) {pins : List (Addr × Obj)} {s : Shared} {σ : St} {H : Hp} {a dx : Addr} {fs : List (Str × V)} {x : V} {v : Value} {Q : Bool → Shared → Prop} {R : Bool → Hp → Prop} (I : Inv X pins σ H s) (rx : RelV x v) (ha : H a = some (.ins C dx fs))
    (h : sp [.ref a, x] H (fun v H' => ∃ r, v = .bl r ∧ R r H') E) (q : ∀ r z H', Inv X pins σ H' z → R r H' → Q r z) : wpAny (model X.prog X.w) X.A (contains (.ref a) v) Q X.xe s := by
  obtain ⟨mA, J, _⟩ := ins_get I.hok ha
  obtain ⟨od, J, _⟩ := J.look
  have KX := I.kIn
  have sp : PySem.W.Looks (model X.prog X.w) s.heap (specialOf (.ref a) "__contains__") (some (.ref f)) := J.type.andThen (PySem.W.looks_findIn KX T.fi)
  unfold contains
  refine wpAny_holding ?_
  rw [show stdlibNamesSay? (.ref a) v = none by rfl]
  dsimp only
  refine wpAny_bind (sp.here ?_)
  refine wp_if_neg (by rw [show ((some (Value.ref f) : Option Value) == some Value.none) = false by rfl]; exact Bool.false_ne_true) ?_
  first
    | refine wpAny_bind ?_
    | refine wpAny_bind (wpAny_pure (wpAny_bind ?_))
  unfold callSpecialUnlessNone?
  refine wpAny_bind (sp.here (wpAny_holding (wpAny_bind ((PySem.W.bind_fn KX _ (beq_iff_eq.mp T.fn)).here ?_))))
  dsimp only
  refine wp_if_neg (by rw [show (Value.ref f == Value.none) = false by rfl]; exact Bool.false_ne_true) ?_
  first
    | refine wpAny_bind ?_
    | refine wpAny_bind (wpAny_pure (wpAny_bind ?_))
  refine thn (call_ownA F hb hr rfl hx I (.cons (show RelV (.ref a) (.ref a) from rfl) (.cons rx .nil)) h) fun w z hw => ?_
  obtain ⟨y, H', I', ry, r, rfl, qq⟩ := hw
  obtain rfl : w = Value.bool r := ry
  exact wpAny_pure (wpAny_truthy_bool (q r z H' I' qq))
theorem op_inO (F : FnOk X.prog X.w X.K X.mg X.base CX k f fd ps sp) (T : OwnSp X.K C f "__contains__") (hb : Binds X.K fd ps []) (hr : Room k X.A) (hx : Passes CX X E) : OpR X (compareOp .In) (rInO C sp E id) := by
  intro pins s σ H x y v u Q I rx ry h
  obtain ⟨a, dx, fs, rfl, ha, h⟩ := h
  cases ry
  show wpAny _ _ (do return Value.bool (← contains (.ref a) v)) _ _ s
  exact wpAny_bind (has_own (R := fun r H' => Q (.bl r) H') F T hb hr hx I rx ha h fun r z H' I' q => wpAny_pure ⟨.bl r, H', I', rfl, q⟩)
theorem op_notinO (F : FnOk X.prog X.w X.K X.mg X.base CX k f fd ps sp) (T : OwnSp X.K C f "__contains__") (hb : Binds X.K fd ps []) (hr : Room k X.A) (hx : Passes CX X E) : OpR X (compareOp .NotIn) (rInO C sp E not) := by
  intro pins s σ H x y v u Q I rx ry h
  obtain ⟨a, dx, fs, rfl, ha, h⟩ := h
  cases ry
  show wpAny _ _ (do return Value.bool (!(← contains (.ref a) v))) _ _ s
  exact wpAny_bind (has_own (R := fun r H' => Q (.bl (!r)) H') F T hb hr hx I rx ha h fun r z H' I' q => wpAny_pure ⟨.bl (!r), H', I', rfl, q⟩)
/-- len(o) -/
def rLenO (C : Addr) (sp : Sp) (E : XK) : List V → Hp → VK → Prop := fun xs H Q => ∃ a dx fs, xs = [.ref a] ∧ H a = some (.ins C dx fs) ∧ sp [.ref a] H (fun v H' => ∃ n : Nat, v = .int n ∧ n < 2 ^ 62 ∧ Q (.int n) H') E
theorem call_lenO (F : FnOk X.prog X.w X.K X.mg X.base CX k f fd ps sp) (T : OwnSp X.K C f "__len__") (hb : Binds X.K fd ps []) (hr : Room k X.A.in1) (hx : Passes CX X E) : CallR X (.builtin "len") (rLenO C sp E) := by
  intro pins s σ H xs us Q I r h
  obtain ⟨a, dx, fs, rfl, ha, h⟩ := h
  rw [Vals.ref1 r]
  obtain ⟨mA, J, _⟩ := ins_get I.hok ha
  obtain ⟨od, J, _⟩ := J.look
  refine Calls.call_function_entry kind_len plain_len entry_len (args_len1 _) ?_
  unfold Builtin.«len»
  refine wpAny_bind (m := oneArg "len" _) (wpAny_pure ?_)
  refine wpAny_bind (m := callSpecial? (.ref a) (Str.ofString "__len__")) (PySem.W.special_fn (name := Str.ofString "__len__") I.kIn J T.fi (beq_iff_eq.mp T.fn) ?_)
  refine thn (call_ownA (A := X.A.in1) F hb hr rfl hx I (.cons (show RelV (.ref a) (.ref a) from rfl) .nil) h) fun w z hw => ?_
  obtain ⟨y, H', I', ry, n, rfl, hn, q⟩ := hw
  obtain ⟨t, rfl⟩ := ry
  dsimp only
  refine wpAny_bind (wpAny_holding (wpAny_pure ?_))
  refine wpAny_bind (wpAny_letGo ?_)
  have h1 : ¬ ((n : Int) < 0) := by omega
  have h2 : ¬ ((n : Int) ≥ 2 ^ 63) := by omega
  refine wp_if_neg h1 ?_
  first
    | refine wp_if_neg h2 ?_
    | refine wpAny_bind (wpAny_pure (wp_if_neg h2 ?_))
  first
    | exact wpAny_bind (wpAny_mkInt (wpAny_pure ⟨_, rfl, .int n, H', I'.tok _, ⟨_, rfl⟩, q⟩))
    | exact wpAny_bind (wpAny_pure (wpAny_bind (wpAny_mkInt (wpAny_pure ⟨_, rfl, .int n, H', I'.tok _, ⟨_, rfl⟩, q⟩))))
/-- o[k] -/
def rIxO (C : Addr) (sp : Sp) (E : XK) : R2 := fun x y H Q => ∃ a dx fs, x = .ref a ∧ H a = some (.ins C dx fs) ∧ sp [.ref a, y] H Q E
theorem pe_ixO {a b : Expr} {ta tb : TE} {pos : Pos} (F : FnOk X.prog X.w X.K X.mg X.base CX k f fd ps sp) (T : OwnSp X.K C f "__getitem__") (hf : PySem.W.fnIn X.K f = true) (hb : Binds X.K fd ps []) (hr : Room k X.A.in1) (hx : Passes CX X E) (ha : PE X a ta) (hbb : PE X b tb)
    (hs : ∀ o i, subscripted b true o i = runValue (.builtin "lifetime.subscript" ⟨[o, i], []⟩) := by intro _ _; rfl) : PE X (.Subscript a b pos) (tOp (rIxO C sp E) ta tb) := by
  refine ⟨fun pins s σ H Q I h => ?_⟩
  refine Subscript_ (binT ha hbb I h fun v u s2 x y H2 I2 rx ry q => ?_)
  obtain ⟨p, dx, fs, rfl, hp, q⟩ := q
  cases rx
  obtain ⟨mA, J, _⟩ := ins_get I2.hok hp
  obtain ⟨od, J, _⟩ := J.look
  obtain ⟨m, hF⟩ := I2.fr
  exact PySem.W.sub_K hF I2.ok.mod.kin J T.fi hf T.fn (call_ownA (A := X.A.in1) F hb hr rfl hx I2 (.cons (show RelV (.ref p) (.ref p) from rfl) (.cons ry .nil)) q) (hs _ _)
end
end L2

/-! == of two dicts with tuple keys that hold the very same objects, or that are of unlike lengths -/
namespace L2
open PySem PySem.Spec PyProof.Rows
section
variable {prog : Program} {w : World} {K : Type} [DecidableEq K] {knd : HeapKind prog w K} {A : Around} {E : Value → Shared → Prop} {s : Shared}
theorem same_objs {nm : String} {a b : Addr} {xa xb : List (K × Addr × Value)} {Q : Bool → Shared → Prop} (hu : knd.room A) (ha : (a == sysModules) = false) (hb : (b == sysModules) = false) (da : s.heap.DictOfH knd a xa) (db : s.heap.DictOfH knd b xb)
    (hits : xa.length = xb.length → ∀ x ∈ xa, ∃ q r, x.2.2 = .ref r ∧ (x.1, q, Value.ref r) ∈ xb) (q : Q (decide (xa.length = xb.length)) s) : wpAny (model prog w) A (Builtin.Dict.samePairs nm a b) Q E s := by
  obtain ⟨oa, ea, pa, goa, _, gda, hea, hia, hna⟩ := da
  obtain ⟨ob, eb, pb, gob, _, gdb, heb, hib, hnb⟩ := db
  have sa : ea.size = xa.length := size_of_entries hea
  have sb : eb.size = xb.length := size_of_entries heb
  unfold Builtin.Dict.samePairs Builtin.Dict.showsAll
  rw [if_neg (show ¬ (a == sysModules) = true by rw [ha]; exact Bool.false_ne_true), if_neg (show ¬ (b == sysModules) = true by rw [hb]; exact Bool.false_ne_true)]
  refine wpAny_bind (wpAny_pure (wpAny_bind (wpAny_pure ?_)))
  refine wpAny_bind (wpAny_dictEntries goa gda ?_)
  dsimp only
  refine wpAny_bind (wpAny_dictEntries gob gdb ?_)
  by_cases hsz : xa.length = xb.length
  case neg =>
    rw [decide_eq_false hsz] at q
    refine wp_if_pos (by rw [sa, sb]; simpa using hsz) ?_
    exact wpAny_bind (wpAny_rule (wpAny_pure q))
  case pos =>
    rw [decide_eq_true hsz] at q
    have hits := hits hsz
    refine wp_if_neg (by rw [sa, sb, hsz]; simp) ?_
    first
      | refine wpAny_bind (wpAny_dictEpoch goa gda ?_)
      | refine wpAny_bind (wpAny_pure (wpAny_bind (wpAny_dictEpoch goa gda ?_)))
    refine wpAny_bind ?_
    rw [Std.Legacy.Range.forIn_eq_forIn_range']
    simp only [Std.Legacy.Range.size, Nat.sub_zero, Nat.add_sub_cancel, Nat.div_one]
    refine wpAny_forIn_list _ (fun rest r z => z = s ∧ r = (none, ()) ∧ ∀ i ∈ rest, i < xa.length) _ ?_ ?_ _ _ ⟨rfl, rfl, fun i hi => ?_⟩
    · rintro i rest r z ⟨rfl, rfl, hall⟩
      have hlt := hall i List.mem_cons_self
      have hx : xa[i]? = some xa[i] := List.getElem?_eq_getElem hlt
      have hm : xa[i] ∈ xa := List.getElem_mem hlt
      generalize xa[i] = x at hx hm
      obtain ⟨k, p, v⟩ := x
      obtain ⟨y, t, e, hy⟩ := hits _ hm
      dsimp only at e hy
      subst e
      refine wpAny_bind (wpAny_dictEntries goa gda ?_)
      rw [entry_at hea i, hx]
      show wpAny _ _ (holding [Value.ref p, Value.ref t] _ >>= _) _ _ _
      obtain ⟨j, hj, ej⟩ := List.getElem_of_mem hy
      have hjj : xb[j]? = some (k, y, Value.ref t) := by rw [List.getElem?_eq_getElem hj, ej]
      refine wpAny_bind (wpAny_holding (wpAny_bind (wpAny_dictFind_heap hu (hia _ hm) gob gdb heb hib hnb (fun no => absurd hjj (no j _)) fun j' pq hj' => ?_)))
      obtain rfl : j' = j := idxH_unique hnb hj' hjj
      refine wpAny_bind (wpAny_dictEntries gob gdb ?_)
      rw [entry_at heb j', hjj]
      refine wpAny_holding ?_
      show wpAny _ _ (eqBool (.ref t) (.ref t)) _ _ _
      unfold eqBool
      refine wpAny_holding (wp_if_pos (by simp) (wpAny_bind (wpAny_rule (wpAny_pure ?_))))
      simp only [Bool.not_true, Bool.false_eq_true, if_false]
      first
        | refine wpAny_bind (wpAny_dictEpoch goa gda ?_)
        | refine wpAny_bind (wpAny_pure (wpAny_bind (wpAny_dictEpoch goa gda ?_)))
      refine wp_if_neg (by simp) ?_
      first
        | exact wpAny_pure ⟨rfl, rfl, fun i hi => hall i (.tail _ hi)⟩
        | exact wpAny_bind (wpAny_pure (wpAny_pure ⟨rfl, rfl, fun i hi => hall i (.tail _ hi)⟩))
    · rintro r z ⟨rfl, rfl, _⟩
      exact wpAny_pure q
    · rw [sa] at hi
      have := List.mem_range'.mp hi
      omega
theorem eq_objs {a b : Addr} {xa xb : List (K × Addr × Value)} {Q : Value → Shared → Prop} (hu : knd.room A.in1) (hu2 : A.units < cLine) (ha : (a == sysModules) = false) (hb : (b == sysModules) = false) (da : s.heap.DictOfH knd a xa) (db : s.heap.DictOfH knd b xb)
    (hits : xa.length = xb.length → ∀ x ∈ xa, ∃ q r, x.2.2 = .ref r ∧ (x.1, q, Value.ref r) ∈ xb) (q : Q (.bool (decide (xa.length = xb.length))) s) : wpAny (model prog w) A (compareOp .Eq (.ref a) (.ref b)) Q E s := by
  have ta : s.TypeIs (.ref a) "dict" := let ⟨o, _, _, ho, hx, _⟩ := da; ⟨o, ho, hx.1⟩
  have tb : s.TypeIs (.ref b) "dict" := let ⟨o, _, _, ho, hx, _⟩ := db; ⟨o, ho, hx.1⟩
  refine wpAny_richCompare_same_room (op := .Eq) ta tb PySem.F.slot_dict_eq (wpAny_call_entry PySem.F.slot_dict_eq ta PySem.F.entry_dict_eq ?_ (PySem.F.args_dict_eq_2 _ _)) hu2
  show wpAny _ _ (Builtin.Dict.dictSlotArgs "__eq__" ⟨[.ref a, .ref b], []⟩ >>= _) _ _ s
  refine wpAny_bind ?_
  unfold Builtin.Dict.dictSlotArgs
  refine wpAny_bind (wpAny_notOrdered_dict ta ?_)
  show wpAny _ _ (pure (Value.ref a, Value.ref b)) _ _ s
  refine wpAny_pure (wpAny_bind (wpAny_isInstance (T := "dict") tb PySem.F.sub_dict_dict ?_))
  simp only [Bool.not_true, Bool.false_eq_true, if_false]
  refine wpAny_bind (wpAny_pure (wpAny_bind (wpAny_pure ?_)))
  refine wpAny_bind (same_objs hu ha hb da db hits ?_)
  refine wpAny_pure ⟨_, rfl, (fun x => nomatch x), ?_⟩
  simpa using q
end
theorem kt_hits {H : Hp} {ls : List (List Key × V)} {xb : List (List Key × Addr × Value)} (rb : KT H ls xb) : ∀ {ks : List (List Key × V)} {xa : List (List Key × Addr × Value)}, KT H ks xa → (∀ p ∈ ks, ∃ r, p.2 = .ref r ∧ valV ls p.1 = some (.ref r)) → ∀ x ∈ xa, ∃ q r, x.2.2 = Value.ref r ∧ (x.1, q, Value.ref r) ∈ xb := by
  intro ks xa ra
  induction ra with
  | nil => exact fun _ x hx => nomatch hx
  | @cons p x ks xa h _ more =>
    intro hp y hy
    rcases List.mem_cons.mp hy with rfl | hy
    · obtain ⟨r, e, hv⟩ := hp p List.mem_cons_self
      obtain ⟨e1, _, e3⟩ := h
      rw [e] at e3
      have ev : y.2.2 = Value.ref r := e3
      have z := rb.val p.1
      rw [hv] at z
      cases hk : atKey xb p.1 with
      | none => rw [hk] at z; exact (show False from z).elim
      | some m =>
        rw [hk] at z
        have z : m.2 = Value.ref r := z
        refine ⟨m.1, r, ev, ?_⟩
        unfold atKey at hk
        obtain ⟨t, ht, et⟩ := Option.map_eq_some_iff.mp hk
        have h1 := List.mem_of_find?_eq_some ht
        have h2 : t.1 = p.1 := by simpa using List.find?_some ht
        rw [show (y.1, m.1, Value.ref r) = t by rw [← e1, ← h2, ← et, ← z, ← et]]
        exact h1
    · exact more (fun q hq => hp q (.tail _ hq)) y hy
/-- d == e -/
def rEqT : R2 := fun x y H Q => ∃ a b ks ls, x = .ref a ∧ y = .ref b ∧ H a = some (.dT ks) ∧ H b = some (.dT ls) ∧ (ks.length = ls.length → ∀ p ∈ ks, ∃ r, p.2 = .ref r ∧ valV ls p.1 = some (.ref r)) ∧ Q (.bl (decide (ks.length = ls.length))) H
theorem op_eqT {X : Cx} (hu : X.A.units + 1 < cLine) : OpR X (compareOp .Eq) rEqT := by
  intro pins s σ H x y v u Q I rx ry h
  obtain ⟨a, b, ks, ls, rfl, rfl, ha, hb, hits, q⟩ := h
  cases rx
  cases ry
  obtain ⟨_, ya, xa, ra, da⟩ := dt_of I.hok ha
  obtain ⟨_, yb, xb, rb, db⟩ := dt_of I.hok hb
  have la : ks.length = xa.length := Paired.length ra
  have lb : ls.length = xb.length := Paired.length rb
  refine eq_objs (show X.A.in1.units < cLine from hu) (by omega) ya yb da db (fun e => kt_hits rb ra (hits (by omega))) ⟨.bl (decide (ks.length = ls.length)), H, I, ?_, q⟩
  rw [la, lb]
  rfl
end L2

/-! x(lambda a=e: body): a lambda with one default that it does not read -/
namespace LamX
open L2 PySem PyProof.Rows PySem.Spec
/-- the lambda's name in the tables of code, and what it holds of the names around it -/
abbrev lq (X : Cx) : Str := X.env.qual ++ "<lambda>"
abbrev lclo (X : Cx) (scope : Scope) : List (Str × Addr) := cloFrom X.env.cells scope.names []
/-- the lambda at f, its code at c, the tuple of its default u at D; nobody holds f and D -/
structure LamAt (X : Cx) (H : Hp) (h : Heap) (params : Arguments) (body : Expr) (scope : Scope) (u : Value) (f c D : Addr) : Prop where
  fn : ∃ doc pm ct, h.get? f = some (PySem.W.kdv_obj "<lambda>" (lq X) params (.expr body) scope (lclo X scope) (.ref D) doc pm c ct)
  tup : h.get? D = some (PySem.W.kdv_tup [u])
  off : ∀ b, b = f ∨ b = D → H b = none ∧ b ∉ frs X.stack
/-- a table of codes with one row more -/
def grown (H : Hp) (P : Addr) (ps : Array Value) (pos : Pos) (c : Addr) (q : Str) : Hp := upd (upd H P (.tbl (ps ++ #[rawInt pos.line, rawInt pos.col, .ref c]))) c (CodeO c q)
section
variable {T : List (Addr × Str)} {H : Hp} {P c : Addr} {ps : Array Value} {pos : Pos} {q : Str}
theorem grown_ext (hP : H P = some (.tbl ps)) (new : H c = none) : ExtN H (grown H P ps pos c q) := by
  intro b o hb nt
  have b1 : b ≠ c := ne_of_none hb new
  have b2 : b ≠ P := by
    intro z
    rw [z] at hb
    exact nt ps (Option.some.inj (hb.symm.trans hP))
  exact (upd_ne b1).trans ((upd_ne b2).trans hb)
theorem grown_tabs (hT : Tabs T H) (hP : H P = some (.tbl ps)) (ok : TriplesOk ps.toList) (one : ∀ p ∈ T, p.1 = P → p.2 = q) (new : H c = none) : Tabs T (grown H P ps pos c q) := by
  intro p hp
  obtain ⟨rs, at0, ok0, codes⟩ := hT p hp
  have old : ∀ {d : Addr}, H d = some (CodeO d p.2) → grown H P ps pos c q d = some (CodeO d p.2) := fun h => grown_ext hP new _ _ h codeO_ne
  by_cases same : p.1 = P
  · have er : rs = ps := by
      rw [same, hP] at at0
      injection at0 with z
      injection z with z
      exact z.symm
    subst er
    have el : (rs ++ #[rawInt pos.line, rawInt pos.col, Value.ref c]).toList = rs.toList ++ [rawInt pos.line, rawInt pos.col, .ref c] := Array.toList_append
    refine ⟨_, ?_, by rw [el]; exact PySem.TriplesOk_snoc _ _ _ _ ok, ?_⟩
    · rw [same]
      exact (upd_ne (ne_of_none hP new)).trans upd_same
    · intro p' cv found
      rw [el] at found
      refine (among_app _ ok found).elim (fun z => ?_) fun z => ⟨c, z, by rw [one p hp same]; exact upd_same⟩
      obtain ⟨d, e, k⟩ := codes p' cv z
      exact ⟨d, e, old k⟩
  · refine ⟨rs, (upd_ne (ne_of_none at0 new)).trans ((upd_ne same).trans at0), ok0, fun p' cv found => ?_⟩
    obtain ⟨d, e, k⟩ := codes p' cv found
    exact ⟨d, e, old k⟩
end
section
variable {X : Cx} {pins : List (Addr × Obj)} {σ : L2.St} {H : Hp} {s : Shared}
/-- a new address is nobody's and no frame -/
theorem new_off (I : Inv X pins σ H s) {b : Addr} (le : s.heap.objs.size ≤ b) : H b = none ∧ b ∉ frs X.stack := by
  refine ⟨I.hok.fresh le, fun z => ?_⟩
  cases List.mem_cons.mp (I.stkSub b z) with
  | inl e => exact absurd I.lt (by rw [← e]; exact Nat.not_lt_of_le le)
  | inr e => exact I.nofs le e
theorem lam_made {T : List (Addr × Str)} {c P : Addr} {params : Arguments} {body : Expr} {scope : Scope} {pos : Pos} {E : Value → Shared → Prop} {Q : Value → Shared → Prop} {u : Value} (I : Inv X pins σ H s) (TB : TabB X.base X.mg c P) (code : X.env.code = .ref c)
    (mem : (P, lq X) ∈ T) (one : ∀ p ∈ T, p.1 = P → p.2 = lq X) (hT : Tabs T H) (frees : ∀ y ∈ scope.names, y.2 = .free → ∃ c, X.env.cells.lookup y.1 = some c) (kw : params.kwonlyargs = [])
    (q : ∀ f d D H1 s1, Inv X pins σ H1 s1 → ExtN H H1 → Tabs T H1 → H1 d = some (CodeO d (lq X)) → LamAt X H1 s1.heap params body scope u f d D → Q (.ref f) s1) :
    wpAny (model X.prog X.w) X.A (makeFunction "<lambda>" (lq X) params (.expr body) scope X.env [u] [] [] pos pos.line) Q E s := by
  rw [makeFunction_eq]
  simp only [kw, List.zip_nil_left, List.filterMap_nil, List.isEmpty_nil, List.isEmpty_cons, Bool.false_eq_true, if_false, if_true, pure_bind]
  have I0 : Inv X pins σ H { s with heap := s.heap.push (PySem.W.kdv_tup [u]), toks := s.toks } := I.kept fun _ _ e => Heap.get?_push_of_some _ e
  have hD : (s.heap.push (PySem.W.kdv_tup [u])).get? s.heap.objs.size = some (PySem.W.kdv_tup [u]) := Heap.get?_push_size _ rfl
  have oD := new_off I (Nat.le_refl s.heap.objs.size)
  refine wpAny_bind (wpAny_newTextTuple ?_)
  have sz0 : s.heap.objs.size < (s.heap.push (PySem.W.kdv_tup [u])).objs.size := Heap.lt_size hD
  show wpAny _ _ _ _ _ { s with heap := s.heap.push (PySem.W.kdv_tup [u]), toks := s.toks }
  generalize hz : ({ s with heap := s.heap.push (PySem.W.kdv_tup [u]), toks := s.toks } : Shared) = z at I0
  have ez : z.heap = s.heap.push (PySem.W.kdv_tup [u]) := by rw [← hz]
  rw [← ez] at hD sz0
  generalize s.heap.objs.size = D at hD oD sz0
  obtain ⟨ps, hP, ok, codes⟩ := hT _ mem
  have gP : z.heap.get? P = some (PySem.W.tabObj ps) := I0.hok P _ hP
  have main := I0.mod.glob.keeps I0.bk
  have code0 := TB.code.keeps I0.bk
  have bts := TB.bm.keeps I0.bk
  cases found : codeAmong pos ps.toList with
  | some cv =>
    obtain ⟨d, rfl, hd⟩ := codes pos cv found
    refine PySem.W.kdv_makeTailHit (closure_ok frees) I0.ok.glob main code code0 gP ok found bts fun ct doc h' tk kp le => ?_
    have up : ∀ b o, z.heap.get? b = some o → (h'.push (PySem.W.kdv_obj "<lambda>" (lq X) params (.expr body) scope (lclo X scope) (.ref D) doc ((X.mg "__name__").getD .none) d ct)).get? b = some o := fun b o e => Heap.get?_push_of_some _ (kp b o e)
    refine q _ d D H _ (I0.kept up) (ExtN.refl H) hT hd ⟨⟨doc, _, ct, Heap.get?_push_size _ rfl⟩, up _ _ hD, fun b hb => ?_⟩
    rcases hb with rfl | rfl
    · exact new_off I0 le
    · exact oD
  | none =>
    refine PySem.W.kdv_makeTail (closure_ok frees) I0.ok.glob main code code0 gP ok found TB.gP bts fun d ct doc h' tk ext ge lt rec tab => ?_
    obtain ⟨d', oc, vs, t, e, r1, r2, r3⟩ := rec
    injection e with e
    subst e
    have nd := I0.hok.fresh ge
    have nP : D ≠ P := fun y => by
      rw [y, hP] at oD
      exact nomatch oD.1
    have lay := inv_table (h' := h'.push (PySem.W.kdv_obj "<lambda>" (lq X) params (.expr body) scope (lclo X scope) (.ref D) doc ((X.mg "__name__").getD .none) d ct)) (t' := tk) I0 hP (fun b o nb e => Heap.get?_push_of_some _ (ext b o nb e)) (Heap.get?_push_of_some _ tab) ge ⟨oc, vs, t, Heap.get?_push_of_some _ r1, r2, r3⟩
    have big := Nat.le_trans ge (Nat.le_of_lt lt)
    refine q _ d D (grown H P ps pos d (lq X)) _ lay (grown_ext hP nd) (grown_tabs hT hP ok one nd) upd_same ⟨⟨doc, _, ct, Heap.get?_push_size _ rfl⟩, Heap.get?_push_of_some _ (ext D _ nP hD), fun b hb => ?_⟩
    rcases hb with rfl | rfl
    · exact ⟨(upd_ne (Nat.ne_of_gt lt)).trans ((upd_ne (Nat.ne_of_gt (Nat.lt_of_lt_of_le (Heap.lt_size gP) big))).trans (I0.hok.fresh big)), (new_off I0 big).2⟩
    · exact ⟨(upd_ne (Nat.ne_of_lt (Nat.lt_of_lt_of_le sz0 ge))).trans ((upd_ne nP).trans oD.1), oD.2⟩
/-- one parameter a that the def around does not have, no other own names -/
structure LamD (N : List Str) (a : Str) (sc scope : Scope) : Prop where
  fun_ : scope.kind = .function ∧ scope.isCoroutine = false ∧ scope.isGenerator = false
  own : ∀ y ∈ scope.names, y.2 ≠ .cell ∧ (y.2 = .local → y.1 = a)
  held : ∀ y ∈ scope.names, y.2 = .free → (sc.names.lookup y.1 = some .cell ∨ sc.names.lookup y.1 = some .free)
  par : scope.names.lookup a = some .local
  out : a ∉ N
def lamDB (N : List Str) (a : Str) (sc scope : Scope) : Bool :=
  decide (scope.kind = .function) && !scope.isCoroutine && !scope.isGenerator && (scope.names.all fun y => !decide (y.2 = .cell) && (!decide (y.2 = .local) || y.1 == a) && (!decide (y.2 = .free) || decide (sc.names.lookup y.1 = some .cell) || decide (sc.names.lookup y.1 = some .free))) && decide (scope.names.lookup a = some .local) && !N.any (· == a)
theorem lamD_by {N : List Str} {a : Str} {sc scope : Scope} (h : lamDB N a sc scope = true) : LamD N a sc scope := by
  unfold lamDB at h
  simp only [Bool.and_eq_true, Bool.or_eq_true, Bool.not_eq_true', decide_eq_true_eq, decide_eq_false_iff_not, List.all_eq_true, beq_iff_eq] at h
  obtain ⟨⟨⟨⟨⟨h1, h2⟩, h3⟩, h4⟩, h5⟩, h6⟩ := h
  refine ⟨⟨h1, h2, h3⟩, fun y hy => ⟨(h4 y hy).1.1, fun e => (h4 y hy).1.2.resolve_left fun k => k e⟩, fun y hy e => ?_, h5, fun hm => ?_⟩
  · exact (or_assoc.mp (h4 y hy).2).resolve_left fun k => k e
  · have h7 : (N.any fun x => x == a) = true := List.any_eq_true.mpr ⟨a, hm, beq_self_eq_true a⟩
    exact nomatch h7.symm.trans h6
theorem LamD.has {N : List Str} {a : Str} {scope : Scope} (L : LamD N a X.env.scope scope) (ok : X.Ok) : ∀ y ∈ scope.names, y.2 = .free → ∃ c, X.env.cells.lookup y.1 = some c := fun y hy e => ok.has _ (L.held y hy e)
/-- a cell that the lambda holds is the cell around it, and each free name has one -/
theorem LamD.cell {N : List Str} {a : Str} {scope : Scope} (L : LamD N a X.env.scope scope) (ok : X.Ok) {y : Str} {c : Addr} (h : (lclo X scope).lookup y = some c) : X.env.cells.lookup y = some c := by
  rcases cloFrom_mem (PySem.mem_of_lookup h) with z | ⟨m, e⟩
  · exact nomatch z
  · have ⟨c1, h1⟩ := L.has ok _ m rfl
    rw [e, show X.env.cells.lookup y = some c1 from h1]
    rfl
theorem clo_has {scope : Scope} {y : Str} (h : scope.names.lookup y = some .free) : ∃ c, (lclo X scope).lookup y = some c := mem_lookup (cloFrom_has (acc := []) (PySem.mem_of_lookup h))
/-- the context of the body, when the call has laid its frame -/
theorem lam_entered {HZ : Hp} {s1 : Shared} {a : Str} {m : Str → Option Value} {A : Around} {outer : List Env} {E : XK} {scope : Scope} {f c : Addr} {h1 : Heap} {tk : Nat} (I : Inv X pins σ H s) (L : LamD X.N a X.env.scope scope) (e0 : Env0 X.prog X.w X.K X.mg X.base A outer s1 HZ) (calm : A.handled = none)
    (un : Un (frs X.stack) [] H HZ s.heap s1.heap) (ns : h1.Ns s1.heap.objs.size m) (kp : ∀ b o, s1.heap.get? b = some o → h1.get? b = some o) : Inv (lamCx X A outer s1 HZ E scope f c) [] σ HZ { s1 with heap := h1, toks := tk } := by
  have none_ : ∀ {b : Addr}, b ∉ ([] : List Addr) := fun z => nomatch z
  have through : ∀ {d : Addr} {v : Option Value}, H d = none → s.heap.IsCell d v → h1.IsCell d v := by
    rintro d v n ⟨o, ho, hd⟩
    obtain ⟨sl, ho'⟩ := un.any ho n none_
    exact ⟨_, kp _ _ ho', hd⟩
  have okL : (lamCx X A outer s1 HZ E scope f c).Ok :=
    { mod := e0.mod, kind := L.fun_.1, glob := rfl, blt := rfl, above := Nat.le_refl _, inj := fun x y d h1 h2 => I.ok.inj x y d (L.cell I.ok h1) (L.cell I.ok h2),
      has := fun x hx => (show scope.names.lookup x = some .cell ∨ scope.names.lookup x = some .free from hx).elim (fun z => absurd rfl (L.own _ (PySem.mem_of_lookup z)).1) clo_has,
      cab := fun _ _ z => (nomatch z), hd := fun _ => calm, frames := Around.frames_deeper e0.frames, stk := .inr ⟨rfl, rfl⟩, exf := fun _ z => absurd z none_, bs := e0.bs, bsz := e0.bsz, noex := fun _ _ _ => none_, exfs := fun _ z => absurd z none_, funs := e0.funs, frf := e0.frf }
  refine { ok := okL, os := rfl, bare := e0.bare, base := Un.kept kp, loc := ⟨_, ns, fun i y v hy hv vis => ?_⟩, cell := fun y d h => ?_, free := e0.hok.fresh (Nat.le_refl _), freeC := fun y d h => ?_, pin := fun p hp => (nomatch hp), hok := e0.hok.kept kp, len := I.len }
  · have vis : Vis scope y := vis
    have hy : X.N[i]? = some y := hy
    rcases vis with k | k | k
    · have ea : y = a := (L.own _ (PySem.mem_of_lookup k)).2 rfl
      exact absurd (List.mem_of_getElem? (ea ▸ hy)) L.out
    · exact absurd rfl (L.own _ (PySem.mem_of_lookup k)).1
    · have up := L.held _ (PySem.mem_of_lookup k) rfl
      obtain ⟨m0, -, look⟩ := I.loc
      obtain ⟨r, hr, at0⟩ := look i y v hy hv (.inr up)
      obtain ⟨d, hd⟩ := clo_has (X := X) k
      have hd0 := L.cell I.ok hd
      refine ⟨r, hr, .inr ⟨.inr k, d, hd, ?_⟩⟩
      rcases at0 with ⟨loc, -⟩ | ⟨-, d1, h2, isc⟩
      · have loc : X.env.scope.names.lookup y = some .local := loc
        rcases up with z | z <;> exact nomatch loc.symm.trans z
      · obtain rfl : d = d1 := Option.some.inj (hd0.symm.trans h2)
        exact through (I.freeC y d hd0) isc
  · have hd := L.cell I.ok h
    exact (I.cell y d hd).imp fun v z => through (I.freeC y d hd) z
  · have hd := L.cell I.ok h
    obtain ⟨v, o, ho, -⟩ := I.cell y d hd
    exact un.free d o ho (I.freeC y d hd) none_
/-- what a call ends in is the value of the call's expression -/
theorem call_ends {CX : CXT} {E : XK} {Q : VK} {Y : Cx} {pinsY : List (Addr × Obj)} {τ : L2.St} {G : Hp} {z : Shared} {v : Value} {us : List Value} (J : Inv Y pinsY τ G z) (pass : Passes CX Y E)
    (run : codeAny (model Y.prog Y.w) Y.A (.call v ⟨us, []⟩) (CR CX Y.stack Y.prog Y.w G z Q E) z) : wpAny (model Y.prog Y.w) Y.A (call v us) (EP Y pinsY τ Q) Y.xe z := by
  refine wpAny_call (codeAny_mono run ?_)
  rintro (e | fl) z' k
  · exact pass pinsY τ G z e z' J k
  · cases fl with
    | ret r => exact J.after k
    | _ => exact k.elim
/-- the lambda called with nothing, in the def that got it -/
theorem pe_actD {CXg : CXT} {Eg : XK} {Ng : List Str} {qg : Str} {sg : Scope} {g f c D : Addr} {cdg u : Value} {params : Arguments} {body : Expr} {scope : Scope} {k i : Nat} {a par : Str} {pn : List (Addr × Obj)} {xe : Value → Shared → Prop} {W : WX} {E : XK} {tb : TE} {p1 p2 : Pos} {Y : Cx}
    (eY : Y = (cxOf CXg X.prog X.w X.K X.mg X.base Ng qg sg g cdg X.A X.stack s H Eg).tr pn xe) (I : Inv X pins σ H s) (L : LamD X.N par X.env.scope scope) (F : LamAt X H s.heap params body scope u f c D)
    (binds : ∀ doc pm ct, ∃ k, bindArgs (PySem.W.kdv_fn "<lambda>" (lq X) params (.expr body) scope (lclo X scope) (.ref D) doc pm (.ref c) ct) ⟨[], []⟩ = seqItems? (.ref D) >>= k ∧ k (some #[u]) = pure [(par, u)])
    (tk : Takes Y W) (up : ∀ cls d τ G, E cls d G → W cls d τ G) (room : Room (k + 1) (X.A.deeper (envOfC qg sg s.heap.objs.size g cdg)))
    (hb : ∀ A outer s H, Room k (A.deeper (lamEnv X scope s.heap.objs.size f c)) → PE (lamCx X A outer s H E scope f c) body tb)
    (hN : Ng[i]? = some a) (vis : Vis sg a) (hd : (a == ("__debug__" : Str)) = false) (hcd : (a == ("__classdict__" : Str)) = false) :
    PE Y (.Call (.Name a p1) [] [] p2) fun τ G Q => τ[i]? = some (some (.ref f)) ∧ G c = some (CodeO c (lq X)) ∧ tb σ G Q := by
  subst eY
  constructor
  rintro pinsY sY τ G Q J ⟨at0, cod, rd⟩
  refine wpAny_Call_Name_kw (thn ((pe_var (pos := p1) hN vis hd hcd).run pinsY sY τ G (fun v G' => v = .ref f ∧ G' = G) J ⟨_, at0, rfl, rfl⟩) ?_)
  rintro y s1 ⟨v, G1, J1, rel, rfl, rfl⟩
  obtain rfl : y = Value.ref f := rel
  obtain ⟨doc, pm, ct, hf⟩ := F.fn
  have un : Un (frs X.stack) [] H G1 s.heap s1.heap := J1.base
  have hf1 := un.keep f _ hf (F.off f (.inl rfl)).1 (F.off f (.inl rfl)).2 (fun z => nomatch z)
  have hD1 := un.keep D _ F.tup (F.off D (.inr rfl)).1 (F.off D (.inr rfl)).2 (fun z => nomatch z)
  obtain ⟨⟨oc, vs, t, k1, k2, k3⟩, -, -⟩ := J1.hok c _ cod
  refine PySem.W.callWith_F0 ⟨_, _, _, _, hf1⟩ ?_
  refine call_ends (us := []) J1 (passes_call tk up) (PySem.W.kla_callFunE room.depth hf1 rfl L.fun_.2.1 L.fun_.2.2 rfl ⟨c, oc, vs, t, rfl, k1, k2, k3⟩ ?_)
  obtain ⟨kk, b1, b2⟩ := binds doc pm ct
  rw [b1]
  refine wpAny_bind (wpAny_seqItems hD1 rfl ?_)
  rw [show [u].toArray = #[u] from rfl, b2]
  refine wpAny_pure (wpAny_newFunctionEnv (fun y hy => (L.own y hy).1) (fun y hy => List.mem_singleton.mp hy ▸ L.par) (fun h1 ns sb => ⟨J1.nolimit.fresh _ sb, ?_⟩) L.fun_.1)
  have ent := lam_entered (E := E) (f := f) (c := c) (tk := s1.toks + [(par, u)].length) I L J1.env0 room.hd un ns fun b o e => sb.extBut b o (Nat.ne_of_lt (Heap.lt_size e)) (Heap.get?_push_of_some _ e)
  exact PySem.W.kla_codeExpr (wpAny_mono ((hb _ _ s1 G1 (room.deeper _)).run [] _ _ G1 Q ent rd) (fun _ _ ⟨w', G2, J2, rv, fin⟩ => ⟨w', G2, J2.os, J2.bare, J2.base, J2.hok, rv, fin⟩) fun _ _ z => z)
/-- x(lambda par=e: body) -/
theorem pe_lamcallD {T : List (Addr × Str)} {TT : (XK → Hp → VK → Prop) → Hp → VK → Prop} {x a par : Str} {g c P : Addr} {k : Nat} {pg : Arguments} {bg : List Stmt} {sg : Scope} {dV kV doc pm cdv ct oc : Value} {an od : Option Addr} {osl : Array (Option Value)} {Ng : List Str}
    {params : Arguments} {body e : Expr} {scope : Scope} {t : XK → TE} {p lpos pos : Pos} {n : Int} (hg : Gl X x) (hm : X.mg x = some (.ref g)) (hk : PySem.W.keepIn X.K (.ref g) = true)
    (lk : X.K.lookup g = some ⟨oc, od, .func (PySem.W.fnOf x x pg bg sg dV kV doc pm an cdv ct), osl⟩) (cg : PySem.W.codeIn X.K cdv x = true) (bs : L2.Binds X.K (PySem.W.fnOf x x pg bg sg dV kV doc pm an cdv ct) [a] []) (Sg : FnScope Ng [a] sg) (hNg : Ng[0]? = some a) (vis : Vis sg a)
    (hG : GivesTo X Ng x sg g cdv bg a (lq X) TT) (TB : TabB X.base X.mg c P) (code : X.env.code = .ref c) (mem : (P, lq X) ∈ T) (one : ∀ p ∈ T, p.1 = P → p.2 = lq X) (room : Room (k + 2) X.A) (L : LamD X.N par X.env.scope scope) (he : PE X e (tC (.int n))) (dfs : defaultsOf params X.env = ([eval e X.env], [])) (kw : params.kwonlyargs = [])
    (binds : ∀ (q : Str) (cl : List (Str × Addr)) (pm cv ctv u : Value) (D : Addr) (doc : Value), ∃ k, bindArgs (PySem.W.kdv_fn "<lambda>" q params (.expr body) scope cl (.ref D) doc pm cv ctv) ⟨[], []⟩ = seqItems? (.ref D) >>= k ∧ k (some #[u]) = pure [(par, u)])
    (hb : ∀ (A : Around) (outer : List Env) (s : Shared) (H : Hp) (E : XK) (f c : Addr), Room k (A.deeper (lamEnv X scope s.heap.objs.size f c)) → PE (lamCx X A outer s H E scope f c) body (t E))
    (h1 : (x == ("__debug__" : Str)) = false := by decide) (h2 : (a == ("__debug__" : Str)) = false := by decide) (h3 : (a == ("__classdict__" : Str)) = false := by decide) : PE X (.Call (.Name x p) [.Lambda params body scope lpos] [] pos) (tLam T TT t) where
  run pins s σ H Q I := by
    rintro ⟨tabs, give⟩
    have arm : wpAny (model X.prog X.w) X.A (eval (.Lambda params body scope lpos) X.env) (fun v s1 => ∃ f d D H1, v = .ref f ∧ Inv X pins σ H1 s1 ∧ ExtN H H1 ∧ Tabs T H1 ∧ H1 d = some (CodeO d (lq X)) ∧ ∃ u, LamAt X H1 s1.heap params body scope u f d D) X.xe s := by
      rw [arm_eval_Lambda, dfs]
      refine wpAny_bind (wpAny_bind (thn (he.run pins s σ H (fun _ G => G = H) I rfl) ?_))
      rintro u s0 ⟨_, _, I0, -, rfl⟩
      refine wpAny_bind (wpAny_holding (wpAny_pure (wpAny_pure (wpAny_bind (wpAny_holding (wpAny_pure ?_))))))
      exact lam_made I0 TB code mem one tabs (L.has I0.ok) kw fun f d D H1 s1 I1 ext tabs1 cod F => ⟨f, d, D, H1, rfl, I1, ext, tabs1, cod, u, F⟩
    refine wpAny_Call_Name_kw (ld_glob I hg hm (PySem.W.callWith_K (h₀ := X.base) I.ok.mod.kin hk ?_ (by rfl) (by rfl)) h1)
    show wpAny _ _ (spliced ((false, eval (.Lambda params body scope lpos) X.env) :: backTo pos (starEach [] X.env))) _ _ s
    refine Calls.spliced_cons (thn arm ?_)
    rintro v s1 ⟨f, d, D, H1, rfl, I1, ext, tabs1, cod, u, F⟩
    refine Calls.spliced_nil ⟨I1.kIn, call_ends (CX := C8.CX0) (E := C8.E0) I1 pass0 (run_ofS (N := Ng) (ps := [a]) (us := [.ref f]) (vs := [.ref f]) lk cg Sg room I1.env0 (bs s1 [.ref f] I1.kIn rfl) (.cons rfl .nil) rfl fun room1 => ?_)⟩
    obtain ⟨t1, ps1, rd1⟩ := hG f d s1 H1 Q (fun E G Q' => t E σ G Q') (fun W pn xe E p1 p2 tk up => pe_actD rfl I1 L F (fun doc pm ct => binds _ _ pm _ ct u D doc) tk up room1 (fun A outer s H r => hb A outer s H E f d r) hNg vis h2 h3) cod (give H1 ext tabs1)
    exact ⟨t1, ps1.nox, rd1⟩
end
end LamX

/-! t[::-1], t a tuple -/
namespace L2
open PySem PySem.Spec PyProof.Rows
section
variable {prog : Program} {w : World} {A : Around} {E : Value → Shared → Prop} {s : Shared}
theorem adjust_back (n : Nat) : Builtin.Slice.sliceAdjust none none (-1) (n : Int) = ((n : Int) - 1, -1) := by
  unfold Builtin.Slice.sliceAdjust
  simp
theorem places_back (n : Nat) : Builtin.Slice.slicePlaces ((n : Int) - 1) (-1) (-1) = n := by
  unfold Builtin.Slice.slicePlaces
  simp only [show ¬ ((-1 : Int) > 0) by decide, if_false, show (- -1 : Int) = 1 by decide, Int.ediv_one]
  split <;> omega
theorem pick_back (xs : Array Value) : ((List.range xs.size).filterMap fun (k : Nat) => xs[(((xs.size : Int) - 1) + (k : Int) * -1).toNat]?).toArray = xs.toList.reverse.toArray := by
  rw [← PySem.W.krv_pick]
  unfold slicePick
  rw [PySem.W.krv_bounds]
  show _ = ((sliceRange ((xs.size : Int) - 1) (-1) (-1)).filterMap (xs[·]?)).toArray
  rw [PySem.W.krv_sliceRange, List.filterMap_map]
  have same : ∀ l : List Nat, (∀ k ∈ l, k < xs.size) → l.filterMap (fun (k : Nat) => xs[(((xs.size : Int) - 1) + (k : Int) * -1).toNat]?) = l.filterMap ((fun x => xs[x]?) ∘ fun k => xs.size - 1 - k) := by
    intro l
    induction l with
    | nil => exact fun _ => rfl
    | cons k l more =>
      intro h
      have hk := h k List.mem_cons_self
      rw [List.filterMap_cons, List.filterMap_cons, more fun j hj => h j (.tail _ hj), show (((xs.size : Int) - 1) + (k : Int) * -1).toNat = xs.size - 1 - k by omega]
      rfl
  rw [same _ fun k hk => List.mem_range.mp hk]
theorem getItem_tuple_back {t sl : Addr} {items : Array Value} {vl vu vs : Value} {Q : Value → Shared → Prop} (ht : IsTup s.heap t items) (hs : s.heap.IsSliceOf sl vl vu vs) (pl : IsPart vl none) (pu : IsPart vu none) (ps : IsPart vs (some (-1)))
    (h : Q (.ref s.heap.objs.size) { s with heap := s.heap.push { cls := .type "tuple", data := .seq items.toList.reverse.toArray } }) (hsz : items.size ≤ sizeLine) : wpAny (model prog w) A (getItem (.ref t) (.ref sl)) Q E s := by
  have fit : sizeOk (.seq items.toList.reverse.toArray) := by
    show items.toList.reverse.toArray.size ≤ sizeLine
    rwa [List.size_toArray, List.length_reverse, Array.length_toList]
  obtain ⟨os, gos, gcs, gds⟩ := id hs
  have tys : s.TypeIs (.ref sl) "slice" := ⟨os, gos, gcs⟩
  unfold getItem
  try with_reducible refine wpAny_holding ?_
  first | refine wpAny_bind (wpAny_pure ?_) | skip
  refine wpAny_bind (wpAny_sequenceKey ht.typeIs (by decide) ?_)
  refine wpAny_bind (wpAny_callSpecial?_slot (name := Str.ofString "__getitem__") ht.typeIs PyProof.Rows.slot_tuple_getitem (wpAny_call_entry PyProof.Rows.slot_tuple_getitem ht.typeIs entry_tuple_getitem ?_ (args_tuple_getitem _ _)))
  show wpAny _ _ (Builtin.Tuple.tupleItemsOf (.ref t) >>= _) _ _ s
  refine wpAny_bind (tupleItemsOf_ ht (wpAny_bind (wpAny_typeOf tys ?_)))
  rw [if_pos (by decide)]
  refine wpAny_bind (m := Builtin.Slice.sliceApplied (.ref sl) (pure ((items.size : Nat) : Int))) ?_
  unfold Builtin.Slice.sliceApplied Builtin.Slice.sliceFields
  refine wpAny_bind (wpAny_bind (wpAny_field gos gds (x := vl) rfl (wpAny_bind (wpAny_field gos gds (x := vu) rfl (wpAny_bind (wpAny_field gos gds (x := vs) rfl (wpAny_pure ?_)))))))
  refine wpAny_bind (HT.slicePart_ ps ?_)
  refine wp_if_neg (by decide) ?_
  refine wpAny_bind (HT.slicePart_ pl (wpAny_bind (HT.slicePart_ pu (wpAny_bind (wpAny_pure ?_)))))
  show wpAny _ _ (match Builtin.Slice.sliceAdjust none none (-1) (items.size : Int) with | (lo, hi) => pure (lo, (-1 : Int), Builtin.Slice.slicePlaces lo hi (-1))) _ _ s
  rw [adjust_back]
  show wpAny _ _ (pure ((items.size : Int) - 1, (-1 : Int), Builtin.Slice.slicePlaces ((items.size : Int) - 1) (-1) (-1))) _ _ s
  rw [places_back]
  refine wpAny_pure ?_
  dsimp only
  refine wp_if_neg (by simp) ?_
  rw [pick_back]
  first
    | exact wpAny_bind (m := Builtin.Tuple.tupleExact _) (wpAny_newObj_type (wpAny_pure ⟨_, rfl, wpAny_pure h⟩) fit)
    | exact wpAny_bind (m := Builtin.Tuple.tupleExact _) (wpAny_newObj_type (wpAny_bind (wpAny_pure (wpAny_pure ⟨_, rfl, wpAny_pure h⟩))) fit)
    | exact wpAny_bind (wpAny_bind (m := Builtin.Tuple.tupleExact _) (wpAny_newObj_type (wpAny_pure (wpAny_pure ⟨_, rfl, wpAny_pure h⟩)) fit))
    | exact wpAny_bind (wpAny_bind (m := Builtin.Tuple.tupleExact _) (wpAny_newObj_type (wpAny_pure ⟨_, rfl, wpAny_pure h⟩) fit))
end
section
variable {X : Cx}
def tRevT (K : PySem.W.Frag) (te : TE) : TE := fun σ H Q => te σ H fun x H1 => ∃ a xs, x = .ref a ∧ SqT K H1 a xs ∧ ∀ p, H1 p = none → Q (.ref p) (upd H1 p (.tup xs.reverse))
theorem pe_revT {e : Expr} {te : TE} {k : Nat} {p1 p2 p3 pos : Pos} (he : PE X e te) : PE X (.Subscript e (.Slice none none (some (.UnaryOp .USub (.Constant (.int 1) k p1) p2)) p3) pos) (tRevT X.K te) := by
  refine ⟨fun pins s σ H Q I h => ?_⟩
  refine Subscript_ (thn (he.run pins s σ H _ I h) fun v s1 ⟨x, H1, I1, r1, q1⟩ => ?_)
  obtain ⟨a, xs, rfl, hx, q⟩ := q1
  cases r1
  have back : PO X (some (.UnaryOp .USub (.Constant (.int 1) k p1) p2)) (tPart (tUn (rU fun i => .int (-i)) (tC (.int 1)))) := po_some (pe_un un_neg pe_int)
  refine wpAny_Slice (thn (po_none.run pins s1 σ H1 (fun o H2 => o = none ∧ H2 = H1) I1 ⟨rfl, rfl⟩) fun vl s2 ⟨l, H2, I2, pl, el, e2⟩ => ?_)
  subst el e2
  refine thn (po_none.run pins s2 σ H2 (fun o H3 => o = none ∧ H3 = H2) I2 ⟨rfl, rfl⟩) fun vu s3 ⟨u, H3, I3, pu, eu, e3⟩ => ?_
  subst eu e3
  refine thn (back.run pins s3 σ H3 (fun o H4 => o = some (-1) ∧ H4 = H3) I3 ⟨1, rfl, -1, rfl, rfl, rfl⟩) fun vs s4 ⟨o, H4, I4, ps, eo, e4⟩ => ?_
  subst eo e4
  have I5 : Inv X pins σ H4 { s4 with heap := s4.heap.push { cls := .type "slice", data := .fields #[vl, vu, vs] } } := I4.kept (t' := s4.toks) fun b ob q => Heap.get?_push_of_some _ q
  obtain ⟨its, r, ht, hz⟩ := I5.tuple hx
  show wpAny (model X.prog X.w) X.A (subscriptTail e (.Slice none none (some (.UnaryOp .USub (.Constant (.int 1) k p1) p2)) p3) (.ref a) (.ref s4.heap.objs.size)) (EP X pins σ Q) X.xe { s4 with heap := s4.heap.push { cls := .type "slice", data := .fields #[vl, vu, vs] } }
  refine tail_any (ops := [.ref a, .ref s4.heap.objs.size]) ht.typeIs PyProof.Rows.slot_tuple_getitem.lookup ?_ (by with_unfolding_all rfl)
  have hlen := r.length
  refine getItem_tuple_back ht (Heap.IsSliceOf.new _ vl vu vs) pl pu ps ?_ (by rw [List.size_toArray]; omega)
  refine ⟨.ref _, _, I5.laid (t' := s4.toks) (o := .tup xs.reverse) (fun b ob q => Heap.get?_push_of_some _ q) (Nat.le_refl _) ?_, rfl, q _ (I5.hok.fresh (Nat.le_refl _))⟩
  exact ⟨by rw [List.length_reverse]; exact hz, _, r.reverse, IsTup.new _ _⟩
end
end L2

namespace Half
open PySem PySem.Spec PyProof.Rows L2
/-! ### data of texts, numbers and tuples -/
mutual
inductive TD (K : PySem.W.Frag) (H : Hp) : V → PyData → Prop
  | bl (b : Bool) : TD K H (.bl b) (.bool b)
  | int (i : Int) : TD K H (.int i) (.int i)
  | str (x : Str) : TD K H (.str x) (.str x)
  | tup {a : Addr} {xs : List V} {ds : List PyData} : SqT K H a xs → TDAll K H xs ds → TD K H (.ref a) (.tuple ds)
inductive TDAll (K : PySem.W.Frag) (H : Hp) : List V → List PyData → Prop
  | nil : TDAll K H [] []
  | cons {v : V} {vs : List V} {d : PyData} {ds : List PyData} : TD K H v d → TDAll K H vs ds → TDAll K H (v :: vs) (d :: ds)
end
/-- every tuple stands -/
def Kp (K : PySem.W.Frag) (H H' : Hp) : Prop := ∀ a xs, SqT K H a xs → SqT K H' a xs
theorem _root_.L2.Same.kp {K : PySem.W.Frag} {H H' : Hp} (s : Same H H') : Kp K H H' := fun _ _ h => s.sqT h
theorem Kp.refl {K : PySem.W.Frag} {H : Hp} : Kp K H H := fun _ _ h => h
theorem Kp.trans {K : PySem.W.Frag} {H H1 H2 : Hp} (a : Kp K H H1) (b : Kp K H1 H2) : Kp K H H2 := fun _ _ h => b _ _ (a _ _ h)
theorem Kp.upd {K : PySem.W.Frag} {H : Hp} {p : Addr} {o u : HO} (hp : H p = some o) (h1 : ∀ xs, o ≠ .tup xs) (h2 : ∀ q xs, o ≠ .frz q (.tup xs)) : Kp K H (L2.upd H p u) := fun a xs h => by
  rcases h with (h | ⟨q, h⟩) | h
  · exact .inl (.inl (by rw [upd_ne (ne_of h hp (fun z => h1 _ z.symm))]; exact h))
  · exact .inl (.inr ⟨q, by rw [upd_ne (ne_of h hp (fun z => h2 _ _ z.symm))]; exact h⟩)
  · exact .inr h
mutual
theorem TD.kp {K : PySem.W.Frag} {H H' : Hp} (k : Kp K H H') : ∀ {v : V} {d : PyData}, TD K H v d → TD K H' v d
  | _, _, .bl b => .bl b
  | _, _, .int i => .int i
  | _, _, .str x => .str x
  | _, _, .tup h hs => .tup (k _ _ h) (TDAll.kp k hs)
theorem TDAll.kp {K : PySem.W.Frag} {H H' : Hp} (k : Kp K H H') : ∀ {vs : List V} {ds : List PyData}, TDAll K H vs ds → TDAll K H' vs ds
  | _, _, .nil => .nil
  | _, _, .cons h hs => .cons (TD.kp k h) (TDAll.kp k hs)
end
mutual
theorem TD.dp {K : PySem.W.Frag} {H : Hp} : ∀ {v : V} {d : PyData}, TD K H v d → Dp K H v d
  | _, _, .bl b => .bl b
  | _, _, .int i => .int i
  | _, _, .str x => .str x
  | _, _, .tup h hs => .tup h (TDAll.dp hs)
theorem TDAll.dp {K : PySem.W.Frag} {H : Hp} : ∀ {vs : List V} {ds : List PyData}, TDAll K H vs ds → DpAll K H vs ds
  | _, _, .nil => .nil
  | _, _, .cons h hs => .cons (TD.dp h) (TDAll.dp hs)
end
theorem TDAll.len {K : PySem.W.Frag} {H : Hp} : ∀ {vs : List V} {ds : List PyData}, TDAll K H vs ds → vs.length = ds.length
  | _, _, .nil => rfl
  | _, _, .cons _ hs => congrArg Nat.succ hs.len
theorem TDAll.strs {K : PySem.W.Frag} {H : Hp} : ∀ {vs : List V} {ss : List Str}, TDAll K H vs (ss.map PyData.str) → vs = ss.map V.str
  | _, [], h => by cases h; rfl
  | _, z :: ss, h => by
    cases h with
    | cons h hs =>
      cases h
      rw [TDAll.strs hs]
      rfl
theorem TDAll.pairs {K : PySem.W.Frag} {H : Hp} : ∀ {vs : List V} {ps : List (Str × Int)}, TDAll K H vs (ps.map pairD) → ∃ ts : List Addr, vs = ts.map V.ref ∧ ts.length = ps.length ∧ ∀ (i : Nat) t p, ts[i]? = some t → ps[i]? = some p → SqT K H t [.str p.1, .int p.2]
  | _, [], h => by cases h; exact ⟨[], rfl, rfl, fun i t p h _ => by simp at h⟩
  | _, q :: ps, h => by
    cases h with
    | cons h hs =>
      obtain ⟨ts, rfl, hl, ht⟩ := TDAll.pairs hs
      cases h with
      | @tup a xs ds hq hd =>
        cases hd with
        | cons h1 hd =>
          cases hd with
          | cons h2 hd =>
            cases hd
            cases h1
            cases h2
            refine ⟨a :: ts, rfl, by simp [hl], fun i t p e1 e2 => ?_⟩
            cases i with
            | zero =>
              have z1 : a = t := by simpa using e1
              have z2 : q = p := by simpa using e2
              subst z1 z2
              exact hq
            | succ i => exact ht i t p (by simpa using e1) (by simpa using e2)
theorem TD.strs {K : PySem.W.Frag} {H : Hp} {v : V} {ss : List Str} (h : TD K H v (.tuple (ss.map PyData.str))) : ∃ a, v = .ref a ∧ SqT K H a (ss.map V.str) := by
  cases h with
  | tup hq hd =>
    rw [hd.strs] at hq
    exact ⟨_, rfl, hq⟩
theorem TD.needs {K : PySem.W.Frag} {H : Hp} {v : V} {ps : List (Str × Int)} (h : TD K H v (.tuple (ps.map pairD))) : ∃ a, v = .ref a ∧ NeedsAt K H a ps := by
  cases h with
  | tup hq hd =>
    obtain ⟨ts, rfl, hl, ht⟩ := hd.pairs
    exact ⟨_, rfl, ts, hq, hl, ht⟩
/-! ### displays of written data -/
def Y (K : PySem.W.Frag) (t : TE) (d : PyData) : Prop := ∀ σ H Q, (∀ v H', Same H H' → TD K H' v d → Q v H') → t σ H Q
def YA (K : PySem.W.Frag) (t : TA) (ds : List PyData) : Prop := ∀ σ H Q, (∀ vs H', Same H H' → TDAll K H' vs ds → Q vs H') → t σ H Q
section
variable {K : PySem.W.Frag}
theorem Y.str {z : Str} : Y K (tC (.str z)) (.str z) := fun _ H _ h => h _ H (Same.refl H) (.str z)
theorem Y.int {i : Int} : Y K (tC (.int i)) (.int i) := fun _ H _ h => h _ H (Same.refl H) (.int i)
theorem Y.bl {b : Bool} : Y K (tC (.bl b)) (.bool b) := fun _ H _ h => h _ H (Same.refl H) (.bl b)
theorem YA.nil : YA K tNil [] := fun _ H _ h => h _ H (Same.refl H) .nil
theorem YA.cons {t : TE} {ts : TA} {d : PyData} {ds : List PyData} (a : Y K t d) (b : YA K ts ds) : YA K (tCons t ts) (d :: ds) := fun σ H Q h =>
  a σ H _ fun v H1 s1 t1 => b σ H1 _ fun vs H2 s2 t2 => h (v :: vs) H2 (s1.trans s2) (.cons (t1.kp s2.kp) t2)
theorem Y.tup {ta : TA} {ds : List PyData} (a : YA K ta ds) (hl : ds.length ≤ 100 := by simp) : Y K (tTup ta) (.tuple ds) := fun σ H Q h =>
  a σ H _ fun vs H1 s1 t1 => ⟨by rw [t1.len, sizeLine_eq]; omega, fun p hp => h (.ref p) _ (s1.trans (Same.upd_new hp)) (.tup (.inl (.inl upd_same)) (t1.kp (Same.upd_new hp).kp))⟩
end
/-! ### d[k] = v as a target -/
theorem set_dict {X : Cx} (hu : X.A.units + 1 < cLine) : PSet X (fun o i v H Q => ∃ a H4, o = .ref a ∧ DPut H a i v H4 ∧ Q H4) := by
  intro pins s σ H o i v ov iv u Q I ro ri rv h
  obtain ⟨a, H4, rfl, g, q⟩ := h
  cases ro
  exact d_setItem hu I g ri rv fun s4 I4 => ⟨H4, I4, q⟩
/-! ### one of a list, drawn -/
def spPick (K : PySem.W.Frag) : Sp := fun vs H Q _ => ∃ (r l : Addr) (xs : List V) (a : Addr), vs = [.ref r, .ref l] ∧ Row K H r a ∧ SqL K H l xs ∧ r ≠ l ∧ 0 < xs.length ∧ xs.length ≤ 1000 ∧
  ∀ (i : Nat) (x : V) (o : HO), xs[i]? = some x → Row K (upd H r o) r a → Q x (upd H r o)
section
variable {P : Program} {w : World} {K : PySem.W.Frag} {mg : Str → Option Value} {base : Heap}
theorem scPick : FnScope ["_law_row", "_law_some"] ["_law_row", "_law_some"] (defScope sPick) := ⟨rfl, rfl, rfl, by decide +kernel, rfl, by decide +kernel, by decide +kernel⟩
theorem ok_pick {f : Addr} {fd : FuncData} (F : Fun K "_law_pick" "_law_pick" sPick f fd) (T : TxtD mg) (dT : Def P w K mg base 1 "_law_taken" ["_law_row", "_law_many"] (spTaken K)) : FnOk P w K mg base CX0 2 f fd ["_law_row", "_law_some"] (spPick K) := by
  refine F.ok scPick (fun vs H Q E h => ?_) (fun cdv A outer s H vs Q E hr h => ?_)
  · obtain ⟨r, l, xs, a, rfl, _⟩ := h
    rfl
  · obtain ⟨r, l, xs, a, rfl, hR, hS, hne, h0, h1, k⟩ := h
    refine ⟨_, pss_one (ps_ret (pe_ix ix_list (pv 1) (pe_def dT hr rfl (pa_cons (pv 0) (pa_cons (pe_callB call_len_seq (by rfl) T.len PySem.boot_len (pa_cons (pv 1) pa_nil)) pa_nil))) (fun _ _ => rfl))), ?_⟩
    refine ⟨_, rfl, _, rfl, _, rfl, l, xs, rfl, .inl hS, r, _, a, rfl, hR, by omega, by omega, fun v o hv0 hv1 hR' => ?_⟩
    have hi : v.toNat < xs.length := by omega
    refine ⟨l, xs, v, _, rfl, rfl, seqNe hS hne, ?_, k v.toNat _ o (List.getElem?_eq_getElem hi) hR'⟩
    have e : atI xs ((v.toNat : Nat) : Int) = some xs[v.toNat] := atI_nat (List.getElem?_eq_getElem hi)
    rwa [show ((v.toNat : Nat) : Int) = v by omega] at e
end
end Half

namespace Half
open PySem PySem.Spec PyProof.Rows L2
abbrev EiPs : List Str := ["self", "name", "version", "scripts", "needs", "first", "against"]
/-- Edition's __init__ as the top has made it, with its defaults -/
structure EdF (P : Program) (w : World) (K : PySem.W.Frag) (mg : Str → Option Value) (base : Heap) (C CE : Addr) (f : Addr) (fd : FuncData) (aS z1 z2 z3 : Addr) : Prop where
  ok : FnOk P w K mg base (L2.CX P w) 6 f fd EiPs (spEi K C CE)
  fn : FunD K "__init__" "Edition.__init__" (defArgs sEi) (defBody sEi) (defScope sEi) [] [("scripts", .ref aS), ("needs", .ref z1), ("first", .ref z2), ("against", .ref z3)] f fd
  make : Mk K C f
  mgC : mg "Edition" = some (.ref C)
  tS : ∀ H, SqT K H aS (SCR.map V.str)
  t1 : ∀ H, SqT K H z1 []
  t2 : ∀ H, SqT K H z2 []
  t3 : ∀ H, SqT K H z3 []
section
variable {P : Program} {w : World} {K : PySem.W.Frag} {mg : Str → Option Value} {base : Heap} {C CE : Addr} {f : Addr} {fd : FuncData} {aS z1 z2 z3 : Addr}
theorem EdF.kb4 (D : EdF P w K mg base C CE f fd aS z1 z2 z3) : ∃ g, KBn K fd EiPs 3 ["scripts", "needs", "first", "against"] g (fun vs zs => vs ++ zs) := by
  obtain ⟨mv, h⟩ := D.fn.kbinds0 (ps := EiPs) 3 ["scripts", "needs", "first", "against"] [] (fun us _ ws => us ++ ws) (by simp) (fun q h => by cases h) (fun r1 _ r3 => r1.append r3)
    (fun D doc pm an cdv ct us mv ws h1 h2 h3 => match us, ws, h1, h3 with | [_, _, _], [_, _, _, _], _, _ => rfl)
  exact ⟨_, h⟩
theorem EdF.kb1 (D : EdF P w K mg base C CE f fd aS z1 z2 z3) : ∃ g, KBn K fd EiPs 3 ["scripts"] g (fun vs zs => vs ++ zs ++ [.ref z1, .ref z2, .ref z3]) := by
  obtain ⟨mv, h⟩ := D.fn.kbinds0 (ps := EiPs) 3 ["scripts"] [("needs", .ref z1), ("first", .ref z2), ("against", .ref z3)] (fun us mv ws => us ++ ws ++ mv) (by simp) (fun q h => List.mem_cons_of_mem _ h) (fun r1 r2 r3 => (r1.append r3).append r2)
    (fun D doc pm an cdv ct us mv ws h1 h2 h3 => match us, mv, ws, h1, h2, h3 with | [_, _, _], [_, _, _], [_], _, _, _ => ⟨_, _, _, _, _, _, rfl, rfl, _, _, _, _, _, _, rfl, rfl, _, _, _, _, _, _, rfl, rfl, rfl⟩)
  exact ⟨_, h⟩
theorem EdF.b0 (D : EdF P w K mg base C CE f fd aS z1 z2 z3) : ∃ ds, Vals [.ref aS, .ref z1, .ref z2, .ref z3] ds ∧ Binds K fd EiPs ds :=
  D.fn.binds0 (ps := EiPs) 3 (by simp) rfl (fun D doc pm an cdv ct us ks h1 h2 => match us, ks, h1, h2 with | [_, _, _], [_, _, _, _], _, _ => ⟨_, _, _, _, _, _, rfl, rfl, _, _, _, _, _, _, rfl, rfl, _, _, _, _, _, _, rfl, rfl, _, _, _, _, _, _, rfl, rfl, rfl⟩)
end
end Half

namespace Half
open PySem PySem.Spec PyProof.Rows L2
/-- a property -/
structure Prp (P : Program) (w : World) (K : PySem.W.Frag) (mg : Str → Option Value) (base : Heap) (C : Addr) (x : Str) (i : Nat) : Prop where
  ex : ∃ p g fd, PropOf K C x p g ∧ FnOk P w K mg base CX0 1 g fd ["self"] (spGet C i) ∧ Binds K fd ["self"] []
theorem pe_prp {X : Cx} {C : Addr} {x : Str} {i : Nat} {e : Expr} {pos : Pos} {ta : TE} (D : Prp X.prog X.w X.K X.mg X.base C x i) (cl : Cls X.K C) (hr : Room 2 X.A) (he : PE X e ta) (hab : attributeBase e x X.env (eval e X.env) = eval e X.env := by rfl) :
    PE X (.Attribute e x pos) (tProp C (spGet C i) [] E0 ta) := by
  obtain ⟨p, g, fd, h1, h2, h3⟩ := D.ex
  exact pe_prop he cl h1 h2 hr h3 .nil pass0 hab
/-- == of editions -/
structure EqF (P : Program) (w : World) (K : PySem.W.Frag) (mg : Str → Option Value) (base : Heap) (C : Addr) : Prop where
  ex : ∃ f fd, FnOk P w K mg base CX0 1 f fd ["self", "other"] (spEq K C) ∧ OwnEqC K C f ∧ Binds K fd ["self", "other"] []
theorem op_eqE {X : Cx} {C : Addr} (D : EqF X.prog X.w X.K X.mg X.base C) (hr : Room 2 X.A) : OpR X (compareOp .Eq) (rEqO C (spEq X.K C) id) := by
  obtain ⟨f, fd, h1, h2, h3⟩ := D.ex
  exact op_eqO h1 h2 h3 (hr.mono (by decide))
theorem op_neE {X : Cx} {C : Addr} (D : EqF X.prog X.w X.K X.mg X.base C) (hr : Room 2 X.A) : OpR X (compareOp .NotEq) (rEqO C (spEq X.K C) not) := by
  obtain ⟨f, fd, h1, h2, h3⟩ := D.ex
  exact op_neO h1 h2 h3 hr
/-- all that the law asks of Edition -/
structure EdAll (P : Program) (w : World) (K : PySem.W.Frag) (mg : Str → Option Value) (base : Heap) (C CE : Addr) : Prop where
  ei : ∃ f fd aS z1 z2 z3, EdF P w K mg base C CE f fd aS z1 z2 z3
  eq : EqF P w K mg base C
  cl : Cls K C
  p0 : Prp P w K mg base C "name" 0
  p1 : Prp P w K mg base C "version" 1
  p2 : Prp P w K mg base C "scripts" 2
  p3 : Prp P w K mg base C "needs" 3
  p4 : Prp P w K mg base C "first" 4
  p5 : Prp P w K mg base C "against" 5
theorem EdIs.ins {K : PySem.W.Frag} {H : Hp} {C a : Addr} {e : Ed} (h : EdIs K H C a e) : ∃ dx fs, H a = some (.ins C dx fs) := by
  obtain ⟨⟨s, n, f, g, ⟨dx, p, h1, h2⟩, h3⟩, _⟩ := h
  exact ⟨dx, _, h1⟩
/-- how a == b of editions is read -/
theorem eqO_read {K : PySem.W.Frag} {H : Hp} {C a b : Addr} {e e' : Ed} {fl : Bool → Bool} {Q : VK} (h1 : EdIs K H C a e) (h2 : EdIs K H C b e') (q : Q (.bl (fl (PyData.eqv e.data e'.data))) H) : rEqO C (spEq K C) fl (.ref a) (.ref b) H Q := by
  obtain ⟨dx, fs, ha⟩ := h1.ins
  obtain ⟨dy, gs, hb⟩ := h2.ins
  exact ⟨a, b, dx, dy, fs, gs, rfl, rfl, ha, hb, a, b, e, e', rfl, h1, h2, _, rfl, q⟩
/-- an edition with nothing but its name and version -/
def edP (nm : Str) (v : Int) : Ed := ⟨nm, .int v, SCR, [], [], []⟩
theorem edP_ok {nm : Str} {v : Int} (h1 : isWord nm = true) (h2 : 1 ≤ v) (h3 : v ≤ 99) : (edP nm v).wrong = none := by
  have a1 : inR (.int v) 1 99 = true := by show (decide (1 ≤ v) && decide (v ≤ 99)) = true; rw [decide_eq_true h2, decide_eq_true h3]; rfl
  have a2 : areScripts SCR = true := by decide +kernel
  have a3 : areNeeds [] nm = true := by rfl
  have a4 : areOthers [] nm = true := by rfl
  unfold Ed.wrong Ed.checks edP
  simp only [h1, a1, a2, a3, a4]
  rfl
theorem edP_small {nm : Str} {v : Int} (h : nm.length ≤ 1000) : (edP nm v).Small := ⟨h, .inl ⟨v, rfl⟩, (by decide : SCR.length ≤ 100), ⟨Nat.zero_le _, fun p hp => by cases hp⟩, ⟨Nat.zero_le _, fun p hp => by cases hp⟩, ⟨Nat.zero_le _, fun p hp => by cases hp⟩⟩
theorem NeedsAt.nil {K : PySem.W.Frag} {H : Hp} {a : Addr} (h : SqT K H a []) : NeedsAt K H a [] := ⟨[], h, rfl, fun i t p h _ => by simp at h⟩
theorem ite_no {b : Bool} {A B : Prop} (hb : b = false) (h : B) : if b = true then A else B := by
  rw [hb]
  exact iteF h
theorem ite_yes {b : Bool} {A B : Prop} (hb : b = true) (h : A) : if b = true then A else B := by
  rw [hb]
  exact iteT h
/-- an edition is made that has nothing wrong -/
theorem mk_read {K : PySem.W.Frag} {H : Hp} {C CE x dx s n f g : Addr} {e : Ed} {Q : Hp → Prop} {E : XK} (nx : H x = none) (ndx : H dx = none) (hE : EdAt K H e s n f g) (sm : e.Small) (hw : e.wrong = none) (k : ∀ H', Same H H' → EdObj K H' C x e s n f g → Q H') :
    spEi K C CE [.ref x, .str e.name, e.version, .ref s, .ref n, .ref f, .ref g] (upd (upd H dx (.own x)) x (.ins C dx [])) (fun v H3 => v = .non ∧ Q H3) E := by
  have sx : Same H (upd (upd H dx (.own x)) x (.ins C dx [])) := fun b o q => by
    rw [upd_ne (ne_of_none q nx), upd_ne (ne_of_none q ndx)]
    exact q
  refine ⟨x, dx, e, s, n, f, g, rfl, upd_same, hE.same sx, sm, fun _ H' sb ho => ⟨rfl, k H' (fun b o q => sb _ _ (ne_of_none q nx) (sx _ _ q)) ho⟩, fun p hp => ?_⟩
  rw [hw] at hp
  cases hp
theorem edP_is {K : PySem.W.Frag} {H : Hp} {C a s n f g : Addr} {nm : Str} {v : Int} (h : EdObj K H C a (edP nm v) s n f g) (hs : PyData.strOk nm = true) : EdIs K H C a (edP nm v) := by
  refine ⟨⟨s, n, f, g, h⟩, .inl ⟨v, rfl⟩, ?_⟩
  have a1 : PyData.strOk "clean" = true := by decide +kernel
  have a2 : PyData.strOk "enter" = true := by decide +kernel
  have a3 : PyData.strOk "leave" = true := by decide +kernel
  have a4 : PyData.strOk "setup" = true := by decide +kernel
  simp [SeqAt.shaped, edP, Ed.data, verD, SCR, PyData.canLay0, PyData.canLayAll0, PyData.depth, PyData.depthAll, hs, a1, a2, a3, a4]
end Half

namespace Half
open PySem PySem.Spec PyProof.Rows L2
/-! ### different ones, in the order in which they are met -/
section
variable {α : Type} [DecidableEq α]
def has (l : List α) (x : α) : Bool := l.any fun y => decide (y = x)
theorem has_iff {l : List α} {x : α} : has l x = true ↔ x ∈ l := by
  unfold has
  rw [List.any_eq_true]
  exact ⟨fun ⟨y, h, e⟩ => of_decide_eq_true e ▸ h, fun h => ⟨x, h, decide_eq_true rfl⟩⟩
theorem has_no {l : List α} {x : α} (h : x ∉ l) : has l x = false := by
  cases e : has l x
  · rfl
  · exact absurd (has_iff.mp e) h
theorem not_has {l : List α} {x : α} (h : has l x = false) : x ∉ l := fun m => by
  rw [has_iff.mpr m] at h
  exact nomatch h
def dstep (acc : List α) (x : α) : List α := if has acc x = true then acc else acc ++ [x]
def dset (l : List α) : List α := l.foldl dstep []
theorem dset_snoc (l : List α) (x : α) : dset (l ++ [x]) = dstep (dset l) x := by
  unfold dset
  rw [List.foldl_append]
  rfl
theorem snoc_ind {p : List α → Prop} (h0 : p []) (h1 : ∀ l x, p l → p (l ++ [x])) (l : List α) : p l := by
  have key : ∀ n (l : List α), l.length = n → p l := by
    intro n
    induction n with
    | zero => intro l e; rw [List.eq_nil_of_length_eq_zero e]; exact h0
    | succ n ih =>
      intro l e
      have hne : l ≠ [] := fun z => by rw [z] at e; cases e
      rw [← List.dropLast_concat_getLast hne]
      exact h1 _ _ (ih _ (by rw [List.length_dropLast, e]; rfl))
  exact key _ l rfl
theorem mem_dstep {acc : List α} {x y : α} : y ∈ dstep acc x ↔ y ∈ acc ∨ y = x := by
  unfold dstep
  split
  · rename_i h
    exact ⟨.inl, fun z => z.elim id fun e => e ▸ has_iff.mp h⟩
  · rw [List.mem_append, List.mem_singleton]
theorem mem_dset (l : List α) (y : α) : y ∈ dset l ↔ y ∈ l := by
  induction l using snoc_ind with
  | h0 => simp [dset]
  | h1 l x ih => rw [dset_snoc, mem_dstep, ih, List.mem_append, List.mem_singleton]
theorem dset_nodup (l : List α) : (dset l).Nodup := by
  induction l using snoc_ind with
  | h0 => exact .nil
  | h1 l x ih =>
    rw [dset_snoc]
    unfold dstep
    split
    · exact ih
    · rename_i h
      refine List.nodup_append.mpr ⟨ih, List.nodup_cons.mpr ⟨by simp, .nil⟩, fun a ha b hb e => ?_⟩
      rw [List.mem_singleton.mp hb] at e
      subst e
      exact h (has_iff.mpr ha)
def nd (l : List α) : Nat := (dset l).length
theorem nd_snoc (l : List α) (x : α) : nd (l ++ [x]) = if has l x = true then nd l else nd l + 1 := by
  unfold nd
  rw [dset_snoc]
  unfold dstep
  have e : has (dset l) x = has l x := by
    cases q : has l x
    · exact has_no fun z => not_has q ((mem_dset l x).mp z)
    · exact has_iff.mpr ((mem_dset l x).mpr (has_iff.mp q))
  rw [e]
  split <;> simp
theorem nd_le (l : List α) : nd l ≤ l.length := by
  induction l using snoc_ind with
  | h0 => exact Nat.le_refl _
  | h1 l x ih =>
    rw [nd_snoc, List.length_append, List.length_singleton]
    split <;> omega
theorem nd_perm {l m : List α} (hm : m.Nodup) (h : ∀ x, x ∈ m ↔ x ∈ l) : m.length = nd l :=
  ((List.perm_ext_iff_of_nodup hm (dset_nodup l)).mpr fun x => (h x).trans (mem_dset l x).symm).length_eq
end
/-! ### a store's editions -/
abbrev Kk : Type := Str × Int
/-- the i-th key stands before, its name is one too many, or it stands too late -/
def badB (ks : List Kk) (i : Nat) : Bool := match ks[i]? with
  | none => false
  | some k => has (ks.take i) k || (decide (4 < nd ((ks.take (i + 1)).map (·.1))) || decide (12 ≤ i))
def wrongAt (ks : List Kk) : Option Nat := if ks.isEmpty = true then some 0 else (List.range ks.length).find? (badB ks)
/-- as the law says it -/
def lawB (ks : List Kk) (i : Nat) : Bool := match ks[i]? with
  | none => false
  | some k => has (ks.take i) k || (decide (i = 12) || (!has ((ks.take i).map (·.1)) k.1 && decide (nd ((ks.take i).map (·.1)) = 4)))
theorem take_snoc {α : Type} {l : List α} {i : Nat} {x : α} (h : l[i]? = some x) : l.take (i + 1) = l.take i ++ [x] := take_next h
theorem bad_few {ks : List Kk} : ∀ i, (∀ j, j < i → badB ks j = false) → nd ((ks.take i).map (·.1)) ≤ 4
  | 0, _ => by simp [nd, dset]
  | i + 1, h => by
    cases e : ks[i]? with
    | none =>
      have ih := bad_few i fun j hj => h j (Nat.lt_succ_of_lt hj)
      rw [List.take_of_length_le (Nat.le_succ_of_le (List.getElem?_eq_none_iff.mp e))]
      rwa [List.take_of_length_le (List.getElem?_eq_none_iff.mp e)] at ih
    | some k =>
      have hb := h i (Nat.lt_succ_self _)
      unfold badB at hb
      rw [e] at hb
      simp only [Bool.or_eq_false_iff, decide_eq_false_iff_not] at hb
      omega
theorem bad_law {ks : List Kk} {i : Nat} (h : ∀ j, j < i → badB ks j = false) (hi : i ≤ 12) : badB ks i = lawB ks i := by
  unfold badB lawB
  cases e : ks[i]? with
  | none => rfl
  | some k =>
    have few := bad_few i h
    simp only
    congr 1
    rw [Bool.or_comm]
    congr 1
    · rw [decide_eq_decide]; omega
    · rw [take_snoc e, List.map_append, List.map_singleton, nd_snoc]
      cases has ((ks.take i).map (·.1)) k.1
      · simp only [Bool.false_eq_true, if_false, Bool.not_false, Bool.true_and, decide_eq_decide]; omega
      · simp only [if_true, Bool.not_true, Bool.false_and]
        exact decide_eq_false (by omega)
theorem bad_late {ks : List Kk} {i : Nat} (h1 : i < ks.length) (h2 : 12 ≤ i) : badB ks i = true := by
  unfold badB
  rw [List.getElem?_eq_getElem h1]
  simp [h2]
theorem law_late {ks : List Kk} (h1 : 12 < ks.length) : lawB ks 12 = true := by
  unfold lawB
  rw [List.getElem?_eq_getElem h1]
  simp
/-- the first bad one is the same -/
theorem first_law {ks : List Kk} {i : Nat} (h : ∀ j, j < i → lawB ks j = false) (hi : i ≤ ks.length) : ∀ j, j < i → badB ks j = false := by
  intro j
  induction j using Nat.strongRecOn with
  | ind j ih =>
    intro hj
    have hb : ∀ m, m < j → badB ks m = false := fun m hm => ih m hm (Nat.lt_trans hm hj)
    rcases Nat.lt_or_ge 12 j with c | c
    · have z := h 12 (by omega)
      rw [law_late (by omega)] at z
      exact nomatch z
    · rw [bad_law hb c]
      exact h j hj
theorem first_bad {ks : List Kk} {i : Nat} (h : ∀ j, j < i → badB ks j = false) (hi : i ≤ ks.length) : ∀ j, j < i → lawB ks j = false := by
  intro j hj
  have hb : ∀ m, m < j → badB ks m = false := fun m hm => h m (Nat.lt_trans hm hj)
  rcases Nat.lt_or_ge 12 j with c | c
  · have z := h 12 (by omega)
    rw [bad_late (by omega) (Nat.le_refl _)] at z
    exact nomatch z
  · rw [← bad_law hb c]
    exact h j hj
theorem find_eq {p q : Nat → Bool} {n : Nat} (h1 : ∀ i, i ≤ n → (∀ j, j < i → p j = false) → ∀ j, j < i → q j = false) (h2 : ∀ i, i ≤ n → (∀ j, j < i → q j = false) → ∀ j, j < i → p j = false) : (List.range n).find? p = (List.range n).find? q := by
  cases e : (List.range n).find? p with
  | none =>
    have hp : ∀ j, j < n → p j = false := fun j hj => by simpa using List.find?_eq_none.mp e j (List.mem_range.mpr hj)
    rw [find_range_none q (h1 n (Nat.le_refl _) hp)]
  | some i =>
    have hi : i < n := List.mem_range.mp (List.mem_of_find?_eq_some e)
    have hpi : p i = true := by simpa using List.find?_some e
    have hb : ∀ j, j < i → p j = false := fun j hj => by
      cases c : p j
      · rfl
      · obtain ⟨l1, l2, e1, e2⟩ := (List.find?_eq_some_iff_append.mp e).2
        have hjm : j ∈ List.range n := List.mem_range.mpr (by omega)
        rw [e1] at hjm
        rcases List.mem_append.mp hjm with m | m
        · have z := e2 j m; rw [c] at z; exact nomatch z
        · have srt : (l1 ++ i :: l2).Pairwise (· < ·) := by rw [← e1]; exact List.pairwise_lt_range
          rcases List.mem_cons.mp m with z | z
          · omega
          · have := (List.pairwise_append.mp srt).2.1
            have := List.rel_of_pairwise_cons this z
            omega
    have hq := h1 i (Nat.le_of_lt hi) hb
    have hqi : q i = true := by
      cases c : q i
      · have z := h2 (i + 1) hi (fun j hj => by
          rcases Nat.lt_or_ge j i with m | m
          · exact hq j m
          · rw [show j = i by omega]; exact c) i (Nat.lt_succ_self _)
        rw [hpi] at z
        exact nomatch z
      · rfl
    rw [find_range q hi hqi hq]
theorem wrong_law (ks : List Kk) : wrongAt ks = if ks.isEmpty = true then some 0 else (List.range ks.length).find? (lawB ks) := by
  unfold wrongAt
  split
  · rfl
  · exact find_eq (fun i hi h => first_bad h hi) (fun i hi h => first_law h hi)
/-! ### in order -/
theorem sorted_uniq {α : Type} {le : α → α → Prop} (as : ∀ x y, le x y → le y x → x = y) : ∀ {l m : List α}, l.Pairwise le → m.Pairwise le → l.Perm m → l = m
  | [], m, _, _, p => p.nil_eq
  | x :: l, [], _, _, p => absurd p.length_eq (by simp)
  | x :: l, y :: m, h1, h2, p => by
    have e : x = y := by
      have hx : x ∈ y :: m := p.mem_iff.mp List.mem_cons_self
      have hy : y ∈ x :: l := p.mem_iff.mpr List.mem_cons_self
      rcases List.mem_cons.mp hx with rfl | hx
      · rfl
      · rcases List.mem_cons.mp hy with rfl | hy
        · rfl
        · exact as _ _ (List.rel_of_pairwise_cons h1 hy) (List.rel_of_pairwise_cons h2 hx)
    subst e
    rw [sorted_uniq as (List.pairwise_cons.mp h1).2 (List.pairwise_cons.mp h2).2 (List.Perm.cons_inv p)]
def txLe (x y : Str) : Prop := txLt y x = false
theorem txLe_as (x y : Str) (h1 : txLe x y) (h2 : txLe y x) : x = y := tx_tot h2 h1
theorem txLe_tr {x y z : Str} (h1 : txLe x y) (h2 : txLe y z) : txLe x z := by
  unfold txLe at *
  cases e : txLt z x
  · rfl
  · cases c : txLt x y
    · rw [tx_tot c h1] at e; rw [e] at h2; exact nomatch h2
    · have := tx_tr e c
      rw [h2] at this
      exact nomatch this
theorem rising_pw : ∀ (p : Str) (l : List Str), risingS p l = true → (p :: l).Pairwise txLe
  | p, [], _ => List.pairwise_singleton _ _
  | p, x :: l, h => by
    have h : (!ltCps x.cps.toList p.cps.toList && risingS x l) = true := h
    rw [Bool.and_eq_true, Bool.not_eq_true'] at h
    have ih := rising_pw x l h.2
    have hx : txLe p x := by
      have e := h.1
      rw [ltCps_eq] at e
      exact e
    refine List.pairwise_cons.mpr ⟨fun y hy => ?_, ih⟩
    rcases List.mem_cons.mp hy with rfl | hy
    · exact hx
    · exact txLe_tr hx (List.rel_of_pairwise_cons ih hy)
theorem sortedS_pw : ∀ {l : List Str}, sortedS l = true → l.Pairwise txLe
  | [], _ => .nil
  | x :: l, h => rising_pw x l h
/-- different ones of a list in order are in order -/
theorem dset_sub {α : Type} [DecidableEq α] (l : List α) : (dset l).Sublist l := by
  induction l using snoc_ind with
  | h0 => exact .slnil
  | h1 l x ih =>
    rw [dset_snoc]
    unfold dstep
    split
    · exact ih.trans (List.sublist_append_left _ _)
    · exact ih.append (List.Sublist.refl _)
end Half

namespace Half
open PySem PySem.Spec PyProof.Rows L2
/-! ### InvalidStore -/
abbrev sIs : Stmt := inClass (top 3) 0
def spErrI (C : Addr) (fl : Str) : Sp := fun vs H Q _ => ∃ (a : Addr) (n : Nat), vs = [.ref a, .int n] ∧ H a = some (exo a C none) ∧ n ≤ 1000 ∧
  ∀ dx, H dx = none → dx ≠ a → Q .non (upd (upd H dx (exd dx [(fl, .int n)])) a (exo a C (some dx)))
theorem scIs : SupScope ["self", "index"] ["self", "index"] (defScope sIs) := ⟨rfl, rfl, rfl, by decide +kernel, rfl, by decide +kernel, by decide +kernel, by decide +kernel, rfl, rfl⟩
theorem small_text : ∀ n : Nat, n ≤ 1000 → (Str.ofString (toString (n : Int))).length ≤ 10 ∧ ((n : Int)).natAbs.log2 < 1920 := by
  have key : (List.range 1001).all (fun n => decide ((Str.ofString (toString (n : Int))).length ≤ 10) && decide (((n : Int)).natAbs.log2 < 1920)) = true := by decide +kernel
  intro n hn
  have z := List.all_eq_true.mp key n (List.mem_range.mpr (by omega))
  simpa using z
section
variable {P : Program} {w : World} {K : PySem.W.Frag} {mg : Str → Option Value} {base : Heap}
theorem ok_is {C f : Addr} {fd : FuncData} (F : ErrFn P K C "InvalidStore.__init__" sIs f fd) (T : SupC P K mg C) (nF : PySem.W.findIn K (.ref C) "index" = some none) : FnOk P w K mg base CX0 1 f fd ["self", "index"] (spErrI C "index") := by
  obtain ⟨oc, od, kV, doc, pm, an, cda, cc, ct, osl, ccl, cdd, vsc, ccs, file, tf, cl, cld, csl, rfl, lk, hcd, hcode, hvs, hfile, hcell⟩ := F.ex
  refine fn_sup (N := ["self", "index"]) lk hcd scIs rfl rfl rfl hcode hvs hfile hcell T (fun vs H Q E h => ?_) (fun _ => rfl) (fun _ => rfl) (fun _ => rfl) (fun A outer s H vs Q E hr h => ?_)
  · obtain ⟨a, p, rfl, _⟩ := h
    rfl
  · obtain ⟨a, n, rfl, ha, hn, k⟩ := h
    refine ⟨a, _, _, rfl, ha, pa_cons (pe_joined (.cons pe_str (.cons (pe_fmt (pv 1)) .nil))) pa_nil, pss_one (ps_ost (pv 0) (pv 1)), ?_⟩
    obtain ⟨l1, l2⟩ := small_text n hn
    refine ⟨_, rfl, (by decide), _, rfl, .inr ⟨(n : Int), rfl, l2, _, rfl, ?_, ?_⟩⟩
    · rw [app_len, app_len, sizeLine_eq]
      have : ("no store can be made of these editions, because of index " : Str).length = 57 := by decide
      have e0 : (Str.empty).length = 0 := by decide
      have : (Str.ofString (toString (n : Int))).length ≤ 10 := l1
      omega
    · refine ⟨by show 1 ≤ 1000; decide, ha, ?_⟩
      refine ⟨_, rfl, _, rfl, a, C, rfl, T.oex, nF, .inl ⟨ha, fun dx h1 h2 => k dx h1 h2⟩⟩
end
theorem ne_of_none' {H : Hp} {a b : Addr} {o : HO} (h : H a = some o) (n : H b = none) : b ≠ a := fun z => by rw [z, h] at n; cases n
/-! ### wrong_index -/
abbrev sWi : Stmt := top 14
/-- an edition that has this name and this version -/
def EdK (C : Addr) (H : Hp) (a : Addr) (k : Kk) : Prop := ∃ dx p xs, H a = some (.ins C dx [("parts", .ref p)]) ∧ H p = some (.tup (.str k.1 :: .int k.2 :: xs))
theorem EdK.same {C : Addr} {H H' : Hp} {a : Addr} {k : Kk} (S : Same H H') (h : EdK C H a k) : EdK C H' a k := by
  obtain ⟨dx, p, xs, h1, h2⟩ := h
  exact ⟨dx, p, xs, S _ _ h1, S _ _ h2⟩
/-- editions one after another -/
abbrev Eds : Type := List (Addr × Kk)
def EdsAt (K : PySem.W.Frag) (C : Addr) (H : Hp) (t : Addr) (es : Eds) : Prop := SqT K H t (es.map fun e => .ref e.1) ∧ ∀ e ∈ es, EdK C H e.1 e.2
theorem EdsAt.same {K : PySem.W.Frag} {C : Addr} {H H' : Hp} {t : Addr} {es : Eds} (S : Same H H') (h : EdsAt K C H t es) : EdsAt K C H' t es := ⟨S.sqT h.1, fun e he => (h.2 e he).same S⟩
abbrev keysOf (es : Eds) : List Kk := es.map (·.2)
def kk (k : Kk) : List Key := [.inr k.1, .inl k.2]
theorem kk_inj {a b : Kk} (h : kk a = kk b) : a = b := by
  unfold kk at h
  injection h with h1 h2
  injection h2 with h2 _
  injection h1 with h1
  injection h2 with h2
  exact Prod.ext h1 h2
def optI : Option Nat → V
  | none => .non
  | some i => .int i
def spWi (K : PySem.W.Frag) (C : Addr) : Sp := fun vs H Q _ => ∃ (t : Addr) (es : Eds), vs = [.ref t] ∧ EdsAt K C H t es ∧ es.length ≤ 40 ∧ ∀ H', Same H H' → Q (optI (wrongAt (keysOf es))) H'
structure TxtW (P : Program) (w : World) (K : PySem.W.Frag) (mg : Str → Option Value) (base : Heap) (C : Addr) : Prop where
  set : mg "set" = none
  len : mg "len" = none
  enum : mg "enumerate" = none
  mE : ∃ t, mg "MOST_EDITIONS" = some (.int 12 t)
  mN : ∃ t, mg "MOST_NAMES" = some (.int 4 t)
  p0 : Prp P w K mg base C "name" 0
  p1 : Prp P w K mg base C "version" 1
  cl : Cls K C
theorem scWi : FnScope ["editions", "keys", "names", "at", "edition", "key"] ["editions"] (defScope sWi) := ⟨rfl, rfl, rfl, by decide +kernel, rfl, by decide +kernel, by decide +kernel⟩
section
variable {P : Program} {w : World} {K : PySem.W.Frag} {mg : Str → Option Value} {base : Heap} {C : Addr}
/-- what stands before the i-th turn -/
structure WiI (P : Program) (w : World) (K : PySem.W.Frag) (C t ka na : Addr) (es : Eds) (H0 : Hp) (i : Nat) (σ : L2.St) (H : Hp) : Prop where
  sl : ∃ x3 x4 x5, σ = [some (.ref t), some (.ref ka), some (.ref na), x3, x4, x5]
  sm : Same H0 H
  n1 : H0 ka = none
  n2 : H0 na = none
  ts : ∃ L, H ka = some (TsO P w ka L) ∧ TupsIn H L ∧ L.length = i ∧ ∀ k, kk k ∈ L.map (·.2) ↔ k ∈ (keysOf es).take i
  nm : ∃ S n, H na = some (SetK P w na S n) ∧ (∀ x, S (.inr x) = has (((keysOf es).take i).map (·.1)) x) ∧ n = nd (((keysOf es).take i).map (·.1))
  ok : ∀ j, j < i → badB (keysOf es) j = false
theorem prp_read {H : Hp} {a : Addr} {k : Kk} {Q : VK} (h : EdK C H a k) (q : Q (.str k.1) H) : ∃ p dx fs, V.ref a = .ref p ∧ H p = some (.ins C dx fs) ∧ spGet C 0 [.ref p] H Q E0 := by
  obtain ⟨dx, p, xs, h1, h2⟩ := h
  exact ⟨a, dx, _, rfl, h1, a, dx, p, _, _, rfl, h1, h2, rfl, q⟩
theorem ok_wi {f : Addr} {fd : FuncData} (F : Fun K "wrong_index" "wrong_index" sWi f fd) (T : TxtW P w K mg base C) : FnOk P w K mg base CX0 3 f fd ["editions"] (spWi K C) := by
  refine F.ok scWi (fun vs H Q E h => ?_) (fun cdv A outer s H vs Q E hr h => ?_)
  · obtain ⟨t, es, rfl, _⟩ := h
    rfl
  · obtain ⟨t, es, rfl, hE, hz, k⟩ := h
    have nd' := scWi.nd
    have hu := hu_of hr
    have r2 : Room 2 _ := hr.mono (by decide)
    obtain ⟨tE, mE⟩ := T.mE
    obtain ⟨tN, mN⟩ := T.mN
    refine ⟨_, pss_cons (ps_if (pt_not (pt_truth (pv 0) (by intro _; rfl))) (pss_one (ps_ret pe_int)) pss_nil)
      (pss_cons (ps_set (i := 1) nd' rfl (Or.inl rfl) (pe_callTy0 cr_set0T (by rfl) T.set (by decide +kernel)))
      (pss_cons (ps_set (i := 2) nd' rfl (Or.inl rfl) (pe_callTy0 cr_set0K (by rfl) T.set (by decide +kernel)))
      (pss_cons (ps_for PassesOwn.never rfl (pi_enumT (by rfl) T.enum (pa_cons (pv 0) pa_nil)) (pg_tup rfl (pgs_cons (pg_name (i := 3) nd' rfl (Or.inl rfl)) (pgs_cons (pg_name (i := 4) nd' rfl (Or.inl rfl)) pgs_nil)))
        (pss_cons (ps_set (i := 5) nd' rfl (Or.inl rfl) (pe_tup (pa_cons (pe_prp T.p0 T.cl r2 (pv 4)) (pa_cons (pe_prp T.p1 T.cl r2 (pv 4)) pa_nil))))
        (pss_cons (ps_expr (pe_saddK (pv 2) (pa_cons (pe_prp T.p0 T.cl r2 (pv 4)) pa_nil)))
        (pss_cons (ps_if (PW.pt (pw_or (pt_cmpR (or_sinT hu) (pv 5) (pv 1) (by rfl)) (pw_or (pt_cmpR op_gt (pe_callB call_lenSK (by rfl) T.len PySem.boot_len (pa_cons (pv 2) pa_nil)) (pe_glob (v := .int 4) rfl mN ⟨_, rfl⟩) (nomark _)) (pw_or1 (pt_cmpR op_ge (pv 3) (pe_glob (v := .int 12) rfl mE ⟨_, rfl⟩) (nomark _)))))) (pss_one (ps_ret (pv 3))) pss_nil)
        (pss_one (ps_expr (pe_saddT hu (pv 1) (pa_cons (pv 5) pa_nil))))))))
      (pss_one (ps_ret pe_non))))), ?_⟩
    refine ⟨_, rfl, !es.isEmpty, .inr (.inl ⟨_, hE.1, by simp⟩), ?_⟩
    by_cases he : es.isEmpty = true
    · refine ite_yes (by rw [he]; rfl) ?_
      have e : wrongAt (keysOf es) = some 0 := by
        unfold wrongAt
        rw [if_pos (by simpa using he)]
      have z := k H (Same.refl H)
      rw [e] at z
      exact z
    refine ite_no (by simp at he ⊢; exact he) ?_
    have wrong : wrongAt (keysOf es) = (List.range (keysOf es).length).find? (badB (keysOf es)) := by
      unfold wrongAt
      rw [if_neg (by simpa using he)]
    refine ⟨rfl, fun ka n1 => ⟨rfl, fun na n2 => ?_⟩⟩
    have nka : na ≠ ka := fun z => by rw [z, upd_same] at n2; cases n2
    have n2' : H na = none := by rwa [upd_ne nka] at n2
    refine ⟨_, rfl, t, _, rfl, (hE.same ((Same.upd_new n1).trans (Same.upd_new n2))).1, ?_⟩
    refine for_it (walk_enumT (K := K) (a := t) (xs := es.map fun e => .ref e.1)) (WiI P w K C t ka na es H) ?_ ?_ ?_ ?_
    · exact ⟨⟨_, _, _, rfl⟩, (Same.upd_new n1).trans (Same.upd_new n2), n1, n2', ⟨[], by rw [upd_ne (Ne.symm nka), upd_same]; rfl, (fun p hp => nomatch hp), rfl, fun k => by simp⟩, ⟨_, _, upd_same, fun x => rfl, rfl⟩, fun j hj => absurd hj (Nat.not_lt_zero _)⟩
    · exact fun i σ H' _ I => (hE.same I.sm).1
    · intro i x σ H1 H2 hi I y
      obtain ⟨T', a, b, rfl, nT, rfl, ha, hb⟩ := y
      cases ha
      obtain ⟨e, he, rfl⟩ : ∃ e, es[i]? = some e ∧ b = .ref e.1 := by
        have hb : (es.map fun e => V.ref e.1)[i]? = some b := hb
        rw [List.getElem?_map] at hb
        obtain ⟨e, h1, h2⟩ := Option.map_eq_some_iff.mp hb
        exact ⟨e, h1, h2.symm⟩
      obtain ⟨⟨x3, x4, x5, rfl⟩, sm, _, _, ⟨L, hka, hL, hLl, hLm⟩, ⟨S, n, hna, hS, hn⟩, hok⟩ := I
      have hi' : i < es.length := (List.getElem?_eq_some_iff.mp he).1
      have hke : (keysOf es)[i]? = some e.2 := by rw [List.getElem?_map, he] <;> rfl
      refine ⟨T', _, rfl, .inl (.inl upd_same), rfl, _, _, rfl, _, _, rfl, rfl, ?_⟩
      have s1 : Same H1 (upd H1 T' (.tup [.int (i : Nat), .ref e.1])) := Same.upd_new nT
      obtain ⟨dx, p, xs, h1, h2⟩ := ((hE.2 e (List.mem_of_getElem? he)).same sm).same s1
      refine ⟨_, rfl, e.1, dx, _, rfl, h1, e.1, dx, p, _, _, rfl, h1, h2, rfl, _, rfl, e.1, dx, _, rfl, h1, e.1, dx, p, _, _, rfl, h1, h2, rfl, two_le, fun tk ntk => ?_⟩
      have s2 := s1.trans (Same.upd_new (o := .tup [.str e.2.1, .int e.2.2]) ntk)
      have h1' := (Same.upd_new (o := .tup [.str e.2.1, .int e.2.2]) ntk) _ _ h1
      have h2' := (Same.upd_new (o := .tup [.str e.2.1, .int e.2.2]) ntk) _ _ h2
      have hnl : n ≤ 40 := by
        rw [hn]
        refine Nat.le_trans (nd_le _) ?_
        rw [List.length_map, List.length_take]
        omega
      refine ⟨_, rfl, ⟨na, S, n, rfl, s2 _ _ hna⟩, _, rfl, e.1, dx, _, rfl, h1', e.1, dx, p, _, _, rfl, h1', h2', rfl, na, .inr e.2.1, S, n, rfl, rfl, s2 _ _ hna, (by show n + 1 < 4096; omega), ?_⟩
      have ntka : tk ≠ ka := ne_of_none' (s1 _ _ hka) ntk
      have ntna : tk ≠ na := ne_of_none' (s1 _ _ hna) ntk
      have kna : ka ≠ na := Ne.symm nka
      have nmE : ((keysOf es).take (i + 1)).map (·.1) = ((keysOf es).take i).map (·.1) ++ [e.2.1] := by rw [take_snoc hke, List.map_append] <;> rfl
      have cnt : (if S (.inr e.2.1) = true then n else n + 1) = nd (((keysOf es).take (i + 1)).map (·.1)) := by rw [nmE, nd_snoc, hS, hn]
      generalize (if S (.inr e.2.1) = true then n else n + 1) = n' at cnt ⊢
      generalize hS' : (fun j => S j || decide (j = Sum.inr e.2.1)) = S'
      have hS2 : ∀ x, S' (.inr x) = has (((keysOf es).take (i + 1)).map (·.1)) x := fun x => by
        rw [← hS', nmE]
        show (S (.inr x) || decide ((Sum.inr x : Key) = Sum.inr e.2.1)) = _
        rw [hS]
        unfold has
        rw [List.any_append]
        congr 1
        simp only [List.any_cons, List.any_nil, Bool.or_false]
        rw [decide_eq_decide]
        exact ⟨fun z => by injection z with z; exact z.symm, fun z => by rw [z]⟩
      have big : Same H (upd (upd (upd H1 T' (.tup [.int (i : Nat), .ref e.1])) tk (.tup [.str e.2.1, .int e.2.2])) na (SetK P w na S' n')) := fun b o q => by
        rw [upd_ne (ne_of_none q n2')]
        exact s2 _ _ (sm _ _ q)
      have tups : TupsIn (upd (upd (upd H1 T' (.tup [.int (i : Nat), .ref e.1])) tk (.tup [.str e.2.1, .int e.2.2])) na (SetK P w na S' n')) L := fun q hq => by
        rw [upd_ne (ne_of (s2 _ _ (hL q hq)) (s2 _ _ hna) (by intro z; cases z))]
        exact s2 _ _ (hL q hq)
      have gka : (upd (upd (upd H1 T' (.tup [.int (i : Nat), .ref e.1])) tk (.tup [.str e.2.1, .int e.2.2])) na (SetK P w na S' n')) ka = some (TsO P w ka L) := by
        rw [upd_ne kna]
        exact s2 _ _ hka
      have gtk : (upd (upd (upd H1 T' (.tup [.int (i : Nat), .ref e.1])) tk (.tup [.str e.2.1, .int e.2.2])) na (SetK P w na S' n')) tk = some (.tup ((kk e.2).map kV)) := by
        rw [upd_ne ntna, upd_same]
        rfl
      have gna : (upd (upd (upd H1 T' (.tup [.int (i : Nat), .ref e.1])) tk (.tup [.str e.2.1, .int e.2.2])) na (SetK P w na S' n')) na = some (SetK P w na S' n') := upd_same
      have hk : hasK L (kk e.2) = has ((keysOf es).take i) e.2 := by
        cases q : has ((keysOf es).take i) e.2
        · exact hasK_no fun z => not_has q ((hLm e.2).mp z)
        · exact hasK_iff.mpr ((hLm e.2).mpr (has_iff.mp q))
      have bad : badB (keysOf es) i = (hasK L (kk e.2) || (decide (4 < n') || decide (12 ≤ i))) := by
        unfold badB
        rw [hke, hk, cnt]
      have out : badB (keysOf es) i = true → Q (.int (i : Nat)) (upd (upd (upd H1 T' (.tup [.int (i : Nat), .ref e.1])) tk (.tup [.str e.2.1, .int e.2.2])) na (SetK P w na S' n')) := fun hb => by
        have e0 : wrongAt (keysOf es) = some i := by
          rw [wrong]
          exact find_range _ (by simpa using hi') hb hok
        have z := k _ big
        rw [e0] at z
        exact z
      refine ⟨_, rfl, _, rfl, ka, tk, kk e.2, L, rfl, rfl, gtk, gka, tups, _, rfl, ?_⟩
      cases c1 : hasK L (kk e.2)
      case true => exact iteT (⟨_, rfl, out (by rw [bad, c1]; rfl)⟩)
      refine iteF ?_
      refine ⟨_, rfl, na, S', n', rfl, gna, _, _, rfl, rfl, _, rfl, ?_⟩
      cases c2 : decide (4 < n')
      case true => exact ite_yes (by rw [decide_eq_true_eq] at c2 ⊢; omega) ⟨_, rfl, out (by rw [bad, c1, c2]; rfl)⟩
      refine ite_no (by rw [decide_eq_false_iff_not] at c2 ⊢; omega) ?_
      refine ⟨_, rfl, _, _, rfl, rfl, _, rfl, ?_⟩
      cases c3 : decide (12 ≤ i)
      case true => exact ite_yes (by rw [decide_eq_true_eq] at c3 ⊢; omega) ⟨_, rfl, out (by rw [bad, c1, c2, c3]; rfl)⟩
      refine ite_no (by rw [decide_eq_false_iff_not] at c3 ⊢; omega) ?_
      refine ⟨_, rfl, ⟨ka, L, rfl, gka⟩, _, rfl, ka, tk, kk e.2, L, rfl, rfl, gtk, gka, tups, by omega, fun z => ?_, fun _ L' pm => ?_⟩
      · rw [hasK_iff.mpr z] at c1
        exact nomatch c1
      · refine ⟨⟨_, _, _, rfl⟩, fun b o q => ?_, n1, n2', ⟨L', upd_same, fun q hq => ?_, ?_, fun k2 => ?_⟩, ⟨S', n', ?_, hS2, cnt⟩, fun j hj => ?_⟩
        · rw [upd_ne (ne_of_none q n1)]
          exact big _ _ q
        · have old : ∀ y : Addr × List Key, (upd (upd (upd H1 T' (.tup [.int (i : Nat), .ref e.1])) tk (.tup [.str e.2.1, .int e.2.2])) na (SetK P w na S' n')) y.1 = some (.tup (y.2.map kV)) → (upd (upd (upd (upd H1 T' (.tup [.int (i : Nat), .ref e.1])) tk (.tup [.str e.2.1, .int e.2.2])) na (SetK P w na S' n')) ka (TsO P w ka L')) y.1 = some (.tup (y.2.map kV)) := fun y hy => by
            rw [upd_ne (ne_of hy gka (by intro z; cases z))]
            exact hy
          rcases List.mem_cons.mp (pm.mem_iff.mp hq) with rfl | hq
          · exact old _ gtk
          · exact old _ (tups q hq)
        · rw [pm.length_eq, List.length_cons, hLl]
        · rw [(pm.map (·.2)).mem_iff, List.map_cons, List.mem_cons, hLm k2, take_snoc hke, List.mem_append, List.mem_singleton]
          exact ⟨fun z => z.elim (fun z => .inr (kk_inj z)) .inl, fun z => z.elim .inr fun z => .inl (by rw [z])⟩
        · rw [upd_ne nka]
          exact gna
        · rcases Nat.lt_or_ge j i with m | m
          · exact hok j m
          · rw [show j = i by omega, bad, c1, c2, c3]
            rfl
    · intro σ H' I
      have e : wrongAt (keysOf es) = none := by
        rw [wrong]
        exact find_range_none _ fun j hj => I.ok j (by simpa using hj)
      have z := k H' I.sm
      rw [e] at z
      exact z
end
end Half

namespace Half
open PySem PySem.Spec PyProof.Rows L2
abbrev sVn : Stmt := top 15
theorem put_keys {κ : Type} [DecidableEq κ] (kvs : List (κ × V)) (k : κ) (v : V) : (putK kvs k v).map (·.1) = dstep (kvs.map (·.1)) k := by
  unfold putK dstep
  have e : (kvs.any fun kv => decide (kv.1 = k)) = has (kvs.map (·.1)) k := by
    unfold has
    rw [List.any_map]
    rfl
  rw [e]
  split
  · rw [List.map_map]
    refine List.map_congr_left fun p hp => ?_
    show (if p.1 = k then (p.1, v) else p).1 = p.1
    split <;> rfl
  · rw [List.map_append]
    rfl
/-- which numbers a name has -/
def numsOf (ys : List Kk) (nm : Str) : List V := (ys.filter fun y => decide (y.1 = nm)).map fun y => .int y.2
/-- the dict at d tells ys name by name -/
def Nums0 (H : Hp) (d : Addr) (ys : List Kk) : Prop := ∃ kvs, H d = some (.dK kvs) ∧ kvs.map (·.1) = (dset (ys.map (·.1))).map Sum.inr ∧ ∀ nm ∈ ys.map (·.1), ∃ t, valV kvs (.inr nm) = some (.ref t) ∧ H t = some (.tup (numsOf ys nm))
def Asc (ys : List Kk) : Prop := ys.Pairwise fun x y => pLt y x = false
def NumsAt (H : Hp) (d : Addr) (ks : List Kk) : Prop := ∃ ys, ys.Perm ks ∧ Asc ys ∧ Nums0 H d ys
theorem Nums0.same {H H' : Hp} {d : Addr} {ys : List Kk} (S : Same H H') (h : Nums0 H d ys) : Nums0 H' d ys := by
  obtain ⟨kvs, h1, h2, h3⟩ := h
  exact ⟨kvs, S _ _ h1, h2, fun nm hm => let ⟨t, a, b⟩ := h3 nm hm; ⟨t, a, S _ _ b⟩⟩
theorem NumsAt.same {H H' : Hp} {d : Addr} {ks : List Kk} (S : Same H H') (h : NumsAt H d ks) : NumsAt H' d ks := by
  obtain ⟨ys, a, b, c⟩ := h
  exact ⟨ys, a, b, c.same S⟩
/-- the key that the tuple x holds -/
def keyAt (H : Hp) : V → Kk
  | .ref t => match H t with
    | some (.tup [.str a, .int b]) => (a, b)
    | _ => ("", 0)
  | _ => ("", 0)
theorem keyAt_of {H : Hp} {t : Addr} {k : Kk} (h : H t = some (.tup [.str k.1, .int k.2])) : keyAt H (.ref t) = k := by
  show (match H t with
    | some (.tup [.str a, .int b]) => (a, b)
    | _ => (("", 0) : Kk)) = k
  rw [h]
def KeysIn (H : Hp) (bs : List (Addr × Kk)) : Prop := ∀ b ∈ bs, H b.1 = some (.tup [.str b.2.1, .int b.2.2])
def spVn (K : PySem.W.Frag) : Sp := fun vs H Q _ => ∃ (l : Addr) (bs : List (Addr × Kk)), vs = [.ref l] ∧ SqL K H l (bs.map fun b => .ref b.1) ∧ KeysIn H bs ∧ bs.length ≤ 40 ∧ ∀ d H', Same H H' → H d = none → NumsAt H' d (bs.map (·.2)) → Q (.ref d) H'
theorem scVn : FnScope ["keys", "versions", "name", "version"] ["keys"] (defScope sVn) := ⟨rfl, rfl, rfl, by decide +kernel, rfl, by decide +kernel, by decide +kernel⟩
theorem nums_snoc {ys : List Kk} {y : Kk} {nm : Str} : numsOf (ys ++ [y]) nm = if y.1 = nm then numsOf ys nm ++ [.int y.2] else numsOf ys nm := by
  unfold numsOf
  rw [List.filter_append, List.map_append]
  by_cases e : y.1 = nm
  · rw [if_pos e, List.filter_cons_of_pos (by simpa using e)]
    rfl
  · rw [if_neg e, List.filter_cons_of_neg (by simpa using e)]
    simp
theorem nums_none {ys : List Kk} {nm : Str} (h : nm ∉ ys.map (·.1)) : numsOf ys nm = [] := by
  unfold numsOf
  rw [List.map_eq_nil_iff, List.filter_eq_nil_iff]
  intro y hy z
  exact h (List.mem_map.mpr ⟨y, hy, of_decide_eq_true z⟩)
section
variable {P : Program} {w : World} {K : PySem.W.Frag} {mg : Str → Option Value} {base : Heap}
theorem ok_vn {f : Addr} {fd : FuncData} (F : Fun K "versions_by_name" "versions_by_name" sVn f fd) (hS : mg "sorted" = none) : FnOk P w K mg base CX0 1 f fd ["keys"] (spVn K) := by
  refine F.ok scVn (fun vs H Q E h => ?_) (fun cdv A outer s H vs Q E hr h => ?_)
  · obtain ⟨l, bs, rfl, _⟩ := h
    rfl
  · obtain ⟨l, bs, rfl, hl, hb, hz, k⟩ := h
    have nd' := scVn.nd
    have hu := hu_of hr
    refine ⟨_, pss_cons (ps_set (i := 1) nd' rfl (Or.inl rfl) pe_dnewK)
      (pss_cons (ps_for PassesOwn.never rfl (pi_list (pe_callB cr_sortTI (by rfl) hS (by decide +kernel) (pa_cons (pv 0) pa_nil))) (pg_tup rfl (pgs_cons (pg_name (i := 2) nd' rfl (Or.inl rfl)) (pgs_cons (pg_name (i := 3) nd' rfl (Or.inl rfl)) pgs_nil)))
        (pss_one (ps_dput hu (pv 1) (pv 2) (pe_tup (StX.pa_star (pe_dget2 hu (pv 1) (pv 2) (pe_tup pa_nil) ⟨rfl, rfl, rfl, rfl⟩) (pa_cons (pv 3) pa_nil))) rfl)))
      (pss_one (ps_ret (pv 1)))), ?_⟩
    refine fun d nd1 => ?_
    have s1 : Same H (upd H d (.dK [])) := Same.upd_new nd1
    refine ⟨_, rfl, l, _, keyAt (upd H d (.dK [])), rfl, s1.seq hl, fun x hx => ?_, fun ys p hs hp np => ?_⟩
    · obtain ⟨b, hb', rfl⟩ := List.mem_map.mp hx
      have g := s1 _ _ (hb b hb')
      refine ⟨b.1, rfl, ?_⟩
      rw [keyAt_of g]
      exact g
    · have zs : (ys.map (keyAt (upd H d (.dK [])))).Perm (bs.map (·.2)) := by
        have e := hp.map (keyAt (upd H d (.dK [])))
        rw [List.map_map] at e
        rw [show bs.map (·.2) = bs.map (keyAt (upd H d (.dK [])) ∘ fun b => V.ref b.1) from List.map_congr_left fun b hb' => (keyAt_of (s1 _ _ (hb b hb'))).symm]
        exact e
      have asc : Asc (ys.map (keyAt (upd H d (.dK [])))) := List.pairwise_map.mpr hs
      have tups : ∀ y ∈ ys, ∃ t, y = .ref t ∧ (upd H d (.dK [])) t = some (.tup [.str (keyAt (upd H d (.dK [])) y).1, .int (keyAt (upd H d (.dK [])) y).2]) := fun y hy => by
        obtain ⟨b, hb', rfl⟩ := List.mem_map.mp (hp.mem_iff.mp hy)
        have g := s1 _ _ (hb b hb')
        refine ⟨b.1, rfl, ?_⟩
        rw [keyAt_of g]
        exact g
      have yl : ys.length ≤ 40 := by rw [hp.length_eq, List.length_map]; exact hz
      have hdp : d ≠ p := fun z => by rw [← z, upd_same] at np; cases np
      generalize keyAt (upd H d (.dK [])) = key at zs asc tups
      refine ⟨p, rfl, ⟨_, SqL.of upd_same⟩, ?_⟩
      refine for_it (walk_list (K := K) (a := p) (xs := ys)) (fun i σ H' => (∃ x2 x3, σ = [some (.ref l), some (.ref d), x2, x3]) ∧ Same H H' ∧ H' p = some (.lst ys) ∧ (∀ y ∈ ys, ∃ t, y = .ref t ∧ H' t = some (.tup [.str (key y).1, .int (key y).2])) ∧ Nums0 H' d ((ys.take i).map key)) ?_ ?_ ?_ ?_
      · refine ⟨⟨_, _, rfl⟩, s1.trans (Same.upd_new np), upd_same, fun y hy => ?_, ⟨[], by rw [upd_ne hdp, upd_same], rfl, fun nm hm => by simp at hm⟩⟩
        obtain ⟨t, e, g⟩ := tups y hy
        exact ⟨t, e, (Same.upd_new np) _ _ g⟩
      · exact fun i σ H' _ I => SqL.of I.2.2.1
      · rintro i x σ H1 H2 hi ⟨⟨x2, x3, rfl⟩, sm, gp, gt, ⟨kvs, gd, gk, gv⟩⟩ ⟨rfl, hx⟩
        obtain ⟨t, rfl, ht⟩ := gt x (List.mem_of_getElem? hx)
        have tk : (ys.take (i + 1)).map key = (ys.take i).map key ++ [key (.ref t)] := by rw [take_snoc hx, List.map_append] <;> rfl
        have il : i ≤ 40 := by omega
        have kl : kvs.length ≤ 40 := by
          have e := congrArg List.length gk
          rw [List.length_map, List.length_map] at e
          have := nd_le (((ys.take i).map key).map (·.1))
          unfold nd at this
          rw [List.length_map, List.length_map, List.length_take] at this
          omega
        refine ⟨t, _, rfl, .inl (.inl ht), rfl, _, _, rfl, _, _, rfl, rfl, ?_⟩
        generalize key (.ref t) = y at ht tk
        refine ⟨_, rfl, d, rfl, .inl ⟨kvs, .inl gd⟩, _, rfl, Nat.zero_le _, fun te nte => ?_⟩
        have se : Same H2 (upd H2 te (.tup [])) := Same.upd_new nte
        have wh : ∃ u, ((valV kvs (.inr y.1)).getD (.ref te)) = .ref u ∧ (upd H2 te (.tup [])) u = some (.tup (numsOf ((ys.take i).map key) y.1)) := by
          by_cases hm : y.1 ∈ ((ys.take i).map key).map (·.1)
          · obtain ⟨u, a, b⟩ := gv y.1 hm
            exact ⟨u, by rw [a]; rfl, se _ _ b⟩
          · have e : valV kvs (.inr y.1) = none := by
              cases c : valV kvs (.inr y.1) with
              | none => rfl
              | some v =>
                have z := valV_in c
                rw [gk] at z
                obtain ⟨q, hq, eq⟩ := List.mem_map.mp z
                injection eq with eq
                subst eq
                exact absurd ((mem_dset _ _).mp hq) hm
            exact ⟨te, by rw [e]; rfl, by rw [nums_none hm, upd_same]⟩
        obtain ⟨u, eu, hu'⟩ := wh
        refine ⟨_, DGet.k (k := .inr y.1) (se _ _ gd), ?_⟩
        refine ⟨u, _, eu, .inl (.inl (.inl hu')), _, rfl, ?_, fun tt ntt => ?_⟩
        · rw [List.length_append]
          have : (numsOf ((ys.take i).map key) y.1).length ≤ 40 := by
            unfold numsOf
            rw [List.length_map]
            refine Nat.le_trans (List.length_filter_le _ _) ?_
            rw [List.length_map, List.length_take]
            omega
          show _ + 1 ≤ sizeLine
          rw [sizeLine_eq]
          omega
        have st := Same.upd_new (o := .tup (numsOf ((ys.take i).map key) y.1 ++ [.int y.2])) ntt
        have gd2 := st _ _ (se _ _ gd)
        refine ⟨_, rfl, _, rfl, d, _, rfl, DPut.k (k := .inr y.1) gd2 (by rw [sizeLine_eq]; omega), ?_⟩
        have ne : ∀ {b o}, (∀ kvs, o ≠ .dK kvs) → H2 b = some o → (upd (upd (upd H2 te (.tup [])) tt (.tup (numsOf ((ys.take i).map key) y.1 ++ [.int y.2]))) d (.dK (putK kvs (.inr y.1) (.ref tt)))) b = some o := fun {b o} hk q => by
          rw [upd_ne (ne_of (st _ _ (se _ _ q)) gd2 (hk _))]
          exact st _ _ (se _ _ q)
        refine ⟨⟨_, _, rfl⟩, fun b o q => ?_, ne (by intro z e; cases e) gp, fun y' hy' => ?_, ?_⟩
        · have nb : b ≠ d := ne_of_none q nd1
          rw [upd_ne nb]
          exact st _ _ (se _ _ (sm _ _ q))
        · obtain ⟨t', e', g'⟩ := gt y' hy'
          exact ⟨t', e', ne (by intro z e; cases e) g'⟩
        · refine ⟨_, upd_same, ?_, fun nm hm => ?_⟩
          · rw [put_keys, gk, tk, List.map_append, List.map_singleton, dset_snoc]
            unfold dstep
            have e : has ((dset (((ys.take i).map key).map (·.1))).map (Sum.inr : Str → Key)) (.inr y.1) = has (dset (((ys.take i).map key).map (·.1))) y.1 := by
              unfold has
              rw [List.any_map]
              congr 1
              funext z
              show decide ((Sum.inr z : Key) = .inr y.1) = decide (z = y.1)
              rw [decide_eq_decide]
              exact ⟨fun q => by injection q, fun q => by rw [q]⟩
            rw [e]
            split
            · rfl
            · rw [List.map_append]
              rfl
          · rw [tk, List.map_append, List.mem_append] at hm
            rw [valV_put, tk, nums_snoc]
            by_cases e : y.1 = nm
            · subst e
              refine ⟨tt, by rw [if_pos rfl], ?_⟩
              rw [if_pos rfl, upd_ne (fun z => by rw [z, se _ _ gd] at ntt; cases ntt), upd_same]
            · rw [if_neg e, if_neg (fun q => e (by injection q with q; exact q.symm))]
              obtain ⟨t', a, b⟩ := gv nm (hm.resolve_right fun z => e (List.mem_singleton.mp (show nm ∈ [y.1] from z)).symm)
              exact ⟨t', a, ne (by intro z e; cases e) b⟩
      · rintro σ H' ⟨⟨x2, x3, rfl⟩, sm, gp, gt, gn⟩
        rw [List.take_length] at gn
        exact ⟨_, rfl, k d H' sm nd1 ⟨_, zs, asc, gn⟩⟩
end
end Half

namespace Half
open PySem PySem.Spec PyProof.Rows L2
abbrev sSt (i : Nat) : Stmt := inClass (top 16) i
/-! ### what a store holds -/
def tabOf (es : Eds) : List (List Key × V) := es.map fun e => (kk e.2, .ref e.1)
structure StObj (CT : Addr) (H : Hp) (a : Addr) (es : Eds) : Prop where
  ob : ∃ dx tb nb, H a = some (.ins CT dx [("table", .ref tb), ("numbers", .ref nb)]) ∧ H tb = some (.dT (tabOf es)) ∧ NumsAt H nb (keysOf es)
  one : (keysOf es).Nodup
theorem StObj.same {CT : Addr} {H H' : Hp} {a : Addr} {es : Eds} (S : Same H H') (h : StObj CT H a es) : StObj CT H' a es := by
  obtain ⟨⟨dx, tb, nb, h1, h2, h3⟩, one⟩ := h
  exact ⟨⟨dx, tb, nb, S _ _ h1, S _ _ h2, h3.same S⟩, one⟩
theorem wrong_none {ks : List Kk} (h : wrongAt ks = none) : ks ≠ [] ∧ ∀ i, i < ks.length → badB ks i = false := by
  unfold wrongAt at h
  split at h
  · cases h
  · rename_i he
    exact ⟨fun z => he (by rw [z]; rfl), fun i hi => by simpa using List.find?_eq_none.mp h i (List.mem_range.mpr hi)⟩
theorem bad_has {ks : List Kk} {i : Nat} {k : Kk} (h : badB ks i = false) (hk : ks[i]? = some k) : k ∉ ks.take i := by
  unfold badB at h
  rw [hk] at h
  simp only [Bool.or_eq_false_iff] at h
  exact not_has h.1
theorem wrong_nodup {ks : List Kk} (h : wrongAt ks = none) : ks.Nodup := by
  have hb := (wrong_none h).2
  have key : ∀ i, i ≤ ks.length → (ks.take i).Nodup := by
    intro i
    induction i with
    | zero => intro _; exact .nil
    | succ i ih =>
      intro hi
      have e : ks[i]? = some ks[i] := List.getElem?_eq_getElem hi
      rw [take_snoc e]
      refine List.nodup_append.mpr ⟨ih (Nat.le_of_succ_le hi), List.nodup_cons.mpr ⟨by simp, .nil⟩, fun a ha b hb' z => ?_⟩
      rw [List.mem_singleton.mp hb'] at z
      rw [z] at ha
      exact bad_has (hb i hi) e ha
  have := key ks.length (Nat.le_refl _)
  rwa [List.take_length] at this
theorem tab_none {es : Eds} {k : Kk} (h : k ∉ keysOf es) : valV (tabOf es) (kk k) = none := by
  cases c : valV (tabOf es) (kk k) with
  | none => rfl
  | some v =>
    have z := valV_in c
    unfold tabOf at z
    rw [List.map_map] at z
    obtain ⟨e, he, ee⟩ := List.mem_map.mp z
    exact absurd (List.mem_map.mpr ⟨e, he, kk_inj ee⟩) h
theorem tab_some {es : Eds} (one : (keysOf es).Nodup) {e : Addr × Kk} (h : e ∈ es) : valV (tabOf es) (kk e.2) = some (.ref e.1) := by
  have nd : ((tabOf es).map (·.1)).Nodup := by
    unfold tabOf
    rw [List.map_map]
    have : (es.map ((fun x : List Key × V => x.1) ∘ fun e => (kk e.2, V.ref e.1))) = (keysOf es).map kk := by rw [List.map_map] <;> rfl
    rw [this]
    exact List.pairwise_map.mpr (one.imp fun hne e => hne (kk_inj e))
  exact val_nodup nd (kk e.2, .ref e.1) (List.mem_map.mpr ⟨e, h, rfl⟩)
def spSi (K : PySem.W.Frag) (C CT CI : Addr) : Sp := fun vs H Q E => ∃ (x t dx : Addr) (es : Eds), vs = [.ref x, .ref t] ∧ H x = some (.ins CT dx []) ∧ EdsAt K C H t es ∧ es.length ≤ 40 ∧
  (wrongAt (keysOf es) = none → ∀ H', SameBut x H H' → StObj CT H' x es → Q .non H') ∧ (∀ i, wrongAt (keysOf es) = some i → ∀ H' d, Same H H' → H' d = some (.xd [("index", .int i)]) → E (.ref CI) (some d) H')
structure TxtS (P : Program) (w : World) (K : PySem.W.Frag) (mg : Str → Option Value) (base : Heap) (C CT CI fI : Addr) (fdI : FuncData) : Prop where
  cl : Cls K CT
  nT : NoAttr K CT "table"
  nN : NoAttr K CT "numbers"
  lst : mg "list" = none
  mgE : mg "InvalidStore" = some (.ref CI)
  sup : SupC P K mg CI
  nF : PySem.W.findIn K (.ref CI) "index" = some none
  iC : PySem.W.findIn K (.ref CI) "__init__" = some (some (.ref fI))
  tI : PySem.W.typeIn K (.ref fI) = some (.type "function")
  er : ErrFn P K CI "InvalidStore.__init__" sIs fI fdI
  bI : Binds K fdI ["self", "index"] []
  p0 : Prp P w K mg base C "name" 0
  p1 : Prp P w K mg base C "version" 1
  ce : Cls K C
  dW : Def P w K mg base 3 "wrong_index" ["editions"] (spWi K C)
  dV : Def P w K mg base 1 "versions_by_name" ["keys"] (spVn K)
abbrev SiN : List Str := ["self", "editions", "index", "edition"]
theorem scSi : FnScope SiN ["self", "editions"] (defScope (sSt 0)) := ⟨rfl, rfl, rfl, by decide +kernel, rfl, by decide +kernel, by decide +kernel⟩
theorem wrong_bound {ks : List Kk} {i : Nat} (h : wrongAt ks = some i) : i ≤ ks.length := by
  unfold wrongAt at h
  split at h
  · cases h; exact Nat.zero_le _
  · exact Nat.le_of_lt (List.mem_range.mp (List.mem_of_find?_eq_some h))
section
variable {P : Program} {w : World} {K : PySem.W.Frag} {mg : Str → Option Value} {base : Heap} {C CT CI fI : Addr} {fdI : FuncData}
theorem ok_si {f : Addr} {fd : FuncData} (F : Fun K "__init__" "Store.__init__" (sSt 0) f fd) (T : TxtS P w K mg base C CT CI fI fdI) : FnOk P w K mg base (L2.CX P w) 4 f fd ["self", "editions"] (spSi K C CT CI) := by
  refine F.okX scSi (fun vs H Q E h => ?_) (fun cdv A outer s H vs Q E hr h => ?_)
  · obtain ⟨x, t, dx, es, rfl, _⟩ := h
    rfl
  · obtain ⟨x, t, dx, es, rfl, hx, hE, hz, kOk, kBad⟩ := h
    have nd' := scSi.nd
    have hu := hu_of hr
    have r2 : Room 2 _ := hr.mono (by decide)
    have FI : FnOk P w K mg base CX0 1 fI fdI ["self", "index"] (spErrI CI "index") := ok_is T.er T.sup T.nF
    refine ⟨_, pss_cons (ps_set (i := 2) nd' rfl (Or.inl rfl) (pe_def T.dW hr rfl (pa_cons (pv 1) pa_nil)))
      (pss_cons (ps_if (pt_cmp (pc_notN (pv 2))) (pss_one (ps_raise rfl (takes_of rfl rfl rfl rfl) (pmk_oex T.sup.oex T.iC T.tI FI (hr.mono (by decide)) T.bI .nil (fun _ _ _ _ _ _ _ h => h.elim) rfl T.mgE (pa_cons (pv 2) pa_nil)))) pss_nil)
      (pss_cons (ps_fld (pv 0) (pe_dcG (own := [("edition", 3)]) (g := gName 3) (tt := tYes) Bare.t hu rfl nd' (pi_tup (pv 1)) (blkOk_by (N := SiN) (sc := defScope (sSt 0)) (by decide +kernel)) (fun _ _ _ _ _ => pg_name (i := 3) nd' rfl (Or.inl rfl)) (fun _ _ _ _ _ => pts_nil)
          (fun _ _ _ _ _ => pe_tup (pa_cons (pe_prp T.p0 T.ce r2 (pv 3)) (pa_cons (pe_prp T.p1 T.ce r2 (pv 3)) pa_nil))) (fun _ _ _ _ _ => pv 3)) rfl)
      (pss_one (ps_fld (pv 0) (pe_def T.dV (hr.mono (by decide)) rfl (pa_cons (pe_callTy (call_list_dT rfl) (by rfl) T.lst (by decide +kernel) (pa_cons (pe_fld (pv 0) rfl) pa_nil)) pa_nil)) rfl)))), ?_⟩
    refine ⟨_, rfl, t, es, rfl, hE, hz, fun H1 s1 => ?_⟩
    cases hw : wrongAt (keysOf es) with
    | some i =>
      refine ⟨_, rfl, true, rfl, ?_⟩
      refine iteT ?_
      have hi : i ≤ 1000 := by
        have := wrong_bound hw
        rw [List.length_map] at this
        omega
      refine ⟨_, rfl, (by show 1 ≤ 1000; decide), fun a ha => ⟨a, i, rfl, upd_same, hi, fun d hd1 hd2 => ⟨rfl, d, [("index", .int i)], upd_same, ?_, ?_, ?_⟩⟩⟩
      · rw [upd_ne hd2, upd_same]
      · rw [upd_ne hd2] at hd1
        exact hd1
      · rw [upd_ne hd2] at hd1
        refine kBad i hw _ d (fun b o q => ?_) upd_same
        have q1 := s1 b o q
        have nb : b ≠ d := ne_of_none q1 hd1
        have na : b ≠ a := ne_of_none q1 ha
        rw [upd_ne nb, del_ne na, upd_ne na, upd_ne nb, upd_ne na]
        exact q1
    | none =>
      refine ⟨_, rfl, false, rfl, ?_⟩
      refine iteF ?_
      have one := wrong_nodup hw
      refine ⟨_, rfl, t, rfl, ⟨_, (hE.same s1).1⟩, fun D nD => ?_⟩
      refine dcG_it (walk_tup (K := K) (a := t) (xs := es.map fun e => .ref e.1)) (fun i H' => Same H1 H' ∧ H' D = some (.dT (tabOf (es.take i)))) ⟨Same.upd_new nD, upd_same⟩ (fun i H' _ I => ((hE.same s1).same I.1).1) ?_ ?_
      · rintro i v H2 H2' hi ⟨sm, gD⟩ ⟨rfl, hv⟩
        obtain ⟨e, he, rfl⟩ : ∃ e, es[i]? = some e ∧ v = .ref e.1 := by
          rw [List.getElem?_map] at hv
          obtain ⟨e, h1, h2⟩ := Option.map_eq_some_iff.mp hv
          exact ⟨e, h1, h2.symm⟩
        obtain ⟨dy, p, xs, h1, h2⟩ := ((hE.2 e (List.mem_of_getElem? he)).same s1).same sm
        refine ⟨rfl, ?_⟩
        refine ⟨_, rfl, e.1, dy, _, rfl, h1, e.1, dy, p, _, _, rfl, h1, h2, rfl, _, rfl, e.1, dy, _, rfl, h1, e.1, dy, p, _, _, rfl, h1, h2, rfl, two_le, fun tk ntk => ?_⟩
        have st := Same.upd_new (o := .tup [.str e.2.1, .int e.2.2]) ntk
        have hi' : i < es.length := (List.getElem?_eq_some_iff.mp he).1
        refine ⟨_, rfl, _, DPut.t (k := kk e.2) (st _ _ gD) upd_same (by unfold tabOf; rw [List.length_map, List.length_take, sizeLine_eq]; omega), ?_, ?_⟩
        · intro b o q
          rw [upd_ne (ne_of_none q nD)]
          exact st _ _ (sm _ _ q)
        · have new : valV (tabOf (es.take i)) (kk e.2) = none := by
            refine tab_none fun z => ?_
            have hke : (keysOf es)[i]? = some e.2 := by rw [List.getElem?_map, he] <;> rfl
            refine bad_has ((wrong_none hw).2 i (by rw [List.length_map]; exact hi')) hke ?_
            rw [← List.map_take]
            exact z
          rw [putK_new _ new, upd_same, take_snoc he]
          unfold tabOf
          rw [List.map_append]
          rfl
      · rintro H2 ⟨sm, gD⟩
        rw [List.length_map, List.take_length] at gD
        have hx2 := sm _ _ (s1 _ _ hx)
        refine ⟨_, rfl, x, CT, dx, [], rfl, hx2, T.cl, T.nT, (by show 0 < 1000; decide), ?_⟩
        have nxD : D ≠ x := ne_of gD hx2 (by intro z; cases z)
        have gx3 : (upd H2 x (.ins CT dx (putF "table" (.ref D) []))) x = some (.ins CT dx [("table", .ref D)]) := upd_same
        have gD3 : (upd H2 x (.ins CT dx (putF "table" (.ref D) []))) D = some (.dT (tabOf es)) := by rw [upd_ne nxD]; exact gD
        refine ⟨_, rfl, x, CT, dx, _, _, rfl, gx3, T.cl, T.nT, rfl, D, _, rfl, .inl gD3, fun pl bs npl hbs => ?_⟩
        have sl := Same.upd_new (o := .lst (bs.map V.ref)) npl
        have lb : (tabOf es).length = bs.length := Paired.length hbs
        have lb' : bs.length = (keysOf es).length := by
          rw [← lb]
          unfold tabOf
          rw [List.length_map, List.length_map]
        have zip1 : (bs.zip (keysOf es)).map (fun b => V.ref b.1) = bs.map V.ref := by
          rw [show (fun b : Addr × Kk => V.ref b.1) = V.ref ∘ Prod.fst from rfl, ← List.map_map, List.map_fst_zip (Nat.le_of_eq lb')]
        have zip2 : (bs.zip (keysOf es)).map (·.2) = keysOf es := List.map_snd_zip (Nat.le_of_eq lb'.symm)
        have hk : ∀ {es : Eds} {bs : List Addr} {H : Hp}, IsKeys H (tabOf es) bs → KeysIn H (bs.zip (keysOf es)) := by
          intro es
          induction es with
          | nil => intro bs H _ b hb; simp at hb
          | cons e es ih =>
            intro bs H h
            cases h with
            | cons h t =>
              intro b hb
              rcases List.mem_cons.mp hb with rfl | hb
              · exact h
              · exact ih t b hb
        refine ⟨pl, bs.zip (keysOf es), rfl, by rw [zip1]; exact SqL.of upd_same, fun b hb => sl _ _ (hk hbs b hb), by rw [List.length_zip, List.length_map]; omega, fun d H5 s5 nd5 nums => ?_⟩
        rw [zip2] at nums
        have gx5 := s5 _ _ (sl _ _ gx3)
        refine ⟨_, rfl, x, CT, dx, _, rfl, gx5, T.cl, T.nN, (by show 1 < 1000; decide), ?_⟩
        have keep : SameBut x H (upd H5 x (.ins CT dx (putF "numbers" (.ref d) [("table", .ref D)]))) := fun b o hb q => by
          rw [upd_ne hb]
          refine s5 _ _ (sl _ _ ?_)
          rw [upd_ne hb]
          exact sm _ _ (s1 _ _ q)
        have sx : ∀ b o, (∀ fs, o ≠ .ins CT dx fs) → H5 b = some o → (upd H5 x (.ins CT dx (putF "numbers" (.ref d) [("table", .ref D)]))) b = some o := fun b o ho q => by
          rw [upd_ne (ne_of q gx5 (ho _))]
          exact q
        refine kOk hw _ keep ⟨⟨dx, D, d, upd_same, sx _ _ (by intro fs z; cases z) (s5 _ _ (sl _ _ gD3)), ?_⟩, one⟩
        obtain ⟨ys, a1, a2, kvs, a3, a4, a5⟩ := nums
        refine ⟨ys, a1, a2, kvs, sx _ _ (by intro fs z; cases z) a3, a4, fun nm hm => ?_⟩
        obtain ⟨tt, b1, b2⟩ := a5 nm hm
        exact ⟨tt, b1, sx _ _ (by intro fs z; cases z) b2⟩
end
end Half

namespace Half
open PySem PySem.Spec PyProof.Rows L2
/-- an error class without an own __init__ -/
structure ErrC (K : PySem.W.Frag) (mg : Str → Option Value) (x : Str) (C : Addr) : Prop where
  g : mg x = some (.ref C)
  x : PySem.W.excIn K C [.type "ValueError", .type "Exception", .type "BaseException", .type "object"] "ValueError.__new__" = true
  k : PySem.W.keepIn K (.ref C) = true
  b : PySem.W.subIn K (.ref C) (.type "BaseException") = some true
  t : PySem.W.typeIn K (.ref C) = some (.type "type")
structure TxtT (K : PySem.W.Frag) (mg : Str → Option Value) (CT CN CU : Addr) : Prop where
  cl : Cls K CT
  nT : NoAttr K CT "table"
  nN : NoAttr K CT "numbers"
  tup : mg "tuple" = none
  len : mg "len" = none
  isi : mg "isinstance" = none
  boo : mg "bool" = none
  mgC : mg "Store" = some (.ref CT)
  en : ErrC K mg "UnknownName" CN
  eu : ErrC K mg "UnknownEdition" CU
  ha : PySem.W.findIn K (.ref CT) "__class__" = some (some (.builtin "object.__class__"))
  hn : PySem.W.specialIn K (.builtin "object.__class__") "__get__" = some (some (.builtin "getset_descriptor.__get__"))
  ht : PySem.W.takesIn K (.builtin "object.__class__") = some true
  hm : PySem.W.mroIn K CT (.type "object") = some true
  ki : PySem.W.kitOne K (.ref CT) (.ref CT) = some true
def spNames (CT : Addr) : Sp := fun vs H Q _ => ∃ (a : Addr) (es : Eds), vs = [.ref a] ∧ StObj CT H a es ∧ ∀ ys p, ys.Perm (keysOf es) → Asc ys → H p = none → Q (.ref p) (upd H p (.tup ((dset (ys.map (·.1))).map V.str)))
def spVers (CT CN : Addr) : Sp := fun vs H Q E => ∃ (a : Addr) (es : Eds) (nm : Str), vs = [.ref a, .str nm] ∧ StObj CT H a es ∧
  (nm ∈ (keysOf es).map (·.1) → ∀ ys t, ys.Perm (keysOf es) → Asc ys → H t = some (.tup (numsOf ys nm)) → Q (.ref t) H) ∧ (nm ∉ (keysOf es).map (·.1) → (reprText nm).length ≤ 1000 ∧ E (.ref CN) none H)
def spLen (CT : Addr) : Sp := fun vs H Q _ => ∃ (a : Addr) (es : Eds), vs = [.ref a] ∧ StObj CT H a es ∧ Q (.int (es.length : Nat)) H
def spHas (CT : Addr) : Sp := fun vs H Q _ => ∃ (a b : Addr) (es : Eds) (k : Kk), vs = [.ref a, .ref b] ∧ StObj CT H a es ∧ H b = some (.tup [.str k.1, .int k.2]) ∧ Q (.bl (has (keysOf es) k)) H
def spItem (CT CU : Addr) : Sp := fun vs H Q E => ∃ (a b : Addr) (es : Eds) (k : Kk), vs = [.ref a, .ref b] ∧ StObj CT H a es ∧ H b = some (.tup [.str k.1, .int k.2]) ∧ (∀ e ∈ es, e.2 = k → Q (.ref e.1) H) ∧ (k ∉ keysOf es → E (.ref CU) none H)
def spStEq (CT : Addr) : Sp := fun vs H Q _ => ∃ (a b : Addr) (es es' : Eds), vs = [.ref a, .ref b] ∧ StObj CT H a es ∧ StObj CT H b es' ∧ (es.length = es'.length → ∀ e ∈ es, e ∈ es') ∧ Q (.bl (decide (es.length = es'.length))) H
section
variable {P : Program} {w : World} {K : PySem.W.Frag} {mg : Str → Option Value} {base : Heap} {CT CN CU : Addr}
theorem scNames : FnScope ["self"] ["self"] (defScope (sSt 1)) := ⟨rfl, rfl, rfl, by decide +kernel, rfl, by decide +kernel, by decide +kernel⟩
theorem ok_names {f : Addr} {fd : FuncData} (F : Fun K "names" "Store.names" (sSt 1) f fd) (T : TxtT K mg CT CN CU) : FnOk P w K mg base CX0 1 f fd ["self"] (spNames CT) := by
  refine F.ok scNames (fun vs H Q E h => ?_) (fun cdv A outer s H vs Q E hr h => ?_)
  · obtain ⟨a, es, rfl, _⟩ := h
    rfl
  · obtain ⟨a, es, rfl, ⟨⟨dx, tb, nb, h1, h2, ys, p1, p2, kvs, h3, h4, h5⟩, one⟩, k⟩ := h
    refine ⟨_, pss_one (ps_ret (pe_callTy (call_tuple_dK rfl) (by rfl) T.tup (by decide +kernel) (pa_cons (pe_fld (pv 0) rfl) pa_nil))), ?_⟩
    refine ⟨_, rfl, a, CT, dx, _, _, rfl, h1, T.cl, T.nN, rfl, nb, kvs, rfl, h3, fun q nq => ?_⟩
    have e : kvs.map (fun kv => kV kv.1) = (dset (ys.map (·.1))).map V.str := by
      rw [show (fun kv : Key × V => kV kv.1) = kV ∘ Prod.fst from rfl, ← List.map_map, h4, List.map_map]
      rfl
    rw [e]
    exact k ys q p1 p2 nq
theorem scVers : FnScope ["self", "name"] ["self", "name"] (defScope (sSt 2)) := ⟨rfl, rfl, rfl, by decide +kernel, rfl, by decide +kernel, by decide +kernel⟩
theorem ok_vers {f : Addr} {fd : FuncData} (F : Fun K "versions" "Store.versions" (sSt 2) f fd) (T : TxtT K mg CT CN CU) : FnOk P w K mg base (L2.CX P w) 1 f fd ["self", "name"] (spVers CT CN) := by
  refine F.okX scVers (fun vs H Q E h => ?_) (fun cdv A outer s H vs Q E hr h => ?_)
  · obtain ⟨a, es, nm, rfl, _⟩ := h
    rfl
  · obtain ⟨a, es, nm, rfl, ⟨⟨dx, tb, nb, h1, h2, ys, p1, p2, kvs, h3, h4, h5⟩, one⟩, kY, kN⟩ := h
    have hu := hu_of hr
    refine ⟨_, pss_cons (ps_if (pt_cmp (pc_dnotin hu (pv 1) (pe_fld (pv 0) rfl))) (pss_one (ps_raise rfl (takes_of rfl rfl rfl rfl) (SkE.pmk_own1 PySem.F.excBase_ValueError T.en.x T.en.g T.en.k (raises_own T.en.b T.en.t) rfl (pe_joined (.cons pe_str (.cons (pe_fmtR (pv 1)) .nil)))))) pss_nil)
      (pss_one (ps_ret (pe_dget hu (pe_fld (pv 0) rfl) (pv 1) (fun _ _ => rfl)))), ?_⟩
    have mem : ∀ x, x ∈ ys.map (·.1) ↔ x ∈ (keysOf es).map (·.1) := fun x => (p1.map (·.1)).mem_iff
    refine ⟨_, rfl, _, rfl, a, CT, dx, _, _, rfl, h1, T.cl, T.nN, rfl, nb, _, rfl, DGet.k (k := .inr nm) h3, _, rfl, ?_⟩
    by_cases hm : nm ∈ (keysOf es).map (·.1)
    · obtain ⟨t, e1, e2⟩ := h5 nm ((mem nm).mpr hm)
      refine ite_no (by rw [e1]; rfl) ?_
      refine ⟨_, rfl, a, CT, dx, _, _, rfl, h1, T.cl, T.nN, rfl, _, rfl, nb, .ref t, rfl, ?_, kY hm ys t p1 p2 e2⟩
      rw [← e1]
      exact DGet.k (k := .inr nm) h3
    · have e : valV kvs (.inr nm) = none := by
        cases c : valV kvs (.inr nm) with
        | none => rfl
        | some v =>
          have z := valV_in c
          rw [h4] at z
          obtain ⟨q, hq, eq⟩ := List.mem_map.mp z
          injection eq with eq
          subst eq
          exact absurd ((mem q).mp ((mem_dset _ _).mp hq)) hm
      refine ite_yes (by rw [e]; rfl) ?_
      obtain ⟨lr, kE⟩ := kN hm
      refine ⟨_, rfl, (by decide), _, rfl, .inl ⟨nm, rfl, by rw [sizeLine_eq]; omega, _, rfl, ?_, kE⟩⟩
      rw [app_len, app_len, sizeLine_eq]
      have : ("the store has no package " : Str).length = 25 := by decide
      have e0 : (Str.empty).length = 0 := by decide
      omega
theorem scLen : FnScope ["self"] ["self"] (defScope (sSt 3)) := ⟨rfl, rfl, rfl, by decide +kernel, rfl, by decide +kernel, by decide +kernel⟩
theorem ok_len {f : Addr} {fd : FuncData} (F : Fun K "__len__" "Store.__len__" (sSt 3) f fd) (T : TxtT K mg CT CN CU) : FnOk P w K mg base CX0 1 f fd ["self"] (spLen CT) := by
  refine F.ok scLen (fun vs H Q E h => ?_) (fun cdv A outer s H vs Q E hr h => ?_)
  · obtain ⟨a, es, rfl, _⟩ := h
    rfl
  · obtain ⟨a, es, rfl, ⟨⟨dx, tb, nb, h1, h2, _⟩, one⟩, k⟩ := h
    refine ⟨_, pss_one (ps_ret (pe_callB call_len_dT (by rfl) T.len PySem.boot_len (pa_cons (pe_fld (pv 0) rfl) pa_nil))), ?_⟩
    refine ⟨_, rfl, a, CT, dx, _, _, rfl, h1, T.cl, T.nT, rfl, tb, _, rfl, h2, ?_⟩
    have e : (tabOf es).length = es.length := List.length_map _
    rw [e]
    exact k
theorem scHas : FnScope ["self", "x"] ["self", "x"] (defScope (sSt 4)) := ⟨rfl, rfl, rfl, by decide +kernel, rfl, by decide +kernel, by decide +kernel⟩
theorem tab_has {es : Eds} (one : (keysOf es).Nodup) (k : Kk) : (valV (tabOf es) (kk k)).isSome = has (keysOf es) k := by
  by_cases h : k ∈ keysOf es
  · obtain ⟨e, he, rfl⟩ := List.mem_map.mp h
    rw [tab_some one he, has_iff.mpr h]
    rfl
  · rw [tab_none h, has_no h]
    rfl
theorem ok_has {f : Addr} {fd : FuncData} (F : Fun K "__contains__" "Store.__contains__" (sSt 4) f fd) (T : TxtT K mg CT CN CU) : FnOk P w K mg base CX0 1 f fd ["self", "x"] (spHas CT) := by
  refine F.ok scHas (fun vs H Q E h => ?_) (fun cdv A outer s H vs Q E hr h => ?_)
  · obtain ⟨a, b, es, k, rfl, _⟩ := h
    rfl
  · obtain ⟨a, b, es, k, rfl, ⟨⟨dx, tb, nb, h1, h2, _⟩, one⟩, hb, q⟩ := h
    have hu := hu_of hr
    refine ⟨_, pss_one (ps_ret (pe_and (pe_cmp (pc_din hu (pv 1) (pe_fld (pv 0) rfl)) rfl) (pe_one (pe_not (pe_callB call_isi (by rfl) T.isi (by decide +kernel) (pa_cons (pe_ix ix_tup (pv 1) pe_int (fun _ _ => rfl)) (pa_cons (pe_bltn (v := .ty "bool") (by rfl) T.boo (by decide +kernel) rfl) pa_nil))))))), ?_⟩
    refine ⟨_, rfl, _, rfl, a, CT, dx, _, _, rfl, h1, T.cl, T.nT, rfl, tb, _, rfl, DGet.t (k := kk k) h2 hb, _, rfl, ?_⟩
    rw [tab_has one]
    cases c : has (keysOf es) k
    · rw [c] at q
      exact iteF q
    · refine iteT ?_
      rw [c] at q
      refine ⟨_, rfl, b, _, 1, _, rfl, rfl, .inl (.inl hb), rfl, _, _, _, _, _, rfl, .ty _, .base (.int _), kit_ty (r := false) (by decide +kernel), _, rfl, q⟩
theorem scItem : FnScope ["self", "at"] ["self", "at"] (defScope (sSt 5)) := ⟨rfl, rfl, rfl, by decide +kernel, rfl, by decide +kernel, by decide +kernel⟩
theorem ok_item {f : Addr} {fd : FuncData} (F : Fun K "__getitem__" "Store.__getitem__" (sSt 5) f fd) (T : TxtT K mg CT CN CU) {fh : Addr} {fdh : FuncData} (FH : FnOk P w K mg base CX0 1 fh fdh ["self", "x"] (spHas CT)) (hO : OwnSp K CT fh "__contains__") (bh : Binds K fdh ["self", "x"] []) :
    FnOk P w K mg base (L2.CX P w) 2 f fd ["self", "at"] (spItem CT CU) := by
  refine F.okX scItem (fun vs H Q E h => ?_) (fun cdv A outer s H vs Q E hr h => ?_)
  · obtain ⟨a, b, es, k, rfl, _⟩ := h
    rfl
  · obtain ⟨a, b, es, k, rfl, hS, hb, kY, kN⟩ := h
    have hu := hu_of hr
    refine ⟨_, pss_cons (ps_if (pt_cmpR (op_notinO FH hO bh hr pass0) (pv 1) (pv 0) (by rfl)) (pss_one (ps_raise rfl (takes_of rfl rfl rfl rfl) (pmk_own PySem.F.excBase_ValueError T.eu.x T.eu.g T.eu.k (raises_own T.eu.b T.eu.t) rfl))) pss_nil)
      (pss_one (ps_ret (pe_dget hu (pe_fld (pv 0) rfl) (pv 1) (fun _ _ => rfl)))), ?_⟩
    obtain ⟨⟨dx, tb, nb, h1, h2, _⟩, one⟩ := id hS
    refine ⟨_, rfl, _, rfl, a, dx, _, rfl, h1, a, b, es, k, rfl, hS, hb, _, rfl, _, rfl, ?_⟩
    by_cases hm : k ∈ keysOf es
    · rw [has_iff.mpr hm]
      refine ite_no rfl ?_
      obtain ⟨e, he, rfl⟩ := List.mem_map.mp hm
      refine ⟨_, rfl, a, CT, dx, _, _, rfl, h1, T.cl, T.nT, rfl, _, rfl, tb, .ref e.1, rfl, ?_, kY e he rfl⟩
      rw [← tab_some one he]
      exact DGet.t (k := kk e.2) h2 hb
    · rw [has_no hm]
      refine ite_yes rfl ?_
      exact kN hm
theorem scStEq : FnScope ["self", "other"] ["self", "other"] (defScope (sSt 7)) := ⟨rfl, rfl, rfl, by decide +kernel, rfl, by decide +kernel, by decide +kernel⟩
theorem ok_steq {f : Addr} {fd : FuncData} (F : Fun K "__eq__" "Store.__eq__" (sSt 7) f fd) (T : TxtT K mg CT CN CU) : FnOk P w K mg base CX0 1 f fd ["self", "other"] (spStEq CT) := by
  refine F.ok scStEq (fun vs H Q E h => ?_) (fun cdv A outer s H vs Q E hr h => ?_)
  · obtain ⟨a, b, es, es', rfl, _⟩ := h
    rfl
  · obtain ⟨a, b, es, es', rfl, ⟨⟨dx, tb, nb, h1, h2, _⟩, one⟩, ⟨⟨dy, tc, nc, g1, g2, _⟩, one'⟩, hs, k⟩ := h
    have hu := hu_of hr
    refine ⟨_, pss_one (ps_ret (pe_and (pe_callB call_isi (by rfl) T.isi (by decide +kernel) (pa_cons (pv 1) (pa_cons (pe_glob (v := .ref CT) rfl T.mgC rfl) pa_nil)))
      (pe_one (pe_cmpR (op_eqT hu) (pe_fld (pv 0) rfl) (pe_fld (pv 1) rfl) (nomark _))))), ?_⟩
    refine ⟨_, rfl, _, _, _, _, _, rfl, .own CT, .base (.ins g1 T.cl T.ha T.hn T.ht T.hm), T.ki, _, rfl, ?_⟩
    refine iteT ?_
    have e1 : (tabOf es).length = es.length := List.length_map _
    have e2 : (tabOf es').length = es'.length := List.length_map _
    refine ⟨_, rfl, a, CT, dx, _, _, rfl, h1, T.cl, T.nT, rfl, _, rfl, b, CT, dy, _, _, rfl, g1, T.cl, T.nT, rfl, tb, tc, _, _, rfl, rfl, h2, g2, fun hl p hp => ?_, ?_⟩
    · rw [e1, e2] at hl
      obtain ⟨e, he, rfl⟩ := List.mem_map.mp hp
      exact ⟨e.1, rfl, tab_some one' (hs hl e he)⟩
    · rw [e1, e2]
      exact k
end
end Half

namespace Half
open PySem PySem.Spec PyProof.Rows L2 LamX
abbrev sRaised : Stmt := top 37
/-- the nine error classes, in the order in which they are asked for, and the class above them -/
structure ErrsC (K : PySem.W.Frag) (mg : Str → Option Value) (c0 c1 c2 c3 c4 c5 c6 c7 c8 cS : Addr) : Prop where
  isi : mg "isinstance" = none
  ve : mg "ValueError" = none
  g0 : mg "InvalidEdition" = some (.ref c0)
  g1 : mg "InvalidStore" = some (.ref c1)
  g2 : mg "InvalidSystem" = some (.ref c2)
  g3 : mg "Refused" = some (.ref c3)
  g4 : mg "UnknownEdition" = some (.ref c4)
  g5 : mg "UnknownName" = some (.ref c5)
  g6 : mg "InvalidNumber" = some (.ref c6)
  g7 : mg "UnlikeStores" = some (.ref c7)
  g8 : mg "TooMany" = some (.ref c8)
  gS : mg "SetupError" = some (.ref cS)
  x0 : XfC K c0
  x1 : XfC K c1
  x2 : XfC K c2
  x3 : XfC K c3
  n0 : PySem.W.findIn K (.ref c0) "part" = some none
  n1 : PySem.W.findIn K (.ref c1) "index" = some none
  n2 : PySem.W.findIn K (.ref c2) "package" = some none
  n3 : PySem.W.findIn K (.ref c3) "why" = some none
/-- what isinstance says of an error of the class at D: bs of the nine classes -/
structure ErrIs (K : PySem.W.Frag) (D c0 c1 c2 c3 c4 c5 c6 c7 c8 cS : Addr) (b0 b1 b2 b3 b4 b5 b6 b7 b8 : Bool) : Prop where
  ex : ExcC K D
  k0 : PySem.W.kitOne K (.ref D) (.ref c0) = some b0
  k1 : PySem.W.kitOne K (.ref D) (.ref c1) = some b1
  k2 : PySem.W.kitOne K (.ref D) (.ref c2) = some b2
  k3 : PySem.W.kitOne K (.ref D) (.ref c3) = some b3
  k4 : PySem.W.kitOne K (.ref D) (.ref c4) = some b4
  k5 : PySem.W.kitOne K (.ref D) (.ref c5) = some b5
  k6 : PySem.W.kitOne K (.ref D) (.ref c6) = some b6
  k7 : PySem.W.kitOne K (.ref D) (.ref c7) = some b7
  k8 : PySem.W.kitOne K (.ref D) (.ref c8) = some b8
  kv : PySem.W.kitOne K (.ref D) (.type "ValueError") = some true
  em : PySem.W.exmOne K (.ref D) (.ref cS) = some true
theorem scRaised : FnScope ["_law_work", "e", "_law_kinds", "_law_at"] ["_law_work"] (defScope sRaised) := ⟨rfl, rfl, rfl, by decide +kernel, rfl, by decide +kernel, by decide +kernel⟩
/-- what is made of the work: None, or the error's word -/
def TRaised (c1 c4 c5 : Addr) : (XK → Hp → VK → Prop) → Hp → VK → Prop := fun tl H Q =>
  tl (fun cls d H' => (cls = .ref c1 ∧ ∃ (dd : Addr) (n : Int), d = some dd ∧ H' dd = some (.xd [("index", .int n)]) ∧ ∀ H'' t, Same H' H'' → H'' t = some (.tup [.str "store", .int n]) → Q (.ref t) H'') ∨
    (cls = .ref c4 ∧ d = none ∧ ∀ H'' t, Same H' H'' → H'' t = some (.tup [.str "edition"]) → Q (.ref t) H'') ∨ (cls = .ref c5 ∧ d = none ∧ ∀ H'' t, Same H' H'' → H'' t = some (.tup [.str "name"]) → Q (.ref t) H'')) H (fun _ H' => Q .non H')
theorem ahead {L : List V} {j : Nat} (h : (L.take j).all (fun z => !eqV z (.bl true)) = true) : ∀ m z', m < j → L[m]? = some z' → eqV z' (.bl true) = false := fun m z' hm hz => by
  have e : (L.take j)[m]? = some z' := by rw [List.getElem?_take_of_lt hm]; exact hz
  simpa using List.all_eq_true.mp h z' (List.mem_of_getElem? e)
theorem same3 {H H1 : Hp} {p : Addr} {o : HO} (s : Same H H1) (h : H1 p = none) : Same H (upd H1 p o) := s.trans (Same.upd_new h)
/-! rules whose reading names the written part by itself -/
theorem pe_bmK {X : Cx} {K : PySem.W.Frag} {o e : Expr} {es : List Expr} {to : TE} {t : TA} {name : Str} {apos cpos : Pos} {T id : String} {r : V → List V → Hp → VK → Prop} (hK : X.K = K) (pa : PlainAttrs T) (slot : Slot T name id) (hty : typeOf (.builtin id) = pure (.type "method_descriptor")) (hm : MtR X id r) (ho : PE X o to) (ha : PA X (e :: es) t)
    (h1 : attributeBase o name X.env (eval o X.env) = eval o X.env := by rfl)
    (h2 : ((backTo cpos (starEach (e :: es) X.env)).all (fun x => !x.1) && (backToKw cpos (keywordEach [] X.env)).all (fun x => x.1.isSome) && decide ((e :: es).length + ([] : List Keyword).length + (if ([] : List Keyword).isEmpty then 0 else 1) < 30)) = true := by rfl)
    (h3 : (apos.endLine == cpos.line) = true := by rfl) (h4 : starEach (e :: es) X.env = (false, eval e X.env) :: starEach es X.env := by rfl) (h5 : (backTo cpos (starEach es X.env)).any (·.1) = false := by rfl) :
    PE X (.Call (.Attribute o name apos) (e :: es) [] cpos) (tBM K T r to t) := by
  subst hK
  exact pe_bm pa slot hty hm ho ha h1 h2 h3 h4 h5
theorem mt_countK {X : Cx} {K : PySem.W.Frag} (hK : X.K = K) : MtR X "list.count" (rCntB K) := by subst hK; exact mt_countB
theorem mt_indexK {X : Cx} {K : PySem.W.Frag} (hK : X.K = K) : MtR X "list.index" (rIndex K) := by subst hK; exact mt_index
theorem ix_listK {X : Cx} {K : PySem.W.Frag} (hK : X.K = K) : IxR X (rIxL K) := by subst hK; exact ix_list
theorem isx_read {K : PySem.W.Frag} {a D c dd : Addr} {d : Option Addr} {b : Bool} {H : Hp} {fs : List (Str × V)} {Q : VK} (ex : ExcC K D) (k : PySem.W.kitOne K (.ref D) (.ref c) = some b) (hd : d = some dd) (hx : H dd = some (.xd fs)) (q : Q (.bl b) H) : rIsX K a (.ref D) d [.ref a, .ref c] H Q :=
  ⟨.ref c, .ref c, b, D, rfl, fun u h => h, rfl, ex, k, .inr ⟨dd, fs, hd, hx⟩, q⟩
theorem isv_read {K : PySem.W.Frag} {a D dd : Addr} {d : Option Addr} {T : String} {b : Bool} {H : Hp} {fs : List (Str × V)} {Q : VK} (ex : ExcC K D) (k : PySem.W.kitOne K (.ref D) (.type T) = some b) (hd : d = some dd) (hx : H dd = some (.xd fs)) (q : Q (.bl b) H) : rIsX K a (.ref D) d [.ref a, .ty T] H Q :=
  ⟨.ty T, .type T, b, D, rfl, fun u h => h, rfl, ex, k, .inr ⟨dd, fs, hd, hx⟩, q⟩
theorem takes_len {X : Cx} {W : WX} (tk : Takes X W) : Takes X (fun cls d σ H => σ.length = X.N.length → W cls d σ H) := fun u s' x => by
  obtain ⟨a, B, sI, pins, σ, H, cls, d, e, I, nb, up, sky, na, os, ag, w⟩ := x
  exact tk u s' ⟨a, B, sI, pins, σ, H, cls, d, e, I, nb, up, sky, na, os, ag, w I.len⟩
section
variable {X : Cx} {c0 c1 c2 c3 c4 c5 c6 c7 c8 cS : Addr}
theorem raised_gives (T : ErrsC X.K X.mg c0 c1 c2 c3 c4 c5 c6 c7 c8 cS) (I1 : ErrIs X.K c1 c0 c1 c2 c3 c4 c5 c6 c7 c8 cS false true false false false false false false false) (I4 : ErrIs X.K c4 c0 c1 c2 c3 c4 c5 c6 c7 c8 cS false false false false true false false false false)
    (I5 : ErrIs X.K c5 c0 c1 c2 c3 c4 c5 c6 c7 c8 cS false false false false false true false false false) {g : Addr} {cdg : Value} {q : Str} :
    GivesTo X ["_law_work", "e", "_law_kinds", "_law_at"] "_law_raised" (defScope sRaised) g cdg (defBody sRaised) "_law_work" q (TRaised c1 c4 c5) := by
  intro f c' s H Q tl act hc h
  have nd := scRaised.nd
  refine ⟨_, pss_cons (ps_try_as (i := 1) (X := (cxOf C8.CX0 X.prog X.w X.K X.mg X.base ["_law_work", "e", "_law_kinds", "_law_at"] "_law_raised" (defScope sRaised) g cdg X.A X.stack s H C8.E0).nox) (c := .ref cS)
      (tb := fun W D σ H => ∃ Ech : XK, (∀ cls d σ' H', Ech cls d H' → σ'.length = 4 → W cls d σ' H') ∧ σ[0]? = some (some (.ref f)) ∧ H c' = some (CodeO c' q) ∧ tl Ech H (fun _ H' => D.nx σ H'))
      rfl rfl nd rfl rfl ⟨rfl, by decide, .inl T.gS⟩ LamX.takes0 (fun W pn xe tk _ => ?_) (fun a oe cls d pn hz hf => (pss_cons (ps_set (i := 2) nd rfl (Or.inl rfl) (pe_lst
        (pa_cons (pe_callB (call_isX hz hf) (by rfl) T.isi (by decide +kernel) (pa_cons (pv 1) (pa_cons (pe_glob (v := .ref c0) rfl T.g0 rfl) pa_nil)))
        (pa_cons (pe_callB (call_isX hz hf) (by rfl) T.isi (by decide +kernel) (pa_cons (pv 1) (pa_cons (pe_glob (v := .ref c1) rfl T.g1 rfl) pa_nil)))
        (pa_cons (pe_callB (call_isX hz hf) (by rfl) T.isi (by decide +kernel) (pa_cons (pv 1) (pa_cons (pe_glob (v := .ref c2) rfl T.g2 rfl) pa_nil))) pa_nil)))))
      (pss_cons (ps_set (i := 2) nd rfl (Or.inl rfl) (pe_op op_cat (pv 2) (pe_lst
        (pa_cons (pe_callB (call_isX hz hf) (by rfl) T.isi (by decide +kernel) (pa_cons (pv 1) (pa_cons (pe_glob (v := .ref c3) rfl T.g3 rfl) pa_nil)))
        (pa_cons (pe_callB (call_isX hz hf) (by rfl) T.isi (by decide +kernel) (pa_cons (pv 1) (pa_cons (pe_glob (v := .ref c4) rfl T.g4 rfl) pa_nil)))
        (pa_cons (pe_callB (call_isX hz hf) (by rfl) T.isi (by decide +kernel) (pa_cons (pv 1) (pa_cons (pe_glob (v := .ref c5) rfl T.g5 rfl) pa_nil))) pa_nil))))))
      (pss_cons (ps_set (i := 2) nd rfl (Or.inl rfl) (pe_op op_cat (pv 2) (pe_lst
        (pa_cons (pe_callB (call_isX hz hf) (by rfl) T.isi (by decide +kernel) (pa_cons (pv 1) (pa_cons (pe_glob (v := .ref c6) rfl T.g6 rfl) pa_nil)))
        (pa_cons (pe_callB (call_isX hz hf) (by rfl) T.isi (by decide +kernel) (pa_cons (pv 1) (pa_cons (pe_glob (v := .ref c7) rfl T.g7 rfl) pa_nil)))
        (pa_cons (pe_callB (call_isX hz hf) (by rfl) T.isi (by decide +kernel) (pa_cons (pv 1) (pa_cons (pe_glob (v := .ref c8) rfl T.g8 rfl) pa_nil))) pa_nil))))))
      (pss_cons (ps_if (PW.pt (pw_or (pt_cmpR op_ne (pe_bmK (K := X.K) rfl PySem.F.plainAttrs_list PySem.F.slot_list_count PySem.F.type_list_count (mt_countK (K := X.K) rfl) (pv 2) (pa_cons pe_bl pa_nil)) pe_int (nomark _))
          (pw_or1 (pt_not (pt_val (pe_callB (call_isX hz hf) (by rfl) T.isi (by decide +kernel) (pa_cons (pv 1) (pa_cons (pe_bltn (v := .ty "ValueError") (by rfl) T.ve (by decide +kernel) rfl) pa_nil))))))))
          (pss_one (ps_ret (pe_tup (pa_cons pe_str pa_nil)))) pss_nil)
      (pss_cons (ps_set (i := 3) nd rfl (Or.inl rfl) (pe_bmK (K := X.K) rfl PySem.F.plainAttrs_list PySem.F.slot_list_index PySem.F.type_list_index (mt_indexK (K := X.K) rfl) (pv 2) (pa_cons pe_bl pa_nil)))
      (pss_cons (ps_if (pt_cmpR op_eq (pv 3) pe_int (nomark _)) (pss_one (ps_ret (pe_tup (pa_cons pe_str (pa_cons (pe_xf T.x0 T.n0 hz hf (pv 1)) pa_nil))))) pss_nil)
      (pss_cons (ps_if (pt_cmpR op_eq (pv 3) pe_int (nomark _)) (pss_one (ps_ret (pe_tup (pa_cons pe_str (pa_cons (pe_xf T.x1 T.n1 hz hf (pv 1)) pa_nil))))) pss_nil)
      (pss_cons (ps_if (pt_cmpR op_eq (pv 3) pe_int (nomark _)) (pss_one (ps_ret (pe_tup (pa_cons pe_str (pa_cons (pe_xf T.x2 T.n2 hz hf (pv 1)) pa_nil))))) pss_nil)
      (pss_one (ps_ret (pe_ifExp (pt_cmpR op_eq (pv 3) pe_int (nomark _)) (pe_tup (pa_cons pe_str (pa_cons (pe_xf T.x3 T.n3 hz hf (pv 1)) pa_nil)))
        (pe_tup (pa_cons (pe_ix (ix_listK (K := X.K) rfl) (pe_lst (pa_cons pe_str (pa_cons pe_str (pa_cons pe_str (pa_cons pe_str (pa_cons pe_str pa_nil)))))) (pe_op op_sub (pv 3) pe_int) (fun _ _ => rfl)) pa_nil))))))))))))))) (pss_one (ps_ret pe_non)), ?_⟩
  · refine ⟨fun pins s' σ H' D I h' => ?_⟩
    obtain ⟨Ech, hW, h1, h2, h3⟩ := h'
    exact (pss_one (ps_expr (act _ pn xe Ech _ _ (takes_len tk) (fun cls d σ' H' e hl => hW cls d σ' H' e hl)))).run pins s' σ H' D I ⟨h1, h2, h3⟩
  · refine ⟨_, fun cls d σ' H2 hE hl => ?_, rfl, hc, h⟩
    obtain ⟨x0, x1, x2, x3, rfl⟩ : ∃ x0 x1 x2 x3, σ' = [x0, x1, x2, x3] := by
      match σ', hl with
      | [x0, x1, x2, x3], _ => exact ⟨x0, x1, x2, x3, rfl⟩
    have three : 3 ≤ sizeLine := by decide
    rcases hE with ⟨rfl, dd, n, rfl, hx, k⟩ | ⟨rfl, rfl, k⟩ | ⟨rfl, rfl, k⟩
    · refine ⟨true, I1.em, fun _ a ha => ?_, fun z => nomatch z⟩
      refine ⟨_, rfl, _, _, _, _, rfl, (fun u h => h), rfl, I1.ex, I1.k0, .inr ⟨dd, _, rfl, hx⟩, _, rfl, _, _, _, _, rfl, (fun u h => h), rfl, I1.ex, I1.k1, .inr ⟨dd, _, rfl, hx⟩, _, rfl, _, _, _, _, rfl, (fun u h => h), rfl, I1.ex, I1.k2, .inr ⟨dd, _, rfl, hx⟩, three, fun p1 n1 => ?_⟩
      have s1 : Same H2 _ := Same.upd_new (o := .lst [.bl false, .bl true, .bl false]) n1
      have hx1 := s1 _ _ hx
      refine ⟨_, rfl, _, rfl, _, _, _, _, rfl, (fun u h => h), rfl, I1.ex, I1.k3, .inr ⟨dd, _, rfl, hx1⟩, _, rfl, _, _, _, _, rfl, (fun u h => h), rfl, I1.ex, I1.k4, .inr ⟨dd, _, rfl, hx1⟩, _, rfl, _, _, _, _, rfl, (fun u h => h), rfl, I1.ex, I1.k5, .inr ⟨dd, _, rfl, hx1⟩, three, fun p2 n2 => ?_⟩
      have s2 := s1.trans (Same.upd_new (o := .lst [.bl false, .bl false, .bl false]) n2)
      refine ⟨p1, p2, _, _, rfl, rfl, (by rw [upd_ne (ne_of_none upd_same n2), upd_same]), upd_same, (by show 6 ≤ sizeLine; decide), fun p3 n3 => ?_⟩
      have s3 := s2.trans (Same.upd_new (o := .lst [.bl false, .bl true, .bl false, .bl false, .bl false, .bl false]) n3)
      have hx3 := s3 _ _ hx
      refine ⟨_, rfl, _, rfl, _, _, _, _, rfl, (fun u h => h), rfl, I1.ex, I1.k6, .inr ⟨dd, _, rfl, hx3⟩, _, rfl, _, _, _, _, rfl, (fun u h => h), rfl, I1.ex, I1.k7, .inr ⟨dd, _, rfl, hx3⟩, _, rfl, _, _, _, _, rfl, (fun u h => h), rfl, I1.ex, I1.k8, .inr ⟨dd, _, rfl, hx3⟩, three, fun p4 n4 => ?_⟩
      have s4 := s3.trans (Same.upd_new (o := .lst [.bl false, .bl false, .bl false]) n4)
      refine ⟨p3, p4, _, _, rfl, rfl, (by rw [upd_ne (ne_of_none upd_same n4)]; exact upd_same), upd_same, (by show 9 ≤ sizeLine; decide), fun p5 n5 => ?_⟩
      have s5 := s4.trans (Same.upd_new (o := .lst [.bl false, .bl true, .bl false, .bl false, .bl false, .bl false, .bl false, .bl false, .bl false]) n5)
      have hx5 := s5 _ _ hx
      refine ⟨_, rfl, .inl ⟨rfl, _, SqL.of upd_same⟩, p5, [false, true, false, false, false, false, false, false, false], rfl, rfl, SqL.of upd_same, rfl, _, rfl, ?_⟩
      refine iteF ?_
      refine ⟨_, rfl, _, _, _, _, rfl, (fun u h => h), rfl, I1.ex, I1.kv, .inr ⟨dd, _, rfl, hx5⟩, _, rfl, ?_⟩
      refine iteF ?_
      refine ⟨_, rfl, .inl ⟨rfl, _, SqL.of upd_same⟩, p5, _, _, 1, _, rfl, rfl, SqL.of upd_same, rfl, rfl, rfl, rfl, ?none1, ?_⟩
      case none1 => exact ahead (by rfl)
      refine ⟨_, rfl, rfl, _, rfl, ?_⟩
      refine iteF ?_
      refine ⟨_, rfl, rfl, _, rfl, ?_⟩
      refine iteT ?_
      refine ⟨_, rfl, rfl, rfl, dd, _, _, rfl, hx5, rfl, two_le, fun t nt => ?_⟩
      exact k _ t (s5.trans (Same.upd_new nt)) upd_same
    · refine ⟨true, I4.em, fun _ a ha => ?_, fun z => nomatch z⟩
      refine ⟨_, rfl, _, _, _, _, rfl, (fun u h => h), rfl, I4.ex, I4.k0, .inl rfl, _, rfl, _, _, _, _, rfl, (fun u h => h), rfl, I4.ex, I4.k1, .inl rfl, _, rfl, _, _, _, _, rfl, (fun u h => h), rfl, I4.ex, I4.k2, .inl rfl, three, fun p1 n1 => ?_⟩
      have s1 : Same H2 _ := Same.upd_new (o := .lst [.bl false, .bl false, .bl false]) n1
      refine ⟨_, rfl, _, rfl, _, _, _, _, rfl, (fun u h => h), rfl, I4.ex, I4.k3, .inl rfl, _, rfl, _, _, _, _, rfl, (fun u h => h), rfl, I4.ex, I4.k4, .inl rfl, _, rfl, _, _, _, _, rfl, (fun u h => h), rfl, I4.ex, I4.k5, .inl rfl, three, fun p2 n2 => ?_⟩
      have s2 := s1.trans (Same.upd_new (o := .lst [.bl false, .bl true, .bl false]) n2)
      refine ⟨p1, p2, _, _, rfl, rfl, (by rw [upd_ne (ne_of_none upd_same n2), upd_same]), upd_same, (by show 6 ≤ sizeLine; decide), fun p3 n3 => ?_⟩
      have s3 := s2.trans (Same.upd_new (o := .lst [.bl false, .bl false, .bl false, .bl false, .bl true, .bl false]) n3)
      refine ⟨_, rfl, _, rfl, _, _, _, _, rfl, (fun u h => h), rfl, I4.ex, I4.k6, .inl rfl, _, rfl, _, _, _, _, rfl, (fun u h => h), rfl, I4.ex, I4.k7, .inl rfl, _, rfl, _, _, _, _, rfl, (fun u h => h), rfl, I4.ex, I4.k8, .inl rfl, three, fun p4 n4 => ?_⟩
      have s4 := s3.trans (Same.upd_new (o := .lst [.bl false, .bl false, .bl false]) n4)
      refine ⟨p3, p4, _, _, rfl, rfl, (by rw [upd_ne (ne_of_none upd_same n4)]; exact upd_same), upd_same, (by show 9 ≤ sizeLine; decide), fun p5 n5 => ?_⟩
      have s5 := s4.trans (Same.upd_new (o := .lst [.bl false, .bl false, .bl false, .bl false, .bl true, .bl false, .bl false, .bl false, .bl false]) n5)
      refine ⟨_, rfl, .inl ⟨rfl, _, SqL.of upd_same⟩, p5, [false, false, false, false, true, false, false, false, false], rfl, rfl, SqL.of upd_same, rfl, _, rfl, ?_⟩
      refine iteF ?_
      refine ⟨_, rfl, _, _, _, _, rfl, (fun u h => h), rfl, I4.ex, I4.kv, .inl rfl, _, rfl, ?_⟩
      refine iteF ?_
      refine ⟨_, rfl, .inl ⟨rfl, _, SqL.of upd_same⟩, p5, _, _, 4, _, rfl, rfl, SqL.of upd_same, rfl, rfl, rfl, rfl, ?none4, ?_⟩
      case none4 => exact ahead (by rfl)
      refine ⟨_, rfl, rfl, _, rfl, ?_⟩
      refine iteF ?_
      refine ⟨_, rfl, rfl, _, rfl, ?_⟩
      refine iteF ?_
      refine ⟨_, rfl, rfl, _, rfl, ?_⟩
      refine iteF ?_
      refine ⟨_, rfl, rfl, _, rfl, ?_⟩
      refine iteF ?_
      refine ⟨(by show 5 ≤ sizeLine; decide), fun p6 n6 => ?_⟩
      have s6 := s5.trans (Same.upd_new (o := .lst [.str "edition", .str "name", .str "number", .str "stores", .str "many"]) n6)
      refine ⟨_, rfl, _, _, rfl, rfl, p6, _, _, _, rfl, rfl, SqL.of upd_same, rfl, (by show 1 ≤ sizeLine; decide), fun t nt => ?_⟩
      exact k _ t (s6.trans (Same.upd_new nt)) upd_same
    · refine ⟨true, I5.em, fun _ a ha => ?_, fun z => nomatch z⟩
      refine ⟨_, rfl, _, _, _, _, rfl, (fun u h => h), rfl, I5.ex, I5.k0, .inl rfl, _, rfl, _, _, _, _, rfl, (fun u h => h), rfl, I5.ex, I5.k1, .inl rfl, _, rfl, _, _, _, _, rfl, (fun u h => h), rfl, I5.ex, I5.k2, .inl rfl, three, fun p1 n1 => ?_⟩
      have s1 : Same H2 _ := Same.upd_new (o := .lst [.bl false, .bl false, .bl false]) n1
      refine ⟨_, rfl, _, rfl, _, _, _, _, rfl, (fun u h => h), rfl, I5.ex, I5.k3, .inl rfl, _, rfl, _, _, _, _, rfl, (fun u h => h), rfl, I5.ex, I5.k4, .inl rfl, _, rfl, _, _, _, _, rfl, (fun u h => h), rfl, I5.ex, I5.k5, .inl rfl, three, fun p2 n2 => ?_⟩
      have s2 := s1.trans (Same.upd_new (o := .lst [.bl false, .bl false, .bl true]) n2)
      refine ⟨p1, p2, _, _, rfl, rfl, (by rw [upd_ne (ne_of_none upd_same n2), upd_same]), upd_same, (by show 6 ≤ sizeLine; decide), fun p3 n3 => ?_⟩
      have s3 := s2.trans (Same.upd_new (o := .lst [.bl false, .bl false, .bl false, .bl false, .bl false, .bl true]) n3)
      refine ⟨_, rfl, _, rfl, _, _, _, _, rfl, (fun u h => h), rfl, I5.ex, I5.k6, .inl rfl, _, rfl, _, _, _, _, rfl, (fun u h => h), rfl, I5.ex, I5.k7, .inl rfl, _, rfl, _, _, _, _, rfl, (fun u h => h), rfl, I5.ex, I5.k8, .inl rfl, three, fun p4 n4 => ?_⟩
      have s4 := s3.trans (Same.upd_new (o := .lst [.bl false, .bl false, .bl false]) n4)
      refine ⟨p3, p4, _, _, rfl, rfl, (by rw [upd_ne (ne_of_none upd_same n4)]; exact upd_same), upd_same, (by show 9 ≤ sizeLine; decide), fun p5 n5 => ?_⟩
      have s5 := s4.trans (Same.upd_new (o := .lst [.bl false, .bl false, .bl false, .bl false, .bl false, .bl true, .bl false, .bl false, .bl false]) n5)
      refine ⟨_, rfl, .inl ⟨rfl, _, SqL.of upd_same⟩, p5, [false, false, false, false, false, true, false, false, false], rfl, rfl, SqL.of upd_same, rfl, _, rfl, ?_⟩
      refine iteF ?_
      refine ⟨_, rfl, _, _, _, _, rfl, (fun u h => h), rfl, I5.ex, I5.kv, .inl rfl, _, rfl, ?_⟩
      refine iteF ?_
      refine ⟨_, rfl, .inl ⟨rfl, _, SqL.of upd_same⟩, p5, _, _, 5, _, rfl, rfl, SqL.of upd_same, rfl, rfl, rfl, rfl, ?none5, ?_⟩
      case none5 => exact ahead (by rfl)
      refine ⟨_, rfl, rfl, _, rfl, ?_⟩
      refine iteF ?_
      refine ⟨_, rfl, rfl, _, rfl, ?_⟩
      refine iteF ?_
      refine ⟨_, rfl, rfl, _, rfl, ?_⟩
      refine iteF ?_
      refine ⟨_, rfl, rfl, _, rfl, ?_⟩
      refine iteF ?_
      refine ⟨(by show 5 ≤ sizeLine; decide), fun p6 n6 => ?_⟩
      have s6 := s5.trans (Same.upd_new (o := .lst [.str "edition", .str "name", .str "number", .str "stores", .str "many"]) n6)
      refine ⟨_, rfl, _, _, rfl, rfl, p6, _, _, _, rfl, rfl, SqL.of upd_same, rfl, (by show 1 ≤ sizeLine; decide), fun t nt => ?_⟩
      exact k _ t (s6.trans (Same.upd_new nt)) upd_same
end
end Half

namespace Half
open PySem PySem.Spec PyProof.Rows L2 LamX
abbrev sLaw : Stmt := top 38
abbrev LawN : List Str := ["_law_script", "_law_row", "_law_keys", "_law_names", "_law_wrong", "_law_k", "_law_key", "_law_name", "_law_known", "_law_is_bad", "_law_other", "_law_words", "_law_some", "_law_store", "_law_version", "_law_one"]
theorem scLaw : FnScope LawN ["_law_script"] (defScope sLaw) := ⟨rfl, rfl, rfl, by decide +kernel, rfl, by decide +kernel, by decide +kernel⟩
def nth (l : List Stmt) (i : Nat) : Stmt := l.getD i (.Pass ⟨0, 0, 0, 0⟩)
/-! ### keys as data -/
theorem pairD_eqv (z w : Kk) : PyData.eqv (pairD z) (pairD w) = decide (z = w) := by
  obtain ⟨a, b⟩ := z
  obtain ⟨a', b'⟩ := w
  have e : PyData.eqv (pairD (a, b)) (pairD (a', b')) = ((a == a') && ((b == b') && true)) := by simp only [pairD, PyData.eqv, PyData.eqvAll]
  rw [e]
  by_cases h1 : a = a'
  · by_cases h2 : b = b'
    · subst h1 h2
      simp
    · have : ¬ ((a, b) : Kk) = (a', b') := fun z => h2 (congrArg Prod.snd z)
      rw [decide_eq_false this]
      simp [h2]
  · have : ¬ ((a, b) : Kk) = (a', b') := fun z => h1 (congrArg Prod.fst z)
    rw [decide_eq_false this]
    simp [h1]
theorem any_eqv (ks : List Kk) (k : Kk) : ((ks.map pairD).any fun z => PyData.eqv z (pairD k)) = has ks k := by
  unfold has
  rw [List.any_map]
  congr 1
  funext y
  exact pairD_eqv y k
theorem pairs_lay : ∀ ks : List Kk, (∀ k ∈ ks, PyData.strOk k.1 = true) → PyData.canLayAll0 (ks.map pairD) = true ∧ PyData.depthAll (ks.map pairD) ≤ 3
  | [], _ => ⟨by simp [PyData.canLayAll0], by simp [PyData.depthAll]⟩
  | k :: ks, h => by
    obtain ⟨i1, i2⟩ := pairs_lay ks fun x hx => h x (List.mem_cons_of_mem _ hx)
    have hk := h k List.mem_cons_self
    refine ⟨?_, ?_⟩
    · simp [PyData.canLayAll0, pairD, PyData.canLay0, hk, i1]
    · simp only [List.map_cons, PyData.depthAll, pairD, PyData.depth]
      omega
theorem pair_shaped {k : Kk} (h : PyData.strOk k.1 = true) : SeqAt.shaped (pairD k) = true := by
  simp [SeqAt.shaped, pairD, PyData.canLay0, PyData.canLayAll0, PyData.depth, PyData.depthAll, h]
theorem pairs_shaped {ks : List Kk} (h : ∀ k ∈ ks, PyData.strOk k.1 = true) : SeqAt.shaped (.list (ks.map pairD)) = true := by
  obtain ⟨i1, i2⟩ := pairs_lay ks h
  show (PyData.canLay0 (.list (ks.map pairD)) && decide (PyData.depth (.list (ks.map pairD)) ≤ 64)) = true
  rw [Bool.and_eq_true]
  exact ⟨by simp only [PyData.canLay0]; exact i1, decide_eq_true (by simp only [PyData.depth]; omega)⟩
theorem keys_dp {K : PySem.W.Frag} {H : Hp} : ∀ (bs : List (Addr × Kk)), KeysIn H bs → DpAll K H (bs.map fun b => .ref b.1) ((bs.map (·.2)).map pairD)
  | [], _ => .nil
  | b :: bs, h => .cons (.tup (.inl (.inl (h b List.mem_cons_self))) (.cons (.str _) (.cons (.int _) .nil))) (keys_dp bs fun x hx => h x (List.mem_cons_of_mem _ hx))
/-! ### the first wrong one, one key more -/
def firstB (ks : List Kk) : Option Nat := (List.range ks.length).find? (lawB ks)
def endB (ks : List Kk) (k : Kk) : Bool := has ks k || (decide (ks.length = 12) || (!has (ks.map (·.1)) k.1 && decide (nd (ks.map (·.1)) = 4)))
theorem lawB_app {ks : List Kk} {k : Kk} {j : Nat} (h : j < ks.length) : lawB (ks ++ [k]) j = lawB ks j := by
  unfold lawB
  rw [List.getElem?_append_left h, List.take_append_of_le_length (Nat.le_of_lt h)]
theorem lawB_end (ks : List Kk) (k : Kk) : lawB (ks ++ [k]) ks.length = endB ks k := by
  unfold lawB endB
  rw [List.getElem?_append_right (Nat.le_refl _), Nat.sub_self, List.take_append_of_le_length (Nat.le_refl _), List.take_length]
  rfl
theorem find_congr {p q : Nat → Bool} : ∀ {l : List Nat}, (∀ x ∈ l, p x = q x) → l.find? p = l.find? q
  | [], _ => rfl
  | x :: l, h => by
    rw [List.find?_cons, List.find?_cons, h x List.mem_cons_self, find_congr fun y hy => h y (List.mem_cons_of_mem _ hy)]
theorem first_snoc (ks : List Kk) (k : Kk) : firstB (ks ++ [k]) = match firstB ks with
    | some i => some i
    | none => if endB ks k = true then some ks.length else none := by
  unfold firstB
  rw [List.length_append, List.length_singleton, List.range_succ, List.find?_append, find_congr (q := lawB ks) fun x hx => lawB_app (List.mem_range.mp hx), List.find?_singleton, lawB_end]
  cases (List.range ks.length).find? (lawB ks) <;> rfl
/-! ### the heap of the law's first half -/
def NM5 : List Str := ["ace", "bob", "cat", "dog", "eel"]
def good (k : Kk) : Prop := k.1 ∈ NM5 ∧ 1 ≤ k.2 ∧ k.2 ≤ 24
theorem nm5_ok : ∀ x ∈ NM5, PyData.strOk x = true ∧ isWord x = true ∧ x.length ≤ 1000 := by
  intro x h
  unfold NM5 at h
  simp only [List.mem_cons, List.not_mem_nil, or_false] at h
  rcases h with rfl | rfl | rfl | rfl | rfl <;> decide +kernel
theorem good_ok {k : Kk} (h : good k) : PyData.strOk k.1 = true := (nm5_ok _ h.1).1
structure LH (K : PySem.W.Frag) (PT r a l n : Addr) (nms : List Str) (bs : List (Addr × Kk)) (H : Hp) : Prop where
  row : Row K H r a
  keys : H l = some (.lst (bs.map fun b => .ref b.1))
  tu : KeysIn H bs
  nam : H n = some (.lst (nms.map V.str))
  pt : H PT = some (.tbl #[])
  rl : r ≠ l
  rn : r ≠ n
  ln : l ≠ n
  al : a ≠ l ∨ ∃ ns : List Int, ns.length ≤ 63 ∧ ∀ H', SqL K H' a (ns.map V.int)
  ok : ∀ b ∈ bs, good b.2
  nm : nms ≠ [] ∧ nms.length ≤ 5 ∧ ∀ x ∈ nms, x ∈ NM5
section
variable {K : PySem.W.Frag} {PT r a l n : Addr} {nms : List Str} {bs : List (Addr × Kk)} {H H' : Hp}
theorem Row.same (S : Same H H') (h : Row K H r a) : Row K H' r a := by
  obtain ⟨ns, i, g, l, h1, h2, h3⟩ := h
  exact ⟨ns, i, g, l, S _ _ h1, S.seq h2, h3⟩
theorem LH.same (S : Same H H') (h : LH K PT r a l n nms bs H) : LH K PT r a l n nms bs H' :=
  ⟨h.row.same S, S _ _ h.keys, fun b hb => S _ _ (h.tu b hb), S _ _ h.nam, S _ _ h.pt, h.rl, h.rn, h.ln, h.al, h.ok, h.nm⟩
theorem LH.draw {o : HO} (R : Row K (upd H r o) r a) (h : LH K PT r a l n nms bs H) : LH K PT r a l n nms bs (upd H r o) := by
  obtain ⟨ns, i, g, z, h1, _⟩ := h.row
  refine ⟨R, ?_, fun b hb => ?_, ?_, ?_, h.rl, h.rn, h.ln, h.al, h.ok, h.nm⟩
  · rw [upd_ne (Ne.symm h.rl)]; exact h.keys
  · rw [upd_ne (ne_of (h.tu b hb) h1 (fun z => by cases z))]; exact h.tu b hb
  · rw [upd_ne (Ne.symm h.rn)]; exact h.nam
  · rw [upd_ne (ne_of h.pt h1 (fun z => by cases z))]; exact h.pt
theorem LH.app {tk : Addr} {k : Kk} (h : LH K PT r a l n nms bs H) (ht : H tk = some (.tup [.str k.1, .int k.2])) (hk : good k) :
    LH K PT r a l n nms (bs ++ [(tk, k)]) (upd H l (.lst ((bs.map fun b => .ref b.1) ++ [.ref tk]))) := by
  refine ⟨?_, ?_, fun b hb => ?_, ?_, ?_, h.rl, h.rn, h.ln, h.al, fun b hb => ?_, h.nm⟩
  · obtain ⟨ns, i, g, z, h1, h2, h3, h4⟩ := h.row
    rcases h.al with q | ⟨ns', q1, q2⟩
    · exact ⟨ns, i, g, z, by rw [upd_ne h.rl]; exact h1, seqNe h2 (Ne.symm q), h3, h4⟩
    · exact ⟨ns', i, g, z, by rw [upd_ne h.rl]; exact h1, q2 _, q1, h4⟩
  · rw [upd_same, List.map_append]; rfl
  · rcases List.mem_append.mp hb with q | q
    · rw [upd_ne (ne_of (h.tu b q) h.keys (fun z => by cases z))]; exact h.tu b q
    · rw [List.mem_singleton.mp q, upd_ne (ne_of ht h.keys (fun z => by cases z))]; exact ht
  · rw [upd_ne (Ne.symm h.ln)]; exact h.nam
  · rw [upd_ne (ne_of h.pt h.keys (fun z => by cases z))]; exact h.pt
  · rcases List.mem_append.mp hb with q | q
    · exact h.ok b q
    · rw [List.mem_singleton.mp q]; exact hk
theorem LH.dp (h : LH K PT r a l n nms bs H) : Dp K H (.ref l) (.list ((bs.map (·.2)).map pairD)) := .lst (SqL.of h.keys) (keys_dp bs h.tu)
theorem LH.sh (h : LH K PT r a l n nms bs H) : SeqAt.shaped (.list ((bs.map (·.2)).map pairD)) = true := pairs_shaped fun k hk => by
  obtain ⟨b, hb, rfl⟩ := List.mem_map.mp hk
  exact good_ok (h.ok b hb)
end
/-! ### [name for name, version in keys] -/
abbrev LcW (J : It) (g : TG) (tt : TT) (te : TE) (vs : List Nat) (σ : L2.St) (H1 : Hp) (D : Addr) (Qd : Hp → Prop) : Prop := ∃ W : Nat → Nat → Hp → Prop, (∃ m, W 0 m (upd H1 D (.lst []))) ∧ ∀ i m H, W i m H →
      (J.stop i H ∧ Qd H) ∨ (J.go i H ∧ ∃ Nx : Hp → Prop, (∀ H', Nx H' → ∃ m', m' < m ∧ W (i + 1) m' H') ∧ ∀ x H', J.yld i H x H' → g x (wipe σ vs) H' fun σ2 H2 => wipe σ2 vs = wipe σ vs ∧ tt σ2 H2 fun b H3 =>
        if b = true then te σ2 H3 fun y H4 => ∃ acc, H4 D = some (.lst acc) ∧ acc.length < sizeLine ∧ Nx (upd H4 D (.lst (acc ++ [y]))) else Nx H3)
theorem names_it {K : PySem.W.Frag} {σ : L2.St} {H : Hp} {l D : Addr} {bs : List (Addr × Kk)} {Qd : Hp → Prop} (hl : H l = some (.lst (bs.map fun b => .ref b.1))) (ht : KeysIn H bs) (few : bs.length ≤ 40) (hz : σ.length = 16) (hD : H D = none)
    (k : ∀ H', Same H H' → H' D = some (.lst ((bs.map fun b => b.2.1).map V.str)) → Qd H') : LcW (Itl K l) (gTup K 2 (gCons (gName 7) (gCons (gName 14) gNil))) tYes (tVar 7) [7, 14] σ H D Qd := by
  refine lc_it (walk_list (K := K) (a := l) (xs := bs.map fun b => .ref b.1)) (MapP H D ((bs.map fun b => b.2.1).map V.str)) (MapP.zero hD) (fun i H' _ p => SqL.of (p.1 _ _ hl)) ?_ ?_
  · rintro i x H1 H2 hi p ⟨rfl, hx⟩
    obtain ⟨b, hb, rfl⟩ : ∃ b, bs[i]? = some b ∧ x = .ref b.1 := by
      rw [List.getElem?_map] at hx
      obtain ⟨e, h1, h2⟩ := Option.map_eq_some_iff.mp hx
      exact ⟨e, h1, h2.symm⟩
    refine ⟨b.1, _, rfl, .inl (.inl (p.1 _ _ (ht b (List.mem_of_getElem? hb)))), rfl, _, _, rfl, _, _, rfl, rfl, ?_, ?_⟩
    · match σ, hz with
      | [_, _, _, _, _, _, _, _, _, _, _, _, _, _, _, _], _ => rfl
    · show ∃ v, _ ∧ _
      refine ⟨.str b.2.1, ?_, ?_⟩
      · match σ, hz with
        | [_, _, _, _, _, _, _, _, _, _, _, _, _, _, _, _], _ => rfl
      · refine p.step hD ?_ (by simp; omega) (Same.refl _)
        rw [List.getElem?_map, List.getElem?_map, hb]
        rfl
  · intro H2 p
    obtain ⟨s2, hl2⟩ := p.done (by simp)
    exact k H2 s2 hl2
end Half

namespace Half
open PySem PySem.Spec PyProof.Rows L2 LamX
def forBody (s : Stmt) : List Stmt := match s with
  | .For (body := b) .. => b
  | _ => []
structure TxtL (mg : Str → Option Value) : Prop where
  srt : mg "sorted" = none
  set : mg "set" = none
  len : mg "len" = none
  ran : mg "range" = none
  tup : mg "tuple" = none
  lst : mg "list" = none
theorem nd_sorted {ks : List Kk} {l ys : List Str} (hl : l.Nodup) (hm : ∀ z, z ∈ l ↔ z ∈ ks.map (·.1)) (hp : ys.Perm l) : ys.length = nd (ks.map (·.1)) ∧ ∀ x, x ∈ ys ↔ x ∈ ks.map (·.1) :=
  ⟨nd_perm (hp.nodup_iff.mpr hl) fun x => (hp.mem_iff).trans (hm x), fun x => (hp.mem_iff).trans (hm x)⟩
theorem inV_str (x : Str) : ∀ ys : List Str, inV (.str x) (ys.map V.str) = has ys x
  | [] => rfl
  | y :: ys => by
    have ih := inV_str x ys
    unfold inV at ih ⊢
    unfold has at ih ⊢
    rw [List.map_cons, List.any_cons, List.any_cons, ih]
    congr 1
theorem orV_read {ta tb : TE} {σ : L2.St} {H : Hp} {Q : VK} {b c : Bool} (h1 : ∀ Q' : VK, Q' (.bl b) H → ta σ H Q') (h2 : ∀ Q' : VK, Q' (.bl c) H → tb σ H Q') (q : Q (.bl (b || c)) H) : tOrV ta tb σ H Q := by
  refine h1 _ ⟨b, rfl, ?_⟩
  cases b
  · exact iteF (h2 _ q)
  · exact iteT q
theorem andV_read {ta tb : TE} {σ : L2.St} {H : Hp} {Q : VK} {b c : Bool} (h1 : ∀ Q' : VK, Q' (.bl b) H → ta σ H Q') (h2 : ∀ Q' : VK, Q' (.bl c) H → tb σ H Q') (q : Q (.bl (b && c)) H) : tAndV ta tb σ H Q := by
  refine h1 _ ⟨b, rfl, ?_⟩
  cases b
  · exact iteF q
  · exact iteT (h2 _ q)
section
variable {P : Program} {w : World} {K : PySem.W.Frag} {mg : Str → Option Value} {base : Heap}
theorem loop_end {f : Addr} {cdv : Value} {A : Around} {outer : List Env} {s : Shared} {H0 : Hp} {E : XK} (nd' : LawN.Nodup) :
    ∃ t, PSs (cxOf CX0 P w K mg base LawN "law" (defScope sLaw) f cdv A outer s H0 E).nox ((forBody (nth (defBody sLaw) 2)).drop 4) t ∧ ∀ (D' : Ends) (H : Hp) (PT r a l n : Addr) (nms : List Str) (bs : List (Addr × Kk)) (tk : Addr) (k : Kk) (x7 x8 x10 x11 x12 x13 x14 x15 : Option V) (b : Bool),
      LH K PT r a l n nms bs H → H tk = some (.tup [.str k.1, .int k.2]) → good k → bs.length ≤ 30 → b = endB (bs.map (·.2)) k →
      (∀ x8 x9 H', LH K PT r a l n nms (bs ++ [(tk, k)]) H' → D'.nx [some (.ref a), some (.ref r), some (.ref l), some (.ref n), some (optI (firstB ((bs ++ [(tk, k)]).map (·.2)))), some (.int bs.length), some (.ref tk), x7, x8, x9, x10, x11, x12, x13, x14, x15] H') →
      t D' [some (.ref a), some (.ref r), some (.ref l), some (.ref n), some (optI (firstB (bs.map (·.2)))), some (.int bs.length), some (.ref tk), x7, x8, some (.bl b), x10, x11, x12, x13, x14, x15] H := by
  refine ⟨_, pss_cons (ps_if (PW.pt (pw_and (pt_cmp (pc_isN (pv 4))) (pw_and1 (pt_truth (pv 9) (by intro _; rfl))))) (pss_one (ps_set (i := 4) nd' rfl (Or.inl rfl) (pv 5))) pss_nil)
    (pss_one (ps_expr (pe_bm PySem.F.plainAttrs_list PySem.F.slot_list_append PySem.F.type_list_append mt_append (pv 2) (pa_cons (pv 6) pa_nil)))), ?_⟩
  intro D' H PT r a l n nms bs tk k x7 x8 x10 x11 x12 x13 x14 x15 b hL ht hk few hb q
  have hsl : firstB ((bs ++ [(tk, k)]).map (·.2)) = firstB (bs.map (·.2) ++ [k]) := by rw [List.map_append]; rfl
  rw [first_snoc] at hsl
  have q := fun x8 x9 => q x8 x9 _ (hL.app ht hk)
  have hz : (bs.map fun b => V.ref b.1).length < sizeLine := by rw [List.length_map, sizeLine_eq]; omega
  cases hf : firstB (bs.map (·.2)) with
  | some i =>
    rw [hf] at hsl
    rw [hsl] at q
    refine ⟨_, rfl, false, rfl, ?_⟩
    refine iteF ?_
    exact ⟨_, rfl, .inl ⟨rfl, _, SqL.of hL.keys⟩, _, rfl, l, _, _, rfl, rfl, hL.keys, hz, q _ _⟩
  | none =>
    rw [hf, ← hb] at hsl
    refine ⟨_, rfl, true, rfl, ?_⟩
    refine iteT ?_
    refine ⟨_, rfl, b, rfl, ?_⟩
    cases b with
    | true =>
      rw [if_pos rfl, List.length_map] at hsl
      rw [hsl] at q
      refine iteT ?_
      exact ⟨_, rfl, _, rfl, .inl ⟨rfl, _, SqL.of hL.keys⟩, _, rfl, l, _, _, rfl, rfl, hL.keys, hz, q _ _⟩
    | false =>
      rw [if_neg (by decide)] at hsl
      rw [hsl] at q
      refine iteF ?_
      exact ⟨_, rfl, .inl ⟨rfl, _, SqL.of hL.keys⟩, _, rfl, l, _, _, rfl, rfl, hL.keys, hz, q _ _⟩
theorem loop_tail {f : Addr} {cdv : Value} {A : Around} {outer : List Env} {s : Shared} {H0 : Hp} {E : XK} (T : TxtL mg)
    (hr : Room 10 (A.deeper (envOfC "law" (defScope sLaw) s.heap.objs.size f cdv))) (nd' : LawN.Nodup) :
    ∃ t, PSs (cxOf CX0 P w K mg base LawN "law" (defScope sLaw) f cdv A outer s H0 E).nox ((forBody (nth (defBody sLaw) 2)).drop 2) t ∧ ∀ (D' : Ends) (H : Hp) (PT r a l n : Addr) (nms : List Str) (bs : List (Addr × Kk)) (tk : Addr) (k : Kk) (x7 x8 x9 x10 x11 x12 x13 x14 x15 : Option V),
      LH K PT r a l n nms bs H → H tk = some (.tup [.str k.1, .int k.2]) → good k → bs.length ≤ 30 →
      (∀ x8 x9 H', LH K PT r a l n nms (bs ++ [(tk, k)]) H' → D'.nx [some (.ref a), some (.ref r), some (.ref l), some (.ref n), some (optI (firstB ((bs ++ [(tk, k)]).map (·.2)))), some (.int bs.length), some (.ref tk), x7, x8, x9, x10, x11, x12, x13, x14, x15] H') →
      t D' [some (.ref a), some (.ref r), some (.ref l), some (.ref n), some (optI (firstB (bs.map (·.2)))), some (.int bs.length), some (.ref tk), x7, x8, x9, x10, x11, x12, x13, x14, x15] H := by
  have hu : (A.deeper (envOfC "law" (defScope sLaw) s.heap.objs.size f cdv)).units + 65 < cLine := by have := hr.un; omega
  obtain ⟨tE, hE, rdE⟩ := loop_end (P := P) (w := w) (K := K) (mg := mg) (base := base) (f := f) (cdv := cdv) (A := A) (outer := outer) (s := s) (H0 := H0) (E := E) nd'
  refine ⟨_, pss_cons (ps_set (i := 8) nd' rfl (Or.inl rfl) (pe_callB (cr_sortTx rfl) (by rfl) T.srt (by decide +kernel) (pa_cons (pe_callTy (cr_setTx rfl) (by rfl) T.set (by decide +kernel) (pa_cons
        (pe_lc (own := [("_law_name", 7), ("_law_version", 14)]) (g := gTup K 2 (gCons (gName 7) (gCons (gName 14) gNil))) (tt := tYes) rfl nd' (pi_list (pv 2)) (blkOk_by (N := LawN) (sc := defScope sLaw) (by decide +kernel))
          (fun _ _ _ _ _ => pg_tup rfl (pgs_cons (pg_name (i := 7) nd' rfl (Or.inl rfl)) (pgs_cons (pg_name (i := 14) nd' rfl (Or.inl rfl)) pgs_nil))) (fun _ _ _ _ _ => pts_nil) (fun _ _ _ _ _ => pv 7)) pa_nil)) pa_nil)))
    (pss_cons (ps_set (i := 9) nd' rfl (Or.inl rfl) (pe_or (pe_cmpR (op_inD hu) (pv 6) (pv 2) (by rfl)) (pe_or (pe_cmpR op_eq (pv 5) pe_int (nomark _)) (pe_one (pe_and (pe_cmpR op_notIn_seq (pe_ix ix_tup (pv 6) pe_int (fun _ _ => rfl)) (pv 8) (by rfl)) (pe_one (pe_cmpR op_eq (pe_callB call_len_seq (by rfl) T.len PySem.boot_len (pa_cons (pv 8) pa_nil)) pe_int (nomark _))))))))
    hE), ?_⟩
  intro D' H PT r a l n nms bs tk k x7 x8 x9 x10 x11 x12 x13 x14 x15 hL ht hk few q
  refine ⟨_, rfl, l, rfl, ⟨_, SqL.of hL.keys⟩, fun D hD => names_it (bs := bs) hL.keys hL.tu (by omega) rfl hD (fun H1 s1 hl1 => ?_)⟩
  refine ⟨D, _, rfl, SqL.of hl1, by simp; omega, fun sa l1 nd1 mem1 le1 nsa => ?_⟩
  have s2 := s1.trans (Same.upd_new (o := TxO P w sa l1) nsa)
  refine ⟨sa, l1, rfl, upd_same, by simp at le1; omega, fun ys p hp1 hp2 np => ?_⟩
  have s3 := s2.trans (Same.upd_new (o := .lst (ys.map V.str)) np)
  have hL3 := hL.same s3
  have hys : (upd (upd H1 sa (TxO P w sa l1)) p (.lst (ys.map V.str))) p = some (.lst (ys.map V.str)) := upd_same
  obtain ⟨hlen, hmem⟩ := nd_sorted (ks := bs.map (·.2)) nd1 (fun z => by rw [mem1, List.map_map]; rfl) hp1
  have eh : has ys k.1 = has ((bs.map (·.2)).map (·.1)) k.1 := by
    cases c : has ((bs.map (·.2)).map (·.1)) k.1
    · exact has_no fun z => not_has c ((hmem _).mp z)
    · exact has_iff.mpr ((hmem _).mpr (has_iff.mp c))
  have fin : ∀ (x8 : Option V) (b : Bool), b = endB (bs.map (·.2)) k → tE D' [some (.ref a), some (.ref r), some (.ref l), some (.ref n), some (optI (firstB (bs.map (·.2)))), some (.int bs.length), some (.ref tk), x7, x8, some (.bl b), x10, x11, x12, x13, x14, x15] (upd (upd H1 sa (TxO P w sa l1)) p (.lst (ys.map V.str))) := fun x8 b hb => rdE D' _ PT r a l n nms bs tk k x7 x8 x10 x11 x12 x13 x14 x15 b hL3 (s3 _ _ ht) hk few hb q
  unfold endB at fin
  refine ⟨_, rfl, _, rfl, pairD k, _, .tup (.inl (.inl (s3 _ _ ht))) (.cons (.str _) (.cons (.int _) .nil)), hL3.dp, pair_shaped (good_ok hk), hL3.sh, _, rfl, ?_⟩
  rw [any_eqv]
  cases c1 : has (bs.map (·.2)) k with
  | true => exact iteT (fin _ true (by rw [c1]; rfl))
  | false =>
    refine iteF ?_
    have e2 : decide (V.int (bs.length : Int) = V.int 12) = decide ((bs.map (·.2)).length = 12) := by
      rw [dec_int, List.length_map, Bool.eq_iff_iff, beq_iff_eq, decide_eq_true_iff]; omega
    refine ⟨_, rfl, rfl, _, rfl, ?_⟩
    rw [e2]
    cases c2 : decide ((bs.map (·.2)).length = 12) with
    | true => exact iteT (fin _ true (by rw [c1, c2]; rfl))
    | false =>
      refine iteF ?_
      refine ⟨_, rfl, tk, _, 0, _, rfl, rfl, .inl (.inl (s3 _ _ ht)), rfl, _, rfl, p, _, rfl, .inl (SqL.of hys), rfl, flat_strs ys, _, rfl, ?_⟩
      rw [if_pos rfl, inV_str, eh]
      cases c3 : !has ((bs.map (·.2)).map (·.1)) k.1 with
      | false => exact iteF (fin _ false (by rw [c1, c2, c3]; rfl))
      | true =>
        refine iteT ?_
        refine ⟨_, rfl, p, _, rfl, .inl (SqL.of hys), rfl, ?_⟩
        have e4 : decide (V.int ((ys.map V.str).length : Int) = V.int 4) = decide (nd ((bs.map (·.2)).map (·.1)) = 4) := by
          rw [dec_int, List.length_map, hlen, Bool.eq_iff_iff, beq_iff_eq, decide_eq_true_iff]; omega
        exact fin _ _ (by rw [c1, c2, c3, e4]; rfl)
end
end Half

namespace Half
open PySem PySem.Spec PyProof.Rows L2 LamX
section
variable {P : Program} {w : World} {K : PySem.W.Frag} {mg : Str → Option Value} {base : Heap}
theorem loop_body {f : Addr} {cdv : Value} {A : Around} {outer : List Env} {s : Shared} {H0 : Hp} {E : XK} (T : TxtL mg) (dT : Def P w K mg base 1 "_law_taken" ["_law_row", "_law_many"] (spTaken K)) (dP : Def P w K mg base 2 "_law_pick" ["_law_row", "_law_some"] (spPick K))
    (hr : Room 10 (A.deeper (envOfC "law" (defScope sLaw) s.heap.objs.size f cdv))) (nd' : LawN.Nodup) :
    ∃ t, PSs (cxOf CX0 P w K mg base LawN "law" (defScope sLaw) f cdv A outer s H0 E).nox (forBody (nth (defBody sLaw) 2)) t ∧ ∀ (D' : Ends) (H : Hp) (PT r a l n : Addr) (nms : List Str) (bs : List (Addr × Kk)) (x6 x7 x8 x9 x10 x11 x12 x13 x14 x15 : Option V),
      LH K PT r a l n nms bs H → bs.length ≤ 14 →
      (∀ tk k x8 x9 H', LH K PT r a l n nms (bs ++ [(tk, k)]) H' → D'.nx [some (.ref a), some (.ref r), some (.ref l), some (.ref n), some (optI (firstB ((bs ++ [(tk, k)]).map (·.2)))), some (.int bs.length), some (.ref tk), x7, x8, x9, x10, x11, x12, x13, x14, x15] H') →
      t D' [some (.ref a), some (.ref r), some (.ref l), some (.ref n), some (optI (firstB (bs.map (·.2)))), some (.int bs.length), x6, x7, x8, x9, x10, x11, x12, x13, x14, x15] H := by
  have hu : (A.deeper (envOfC "law" (defScope sLaw) s.heap.objs.size f cdv)).units + 65 < cLine := by have := hr.un; omega
  have r2 : Room 2 _ := hr.mono (by decide)
  have r1 : Room 1 _ := hr.mono (by decide)
  obtain ⟨tE, hE, rdE⟩ := loop_tail (P := P) (w := w) (K := K) (mg := mg) (base := base) (f := f) (cdv := cdv) (A := A) (outer := outer) (s := s) (H0 := H0) (E := E) T hr nd'
  refine ⟨_, pss_cons (ps_set (i := 6) nd' rfl (Or.inl rfl) (pe_tup (pa_cons (pe_def dP r2 rfl (pa_cons (pv 1) (pa_cons (pv 3) pa_nil))) (pa_cons (pe_op op_add pe_int (pe_def dT r1 rfl (pa_cons (pv 1) (pa_cons pe_int pa_nil)))) pa_nil))))
    (pss_cons (ps_if (PW.pt (pw_and (pt_cmpR (op_inD hu) (pv 6) (pv 2) (by rfl)) (pw_and1 (pt_cmpR op_gt (pe_def dT r1 rfl (pa_cons (pv 1) (pa_cons pe_int pa_nil))) pe_int (nomark _)))))
      (pss_one (ps_set (i := 6) nd' rfl (Or.inl rfl) (pe_tup (pa_cons (pe_ix ix_tup (pv 6) pe_int (fun _ _ => rfl)) (pa_cons (pe_op op_add pe_int (pv 5)) pa_nil))))) pss_nil) hE), ?_⟩
  intro D' H PT r a l n nms bs x6 x7 x8 x9 x10 x11 x12 x13 x14 x15 hL few q
  obtain ⟨nm0, nm1, nm2⟩ := hL.nm
  have p0 : 0 < nms.length := List.length_pos_iff.mpr nm0
  refine ⟨_, rfl, _, rfl, r, n, nms.map V.str, a, rfl, hL.row, SqL.of hL.nam, hL.rn, by rw [List.length_map]; exact p0, by rw [List.length_map]; omega, fun i x o1 hx hR1 => ?_⟩
  obtain ⟨nm, hnm, rfl⟩ : ∃ z, nms[i]? = some z ∧ x = .str z := by
    rw [List.getElem?_map] at hx
    obtain ⟨e, h1, h2⟩ := Option.map_eq_some_iff.mp hx
    exact ⟨e, h1, h2.symm⟩
  have hL1 := hL.draw hR1
  refine ⟨_, rfl, r, _, a, rfl, hL1.row, by decide, by decide, fun v o2 hv0 hv1 hR2 => ⟨_, _, rfl, rfl, two_le, fun tk ntk => ?_⟩⟩
  have hL2 := hL1.draw hR2
  have st := Same.upd_new (o := .tup [.str nm, .int (1 + v)]) ntk
  have hL3 := hL2.same st
  have htk : (upd (upd (upd H r o1) r o2) tk (.tup [.str nm, .int (1 + v)])) tk = some (.tup [.str (nm, 1 + v).1, .int (nm, 1 + v).2]) := upd_same
  have hg : good (nm, 1 + v) := ⟨nm2 _ (List.mem_of_getElem? hnm), by show 1 ≤ 1 + v; omega, by show 1 + v ≤ 24; omega⟩
  refine ⟨_, rfl, _, rfl, pairD (nm, 1 + v), _, .tup (.inl (.inl htk)) (.cons (.str _) (.cons (.int _) .nil)), hL3.dp, pair_shaped (good_ok hg), hL3.sh, _, rfl, ?_⟩
  rw [any_eqv]
  cases c : has (bs.map (·.2)) (nm, 1 + v) with
  | false =>
    refine iteF (iteF ?_)
    exact rdE _ _ _ _ _ _ _ _ _ tk (nm, 1 + v) _ _ _ _ _ _ _ _ _ hL3 htk hg (by omega) (fun x8 x9 H' h => q _ _ _ _ _ h)
  | true =>
    refine iteT ?_
    refine ⟨_, rfl, r, _, a, rfl, hL3.row, by decide, by decide, fun u o3 hu0 hu1 hR3 => ⟨_, _, rfl, rfl, _, rfl, ?_⟩⟩
    have hL4 := hL3.draw hR3
    have htk4 : (upd (upd (upd (upd H r o1) r o2) tk (.tup [.str nm, .int (1 + v)])) r o3) tk = some (.tup [.str (nm, 1 + v).1, .int (nm, 1 + v).2]) := by
      obtain ⟨ns, i', g', z', h1, _⟩ := hL3.row
      rw [upd_ne (ne_of htk h1 (fun z => by cases z))]
      exact htk
    refine ite2 (fun c => ?_) (fun c => ?_)
    · refine ⟨_, rfl, tk, _, 0, _, rfl, rfl, .inl (.inl htk4), rfl, _, rfl, _, _, rfl, rfl, two_le, fun t2 n2 => ?_⟩
      have s5 := Same.upd_new (o := .tup [.str nm, .int (10 + bs.length)]) n2
      have hg2 : good (nm, 10 + bs.length) := ⟨hg.1, by show 1 ≤ 10 + (bs.length : Int); omega, by show 10 + (bs.length : Int) ≤ 24; omega⟩
      exact rdE _ _ _ _ _ _ _ _ _ t2 (nm, 10 + bs.length) _ _ _ _ _ _ _ _ _ (hL4.same s5) upd_same hg2 (by omega) (fun x8 x9 H' h => q _ _ _ _ _ h)
    · exact rdE _ _ _ _ _ _ _ _ _ tk (nm, 1 + v) _ _ _ _ _ _ _ _ _ hL4 htk4 hg (by omega) (fun x8 x9 H' h => q _ _ _ _ _ h)
end
end Half

namespace Half
open PySem PySem.Spec PyProof.Rows L2 LamX
theorem cut5 {v : Int} (h0 : 0 ≤ v) (h1 : v < 3) : ∃ nms : List Str, cutV (NM5.map V.str) none (some (3 + v)) = nms.map V.str ∧ nms ≠ [] ∧ nms.length ≤ 5 ∧ ∀ x ∈ nms, x ∈ NM5 := by
  have : v = 0 ∨ v = 1 ∨ v = 2 := by omega
  rcases this with rfl | rfl | rfl
  · exact ⟨NM5.take 3, rfl, by decide, by decide, fun x hx => List.mem_of_mem_take hx⟩
  · exact ⟨NM5.take 4, rfl, by decide, by decide, fun x hx => List.mem_of_mem_take hx⟩
  · exact ⟨NM5.take 5, rfl, by decide, by decide, fun x hx => List.mem_of_mem_take hx⟩
theorem eqvAll_nil : ∀ ks : List Kk, PyData.eqv (.list (ks.map pairD)) (.list []) = ks.isEmpty
  | [] => by simp [PyData.eqv, PyData.eqvAll]
  | k :: ks => by simp [PyData.eqv, PyData.eqvAll]
section
variable {P : Program} {w : World} {K : PySem.W.Frag} {mg : Str → Option Value} {base : Heap}
theorem law_first {f : Addr} {cdv : Value} {A : Around} {outer : List Env} {s : Shared} {H0 : Hp} {E : XK} {tR : TS} (T : TxtL mg) (dT : Def P w K mg base 1 "_law_taken" ["_law_row", "_law_many"] (spTaken K)) (dP : Def P w K mg base 2 "_law_pick" ["_law_row", "_law_some"] (spPick K))
    (hr : Room 10 (A.deeper (envOfC "law" (defScope sLaw) s.heap.objs.size f cdv))) (nd' : LawN.Nodup) (hRest : PSs (cxOf CX0 P w K mg base LawN "law" (defScope sLaw) f cdv A outer s H0 E).nox ((defBody sLaw).drop 4) tR) :
    ∃ t, PSs (cxOf CX0 P w K mg base LawN "law" (defScope sLaw) f cdv A outer s H0 E).nox (defBody sLaw) t ∧ ∀ (D' : Ends) (H : Hp) (PT a : Addr) (ns : List Int),
      SqL K H a (ns.map V.int) → ns.length ≤ 63 → H PT = some (.tbl #[]) →
      (∀ (H' : Hp) (r l n : Addr) (nms : List Str) (bs : List (Addr × Kk)) (x5 x6 x8 x9 : Option V), LH K PT r a l n nms bs H' → bs.length ≤ 14 → tR D' [some (.ref a), some (.ref r), some (.ref l), some (.ref n), some (optI (wrongAt (bs.map (·.2)))), x5, x6, none, x8, x9, none, none, none, none, none, none] H') →
      t D' (L2.start LawN [.ref a]) H := by
  have r1 : Room 1 _ := hr.mono (by decide)
  obtain ⟨tB, hB, rdB⟩ := loop_body (P := P) (w := w) (K := K) (mg := mg) (base := base) (f := f) (cdv := cdv) (A := A) (outer := outer) (s := s) (H0 := H0) (E := E) T dT dP hr nd'
  refine ⟨_, pss_cons (ps_set (i := 1) nd' rfl (Or.inl rfl) (pe_lst (pa_cons (pv 0) (pa_cons pe_int (pa_cons pe_int (pa_cons pe_int pa_nil))))))
    (pss_cons (ps_par3 (i := 2) (j := 3) (l := 4) (by rfl) nd' rfl rfl rfl (by decide) (by decide) (by decide) rfl rfl rfl (pa_cons (pe_lst pa_nil) (pa_cons (pe_slice sl_list (pe_lst (pa_cons pe_str (pa_cons pe_str (pa_cons pe_str (pa_cons pe_str (pa_cons pe_str pa_nil)))))) po_none (po_some (pe_op op_add pe_int (pe_def dT r1 rfl (pa_cons (pv 1) (pa_cons pe_int pa_nil)))))) (pa_cons pe_non pa_nil))) (by rfl))
    (pss_cons (ps_for PassesOwn.never rfl (pi_range1 (by rfl) T.ran (pa_cons (pe_def dT r1 rfl (pa_cons (pv 1) (pa_cons pe_int pa_nil))) pa_nil)) (pg_name (i := 5) nd' rfl (Or.inl rfl)) hB)
    (pss_cons (ps_if (pt_cmpR (op_eqD hr.units) (pv 2) (pe_lst pa_nil) (nomark _)) (pss_one (ps_set (i := 4) nd' rfl (Or.inl rfl) pe_int)) pss_nil) hRest))), ?_⟩
  intro D' H PT a ns hS hlen hPT k
  refine ⟨_, rfl, (by show 4 ≤ sizeLine; decide), fun r nr => ?_⟩
  have s1 := Same.upd_new (o := .lst [.ref a, .int 0, .int 0, .int 0]) nr
  have hR1 : Row K (upd H r (.lst [.ref a, .int 0, .int 0, .int 0])) r a := ⟨ns, 0, 0, 0, upd_same, s1.seq hS, hlen, Int.le_refl 0⟩
  refine ⟨Nat.zero_le _, fun l nl => ?_⟩
  have s2 := s1.trans (Same.upd_new (o := .lst []) nl)
  have hR2 := hR1.same (Same.upd_new (o := .lst []) nl)
  have rl : r ≠ l := ne_of_none upd_same nl
  refine ⟨(by show 5 ≤ sizeLine; decide), fun n0 nn0 => ?_⟩
  have s3 := s2.trans (Same.upd_new (o := .lst (NM5.map V.str)) nn0)
  have hR3 := hR2.same (Same.upd_new (o := .lst (NM5.map V.str)) nn0)
  have hl3 : (upd (upd (upd H r (.lst [.ref a, .int 0, .int 0, .int 0])) l (.lst [])) n0 (.lst (NM5.map V.str))) l = some (.lst []) := (Same.upd_new nn0) _ _ upd_same
  have hn3 : (upd (upd (upd H r (.lst [.ref a, .int 0, .int 0, .int 0])) l (.lst [])) n0 (.lst (NM5.map V.str))) n0 = some (.lst (NM5.map V.str)) := upd_same
  have hp3 := s3 _ _ hPT
  obtain ⟨_, _, _, _, hr3, _⟩ := id hR3
  have rn0 : r ≠ n0 := ne_of_none (s2.trans (Same.refl _) |> fun _ => (Same.upd_new nl) _ _ upd_same) nn0
  refine ⟨_, rfl, r, _, a, rfl, hR3, by decide, by decide, fun v o hv0 hv1 hR4 => ⟨_, _, rfl, rfl, _, rfl, ?_⟩⟩
  obtain ⟨nms, e1, e2, e3, e4⟩ := cut5 hv0 hv1
  refine ⟨n0, _, rfl, SqL.of (by rw [upd_ne (Ne.symm rn0)]; exact hn3), fun n nn => ?_⟩
  rw [e1]
  have s5 := Same.upd_new (o := .lst (nms.map V.str)) nn
  have hr4 := hR4
  have al : a ≠ l ∨ ∃ ns : List Int, ns.length ≤ 63 ∧ ∀ H', SqL K H' a (ns.map V.int) := by
    rcases s1.seq hS with h | h
    · rcases h with h | ⟨_, h⟩
      · exact .inl (ne_of_none h nl)
      · exact .inl (ne_of_none h nl)
    · exact .inr ⟨ns, hlen, fun H' => .inr h⟩
  obtain ⟨_, _, _, _, hr5, _⟩ := id hR4
  have hl4 : (upd (upd (upd (upd H r (.lst [.ref a, .int 0, .int 0, .int 0])) l (.lst [])) n0 (.lst (NM5.map V.str))) r o) l = some (.lst []) := by rw [upd_ne (Ne.symm rl)]; exact hl3
  have hp4 : (upd (upd (upd (upd H r (.lst [.ref a, .int 0, .int 0, .int 0])) l (.lst [])) n0 (.lst (NM5.map V.str))) r o) PT = some (.tbl #[]) := by rw [upd_ne (ne_of hp3 hr3 (fun z => by cases z))]; exact hp3
  have hL : LH K PT r a l n nms [] (upd (upd (upd (upd (upd H r (.lst [.ref a, .int 0, .int 0, .int 0])) l (.lst [])) n0 (.lst (NM5.map V.str))) r o) n (.lst (nms.map V.str))) :=
    ⟨hR4.same s5, s5 _ _ hl4, fun b hb => (nomatch hb), upd_same, s5 _ _ hp4, rl, ne_of_none hr5 nn, ne_of_none hl4 nn, al, fun b hb => (nomatch hb), e2, e3, e4⟩
  refine ⟨_, _, _, rfl, ?_⟩
  refine ⟨_, rfl, r, _, a, rfl, hL.row, by decide, by decide, fun m o' hm0 hm1 hR6 => ⟨m, rfl, by omega, by omega, ?_⟩⟩
  have hL6 := hL.draw hR6
  refine for_it walk_range (fun i σ H' => ∃ (bs : List (Addr × Kk)) (x5 x6 x8 x9 : Option V), bs.length = i ∧ LH K PT r a l n nms bs H' ∧ σ = [some (.ref a), some (.ref r), some (.ref l), some (.ref n), some (optI (firstB (bs.map (·.2)))), x5, x6, none, x8, x9, none, none, none, none, none, none]) ?_ (fun _ _ _ _ _ => trivial) ?_ ?_
  · exact ⟨[], none, none, none, none, rfl, hL6, rfl⟩
  · rintro i x σ H1 H2 hi ⟨bs, x5, x6, x8, x9, hb, hLb, rfl⟩ ⟨rfl, rfl⟩
    have e : (fun i : Nat => V.int (0 + (i : Int))) i = V.int (bs.length : Int) := by show V.int (0 + (i : Int)) = _; rw [← hb, Int.zero_add]
    rw [e]
    refine rdB _ _ PT r a l n nms bs _ _ _ _ _ _ _ _ _ _ hLb (by omega) (fun tk k x8 x9 H' h => ?_)
    exact ⟨bs ++ [(tk, k)], _, _, _, _, by rw [List.length_append, hb]; rfl, h, rfl⟩
  · rintro σ H1 ⟨bs, x5, x6, x8, x9, hb, hLb, rfl⟩
    refine ⟨_, rfl, Nat.zero_le _, fun e ne => ?_⟩
    have se := Same.upd_new (o := .lst []) ne
    have hLe := hLb.same se
    refine ⟨_, _, hLe.dp, .lst (SqL.of upd_same) .nil, hLe.sh, by decide +kernel, _, rfl, ?_⟩
    rw [eqvAll_nil]
    have few : bs.length ≤ 14 := by omega
    have z := fun x5 => k _ r l n nms bs x5 x6 x8 x9 hLe few
    rw [wrong_law] at z
    cases c : (bs.map (·.2)).isEmpty with
    | true =>
      rw [if_pos c] at z
      exact iteT (z _)
    | false =>
      rw [if_neg (by rw [c]; decide)] at z
      exact iteF (z _)
end
end Half

namespace Half
open PySem PySem.Spec PyProof.Rows L2 LamX
/-! ### which keys make a store -/
theorem len_sub {α : Type} [DecidableEq α] {l m : List α} (h : l.Nodup) (s : ∀ z, z ∈ l → z ∈ m) : l.length ≤ m.length := by
  rcases Nat.lt_or_ge m.length l.length with c | c
  · have := (perm_of_len h s (Nat.le_of_lt c)).length_eq
    omega
  · exact c
theorem nd_sub {α : Type} [DecidableEq α] {l m : List α} (s : ∀ z, z ∈ l → z ∈ m) : nd l ≤ nd m :=
  len_sub (dset_nodup l) fun z hz => (mem_dset m z).mpr (s z ((mem_dset l z).mp hz))
theorem wrong_iff (ks : List Kk) : wrongAt ks = none ↔ ks ≠ [] ∧ ks.Nodup ∧ nd (ks.map (·.1)) ≤ 4 ∧ ks.length ≤ 12 := by
  constructor
  · intro h
    obtain ⟨h1, h2⟩ := wrong_none h
    refine ⟨h1, wrong_nodup h, ?_, ?_⟩
    · have := bad_few ks.length h2
      rwa [List.take_length] at this
    · rcases Nat.lt_or_ge 12 ks.length with c | c
      · have z := h2 12 c
        rw [bad_late c (Nat.le_refl _)] at z
        exact nomatch z
      · exact c
  · rintro ⟨h1, h2, h3, h4⟩
    unfold wrongAt
    rw [if_neg (by simpa using h1)]
    refine List.find?_eq_none.mpr fun i hi => ?_
    have hi : i < ks.length := List.mem_range.mp hi
    unfold badB
    have e : ks[i]? = some ks[i] := List.getElem?_eq_getElem hi
    rw [e]
    have a1 : has (ks.take i) ks[i] = false := has_no fun z => by
      have nd2 := h2
      rw [← List.take_append_drop i ks] at nd2
      obtain ⟨_, _, q⟩ := List.nodup_append.mp nd2
      refine q _ z _ ?_ rfl
      rw [List.drop_eq_getElem_cons hi]
      exact List.mem_cons_self
    have a2 : nd ((ks.take (i + 1)).map (·.1)) ≤ nd (ks.map (·.1)) := nd_sub fun z hz => by
      obtain ⟨y, hy, rfl⟩ := List.mem_map.mp hz
      exact List.mem_map.mpr ⟨y, List.mem_of_mem_take hy, rfl⟩
    have a3 : decide (4 < nd ((ks.take (i + 1)).map (·.1))) = false := decide_eq_false (by omega)
    have a4 : decide (12 ≤ i) = false := decide_eq_false (by omega)
    simp only [a1, a3, a4]
    decide
theorem wrong_rev {ks : List Kk} (h : wrongAt ks = none) : wrongAt ks.reverse = none := by
  obtain ⟨h1, h2, h3, h4⟩ := (wrong_iff ks).mp h
  refine (wrong_iff _).mpr ⟨by simpa using h1, List.pairwise_reverse.mpr (h2.imp Ne.symm), Nat.le_trans (nd_sub fun z hz => ?_) h3, by simpa using h4⟩
  obtain ⟨y, hy, rfl⟩ := List.mem_map.mp hz
  exact List.mem_map.mpr ⟨y, List.mem_reverse.mp hy, rfl⟩
theorem wrong_tl {ks : List Kk} (h : wrongAt ks = none) (h2 : 2 ≤ ks.length) : wrongAt (ks.drop 1) = none := by
  obtain ⟨h1, h2', h3, h4⟩ := (wrong_iff ks).mp h
  refine (wrong_iff _).mpr ⟨fun z => ?_, h2'.sublist (List.drop_sublist 1 ks), Nat.le_trans (nd_sub fun z hz => ?_) h3, by rw [List.length_drop]; omega⟩
  · have := congrArg List.length z
    rw [List.length_drop] at this
    simp at this
    omega
  · obtain ⟨y, hy, rfl⟩ := List.mem_map.mp hz
    exact List.mem_map.mpr ⟨y, List.mem_of_mem_drop hy, rfl⟩
/-! ### all but the tables stay -/
section
variable {K : PySem.W.Frag} {C CT : Addr} {H H' : Hp}
theorem extKp (e : ExtN H H') : Kp K H H' := fun a xs h => by
  rcases h with (h | ⟨q, h⟩) | h
  · exact .inl (.inl (e _ _ h (fun ps z => by cases z)))
  · exact .inl (.inr ⟨q, e _ _ h (fun ps z => by cases z)⟩)
  · exact .inr h
theorem extSqL {a : Addr} {xs : List V} (e : ExtN H H') (h : SqL K H a xs) : SqL K H' a xs := by
  rcases h with (h | ⟨q, h⟩) | h
  · exact .inl (.inl (e _ _ h (fun ps z => by cases z)))
  · exact .inl (.inr ⟨q, e _ _ h (fun ps z => by cases z)⟩)
  · exact .inr h
theorem EdK.ext {a : Addr} {k : Kk} (e : ExtN H H') (h : EdK C H a k) : EdK C H' a k := by
  obtain ⟨dx, p, xs, h1, h2⟩ := h
  exact ⟨dx, p, xs, e _ _ h1 (fun ps z => by cases z), e _ _ h2 (fun ps z => by cases z)⟩
theorem EdsAt.ext {t : Addr} {es : Eds} (e : ExtN H H') (h : EdsAt K C H t es) : EdsAt K C H' t es := ⟨extKp e _ _ h.1, fun x hx => (h.2 x hx).ext e⟩
theorem NumsAt.ext {d : Addr} {ks : List Kk} (e : ExtN H H') (h : NumsAt H d ks) : NumsAt H' d ks := by
  obtain ⟨ys, a, b, kvs, h1, h2, h3⟩ := h
  exact ⟨ys, a, b, kvs, e _ _ h1 (fun ps z => by cases z), h2, fun nm hm => let ⟨t, a, b⟩ := h3 nm hm; ⟨t, a, e _ _ b (fun ps z => by cases z)⟩⟩
theorem StObj.ext {a : Addr} {es : Eds} (e : ExtN H H') (h : StObj CT H a es) : StObj CT H' a es := by
  obtain ⟨⟨dx, tb, nb, h1, h2, h3⟩, one⟩ := h
  exact ⟨⟨dx, tb, nb, e _ _ h1 (fun ps z => by cases z), e _ _ h2 (fun ps z => by cases z), h3.ext e⟩, one⟩
theorem EdIs.ext {a : Addr} {x : Ed} (e : ExtN H H') (h : EdIs K H C a x) : EdIs K H' C a x := by
  obtain ⟨⟨sa, sb, sc, sd, ⟨dxx, ppp, e1, e2⟩, e3⟩, e4⟩ := h
  have kk := extKp (K := K) e
  obtain ⟨ts1, a1, a2, a3⟩ := e3.needs
  obtain ⟨ts2, b1, b2, b3⟩ := e3.first
  exact ⟨⟨sa, sb, sc, sd, ⟨dxx, ppp, e _ _ e1 (fun ps z => by cases z), e _ _ e2 (fun ps z => by cases z)⟩, ⟨kk _ _ e3.scripts, ⟨ts1, kk _ _ a1, a2, fun i t p q r => kk _ _ (a3 i t p q r)⟩, ⟨ts2, kk _ _ b1, b2, fun i t p q r => kk _ _ (b3 i t p q r)⟩, kk _ _ e3.against⟩⟩, e4⟩
end
/-! ### the heap of the law's second half -/
structure LE (K : PySem.W.Frag) (C so l : Addr) (bs : List (Addr × Kk)) (es : Eds) (H : Hp) : Prop where
  keys : H l = some (.lst (bs.map fun b => .ref b.1))
  tu : KeysIn H bs
  som : EdsAt K C H so es
  ed : ∀ e ∈ es, EdIs K H C e.1 (edP e.2.1 e.2.2)
  ke : keysOf es = bs.map (·.2)
  ok : ∀ b ∈ bs, good b.2
  few : bs.length ≤ 14
structure LS (K : PySem.W.Frag) (C CT so st ot l : Addr) (bs : List (Addr × Kk)) (es : Eds) (H : Hp) : Prop where
  le : LE K C so l bs es H
  st : StObj CT H st es
  ot : StObj CT H ot es.reverse
  wr : wrongAt (keysOf es) = none
section
variable {K : PySem.W.Frag} {C CT so st ot l : Addr} {bs : List (Addr × Kk)} {es : Eds} {H H' : Hp}
theorem LE.same (S : Same H H') (h : LE K C so l bs es H) : LE K C so l bs es H' := ⟨S _ _ h.keys, fun b hb => S _ _ (h.tu b hb), h.som.same S, fun e he => (h.ed e he).same S, h.ke, h.ok, h.few⟩
theorem LS.same (S : Same H H') (h : LS K C CT so st ot l bs es H) : LS K C CT so st ot l bs es H' := ⟨h.le.same S, h.st.same S, h.ot.same S, h.wr⟩
theorem LE.ext (e : ExtN H H') (h : LE K C so l bs es H) : LE K C so l bs es H' := ⟨e _ _ h.keys (fun ps z => by cases z), fun b hb => e _ _ (h.tu b hb) (fun ps z => by cases z), h.som.ext e, fun x hx => (h.ed x hx).ext e, h.ke, h.ok, h.few⟩
theorem LS.ext (e : ExtN H H') (h : LS K C CT so st ot l bs es H) : LS K C CT so st ot l bs es H' := ⟨h.le.ext e, h.st.ext e, h.ot.ext e, h.wr⟩
theorem LE.len (h : LE K C so l bs es H) : es.length = bs.length := by
  have := congrArg List.length h.ke
  simpa using this
theorem LE.no99 (h : LE K C so l bs es H) : (("ace", 99) : Kk) ∉ keysOf es := fun z => by
  rw [h.ke] at z
  obtain ⟨b, hb, e⟩ := List.mem_map.mp z
  have := (h.ok b hb).2.2
  rw [e] at this
  exact absurd this (by decide)
theorem LE.nozoo (h : LE K C so l bs es H) : ("zoo" : Str) ∉ (keysOf es).map (·.1) := fun z => by
  rw [h.ke] at z
  obtain ⟨k, hk, e⟩ := List.mem_map.mp z
  obtain ⟨b, hb, rfl⟩ := List.mem_map.mp hk
  have := (h.ok b hb).1
  rw [e] at this
  exact absurd this (by decide)
theorem LE.dp (h : LE K C so l bs es H) : Dp K H (.ref l) (.list ((bs.map (·.2)).map pairD)) := .lst (SqL.of h.keys) (keys_dp bs h.tu)
end
/-- all that the law asks of Store -/
structure StAll (P : Program) (w : World) (K : PySem.W.Frag) (mg : Str → Option Value) (base : Heap) (C CT CN CU CI : Addr) : Prop where
  cl : Cls K CT
  ini : ∃ f fd, FnOk P w K mg base (L2.CX P w) 4 f fd ["self", "editions"] (spSi K C CT CI) ∧ Mk K CT f ∧ Binds K fd ["self", "editions"] [] ∧ mg "Store" = some (.ref CT)
  nam : ∃ p g fd, PropOf K CT "names" p g ∧ FnOk P w K mg base CX0 1 g fd ["self"] (spNames CT) ∧ Binds K fd ["self"] []
  ver : ∃ f fd, Meth K CT "versions" f ∧ FnOk P w K mg base (L2.CX P w) 1 f fd ["self", "name"] (spVers CT CN) ∧ Binds K fd ["self", "name"] []
  len : ∃ f fd, OwnSp K CT f "__len__" ∧ FnOk P w K mg base CX0 1 f fd ["self"] (spLen CT) ∧ Binds K fd ["self"] []
  has : ∃ f fd, OwnSp K CT f "__contains__" ∧ FnOk P w K mg base CX0 1 f fd ["self", "x"] (spHas CT) ∧ Binds K fd ["self", "x"] []
  item : ∃ f fd, OwnSp K CT f "__getitem__" ∧ PySem.W.fnIn K f = true ∧ FnOk P w K mg base (L2.CX P w) 2 f fd ["self", "at"] (spItem CT CU) ∧ Binds K fd ["self", "at"] []
  eq : ∃ f fd, OwnEqC K CT f ∧ FnOk P w K mg base CX0 1 f fd ["self", "other"] (spStEq CT) ∧ Binds K fd ["self", "other"] []
theorem StObj.ins {CT : Addr} {H : Hp} {a : Addr} {es : Eds} (h : StObj CT H a es) : ∃ dx fs, H a = some (.ins CT dx fs) := by
  obtain ⟨⟨dx, tb, nb, h1, _⟩, _⟩ := h
  exact ⟨dx, _, h1⟩
/-- == of stores is read -/
theorem stEq_read {CT : Addr} {H : Hp} {a b : Addr} {es es' : Eds} {fl : Bool → Bool} {Q : VK} (h1 : StObj CT H a es) (h2 : StObj CT H b es') (hs : es.length = es'.length → ∀ e ∈ es, e ∈ es') (q : Q (.bl (fl (decide (es.length = es'.length)))) H) : rEqO CT (spStEq CT) fl (.ref a) (.ref b) H Q := by
  obtain ⟨dx, fs, ha⟩ := h1.ins
  obtain ⟨dy, gs, hb⟩ := h2.ins
  exact ⟨a, b, dx, dy, fs, gs, rfl, rfl, ha, hb, a, b, es, es', rfl, h1, h2, hs, _, rfl, q⟩
/-- a store is made of editions that can be one -/
theorem mkS_read {K : PySem.W.Frag} {C CT CI : Addr} {H : Hp} {x dx t : Addr} {es : Eds} {Q : Hp → Prop} {E : XK} (nx : H x = none) (ndx : H dx = none) (hE : EdsAt K C H t es) (few : es.length ≤ 40) (hw : wrongAt (keysOf es) = none) (k : ∀ H', Same H H' → StObj CT H' x es → Q H') :
    spSi K C CT CI [.ref x, .ref t] (upd (upd H dx (.own x)) x (.ins CT dx [])) (fun v H3 => v = .non ∧ Q H3) E := by
  have sx : Same H (upd (upd H dx (.own x)) x (.ins CT dx [])) := fun b o q => by
    rw [upd_ne (ne_of_none q nx), upd_ne (ne_of_none q ndx)]
    exact q
  refine ⟨x, t, dx, es, rfl, upd_same, hE.same sx, few, fun _ H' sb ho => ⟨rfl, k H' (fun b o q => sb _ _ (ne_of_none q nx) (sx _ _ q)) ho⟩, fun i hi => ?_⟩
  rw [hw] at hi
  cases hi
end Half

namespace Half
open PySem PySem.Spec PyProof.Rows L2 LamX
/-- _law_raised as the top has made it -/
structure RaisedF (K : PySem.W.Frag) (mg : Str → Option Value) : Prop where
  ex : ∃ g oc od dV kV doc pm an cdv ct osl, mg "_law_raised" = some (.ref g) ∧ PySem.W.keepIn K (.ref g) = true ∧ K.lookup g = some ⟨oc, od, .func (PySem.W.fnOf "_law_raised" "_law_raised" (defArgs sRaised) (defBody sRaised) (defScope sRaised) dV kV doc pm an cdv ct), osl⟩ ∧ PySem.W.codeIn K cdv "_law_raised" = true ∧
    L2.Binds K (PySem.W.fnOf "_law_raised" "_law_raised" (defArgs sRaised) (defBody sRaised) (defScope sRaised) dV kV doc pm an cdv ct) ["_law_work"] []
abbrev lamQ : Str := (envOfC "law" (defScope sLaw) 0 0 .none).qual ++ "<lambda>"
/-- the errors, and what isinstance says of three of them -/
structure ErrAll (K : PySem.W.Frag) (mg : Str → Option Value) (c0 c1 c2 c3 c4 c5 c6 c7 c8 cS : Addr) : Prop where
  T : ErrsC K mg c0 c1 c2 c3 c4 c5 c6 c7 c8 cS
  I1 : ErrIs K c1 c0 c1 c2 c3 c4 c5 c6 c7 c8 cS false true false false false false false false false
  I4 : ErrIs K c4 c0 c1 c2 c3 c4 c5 c6 c7 c8 cS false false false false true false false false false
  I5 : ErrIs K c5 c0 c1 c2 c3 c4 c5 c6 c7 c8 cS false false false false false true false false false
theorem LE.mem {K : PySem.W.Frag} {C so l : Addr} {bs : List (Addr × Kk)} {es : Eds} {H : Hp} (h : LE K C so l bs es H) : es.length ≤ 14 := by
  rw [h.len]; exact h.few
theorem cut1 (es : Eds) (h : 2 ≤ es.length) : cutV (es.map fun e => V.ref e.1) (some 1) none = (es.drop 1).map fun e => V.ref e.1 := by
  unfold cutV
  have e1 : HT.sIx (es.map fun e => V.ref e.1).length 0 (some 1) = 1 := by
    rw [List.length_map]
    unfold HT.sIx
    simp
    omega
  have e2 : HT.sIx (es.map fun e => V.ref e.1).length (es.map fun e => V.ref e.1).length none = es.length := by
    rw [List.length_map]
    rfl
  rw [e1, e2, List.map_drop]
  rw [List.take_of_length_le]
  rw [List.length_drop, List.length_map]
  exact Nat.le_refl _
section
variable {P : Program} {w : World} {K : PySem.W.Frag} {mg : Str → Option Value} {base : Heap} {C CT c0 c1 c2 c3 c4 c5 c6 c7 c8 cS : Addr}
theorem law_d {f c PT : Addr} {A : Around} {outer : List Env} {s : Shared} {H0 : Hp} {E : XK} (T : TxtL mg) (S : StAll P w K mg base C CT c5 c4 c1) (R : RaisedF K mg) (EA : ErrAll K mg c0 c1 c2 c3 c4 c5 c6 c7 c8 cS) (TB : TabB base mg c PT)
    (hr : Room 10 (A.deeper (envOfC "law" (defScope sLaw) s.heap.objs.size f (.ref c)))) (nd' : LawN.Nodup) :
    ∃ t, PSs (cxOf CX0 P w K mg base LawN "law" (defScope sLaw) f (.ref c) A outer s H0 E).nox ((defBody sLaw).drop 12) t ∧ ∀ (D' : Ends) (H : Hp) (so st ot l : Addr) (bs : List (Addr × Kk)) (es : Eds) (x0 x1 x3 x4 x5 x6 x7 x8 x9 x11 x14 x15 : Option V),
      LS K C CT so st ot l bs es H → Tabs [(PT, lamQ)] H → (∀ H', D'.rt (.bl true) H') →
      t D' [x0, x1, some (.ref l), x3, x4, x5, x6, x7, x8, x9, some (.ref ot), x11, some (.ref so), some (.ref st), x14, x15] H := by
  obtain ⟨fi, fdi, F1, M1, b1, mgS⟩ := S.ini
  obtain ⟨fv, fdv, Mv, Fv, bv⟩ := S.ver
  obtain ⟨fh, fdh, Oh, Fh, bh⟩ := S.has
  obtain ⟨ft, fdt, Ot, kt, Ft, bt⟩ := S.item
  obtain ⟨fe, fde, Oe, Fe, be⟩ := S.eq
  obtain ⟨g, oc', od', dV', kV', doc', pm', an', cdv', ct', osl', gR, kR, lkR, hcR, bR⟩ := R.ex
  have r1 : Room 1 _ := hr.mono (by decide)
  have r2 : Room 2 _ := hr.mono (by decide)
  have r5 : Room 5 _ := hr.mono (by decide)
  refine ⟨_, pss_cons (ps_set (i := 11) nd' rfl (Or.inl rfl) (pe_lst (pa_cons
      (pe_lamcall (T := [(PT, lamQ)]) (TT := TRaised c1 c4 c5) (k := 8) (t := fun E => tOp (rIxO CT (spItem CT c4) E) (tVar 13) (tTup (tCons (tC (.str "ace")) (tCons (tC (.int 99)) tNil)))) rfl gR kR lkR hcR bR scRaised rfl (Or.inl rfl) (raised_gives EA.T EA.I1 EA.I4 EA.I5) TB rfl (List.mem_cons_self ..)
        (fun p hp _ => by rw [List.mem_singleton.mp hp]; rfl) hr (lamS_by (sc := defScope sLaw) (by decide +kernel)) rfl (fun _ _ _ _ _ => rfl)
        (fun A outer s H E f c' hr' => pe_ixO Ft Ot kt bt (Room.in1 (hr'.mono (by decide))) (passes_call (takes_of rfl rfl rfl rfl) (fun _ _ _ _ h => h)) (pv 13) (pe_tup (pa_cons pe_str (pa_cons pe_int pa_nil)))))
      (pa_cons (pe_lamcallD (T := [(PT, lamQ)]) (par := "_law_x") (TT := TRaised c1 c4 c5) (k := 8) (n := 0) (t := fun E => tMeth CT "versions" (spVers CT c5) [] E (tVar 13) (tCons (tC (.str "zoo")) tNil)) rfl gR kR lkR hcR bR scRaised rfl (Or.inl rfl) (raised_gives EA.T EA.I1 EA.I4 EA.I5) TB rfl (List.mem_cons_self ..)
        (fun p hp _ => by rw [List.mem_singleton.mp hp]; rfl) hr (lamD_by (N := LawN) (sc := defScope sLaw) (by decide +kernel)) pe_int rfl rfl (fun _ _ _ _ _ _ _ _ => ⟨_, rfl, rfl⟩)
        (fun A outer s H E f c' hr' => pe_meth (pv 13) S.cl Mv Fv (hr'.mono (by decide)) bv .nil (passes_call (takes_of rfl rfl rfl rfl) (fun _ _ _ _ h => h)) (pa_cons pe_str pa_nil))) pa_nil))))
    (pss_cons (ps_if (PW.pt (pw_or (pt_cmpR (op_neD hr.units) (pv 11) (pe_lst (pa_cons (pe_tup (pa_cons pe_str pa_nil)) (pa_cons (pe_tup (pa_cons pe_str pa_nil)) pa_nil))) (nomark _))
        (pw_or1 (pt_cmpR (op_inO (E := E0) Fh Oh bh r1 pass0) (pe_tup (pa_cons pe_str (pa_cons pe_int pa_nil))) (pv 13) (by rfl))))) (pss_one (ps_ret pe_bl)) pss_nil)
    (pss_one (ps_ret (pe_and (pe_cmpR (op_eqO Fe Oe be r1) (pv 13) (pv 10) (nomark _))
      (pe_one (pe_or (pe_cmpR op_lt (pe_callB call_len_seq (by rfl) T.len PySem.boot_len (pa_cons (pv 2) pa_nil)) pe_int (nomark _))
        (pe_one (pe_cmpR (op_neO Fe Oe be r2) (pv 13) (pe_make M1 F1 r5 rfl mgS b1 .nil passL (pa_cons (pe_slice sl_tup (pv 12) (po_some pe_int) po_none) pa_nil)) (nomark _))))))))), ?_⟩
  intro D' H so st ot l bs es x0 x1 x3 x4 x5 x6 x7 x8 x9 x11 x14 x15 hL hT k
  refine ⟨hT, fun H1 e1 T1 => ?_⟩
  have L1 := hL.ext e1
  refine ⟨_, rfl, two_le, fun t1 n1 => ?_⟩
  have q1 := Same.upd_new (o := .tup [.str "ace", .int 99]) n1
  have L2' := L1.same q1
  obtain ⟨dx, fs, ha⟩ := L2'.st.ins
  refine ⟨st, dx, fs, rfl, ha, st, t1, es, ("ace", 99), rfl, L2'.st, upd_same, fun e he ee => ?_, fun _ => .inr (.inl ⟨rfl, rfl, fun H3 w1 s3 hw1 => ?_⟩)⟩
  · exact absurd (List.mem_map.mpr ⟨e, he, ee⟩) L2'.le.no99
  have L3 := L2'.same s3
  have T3 := (T1.ext q1).ext s3
  refine ⟨T3, fun H4 e4 T4 => ?_⟩
  have L4 := L3.ext e4
  have hw1 := e4 _ _ hw1 (fun ps z => by cases z)
  obtain ⟨⟨dy, tb, nb, hb, _⟩, _⟩ := id L4.st
  refine ⟨_, rfl, st, dy, _, rfl, hb, rfl, st, es, "zoo", rfl, L4.st, fun z => absurd z L4.le.nozoo, fun _ => ⟨(by decide +kernel), .inr (.inr ⟨rfl, rfl, fun H5 w2 s5 hw2 => ?_⟩)⟩⟩
  have L5 := L4.same s5
  have hw1 := s5 _ _ hw1
  refine ⟨two_le, fun p np => ?_⟩
  have q6 := Same.upd_new (o := .lst [.ref w1, .ref w2]) np
  have L6 := L5.same q6
  refine ⟨_, rfl, (by show 1 ≤ sizeLine; decide), fun t2 n2 => ⟨(by show 1 ≤ sizeLine; decide), fun t3 n3 => ⟨two_le, fun t4 n4 => ?_⟩⟩⟩
  have q7 := Same.upd_new (o := .tup [.str "edition"]) n2
  have q8 := Same.upd_new (o := .tup [.str "name"]) n3
  have q9 := Same.upd_new (o := .lst [.ref t2, .ref t3]) n4
  have q79 := q7.trans (q8.trans q9)
  have L9 := L6.same q79
  have hp9 := q79 _ _ (upd_same (H := H5) (a := p) (o := .lst [.ref w1, .ref w2]))
  have hw1 := (q6.trans q79) _ _ hw1
  have hw2 := (q6.trans q79) _ _ hw2
  have ht2 := (q8.trans q9) _ _ (upd_same (a := t2) (o := .tup [.str "edition"]))
  have ht3 := q9 _ _ (upd_same (a := t3) (o := .tup [.str "name"]))
  refine ⟨.list [.tuple [.str "edition"], .tuple [.str "name"]], .list [.tuple [.str "edition"], .tuple [.str "name"]], .lst (SqL.of hp9) (.cons (.tup (.inl (.inl hw1)) (.cons (.str _) .nil)) (.cons (.tup (.inl (.inl hw2)) (.cons (.str _) .nil)) .nil)),
    .lst (SqL.of upd_same) (.cons (.tup (.inl (.inl ht2)) (.cons (.str _) .nil)) (.cons (.tup (.inl (.inl ht3)) (.cons (.str _) .nil)) .nil)), by decide +kernel, by decide +kernel, _, rfl, ?_⟩
  refine ite_no (by decide +kernel) ?_
  refine ⟨two_le, fun t5 n5 => ?_⟩
  have q10 := Same.upd_new (o := .tup [.str "ace", .int 99]) n5
  have L10 := L9.same q10
  obtain ⟨dz, fz, hz⟩ := L10.st.ins
  refine ⟨_, rfl, st, dz, fz, rfl, hz, st, t5, es, ("ace", 99), rfl, L10.st, upd_same, _, rfl, _, rfl, ?_⟩
  refine ite_no (has_no L10.le.no99) ?_
  refine ⟨_, rfl, _, rfl, ?_⟩
  refine stEq_read L10.st L10.ot (fun _ e he => List.mem_reverse.mpr he) ?_
  refine ⟨_, rfl, ?_⟩
  have e0 : decide (es.length = es.reverse.length) = true := by rw [List.length_reverse]; exact decide_eq_true rfl
  rw [e0]
  refine ite_yes rfl ?_
  refine ⟨_, rfl, l, _, rfl, .inl (SqL.of L10.le.keys), _, _, rfl, rfl, _, rfl, ?_⟩
  rw [List.length_map]
  by_cases c2 : (bs.length : Int) < 2
  · rw [decide_eq_true c2]
    exact ite_yes rfl (k _)
  · rw [decide_eq_false c2]
    refine ite_no rfl ?_
    have hl := L10.le.len
    have l2 : 2 ≤ es.length := by omega
    refine ⟨_, rfl, _, rfl, _, rfl, so, _, rfl, L10.le.som.1, ?_, fun p2 np2 => ?_⟩
    · rintro ⟨z, _⟩
      have e1 : HT.sIx (es.map fun e => V.ref e.1).length 0 (some 1) = 1 := by
        rw [List.length_map]
        unfold HT.sIx
        simp
        omega
      have z := e1.symm.trans z
      omega
    rw [cut1 es l2]
    have q11 := Same.upd_new (o := .tup ((es.drop 1).map fun e => V.ref e.1)) np2
    have L11 := L10.same q11
    refine fun x dx' nx ndx nxx => ?_
    refine mkS_read (es := es.drop 1) nx ndx ⟨.inl (.inl upd_same), fun e he => L11.le.som.2 e (List.mem_of_mem_drop he)⟩ (by rw [List.length_drop]; have := L11.le.mem; omega) ?_ (fun H12 s12 ho => ?_)
    · rw [show keysOf (es.drop 1) = (keysOf es).drop 1 from List.map_drop ..]
      exact wrong_tl L11.wr (by rw [List.length_map]; exact l2)
    · have L12 := L11.same s12
      have ne : es.length ≠ (es.drop 1).length := by rw [List.length_drop]; omega
      refine stEq_read (fl := not) L12.st ho (fun z => absurd z ne) ?_
      show D'.rt (.bl (!decide (es.length = (es.drop 1).length))) H12
      rw [decide_eq_false ne]
      exact k _
end
end Half

namespace Half
open PySem PySem.Spec PyProof.Rows L2 LamX
/-! ### a comprehension with a test -/
def AccP (H1 : Hp) (D : Addr) (f : Nat → List V) : Nat → Hp → Prop := fun i H => Same H1 H ∧ H D = some (.lst (f i))
theorem AccP.zero {H1 : Hp} {D : Addr} {f : Nat → List V} (hD : H1 D = none) (h : f 0 = []) : AccP H1 D f 0 (upd H1 D (.lst [])) := ⟨Same.upd_new hD, by rw [upd_same, h]⟩
theorem AccP.step {H1 H H4 : Hp} {D : Addr} {f : Nat → List V} {i : Nat} {y : V} (p : AccP H1 D f i H) (hD : H1 D = none) (hy : f (i + 1) = f i ++ [y]) (hl : (f i).length ≤ 1000) (e : Same H H4) :
    ∃ acc, H4 D = some (.lst acc) ∧ acc.length < sizeLine ∧ AccP H1 D f (i + 1) (upd H4 D (.lst (acc ++ [y]))) := by
  refine ⟨f i, e _ _ p.2, by rw [sizeLine_eq]; omega, fun b o q => ?_, by rw [upd_same, hy]⟩
  rw [upd_ne (ne_of_none q hD)]
  exact e _ _ (p.1 _ _ q)
theorem AccP.skip {H1 H H4 : Hp} {D : Addr} {f : Nat → List V} {i : Nat} (p : AccP H1 D f i H) (hy : f (i + 1) = f i) (e : Same H H4) : AccP H1 D f (i + 1) H4 :=
  ⟨p.1.trans e, by rw [hy]; exact e _ _ p.2⟩
/-! ### numbers as data -/
theorem dpInts {K : PySem.W.Frag} {H : Hp} : ∀ l : List Int, DpAll K H (l.map V.int) (l.map PyData.int)
  | [] => .nil
  | n :: l => .cons (.int n) (dpInts l)
theorem ints_lay : ∀ l : List Int, PyData.canLayAll0 (l.map PyData.int) = true ∧ PyData.depthAll (l.map PyData.int) ≤ 1
  | [] => ⟨by simp [PyData.canLayAll0], by simp [PyData.depthAll]⟩
  | n :: l => by
    obtain ⟨i1, i2⟩ := ints_lay l
    refine ⟨?_, ?_⟩
    · simp [PyData.canLayAll0, PyData.canLay0, i1]
    · simp only [List.map_cons, PyData.depthAll, PyData.depth]
      omega
theorem ints_shaped (l : List Int) : SeqAt.shaped (.list (l.map PyData.int)) = true := by
  obtain ⟨i1, i2⟩ := ints_lay l
  show (PyData.canLay0 (.list (l.map PyData.int)) && decide (PyData.depth (.list (l.map PyData.int)) ≤ 64)) = true
  rw [Bool.and_eq_true]
  exact ⟨by simp only [PyData.canLay0]; exact i1, decide_eq_true (by simp only [PyData.depth]; omega)⟩
theorem eqv_self {d : PyData} (h : SeqAt.shaped d = true) : (!PyData.eqv d d) = false := by
  rw [SeqAt.eqv_refl _ (SeqAt.canLay_of_shaped h)]
  rfl
/-! ### the versions of a name -/
def numI (ks : List Kk) (nm : Str) : List Int := (ks.filter fun y => decide (y.1 = nm)).map (·.2)
theorem numsOf_eq (ks : List Kk) (nm : Str) : numsOf ks nm = (numI ks nm).map V.int := by
  unfold numsOf numI
  rw [List.map_map]
  rfl
theorem numI_perm {ks ys : List Kk} {nm : Str} (h : ys.Perm ks) : (numI ys nm).Perm (numI ks nm) := (h.filter _).map _
theorem numI_asc {ys : List Kk} {nm : Str} (h : Asc ys) : (numI ys nm).Pairwise (· ≤ ·) := by
  unfold numI
  rw [List.pairwise_map]
  refine (List.Pairwise.imp_of_mem ?_ (h.sublist List.filter_sublist))
  intro a b ha hb hab
  have e1 : a.1 = nm := by simpa using (List.mem_filter.mp ha).2
  have e2 : b.1 = nm := by simpa using (List.mem_filter.mp hb).2
  rcases pLt_no hab with q | ⟨_, q⟩
  · rw [e1, e2, tx_irr] at q
    cases q
  · exact q
theorem numI_uniq {ks ys : List Kk} {nm : Str} {ns : List Int} (h : ys.Perm ks) (a : Asc ys) (hp : ns.Perm (numI ks nm)) (hs : ns.Pairwise (· ≤ ·)) : ns = numI ys nm :=
  sorted_uniq (fun _ _ h1 h2 => Int.le_antisymm h1 h2) hs (numI_asc a) (hp.trans (numI_perm h).symm)
theorem numI_len (ks : List Kk) (nm : Str) : (numI ks nm).length ≤ ks.length := by
  unfold numI
  rw [List.length_map]
  exact List.length_filter_le ..
theorem numI_take {bs : List (Addr × Kk)} {nm : Str} {i : Nat} {b : Addr × Kk} (hb : bs[i]? = some b) : numI ((bs.take (i + 1)).map (·.2)) nm = numI ((bs.take i).map (·.2)) nm ++ (if b.2.1 = nm then [b.2.2] else []) := by
  rw [take_next hb, List.map_append]
  unfold numI
  rw [List.filter_append, List.map_append]
  congr 1
  by_cases c : b.2.1 = nm <;> simp [c]
theorem vers_it {K : PySem.W.Frag} {σ : L2.St} {H : Hp} {l D : Addr} {bs : List (Addr × Kk)} {nm : Str} {Qd : Hp → Prop} (hl : H l = some (.lst (bs.map fun b => .ref b.1))) (ht : KeysIn H bs) (few : bs.length ≤ 40) (hz : σ.length = 16) (h7 : σ[7]? = some (some (.str nm))) (hD : H D = none)
    (k : ∀ H', Same H H' → H' D = some (.lst ((numI (bs.map (·.2)) nm).map V.int)) → Qd H') : LcW (Itl K l) (gTup K 2 (gCons (gName 15) (gCons (gName 14) gNil))) (tTest (tOp rEq (tVar 15) (tVar 7))) (tVar 14) [15, 14] σ H D Qd := by
  refine lc_it (walk_list (K := K) (a := l) (xs := bs.map fun b => .ref b.1)) (AccP H D (fun i => (numI ((bs.take i).map (·.2)) nm).map V.int)) (AccP.zero hD rfl) (fun i H' _ p => SqL.of (p.1 _ _ hl)) ?_ ?_
  · rintro i x H1 H2 hi p ⟨rfl, hx⟩
    obtain ⟨b, hb, rfl⟩ : ∃ b, bs[i]? = some b ∧ x = .ref b.1 := by
      rw [List.getElem?_map] at hx
      obtain ⟨e, h1, h2⟩ := Option.map_eq_some_iff.mp hx
      exact ⟨e, h1, h2.symm⟩
    refine ⟨b.1, _, rfl, .inl (.inl (p.1 _ _ (ht b (List.mem_of_getElem? hb)))), rfl, _, _, rfl, _, _, rfl, rfl, ?_, ?_⟩
    · match σ, hz with
      | [_, _, _, _, _, _, _, _, _, _, _, _, _, _, _, _], _ => rfl
    · refine ⟨.str b.2.1, ?_, .str nm, ?_, rfl, _, rfl, ?_⟩
      · match σ, hz with
        | [_, _, _, _, _, _, _, _, _, _, _, _, _, _, _, _], _ => rfl
      · match σ, hz, h7 with
        | [_, _, _, _, _, _, _, _, _, _, _, _, _, _, _, _], _, h7 => exact h7
      · have e := numI_take (nm := nm) hb
        have hlen : ((numI ((bs.take i).map (·.2)) nm).map V.int).length ≤ 1000 := by
          rw [List.length_map]
          refine Nat.le_trans (numI_len _ _) ?_
          rw [List.length_map, List.length_take]
          omega
        by_cases c : b.2.1 = nm
        · rw [if_pos c] at e
          rw [c]
          refine ite_yes (by simp) ?_
          refine ⟨.int b.2.2, ?_, ?_⟩
          · match σ, hz with
            | [_, _, _, _, _, _, _, _, _, _, _, _, _, _, _, _], _ => rfl
          · refine p.step hD ?_ hlen (Same.refl _)
            show (numI ((bs.take (i + 1)).map (·.2)) nm).map V.int = _
            rw [e, List.map_append]
            rfl
        · rw [if_neg c, List.append_nil] at e
          refine ite_no (decide_eq_false fun z => c (by cases z; rfl)) ?_
          refine p.skip ?_ (Same.refl _)
          show (numI ((bs.take (i + 1)).map (·.2)) nm).map V.int = _
          rw [e]
  · intro H2 p
    have q := p.2
    rw [show (bs.map fun b => V.ref b.1).length = bs.length from List.length_map ..] at q
    dsimp only at q
    rw [List.take_length] at q
    exact k H2 p.1 q
end Half

namespace Half
open PySem PySem.Spec PyProof.Rows L2 LamX
section
variable {P : Program} {w : World} {K : PySem.W.Frag} {mg : Str → Option Value} {base : Heap} {C CE CT c0 c1 c2 c3 c4 c5 c6 c7 c8 cS : Addr}
theorem loop_names {f c : Addr} {A : Around} {outer : List Env} {s : Shared} {H0 : Hp} {E : XK} (T : TxtL mg) (S : StAll P w K mg base C CT c5 c4 c1)
    (hr : Room 10 (A.deeper (envOfC "law" (defScope sLaw) s.heap.objs.size f (.ref c)))) (nd' : LawN.Nodup) :
    ∃ t, PSs (cxOf CX0 P w K mg base LawN "law" (defScope sLaw) f (.ref c) A outer s H0 E).nox (forBody (nth (defBody sLaw) 10)) t ∧ ∀ (D' : Ends) (H : Hp) (so st ot l : Addr) (bs : List (Addr × Kk)) (es : Eds) (nm : Str) (x0 x1 x3 x4 x5 x6 x8 x9 x11 x14 x15 : Option V),
      LS K C CT so st ot l bs es H → nm ∈ (keysOf es).map (·.1) →
      (∀ H', Same H H' → D'.nx [x0, x1, some (.ref l), x3, x4, x5, x6, some (.str nm), x8, x9, some (.ref ot), x11, some (.ref so), some (.ref st), x14, x15] H') →
      t D' [x0, x1, some (.ref l), x3, x4, x5, x6, some (.str nm), x8, x9, some (.ref ot), x11, some (.ref so), some (.ref st), x14, x15] H := by
  obtain ⟨fv, fdv, Mv, Fv, bv⟩ := S.ver
  have r1 : Room 1 _ := hr.mono (by decide)
  refine ⟨_, pss_one (ps_if (pt_cmpR (op_neD hr.units) (pe_callTy call_list_of (by rfl) T.lst (by decide +kernel) (pa_cons (pe_meth (pv 13) S.cl Mv Fv r1 bv .nil passL (pa_cons (pv 7) pa_nil)) pa_nil))
      (pe_callB cr_sorted (by rfl) T.srt (by decide +kernel) (pa_cons
        (pe_lc (own := [("_law_one", 15), ("_law_version", 14)]) (g := gTup K 2 (gCons (gName 15) (gCons (gName 14) gNil))) (tt := tTest (tOp rEq (tVar 15) (tVar 7))) rfl nd' (pi_list (pv 2)) (blkOk_by (N := LawN) (sc := defScope sLaw) (by decide +kernel))
          (fun _ _ _ _ _ => pg_tup rfl (pgs_cons (pg_name (i := 15) nd' rfl (Or.inl rfl)) (pgs_cons (pg_name (i := 14) nd' rfl (Or.inl rfl)) pgs_nil))) (fun _ _ _ _ _ => pts_one (pt_cmpR op_eq (pv 15) (pv 7) (nomark _))) (fun _ _ _ _ _ => pv 14)) pa_nil)) (nomark _)) (pss_one (ps_ret pe_bl)) pss_nil), ?_⟩
  intro D' H so st ot l bs es nm x0 x1 x3 x4 x5 x6 x8 x9 x11 x14 x15 hL hm k
  obtain ⟨⟨dy, tb, nb, hb, _⟩, _⟩ := id hL.st
  refine ⟨_, rfl, st, dy, _, rfl, hb, rfl, _, rfl, st, es, nm, rfl, hL.st, fun _ ys t hp ha ht => ?_, fun z => absurd hm z⟩
  refine ⟨t, _, rfl, .inr (.inl (.inl ht)), fun p np => ?_⟩
  have q1 := Same.upd_new (o := .lst (numsOf ys nm)) np
  have L1 := hL.same q1
  refine ⟨_, rfl, l, rfl, ⟨_, SqL.of L1.le.keys⟩, fun D hD => vers_it (nm := nm) L1.le.keys L1.le.tu (by have := L1.le.few; omega) rfl rfl hD (fun H2 s2 hl2 => ?_)⟩
  refine ⟨D, _, rfl, SqL.of hl2, ?_, fun ns p2 hp2 hs2 np2 => ?_⟩
  · refine Nat.lt_of_le_of_lt (numI_len _ _) ?_
    rw [List.length_map]
    have := L1.le.few
    omega
  rw [← L1.le.ke] at hp2
  have e := numI_uniq hp ha hp2 hs2
  subst e
  have q3 := Same.upd_new (o := .lst ((numI ys nm).map V.int)) np2
  have hp3 := (s2.trans q3) _ _ (upd_same (H := H) (a := p) (o := .lst (numsOf ys nm)))
  rw [numsOf_eq] at hp3
  refine ⟨_, _, .lst (SqL.of hp3) (dpInts _), .lst (SqL.of upd_same) (dpInts _), ints_shaped _, ints_shaped _, _, rfl, ?_⟩
  refine ite_no (eqv_self (ints_shaped _)) ?_
  exact k _ (q1.trans (s2.trans q3))
theorem loop_keys {f c : Addr} {A : Around} {outer : List Env} {s : Shared} {H0 : Hp} {E : XK} (S : StAll P w K mg base C CT c5 c4 c1) (D : EdAll P w K mg base C CE)
    (hr : Room 10 (A.deeper (envOfC "law" (defScope sLaw) s.heap.objs.size f (.ref c)))) (nd' : LawN.Nodup) :
    ∃ t, PSs (cxOf CX0 P w K mg base LawN "law" (defScope sLaw) f (.ref c) A outer s H0 E).nox (forBody (nth (defBody sLaw) 11)) t ∧ ∀ (D' : Ends) (H : Hp) (so st ot l tk : Addr) (k : Kk) (bs : List (Addr × Kk)) (es : Eds) (x0 x1 x3 x4 x5 x7 x8 x9 x11 x14 x15 : Option V),
      LS K C CT so st ot l bs es H → (tk, k) ∈ bs →
      (∀ H', Same H H' → D'.nx [x0, x1, some (.ref l), x3, x4, x5, some (.ref tk), x7, x8, x9, some (.ref ot), x11, some (.ref so), some (.ref st), x14, x15] H') →
      t D' [x0, x1, some (.ref l), x3, x4, x5, some (.ref tk), x7, x8, x9, some (.ref ot), x11, some (.ref so), some (.ref st), x14, x15] H := by
  obtain ⟨fh, fdh, Oh, Fh, bh⟩ := S.has
  obtain ⟨ft, fdt, Ot, kt, Ft, bt⟩ := S.item
  obtain ⟨fi, fdi, aS, z1, z2, z3, EI⟩ := D.ei
  obtain ⟨ds, hds, hb0⟩ := EI.b0
  have r7 : Room 7 _ := hr.mono (by decide)
  have r1 : Room 1 _ := hr.mono (by decide)
  have r2 : Room 2 _ := hr.mono (by decide)
  have r3 : Room 3 _ := hr.mono (by decide)
  refine ⟨_, pss_one (ps_if (PW.pt (pw_or (pt_cmpR (op_notinO (E := E0) Fh Oh bh r1 pass0) (pv 6) (pv 13) (by rfl))
      (pw_or1 (pt_cmpR (op_neE D.eq r2) (pe_ixO Ft Ot kt bt (Room.in1 r3) passL (pv 13) (pv 6)) (pe_make EI.make EI.ok r7 rfl EI.mgC hb0 hds passL (pa_cons (pe_ix ix_tup (pv 6) pe_int (fun _ _ => rfl)) (pa_cons (pe_ix ix_tup (pv 6) pe_int (fun _ _ => rfl)) pa_nil))) (nomark _))))) (pss_one (ps_ret pe_bl)) pss_nil), ?_⟩
  intro D' H so st ot l tk k bs es x0 x1 x3 x4 x5 x7 x8 x9 x11 x14 x15 hL hm q
  have htk := hL.le.tu _ hm
  have hg : good k := hL.le.ok _ hm
  obtain ⟨w1, w2, w3⟩ := nm5_ok _ hg.1
  have hk : k ∈ keysOf es := by rw [hL.le.ke]; exact List.mem_map.mpr ⟨_, hm, rfl⟩
  obtain ⟨dx, fs, ha⟩ := hL.st.ins
  refine ⟨_, rfl, _, rfl, st, dx, fs, rfl, ha, st, tk, es, k, rfl, hL.st, htk, _, rfl, _, rfl, ?_⟩
  rw [has_iff.mpr hk]
  refine ite_no rfl ?_
  refine ⟨_, rfl, _, rfl, st, dx, fs, rfl, ha, st, tk, es, k, rfl, hL.st, htk, fun e he ee => ?_, fun z => absurd hk z⟩
  refine ⟨_, rfl, _, _, _, _, rfl, rfl, .inl (.inl htk), rfl, _, rfl, _, _, _, _, rfl, rfl, .inl (.inl htk), rfl, fun u du nu ndu nuu => ?_⟩
  refine mk_read (e := edP k.1 k.2) nu ndu ⟨EI.tS _, .nil (EI.t1 _), .nil (EI.t2 _), EI.t3 _⟩ (edP_small w3) (edP_ok w2 hg.2.1 (by have := hg.2.2; omega)) (fun H2 s2 ho => ?_)
  have is1 := hL.le.ed e he
  rw [ee] at is1
  refine eqO_read (is1.same s2) (edP_is ho w1) ?_
  refine ⟨_, rfl, ?_⟩
  refine ite_no ?_ (q _ s2)
  have := is1.2.2
  exact eqv_self this
end
end Half

namespace Half
open PySem PySem.Spec PyProof.Rows L2 LamX
theorem names_asc {ys : List Kk} (h : Asc ys) : (dset (ys.map (·.1))).Pairwise txLe := by
  refine List.Pairwise.sublist (dset_sub _) ?_
  rw [List.pairwise_map]
  refine h.imp fun {a b} hab => ?_
  unfold txLe
  rcases pLt_no hab with q | ⟨q, _⟩
  · exact tx_as q
  · rw [q]; exact tx_irr _
theorem names_uniq {ks ys : List Kk} {zs l : List Str} (hp : ys.Perm ks) (ha : Asc ys) (hl : l.Nodup) (hm : ∀ z, z ∈ l ↔ z ∈ ks.map (·.1)) (hz : zs.Perm l) (hs : sortedS zs = true) : zs = dset (ys.map (·.1)) := by
  refine sorted_uniq txLe_as (sortedS_pw hs) (names_asc ha) (hz.trans ?_)
  refine (perm_of_len (dset_nodup _) (fun z h => ?_) ?_)
  · rw [hm]
    have := (mem_dset _ z).mp h
    exact ((hp.map _).mem_iff).mp this
  · refine len_sub hl fun z h => ?_
    rw [mem_dset]
    exact ((hp.map _).mem_iff).mpr ((hm z).mp h)
theorem strs_lay : ∀ l : List Str, (∀ z ∈ l, PyData.strOk z = true) → PyData.canLayAll0 (l.map PyData.str) = true ∧ PyData.depthAll (l.map PyData.str) ≤ 1
  | [], _ => ⟨by simp [PyData.canLayAll0], by simp [PyData.depthAll]⟩
  | n :: l, h => by
    obtain ⟨i1, i2⟩ := strs_lay l fun z hz => h z (List.mem_cons_of_mem _ hz)
    have := h n List.mem_cons_self
    refine ⟨?_, ?_⟩
    · simp [PyData.canLayAll0, PyData.canLay0, i1, this]
    · simp only [List.map_cons, PyData.depthAll, PyData.depth]
      omega
theorem strs_shaped {l : List Str} (h : ∀ z ∈ l, PyData.strOk z = true) : SeqAt.shaped (.list (l.map PyData.str)) = true := by
  obtain ⟨i1, i2⟩ := strs_lay l h
  show (PyData.canLay0 (.list (l.map PyData.str)) && decide (PyData.depth (.list (l.map PyData.str)) ≤ 64)) = true
  rw [Bool.and_eq_true]
  exact ⟨by simp only [PyData.canLay0]; exact i1, decide_eq_true (by simp only [PyData.depth]; omega)⟩
section
variable {P : Program} {w : World} {K : PySem.W.Frag} {mg : Str → Option Value} {base : Heap} {C CE CT c0 c1 c2 c3 c4 c5 c6 c7 c8 cS : Addr}
theorem LE.nmOk {so l : Addr} {bs : List (Addr × Kk)} {es : Eds} {H : Hp} (h : LE K C so l bs es H) {nm : Str} (hn : nm ∈ (keysOf es).map (·.1)) : PyData.strOk nm = true := by
  rw [h.ke] at hn
  obtain ⟨k, hk, rfl⟩ := List.mem_map.mp hn
  obtain ⟨b, hb, rfl⟩ := List.mem_map.mp hk
  exact good_ok (h.ok b hb)
theorem law_c {f c PT : Addr} {A : Around} {outer : List Env} {s : Shared} {H0 : Hp} {E : XK} (T : TxtL mg) (S : StAll P w K mg base C CT c5 c4 c1) (D : EdAll P w K mg base C CE) (R : RaisedF K mg) (EA : ErrAll K mg c0 c1 c2 c3 c4 c5 c6 c7 c8 cS) (TB : TabB base mg c PT)
    (hr : Room 10 (A.deeper (envOfC "law" (defScope sLaw) s.heap.objs.size f (.ref c)))) (nd' : LawN.Nodup) :
    ∃ t, PSs (cxOf CX0 P w K mg base LawN "law" (defScope sLaw) f (.ref c) A outer s H0 E).nox ((defBody sLaw).drop 10) t ∧ ∀ (D' : Ends) (H : Hp) (so st ot l : Addr) (bs : List (Addr × Kk)) (es : Eds) (x0 x1 x3 x4 x5 x6 x7 x8 x9 x11 x14 x15 : Option V),
      LS K C CT so st ot l bs es H → Tabs [(PT, lamQ)] H → (∀ H', D'.rt (.bl true) H') →
      t D' [x0, x1, some (.ref l), x3, x4, x5, x6, x7, x8, x9, some (.ref ot), x11, some (.ref so), some (.ref st), x14, x15] H := by
  obtain ⟨tD, hD, rdD⟩ := law_d (A := A) (outer := outer) (s := s) (H0 := H0) (E := E) T S R EA TB hr nd'
  obtain ⟨tN, hN, rdN⟩ := loop_names (A := A) (outer := outer) (s := s) (H0 := H0) (E := E) T S hr nd'
  obtain ⟨tK, hK, rdK⟩ := loop_keys (A := A) (outer := outer) (s := s) (H0 := H0) (E := E) S D hr nd'
  obtain ⟨p, g, fd, Pn, Fn, bn⟩ := S.nam
  have r2 : Room 2 _ := hr.mono (by decide)
  refine ⟨_, pss_cons (ps_for PassesOwn.never rfl (pi_tup (pe_prop (pv 13) S.cl Pn Fn r2 bn .nil pass0 rfl)) (pg_name (i := 7) nd' rfl (Or.inr rfl)) hN)
    (pss_cons (ps_for PassesOwn.never rfl (pi_list (pv 2)) (pg_name (i := 6) nd' rfl (Or.inl rfl)) hK) hD), ?_⟩
  intro D' H so st ot l bs es x0 x1 x3 x4 x5 x6 x7 x8 x9 x11 x14 x15 hL hT k
  obtain ⟨dx, fs, ha⟩ := hL.st.ins
  refine ⟨_, rfl, st, dx, fs, rfl, ha, st, es, rfl, hL.st, fun ys nt hp has nnt => ?_⟩
  have q1 := Same.upd_new (o := .tup ((dset (ys.map (·.1))).map V.str)) nnt
  refine ⟨nt, rfl, ⟨_, .inl (.inl upd_same)⟩, ?_⟩
  refine for_it (walk_tup (xs := (dset (ys.map (·.1))).map V.str)) (fun i σ H' => Same (upd H nt (.tup ((dset (ys.map (·.1))).map V.str))) H' ∧ ∃ x7, σ = [x0, x1, some (.ref l), x3, x4, x5, x6, x7, x8, x9, some (.ref ot), x11, some (.ref so), some (.ref st), x14, x15]) ?_ ?_ ?_ ?_
  · exact ⟨Same.refl _, x7, rfl⟩
  · rintro i σ H1 _ ⟨s1, _⟩
    exact .inl (.inl (s1 _ _ upd_same))
  · rintro i x σ H1 H2 hi ⟨s1, y7, rfl⟩ ⟨rfl, hx⟩
    obtain ⟨nm, hnm, rfl⟩ : ∃ z, (dset (ys.map (·.1)))[i]? = some z ∧ x = .str z := by
      rw [List.getElem?_map] at hx
      obtain ⟨e, h1, h2⟩ := Option.map_eq_some_iff.mp hx
      exact ⟨e, h1, h2.symm⟩
    have hm : nm ∈ (keysOf es).map (·.1) := ((hp.map _).mem_iff).mp ((mem_dset _ _).mp (List.mem_of_getElem? hnm))
    exact rdN _ _ so st ot l bs es nm _ _ _ _ _ _ _ _ _ _ _ ((hL.same q1).same s1) hm (fun H3 s3 => ⟨s1.trans s3, _, rfl⟩)
  · rintro σ H1 ⟨s1, y7, rfl⟩
    have L1 := (hL.same q1).same s1
    have T1 := (hT.ext q1).ext s1
    refine ⟨_, rfl, l, rfl, ⟨_, SqL.of L1.le.keys⟩, ?_⟩
    refine for_it (walk_list (xs := bs.map fun b => V.ref b.1)) (fun i σ H' => Same H1 H' ∧ ∃ x6, σ = [x0, x1, some (.ref l), x3, x4, x5, x6, y7, x8, x9, some (.ref ot), x11, some (.ref so), some (.ref st), x14, x15]) ?_ ?_ ?_ ?_
    · exact ⟨Same.refl _, _, rfl⟩
    · rintro i σ H2 _ ⟨s2, _⟩
      exact SqL.of (s2 _ _ L1.le.keys)
    · rintro i x σ H2 H3 hi ⟨s2, y6, rfl⟩ ⟨rfl, hx⟩
      obtain ⟨b, hb, rfl⟩ : ∃ z, bs[i]? = some z ∧ x = .ref z.1 := by
        rw [List.getElem?_map] at hx
        obtain ⟨e, h1, h2⟩ := Option.map_eq_some_iff.mp hx
        exact ⟨e, h1, h2.symm⟩
      exact rdK _ _ so st ot l b.1 b.2 bs es _ _ _ _ _ _ _ _ _ _ _ (L1.same s2) (List.mem_of_getElem? hb) (fun H4 s4 => ⟨s2.trans s4, _, rfl⟩)
    · rintro σ H2 ⟨s2, y6, rfl⟩
      exact rdD _ _ so st ot l bs es _ _ _ _ _ _ _ _ _ _ _ _ (L1.same s2) (T1.ext s2) k
end
end Half

namespace Half
open PySem PySem.Spec PyProof.Rows L2 LamX
section
variable {P : Program} {w : World} {K : PySem.W.Frag} {mg : Str → Option Value} {base : Heap} {C CE CT c0 c1 c2 c3 c4 c5 c6 c7 c8 cS : Addr}
theorem law_b {f c PT : Addr} {A : Around} {outer : List Env} {s : Shared} {H0 : Hp} {E : XK} (T : TxtL mg) (S : StAll P w K mg base C CT c5 c4 c1) (D : EdAll P w K mg base C CE) (R : RaisedF K mg) (EA : ErrAll K mg c0 c1 c2 c3 c4 c5 c6 c7 c8 cS) (TB : TabB base mg c PT)
    (hr : Room 10 (A.deeper (envOfC "law" (defScope sLaw) s.heap.objs.size f (.ref c)))) (nd' : LawN.Nodup) :
    ∃ t, PSs (cxOf CX0 P w K mg base LawN "law" (defScope sLaw) f (.ref c) A outer s H0 E).nox ((defBody sLaw).drop 7) t ∧ ∀ (D' : Ends) (H : Hp) (so l : Addr) (bs : List (Addr × Kk)) (es : Eds) (x0 x1 x3 x4 x5 x6 x7 x8 x9 x10 x11 x13 x14 x15 : Option V),
      LE K C so l bs es H → wrongAt (keysOf es) = none → Tabs [(PT, lamQ)] H → (∀ H', D'.rt (.bl true) H') →
      t D' [x0, x1, some (.ref l), x3, x4, x5, x6, x7, x8, x9, x10, x11, some (.ref so), x13, x14, x15] H := by
  obtain ⟨tC, hC, rdC⟩ := law_c (A := A) (outer := outer) (s := s) (H0 := H0) (E := E) T S D R EA TB hr nd'
  obtain ⟨fi, fdi, F1, M1, b1, mgS⟩ := S.ini
  obtain ⟨p, g, fd, Pn, Fn, bn⟩ := S.nam
  obtain ⟨fl, fdl, Ol, Fl, bl⟩ := S.len
  have r2 : Room 2 _ := hr.mono (by decide)
  have r5 : Room 5 _ := hr.mono (by decide)
  refine ⟨_, pss_cons (ps_asg (pe_tup (pa_cons (pe_make M1 F1 r5 rfl mgS b1 .nil passL (pa_cons (pv 12) pa_nil)) (pa_cons (pe_make M1 F1 r5 rfl mgS b1 .nil passL (pa_cons (pe_revT (pv 12)) pa_nil)) pa_nil)))
      (pg_tup rfl (pgs_cons (pg_name (i := 13) nd' rfl (Or.inr rfl)) (pgs_cons (pg_name (i := 10) nd' rfl (Or.inl rfl)) pgs_nil))))
    (pss_cons (ps_if (pt_cmpR (op_neD hr.units) (pe_callTy call_list_of (by rfl) T.lst (by decide +kernel) (pa_cons (pe_prop (pv 13) S.cl Pn Fn r2 bn .nil pass0 rfl) pa_nil))
      (pe_callB (cr_sortTx rfl) (by rfl) T.srt (by decide +kernel) (pa_cons (pe_callTy (cr_setTx rfl) (by rfl) T.set (by decide +kernel) (pa_cons
        (pe_lc (own := [("_law_name", 7), ("_law_version", 14)]) (g := gTup K 2 (gCons (gName 7) (gCons (gName 14) gNil))) (tt := tYes) rfl nd' (pi_list (pv 2)) (blkOk_by (N := LawN) (sc := defScope sLaw) (by decide +kernel))
          (fun _ _ _ _ _ => pg_tup rfl (pgs_cons (pg_name (i := 7) nd' rfl (Or.inl rfl)) (pgs_cons (pg_name (i := 14) nd' rfl (Or.inl rfl)) pgs_nil))) (fun _ _ _ _ _ => pts_nil) (fun _ _ _ _ _ => pv 7)) pa_nil)) pa_nil)) (nomark _)) (pss_one (ps_ret pe_bl)) pss_nil)
    (pss_cons (ps_if (pt_cmpR op_ne (pe_callB (call_lenO (E := E0) Fl Ol bl (Room.in1 r2) pass0) (by rfl) T.len PySem.boot_len (pa_cons (pv 13) pa_nil)) (pe_callB call_len_seq (by rfl) T.len PySem.boot_len (pa_cons (pv 2) pa_nil)) (nomark _)) (pss_one (ps_ret pe_bl)) pss_nil) hC)), ?_⟩
  intro D' H so l bs es x0 x1 x3 x4 x5 x6 x7 x8 x9 x10 x11 x13 x14 x15 hL hw hT k
  refine ⟨_, rfl, fun st dx nx ndx nxx => ?_⟩
  refine mkS_read (es := es) nx ndx hL.som (by have := hL.mem; omega) hw (fun H1 s1 hst => ?_)
  have L1 := hL.same s1
  refine ⟨_, rfl, so, _, rfl, L1.som.1, fun so2 nso2 => ?_⟩
  have q2 := Same.upd_new (o := .tup (es.map fun e => V.ref e.1).reverse) nso2
  have L2' := L1.same q2
  have hst2 := hst.same q2
  refine fun ot dy ny ndy nyy => ?_
  refine mkS_read (es := es.reverse) ny ndy ⟨.inl (.inl (by rw [upd_same, List.map_reverse])), fun e he => L2'.som.2 e (List.mem_reverse.mp he)⟩ (by rw [List.length_reverse]; have := hL.mem; omega) ?_ (fun H3 s3 hot => ?_)
  · rw [show keysOf es.reverse = (keysOf es).reverse from List.map_reverse ..]
    exact wrong_rev hw
  refine ⟨two_le, fun tp ntp => ?_⟩
  have q4 := Same.upd_new (o := .tup [.ref st, .ref ot]) ntp
  have L4 : LS K C CT so st ot l bs es (upd H3 tp (.tup [.ref st, .ref ot])) := ⟨(L2'.same s3).same q4, (hst2.same s3).same q4, hot.same q4, hw⟩
  have T4 := (((hT.ext s1).ext q2).ext s3).ext q4
  refine ⟨tp, _, rfl, .inl (.inl upd_same), rfl, _, _, rfl, _, _, rfl, rfl, ?_⟩
  obtain ⟨dz, fz, hz⟩ := L4.st.ins
  refine ⟨_, rfl, st, dz, fz, rfl, hz, st, es, rfl, L4.st, fun ys nt hp has nnt => ?_⟩
  have q5 := Same.upd_new (o := .tup ((dset (ys.map (·.1))).map V.str)) nnt
  refine ⟨nt, _, rfl, .inr (.inl (.inl upd_same)), fun nl nnl => ?_⟩
  have q6 := Same.upd_new (o := .lst ((dset (ys.map (·.1))).map V.str)) nnl
  have L6 := (L4.same q5).same q6
  have T6 := (T4.ext q5).ext q6
  have hn6 : (upd (upd (upd H3 tp (.tup [.ref st, .ref ot])) nt (.tup ((dset (ys.map (·.1))).map V.str))) nl (.lst ((dset (ys.map (·.1))).map V.str))) nl = some (.lst ((dset (ys.map (·.1))).map V.str)) := upd_same
  refine ⟨_, rfl, l, rfl, ⟨_, SqL.of L6.le.keys⟩, fun D hD => names_it (bs := bs) L6.le.keys L6.le.tu (by have := L6.le.few; omega) rfl hD (fun H7 s7 hl7 => ?_)⟩
  refine ⟨D, _, rfl, SqL.of hl7, by simp; have := L6.le.few; omega, fun sa l1 nd1 mem1 le1 nsa => ?_⟩
  have s8 := s7.trans (Same.upd_new (o := TxO P w sa l1) nsa)
  refine ⟨sa, l1, rfl, upd_same, by simp at le1; have := L6.le.few; omega, fun zs p9 hp1 hp2 np9 => ?_⟩
  have s9 := s8.trans (Same.upd_new (o := .lst (zs.map V.str)) np9)
  have e := names_uniq (zs := zs) hp has nd1 (fun z => by rw [mem1, L6.le.ke, List.map_map]; rfl) hp1 hp2
  subst e
  have L9 := L6.same s9
  have sh : SeqAt.shaped (.list ((dset (ys.map (·.1))).map PyData.str)) = true := strs_shaped fun z hz => L9.le.nmOk (((hp.map _).mem_iff).mp ((mem_dset _ _).mp hz))
  refine ⟨_, _, .lst (SqL.of (s9 _ _ hn6)) (dpStrs _), .lst (SqL.of upd_same) (dpStrs _), sh, sh, _, rfl, ?_⟩
  refine ite_no (eqv_self sh) ?_
  obtain ⟨du, fu, hu9⟩ := L9.st.ins
  refine ⟨_, rfl, st, du, fu, rfl, hu9, st, es, rfl, L9.st, _, rfl, ?_, ?_⟩
  · have := L9.le.mem
    omega
  refine ⟨_, rfl, l, _, rfl, .inl (SqL.of L9.le.keys), rfl, _, rfl, ?_⟩
  refine ite_no ?_ ?_
  · rw [dec_int, List.length_map, L9.le.len]
    simp
  · exact rdC _ _ so st ot l bs es _ _ _ _ _ _ _ _ _ _ _ _ L9 (T6.ext s9) k
end
end Half

namespace Half
open PySem PySem.Spec PyProof.Rows L2 LamX
theorem EdIs.key {K : PySem.W.Frag} {H : Hp} {C a : Addr} {nm : Str} {v : Int} (h : EdIs K H C a (edP nm v)) : EdK C H a (nm, v) := by
  obtain ⟨⟨s, n, f, g, ⟨dx, p, h1, h2⟩, h3⟩, _⟩ := h
  exact ⟨dx, p, _, h1, h2⟩
/-! ### the editions that the law makes -/
structure MkP (K : PySem.W.Frag) (C : Addr) (H1 : Hp) (D : Addr) (bs : List (Addr × Kk)) (i : Nat) (H : Hp) : Prop where
  sm : Same H1 H
  ex : ∃ es : Eds, H D = some (.lst (es.map fun e => .ref e.1)) ∧ keysOf es = (bs.take i).map (·.2) ∧ ∀ e ∈ es, EdIs K H C e.1 (edP e.2.1 e.2.2)
theorem eds_it {K : PySem.W.Frag} {σ : L2.St} {H : Hp} {C CE l D aS z1 z2 z3 : Addr} {bs : List (Addr × Kk)} {Qd : Hp → Prop} (tS : ∀ H, SqT K H aS (SCR.map V.str)) (t1 : ∀ H, SqT K H z1 []) (t2 : ∀ H, SqT K H z2 []) (t3 : ∀ H, SqT K H z3 [])
    (hl : H l = some (.lst (bs.map fun b => .ref b.1))) (ht : KeysIn H bs) (ok : ∀ b ∈ bs, good b.2) (few : bs.length ≤ 40) (hz : σ.length = 16) (hD : H D = none)
    (k : ∀ H' (es : Eds), Same H H' → H' D = some (.lst (es.map fun e => .ref e.1)) → keysOf es = bs.map (·.2) → (∀ e ∈ es, EdIs K H' C e.1 (edP e.2.1 e.2.2)) → Qd H') :
    LcW (Itl K l) (gTup K 2 (gCons (gName 7) (gCons (gName 14) gNil))) tYes (tMake C (spEi K C CE) [.ref aS, .ref z1, .ref z2, .ref z3] E0 (tCons (tVar 7) (tCons (tVar 14) tNil))) [7, 14] σ H D Qd := by
  refine lc_it (walk_list (K := K) (a := l) (xs := bs.map fun b => .ref b.1)) (MkP K C H D bs) ⟨Same.upd_new hD, [], upd_same, rfl, fun e he => nomatch he⟩ (fun i H' _ p => SqL.of (p.sm _ _ hl)) ?_ ?_
  · rintro i x H1 H2 hi p ⟨rfl, hx⟩
    obtain ⟨b, hb, rfl⟩ : ∃ b, bs[i]? = some b ∧ x = .ref b.1 := by
      rw [List.getElem?_map] at hx
      obtain ⟨e, h1, h2⟩ := Option.map_eq_some_iff.mp hx
      exact ⟨e, h1, h2.symm⟩
    have hbm := List.mem_of_getElem? hb
    have hg : good b.2 := ok _ hbm
    obtain ⟨w1, w2, w3⟩ := nm5_ok _ hg.1
    refine ⟨b.1, _, rfl, .inl (.inl (p.sm _ _ (ht b hbm))), rfl, _, _, rfl, _, _, rfl, rfl, ?_, ?_⟩
    · match σ, hz with
      | [_, _, _, _, _, _, _, _, _, _, _, _, _, _, _, _], _ => rfl
    · refine ⟨.str b.2.1, ?_, .int b.2.2, ?_, fun u du nu ndu nuu => ?_⟩
      · match σ, hz with
        | [_, _, _, _, _, _, _, _, _, _, _, _, _, _, _, _], _ => rfl
      · match σ, hz with
        | [_, _, _, _, _, _, _, _, _, _, _, _, _, _, _, _], _ => rfl
      · refine mk_read (e := edP b.2.1 b.2.2) nu ndu ⟨tS _, .nil (t1 _), .nil (t2 _), t3 _⟩ (edP_small w3) (edP_ok w2 hg.2.1 (by have := hg.2.2; omega)) (fun H3 s3 ho => ?_)
        obtain ⟨es, e1, e2, e3⟩ := p.ex
        have hlen : es.length = i := by
          have := congrArg List.length e2
          rw [List.length_map, List.length_map, List.length_take] at this
          have : i < bs.length := by simpa using hi
          omega
        refine ⟨_, s3 _ _ e1, ?_, ⟨fun b' o q => ?_, es ++ [(u, b.2)], ?_, ?_, ?_⟩⟩
        · rw [List.length_map, sizeLine_eq, hlen]
          have : i < bs.length := by simpa using hi
          omega
        · rw [upd_ne (ne_of_none q hD)]
          exact s3 _ _ (p.sm _ _ q)
        · rw [upd_same, List.map_append]
          rfl
        · rw [take_next hb, List.map_append, ← e2]
          show (es ++ [(u, b.2)]).map (·.2) = _
          rw [List.map_append]
          rfl
        · have go : ∀ {a : Addr} {ed : Ed}, EdIs K H3 C a ed → EdIs K (upd H3 D (.lst ((es.map fun e => V.ref e.1) ++ [.ref u]))) C a ed := fun {a ed} h => by
            obtain ⟨⟨sa, sb, sc, sd, ⟨dxx, ppp, g1, g2⟩, g3⟩, g4⟩ := h
            have hD3 := s3 _ _ e1
            have kk : Kp K H3 (upd H3 D (.lst ((es.map fun e => V.ref e.1) ++ [.ref u]))) := Kp.upd hD3 (fun xs z => by cases z) (fun q xs z => by cases z)
            have n1 : a ≠ D := ne_of g1 hD3 (by intro z; cases z)
            have n2 : ppp ≠ D := ne_of g2 hD3 (by intro z; cases z)
            obtain ⟨ts1, a1, a2, a3⟩ := g3.needs
            obtain ⟨ts2, b1, b2, b3⟩ := g3.first
            refine ⟨⟨sa, sb, sc, sd, ⟨dxx, ppp, by rw [upd_ne n1]; exact g1, by rw [upd_ne n2]; exact g2⟩, ⟨kk _ _ g3.scripts, ⟨ts1, kk _ _ a1, a2, fun i t p q r => kk _ _ (a3 i t p q r)⟩, ⟨ts2, kk _ _ b1, b2, fun i t p q r => kk _ _ (b3 i t p q r)⟩, kk _ _ g3.against⟩⟩, g4⟩
          intro e he
          rcases List.mem_append.mp he with q | q
          · exact go ((e3 e q).same s3)
          · rw [List.mem_singleton.mp q]
            exact go (edP_is ho w1)
  · intro H2 p
    obtain ⟨es, e1, e2, e3⟩ := p.ex
    rw [show (bs.map fun b => V.ref b.1).length = bs.length from List.length_map .., List.take_length] at e2
    exact k H2 es p.sm e1 e2 e3
section
variable {P : Program} {w : World} {K : PySem.W.Frag} {mg : Str → Option Value} {base : Heap} {C CE CT c0 c1 c2 c3 c4 c5 c6 c7 c8 cS : Addr}
theorem law_a {f c PT : Addr} {A : Around} {outer : List Env} {s : Shared} {H0 : Hp} {E : XK} (T : TxtL mg) (S : StAll P w K mg base C CT c5 c4 c1) (D : EdAll P w K mg base C CE) (R : RaisedF K mg) (EA : ErrAll K mg c0 c1 c2 c3 c4 c5 c6 c7 c8 cS) (TB : TabB base mg c PT)
    (hr : Room 10 (A.deeper (envOfC "law" (defScope sLaw) s.heap.objs.size f (.ref c)))) (nd' : LawN.Nodup) :
    ∃ t, PSs (cxOf CX0 P w K mg base LawN "law" (defScope sLaw) f (.ref c) A outer s H0 E).nox ((defBody sLaw).drop 4) t ∧ ∀ (D' : Ends) (H : Hp) (r a l n : Addr) (nms : List Str) (bs : List (Addr × Kk)) (x0 x1 x3 x5 x6 x7 x8 x9 x10 x11 x12 x13 x14 x15 : Option V),
      LH K PT r a l n nms bs H → bs.length ≤ 14 → (∀ H', D'.rt (.bl true) H') →
      t D' [x0, x1, some (.ref l), x3, some (optI (wrongAt (bs.map (·.2)))), x5, x6, x7, x8, x9, x10, x11, x12, x13, x14, x15] H := by
  obtain ⟨tB, hB, rdB⟩ := law_b (A := A) (outer := outer) (s := s) (H0 := H0) (E := E) T S D R EA TB hr nd'
  obtain ⟨fi, fdi, F1, M1, b1, mgS⟩ := S.ini
  obtain ⟨fe, fde, aS, z1, z2, z3, EI⟩ := D.ei
  obtain ⟨ds, hds, hb0⟩ := EI.b0
  obtain ⟨g, oc', od', dV', kV', doc', pm', an', cdv', ct', osl', gR, kR, lkR, hcR, bR⟩ := R.ex
  have r7 : Room 7 _ := hr.mono (by decide)
  refine ⟨_, pss_cons (ps_set (i := 12) nd' rfl (Or.inr rfl) (pe_callTy call_tuple_of (by rfl) T.tup (by decide +kernel) (pa_cons
        (pe_lc (own := [("_law_name", 7), ("_law_version", 14)]) (g := gTup K 2 (gCons (gName 7) (gCons (gName 14) gNil))) (tt := tYes) (te := tMake C (spEi K C CE) [.ref aS, .ref z1, .ref z2, .ref z3] E0 (tCons (tVar 7) (tCons (tVar 14) tNil))) rfl nd' (pi_list (pv 2)) (blkOk_by (N := LawN) (sc := defScope sLaw) (by decide +kernel))
          (fun _ _ _ _ _ => pg_tup rfl (pgs_cons (pg_name (i := 7) nd' rfl (Or.inl rfl)) (pgs_cons (pg_name (i := 14) nd' rfl (Or.inl rfl)) pgs_nil))) (fun _ _ _ _ _ => pts_nil) (fun _ _ _ _ _ => pe_make EI.make EI.ok r7 rfl EI.mgC hb0 hds passL (pa_cons (pv 7) (pa_cons (pv 14) pa_nil)))) pa_nil)))
    (pss_cons (ps_if (pt_cmpR (op_neD hr.units) (pe_lamcall (T := [(PT, lamQ)]) (TT := TRaised c1 c4 c5) (k := 8) (t := fun E => tMake CT (spSi K C CT c1) [] E (tCons (tVar 12) tNil)) rfl gR kR lkR hcR bR scRaised rfl (Or.inl rfl) (raised_gives EA.T EA.I1 EA.I4 EA.I5) TB rfl (List.mem_cons_self ..)
        (fun p hp _ => by rw [List.mem_singleton.mp hp]; rfl) hr (lamS_by (sc := defScope sLaw) (by decide +kernel)) rfl (fun _ _ _ _ _ => rfl)
        (fun A outer s H E f c' hr' => pe_make M1 F1 (hr'.mono (by decide)) rfl mgS b1 .nil (passes_call (takes_of rfl rfl rfl rfl) (fun _ _ _ _ h => h)) (pa_cons (pv 12) pa_nil)))
      (pe_ifExp (pt_cmp (pc_notN (pv 4))) (pe_tup (pa_cons pe_str (pa_cons (pv 4) pa_nil))) pe_non) (nomark _)) (pss_one (ps_ret pe_bl)) pss_nil)
    (pss_cons (ps_if (pt_cmp (pc_notN (pv 4))) (pss_one (ps_ret pe_bl)) pss_nil) hB)), ?_⟩
  intro D' H r a l n nms bs x0 x1 x3 x5 x6 x7 x8 x9 x10 x11 x12 x13 x14 x15 hL few k
  refine ⟨_, rfl, l, rfl, ⟨_, SqL.of hL.keys⟩, fun Dd hD => eds_it EI.tS EI.t1 EI.t2 EI.t3 hL.keys hL.tu hL.ok (by omega) rfl hD (fun H1 es s1 h1 h2 h3 => ?_)⟩
  refine ⟨Dd, _, rfl, .inl ⟨SqL.of h1, fun so nso => ?_⟩⟩
  have q2 := Same.upd_new (o := .tup (es.map fun e => V.ref e.1)) nso
  have hLe : LE K C so l bs es (upd H1 so (.tup (es.map fun e => V.ref e.1))) := by
    have s12 := s1.trans q2
    have h3' : ∀ e ∈ es, EdIs K (upd H1 so (.tup (es.map fun e => V.ref e.1))) C e.1 (edP e.2.1 e.2.2) := fun e he => (h3 e he).same q2
    exact ⟨s12 _ _ hL.keys, fun b hb => s12 _ _ (hL.tu b hb), ⟨.inl (.inl upd_same), fun e he => (h3' e he).key⟩, h3', h2, hL.ok, few⟩
  have hT : Tabs [(PT, lamQ)] (upd H1 so (.tup (es.map fun e => V.ref e.1))) := fun p hp => by
    rw [List.mem_singleton.mp hp]
    exact TabS.nil ((s1.trans q2) _ _ hL.pt)
  refine ⟨hT, fun H3 e3 T3 => ?_⟩
  have L3 := hLe.ext e3
  refine ⟨_, rfl, fun x dx nx ndx nxx => ?_⟩
  have sx : Same H3 (upd (upd H3 dx (.own x)) x (.ins CT dx [])) := fun b o q => by
    rw [upd_ne (ne_of_none q nx), upd_ne (ne_of_none q ndx)]
    exact q
  refine ⟨x, so, dx, es, rfl, upd_same, L3.som.same sx, by have := L3.mem; omega, fun hw H4 s4 ho => ⟨rfl, ?_⟩, fun i hw H4 dd s4 hx => .inl ⟨rfl, dd, i, rfl, hx, fun H5 t5 s5 ht5 => ?_⟩⟩
  · have s34 : Same H3 H4 := fun b o q => s4 _ _ (ne_of_none q nx) (sx _ _ q)
    have L4 := L3.same s34
    rw [h2] at hw
    rw [hw]
    refine ⟨_, rfl, false, rfl, ?_⟩
    refine ⟨.none, .none, .non, .non, by decide +kernel, by decide +kernel, _, rfl, ?_⟩
    refine ite_no (by decide +kernel) ?_
    refine ⟨_, rfl, false, rfl, ?_⟩
    refine ite_no rfl ?_
    exact rdB _ _ so l bs es _ _ _ _ _ _ _ _ _ _ _ _ _ _ L4 (by rw [h2]; exact hw) (T3.ext s34) k
  · rw [h2] at hw
    rw [hw]
    refine ⟨_, rfl, true, rfl, ?_⟩
    refine ite_yes rfl ?_
    refine ⟨_, rfl, two_le, fun t6 n6 => ?_⟩
    have s6 := Same.upd_new (o := .tup [.str "store", .int i]) n6
    have sh : SeqAt.shaped (.tuple [.str "store", .int i]) = true := pair_shaped (k := ("store", (i : Int))) (show PyData.strOk ("store" : Str) = true by decide +kernel)
    refine ⟨_, _, .tup (.inl (.inl (s6 _ _ ht5))) (.cons (.str _) (.cons (.int _) .nil)), .tup (.inl (.inl upd_same)) (.cons (.str _) (.cons (.int _) .nil)), sh, sh, _, rfl, ?_⟩
    refine ite_no (eqv_self sh) ?_
    refine ⟨_, rfl, true, rfl, ?_⟩
    refine ite_yes rfl ?_
    exact k _
end
end Half

namespace Half
open PySem PySem.Spec PyProof.Rows L2 LamX
def spLaw (K : PySem.W.Frag) (PT : Addr) : Sp := fun vs H Q _ => ∃ (a : Addr) (ns : List Int), vs = [.ref a] ∧ SqL K H a (ns.map V.int) ∧ ns.length ≤ 63 ∧ H PT = some (.tbl #[]) ∧ ∀ H', Q (.bl true) H'
section
variable {P : Program} {w : World} {K : PySem.W.Frag} {mg : Str → Option Value} {base : Heap} {C CE CT c0 c1 c2 c3 c4 c5 c6 c7 c8 cS : Addr}
theorem ok_law {f c PT : Addr} {oc kV doc pm ct : Value} {od an : Option Addr} {osl : Array (Option Value)} (lk : K.lookup f = some ⟨oc, od, .func (PySem.W.fnOf "law" "law" (defArgs sLaw) (defBody sLaw) (defScope sLaw) .none kV doc pm an (.ref c) ct), osl⟩) (hcd : PySem.W.codeIn K (.ref c) "law" = true)
    (T : TxtL mg) (S : StAll P w K mg base C CT c5 c4 c1) (D : EdAll P w K mg base C CE) (dT : Def P w K mg base 1 "_law_taken" ["_law_row", "_law_many"] (spTaken K)) (dP : Def P w K mg base 2 "_law_pick" ["_law_row", "_law_some"] (spPick K)) (R : RaisedF K mg)
    (EA : ErrAll K mg c0 c1 c2 c3 c4 c5 c6 c7 c8 cS) (TB : TabB base mg c PT) :
    FnOk P w K mg base CX0 11 f (PySem.W.fnOf "law" "law" (defArgs sLaw) (defBody sLaw) (defScope sLaw) .none kV doc pm an (.ref c) ct) ["_law_script"] (spLaw K PT) := by
  refine fn_of lk hcd scLaw (fun vs H Q E h => ?_) (fun A outer s H vs Q E hr h => ?_)
  · obtain ⟨a, ns, rfl, _⟩ := h
    rfl
  · obtain ⟨a, ns, rfl, hS, hlen, hPT, k⟩ := h
    have nd := scLaw.nd
    obtain ⟨tA, hA, rdA⟩ := law_a (A := A) (outer := outer) (s := s) (H0 := H) (E := E) T S D R EA TB hr nd
    obtain ⟨t, h1, h2⟩ := law_first (A := A) (outer := outer) (s := s) (H0 := H) (E := E) T dT dP hr nd hA
    exact ⟨t, h1.nox, h2 _ H PT a ns hS hlen hPT (fun H' r l n nms bs x5 x6 x8 x9 hL few => rdA _ _ r a l n nms bs _ _ _ _ _ _ _ _ _ _ _ _ _ _ hL few k)⟩
end
end Half

namespace Half
open PySem PySem.Spec PyProof.Rows L2 LamX
theorem all_mk {l : PySem.W.OpenLaw} {w : World} {K : PySem.W.Frag} {h : Heap} {mg : Str → Option Value} {fa PT : Addr} (X : K.In h) (G : h.Ns mainGlobals mg) (hfa : mg "law" = some (.ref fa)) (hTab : h.get? PT = some (PySem.W.tabObj #[]))
    {f_word : Addr} {oc_word kV_word dc_word pm_word cd_word ct_word : Value} {od_word an_word : Option Addr} {sl_word : Array (Option Value)}
    {f_numb : Addr} {oc_numb kV_numb dc_numb pm_numb cd_numb ct_numb : Value} {od_numb an_numb : Option Addr} {sl_numb : Array (Option Value)}
    {f_asc : Addr} {oc_asc kV_asc dc_asc pm_asc cd_asc ct_asc : Value} {od_asc an_asc : Option Addr} {sl_asc : Array (Option Value)}
    {f_vers : Addr} {oc_vers kV_vers dc_vers pm_vers cd_vers ct_vers : Value} {od_vers an_vers : Option Addr} {sl_vers : Array (Option Value)}
    {f_scri : Addr} {oc_scri kV_scri dc_scri pm_scri cd_scri ct_scri : Value} {od_scri an_scri : Option Addr} {sl_scri : Array (Option Value)}
    {f_othe : Addr} {oc_othe kV_othe dc_othe pm_othe cd_othe ct_othe : Value} {od_othe an_othe : Option Addr} {sl_othe : Array (Option Value)}
    {f_pair : Addr} {oc_pair kV_pair dc_pair pm_pair cd_pair ct_pair : Value} {od_pair an_pair : Option Addr} {sl_pair : Array (Option Value)}
    {f_need : Addr} {oc_need kV_need dc_need pm_need cd_need ct_need : Value} {od_need an_need : Option Addr} {sl_need : Array (Option Value)}
    {f_wron : Addr} {oc_wron kV_wron dc_wron pm_wron cd_wron ct_wron : Value} {od_wron an_wron : Option Addr} {sl_wron : Array (Option Value)}
    {f_wi : Addr} {oc_wi kV_wi dc_wi pm_wi cd_wi ct_wi : Value} {od_wi an_wi : Option Addr} {sl_wi : Array (Option Value)}
    {f_vn : Addr} {oc_vn kV_vn dc_vn pm_vn cd_vn ct_vn : Value} {od_vn an_vn : Option Addr} {sl_vn : Array (Option Value)}
    {f_take : Addr} {oc_take kV_take dc_take pm_take cd_take ct_take : Value} {od_take an_take : Option Addr} {sl_take : Array (Option Value)}
    {f_pick : Addr} {oc_pick kV_pick dc_pick pm_pick cd_pick ct_pick : Value} {od_pick an_pick : Option Addr} {sl_pick : Array (Option Value)}
    {f_rais : Addr} {oc_rais kV_rais dc_rais pm_rais cd_rais ct_rais : Value} {od_rais an_rais : Option Addr} {sl_rais : Array (Option Value)}
    {f_law cLaw : Addr} {oc_law kV_law dc_law pm_law ct_law : Value} {od_law an_law : Option Addr} {sl_law : Array (Option Value)}
    {C : Addr}
    {CT : Addr}
    {c0 : Addr}
    {c1 : Addr}
    {c2 : Addr}
    {c3 : Addr}
    {c4 : Addr}
    {c5 : Addr}
    {c6 : Addr}
    {c7 : Addr}
    {c8 : Addr}
    {cS : Addr}
    {nmc0 qc0 : Str} {Nc0 : Addr} {bsc0 bmc0 : List Value} {snc0 : List Str} {subc0 : List Value} {abc0 : Bool} {colc0 : Option Bool} {ddc0 : Option Addr} {k0c0 k1c0 k2c0 k3c0 k5c0 : Option Value}
    {f_ie : Addr}
    {oc_ie kV_ie dc_ie pm_ie ct_ie : Value} {od_ie an_ie : Option Addr} {cdI_ie ccI_ie : Addr} {sl_ie : Array (Option Value)} {cclI_ie : Value} {cddI_ie : Option Addr} {vsI_ie : Array Value} {ccsI_ie : Array (Option Value)} {fileI_ie : Str} {tfI_ie : Tok} {clI_ie : Value} {cldI_ie : Option Addr} {cslI_ie : Array (Option Value)}
    {nmc1 qc1 : Str} {Nc1 : Addr} {bsc1 bmc1 : List Value} {snc1 : List Str} {subc1 : List Value} {abc1 : Bool} {colc1 : Option Bool} {ddc1 : Option Addr} {k0c1 k1c1 k2c1 k3c1 k5c1 : Option Value}
    {f_is : Addr}
    {oc_is kV_is dc_is pm_is ct_is : Value} {od_is an_is : Option Addr} {cdI_is ccI_is : Addr} {sl_is : Array (Option Value)} {cclI_is : Value} {cddI_is : Option Addr} {vsI_is : Array Value} {ccsI_is : Array (Option Value)} {fileI_is : Str} {tfI_is : Tok} {clI_is : Value} {cldI_is : Option Addr} {cslI_is : Array (Option Value)}
    {tLet : Tok} {aS : Addr}
    {t_lon : Tok}
    {t_lv : Tok}
    {t_mv : Tok}
    {t_me : Tok}
    {t_mn : Tok}
    {f_ei kD : Addr} {oc_ei dc_ei pm_ei cd_ei ct_ei : Value} {od_ei an_ei : Option Addr} {sl_ei : Array (Option Value)}
    {z1 z2 z3 : Addr}
    {ddS dd1 dd2 dd3 : Option Addr} {q0 q1 q2 q3 : Tok} {nS n1 n2 n3 : Nat} {slS sl1 sl2 sl3 : Array (Option Value)}
    {p_g0 : Addr} {rest_g0 : List Value}
    {f_g0 : Addr} {oc_g0 kV_g0 dc_g0 pm_g0 cd_g0 ct_g0 : Value} {od_g0 an_g0 : Option Addr} {sl_g0 : Array (Option Value)}
    {p_g1 : Addr} {rest_g1 : List Value}
    {f_g1 : Addr} {oc_g1 kV_g1 dc_g1 pm_g1 cd_g1 ct_g1 : Value} {od_g1 an_g1 : Option Addr} {sl_g1 : Array (Option Value)}
    {p_g2 : Addr} {rest_g2 : List Value}
    {f_g2 : Addr} {oc_g2 kV_g2 dc_g2 pm_g2 cd_g2 ct_g2 : Value} {od_g2 an_g2 : Option Addr} {sl_g2 : Array (Option Value)}
    {p_g3 : Addr} {rest_g3 : List Value}
    {f_g3 : Addr} {oc_g3 kV_g3 dc_g3 pm_g3 cd_g3 ct_g3 : Value} {od_g3 an_g3 : Option Addr} {sl_g3 : Array (Option Value)}
    {p_g4 : Addr} {rest_g4 : List Value}
    {f_g4 : Addr} {oc_g4 kV_g4 dc_g4 pm_g4 cd_g4 ct_g4 : Value} {od_g4 an_g4 : Option Addr} {sl_g4 : Array (Option Value)}
    {p_g5 : Addr} {rest_g5 : List Value}
    {f_g5 : Addr} {oc_g5 kV_g5 dc_g5 pm_g5 cd_g5 ct_g5 : Value} {od_g5 an_g5 : Option Addr} {sl_g5 : Array (Option Value)}
    {f_eq : Addr} {oc_eq kV_eq dc_eq pm_eq cd_eq ct_eq : Value} {od_eq an_eq : Option Addr} {sl_eq : Array (Option Value)}
    {nmC qC : Str} {NC : Addr} {bsC : List Value} {hdC : Bool} {snC : List Str} {subC : List Value} {abC : Bool} {colC : Option Bool} {ddC : Option Addr} {k0C k1C k2C k3C k5C : Option Value} {newC : String}
    {f_si : Addr} {oc_si kV_si dc_si pm_si cd_si ct_si : Value} {od_si an_si : Option Addr} {sl_si : Array (Option Value)}
    {p_sn : Addr} {rest_sn : List Value}
    {f_sn : Addr} {oc_sn kV_sn dc_sn pm_sn cd_sn ct_sn : Value} {od_sn an_sn : Option Addr} {sl_sn : Array (Option Value)}
    {f_sv : Addr} {oc_sv kV_sv dc_sv pm_sv cd_sv ct_sv : Value} {od_sv an_sv : Option Addr} {sl_sv : Array (Option Value)}
    {f_sl : Addr} {oc_sl kV_sl dc_sl pm_sl cd_sl ct_sl : Value} {od_sl an_sl : Option Addr} {sl_sl : Array (Option Value)}
    {f_sh : Addr} {oc_sh kV_sh dc_sh pm_sh cd_sh ct_sh : Value} {od_sh an_sh : Option Addr} {sl_sh : Array (Option Value)}
    {f_sg : Addr} {oc_sg kV_sg dc_sg pm_sg cd_sg ct_sg : Value} {od_sg an_sg : Option Addr} {sl_sg : Array (Option Value)}
    {f_se : Addr} {oc_se kV_se dc_se pm_se cd_se ct_se : Value} {od_se an_se : Option Addr} {sl_se : Array (Option Value)}
    {nmCT qCT : Str} {NCT : Addr} {bsCT : List Value} {hdCT : Bool} {snCT : List Str} {subCT : List Value} {abCT : Bool} {colCT : Option Bool} {ddCT : Option Addr} {k0CT k1CT k2CT k3CT k5CT : Option Value} {newCT : String}
    (n_int : PySem.W.nsIn K mainGlobals "int" = some none)
    (n_len : PySem.W.nsIn K mainGlobals "len" = some none)
    (n_isinstance : PySem.W.nsIn K mainGlobals "isinstance" = some none)
    (n_str : PySem.W.nsIn K mainGlobals "str" = some none)
    (n_bool : PySem.W.nsIn K mainGlobals "bool" = some none)
    (n_tuple : PySem.W.nsIn K mainGlobals "tuple" = some none)
    (n_all : PySem.W.nsIn K mainGlobals "all" = some none)
    (n_range : PySem.W.nsIn K mainGlobals "range" = some none)
    (n_ValueError : PySem.W.nsIn K mainGlobals "ValueError" = some none)
    (n_super : PySem.W.nsIn K mainGlobals "super" = some none)
    (n_set : PySem.W.nsIn K mainGlobals "set" = some none)
    (n_sorted : PySem.W.nsIn K mainGlobals "sorted" = some none)
    (n_list : PySem.W.nsIn K mainGlobals "list" = some none)
    (n_enumerate : PySem.W.nsIn K mainGlobals "enumerate" = some none)
    (a_word : PySem.W.nsIn K mainGlobals "is_word" = some (some (.ref f_word)))
    (l_word : K.lookup f_word = some ⟨oc_word, od_word, .func (PySem.W.fnOf "is_word" "is_word" (defArgs sWord) (defBody sWord) (defScope sWord) .none kV_word dc_word pm_word an_word cd_word ct_word), sl_word⟩)
    (c_word : PySem.W.codeIn K cd_word "is_word" = true)
    (k_word : PySem.W.keepIn K (.ref f_word) = true)
    (a_numb : PySem.W.nsIn K mainGlobals "is_number" = some (some (.ref f_numb)))
    (l_numb : K.lookup f_numb = some ⟨oc_numb, od_numb, .func (PySem.W.fnOf "is_number" "is_number" (defArgs sNumber) (defBody sNumber) (defScope sNumber) .none kV_numb dc_numb pm_numb an_numb cd_numb ct_numb), sl_numb⟩)
    (c_numb : PySem.W.codeIn K cd_numb "is_number" = true)
    (k_numb : PySem.W.keepIn K (.ref f_numb) = true)
    (a_asc : PySem.W.nsIn K mainGlobals "ascends" = some (some (.ref f_asc)))
    (l_asc : K.lookup f_asc = some ⟨oc_asc, od_asc, .func (PySem.W.fnOf "ascends" "ascends" (defArgs sAscends) (defBody sAscends) (defScope sAscends) .none kV_asc dc_asc pm_asc an_asc cd_asc ct_asc), sl_asc⟩)
    (c_asc : PySem.W.codeIn K cd_asc "ascends" = true)
    (k_asc : PySem.W.keepIn K (.ref f_asc) = true)
    (a_vers : PySem.W.nsIn K mainGlobals "is_version" = some (some (.ref f_vers)))
    (l_vers : K.lookup f_vers = some ⟨oc_vers, od_vers, .func (PySem.W.fnOf "is_version" "is_version" (defArgs sVersion) (defBody sVersion) (defScope sVersion) .none kV_vers dc_vers pm_vers an_vers cd_vers ct_vers), sl_vers⟩)
    (c_vers : PySem.W.codeIn K cd_vers "is_version" = true)
    (k_vers : PySem.W.keepIn K (.ref f_vers) = true)
    (a_scri : PySem.W.nsIn K mainGlobals "are_scripts" = some (some (.ref f_scri)))
    (l_scri : K.lookup f_scri = some ⟨oc_scri, od_scri, .func (PySem.W.fnOf "are_scripts" "are_scripts" (defArgs sScripts) (defBody sScripts) (defScope sScripts) .none kV_scri dc_scri pm_scri an_scri cd_scri ct_scri), sl_scri⟩)
    (c_scri : PySem.W.codeIn K cd_scri "are_scripts" = true)
    (k_scri : PySem.W.keepIn K (.ref f_scri) = true)
    (a_othe : PySem.W.nsIn K mainGlobals "are_other_names" = some (some (.ref f_othe)))
    (l_othe : K.lookup f_othe = some ⟨oc_othe, od_othe, .func (PySem.W.fnOf "are_other_names" "are_other_names" (defArgs sOthers) (defBody sOthers) (defScope sOthers) .none kV_othe dc_othe pm_othe an_othe cd_othe ct_othe), sl_othe⟩)
    (c_othe : PySem.W.codeIn K cd_othe "are_other_names" = true)
    (k_othe : PySem.W.keepIn K (.ref f_othe) = true)
    (a_pair : PySem.W.nsIn K mainGlobals "is_pair_with_version" = some (some (.ref f_pair)))
    (l_pair : K.lookup f_pair = some ⟨oc_pair, od_pair, .func (PySem.W.fnOf "is_pair_with_version" "is_pair_with_version" (defArgs sPair) (defBody sPair) (defScope sPair) .none kV_pair dc_pair pm_pair an_pair cd_pair ct_pair), sl_pair⟩)
    (c_pair : PySem.W.codeIn K cd_pair "is_pair_with_version" = true)
    (k_pair : PySem.W.keepIn K (.ref f_pair) = true)
    (a_need : PySem.W.nsIn K mainGlobals "are_needs" = some (some (.ref f_need)))
    (l_need : K.lookup f_need = some ⟨oc_need, od_need, .func (PySem.W.fnOf "are_needs" "are_needs" (defArgs sNeeds) (defBody sNeeds) (defScope sNeeds) .none kV_need dc_need pm_need an_need cd_need ct_need), sl_need⟩)
    (c_need : PySem.W.codeIn K cd_need "are_needs" = true)
    (k_need : PySem.W.keepIn K (.ref f_need) = true)
    (a_wron : PySem.W.nsIn K mainGlobals "wrong_part" = some (some (.ref f_wron)))
    (l_wron : K.lookup f_wron = some ⟨oc_wron, od_wron, .func (PySem.W.fnOf "wrong_part" "wrong_part" (defArgs sWrong) (defBody sWrong) (defScope sWrong) .none kV_wron dc_wron pm_wron an_wron cd_wron ct_wron), sl_wron⟩)
    (c_wron : PySem.W.codeIn K cd_wron "wrong_part" = true)
    (k_wron : PySem.W.keepIn K (.ref f_wron) = true)
    (a_wi : PySem.W.nsIn K mainGlobals "wrong_index" = some (some (.ref f_wi)))
    (l_wi : K.lookup f_wi = some ⟨oc_wi, od_wi, .func (PySem.W.fnOf "wrong_index" "wrong_index" (defArgs sWi) (defBody sWi) (defScope sWi) .none kV_wi dc_wi pm_wi an_wi cd_wi ct_wi), sl_wi⟩)
    (c_wi : PySem.W.codeIn K cd_wi "wrong_index" = true)
    (k_wi : PySem.W.keepIn K (.ref f_wi) = true)
    (a_vn : PySem.W.nsIn K mainGlobals "versions_by_name" = some (some (.ref f_vn)))
    (l_vn : K.lookup f_vn = some ⟨oc_vn, od_vn, .func (PySem.W.fnOf "versions_by_name" "versions_by_name" (defArgs sVn) (defBody sVn) (defScope sVn) .none kV_vn dc_vn pm_vn an_vn cd_vn ct_vn), sl_vn⟩)
    (c_vn : PySem.W.codeIn K cd_vn "versions_by_name" = true)
    (k_vn : PySem.W.keepIn K (.ref f_vn) = true)
    (a_take : PySem.W.nsIn K mainGlobals "_law_taken" = some (some (.ref f_take)))
    (l_take : K.lookup f_take = some ⟨oc_take, od_take, .func (PySem.W.fnOf "_law_taken" "_law_taken" (defArgs sTaken) (defBody sTaken) (defScope sTaken) .none kV_take dc_take pm_take an_take cd_take ct_take), sl_take⟩)
    (c_take : PySem.W.codeIn K cd_take "_law_taken" = true)
    (k_take : PySem.W.keepIn K (.ref f_take) = true)
    (a_pick : PySem.W.nsIn K mainGlobals "_law_pick" = some (some (.ref f_pick)))
    (l_pick : K.lookup f_pick = some ⟨oc_pick, od_pick, .func (PySem.W.fnOf "_law_pick" "_law_pick" (defArgs sPick) (defBody sPick) (defScope sPick) .none kV_pick dc_pick pm_pick an_pick cd_pick ct_pick), sl_pick⟩)
    (c_pick : PySem.W.codeIn K cd_pick "_law_pick" = true)
    (k_pick : PySem.W.keepIn K (.ref f_pick) = true)
    (a_rais : PySem.W.nsIn K mainGlobals "_law_raised" = some (some (.ref f_rais)))
    (l_rais : K.lookup f_rais = some ⟨oc_rais, od_rais, .func (PySem.W.fnOf "_law_raised" "_law_raised" (defArgs sRaised) (defBody sRaised) (defScope sRaised) .none kV_rais dc_rais pm_rais an_rais cd_rais ct_rais), sl_rais⟩)
    (c_rais : PySem.W.codeIn K cd_rais "_law_raised" = true)
    (k_rais : PySem.W.keepIn K (.ref f_rais) = true)
    (a_law : PySem.W.nsIn K mainGlobals "law" = some (some (.ref f_law)))
    (l_law : K.lookup f_law = some ⟨oc_law, od_law, .func (PySem.W.fnOf "law" "law" (defArgs sLaw) (defBody sLaw) (defScope sLaw) .none kV_law dc_law pm_law an_law (.ref cLaw) ct_law), sl_law⟩)
    (c_law : PySem.W.codeIn K (.ref cLaw) "law" = true)
    (k_law : PySem.W.keepIn K (.ref f_law) = true)
    (g_C : PySem.W.nsIn K mainGlobals "Edition" = some (some (.ref C)))
    (g_CT : PySem.W.nsIn K mainGlobals "Store" = some (some (.ref CT)))
    (pg_C : PySem.W.plainGet K C Str.empty = true)
    (hd_C : PySem.W.hasDictIn K C = true)
    (po_C : PySem.W.plainOver K C = true)
    (sa_C : PySem.W.findIn K (.ref C) "__setattr__" = some (some (.builtin "object.__setattr__")))
    (ha_C : PySem.W.findIn K (.ref C) "__class__" = some (some (.builtin "object.__class__")))
    (hm_C : PySem.W.mroIn K C (.type "object") = some true)
    (ki_C : PySem.W.kitOne K (.ref C) (.ref C) = some true)
    (hn : PySem.W.specialIn K (.builtin "object.__class__") "__get__" = some (some (.builtin "getset_descriptor.__get__")))
    (ht : PySem.W.takesIn K (.builtin "object.__class__") = some true)
    (pg_CT : PySem.W.plainGet K CT Str.empty = true)
    (hd_CT : PySem.W.hasDictIn K CT = true)
    (po_CT : PySem.W.plainOver K CT = true)
    (sa_CT : PySem.W.findIn K (.ref CT) "__setattr__" = some (some (.builtin "object.__setattr__")))
    (ha_CT : PySem.W.findIn K (.ref CT) "__class__" = some (some (.builtin "object.__class__")))
    (hm_CT : PySem.W.mroIn K CT (.type "object") = some true)
    (ki_CT : PySem.W.kitOne K (.ref CT) (.ref CT) = some true)
    (g_c0 : PySem.W.nsIn K mainGlobals "InvalidEdition" = some (some (.ref c0)))
    (g_c1 : PySem.W.nsIn K mainGlobals "InvalidStore" = some (some (.ref c1)))
    (g_c2 : PySem.W.nsIn K mainGlobals "InvalidSystem" = some (some (.ref c2)))
    (g_c3 : PySem.W.nsIn K mainGlobals "Refused" = some (some (.ref c3)))
    (g_c4 : PySem.W.nsIn K mainGlobals "UnknownEdition" = some (some (.ref c4)))
    (g_c5 : PySem.W.nsIn K mainGlobals "UnknownName" = some (some (.ref c5)))
    (g_c6 : PySem.W.nsIn K mainGlobals "InvalidNumber" = some (some (.ref c6)))
    (g_c7 : PySem.W.nsIn K mainGlobals "UnlikeStores" = some (some (.ref c7)))
    (g_c8 : PySem.W.nsIn K mainGlobals "TooMany" = some (some (.ref c8)))
    (g_cS : PySem.W.nsIn K mainGlobals "SetupError" = some (some (.ref cS)))
    (ga_c0 : PySem.W.findIn K (.ref c0) "__getattribute__" = some (some (.builtin "BaseException.__getattribute__")))
    (gg_c0 : PySem.W.findIn K (.ref c0) "__getattr__" = some none)
    (ex_c0 : PySem.W.subIn K (.ref c0) (.type "BaseException") = some true)
    (hx_c0 : PySem.W.hasDictIn K c0 = true)
    (ga_c1 : PySem.W.findIn K (.ref c1) "__getattribute__" = some (some (.builtin "BaseException.__getattribute__")))
    (gg_c1 : PySem.W.findIn K (.ref c1) "__getattr__" = some none)
    (ex_c1 : PySem.W.subIn K (.ref c1) (.type "BaseException") = some true)
    (hx_c1 : PySem.W.hasDictIn K c1 = true)
    (ga_c2 : PySem.W.findIn K (.ref c2) "__getattribute__" = some (some (.builtin "BaseException.__getattribute__")))
    (gg_c2 : PySem.W.findIn K (.ref c2) "__getattr__" = some none)
    (ex_c2 : PySem.W.subIn K (.ref c2) (.type "BaseException") = some true)
    (hx_c2 : PySem.W.hasDictIn K c2 = true)
    (ga_c3 : PySem.W.findIn K (.ref c3) "__getattribute__" = some (some (.builtin "BaseException.__getattribute__")))
    (gg_c3 : PySem.W.findIn K (.ref c3) "__getattr__" = some none)
    (ex_c3 : PySem.W.subIn K (.ref c3) (.type "BaseException") = some true)
    (hx_c3 : PySem.W.hasDictIn K c3 = true)
    (ga_c4 : PySem.W.findIn K (.ref c4) "__getattribute__" = some (some (.builtin "BaseException.__getattribute__")))
    (gg_c4 : PySem.W.findIn K (.ref c4) "__getattr__" = some none)
    (ex_c4 : PySem.W.subIn K (.ref c4) (.type "BaseException") = some true)
    (hx_c4 : PySem.W.hasDictIn K c4 = true)
    (ga_c5 : PySem.W.findIn K (.ref c5) "__getattribute__" = some (some (.builtin "BaseException.__getattribute__")))
    (gg_c5 : PySem.W.findIn K (.ref c5) "__getattr__" = some none)
    (ex_c5 : PySem.W.subIn K (.ref c5) (.type "BaseException") = some true)
    (hx_c5 : PySem.W.hasDictIn K c5 = true)
    (nf_c0 : PySem.W.findIn K (.ref c0) "part" = some none)
    (nf_c1 : PySem.W.findIn K (.ref c1) "index" = some none)
    (nf_c2 : PySem.W.findIn K (.ref c2) "package" = some none)
    (nf_c3 : PySem.W.findIn K (.ref c3) "why" = some none)
    (s1 : PySem.W.subIn K (.ref cS) (.type "BaseException") = some true)
    (s2 : PySem.W.hasDictIn K cS = true)
    (s3 : PySem.W.typeIn K (.ref cS) = some (.type "type"))
    (hc_c1 : PySem.W.findIn K (.ref c1) "__class__" = some (some (.builtin "object.__class__")))
    (hp_c1 : PySem.W.mroIn K c1 (.type "object") = some true)
    (kk_c1_c0 : PySem.W.kitOne K (.ref c1) (.ref c0) = some false)
    (kk_c1_c1 : PySem.W.kitOne K (.ref c1) (.ref c1) = some true)
    (kk_c1_c2 : PySem.W.kitOne K (.ref c1) (.ref c2) = some false)
    (kk_c1_c3 : PySem.W.kitOne K (.ref c1) (.ref c3) = some false)
    (kk_c1_c4 : PySem.W.kitOne K (.ref c1) (.ref c4) = some false)
    (kk_c1_c5 : PySem.W.kitOne K (.ref c1) (.ref c5) = some false)
    (kk_c1_c6 : PySem.W.kitOne K (.ref c1) (.ref c6) = some false)
    (kk_c1_c7 : PySem.W.kitOne K (.ref c1) (.ref c7) = some false)
    (kk_c1_c8 : PySem.W.kitOne K (.ref c1) (.ref c8) = some false)
    (kv_c1 : PySem.W.kitOne K (.ref c1) (.type "ValueError") = some true)
    (s4_c1 : PySem.W.subIn K (.ref c1) (.ref cS) = some true)
    (hc_c4 : PySem.W.findIn K (.ref c4) "__class__" = some (some (.builtin "object.__class__")))
    (hp_c4 : PySem.W.mroIn K c4 (.type "object") = some true)
    (kk_c4_c0 : PySem.W.kitOne K (.ref c4) (.ref c0) = some false)
    (kk_c4_c1 : PySem.W.kitOne K (.ref c4) (.ref c1) = some false)
    (kk_c4_c2 : PySem.W.kitOne K (.ref c4) (.ref c2) = some false)
    (kk_c4_c3 : PySem.W.kitOne K (.ref c4) (.ref c3) = some false)
    (kk_c4_c4 : PySem.W.kitOne K (.ref c4) (.ref c4) = some true)
    (kk_c4_c5 : PySem.W.kitOne K (.ref c4) (.ref c5) = some false)
    (kk_c4_c6 : PySem.W.kitOne K (.ref c4) (.ref c6) = some false)
    (kk_c4_c7 : PySem.W.kitOne K (.ref c4) (.ref c7) = some false)
    (kk_c4_c8 : PySem.W.kitOne K (.ref c4) (.ref c8) = some false)
    (kv_c4 : PySem.W.kitOne K (.ref c4) (.type "ValueError") = some true)
    (s4_c4 : PySem.W.subIn K (.ref c4) (.ref cS) = some true)
    (hc_c5 : PySem.W.findIn K (.ref c5) "__class__" = some (some (.builtin "object.__class__")))
    (hp_c5 : PySem.W.mroIn K c5 (.type "object") = some true)
    (kk_c5_c0 : PySem.W.kitOne K (.ref c5) (.ref c0) = some false)
    (kk_c5_c1 : PySem.W.kitOne K (.ref c5) (.ref c1) = some false)
    (kk_c5_c2 : PySem.W.kitOne K (.ref c5) (.ref c2) = some false)
    (kk_c5_c3 : PySem.W.kitOne K (.ref c5) (.ref c3) = some false)
    (kk_c5_c4 : PySem.W.kitOne K (.ref c5) (.ref c4) = some false)
    (kk_c5_c5 : PySem.W.kitOne K (.ref c5) (.ref c5) = some true)
    (kk_c5_c6 : PySem.W.kitOne K (.ref c5) (.ref c6) = some false)
    (kk_c5_c7 : PySem.W.kitOne K (.ref c5) (.ref c7) = some false)
    (kk_c5_c8 : PySem.W.kitOne K (.ref c5) (.ref c8) = some false)
    (kv_c5 : PySem.W.kitOne K (.ref c5) (.type "ValueError") = some true)
    (s4_c5 : PySem.W.subIn K (.ref c5) (.ref cS) = some true)
    (ocl_c0 : K.lookup c0 = some (excClassObj nmc0 qc0 c0 Nc0 bsc0 bmc0 true snc0 subc0 abc0 colc0 ddc0 k0c0 k1c0 k2c0 k3c0 k5c0 "ValueError.__new__"))
    (ove_c0 : PySem.HandSPX.refsVE bmc0 = true)
    (osa_c0 : PySem.W.findIn K (.ref c0) "__setattr__" = some (some (.builtin "object.__setattr__")))
    (oty_c0 : PySem.W.typeIn K (.ref c0) = some (.type "type"))
    (okc_c0 : PySem.W.keepIn K (.ref c0) = true)
    (osb_c0 : PySem.W.mroIn K c0 (.ref c0) = some true)
    (osu_c0 : PySem.W.ks_superIn K c0 c0 "__init__" = some (some (.builtin "ValueError.__init__")))
    (osv_c0 : PySem.W.subIn K (.ref c0) (.type "ValueError") = some true)
    (o_op : PySem.W.nsIn K cStatics "thirdparty.any" = some none)
    (o_top : (l.prog.main.scope.names.lookup ("super" : Str)).isSome = false)
    (a_ie : PySem.W.findIn K (.ref c0) "__init__" = some (some (.ref f_ie)))
    (y_ie : PySem.W.typeIn K (.ref f_ie) = some (.type "function"))
    (l_ie : K.lookup f_ie = some ⟨oc_ie, od_ie, .func (PySem.W.ksFn "__init__" "InvalidEdition.__init__" (defArgs sIe) (defBody sIe) (defScope sIe) .none kV_ie dc_ie pm_ie an_ie (.ref cdI_ie) ct_ie ccI_ie), sl_ie⟩)
    (c_ie : PySem.W.codeIn K (.ref cdI_ie) "InvalidEdition.__init__" = true)
    (e_ie : K.lookup cdI_ie = some ⟨cclI_ie, cddI_ie, .fields vsI_ie, ccsI_ie⟩)
    (f2_ie : vsI_ie[2]? = some (.str fileI_ie tfI_ie))
    (fl_ie : ((l.prog.main.file : Str) == fileI_ie) = true)
    (ce_ie : K.lookup ccI_ie = some ⟨clI_ie, cldI_ie, .cell (some (.ref c0)), cslI_ie⟩)
    (ocl_c1 : K.lookup c1 = some (excClassObj nmc1 qc1 c1 Nc1 bsc1 bmc1 true snc1 subc1 abc1 colc1 ddc1 k0c1 k1c1 k2c1 k3c1 k5c1 "ValueError.__new__"))
    (ove_c1 : PySem.HandSPX.refsVE bmc1 = true)
    (osa_c1 : PySem.W.findIn K (.ref c1) "__setattr__" = some (some (.builtin "object.__setattr__")))
    (oty_c1 : PySem.W.typeIn K (.ref c1) = some (.type "type"))
    (okc_c1 : PySem.W.keepIn K (.ref c1) = true)
    (osb_c1 : PySem.W.mroIn K c1 (.ref c1) = some true)
    (osu_c1 : PySem.W.ks_superIn K c1 c1 "__init__" = some (some (.builtin "ValueError.__init__")))
    (osv_c1 : PySem.W.subIn K (.ref c1) (.type "ValueError") = some true)
    (a_is : PySem.W.findIn K (.ref c1) "__init__" = some (some (.ref f_is)))
    (y_is : PySem.W.typeIn K (.ref f_is) = some (.type "function"))
    (l_is : K.lookup f_is = some ⟨oc_is, od_is, .func (PySem.W.ksFn "__init__" "InvalidStore.__init__" (defArgs sIs) (defBody sIs) (defScope sIs) .none kV_is dc_is pm_is an_is (.ref cdI_is) ct_is ccI_is), sl_is⟩)
    (c_is : PySem.W.codeIn K (.ref cdI_is) "InvalidStore.__init__" = true)
    (e_is : K.lookup cdI_is = some ⟨cclI_is, cddI_is, .fields vsI_is, ccsI_is⟩)
    (f2_is : vsI_is[2]? = some (.str fileI_is tfI_is))
    (fl_is : ((l.prog.main.file : Str) == fileI_is) = true)
    (ce_is : K.lookup ccI_is = some ⟨clI_is, cldI_is, .cell (some (.ref c1)), cslI_is⟩)
    (exi_c4 : PySem.W.excIn K c4 [.type "ValueError", .type "Exception", .type "BaseException", .type "object"] "ValueError.__new__" = true)
    (ekc_c4 : PySem.W.keepIn K (.ref c4) = true)
    (eb_c4 : PySem.W.subIn K (.ref c4) (.type "BaseException") = some true)
    (et_c4 : PySem.W.typeIn K (.ref c4) = some (.type "type"))
    (exi_c5 : PySem.W.excIn K c5 [.type "ValueError", .type "Exception", .type "BaseException", .type "object"] "ValueError.__new__" = true)
    (ekc_c5 : PySem.W.keepIn K (.ref c5) = true)
    (eb_c5 : PySem.W.subIn K (.ref c5) (.type "BaseException") = some true)
    (et_c5 : PySem.W.typeIn K (.ref c5) = some (.type "type"))
    (v_let : PySem.W.nsIn K mainGlobals "LETTERS" = some (some (.str LET tLet)))
    (v_lon : PySem.W.nsIn K mainGlobals "LONGEST_WORD" = some (some (.int 8 t_lon)))
    (v_lv : PySem.W.nsIn K mainGlobals "LEAST_VERSION" = some (some (.int 1 t_lv)))
    (v_mv : PySem.W.nsIn K mainGlobals "MOST_VERSION" = some (some (.int 99 t_mv)))
    (v_me : PySem.W.nsIn K mainGlobals "MOST_EDITIONS" = some (some (.int 12 t_me)))
    (v_mn : PySem.W.nsIn K mainGlobals "MOST_NAMES" = some (some (.int 4 t_mn)))
    (v_scr : PySem.W.nsIn K mainGlobals "SCRIPTS" = some (some (.ref aS)))
    (a_ei : PySem.W.findIn K (.ref C) "__init__" = some (some (.ref f_ei)))
    (l_ei : K.lookup f_ei = some ⟨oc_ei, od_ei, .func (PySem.W.fnOf "__init__" "Edition.__init__" (defArgs sEi) (defBody sEi) (defScope sEi) .none (.ref kD) dc_ei pm_ei an_ei cd_ei ct_ei), sl_ei⟩)
    (c_ei : PySem.W.codeIn K cd_ei "Edition.__init__" = true)
    (k_ei : PySem.W.keepIn K (.ref f_ei) = true)
    (i_ei : PySem.W.isFn K (.ref f_ei) = true)
    (mk_C : PySem.W.makesIn K C = true)
    (kc_C : PySem.W.keepIn K (.ref C) = true)
    (d_scripts : PySem.W.nsIn K kD "scripts" = some (some (.ref aS)))
    (d_needs : PySem.W.nsIn K kD "needs" = some (some (.ref z1)))
    (d_first : PySem.W.nsIn K kD "first" = some (some (.ref z2)))
    (d_against : PySem.W.nsIn K kD "against" = some (some (.ref z3)))
    (t_S : K.lookup aS = some ⟨.type "tuple", ddS, .seq #[.str "clean" q0, .str "enter" q1, .str "leave" q2, .str "setup" q3] nS, slS⟩)
    (t_1 : K.lookup z1 = some ⟨.type "tuple", dd1, .seq #[] n1, sl1⟩)
    (t_2 : K.lookup z2 = some ⟨.type "tuple", dd2, .seq #[] n2, sl2⟩)
    (t_3 : K.lookup z3 = some ⟨.type "tuple", dd3, .seq #[] n3, sl3⟩)
    (na_C_parts : PySem.W.findIn K (.ref C) "parts" = some none)
    (pa_g0 : PySem.W.findIn K (.ref C) "name" = some (some (.ref p_g0)))
    (pg_g0 : PySem.W.specialIn K (.ref p_g0) "__get__" = some (some (.builtin "property.__get__")))
    (pt_g0 : PySem.W.takesIn K (.ref p_g0) = some true)
    (pr_g0 : PySem.W.recIn K p_g0 "property" = some (.ref f_g0 :: rest_g0))
    (l_g0 : K.lookup f_g0 = some ⟨oc_g0, od_g0, .func (PySem.W.fnOf "name" "Edition.name" (defArgs (sGet 0)) (defBody (sGet 0)) (defScope (sGet 0)) .none kV_g0 dc_g0 pm_g0 an_g0 cd_g0 ct_g0), sl_g0⟩)
    (c_g0 : PySem.W.codeIn K cd_g0 "Edition.name" = true)
    (k_g0 : PySem.W.keepIn K (.ref f_g0) = true)
    (pa_g1 : PySem.W.findIn K (.ref C) "version" = some (some (.ref p_g1)))
    (pg_g1 : PySem.W.specialIn K (.ref p_g1) "__get__" = some (some (.builtin "property.__get__")))
    (pt_g1 : PySem.W.takesIn K (.ref p_g1) = some true)
    (pr_g1 : PySem.W.recIn K p_g1 "property" = some (.ref f_g1 :: rest_g1))
    (l_g1 : K.lookup f_g1 = some ⟨oc_g1, od_g1, .func (PySem.W.fnOf "version" "Edition.version" (defArgs (sGet 1)) (defBody (sGet 1)) (defScope (sGet 1)) .none kV_g1 dc_g1 pm_g1 an_g1 cd_g1 ct_g1), sl_g1⟩)
    (c_g1 : PySem.W.codeIn K cd_g1 "Edition.version" = true)
    (k_g1 : PySem.W.keepIn K (.ref f_g1) = true)
    (pa_g2 : PySem.W.findIn K (.ref C) "scripts" = some (some (.ref p_g2)))
    (pg_g2 : PySem.W.specialIn K (.ref p_g2) "__get__" = some (some (.builtin "property.__get__")))
    (pt_g2 : PySem.W.takesIn K (.ref p_g2) = some true)
    (pr_g2 : PySem.W.recIn K p_g2 "property" = some (.ref f_g2 :: rest_g2))
    (l_g2 : K.lookup f_g2 = some ⟨oc_g2, od_g2, .func (PySem.W.fnOf "scripts" "Edition.scripts" (defArgs (sGet 2)) (defBody (sGet 2)) (defScope (sGet 2)) .none kV_g2 dc_g2 pm_g2 an_g2 cd_g2 ct_g2), sl_g2⟩)
    (c_g2 : PySem.W.codeIn K cd_g2 "Edition.scripts" = true)
    (k_g2 : PySem.W.keepIn K (.ref f_g2) = true)
    (pa_g3 : PySem.W.findIn K (.ref C) "needs" = some (some (.ref p_g3)))
    (pg_g3 : PySem.W.specialIn K (.ref p_g3) "__get__" = some (some (.builtin "property.__get__")))
    (pt_g3 : PySem.W.takesIn K (.ref p_g3) = some true)
    (pr_g3 : PySem.W.recIn K p_g3 "property" = some (.ref f_g3 :: rest_g3))
    (l_g3 : K.lookup f_g3 = some ⟨oc_g3, od_g3, .func (PySem.W.fnOf "needs" "Edition.needs" (defArgs (sGet 3)) (defBody (sGet 3)) (defScope (sGet 3)) .none kV_g3 dc_g3 pm_g3 an_g3 cd_g3 ct_g3), sl_g3⟩)
    (c_g3 : PySem.W.codeIn K cd_g3 "Edition.needs" = true)
    (k_g3 : PySem.W.keepIn K (.ref f_g3) = true)
    (pa_g4 : PySem.W.findIn K (.ref C) "first" = some (some (.ref p_g4)))
    (pg_g4 : PySem.W.specialIn K (.ref p_g4) "__get__" = some (some (.builtin "property.__get__")))
    (pt_g4 : PySem.W.takesIn K (.ref p_g4) = some true)
    (pr_g4 : PySem.W.recIn K p_g4 "property" = some (.ref f_g4 :: rest_g4))
    (l_g4 : K.lookup f_g4 = some ⟨oc_g4, od_g4, .func (PySem.W.fnOf "first" "Edition.first" (defArgs (sGet 4)) (defBody (sGet 4)) (defScope (sGet 4)) .none kV_g4 dc_g4 pm_g4 an_g4 cd_g4 ct_g4), sl_g4⟩)
    (c_g4 : PySem.W.codeIn K cd_g4 "Edition.first" = true)
    (k_g4 : PySem.W.keepIn K (.ref f_g4) = true)
    (pa_g5 : PySem.W.findIn K (.ref C) "against" = some (some (.ref p_g5)))
    (pg_g5 : PySem.W.specialIn K (.ref p_g5) "__get__" = some (some (.builtin "property.__get__")))
    (pt_g5 : PySem.W.takesIn K (.ref p_g5) = some true)
    (pr_g5 : PySem.W.recIn K p_g5 "property" = some (.ref f_g5 :: rest_g5))
    (l_g5 : K.lookup f_g5 = some ⟨oc_g5, od_g5, .func (PySem.W.fnOf "against" "Edition.against" (defArgs (sGet 5)) (defBody (sGet 5)) (defScope (sGet 5)) .none kV_g5 dc_g5 pm_g5 an_g5 cd_g5 ct_g5), sl_g5⟩)
    (c_g5 : PySem.W.codeIn K cd_g5 "Edition.against" = true)
    (k_g5 : PySem.W.keepIn K (.ref f_g5) = true)
    (a_eq : PySem.W.findIn K (.ref C) "__eq__" = some (some (.ref f_eq)))
    (l_eq : K.lookup f_eq = some ⟨oc_eq, od_eq, .func (PySem.W.fnOf "__eq__" "Edition.__eq__" (defArgs sEq) (defBody sEq) (defScope sEq) .none kV_eq dc_eq pm_eq an_eq cd_eq ct_eq), sl_eq⟩)
    (c_eq : PySem.W.codeIn K cd_eq "Edition.__eq__" = true)
    (k_eq : PySem.W.keepIn K (.ref f_eq) = true)
    (i_eq : PySem.W.isFn K (.ref f_eq) = true)
    (x_C : K.lookup C = some (excClassObj nmC qC C NC bsC [.type "object"] hdC snC subC abC colC ddC k0C k1C k2C k3C k5C newC))
    (xq_C : PySem.W.nsIn K NC "__eq__" = some (some (.ref f_eq)))
    (xn_C : PySem.W.nsIn K NC "__ne__" = some none)
    (xo_C : PySem.W.nsOkIn K NC = true)
    (na_CT_table : PySem.W.findIn K (.ref CT) "table" = some none)
    (na_CT_numbers : PySem.W.findIn K (.ref CT) "numbers" = some none)
    (a_si : PySem.W.findIn K (.ref CT) "__init__" = some (some (.ref f_si)))
    (l_si : K.lookup f_si = some ⟨oc_si, od_si, .func (PySem.W.fnOf "__init__" "Store.__init__" (defArgs (sSt 0)) (defBody (sSt 0)) (defScope (sSt 0)) .none kV_si dc_si pm_si an_si cd_si ct_si), sl_si⟩)
    (c_si : PySem.W.codeIn K cd_si "Store.__init__" = true)
    (k_si : PySem.W.keepIn K (.ref f_si) = true)
    (i_si : PySem.W.isFn K (.ref f_si) = true)
    (mk_CT : PySem.W.makesIn K CT = true)
    (kc_CT : PySem.W.keepIn K (.ref CT) = true)
    (pa_sn : PySem.W.findIn K (.ref CT) "names" = some (some (.ref p_sn)))
    (pg_sn : PySem.W.specialIn K (.ref p_sn) "__get__" = some (some (.builtin "property.__get__")))
    (pt_sn : PySem.W.takesIn K (.ref p_sn) = some true)
    (pr_sn : PySem.W.recIn K p_sn "property" = some (.ref f_sn :: rest_sn))
    (l_sn : K.lookup f_sn = some ⟨oc_sn, od_sn, .func (PySem.W.fnOf "names" "Store.names" (defArgs (sSt 1)) (defBody (sSt 1)) (defScope (sSt 1)) .none kV_sn dc_sn pm_sn an_sn cd_sn ct_sn), sl_sn⟩)
    (c_sn : PySem.W.codeIn K cd_sn "Store.names" = true)
    (k_sn : PySem.W.keepIn K (.ref f_sn) = true)
    (a_sv : PySem.W.findIn K (.ref CT) "versions" = some (some (.ref f_sv)))
    (l_sv : K.lookup f_sv = some ⟨oc_sv, od_sv, .func (PySem.W.fnOf "versions" "Store.versions" (defArgs (sSt 2)) (defBody (sSt 2)) (defScope (sSt 2)) .none kV_sv dc_sv pm_sv an_sv cd_sv ct_sv), sl_sv⟩)
    (c_sv : PySem.W.codeIn K cd_sv "Store.versions" = true)
    (k_sv : PySem.W.keepIn K (.ref f_sv) = true)
    (i_sv : PySem.W.isFn K (.ref f_sv) = true)
    (a_sl : PySem.W.findIn K (.ref CT) "__len__" = some (some (.ref f_sl)))
    (l_sl : K.lookup f_sl = some ⟨oc_sl, od_sl, .func (PySem.W.fnOf "__len__" "Store.__len__" (defArgs (sSt 3)) (defBody (sSt 3)) (defScope (sSt 3)) .none kV_sl dc_sl pm_sl an_sl cd_sl ct_sl), sl_sl⟩)
    (c_sl : PySem.W.codeIn K cd_sl "Store.__len__" = true)
    (k_sl : PySem.W.keepIn K (.ref f_sl) = true)
    (i_sl : PySem.W.isFn K (.ref f_sl) = true)
    (a_sh : PySem.W.findIn K (.ref CT) "__contains__" = some (some (.ref f_sh)))
    (l_sh : K.lookup f_sh = some ⟨oc_sh, od_sh, .func (PySem.W.fnOf "__contains__" "Store.__contains__" (defArgs (sSt 4)) (defBody (sSt 4)) (defScope (sSt 4)) .none kV_sh dc_sh pm_sh an_sh cd_sh ct_sh), sl_sh⟩)
    (c_sh : PySem.W.codeIn K cd_sh "Store.__contains__" = true)
    (k_sh : PySem.W.keepIn K (.ref f_sh) = true)
    (i_sh : PySem.W.isFn K (.ref f_sh) = true)
    (a_sg : PySem.W.findIn K (.ref CT) "__getitem__" = some (some (.ref f_sg)))
    (l_sg : K.lookup f_sg = some ⟨oc_sg, od_sg, .func (PySem.W.fnOf "__getitem__" "Store.__getitem__" (defArgs (sSt 5)) (defBody (sSt 5)) (defScope (sSt 5)) .none kV_sg dc_sg pm_sg an_sg cd_sg ct_sg), sl_sg⟩)
    (c_sg : PySem.W.codeIn K cd_sg "Store.__getitem__" = true)
    (k_sg : PySem.W.keepIn K (.ref f_sg) = true)
    (i_sg : PySem.W.isFn K (.ref f_sg) = true)
    (fn_sg : PySem.W.fnIn K f_sg = true)
    (a_se : PySem.W.findIn K (.ref CT) "__eq__" = some (some (.ref f_se)))
    (l_se : K.lookup f_se = some ⟨oc_se, od_se, .func (PySem.W.fnOf "__eq__" "Store.__eq__" (defArgs (sSt 7)) (defBody (sSt 7)) (defScope (sSt 7)) .none kV_se dc_se pm_se an_se cd_se ct_se), sl_se⟩)
    (c_se : PySem.W.codeIn K cd_se "Store.__eq__" = true)
    (k_se : PySem.W.keepIn K (.ref f_se) = true)
    (i_se : PySem.W.isFn K (.ref f_se) = true)
    (x_CT : K.lookup CT = some (excClassObj nmCT qCT CT NCT bsCT [.type "object"] hdCT snCT subCT abCT colCT ddCT k0CT k1CT k2CT k3CT k5CT newCT))
    (xq_CT : PySem.W.nsIn K NCT "__eq__" = some (some (.ref f_se)))
    (xn_CT : PySem.W.nsIn K NCT "__ne__" = some none)
    (xo_CT : PySem.W.nsOkIn K NCT = true)
    (nT : K.lookup PT = none)
    (hH : PySem.W.codeHdIn K cLaw PT = true)
    : LawAtS l w K CX0 11 63 "_law_script" mg fa h := by
  have e := hfa.symm.trans (PySem.W.mg_of X G a_law)
  cases e
  have none_ : ∀ {x : Str}, PySem.W.nsIn K mainGlobals x = some none → mg x = none := fun h => PySem.W.mg_none_of X G h
  have F_word := fun_mk (st := sWord) l_word c_word k_word
  have B_word := F_word.binds (ps := ["text"]) fun _ _ _ _ _ _ us hl => match us, hl with | [_], _ => rfl
  have F_numb := fun_mk (st := sNumber) l_numb c_numb k_numb
  have B_numb := F_numb.binds (ps := ["value", "least", "most"]) fun _ _ _ _ _ _ us hl => match us, hl with | [_, _, _], _ => rfl
  have F_asc := fun_mk (st := sAscends) l_asc c_asc k_asc
  have B_asc := F_asc.binds (ps := ["values"]) fun _ _ _ _ _ _ us hl => match us, hl with | [_], _ => rfl
  have F_vers := fun_mk (st := sVersion) l_vers c_vers k_vers
  have B_vers := F_vers.binds (ps := ["value"]) fun _ _ _ _ _ _ us hl => match us, hl with | [_], _ => rfl
  have F_scri := fun_mk (st := sScripts) l_scri c_scri k_scri
  have B_scri := F_scri.binds (ps := ["values"]) fun _ _ _ _ _ _ us hl => match us, hl with | [_], _ => rfl
  have F_othe := fun_mk (st := sOthers) l_othe c_othe k_othe
  have B_othe := F_othe.binds (ps := ["values", "name"]) fun _ _ _ _ _ _ us hl => match us, hl with | [_, _], _ => rfl
  have F_pair := fun_mk (st := sPair) l_pair c_pair k_pair
  have B_pair := F_pair.binds (ps := ["value"]) fun _ _ _ _ _ _ us hl => match us, hl with | [_], _ => rfl
  have F_need := fun_mk (st := sNeeds) l_need c_need k_need
  have B_need := F_need.binds (ps := ["values", "name"]) fun _ _ _ _ _ _ us hl => match us, hl with | [_, _], _ => rfl
  have F_wron := fun_mk (st := sWrong) l_wron c_wron k_wron
  have B_wron := F_wron.binds (ps := ["name", "version", "scripts", "needs", "first", "against"]) fun _ _ _ _ _ _ us hl => match us, hl with | [_, _, _, _, _, _], _ => rfl
  have F_wi := fun_mk (st := sWi) l_wi c_wi k_wi
  have B_wi := F_wi.binds (ps := ["editions"]) fun _ _ _ _ _ _ us hl => match us, hl with | [_], _ => rfl
  have F_vn := fun_mk (st := sVn) l_vn c_vn k_vn
  have B_vn := F_vn.binds (ps := ["keys"]) fun _ _ _ _ _ _ us hl => match us, hl with | [_], _ => rfl
  have F_take := fun_mk (st := sTaken) l_take c_take k_take
  have B_take := F_take.binds (ps := ["_law_row", "_law_many"]) fun _ _ _ _ _ _ us hl => match us, hl with | [_, _], _ => rfl
  have F_pick := fun_mk (st := sPick) l_pick c_pick k_pick
  have B_pick := F_pick.binds (ps := ["_law_row", "_law_some"]) fun _ _ _ _ _ _ us hl => match us, hl with | [_, _], _ => rfl
  have cl_C : Cls K C := ⟨pg_C, hd_C, po_C, sa_C⟩
  have cl_CT : Cls K CT := ⟨pg_CT, hd_CT, po_CT, sa_CT⟩
  have IX_c1 : ErrIs K c1 c0 c1 c2 c3 c4 c5 c6 c7 c8 cS false true false false false false false false false := ⟨⟨ga_c1, gg_c1, ex_c1, hx_c1, hc_c1, hn, ht, hp_c1⟩, kk_c1_c0, kk_c1_c1, kk_c1_c2, kk_c1_c3, kk_c1_c4, kk_c1_c5, kk_c1_c6, kk_c1_c7, kk_c1_c8, kv_c1, PySem.W.exm_ref s1 s2 s3 s4_c1⟩
  have IX_c4 : ErrIs K c4 c0 c1 c2 c3 c4 c5 c6 c7 c8 cS false false false false true false false false false := ⟨⟨ga_c4, gg_c4, ex_c4, hx_c4, hc_c4, hn, ht, hp_c4⟩, kk_c4_c0, kk_c4_c1, kk_c4_c2, kk_c4_c3, kk_c4_c4, kk_c4_c5, kk_c4_c6, kk_c4_c7, kk_c4_c8, kv_c4, PySem.W.exm_ref s1 s2 s3 s4_c4⟩
  have IX_c5 : ErrIs K c5 c0 c1 c2 c3 c4 c5 c6 c7 c8 cS false false false false false true false false false := ⟨⟨ga_c5, gg_c5, ex_c5, hx_c5, hc_c5, hn, ht, hp_c5⟩, kk_c5_c0, kk_c5_c1, kk_c5_c2, kk_c5_c3, kk_c5_c4, kk_c5_c5, kk_c5_c6, kk_c5_c7, kk_c5_c8, kv_c5, PySem.W.exm_ref s1 s2 s3 s4_c5⟩
  have ES : ErrsC K mg c0 c1 c2 c3 c4 c5 c6 c7 c8 cS := ⟨none_ n_isinstance, none_ n_ValueError, PySem.W.mg_of X G g_c0, PySem.W.mg_of X G g_c1, PySem.W.mg_of X G g_c2, PySem.W.mg_of X G g_c3, PySem.W.mg_of X G g_c4, PySem.W.mg_of X G g_c5, PySem.W.mg_of X G g_c6, PySem.W.mg_of X G g_c7, PySem.W.mg_of X G g_c8, PySem.W.mg_of X G g_cS, ⟨ga_c0, gg_c0, ex_c0, hx_c0⟩, ⟨ga_c1, gg_c1, ex_c1, hx_c1⟩, ⟨ga_c2, gg_c2, ex_c2, hx_c2⟩, ⟨ga_c3, gg_c3, ex_c3, hx_c3⟩, nf_c0, nf_c1, nf_c2, nf_c3⟩
  have OX_c0 : OexC K c0 := ⟨⟨_, _, _, _, _, _, _, _, _, _, _, _, _, _, _, ocl_c0, ove_c0⟩, osa_c0, ex_c0, oty_c0, okc_c0⟩
  have SP_c0 : SupC l.prog K mg c0 := ⟨OX_c0, osb_c0, osu_c0, osv_c0, o_op, none_ n_super, o_top⟩
  have ER_ie : ErrFn l.prog K c0 "InvalidEdition.__init__" sIe f_ie _ := ⟨⟨_, _, _, _, _, _, _, _, _, _, _, _, _, _, _, _, _, _, _, rfl, l_ie, c_ie, e_ie, f2_ie, fl_ie, ce_ie⟩⟩
  have OX_c1 : OexC K c1 := ⟨⟨_, _, _, _, _, _, _, _, _, _, _, _, _, _, _, ocl_c1, ove_c1⟩, osa_c1, ex_c1, oty_c1, okc_c1⟩
  have SP_c1 : SupC l.prog K mg c1 := ⟨OX_c1, osb_c1, osu_c1, osv_c1, o_op, none_ n_super, o_top⟩
  have ER_is : ErrFn l.prog K c1 "InvalidStore.__init__" sIs f_is _ := ⟨⟨_, _, _, _, _, _, _, _, _, _, _, _, _, _, _, _, _, _, _, rfl, l_is, c_is, e_is, f2_is, fl_is, ce_is⟩⟩
  have EC_c4 : ErrC K mg "UnknownEdition" c4 := ⟨PySem.W.mg_of X G g_c4, exi_c4, ekc_c4, eb_c4, et_c4⟩
  have EC_c5 : ErrC K mg "UnknownName" c5 := ⟨PySem.W.mg_of X G g_c5, exi_c5, ekc_c5, eb_c5, et_c5⟩
  have F_g0 := fun_mk (st := (sGet 0)) l_g0 c_g0 k_g0
  have B_g0 := F_g0.binds (ps := ["self"]) fun _ _ _ _ _ _ us hl => match us, hl with | [_], _ => rfl
  have P_g0 : PropOf K C "name" p_g0 f_g0 := ⟨pa_g0, pg_g0, pt_g0, ⟨_, pr_g0⟩⟩
  have F_g1 := fun_mk (st := (sGet 1)) l_g1 c_g1 k_g1
  have B_g1 := F_g1.binds (ps := ["self"]) fun _ _ _ _ _ _ us hl => match us, hl with | [_], _ => rfl
  have P_g1 : PropOf K C "version" p_g1 f_g1 := ⟨pa_g1, pg_g1, pt_g1, ⟨_, pr_g1⟩⟩
  have F_g2 := fun_mk (st := (sGet 2)) l_g2 c_g2 k_g2
  have B_g2 := F_g2.binds (ps := ["self"]) fun _ _ _ _ _ _ us hl => match us, hl with | [_], _ => rfl
  have P_g2 : PropOf K C "scripts" p_g2 f_g2 := ⟨pa_g2, pg_g2, pt_g2, ⟨_, pr_g2⟩⟩
  have F_g3 := fun_mk (st := (sGet 3)) l_g3 c_g3 k_g3
  have B_g3 := F_g3.binds (ps := ["self"]) fun _ _ _ _ _ _ us hl => match us, hl with | [_], _ => rfl
  have P_g3 : PropOf K C "needs" p_g3 f_g3 := ⟨pa_g3, pg_g3, pt_g3, ⟨_, pr_g3⟩⟩
  have F_g4 := fun_mk (st := (sGet 4)) l_g4 c_g4 k_g4
  have B_g4 := F_g4.binds (ps := ["self"]) fun _ _ _ _ _ _ us hl => match us, hl with | [_], _ => rfl
  have P_g4 : PropOf K C "first" p_g4 f_g4 := ⟨pa_g4, pg_g4, pt_g4, ⟨_, pr_g4⟩⟩
  have F_g5 := fun_mk (st := (sGet 5)) l_g5 c_g5 k_g5
  have B_g5 := F_g5.binds (ps := ["self"]) fun _ _ _ _ _ _ us hl => match us, hl with | [_], _ => rfl
  have P_g5 : PropOf K C "against" p_g5 f_g5 := ⟨pa_g5, pg_g5, pt_g5, ⟨_, pr_g5⟩⟩
  have F_eq := fun_mk (st := sEq) l_eq c_eq k_eq
  have B_eq := F_eq.binds (ps := ["self", "other"]) fun _ _ _ _ _ _ us hl => match us, hl with | [_, _], _ => rfl
  have OE_C : OwnEqC K C f_eq := ⟨⟨_, _, _, _, _, _, _, _, _, _, _, _, _, _, _, _, x_C, xq_C, xn_C, xo_C⟩, a_eq, i_eq⟩
  have F_si := fun_mk (st := (sSt 0)) l_si c_si k_si
  have B_si := F_si.binds (ps := ["self", "editions"]) fun _ _ _ _ _ _ us hl => match us, hl with | [_, _], _ => rfl
  have F_sn := fun_mk (st := (sSt 1)) l_sn c_sn k_sn
  have B_sn := F_sn.binds (ps := ["self"]) fun _ _ _ _ _ _ us hl => match us, hl with | [_], _ => rfl
  have P_sn : PropOf K CT "names" p_sn f_sn := ⟨pa_sn, pg_sn, pt_sn, ⟨_, pr_sn⟩⟩
  have F_sv := fun_mk (st := (sSt 2)) l_sv c_sv k_sv
  have B_sv := F_sv.binds (ps := ["self", "name"]) fun _ _ _ _ _ _ us hl => match us, hl with | [_, _], _ => rfl
  have F_sl := fun_mk (st := (sSt 3)) l_sl c_sl k_sl
  have B_sl := F_sl.binds (ps := ["self"]) fun _ _ _ _ _ _ us hl => match us, hl with | [_], _ => rfl
  have F_sh := fun_mk (st := (sSt 4)) l_sh c_sh k_sh
  have B_sh := F_sh.binds (ps := ["self", "x"]) fun _ _ _ _ _ _ us hl => match us, hl with | [_, _], _ => rfl
  have F_sg := fun_mk (st := (sSt 5)) l_sg c_sg k_sg
  have B_sg := F_sg.binds (ps := ["self", "at"]) fun _ _ _ _ _ _ us hl => match us, hl with | [_, _], _ => rfl
  have F_se := fun_mk (st := (sSt 7)) l_se c_se k_se
  have B_se := F_se.binds (ps := ["self", "other"]) fun _ _ _ _ _ _ us hl => match us, hl with | [_, _], _ => rfl
  have OE_CT : OwnEqC K CT f_se := ⟨⟨_, _, _, _, _, _, _, _, _, _, _, _, _, _, _, _, x_CT, xq_CT, xn_CT, xo_CT⟩, a_se, i_se⟩
  have tS : ∀ H, SqT K H aS (SCR.map V.str) := fun H => .inr ⟨_, _, _, t_S, rfl, rfl, (by decide : 4 ≤ sizeLine), .cons ⟨_, rfl⟩ (.cons ⟨_, rfl⟩ (.cons ⟨_, rfl⟩ (.cons ⟨_, rfl⟩ .nil)))⟩
  have t1 : ∀ H, SqT K H z1 [] := fun H => .inr ⟨_, _, _, t_1, rfl, rfl, by decide, .nil⟩
  have t2 : ∀ H, SqT K H z2 [] := fun H => .inr ⟨_, _, _, t_2, rfl, rfl, by decide, .nil⟩
  have t3 : ∀ H, SqT K H z3 [] := fun H => .inr ⟨_, _, _, t_3, rfl, rfl, by decide, .nil⟩
  have TD0 : TxtD mg := ⟨none_ n_int, none_ n_len⟩
  have TC : TxtC K mg 0 0 0 0 0 0 0 := ⟨TD0, none_ n_isinstance, none_ n_str, none_ n_bool, none_ n_tuple, none_ n_all, none_ n_range, ⟨_, PySem.W.mg_of X G v_let⟩, ⟨_, PySem.W.mg_of X G v_lon⟩⟩
  have TE0 : TxtE K mg := ⟨TD0, none_ n_isinstance, none_ n_str, none_ n_bool, none_ n_tuple, none_ n_all, none_ n_range, ⟨_, PySem.W.mg_of X G v_lv⟩, ⟨_, PySem.W.mg_of X G v_mv⟩, ⟨_, PySem.W.mg_of X G v_scr, tS⟩⟩
  have TL : TxtL mg := ⟨none_ n_sorted, none_ n_set, none_ n_len, none_ n_range, none_ n_tuple, none_ n_list⟩
  have TG : TxtG l.prog K mg C c0 f_ie _ := ⟨cl_C, na_C_parts, PySem.W.mg_of X G g_C, PySem.W.mg_of X G g_c0, SP_c0, nf_c0, a_ie, y_ie, ER_ie, Binds.all fun us hl => match us, hl with | [_, _], _ => rfl⟩
  have TI : TxtI K mg C := ⟨cl_C, na_C_parts, PySem.W.mg_of X G g_C, none_ n_isinstance, ha_C, hn, ht, hm_C, ki_C⟩
  have TT : TxtT K mg CT c5 c4 := ⟨cl_CT, na_CT_table, na_CT_numbers, none_ n_tuple, none_ n_len, none_ n_isinstance, none_ n_bool, PySem.W.mg_of X G g_CT, EC_c5, EC_c4, ha_CT, hn, ht, hm_CT, ki_CT⟩
  have FE : FunD K "__init__" "Edition.__init__" (defArgs sEi) (defBody sEi) (defScope sEi) [] [("scripts", .ref aS), ("needs", .ref z1), ("first", .ref z2), ("against", .ref z3)] f_ei _ :=
    ⟨⟨_, _, _, _, _, _, _, _, _, _, rfl, l_ei, c_ei, .inl ⟨rfl, rfl⟩, .inr ⟨kD, rfl, fun q hq => by
      simp only [List.mem_cons, List.not_mem_nil, or_false] at hq
      rcases hq with rfl | rfl | rfl | rfl
      · exact ⟨_, d_scripts, rfl⟩
      · exact ⟨_, d_needs, rfl⟩
      · exact ⟨_, d_first, rfl⟩
      · exact ⟨_, d_against, rfl⟩⟩⟩, k_ei⟩
  have EA : ErrAll K mg c0 c1 c2 c3 c4 c5 c6 c7 c8 cS := ⟨ES, IX_c1, IX_c4, IX_c5⟩
  have RF : RaisedF K mg := ⟨_, _, _, _, _, _, _, _, _, _, _, PySem.W.mg_of X G a_rais, k_rais, l_rais, c_rais, Binds.all fun us hl => match us, hl with | [_], _ => rfl⟩
  refine ⟨PySem.W.fnOf "law" "law" (defArgs sLaw) (defBody sLaw) (defScope sLaw) .none kV_law dc_law pm_law an_law (.ref cLaw) ct_law, [(cLaw, PT)], spLaw K PT, fun p hp => ?_, fun p hp => ?_, fun p hp => ?_, fun s v => .of_eq rfl, fun H a ns hl _ hT hS => ⟨a, ns, rfl, hS, hl, hT (cLaw, PT) (List.mem_cons_self ..), fun _ => rfl⟩, fun base KB GB TB => ?_⟩
  · rw [List.mem_singleton.mp hp]; exact hTab
  · rw [List.mem_singleton.mp hp]; exact nT
  · rw [List.mem_singleton.mp hp]; exact PySem.W.codeHd_of_K X hH
  · have dN : Def l.prog w K mg base 1 "is_number" _ spNumber := ⟨_, _, ok_number F_numb TE0, PySem.W.mg_of X G a_numb, k_numb, B_numb⟩
    have dV : Def l.prog w K mg base 2 "is_version" _ spVersion := ⟨_, _, ok_version F_vers TE0 dN, PySem.W.mg_of X G a_vers, k_vers, B_vers⟩
    have dA : Def l.prog w K mg base 1 "ascends" _ (spAsc K) := ⟨_, _, ok_asc F_asc TE0, PySem.W.mg_of X G a_asc, k_asc, B_asc⟩
    have dW : Def l.prog w K mg base 1 "is_word" _ spWord := ⟨_, _, ok_word F_word TC, PySem.W.mg_of X G a_word, k_word, B_word⟩
    have dS : Def l.prog w K mg base 2 "are_scripts" _ (spScripts K) := ⟨_, _, ok_scripts F_scri TE0 dA, PySem.W.mg_of X G a_scri, k_scri, B_scri⟩
    have dO : Def l.prog w K mg base 2 "are_other_names" _ (spOthers K) := ⟨_, _, ok_others F_othe TE0 dA dW, PySem.W.mg_of X G a_othe, k_othe, B_othe⟩
    have dPr : Def l.prog w K mg base 3 "is_pair_with_version" _ (spPair K) := ⟨_, _, ok_pair F_pair TE0 dV, PySem.W.mg_of X G a_pair, k_pair, B_pair⟩
    have dNe : Def l.prog w K mg base 4 "are_needs" _ (spNeeds K) := ⟨_, _, ok_needs F_need TE0 dPr dO, PySem.W.mg_of X G a_need, k_need, B_need⟩
    have dWr : Def l.prog w K mg base 5 "wrong_part" _ (spWrong K) := ⟨_, _, ok_wrong F_wron TE0 ⟨dW, dV, dS, dNe, dO⟩, PySem.W.mg_of X G a_wron, k_wron, B_wron⟩
    have EI : EdF l.prog w K mg base C c0 f_ei _ aS z1 z2 z3 := ⟨ok_ei FE TG dWr, FE, ⟨mk_C, a_ei, i_ei, kc_C⟩, PySem.W.mg_of X G g_C, tS, t1, t2, t3⟩
    have eqF : EqF l.prog w K mg base C := ⟨_, _, ok_eq F_eq TI, OE_C, B_eq⟩
    have D : EdAll l.prog w K mg base C c0 := ⟨⟨_, _, _, _, _, _, EI⟩, eqF, cl_C, ⟨_, _, _, P_g0, ok_get (by decide) F_g0 cl_C na_C_parts, B_g0⟩, ⟨_, _, _, P_g1, ok_get (by decide) F_g1 cl_C na_C_parts, B_g1⟩, ⟨_, _, _, P_g2, ok_get (by decide) F_g2 cl_C na_C_parts, B_g2⟩, ⟨_, _, _, P_g3, ok_get (by decide) F_g3 cl_C na_C_parts, B_g3⟩, ⟨_, _, _, P_g4, ok_get (by decide) F_g4 cl_C na_C_parts, B_g4⟩, ⟨_, _, _, P_g5, ok_get (by decide) F_g5 cl_C na_C_parts, B_g5⟩⟩
    have dT : Def l.prog w K mg base 1 "_law_taken" _ (spTaken K) := ⟨_, _, ok_taken F_take TD0, PySem.W.mg_of X G a_take, k_take, B_take⟩
    have dPi : Def l.prog w K mg base 2 "_law_pick" _ (spPick K) := ⟨_, _, ok_pick F_pick TD0 dT, PySem.W.mg_of X G a_pick, k_pick, B_pick⟩
    have TW : TxtW l.prog w K mg base C := ⟨none_ n_set, none_ n_len, none_ n_enumerate, ⟨_, PySem.W.mg_of X G v_me⟩, ⟨_, PySem.W.mg_of X G v_mn⟩, D.p0, D.p1, cl_C⟩
    have dWi : Def l.prog w K mg base 3 "wrong_index" _ (spWi K C) := ⟨_, _, ok_wi F_wi TW, PySem.W.mg_of X G a_wi, k_wi, B_wi⟩
    have dVn : Def l.prog w K mg base 1 "versions_by_name" _ (spVn K) := ⟨_, _, ok_vn F_vn (none_ n_sorted), PySem.W.mg_of X G a_vn, k_vn, B_vn⟩
    have TS : TxtS l.prog w K mg base C CT c1 f_is _ := ⟨cl_CT, na_CT_table, na_CT_numbers, none_ n_list, PySem.W.mg_of X G g_c1, SP_c1, nf_c1, a_is, y_is, ER_is, (Binds.all fun us hl => match us, hl with | [_, _], _ => rfl), D.p0, D.p1, cl_C, dWi, dVn⟩
    have FH := ok_has (P := l.prog) (w := w) (base := base) F_sh TT
    have S : StAll l.prog w K mg base C CT c5 c4 c1 := ⟨cl_CT, ⟨_, _, ok_si F_si TS, ⟨mk_CT, a_si, i_si, kc_CT⟩, B_si, PySem.W.mg_of X G g_CT⟩, ⟨_, _, _, P_sn, ok_names F_sn TT, B_sn⟩, ⟨_, _, ⟨a_sv, i_sv, k_sv⟩, ok_vers F_sv TT, B_sv⟩, ⟨_, _, ⟨a_sl, i_sl⟩, ok_len F_sl TT, B_sl⟩, ⟨_, _, ⟨a_sh, i_sh⟩, FH, B_sh⟩, ⟨_, _, ⟨a_sg, i_sg⟩, fn_sg, ok_item F_sg TT FH ⟨a_sh, i_sh⟩ B_sh, B_sg⟩, ⟨_, _, OE_CT, ok_steq F_se TT, B_se⟩⟩
    exact ok_law l_law c_law TL S D dT dPi RF EA (TB (cLaw, PT) (List.mem_cons_self ..))
end Half

open PySem PySem.W PyProof.Rows
set_option maxRecDepth 100000 in
set_option maxHeartbeats 0 in
theorem PySem.Challenge.cw_halfsetup_k02_stores_validated_holds : PySem.Challenge.rw_halfsetup_k02_stores_validated.Holds := by
  w_on; o_law; k_head; (case hw => w_witness2)
  k_fill
  refine LamX.walk_ofTs (l := PySem.Challenge.rw_halfsetup_k02_stores_validated) (n := 63) (k := 11) (x := "_law_script") (CX := fun _ => L2.CX0) rfl (by decide) rfl ⟨rfl, by decide, by decide⟩ (fun w h Y => PySem.W.km_in_of Y) ?F (fun _ _ _ _ _ z => z)
  case F =>
    intro w mg fa h Y KX G hmg
    refine' Half.all_mk KX G hmg (PySem.W.km_tabs_of Y _ (List.mem_cons_self ..)) ?n_int ?n_len ?n_isinstance ?n_str ?n_bool ?n_tuple ?n_all ?n_range ?n_ValueError ?n_super ?n_set ?n_sorted ?n_list ?n_enumerate ?a_word ?l_word ?c_word ?k_word ?a_numb ?l_numb ?c_numb ?k_numb ?a_asc ?l_asc ?c_asc ?k_asc ?a_vers ?l_vers ?c_vers ?k_vers ?a_scri ?l_scri ?c_scri ?k_scri ?a_othe ?l_othe ?c_othe ?k_othe ?a_pair ?l_pair ?c_pair ?k_pair ?a_need ?l_need ?c_need ?k_need ?a_wron ?l_wron ?c_wron ?k_wron ?a_wi ?l_wi ?c_wi ?k_wi ?a_vn ?l_vn ?c_vn ?k_vn ?a_take ?l_take ?c_take ?k_take ?a_pick ?l_pick ?c_pick ?k_pick ?a_rais ?l_rais ?c_rais ?k_rais ?a_law ?l_law ?c_law ?k_law ?g_C ?g_CT ?pg_C ?hd_C ?po_C ?sa_C ?ha_C ?hm_C ?ki_C ?hn ?ht ?pg_CT ?hd_CT ?po_CT ?sa_CT ?ha_CT ?hm_CT ?ki_CT ?g_c0 ?g_c1 ?g_c2 ?g_c3 ?g_c4 ?g_c5 ?g_c6 ?g_c7 ?g_c8 ?g_cS ?ga_c0 ?gg_c0 ?ex_c0 ?hx_c0 ?ga_c1 ?gg_c1 ?ex_c1 ?hx_c1 ?ga_c2 ?gg_c2 ?ex_c2 ?hx_c2 ?ga_c3 ?gg_c3 ?ex_c3 ?hx_c3 ?ga_c4 ?gg_c4 ?ex_c4 ?hx_c4 ?ga_c5 ?gg_c5 ?ex_c5 ?hx_c5 ?nf_c0 ?nf_c1 ?nf_c2 ?nf_c3 ?s1 ?s2 ?s3 ?hc_c1 ?hp_c1 ?kk_c1_c0 ?kk_c1_c1 ?kk_c1_c2 ?kk_c1_c3 ?kk_c1_c4 ?kk_c1_c5 ?kk_c1_c6 ?kk_c1_c7 ?kk_c1_c8 ?kv_c1 ?s4_c1 ?hc_c4 ?hp_c4 ?kk_c4_c0 ?kk_c4_c1 ?kk_c4_c2 ?kk_c4_c3 ?kk_c4_c4 ?kk_c4_c5 ?kk_c4_c6 ?kk_c4_c7 ?kk_c4_c8 ?kv_c4 ?s4_c4 ?hc_c5 ?hp_c5 ?kk_c5_c0 ?kk_c5_c1 ?kk_c5_c2 ?kk_c5_c3 ?kk_c5_c4 ?kk_c5_c5 ?kk_c5_c6 ?kk_c5_c7 ?kk_c5_c8 ?kv_c5 ?s4_c5 ?ocl_c0 ?ove_c0 ?osa_c0 ?oty_c0 ?okc_c0 ?osb_c0 ?osu_c0 ?osv_c0 ?o_op ?o_top ?a_ie ?y_ie ?l_ie ?c_ie ?e_ie ?f2_ie ?fl_ie ?ce_ie ?ocl_c1 ?ove_c1 ?osa_c1 ?oty_c1 ?okc_c1 ?osb_c1 ?osu_c1 ?osv_c1 ?a_is ?y_is ?l_is ?c_is ?e_is ?f2_is ?fl_is ?ce_is ?exi_c4 ?ekc_c4 ?eb_c4 ?et_c4 ?exi_c5 ?ekc_c5 ?eb_c5 ?et_c5 ?v_let ?v_lon ?v_lv ?v_mv ?v_me ?v_mn ?v_scr ?a_ei ?l_ei ?c_ei ?k_ei ?i_ei ?mk_C ?kc_C ?d_scripts ?d_needs ?d_first ?d_against ?t_S ?t_1 ?t_2 ?t_3 ?na_C_parts ?pa_g0 ?pg_g0 ?pt_g0 ?pr_g0 ?l_g0 ?c_g0 ?k_g0 ?pa_g1 ?pg_g1 ?pt_g1 ?pr_g1 ?l_g1 ?c_g1 ?k_g1 ?pa_g2 ?pg_g2 ?pt_g2 ?pr_g2 ?l_g2 ?c_g2 ?k_g2 ?pa_g3 ?pg_g3 ?pt_g3 ?pr_g3 ?l_g3 ?c_g3 ?k_g3 ?pa_g4 ?pg_g4 ?pt_g4 ?pr_g4 ?l_g4 ?c_g4 ?k_g4 ?pa_g5 ?pg_g5 ?pt_g5 ?pr_g5 ?l_g5 ?c_g5 ?k_g5 ?a_eq ?l_eq ?c_eq ?k_eq ?i_eq ?x_C ?xq_C ?xn_C ?xo_C ?na_CT_table ?na_CT_numbers ?a_si ?l_si ?c_si ?k_si ?i_si ?mk_CT ?kc_CT ?pa_sn ?pg_sn ?pt_sn ?pr_sn ?l_sn ?c_sn ?k_sn ?a_sv ?l_sv ?c_sv ?k_sv ?i_sv ?a_sl ?l_sl ?c_sl ?k_sl ?i_sl ?a_sh ?l_sh ?c_sh ?k_sh ?i_sh ?a_sg ?l_sg ?c_sg ?k_sg ?i_sg ?fn_sg ?a_se ?l_se ?c_se ?k_se ?i_se ?x_CT ?xq_CT ?xn_CT ?xo_CT ?nT ?hH
    (case n_int => k_is)
    (case n_len => k_is)
    (case n_isinstance => k_is)
    (case n_str => k_is)
    (case n_bool => k_is)
    (case n_tuple => k_is)
    (case n_all => k_is)
    (case n_range => k_is)
    (case n_ValueError => k_is)
    (case n_super => k_is)
    (case n_set => k_is)
    (case n_sorted => k_is)
    (case n_list => k_is)
    (case n_enumerate => k_is)
    (case a_word => k_is)
    (case l_word => k_is)
    (case c_word => k_is)
    (case k_word => k_is)
    (case a_numb => k_is)
    (case l_numb => k_is)
    (case c_numb => k_is)
    (case k_numb => k_is)
    (case a_asc => k_is)
    (case l_asc => k_is)
    (case c_asc => k_is)
    (case k_asc => k_is)
    (case a_vers => k_is)
    (case l_vers => k_is)
    (case c_vers => k_is)
    (case k_vers => k_is)
    (case a_scri => k_is)
    (case l_scri => k_is)
    (case c_scri => k_is)
    (case k_scri => k_is)
    (case a_othe => k_is)
    (case l_othe => k_is)
    (case c_othe => k_is)
    (case k_othe => k_is)
    (case a_pair => k_is)
    (case l_pair => k_is)
    (case c_pair => k_is)
    (case k_pair => k_is)
    (case a_need => k_is)
    (case l_need => k_is)
    (case c_need => k_is)
    (case k_need => k_is)
    (case a_wron => k_is)
    (case l_wron => k_is)
    (case c_wron => k_is)
    (case k_wron => k_is)
    (case a_wi => k_is)
    (case l_wi => k_is)
    (case c_wi => k_is)
    (case k_wi => k_is)
    (case a_vn => k_is)
    (case l_vn => k_is)
    (case c_vn => k_is)
    (case k_vn => k_is)
    (case a_take => k_is)
    (case l_take => k_is)
    (case c_take => k_is)
    (case k_take => k_is)
    (case a_pick => k_is)
    (case l_pick => k_is)
    (case c_pick => k_is)
    (case k_pick => k_is)
    (case a_rais => k_is)
    (case l_rais => k_is)
    (case c_rais => k_is)
    (case k_rais => k_is)
    (case a_law => k_is)
    (case l_law => k_is)
    (case c_law => k_is)
    (case k_law => k_is)
    (case g_C => k_is)
    (case g_CT => k_is)
    (case pg_C => k_is)
    (case hd_C => k_is)
    (case po_C => k_is)
    (case sa_C => k_is)
    (case ha_C => k_is)
    (case hm_C => k_is)
    (case ki_C => kit_is)
    (case hn => k_is)
    (case ht => k_is)
    (case pg_CT => k_is)
    (case hd_CT => k_is)
    (case po_CT => k_is)
    (case sa_CT => k_is)
    (case ha_CT => k_is)
    (case hm_CT => k_is)
    (case ki_CT => kit_is)
    (case g_c0 => k_is)
    (case g_c1 => k_is)
    (case g_c2 => k_is)
    (case g_c3 => k_is)
    (case g_c4 => k_is)
    (case g_c5 => k_is)
    (case g_c6 => k_is)
    (case g_c7 => k_is)
    (case g_c8 => k_is)
    (case g_cS => k_is)
    (case ga_c0 => k_is)
    (case gg_c0 => k_is)
    (case ex_c0 => k_is)
    (case hx_c0 => k_is)
    (case ga_c1 => k_is)
    (case gg_c1 => k_is)
    (case ex_c1 => k_is)
    (case hx_c1 => k_is)
    (case ga_c2 => k_is)
    (case gg_c2 => k_is)
    (case ex_c2 => k_is)
    (case hx_c2 => k_is)
    (case ga_c3 => k_is)
    (case gg_c3 => k_is)
    (case ex_c3 => k_is)
    (case hx_c3 => k_is)
    (case ga_c4 => k_is)
    (case gg_c4 => k_is)
    (case ex_c4 => k_is)
    (case hx_c4 => k_is)
    (case ga_c5 => k_is)
    (case gg_c5 => k_is)
    (case ex_c5 => k_is)
    (case hx_c5 => k_is)
    (case nf_c0 => k_is)
    (case nf_c1 => k_is)
    (case nf_c2 => k_is)
    (case nf_c3 => k_is)
    (case s1 => k_is)
    (case s2 => k_is)
    (case s3 => k_is)
    (case hc_c1 => k_is)
    (case hp_c1 => k_is)
    (case kk_c1_c0 => kit_is)
    (case kk_c1_c1 => kit_is)
    (case kk_c1_c2 => kit_is)
    (case kk_c1_c3 => kit_is)
    (case kk_c1_c4 => kit_is)
    (case kk_c1_c5 => kit_is)
    (case kk_c1_c6 => kit_is)
    (case kk_c1_c7 => kit_is)
    (case kk_c1_c8 => kit_is)
    (case kv_c1 => kit_is)
    (case s4_c1 => k_is)
    (case hc_c4 => k_is)
    (case hp_c4 => k_is)
    (case kk_c4_c0 => kit_is)
    (case kk_c4_c1 => kit_is)
    (case kk_c4_c2 => kit_is)
    (case kk_c4_c3 => kit_is)
    (case kk_c4_c4 => kit_is)
    (case kk_c4_c5 => kit_is)
    (case kk_c4_c6 => kit_is)
    (case kk_c4_c7 => kit_is)
    (case kk_c4_c8 => kit_is)
    (case kv_c4 => kit_is)
    (case s4_c4 => k_is)
    (case hc_c5 => k_is)
    (case hp_c5 => k_is)
    (case kk_c5_c0 => kit_is)
    (case kk_c5_c1 => kit_is)
    (case kk_c5_c2 => kit_is)
    (case kk_c5_c3 => kit_is)
    (case kk_c5_c4 => kit_is)
    (case kk_c5_c5 => kit_is)
    (case kk_c5_c6 => kit_is)
    (case kk_c5_c7 => kit_is)
    (case kk_c5_c8 => kit_is)
    (case kv_c5 => kit_is)
    (case s4_c5 => k_is)
    (case ocl_c0 => k_is)
    (case ove_c0 => decide +kernel)
    (case osa_c0 => k_is)
    (case oty_c0 => k_is)
    (case okc_c0 => k_is)
    (case osb_c0 => k_is)
    (case osu_c0 => ks_is)
    (case osv_c0 => k_is)
    (case o_op => k_is)
    (case o_top => decide +kernel)
    (case a_ie => k_is)
    (case y_ie => k_is)
    (case l_ie => k_is)
    (case c_ie => k_is)
    (case e_ie => k_is)
    (case f2_ie => rfl)
    (case fl_ie => decide +kernel)
    (case ce_ie => k_is)
    (case ocl_c1 => k_is)
    (case ove_c1 => decide +kernel)
    (case osa_c1 => k_is)
    (case oty_c1 => k_is)
    (case okc_c1 => k_is)
    (case osb_c1 => k_is)
    (case osu_c1 => ks_is)
    (case osv_c1 => k_is)
    (case a_is => k_is)
    (case y_is => k_is)
    (case l_is => k_is)
    (case c_is => k_is)
    (case e_is => k_is)
    (case f2_is => rfl)
    (case fl_is => decide +kernel)
    (case ce_is => k_is)
    (case exi_c4 => kernel_rfl)
    (case ekc_c4 => k_is)
    (case eb_c4 => k_is)
    (case et_c4 => k_is)
    (case exi_c5 => kernel_rfl)
    (case ekc_c5 => k_is)
    (case eb_c5 => k_is)
    (case et_c5 => k_is)
    (case v_let => k_is)
    (case v_lon => k_is)
    (case v_lv => k_is)
    (case v_mv => k_is)
    (case v_me => k_is)
    (case v_mn => k_is)
    (case v_scr => k_is)
    (case a_ei => k_is)
    (case l_ei => k_is)
    (case c_ei => k_is)
    (case k_ei => k_is)
    (case i_ei => k_is)
    (case mk_C => k_is)
    (case kc_C => k_is)
    (case d_scripts => k_is)
    (case d_needs => k_is)
    (case d_first => k_is)
    (case d_against => k_is)
    (case t_S => k_is)
    (case t_1 => k_is)
    (case t_2 => k_is)
    (case t_3 => k_is)
    (case na_C_parts => k_is)
    (case pa_g0 => k_is)
    (case pg_g0 => k_is)
    (case pt_g0 => k_is)
    (case pr_g0 => k_is)
    (case l_g0 => k_is)
    (case c_g0 => k_is)
    (case k_g0 => k_is)
    (case pa_g1 => k_is)
    (case pg_g1 => k_is)
    (case pt_g1 => k_is)
    (case pr_g1 => k_is)
    (case l_g1 => k_is)
    (case c_g1 => k_is)
    (case k_g1 => k_is)
    (case pa_g2 => k_is)
    (case pg_g2 => k_is)
    (case pt_g2 => k_is)
    (case pr_g2 => k_is)
    (case l_g2 => k_is)
    (case c_g2 => k_is)
    (case k_g2 => k_is)
    (case pa_g3 => k_is)
    (case pg_g3 => k_is)
    (case pt_g3 => k_is)
    (case pr_g3 => k_is)
    (case l_g3 => k_is)
    (case c_g3 => k_is)
    (case k_g3 => k_is)
    (case pa_g4 => k_is)
    (case pg_g4 => k_is)
    (case pt_g4 => k_is)
    (case pr_g4 => k_is)
    (case l_g4 => k_is)
    (case c_g4 => k_is)
    (case k_g4 => k_is)
    (case pa_g5 => k_is)
    (case pg_g5 => k_is)
    (case pt_g5 => k_is)
    (case pr_g5 => k_is)
    (case l_g5 => k_is)
    (case c_g5 => k_is)
    (case k_g5 => k_is)
    (case a_eq => k_is)
    (case l_eq => k_is)
    (case c_eq => k_is)
    (case k_eq => k_is)
    (case i_eq => k_is)
    (case x_C => k_is)
    (case xq_C => k_is)
    (case xn_C => k_is)
    (case xo_C => kernel_rfl)
    (case na_CT_table => k_is)
    (case na_CT_numbers => k_is)
    (case a_si => k_is)
    (case l_si => k_is)
    (case c_si => k_is)
    (case k_si => k_is)
    (case i_si => k_is)
    (case mk_CT => k_is)
    (case kc_CT => k_is)
    (case pa_sn => k_is)
    (case pg_sn => k_is)
    (case pt_sn => k_is)
    (case pr_sn => k_is)
    (case l_sn => k_is)
    (case c_sn => k_is)
    (case k_sn => k_is)
    (case a_sv => k_is)
    (case l_sv => k_is)
    (case c_sv => k_is)
    (case k_sv => k_is)
    (case i_sv => k_is)
    (case a_sl => k_is)
    (case l_sl => k_is)
    (case c_sl => k_is)
    (case k_sl => k_is)
    (case i_sl => k_is)
    (case a_sh => k_is)
    (case l_sh => k_is)
    (case c_sh => k_is)
    (case k_sh => k_is)
    (case i_sh => k_is)
    (case a_sg => k_is)
    (case l_sg => k_is)
    (case c_sg => k_is)
    (case k_sg => k_is)
    (case i_sg => k_is)
    (case fn_sg => k_is)
    (case a_se => k_is)
    (case l_se => k_is)
    (case c_se => k_is)
    (case k_se => k_is)
    (case i_se => k_is)
    (case x_CT => k_is)
    (case xq_CT => k_is)
    (case xn_CT => k_is)
    (case xo_CT => kernel_rfl)
    (case nT => kernel_rfl)
    (case hH => kernel_rfl)
