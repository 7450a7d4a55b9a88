import PyProof.Rows.All
import Wide.All
import OpenK.AllK
import Wide.FinOn
import KE.KExcSuper
import HandS.ForMost
import HandS.ForExc
import HandS.ExcInit
import PyProof.InstNe
import KE.KExcIs
import HandS.ExcIs
import HandS.SetFor
import HandS.IsInst
import HandS.Walk
import HandS.FStr
import HandS.More
import HandS.Codes
import HandS.Conv
import HandS.Defaults
import HandS.MakeKwOnly
import HandS.Property
import HandS.Lambda
import HandS.ExcField
import HandS.EndTab
import KE.KNestM
import KE.RegKIsAll
import PySem.Challenge.RW_halfsetup_k01_editions_validated
set_option Elab.async false
set_option linter.all false
set_option maxRecDepth 100000
set_option maxHeartbeats 8000000
/-! a def (the own __init__ of an exception class) whose first statement is super().__init__(e) -/
namespace L2
open PySem PySem.Spec PyProof.Rows
theorem zip_rev_lookup : ∀ {ps : List Str} {us : List Value} {i : Nat} {y : Str} {u : Value}, ps.Nodup → ps[i]? = some y → us[i]? = some u → (ps.zip us).reverse.lookup y = some u
  | [], _, i, _, _, _, h, _ => by simp at h
  | p :: ps, [], i, _, _, _, _, h => by simp at h
  | p :: ps, u0 :: us, 0, y, u, nd, h1, h2 => by
    have e1 : p = y := by simpa using h1
    have e2 : u0 = u := by simpa using h2
    subst e1 e2
    have hp : p ∉ ps := (List.nodup_cons.mp nd).1
    have q : ((ps.zip us).reverse).lookup p = none := by
      rw [List.lookup_eq_none_iff]
      intro z hz
      have n : p ≠ z.1 := fun e' => hp (by rw [e']; exact (List.of_mem_zip (List.mem_reverse.mp hz)).1)
      simpa using n
    rw [List.zip_cons_cons, List.reverse_cons, List.lookup_append, q]
    simp [List.lookup]
  | p :: ps, u0 :: us, i + 1, y, u, nd, h1, h2 => by
    have ih := zip_rev_lookup (ps := ps) (us := us) (i := i) (y := y) (u := u) (List.nodup_cons.mp nd).2 (by simpa using h1) (by simpa using h2)
    rw [List.zip_cons_cons, List.reverse_cons, List.lookup_append, ih]
    rfl
/-- what a slot holds at the start is an argument -/
theorem start_val {N : List Str} {vs : List V} {i : Nat} {v : V} (h : (start N vs)[i]? = some (some v)) : vs[i]? = some v := by
  rcases Nat.lt_or_ge i vs.length with lt | ge
  · rw [show start N vs = vs.map some ++ List.replicate (N.length - vs.length) none from rfl, List.getElem?_append_left (by rwa [List.length_map]), List.getElem?_map, List.getElem?_eq_getElem lt] at h
    rw [List.getElem?_eq_getElem lt]
    exact Option.some.inj h
  · rw [show start N vs = vs.map some ++ List.replicate (N.length - vs.length) none from rfl, List.getElem?_append_right (by rwa [List.length_map])] at h
    exact nomatch (List.mem_replicate.mp (List.mem_of_getElem? h)).2
structure SupScope (N P : List Str) (sc : Scope) : Prop where
  kind : sc.kind = .function
  co : sc.isCoroutine = false
  gen : sc.isGenerator = false
  nd : N.Nodup
  pre : N.take P.length = P
  par : ∀ x ∈ P, sc.names.lookup x = some .local
  nocell : ∀ y ∈ sc.names, y.2 ≠ .cell
  free : ∀ y ∈ sc.names, y.2 = .free → y.1 = ("__class__" : Str)
  hs : sc.names.lookup ("super" : Str) = some .globalImplicit
  hc : sc.names.lookup ("__class__" : Str) = some .free
def cxSup (CX : CXT) (P : Program) (w : World) (K : PySem.W.Frag) (mg : Str → Option Value) (base : Heap) (N : List Str) (qual : Str) (scope : Scope) (f : Addr) (cd : Value) (cc : Addr) (A : Around) (outer : List Env) (s : Shared) (H : Hp) (E : XK) : Cx where
  prog := P
  w := w
  K := K
  mg := mg
  base := base
  A := A.deeper (PySem.W.ksEnv qual scope s.heap.objs.size f cd cc)
  N := N
  s_0 := s
  H_0 := H
  env := PySem.W.ksEnv qual scope s.heap.objs.size f cd cc
  outer := outer
  stack := PySem.W.ksEnv qual scope s.heap.objs.size f cd cc :: outer
  ex := []
  calm := true
  fn := fun _ => false
  pn := []
  xe := fun e s' => wpAny (model P w) (A.deeper (PySem.W.ksEnv qual scope s.heap.objs.size f cd cc)) (leaving (PySem.W.ksEnv qual scope s.heap.objs.size f cd cc) e) (fun _ s'' => CX outer H s E e s'') (fun e' s'' => CX outer H s E e' s'') s'
theorem inv_startS {CX : CXT} {P : Program} {w : World} {K : PySem.W.Frag} {mg : Str → Option Value} {base : Heap} {N ps : List Str} {qual : Str} {scope : Scope} {f cc : Addr} {cd : Value} {A : Around} {outer : List Env} {s : Shared} {H : Hp} {E : XK} {us : List Value} {vs : List V} {h₀ : Heap} {tk : Nat}
    {oc : Obj} {cv : Option Value} (S : SupScope N ps scope) (hd : A.handled = none) (e0 : Env0 P w K mg base A outer s H) (hl : vs.length = ps.length) (r : Vals vs us) (hcell : K.lookup cc = some oc) (hcd : oc.data = .cell cv)
    (hns : h₀.Ns s.heap.objs.size (fun x => (ps.zip us).reverse.lookup x)) (kp : ∀ b o, s.heap.get? b = some o → h₀.get? b = some o) :
    Inv (cxSup CX P w K mg base N qual scope f cd cc A outer s H E) [] (start N vs) H { s with heap := h₀, toks := tk } := by
  have hpl : ps.length ≤ N.length := by have := congrArg List.length S.pre; rw [List.length_take] at this; omega
  have noA : ∀ b : Addr, b ∉ (cxSup CX P w K mg base N qual scope f cd cc A outer s H E).ex := fun b z => absurd (show b ∈ ([] : List Addr) from z) (by simp)
  have hb := e0.bs cc oc (e0.mod.kin _ _ hcell)
  have lk : ∀ {y : Str} {c : Addr}, ([(("__class__" : Str), cc)] : List (Str × Addr)).lookup y = some c → y = ("__class__" : Str) ∧ c = cc := fun {y c} e => by
    simp only [List.lookup] at e
    split at e
    · rename_i q
      exact ⟨by simpa using q, (Option.some.inj e).symm⟩
    · cases e
  refine ⟨⟨e0.mod, S.kind, rfl, rfl, Nat.le_refl _, fun y z c h1 h2 => ?_, fun y hy => ?_, fun y c z _ => ?_, fun _ => hd, Around.frames_deeper e0.frames, .inr ⟨rfl, rfl⟩, fun b z => absurd z (noA b), e0.bs, e0.bsz, fun b _ _ => noA b, fun b z => absurd z (noA b), e0.funs, e0.frf⟩,
    rfl, e0.bare, Un.kept kp, ⟨_, hns, fun i y v h1 h2 h3 => ?_⟩, fun y c h => ?_, e0.hok.fresh (Nat.le_refl _), fun y c h => ?_, fun p hp => absurd (show p ∈ ([] : List (Addr × Obj)) from hp) (by simp), e0.hok.kept kp, ?_⟩
  · exact (lk h1).1.trans (lk h2).1.symm
  · have hy : scope.names.lookup y = some .cell ∨ scope.names.lookup y = some .free := hy
    rcases hy with hy | hy
    · exact absurd rfl (S.nocell _ (PySem.mem_of_lookup hy))
    · have e := S.free _ (PySem.mem_of_lookup hy) rfl
      have e : y = ("__class__" : Str) := e
      subst e
      exact ⟨cc, by show ([(("__class__" : Str), cc)] : List (Str × Addr)).lookup _ = _; simp [List.lookup]⟩
  · have z : false = true := z
    cases z
  · have ha := start_val h2
    have hi := (List.getElem?_eq_some_iff.mp ha).1
    obtain ⟨u, hu, rv⟩ := r.get ha
    have hp : ps[i]? = some y := by rw [← S.pre, List.getElem?_take_of_lt (by omega)]; exact h1
    have ndP : ps.Nodup := by rw [← S.pre]; exact S.nd.sublist (List.take_sublist _ _)
    exact ⟨u, rv, .inl ⟨S.par y (List.mem_of_getElem? hp), zip_rev_lookup ndP hp hu⟩⟩
  · have e := (lk h).2
    subst e
    exact ⟨cv, oc, kp _ _ hb.1, hcd⟩
  · have e := (lk h).2
    subst e
    exact hb.2
  · unfold start
    show _ = N.length
    rw [List.length_append, List.length_map, List.length_replicate]
    omega
/-- the built-in __init__, bound to the exception at a, called -/
theorem call_mw {P : Program} {w : World} {A : Around} {E : Value → Shared → Prop} {h : Heap} {g : Array GenState} {d : Drawn} {t : Nat} {os : OsState} {nm q : Str} {C N : Addr} {bs bm : List Value} {hdct : Bool} {sn : List Str} {sub : List Value} {ab : Bool} {col : Option Bool} {dd : Option Addr} {k0 k1 k2 k3 k5 : Option Value}
    {u e t0 : Addr} {rest : List Value} {Q : Value → Shared → Prop}
    (hC : h.get? C = some (excClassObj nm q C N bs bm hdct sn sub ab col dd k0 k1 k2 k3 k5 "ValueError.__new__")) (he : h.get? e = some (HandSPX.excO C t0)) (hu : h.get? u = some (PySem.W.kxs_mw "ValueError.__init__" e)) (hz : rest.length ≤ sizeLine)
    (hq : ∀ h' t1, (∀ b o, b ≠ e → h.get? b = some o → h'.get? b = some o) → h'.get? e = some (HandSPX.excO C t1) → Q .none ⟨h', g, d, t, os⟩) :
    wpAny (model P w) A (call (.ref u) rest) Q E ⟨h, g, d, t, os⟩ := by
  have FB := F.excBase_ValueError
  refine wpAny_call (codeAny_of_tree ?_); show wpAny _ A.in1 (callAny (.ref u) ⟨rest, []⟩) _ _ _
  simp only [callAny]; refine wpAny_bind (wpAny_load hu ?_)
  simp only [PySem.W.kxs_mw, show (Value.type "method-wrapper" == Value.type "method" || Value.type "method-wrapper" == Value.type "builtin_function_or_method" || Value.type "method-wrapper" == Value.type "method-wrapper") = true by decide, if_true]
  refine PySem.W.KFB.if_so (by decide) (wpAny_bind (PySem.W.check_bound_init FB.toExcCallFacts hC he rfl (wpAny_bind (wpAny_pure (wpAny_pure ⟨plainId_quiet FB.init.plain _, codeAny_builtin FB.initEntry ?_⟩)))))
  exact PySem.W.exc_init_tree (cls := .ref C) (t0 := t0) (dv := none) (c2 := .none) (c3 := .none) (b4 := .bool false) he hz fun h' k hx _ => hq h' h.objs.size k hx
/-- what the written part says besides, for super() in the __init__ of the class at D -/
structure SupC (P : Program) (K : PySem.W.Frag) (mg : Str → Option Value) (D : Addr) : Prop where
  oex : OexC K D
  sub : PySem.W.mroIn K D (.ref D) = some true
  sup : PySem.W.ks_superIn K D D "__init__" = some (some (.builtin "ValueError.__init__"))
  ve : PySem.W.subIn K (.ref D) (.type "ValueError") = some true
  op : PySem.W.nsIn K cStatics "thirdparty.any" = some none
  mgs : mg "super" = none
  top : (P.main.scope.names.lookup ("super" : Str)).isSome = false
theorem fn_sup {CX : CXT} {P : Program} {w : World} {K : PySem.W.Frag} {mg : Str → Option Value} {base : Heap} {k : Nat} {f cc D cda : Addr} {name qual : Str} {params : Arguments} {body rest : List Stmt} {scope : Scope} {dV kV doc pm ct oc : Value} {an od : Option Addr}
    {osl : Array (Option Value)} {N ps : List Str} {sp : Sp} {e : Expr} {p0 p1 p2 p3 p4 : Pos} {pl : Sem Bool} {ar : Arg} {vsc : Array Value} {file : Str} {tf : Tok} {ccl : Value} {cdd : Option Addr} {ccs : Array (Option Value)} {cl : Value} {cld : Option Addr} {csl : Array (Option Value)}
    (lk : K.lookup f = some ⟨oc, od, .func (PySem.W.ksFn name qual params body scope dV kV doc pm an (.ref cda) ct cc), osl⟩) (hcd : PySem.W.codeIn K (.ref cda) qual = true) (S : SupScope N ps scope)
    (hb : body = .Expr (.Call (.Attribute (.Call (.Name "super" p0) [] [] p1) "__init__" p2) [e] [] p3) p4 :: rest)
    (hp : (params.posonlyargs ++ params.args).head? = some ar) (hps : ps[0]? = some ar.arg)
    (hcode : K.lookup cda = some ⟨ccl, cdd, .fields vsc, ccs⟩) (hvs : vsc[2]? = some (.str file tf)) (hfile : ((P.main.file : Str) == file) = true)
    (hcell : K.lookup cc = some ⟨cl, cld, .cell (some (.ref D)), csl⟩) (T : SupC P K mg D)
    (len : ∀ vs H Q E, sp vs H Q E → vs.length = ps.length)
    (he : ∀ L : Addr, starEach [e] (PySem.W.ksEnv qual scope L f (.ref cda) cc) = [(false, eval e (PySem.W.ksEnv qual scope L f (.ref cda) cc))])
    (hsw : ∀ L : Addr, swapsWith (.Call (.Attribute (.Call (.Name "super" p0) [] [] p1) "__init__" p2) [e] [] p3) none p4.line (PySem.W.ksEnv qual scope L f (.ref cda) cc) = pure false)
    (hev : ∀ L : Addr, eval (.Call (.Attribute (.Call (.Name "super" p0) [] [] p1) "__init__" p2) [e] [] p3) (PySem.W.ksEnv qual scope L f (.ref cda) cc) = (do
      let ov ← attributeBase (.Call (.Name "super" p0) [] [] p1) "__init__" (PySem.W.ksEnv qual scope L f (.ref cda) cc) (eval (.Call (.Name "super" p0) [] [] p1) (PySem.W.ksEnv qual scope L f (.ref cda) cc))
      standAt p2.atName
      let (fn, first) ← holding [ov] (getMethod ov "__init__" pl)
      callWith p3 fn first (backTo p3 (starEach [e] (PySem.W.ksEnv qual scope L f (.ref cda) cc))) []))
    (hbody : ∀ (A : Around) (outer : List Env) (s : Shared) (H : Hp) (vs : List V) (Q : VK) (E : XK), Room k (A.deeper (PySem.W.ksEnv qual scope s.heap.objs.size f (.ref cda) cc)) → sp vs H Q E →
      ∃ (a : Addr) (ta : TA) (t : TS), vs[0]? = some (.ref a) ∧ H a = some (exo a D none) ∧ PA (cxSup CX P w K mg base N qual scope f (.ref cda) cc A outer s H E) [e] ta ∧ PSs (cxSup CX P w K mg base N qual scope f (.ref cda) cc A outer s H E) rest t ∧
        ta (start N vs) H fun ws H1 => ws.length ≤ 1000 ∧ H1 a = some (exo a D none) ∧ t { nx := fun _ H' => Q .non H', rt := Q } (start N vs) H1) :
    FnOk P w K mg base CX (k + 1) f (PySem.W.ksFn name qual params body scope dV kV doc pm an (.ref cda) ct cc) ps sp := by
  refine ⟨len, fun A outer s H args us vs Q E hr e0 hbd r hsp => ?_⟩
  have hl := len _ _ _ _ hsp
  have KX : K.In s.heap := e0.mod.kin.keeps fun b o e => (e0.bs b o e).1
  have lim : s.heap.NoLimit := e0.mod.nolimit.keeps fun b o e => (e0.bs b o e).1
  obtain ⟨a, ta, t, hv0, ha, hpa, hpss, hq⟩ := hbody A outer s H vs Q E (hr.deeper _) hsp
  subst hb
  refine ks_codeAny_call_defAt (fd := PySem.W.ksFn name qual params _ scope dV kV doc pm an (.ref cda) ct cc) (binds := ps.zip us) hr.depth (KX _ _ lk) rfl lim (PySem.W.codeRec_of KX hcd) rfl hbd S.nocell (fun y hy => S.par _ (List.of_mem_zip hy).1) (fun h₀ hns kp => ?_) S.co S.gen S.kind
  have I := inv_startS (CX := CX) (E := E) (qual := qual) (f := f) (cd := .ref cda) (tk := s.toks + (ps.zip us).length) S hr.hd e0 hl r hcell rfl hns kp
  obtain ⟨u0, hu0, ru0⟩ := r.get hv0
  obtain rfl : u0 = Value.ref a := ru0
  have ndP : ps.Nodup := by rw [← S.pre]; exact S.nd.sublist (List.take_sublist _ _)
  have hself := zip_rev_lookup ndP hps hu0
  have KX0 : K.In h₀ := KX.keeps kp
  obtain ⟨nm, q, N', bs, bm, sn, sub, ab, col, dd, k0, k1, k2, k3, k5, hC, hbm⟩ := T.oex.cls
  have hcl : PySem.W.clsIn K D = some { name := nm, bases := bs, mro := .ref D :: bm, ns := N', qualname := q, hasDict := true, slotNames := sn, subclasses := sub, abstract := ab, collection := col, hasDel := false } := by unfold PySem.W.clsIn; rw [hC] <;> rfl
  obtain ⟨t1, ho⟩ := exo_at I.hok ha
  obtain ⟨mb, hmb, hbl⟩ := e0.mod.blt
  have bk : ∀ b o, base.get? b = some o → h₀.get? b = some o := fun b o e => kp b o (e0.bs b o e).1
  refine ks_wpAt_execs_cons (ks_wpAt_Expr_any (ks_wpAt_MethodCall (env := PySem.W.ksEnv qual scope s.heap.objs.size f (.ref cda) cc) ?_ (hev _)) I.quiet (hsw _))
  refine ks_wpAt_super_base (env := PySem.W.ksEnv qual scope s.heap.objs.size f (.ref cda) cc) S.hs S.hc (by decide) rfl (KX0 _ _ lk) rfl hp rfl (KX0 _ _ hcode) rfl hvs hfile T.top ?_
  refine PySem.W.ks_loadName_global S.kind S.hs (Calls.loadGlobal_builtin (e0.mod.glob.keeps bk) T.mgs (hmb.keeps bk) ((hbl _ (by decide)).trans (show bootBuiltins "super" = some (.type "super") by decide +kernel)) ⟨rfl, ?_⟩)
  refine wpAny_loadName_free S.kind S.hc rfl ⟨_, KX0 _ _ hcell, rfl⟩ ?_
  refine wpAny_loadName_local S.kind (S.par _ (List.mem_of_getElem? hps)) hns hself ?_
  refine ks_wpAny_isType_cls (KX0 _ _ hC) rfl ⟨rfl, ?_⟩
  obtain ⟨hs0, g, d, tk, os⟩ := s
  refine ks_wpAny_call_super (KX0 _ _ hC) rfl ho rfl (fun c z => by cases z) (PySem.W.looks_mroIn KX0 T.sub) (fun h1 e1 kp1 => ?_)
  have hsup := T.sup
  unfold PySem.W.ks_superIn at hsup
  rw [hcl] at hsup
  have KX1 : K.In h1 := KX0.keeps kp1
  have ho1 := kp1 _ _ ho
  have aD : a ≠ D := fun z => by
    rw [z] at ho1
    have := ho1.symm.trans (KX1 _ _ hC)
    cases this
  refine PySem.W.kxs_getMethod PySem.W.kxs_ValueError e1 (PySem.W.looks_opaque KX1 T.op) (fun A Q E s k q => wpAny_bind ((PySem.W.looks_clsIn KX1 hcl) A _ E s k (wpAny_pure q))) rfl KX1 hsup
    (PySem.W.InstAt.type (od := none) ⟨ho1, rfl, rfl, trivial⟩ |>.andThen (PySem.W.looks_subIn KX1 T.ve)) aD (by decide) ?_
  have kp2 : ∀ b o, h₀.get? b = some o → (h1.push (PySem.W.kxs_mw "ValueError.__init__" a)).get? b = some o := fun b o e => Heap.get?_push_of_some _ (kp1 b o e)
  have I2 := (I.kept (t' := tk + (ps.zip us).length + 1) kp2).pins_of (pins' := [(h1.objs.size, PySem.W.kxs_mw "ValueError.__init__" a)]) fun p hp => by
    have e : p = (h1.objs.size, PySem.W.kxs_mw "ValueError.__init__" a) := by simpa using hp
    subst e
    have big : h₀.objs.size ≤ h1.objs.size := by
      refine Nat.le_of_lt (Nat.lt_of_le_of_lt ?_ (Heap.lt_size e1))
      exact Nat.le_refl _
    refine ⟨Heap.get?_push_at rfl rfl, I.hok.fresh big, ?_, I.nofs big, fun v z => by cases z⟩
    exact Nat.ne_of_gt (Nat.lt_of_lt_of_le I.lt big)
  refine PySem.W.kxs_callWith (i := "ValueError.__init__") (x := a) (by rw [he _]; rfl) ?_
  rw [he _]
  refine Calls.evalArgs_plain ?_
  have hrun := hpa.run p3 _ _ (start N vs) H _ I2 hq
  have he' : starEach [e] (cxSup CX P w K mg base N qual scope f (.ref cda) cc A outer ⟨hs0, g, d, tk, os⟩ H E).env = _ := he _
  rw [he'] at hrun
  refine thn hrun fun ws s2 ⟨vs2, H1, I3, r3, hlen, ha1, ht⟩ => ?_
  obtain ⟨hu, _⟩ := I3.pin (h1.objs.size, PySem.W.kxs_mw "ValueError.__init__" a) (by simp)
  refine ⟨hu, ?_⟩
  obtain ⟨t2, ho2⟩ := exo_at I3.hok ha1
  obtain ⟨hp2, g2, d2, tk2, os2⟩ := s2
  refine call_mw (I3.kIn _ _ hC) ho2 hu (by rw [List.nil_append, ← Paired.length r3, sizeLine_eq]; omega) fun h' t3 k' hx => ?_
  have J0 := I3.write (t' := tk2) (x := a) (e := a) (o := exo a D none) (by rw [ha1]; exact True.intro) (.inl rfl) k' ⟨_, hx⟩ (exo_ok hx)
  have eu : upd H1 a (exo a D none) = H1 := by
    funext b
    by_cases hb : b = a
    · rw [hb, upd_same, ha1]
    · rw [upd_ne hb]
  rw [eu] at J0
  refine wpAt_of_wpAny (wpAny_mono (hpss.run _ _ (start N vs) H1 _ J0 ht) (fun fl s' hs => ?_) fun e s' hs => hs)
  have fin : ∀ {σ' : St} {H' : Hp} {v : V} {u : Value}, Inv (cxSup CX P w K mg base N qual scope f (.ref cda) cc A outer ⟨hs0, g, d, tk, os⟩ H E) [(h1.objs.size, PySem.W.kxs_mw "ValueError.__init__" a)] σ' H' s' → RelV v u → Q v H' → CE outer P w H ⟨hs0, g, d, tk, os⟩ Q u s' :=
    fun {σ' H' v u} J rv q => ⟨v, H', J.os, J.bare, J.base, J.hok, rv, q⟩
  match fl, hs with
  | .ret _, ⟨_, _, _, J, rv, q⟩ => exact fin J rv q
  | .next, ⟨_, _, J, q⟩ => exact fin (v := .non) J rfl q
  | .brk, ⟨_, _, _, q⟩ => exact q.elim
  | .cont, ⟨_, _, _, q⟩ => exact q.elim
end L2

namespace L2
open PySem PySem.Spec PyProof.Rows
/-! ### isinstance of a caught error, with or without a dict of its own -/
def rIsX (K : PySem.W.Frag) (a : Addr) (cls : Value) (d : Option Addr) : List V → Hp → VK → Prop := fun xs H Q => ∃ (c : V) (cv : Value) (b : Bool) (D : Addr), xs = [.ref a, c] ∧ (∀ u, RelV c u → u = cv) ∧ cls = .ref D ∧ ExcC K D ∧ PySem.W.kitOne K (.ref D) cv = some b ∧
  (d = none ∨ ∃ dd fs, d = some dd ∧ H dd = some (.xd fs)) ∧ Q (.bl b) H
theorem call_isX {X : Cx} {a : Addr} {oe : Obj} {cls : Value} {d : Option Addr} {pn : List (Addr × Obj)} (hz : Zc cls d oe) (hf : ∃ vs, oe.data = .fields vs) : CallR (X.suite a ((a, oe) :: pn)) (.builtin "isinstance") (rIsX X.K a cls d) := by
  intro pins s σ H xs us Q I r h
  obtain ⟨c, cv, b, D, rfl, hcv, rfl, C, e, hd, q⟩ := h
  cases r with
  | cons rx rr =>
    cases rr with
    | cons rt rr =>
      cases rr
      cases rx
      have ec := hcv _ rt
      subst ec
      obtain ⟨hget, _⟩ := I.pin (a, oe) (List.mem_append.mpr (.inl List.mem_cons_self))
      obtain ⟨vs, hv⟩ := hf
      have J : ∃ od, PySem.W.InstAt s.heap a oe D od := by
        rcases hd with hd | ⟨dd, fs, hd, hxd⟩
        · exact ⟨none, hget, hz.1, by unfold PySem.W.notCls; rw [hv] <;> rfl, by rw [hz.2, hd]; trivial⟩
        · obtain ⟨mA, hns, _⟩ := (show ObjOk X.prog X.w H s.heap dd (.xd fs) from I.hok dd _ hxd)
          obtain ⟨od, ho, _⟩ := lookIn_ns hns
          exact ⟨some od, hget, hz.1, by unfold PySem.W.notCls; rw [hv] <;> rfl, by rw [hz.2, hd]; exact ho⟩
      obtain ⟨od, J⟩ := J
      have hcl : (PySem.W.clsIn X.K D).isSome = true := by
        obtain ⟨cd, hc, _⟩ := PySem.W.any_some C.hd
        rw [hc]
        rfl
      exact PySem.W.kia_one (PySem.W.kitx_exc hcl C.hg C.hk C.hs C.ha C.hn C.ht C.hm) I.kIn J e (fun z => nomatch z) fun tk => ⟨.bl b, H, I.kept (t' := tk) fun _ _ z => z, rfl, q⟩
/-! ### xs.count(True), a list of True and False -/
def eqb (v : Value) : Bool := match v with
  | .bool b => b
  | _ => false
theorem eqb_all {A : Around} {s : Shared} : ∀ {us : List Value} {bs : List Bool}, Vals (bs.map V.bl) us → (∀ y ∈ us, SeqAt.EqAt A s y (.bool true) (eqb y)) ∧ us.countP eqb = bs.count true
  | _, [], h => by
    cases h
    refine ⟨fun y hy => ?_, rfl⟩; cases hy
  | _, b :: bs, h => by
    cases h with
    | @cons _ u _ us r t =>
      obtain ⟨h1, h2⟩ := eqb_all (A := A) (s := s) t
      obtain rfl : u = Value.bool b := r
      refine ⟨fun y hy => ?_, ?_⟩
      · rcases List.mem_cons.mp hy with e | e
        · rw [e]
          have z := eqAt_V (A := A) (s := s) (y := .bl b) (x := .bl true) (u := .bool b) (v := .bool true) rfl rfl rfl rfl
          have e2 : eqV (.bl b) (.bl true) = eqb (.bool b) := by cases b <;> decide
          rw [e2] at z
          exact z
        · exact h1 y e
      · rw [List.countP_cons, List.count_cons, h2]
        cases b <;> rfl
def rCntB (K : PySem.W.Frag) : V → List V → Hp → VK → Prop := fun x xs H Q => ∃ (p : Addr) (bs : List Bool), x = .ref p ∧ xs = [.bl true] ∧ SqL K H p (bs.map V.bl) ∧ Q (.int (bs.count true : Nat)) H
theorem mt_countB {X : Cx} : MtR X "list.count" (rCntB X.K) := by
  intro pins s σ H x xs v us Q I rx rxs h
  obtain ⟨p, bs, rfl, rfl, hS, q⟩ := h
  cases rx
  obtain ⟨u, rfl, ru⟩ := rxs.one
  obtain rfl : u = Value.bool true := ru
  obtain ⟨its, r, ⟨⟨cls, dd, data, sl⟩, n, ho, hc, hdn, hd⟩, z⟩ := I.list hS
  simp only at hc hd
  subst hc hd
  refine call_meets PySem.F.slot_list_count ⟨_, ho, rfl⟩ PySem.F.entry_list_count (PySem.F.args_list_count_2 _ _) (SeqAt.list_countAt p its.toArray n dd sl (.bool true) eqb) ⟨ho, fun y hy => (eqb_all r).1 y (by simpa using hy), ?_⟩
  have ec : its.toArray.toList.countP eqb = bs.count true := (eqb_all (A := X.A) (s := s) r).2
  refine ⟨.int (bs.count true : Nat), H, I.tok _, ⟨s.toks, congrArg (fun n : Nat => Value.int (n : Int) s.toks) ec⟩, q⟩
/-! ### == and != of two instances of a class with its own __eq__, whatever it answers -/
theorem ns_someX {K : PySem.W.Frag} {h : Heap} {N : Addr} {m : Str → Option Value} {n : Str} {v : Value} (X : K.In h) (G : h.Ns N m) (e : PySem.W.nsIn K N n = some (some v)) : m n = some v := by
  obtain ⟨o, es, ep, ho, hd, _, hf⟩ := G
  unfold PySem.W.nsIn at e; split at e
  · rename_i c d es' n' sl q
    have z := X _ _ q; rw [ho] at z; cases z; cases hd
    split at e
    · rename_i ent he
      rw [← hf]; unfold nsFind findBy; rw [← Array.find?_toList, he]
      simpa using e
    · split at e <;> cases e
  · cases e
structure OwnEqC (K : PySem.W.Frag) (C f : Addr) : Prop where
  cls : ∃ nm q N bs hd sn sub ab col dd k0 k1 k2 k3 k5 newId, K.lookup C = some (excClassObj nm q C N bs [.type "object"] hd sn sub ab col dd k0 k1 k2 k3 k5 newId) ∧ PySem.W.nsIn K N "__eq__" = some (some (.ref f)) ∧ PySem.W.nsIn K N "__ne__" = some none ∧ PySem.W.nsOkIn K N = true
  fi : PySem.W.findIn K (.ref C) "__eq__" = some (some (.ref f))
  fn : PySem.W.isFn K (.ref f) = true
def rEqO (C : Addr) (sp : Sp) (fl : Bool → Bool) : R2 := fun x y H Q => ∃ a b dx dy fs gs, x = .ref a ∧ y = .ref b ∧ H a = some (.ins C dx fs) ∧ H b = some (.ins C dy gs) ∧ sp [.ref a, .ref b] H (fun v H' => ∃ r, v = .bl r ∧ Q (.bl (fl r)) H') E0
section
variable {X : Cx} {C f : Addr} {fd : FuncData} {ps : List Str} {sp : Sp} {k : Nat}
theorem call_eqO (F : FnOk X.prog X.w X.K X.mg X.base CX0 k f fd ps sp) (hb : Binds X.K fd ps []) {A : Around} (hr : Room k A) (hA : A.frames = X.A.frames) {pins : List (Addr × Obj)} {s : Shared} {σ : St} {H : Hp} {a b : Addr} {Q : VK} {E : Value → Shared → Prop} (I : Inv X pins σ H s) (hsp : sp [.ref a, .ref b] H Q E0) :
    wpAny (model X.prog X.w) A (call (.ref f) [.ref a, .ref b]) (EP X pins σ Q) E s := by
  have e0 : Env0 X.prog X.w X.K X.mg X.base A X.stack s H := by
    have e := I.env0
    exact ⟨by rw [hA]; exact e.frames, e.mod, e.bs, e.bsz, e.funs, e.frf, e.hok, e.bare⟩
  have hl := F.len _ _ _ _ hsp
  have r2 : Vals [V.ref a, V.ref b] [Value.ref a, Value.ref b] := .cons rfl (.cons rfl .nil)
  have hbd := hb s [.ref a, .ref b] I.kIn (by simpa using hl)
  rw [List.append_nil] at hbd
  refine wpAny_call (codeAny_mono (F.run A X.stack s H ⟨[.ref a, .ref b], []⟩ [.ref a, .ref b] [.ref a, .ref b] _ E0 hr e0 hbd r2 hsp) fun r s' hq => ?_)
  cases r with
  | error e => exact (show False from hq).elim
  | ok fl =>
    cases fl with
    | ret w => exact I.after hq
    | next => exact False.elim hq
    | brk => exact False.elim hq
    | cont => exact False.elim hq
theorem op_eqO (F : FnOk X.prog X.w X.K X.mg X.base CX0 k f fd ps sp) (T : OwnEqC X.K C f) (hb : Binds X.K fd ps []) (hr : Room k X.A) : OpR X (compareOp .Eq) (rEqO C sp id) := by
  intro pins s σ H x y v u Q I rx ry hq
  obtain ⟨a, b, dx, dy, fs, gs, rfl, rfl, ha, hb', hsp⟩ := hq
  cases rx
  cases ry
  obtain ⟨mA, J, _⟩ := ins_get I.hok ha
  obtain ⟨mB, J', _⟩ := ins_get I.hok hb'
  obtain ⟨od, J, _⟩ := J.look
  obtain ⟨od', J', _⟩ := J'.look
  obtain ⟨m, hF⟩ := I.fr
  show wpAny (model X.prog X.w) X.A (richCompare .Eq (.ref a) (.ref b)) (EP X pins σ Q) X.xe s
  refine PySem.W.cmp_K (op := .Eq) (tb := .ref C) hr.units0 hF I.ok.mod.kin J J'.type (by simp [PySem.W.notFirst]) T.fi T.fn ?_
  refine thn (call_eqO F hb hr rfl I hsp) fun w s' hw => ?_
  obtain ⟨z, H', I', rz, r, rfl, q⟩ := hw
  obtain rfl : w = Value.bool r := rz
  exact ⟨.bl r, H', I', rfl, q⟩
theorem op_neO (F : FnOk X.prog X.w X.K X.mg X.base CX0 k f fd ps sp) (T : OwnEqC X.K C f) (hb : Binds X.K fd ps []) (hr : Room (k + 1) X.A) : OpR X (compareOp .NotEq) (rEqO C sp not) := by
  intro pins s σ H x y v u Q I rx ry hq
  obtain ⟨a, b, dx, dy, fs, gs, rfl, rfl, ha, hb', hsp⟩ := hq
  cases rx
  cases ry
  obtain ⟨mA, J, _⟩ := ins_get I.hok ha
  obtain ⟨mB, J', _⟩ := ins_get I.hok hb'
  obtain ⟨od, J, _⟩ := J.look
  obtain ⟨od', J', _⟩ := J'.look
  obtain ⟨nm, q, N, bs, hd, sn, sub, ab, col, dd, k0, k1, k2, k3, k5, newId, hC, he, hn, hok⟩ := T.cls
  have KX := I.kIn
  obtain ⟨of, hof, hofc⟩ : ∃ of, s.heap.get? f = some of ∧ of.cls = .type "function" := by
    have z := T.fn
    unfold PySem.W.isFn at z
    cases e : X.K.lookup f with
    | none => simp [PySem.W.typeIn, e] at z
    | some of => exact ⟨of, KX _ _ e, by simpa [PySem.W.typeIn, e] using z⟩
  have hN := Heap.Ns.of_isNs (PySem.W.isNs_of_in KX hok)
  have h1 := ns_someX KX hN he
  have h2 := PySem.W.ns_none_of KX hN hn
  obtain ⟨hp, g, d, t, os⟩ := s
  refine compareOp_ne_ownEq (C := C) (f := f) PySem.F.cmp_object ⟨_, of, nm, q, N, bs, hd, sn, sub, ab, col, dd, k0, k1, k2, k3, k5, newId, _, _, J.at_, J.cls, KX _ _ hC, hN, h1, hof, hofc, PySem.F.mro_object, PySem.F.cmp_object.eq.lookup, h2⟩ J'.at_ J'.cls (hu_of hr) ?_
  refine thn (call_eqO F hb hr.in1 rfl I hsp) fun w s' hw => ?_
  obtain ⟨z, H', I', rz, r, rfl, q⟩ := hw
  obtain rfl : w = Value.bool r := rz
  exact ⟨r, rfl, .bl (!r), H', I', rfl, q⟩
end
end L2

namespace Half
open PySem PySem.Spec PyProof.Rows L2
def top (i : Nat) : Stmt := PySem.Challenge.pw_halfsetup_k01_editions_validated.main.body.getD i (.Pass ⟨0, 0, 0, 0⟩)
abbrev sTaken : Stmt := top 29
abbrev sPick : Stmt := top 30
/-- the row of draws: the script, how many of its cells were read, the seed, what is left of a great cell -/
def Row (K : PySem.W.Frag) (H : Hp) (r : Addr) : Prop := ∃ (a : Addr) (ns : List Int) (i g l : Int), H r = some (.lst [.ref a, .int i, .int g, .int l]) ∧ SqL K H a (ns.map V.int) ∧ ns.length ≤ 63 ∧ 0 ≤ i
/-- a draw: some number below the bound; the row alone is changed -/
def spTaken (K : PySem.W.Frag) : Sp := fun vs H Q _ => ∃ (r : Addr) (m : Int), vs = [.ref r, .int m] ∧ Row K H r ∧ 0 < m ∧ m < 1073741824 ∧
  ∀ (v : Int) (o : HO), 0 ≤ v → v < m → Row K (upd H r o) r → Q (.int v) (upd H r o)
theorem seqNe {K : PySem.W.Frag} {H : Hp} {r a : Addr} {o : HO} {xs : List V} (h : SqL K H a xs) (n : r ≠ a) : SqL K (upd H r o) a xs := by
  rcases h with (h | ⟨q, h⟩) | h
  · exact .inl (.inl (by rw [upd_ne (Ne.symm n)]; exact h))
  · exact .inl (.inr ⟨q, by rw [upd_ne (Ne.symm n)]; exact h⟩)
  · exact .inr h
theorem Row.seq {K : PySem.W.Frag} {H : Hp} {r a b : Addr} {o : HO} {ns : List Int} {l : List V} (hr : H r = some (.lst (.ref b :: l))) (h : SqL K H a (ns.map V.int)) : SqL K (upd H r o) a (ns.map V.int) := by
  have z : HO.lst (ns.map V.int) ≠ HO.lst (.ref b :: l) := fun z => by
    have z' : ns.map V.int = .ref b :: l := by injection z
    cases ns with
    | nil => cases z'
    | cons n ns => cases z'
  rcases h with (h | ⟨q, h⟩) | h
  · exact .inl (.inl (by rw [upd_ne (ne_of h hr z)]; exact h))
  · exact .inl (.inr ⟨q, by rw [upd_ne (ne_of h hr (fun w => by cases w))]; exact h⟩)
  · exact .inr h
structure TxtD (mg : Str → Option Value) : Prop where
  int : mg "int" = none
  len : mg "len" = none
section
variable {P : Program} {w : World} {K : PySem.W.Frag} {mg : Str → Option Value} {base : Heap}
theorem scTaken : FnScope ["_law_row", "_law_many", "_law_found", "_law_cell"] ["_law_row", "_law_many"] (defScope sTaken) := ⟨rfl, rfl, rfl, by decide +kernel, rfl, by decide +kernel, by decide +kernel⟩
theorem ok_taken {f : Addr} {fd : FuncData} (F : Fun K "_law_taken" "_law_taken" sTaken f fd) (T : TxtD mg) : FnOk P w K mg base CX0 1 f fd ["_law_row", "_law_many"] (spTaken K) := by
  refine F.ok scTaken (fun vs H Q E h => ?_) (fun cdv A outer s H vs Q E hr h => ?_)
  · obtain ⟨r, m, rfl, _⟩ := h
    rfl
  · obtain ⟨r, m, rfl, ⟨a, ns, i, g, l, hR, hS, hlen, hi⟩, hm0, hm1, k⟩ := h
    have nd := scTaken.nd
    refine ⟨_, pss_cons (ps_if (pt_cmpR op_gt (pe_ix ix_list (pv 0) pe_int (fun _ _ => rfl)) pe_int (nomark _))
        (pss_cons (ps_set (i := 2) nd rfl (Or.inl rfl) (pe_op op_mod (pe_callTy call_int1 (by rfl) T.int (by decide +kernel) (pa_cons (pe_ix ix_list (pv 0) pe_int (fun _ _ => rfl)) pa_nil)) (pv 1)))
        (pss_cons (ps_asg (pe_op op_fdiv (pe_ix ix_list (pv 0) pe_int (fun _ _ => rfl)) (pv 1)) (pg_sub (pv 0) pe_int set_list))
        (pss_one (ps_ret (pv 2))))) pss_nil)
      (pss_cons (ps_asg (pe_op op_add (pe_ix ix_list (pv 0) pe_int (fun _ _ => rfl)) pe_int) (pg_sub (pv 0) pe_int set_list))
      (pss_cons (ps_if (pt_cmpR op_gt (pe_ix ix_list (pv 0) pe_int (fun _ _ => rfl)) (pe_callB call_len_seq (by rfl) T.len PySem.boot_len (pa_cons (pe_ix ix_list (pv 0) pe_int (fun _ _ => rfl)) pa_nil)) (nomark _))
        (pss_cons (ps_asg (pe_op op_mod (pe_callTy call_int1 (by rfl) T.int (by decide +kernel) (pa_cons (pe_op op_add (pe_op op_mul (pe_ix ix_list (pv 0) pe_int (fun _ _ => rfl)) pe_int) pe_int) pa_nil)) pe_int) (pg_sub (pv 0) pe_int set_list))
        (pss_one (ps_ret (pe_op op_mod (pe_callTy call_int1 (by rfl) T.int (by decide +kernel) (pa_cons (pe_op op_fdiv (pe_ix ix_list (pv 0) pe_int (fun _ _ => rfl)) pe_int) pa_nil)) (pv 1))))) pss_nil)
      (pss_cons (ps_set (i := 3) nd rfl (Or.inl rfl) (pe_ix ix_list (pe_ix ix_list (pv 0) pe_int (fun _ _ => rfl)) (pe_op op_sub (pe_ix ix_list (pv 0) pe_int (fun _ _ => rfl)) pe_int) (fun _ _ => rfl)))
      (pss_cons (ps_asg (pe_op op_mod (pe_callTy call_int1 (by rfl) T.int (by decide +kernel) (pa_cons (pe_op op_add (pe_op op_add (pe_op op_mul (pe_ix ix_list (pv 0) pe_int (fun _ _ => rfl)) pe_int) (pv 3)) pe_int) pa_nil)) pe_int) (pg_sub (pv 0) pe_int set_list))
      (pss_cons (ps_asg (pe_ifExp (pt_cmpR op_ge (pv 3) (pe_op op_pow pe_int pe_int) (nomark _)) (pe_op op_fdiv (pv 3) (pv 1)) pe_int) (pg_sub (pv 0) pe_int set_list))
      (pss_one (ps_ret (pe_op op_mod (pe_callTy call_int1 (by rfl) T.int (by decide +kernel) (pa_cons (pv 3) pa_nil)) (pv 1))))))))), ?_⟩
    have mk : ∀ (i' g' l' : Int), 0 ≤ i' → ∀ o, o = HO.lst [.ref a, .int i', .int g', .int l'] → Row K (upd H r o) r := fun i' g' l' h o e => ⟨a, ns, i', g', l', by rw [upd_same, e], Row.seq hR hS, hlen, h⟩
    refine ⟨_, rfl, r, _, _, _, rfl, rfl, SqL.of hR, rfl, _, _, rfl, rfl, _, rfl, ?_⟩
    refine ite2 (fun c => ?_) (fun c => ?_)
    · refine ⟨_, rfl, r, _, _, _, rfl, rfl, SqL.of hR, rfl, .inl ⟨_, rfl, _, rfl, _, _, rfl, rfl, hm0, ?_⟩⟩
      refine ⟨_, rfl, r, _, _, _, rfl, rfl, SqL.of hR, rfl, _, rfl, _, _, rfl, rfl, ⟨hm0, hm1⟩, _, rfl, r, _, _, _, rfl, rfl, hR, rfl, ?_⟩
      refine ⟨_, rfl, ?_⟩
      exact k _ _ (Int.emod_nonneg _ (by omega)) (Int.emod_lt_of_pos _ hm0) (mk i g (l / m) hi _ rfl)
    · refine ⟨_, rfl, r, _, _, _, rfl, rfl, SqL.of hR, rfl, _, _, rfl, rfl, _, rfl, r, _, _, _, rfl, rfl, hR, rfl, ?_⟩
      have hR1 : ∀ o : HO, (upd H r o) r = some o := fun o => upd_same
      refine ⟨_, rfl, r, _, _, _, rfl, rfl, SqL.of (hR1 _), rfl, _, rfl, r, _, _, _, rfl, rfl, SqL.of (hR1 _), rfl, a, _, rfl, .inl (Row.seq hR hS), _, _, rfl, rfl, _, rfl, ?_⟩
      refine ite2 (fun c2 => ?_) (fun c2 => ?_)
      · refine ⟨_, rfl, r, _, _, _, rfl, rfl, SqL.of (hR1 _), rfl, _, _, rfl, rfl, .inr ⟨by decide, by decide⟩, _, _, rfl, rfl, .inl ⟨_, rfl, _, _, rfl, rfl, (by show (0 : Int) < 2147483647; decide), _, rfl, r, _, _, _, rfl, rfl, hR1 _, rfl, ?_⟩⟩
        rw [upd_upd]
        refine ⟨_, rfl, r, _, _, _, rfl, rfl, SqL.of (hR1 _), rfl, _, _, rfl, rfl, ⟨by decide, by decide⟩, .inl ⟨_, rfl, _, rfl, _, _, rfl, rfl, hm0, ?_⟩⟩
        exact k _ _ (Int.emod_nonneg _ (by omega)) (Int.emod_lt_of_pos _ hm0) (mk (i + 1) _ l (by omega) _ rfl)
      · have c3 : ¬ ((ns.map V.int).length : Int) < i + 1 := fun z => c2 (decide_eq_true z)
        rw [List.length_map] at c3
        have hin : i.toNat < ns.length := by omega
        have hat : atI (ns.map V.int) ((i + 1) - 1) = some (V.int ns[i.toNat]) := by
          have e : (i + 1) - 1 = ((i.toNat : Nat) : Int) := by omega
          rw [e]
          refine atI_nat ?_
          rw [List.getElem?_map, List.getElem?_eq_getElem hin]
          rfl
        refine ⟨_, rfl, r, _, _, _, rfl, rfl, SqL.of (hR1 _), rfl, _, rfl, r, _, _, _, rfl, rfl, SqL.of (hR1 _), rfl, _, _, rfl, rfl, a, _, _, _, rfl, rfl, Row.seq hR hS, hat, ?_⟩
        refine ⟨_, rfl, r, _, _, _, rfl, rfl, SqL.of (hR1 _), rfl, _, _, rfl, rfl, .inr ⟨by decide, by decide⟩, _, rfl, _, _, rfl, rfl, _, _, rfl, rfl, .inl ⟨_, rfl, _, _, rfl, rfl, (by show (0 : Int) < 2147483647; decide), _, rfl, r, _, _, _, rfl, rfl, hR1 _, rfl, ?_⟩⟩
        rw [upd_upd]
        refine ⟨_, rfl, _, _, rfl, rfl, ⟨by decide, by decide, by decide⟩, _, _, rfl, rfl, _, rfl, ?_⟩
        refine ite2 (fun c4 => ?_) (fun c4 => ?_)
        · refine ⟨_, rfl, _, rfl, _, _, rfl, rfl, ⟨hm0, hm1⟩, _, rfl, r, _, _, _, rfl, rfl, hR1 _, rfl, ?_⟩
          rw [upd_upd]
          refine ⟨_, rfl, .inl ⟨_, rfl, _, rfl, _, _, rfl, rfl, hm0, ?_⟩⟩
          exact k _ _ (Int.emod_nonneg _ (by omega)) (Int.emod_lt_of_pos _ hm0) (mk (i + 1) _ _ (by omega) _ rfl)
        · refine ⟨_, rfl, r, _, _, _, rfl, rfl, hR1 _, rfl, ?_⟩
          rw [upd_upd]
          refine ⟨_, rfl, .inl ⟨_, rfl, _, rfl, _, _, rfl, rfl, hm0, ?_⟩⟩
          exact k _ _ (Int.emod_nonneg _ (by omega)) (Int.emod_lt_of_pos _ hm0) (mk (i + 1) _ _ (by omega) _ rfl)
end
end Half

namespace Half
open PySem PySem.Spec PyProof.Rows L2
abbrev sWord : Stmt := top 3
abbrev sNumber : Stmt := top 4
abbrev sAscends : Stmt := top 5
abbrev sVersion : Stmt := top 21
abbrev sScripts : Stmt := top 22
abbrev sOthers : Stmt := top 23
abbrev sPair : Stmt := top 24
abbrev sNeeds : Stmt := top 25
/-! comprehensions that make one item of each -/
def MapP (H1 : Hp) (D : Addr) (ys : List V) : Nat → Hp → Prop := fun i H => Same H1 H ∧ H D = some (.lst (ys.take i))
theorem MapP.zero {H1 : Hp} {D : Addr} {ys : List V} (hD : H1 D = none) : MapP H1 D ys 0 (upd H1 D (.lst [])) :=
  ⟨fun b o e => by rw [upd_ne (ne_of_none e hD)]; exact e, upd_same⟩
theorem MapP.step {H1 H H4 : Hp} {D : Addr} {ys : List V} {i : Nat} {y : V} (p : MapP H1 D ys i H) (hD : H1 D = none) (hy : ys[i]? = some y) (hl : ys.length ≤ 1000) (e : Same H H4) :
    ∃ acc, H4 D = some (.lst acc) ∧ acc.length < sizeLine ∧ MapP H1 D ys (i + 1) (upd H4 D (.lst (acc ++ [y]))) := by
  refine ⟨_, e _ _ p.2, small1000 (by rw [List.length_take]; omega), fun b o q => ?_, ?_⟩
  · rw [upd_ne (ne_of_none q hD)]
    exact e _ _ (p.1 b o q)
  · rw [upd_same, List.take_add_one, hy]
    rfl
theorem MapP.done {H1 H : Hp} {D : Addr} {ys : List V} {n : Nat} (p : MapP H1 D ys n H) (hn : n = ys.length) : Same H1 H ∧ H D = some (.lst ys) := by
  refine ⟨p.1, ?_⟩
  rw [p.2, hn, List.take_length]
theorem iteNT {c A B : Prop} [Decidable c] (hc : ¬ c) (h : A) : if (!decide c) = true then A else B := by
  rw [decide_eq_false hc]
  exact iteT h
/-! the mirror -/
def LET : Str := "abcdefghijklmnopqrstuvwxyz"
def isWord (z : Str) : Bool := decide (1 ≤ (z.length : Int)) && decide ((z.length : Int) ≤ 8) && z.cps.toList.all fun c => decide (c ∈ LET.cps.toList)
/-- what the top says -/
structure TxtC (K : PySem.W.Frag) (mg : Str → Option Value) (fW fN fA fV fO fP : Addr) (tS : Addr) : Prop where
  d : TxtD mg
  isi : mg "isinstance" = none
  str : mg "str" = none
  boo : mg "bool" = none
  tup : mg "tuple" = none
  all : mg "all" = none
  ran : mg "range" = none
  lets : ∃ t, mg "LETTERS" = some (.str LET t)
  lon : ∃ t, mg "LONGEST_WORD" = some (.int 8 t)
section
variable {P : Program} {w : World} {K : PySem.W.Frag} {mg : Str → Option Value} {base : Heap} {fW fN fA fV fO fP tS : Addr}
def spWord : Sp := fun vs H Q _ => ∃ z : Str, vs = [.str z] ∧ z.length ≤ 1000 ∧ ∀ H', Same H H' → Q (.bl (isWord z)) H'
theorem scWord : FnScope ["text", "letter"] ["text"] (defScope sWord) := ⟨rfl, rfl, rfl, by decide +kernel, rfl, by decide +kernel, by decide +kernel⟩
theorem ok_word {f : Addr} {fd : FuncData} (F : Fun K "is_word" "is_word" sWord f fd) (T : TxtC K mg fW fN fA fV fO fP tS) : FnOk P w K mg base CX0 1 f fd ["text"] spWord := by
  refine F.ok scWord (fun vs H Q E h => ?_) (fun cdv A outer s H vs Q E hr h => ?_)
  · obtain ⟨z, rfl, _⟩ := h
    rfl
  · obtain ⟨z, rfl, hz, k⟩ := h
    obtain ⟨tl, gl⟩ := T.lets
    obtain ⟨t8, g8⟩ := T.lon
    have nd := scWord.nd
    refine ⟨_, pss_cons (ps_if (PW.pt (pw_or (pt_not (pt_val (pe_callB call_isi (by rfl) T.isi (by decide +kernel) (pa_cons (pv 0) (pa_cons (pe_bltn (v := .ty "str") (by rfl) T.str (by decide +kernel) rfl) pa_nil)))))
        (pw_or1 (pt_not (pt_chain op_le op_le pe_int (pe_callB call_len_str (by rfl) T.d.len PySem.boot_len (pa_cons (pv 0) pa_nil)) (pe_glob (v := .int 8) rfl g8 ⟨_, rfl⟩))))))
        (pss_one (ps_ret pe_bl)) pss_nil)
      (pss_one (ps_ret (pe_callB (cr_all rfl) (by rfl) T.all (by decide +kernel) (pa_cons
        (pe_lc (own := [("letter", 1)]) (g := gName 1) (tt := tYes) rfl nd (pi_str (pv 0)) (blkOk_by (N := ["text", "letter"]) (sc := defScope sWord) (by decide +kernel))
          (fun _ _ _ _ _ => pg_name (i := 1) nd rfl (Or.inl rfl)) (fun _ _ _ _ _ => pts_nil)
          (fun _ _ _ _ _ => pe_cmpR op_in_sign (pv 1) (pe_glob (v := .str LET) rfl gl ⟨_, rfl⟩) rfl)) pa_nil)))), ?_⟩
    refine ⟨_, rfl, _, _, _, _, _, rfl, .ty _, .base (.str _), kit_ty (r := true) (by decide +kernel), _, rfl, iteF ?_⟩
    refine ⟨_, rfl, _, rfl, Nat.le_trans hz (by decide), _, _, rfl, rfl, _, rfl, ?_⟩
    have bad : isWord z = false → Q (.bl false) H := fun e => by
      have q := k H (Same.refl H)
      rw [e] at q
      exact q
    refine ite2 (fun c1 => ?_) (fun c1 => ?_)
    · refine ⟨_, _, rfl, rfl, _, rfl, ?_⟩
      by_cases c2 : (z.length : Int) ≤ 8
      · refine iteNS c2 ?_
        refine ⟨_, rfl, z, rfl, fun D hD => lc_it walk_str (MapP H D (z.cps.toList.map fun c => V.bl (decide (c ∈ LET.cps.toList)))) (MapP.zero hD) (fun _ _ _ _ => trivial) ?_ ?_⟩
        · rintro i x H1 H2 hi p ⟨rfl, c, hc, rfl⟩
          refine ⟨rfl, _, rfl, c, _, rfl, rfl, ?_⟩
          refine p.step hD ?_ (by rw [List.length_map, Array.length_toList]; exact hz) (Same.refl _)
          rw [List.getElem?_map, Array.getElem?_toList, hc]
          rfl
        · intro H2 p
          obtain ⟨s2, hl⟩ := p.done (by rw [List.length_map, Array.length_toList])
          refine ⟨D, z.cps.toList.map fun c => decide (c ∈ LET.cps.toList), rfl, SqL.of (by rw [hl, List.map_map]; rfl), ?_⟩
          have e : isWord z = (z.cps.toList.map fun c => decide (c ∈ LET.cps.toList)).all id := by
            unfold isWord
            rw [c1, decide_eq_true c2, List.all_map]
            rfl
          rw [← e]
          exact k H2 s2
      · refine iteNT c2 ?_
        exact bad (by unfold isWord; rw [decide_eq_false c2, Bool.and_false, Bool.false_and])
    · have c1' : decide (1 ≤ (z.length : Int)) = false := by simpa using c1
      refine ⟨_, rfl, iteT ?_⟩
      exact bad (by unfold isWord; rw [c1', Bool.false_and, Bool.false_and])
end
end Half

namespace Half
open PySem PySem.Spec PyProof.Rows L2
/-! ### a def that is known by its promise -/
structure Def (P : Program) (w : World) (K : PySem.W.Frag) (mg : Str → Option Value) (base : Heap) (k : Nat) (x : Str) (ps : List Str) (sp : Sp) : Prop where
  ex : ∃ f fd, FnOk P w K mg base CX0 k f fd ps sp ∧ mg x = some (.ref f) ∧ PySem.W.keepIn K (.ref f) = true ∧ Binds K fd ps []
theorem pe_def {X : Cx} {k : Nat} {x : Str} {ps : List Str} {sp : Sp} {e : Expr} {es : List Expr} {t : TA} {p pos : Pos} (D : Def X.prog X.w X.K X.mg X.base k x ps sp) (hr : Room k X.A) (hg : Gl X x) (ha : PA X (e :: es) t)
    (hdb : (x == ("__debug__" : Str)) = false := by decide) (he : starEach (e :: es) X.env = (false, eval e X.env) :: starEach es X.env := by rfl) (hpl : (backTo pos (starEach es X.env)).any (·.1) = false := by rfl) :
    PE X (.Call (.Name x p) (e :: es) [] pos) (tCall sp [] E0 t) := by
  obtain ⟨f, fd, F, hm, hk, hb⟩ := D.ex
  exact pe_call F hr hg hm hk hb .nil pass0 ha hdb he hpl
theorem _root_.L2.Same.sqT {K : PySem.W.Frag} {H H' : Hp} {a : Addr} {xs : List V} (e : Same H H') (h : SqT K H a xs) : SqT K H' a xs := by
  rcases h with (h | ⟨o, h⟩) | h
  · exact .inl (.inl (e _ _ h))
  · exact .inl (.inr ⟨o, e _ _ h⟩)
  · exact .inr h
theorem tyT {K : PySem.W.Frag} {H : Hp} {a : Addr} {xs : List V} (h : SqT K H a xs) : TyX K H (.ref a) (.type "tuple") := by
  rcases h with (h | ⟨o, h⟩) | ⟨o, its, n, h1, h2, _⟩
  · exact .base (.tup h)
  · exact .fTuple h
  · exact .kTuple h1 h2
theorem _root_.L2.Same.upd_new {H : Hp} {p : Addr} {o : HO} (h : H p = none) : Same H (upd H p o) := fun b u e => by rw [upd_ne (ne_of_none e h)]; exact e
/-! ### the mirror -/
def inR (v : V) (lo hi : Int) : Bool := match v with
  | .int n => decide (lo ≤ n) && decide (n ≤ hi)
  | _ => false
def strLt (a b : Str) : Bool := decide (a.cps.toList < b.cps.toList)
def ascS (ss : List Str) : Bool := (List.range (ss.length - 1)).all fun i => strLt (ss.getD i "") (ss.getD (i + 1) "")
def SCR : List Str := ["clean", "enter", "leave", "setup"]
def areScripts (ss : List Str) : Bool := (ss.all fun z => inV (.str z) (SCR.map V.str)) && ascS ss
def areOthers (ss : List Str) (nm : Str) : Bool := (ss.all fun z => isWord z && !decide (V.str z = V.str nm)) && ascS ss
def areNeeds (ps : List (Str × Int)) (nm : Str) : Bool := (ps.all fun p => inR (.int p.2) 1 99) && areOthers (ps.map (·.1)) nm
/-- needs: a tuple of pairs -/
def NeedsAt (K : PySem.W.Frag) (H : Hp) (a : Addr) (ps : List (Str × Int)) : Prop := ∃ ts : List Addr, SqT K H a (ts.map V.ref) ∧ ts.length = ps.length ∧ ∀ (i : Nat) t p, ts[i]? = some t → ps[i]? = some p → SqT K H t [.str p.1, .int p.2]
theorem NeedsAt.same {K : PySem.W.Frag} {H H' : Hp} {a : Addr} {ps : List (Str × Int)} (e : Same H H') (h : NeedsAt K H a ps) : NeedsAt K H' a ps := by
  obtain ⟨ts, h1, h2, h3⟩ := h
  exact ⟨ts, e.sqT h1, h2, fun i t p q r => e.sqT (h3 i t p q r)⟩
/-! ### promises -/
def spNumber : Sp := fun vs H Q _ => ∃ (v : V) (lo hi : Int), vs = [v, .int lo, .int hi] ∧ ((∃ n, v = .int n) ∨ ∃ b, v = .bl b) ∧ Q (.bl (inR v lo hi)) H
def spVersion : Sp := fun vs H Q _ => ∃ v : V, vs = [v] ∧ ((∃ n, v = .int n) ∨ ∃ b, v = .bl b) ∧ Q (.bl (inR v 1 99)) H
def spAsc (K : PySem.W.Frag) : Sp := fun vs H Q _ => ∃ (a : Addr) (ss : List Str), vs = [.ref a] ∧ SqT K H a (ss.map V.str) ∧ ss.length ≤ 100 ∧ ∀ H', Same H H' → Q (.bl (ascS ss)) H'
def spScripts (K : PySem.W.Frag) : Sp := fun vs H Q _ => ∃ (a : Addr) (ss : List Str), vs = [.ref a] ∧ SqT K H a (ss.map V.str) ∧ ss.length ≤ 100 ∧ ∀ H', Same H H' → Q (.bl (areScripts ss)) H'
def spOthers (K : PySem.W.Frag) : Sp := fun vs H Q _ => ∃ (a : Addr) (ss : List Str) (nm : Str), vs = [.ref a, .str nm] ∧ SqT K H a (ss.map V.str) ∧ ss.length ≤ 100 ∧ (∀ z ∈ ss, z.length ≤ 1000) ∧ ∀ H', Same H H' → Q (.bl (areOthers ss nm)) H'
def spPair (K : PySem.W.Frag) : Sp := fun vs H Q _ => ∃ (t : Addr) (n : Str) (v : Int), vs = [.ref t] ∧ SqT K H t [.str n, .int v] ∧ Q (.bl (inR (.int v) 1 99)) H
def spNeeds (K : PySem.W.Frag) : Sp := fun vs H Q _ => ∃ (a : Addr) (ps : List (Str × Int)) (nm : Str), vs = [.ref a, .str nm] ∧ NeedsAt K H a ps ∧ ps.length ≤ 100 ∧ (∀ p ∈ ps, p.1.length ≤ 1000) ∧ ∀ H', Same H H' → Q (.bl (areNeeds ps nm)) H'
structure TxtE (K : PySem.W.Frag) (mg : Str → Option Value) : Prop where
  d : TxtD mg
  isi : mg "isinstance" = none
  str : mg "str" = none
  boo : mg "bool" = none
  tup : mg "tuple" = none
  all : mg "all" = none
  ran : mg "range" = none
  lv : ∃ t, mg "LEAST_VERSION" = some (.int 1 t)
  mv : ∃ t, mg "MOST_VERSION" = some (.int 99 t)
  scr : ∃ a, mg "SCRIPTS" = some (.ref a) ∧ ∀ H, SqT K H a (SCR.map V.str)
section
variable {P : Program} {w : World} {K : PySem.W.Frag} {mg : Str → Option Value} {base : Heap}
theorem scNumber : FnScope ["value", "least", "most"] ["value", "least", "most"] (defScope sNumber) := ⟨rfl, rfl, rfl, by decide +kernel, rfl, by decide +kernel, by decide +kernel⟩
theorem ok_number {f : Addr} {fd : FuncData} (F : Fun K "is_number" "is_number" sNumber f fd) (T : TxtE K mg) : FnOk P w K mg base CX0 1 f fd ["value", "least", "most"] spNumber := by
  refine F.ok scNumber (fun vs H Q E h => ?_) (fun cdv A outer s H vs Q E hr h => ?_)
  · obtain ⟨v, lo, hi, rfl, _⟩ := h
    rfl
  · obtain ⟨v, lo, hi, rfl, hv, k⟩ := h
    refine ⟨_, pss_cons (ps_if (PW.pt (pw_or (pt_val (pe_callB call_isi (by rfl) T.isi (by decide +kernel) (pa_cons (pv 0) (pa_cons (pe_bltn (v := .ty "bool") (by rfl) T.boo (by decide +kernel) rfl) pa_nil))))
        (pw_or1 (pt_not (pt_val (pe_callB call_isi (by rfl) T.isi (by decide +kernel) (pa_cons (pv 0) (pa_cons (pe_bltn (v := .ty "int") (by rfl) T.d.int (by decide +kernel) rfl) pa_nil))))))))
        (pss_one (ps_ret pe_bl)) pss_nil)
      (pss_one (ps_ret (pe_chain op_le op_le (pv 1) (pv 0) (pv 2)))), ?_⟩
    rcases hv with ⟨n, rfl⟩ | ⟨b, rfl⟩
    · refine ⟨_, rfl, _, _, _, _, _, rfl, .ty _, .base (.int _), kit_ty (r := false) (by decide +kernel), _, rfl, ?_⟩
      refine iteF ?_
      refine ⟨_, rfl, _, _, _, _, _, rfl, .ty _, .base (.int _), kit_ty (r := true) (by decide +kernel), _, rfl, ?_⟩
      refine iteF ?_
      refine ⟨_, rfl, _, rfl, _, _, rfl, rfl, _, rfl, ?_⟩
      refine ite2 (fun c => ?_) (fun c => ?_)
      · refine ⟨_, rfl, _, _, rfl, rfl, ?_⟩
        have e : inR (.int n) lo hi = decide (n ≤ hi) := by show (decide (lo ≤ n) && decide (n ≤ hi)) = _; rw [c, Bool.true_and]
        rw [e] at k
        exact k
      · have c' : decide (lo ≤ n) = false := by simpa using c
        have e : inR (.int n) lo hi = false := by show (decide (lo ≤ n) && decide (n ≤ hi)) = _; rw [c', Bool.false_and]
        rw [e] at k
        exact k
    · refine ⟨_, rfl, _, _, _, _, _, rfl, .ty _, .base (.bl _), kit_ty (r := true) (by decide +kernel), _, rfl, ?_⟩
      exact k
theorem scVersion : FnScope ["value"] ["value"] (defScope sVersion) := ⟨rfl, rfl, rfl, by decide +kernel, rfl, by decide +kernel, by decide +kernel⟩
theorem ok_version {f : Addr} {fd : FuncData} (F : Fun K "is_version" "is_version" sVersion f fd) (T : TxtE K mg) (dN : Def P w K mg base 1 "is_number" ["value", "least", "most"] spNumber) : FnOk P w K mg base CX0 2 f fd ["value"] spVersion := by
  refine F.ok scVersion (fun vs H Q E h => ?_) (fun cdv A outer s H vs Q E hr h => ?_)
  · obtain ⟨v, rfl, _⟩ := h
    rfl
  · obtain ⟨v, rfl, hv, k⟩ := h
    obtain ⟨t1, g1⟩ := T.lv
    obtain ⟨t2, g2⟩ := T.mv
    refine ⟨_, pss_one (ps_ret (pe_def dN hr rfl (pa_cons (pv 0) (pa_cons (pe_glob (v := .int 1) rfl g1 ⟨_, rfl⟩) (pa_cons (pe_glob (v := .int 99) rfl g2 ⟨_, rfl⟩) pa_nil))))), ?_⟩
    exact ⟨_, rfl, v, 1, 99, rfl, hv, k⟩
theorem scAsc : FnScope ["values", "at"] ["values"] (defScope sAscends) := ⟨rfl, rfl, rfl, by decide +kernel, rfl, by decide +kernel, by decide +kernel⟩
theorem ok_asc {f : Addr} {fd : FuncData} (F : Fun K "ascends" "ascends" sAscends f fd) (T : TxtE K mg) : FnOk P w K mg base CX0 1 f fd ["values"] (spAsc K) := by
  refine F.ok scAsc (fun vs H Q E h => ?_) (fun cdv A outer s H vs Q E hr h => ?_)
  · obtain ⟨a, ss, rfl, _⟩ := h
    rfl
  · obtain ⟨a, ss, rfl, hS, hl, k⟩ := h
    have nd := scAsc.nd
    refine ⟨_, pss_one (ps_ret (pe_callB (cr_all rfl) (by rfl) T.all (by decide +kernel) (pa_cons
        (pe_lc (own := [("at", 1)]) (g := gName 1) (tt := tYes) rfl nd (pi_range2 (by rfl) T.ran (pa_cons pe_int (pa_cons (pe_callB call_len_seq (by rfl) T.d.len PySem.boot_len (pa_cons (pv 0) pa_nil)) pa_nil))) (blkOk_by (N := ["values", "at"]) (sc := defScope sAscends) (by decide +kernel))
          (fun _ _ _ _ _ => pg_name (i := 1) nd rfl (Or.inl rfl)) (fun _ _ _ _ _ => pts_nil)
          (fun _ _ _ _ _ => pe_cmpR op_lt_str (pe_ix (ix_tup : IxR _ (rIxT K)) (pv 0) (pe_op op_sub (pv 1) pe_int) (fun _ _ => rfl)) (pe_ix (ix_tup : IxR _ (rIxT K)) (pv 0) (pv 1) (fun _ _ => rfl)) (nomark _))) pa_nil))), ?_⟩
    have hlm : (ss.map V.str).length = ss.length := List.length_map ..
    have hn : (((ss.map V.str).length : Int) - 1).toNat = ss.length - 1 := by omega
    refine ⟨_, rfl, a, _, rfl, .inr hS, 1, _, rfl, ⟨by decide, by decide, by omega, by omega⟩, ?_⟩
    rw [hn]
    refine fun D hD => lc_it walk_range (MapP H D ((List.range (ss.length - 1)).map fun i => V.bl (strLt (ss.getD i "") (ss.getD (i + 1) "")))) (MapP.zero hD) (fun _ _ _ _ => trivial) ?_ ?_
    · rintro i x H1 H2 hi p ⟨rfl, rfl⟩
      have e1 : atI (ss.map V.str) ((1 + (i : Int)) - 1) = some (V.str (ss.getD i "")) := by
        have e : (1 + (i : Int)) - 1 = ((i : Nat) : Int) := by omega
        rw [e]
        refine atI_nat ?_
        rw [List.getElem?_map, List.getD_eq_getElem?_getD, List.getElem?_eq_getElem (by omega)]
        rfl
      have e2 : atI (ss.map V.str) (1 + (i : Int)) = some (V.str (ss.getD (i + 1) "")) := by
        have e : (1 + (i : Int)) = ((i + 1 : Nat) : Int) := by omega
        rw [e]
        refine atI_nat ?_
        rw [List.getElem?_map, List.getD_eq_getElem?_getD, List.getElem?_eq_getElem (by omega)]
        rfl
      refine ⟨rfl, _, rfl, _, rfl, _, _, rfl, rfl, a, _, _, _, rfl, rfl, p.1.sqT hS, e1, _, rfl, _, rfl, a, _, _, _, rfl, rfl, p.1.sqT hS, e2, _, _, rfl, rfl, ?_⟩
      refine p.step hD ?_ (by rw [List.length_map, List.length_range]; omega) (Same.refl _)
      rw [List.getElem?_map, List.getElem?_range hi]
      rfl
    · intro H2 p
      obtain ⟨s2, hl2⟩ := p.done (by rw [List.length_map, List.length_range])
      refine ⟨D, (List.range (ss.length - 1)).map fun i => strLt (ss.getD i "") (ss.getD (i + 1) ""), rfl, SqL.of (by rw [hl2, List.map_map]; rfl), ?_⟩
      have e : ascS ss = ((List.range (ss.length - 1)).map fun i => strLt (ss.getD i "") (ss.getD (i + 1) "")).all id := by
        rw [List.all_map]
        rfl
      rw [← e]
      exact k H2 s2
end
end Half

namespace Half
open PySem PySem.Spec PyProof.Rows L2
theorem all_map_bl {α : Type} (l : List α) (f : α → Bool) : (l.map f).all id = l.all f := by rw [List.all_map]; rfl
theorem flat_strs (l : List Str) : (l.map V.str).all flatV = true := by
  rw [List.all_map, List.all_eq_true]
  intro x _
  rfl
theorem getE {α : Type} {l : List α} {i : Nat} {β : Type} {f : α → β} {y : β} (h : (l.map f)[i]? = some y) : ∃ a, l[i]? = some a ∧ y = f a := by
  rw [List.getElem?_map] at h
  cases e : l[i]? with
  | none => rw [e] at h; cases h
  | some a => rw [e] at h; exact ⟨a, rfl, (Option.some.inj h).symm⟩
section
variable {P : Program} {w : World} {K : PySem.W.Frag} {mg : Str → Option Value} {base : Heap}
theorem scScripts : FnScope ["values", "value"] ["values"] (defScope sScripts) := ⟨rfl, rfl, rfl, by decide +kernel, rfl, by decide +kernel, by decide +kernel⟩
theorem ok_scripts {f : Addr} {fd : FuncData} (F : Fun K "are_scripts" "are_scripts" sScripts f fd) (T : TxtE K mg) (dA : Def P w K mg base 1 "ascends" ["values"] (spAsc K)) : FnOk P w K mg base CX0 2 f fd ["values"] (spScripts K) := by
  refine F.ok scScripts (fun vs H Q E h => ?_) (fun cdv A outer s H vs Q E hr h => ?_)
  · obtain ⟨a, ss, rfl, _⟩ := h
    rfl
  · obtain ⟨a, ss, rfl, hS, hl, k⟩ := h
    have nd := scScripts.nd
    obtain ⟨aS, gS, hSC⟩ := T.scr
    refine ⟨_, pss_cons (ps_if (pt_not (pt_val (pe_callB call_isi (by rfl) T.isi (by decide +kernel) (pa_cons (pv 0) (pa_cons (pe_bltn (v := .ty "tuple") (by rfl) T.tup (by decide +kernel) rfl) pa_nil)))))
        (pss_one (ps_ret pe_bl)) pss_nil)
      (pss_one (ps_ret (pe_and (pe_callB (cr_all rfl) (by rfl) T.all (by decide +kernel) (pa_cons
        (pe_lc (own := [("value", 1)]) (g := gName 1) (tt := tYes) rfl nd (pi_tup (pv 0)) (blkOk_by (N := ["values", "value"]) (sc := defScope sScripts) (by decide +kernel))
          (fun _ _ _ _ _ => pg_name (i := 1) nd rfl (Or.inl rfl)) (fun _ _ _ _ _ => pts_nil)
          (fun _ _ _ _ _ => pe_cmpR (op_in_seq : OpR _ _ (rIn K false)) (pv 1) (pe_glob (v := .ref aS) rfl gS rfl) (by rfl))) pa_nil))
        (pe_one (pe_def dA hr rfl (pa_cons (pv 0) pa_nil)))))), ?_⟩
    refine ⟨_, rfl, _, _, _, _, _, rfl, .ty _, tyT hS, kit_ty (r := true) (by decide +kernel), _, rfl, ?_⟩
    refine iteF ?_
    refine ⟨_, rfl, a, rfl, ⟨_, hS⟩, fun D hD => lc_it (walk_tup (xs := ss.map V.str)) (MapP H D (ss.map fun z => V.bl (inV (.str z) (SCR.map V.str)))) (MapP.zero hD) (fun _ _ _ p => p.1.sqT hS) ?_ ?_⟩
    · rintro i x H1 H2 hi p ⟨rfl, hx⟩
      obtain ⟨z, hz, rfl⟩ := getE hx
      refine ⟨rfl, _, rfl, aS, _, rfl, .inr (hSC _), rfl, flat_strs _, ?_⟩
      refine p.step hD ?_ (by rw [List.length_map]; omega) (Same.refl _)
      rw [List.getElem?_map, hz]
      rfl
    · intro H2 p
      obtain ⟨s2, hl2⟩ := p.done (by rw [List.length_map, List.length_map])
      refine ⟨D, ss.map fun z => inV (.str z) (SCR.map V.str), rfl, SqL.of (by rw [hl2, List.map_map]; rfl), _, rfl, ?_⟩
      rw [all_map_bl]
      refine ite2 (fun c => ?_) (fun c => ?_)
      · refine ⟨_, rfl, a, ss, rfl, s2.sqT hS, hl, fun H3 s3 => ?_⟩
        have e : areScripts ss = ascS ss := by unfold areScripts; rw [c, Bool.true_and]
        rw [← e]
        exact k H3 (s2.trans s3)
      · have c' : (ss.all fun z => inV (.str z) (SCR.map V.str)) = false := by simpa using c
        have e : areScripts ss = false := by unfold areScripts; rw [c', Bool.false_and]
        rw [← e]
        exact k H2 s2
theorem scOthers : FnScope ["values", "name", "value"] ["values", "name"] (defScope sOthers) := ⟨rfl, rfl, rfl, by decide +kernel, rfl, by decide +kernel, by decide +kernel⟩
theorem ok_others {f : Addr} {fd : FuncData} (F : Fun K "are_other_names" "are_other_names" sOthers f fd) (T : TxtE K mg) (dA : Def P w K mg base 1 "ascends" ["values"] (spAsc K)) (dW : Def P w K mg base 1 "is_word" ["text"] spWord) : FnOk P w K mg base CX0 2 f fd ["values", "name"] (spOthers K) := by
  refine F.ok scOthers (fun vs H Q E h => ?_) (fun cdv A outer s H vs Q E hr h => ?_)
  · obtain ⟨a, ss, nm, rfl, _⟩ := h
    rfl
  · obtain ⟨a, ss, nm, rfl, hS, hl, hw, k⟩ := h
    have nd := scOthers.nd
    refine ⟨_, pss_cons (ps_if (pt_not (pt_val (pe_callB call_isi (by rfl) T.isi (by decide +kernel) (pa_cons (pv 0) (pa_cons (pe_bltn (v := .ty "tuple") (by rfl) T.tup (by decide +kernel) rfl) pa_nil)))))
        (pss_one (ps_ret pe_bl)) pss_nil)
      (pss_one (ps_ret (pe_and (pe_callB (cr_all rfl) (by rfl) T.all (by decide +kernel) (pa_cons
        (pe_lc (own := [("value", 2)]) (g := gName 2) (tt := tYes) rfl nd (pi_tup (pv 0)) (blkOk_by (N := ["values", "name", "value"]) (sc := defScope sOthers) (by decide +kernel))
          (fun _ _ _ _ _ => pg_name (i := 2) nd rfl (Or.inl rfl)) (fun _ _ _ _ _ => pts_nil)
          (fun _ _ _ _ _ => pe_and (pe_def dW hr rfl (pa_cons (pv 2) pa_nil)) (pe_one (pe_cmpR op_ne (pv 2) (pv 1) (nomark _))))) pa_nil))
        (pe_one (pe_def dA hr rfl (pa_cons (pv 0) pa_nil)))))), ?_⟩
    refine ⟨_, rfl, _, _, _, _, _, rfl, .ty _, tyT hS, kit_ty (r := true) (by decide +kernel), _, rfl, ?_⟩
    refine iteF ?_
    refine ⟨_, rfl, a, rfl, ⟨_, hS⟩, fun D hD => lc_it (walk_tup (xs := ss.map V.str)) (MapP H D (ss.map fun z => V.bl (isWord z && !decide (V.str z = V.str nm)))) (MapP.zero hD) (fun _ _ _ p => p.1.sqT hS) ?_ ?_⟩
    · rintro i x H1 H2 hi p ⟨rfl, hx⟩
      obtain ⟨z, hz, rfl⟩ := getE hx
      refine ⟨rfl, _, rfl, z, rfl, hw z (List.mem_of_getElem? hz), fun H3 s3 => ⟨_, rfl, ?_⟩⟩
      have fin : ∀ b, b = (isWord z && !decide (V.str z = V.str nm)) → ∃ acc, H3 D = some (.lst acc) ∧ acc.length < sizeLine ∧ MapP H D (ss.map fun z => V.bl (isWord z && !decide (V.str z = V.str nm))) (i + 1) (upd H3 D (.lst (acc ++ [V.bl b]))) := fun b e => by
        refine p.step hD ?_ (by rw [List.length_map]; omega) s3
        rw [List.getElem?_map, hz, e]
        rfl
      refine ite2 (fun c => ?_) (fun c => ?_)
      · refine ⟨_, rfl, _, rfl, rfl, ?_⟩
        exact fin _ (by rw [c, Bool.true_and])
      · have c' : isWord z = false := by simpa using c
        exact fin _ (by rw [c', Bool.false_and])
    · intro H2 p
      obtain ⟨s2, hl2⟩ := p.done (by rw [List.length_map, List.length_map])
      refine ⟨D, ss.map fun z => (isWord z && !decide (V.str z = V.str nm)), rfl, SqL.of (by rw [hl2, List.map_map]; rfl), _, rfl, ?_⟩
      rw [all_map_bl]
      refine ite2 (fun c => ?_) (fun c => ?_)
      · refine ⟨_, rfl, a, ss, rfl, s2.sqT hS, hl, fun H3 s3 => ?_⟩
        have e : areOthers ss nm = ascS ss := by unfold areOthers; rw [c, Bool.true_and]
        rw [← e]
        exact k H3 (s2.trans s3)
      · have c' : (ss.all fun z => (isWord z && !decide (V.str z = V.str nm))) = false := by simpa using c
        have e : areOthers ss nm = false := by unfold areOthers; rw [c', Bool.false_and]
        rw [← e]
        exact k H2 s2
theorem scPair : FnScope ["value"] ["value"] (defScope sPair) := ⟨rfl, rfl, rfl, by decide +kernel, rfl, by decide +kernel, by decide +kernel⟩
theorem ok_pair {f : Addr} {fd : FuncData} (F : Fun K "is_pair_with_version" "is_pair_with_version" sPair f fd) (T : TxtE K mg) (dV : Def P w K mg base 2 "is_version" ["value"] spVersion) : FnOk P w K mg base CX0 3 f fd ["value"] (spPair K) := by
  refine F.ok scPair (fun vs H Q E h => ?_) (fun cdv A outer s H vs Q E hr h => ?_)
  · obtain ⟨t, n, v, rfl, _⟩ := h
    rfl
  · obtain ⟨t, n, v, rfl, hS, k⟩ := h
    refine ⟨_, pss_one (ps_ret (pe_and (pe_callB call_isi (by rfl) T.isi (by decide +kernel) (pa_cons (pv 0) (pa_cons (pe_bltn (v := .ty "tuple") (by rfl) T.tup (by decide +kernel) rfl) pa_nil)))
      (pe_and (pe_cmpR op_eq (pe_callB call_len_seq (by rfl) T.d.len PySem.boot_len (pa_cons (pv 0) pa_nil)) pe_int (nomark _))
        (pe_one (pe_def dV hr rfl (pa_cons (pe_ix ix_tup (pv 0) pe_int (fun _ _ => rfl)) pa_nil)))))), ?_⟩
    refine ⟨_, rfl, _, _, _, _, _, rfl, .ty _, tyT hS, kit_ty (r := true) (by decide +kernel), _, rfl, ?_⟩
    refine iteT ?_
    refine ⟨_, rfl, t, _, rfl, .inr hS, rfl, true, rfl, ?_⟩
    refine iteT ?_
    exact ⟨_, rfl, t, _, _, _, rfl, rfl, hS, rfl, _, rfl, .inl ⟨_, rfl⟩, k⟩
theorem scNeeds : FnScope ["values", "name", "value"] ["values", "name"] (defScope sNeeds) := ⟨rfl, rfl, rfl, by decide +kernel, rfl, by decide +kernel, by decide +kernel⟩
theorem ok_needs {f : Addr} {fd : FuncData} (F : Fun K "are_needs" "are_needs" sNeeds f fd) (T : TxtE K mg) (dP : Def P w K mg base 3 "is_pair_with_version" ["value"] (spPair K)) (dO : Def P w K mg base 2 "are_other_names" ["values", "name"] (spOthers K)) : FnOk P w K mg base CX0 4 f fd ["values", "name"] (spNeeds K) := by
  refine F.ok scNeeds (fun vs H Q E h => ?_) (fun cdv A outer s H vs Q E hr h => ?_)
  · obtain ⟨a, ps, nm, rfl, _⟩ := h
    rfl
  · obtain ⟨a, ps, nm, rfl, hN, hl, hw, k⟩ := h
    have nd := scNeeds.nd
    obtain ⟨ts, hS, htl, hts⟩ := id hN
    refine ⟨_, pss_cons (ps_if (PW.pt (pw_or (pt_not (pt_val (pe_callB call_isi (by rfl) T.isi (by decide +kernel) (pa_cons (pv 0) (pa_cons (pe_bltn (v := .ty "tuple") (by rfl) T.tup (by decide +kernel) rfl) pa_nil)))))
        (pw_or1 (pt_not (pt_val (pe_callB (cr_all rfl) (by rfl) T.all (by decide +kernel) (pa_cons
          (pe_lc (own := [("value", 2)]) (g := gName 2) (tt := tYes) rfl nd (pi_tup (pv 0)) (blkOk_by (N := ["values", "name", "value"]) (sc := defScope sNeeds) (by decide +kernel))
            (fun _ _ _ _ _ => pg_name (i := 2) nd rfl (Or.inl rfl)) (fun _ _ _ _ _ => pts_nil)
            (fun _ _ _ _ _ => pe_def dP hr rfl (pa_cons (pv 2) pa_nil))) pa_nil)))))))
        (pss_one (ps_ret pe_bl)) pss_nil)
      (pss_one (ps_ret (pe_def dO (hr.mono (by decide)) rfl (pa_cons (pe_callTy call_tuple_of (by rfl) T.tup (by decide +kernel) (pa_cons
          (pe_lc (own := [("value", 2)]) (g := gName 2) (tt := tYes) rfl nd (pi_tup (pv 0)) (blkOk_by (N := ["values", "name", "value"]) (sc := defScope sNeeds) (by decide +kernel))
            (fun _ _ _ _ _ => pg_name (i := 2) nd rfl (Or.inl rfl)) (fun _ _ _ _ _ => pts_nil)
            (fun _ _ _ _ _ => pe_ix (ix_tup : IxR _ (rIxT K)) (pv 2) pe_int (fun _ _ => rfl))) pa_nil)) (pa_cons (pv 1) pa_nil))))), ?_⟩
    refine ⟨_, rfl, _, _, _, _, _, rfl, .ty _, tyT hS, kit_ty (r := true) (by decide +kernel), _, rfl, ?_⟩
    refine iteF ?_
    refine ⟨_, rfl, a, rfl, ⟨_, hS⟩, fun D hD => lc_it (walk_tup (xs := ts.map V.ref)) (MapP H D (ps.map fun p => V.bl (inR (.int p.2) 1 99))) (MapP.zero hD) (fun _ _ _ p => p.1.sqT hS) ?_ ?_⟩
    · rintro i x H1 H2 hi p ⟨rfl, hx⟩
      obtain ⟨t, ht, rfl⟩ := getE hx
      have hip : i < ps.length := by rw [List.length_map] at hi; omega
      refine ⟨rfl, _, rfl, t, _, _, rfl, p.1.sqT (hts i t _ ht (List.getElem?_eq_getElem hip)), ?_⟩
      refine p.step hD ?_ (by rw [List.length_map]; omega) (Same.refl _)
      rw [List.getElem?_map, List.getElem?_eq_getElem hip]
      rfl
    · intro H2 p
      obtain ⟨s2, hl2⟩ := p.done (by rw [List.length_map, List.length_map, htl])
      refine ⟨D, ps.map fun p => inR (.int p.2) 1 99, rfl, SqL.of (by rw [hl2, List.map_map]; rfl), _, rfl, ?_⟩
      rw [all_map_bl]
      cases c : (ps.all fun p => inR (.int p.2) 1 99) with
      | false =>
        refine iteT ?_
        have e : areNeeds ps nm = false := by unfold areNeeds; rw [c, Bool.false_and]
        have q := k H2 s2
        rw [e] at q
        exact q
      | true =>
        refine iteF ?_
        refine ⟨_, rfl, a, rfl, ⟨_, s2.sqT hS⟩, fun D2 hD2 => lc_it (walk_tup (xs := ts.map V.ref)) (MapP H2 D2 (ps.map fun p => V.str p.1)) (MapP.zero hD2) (fun _ _ _ p => (s2.trans p.1).sqT hS) ?_ ?_⟩
        · rintro i x H3 H4 hi p2 ⟨rfl, hx⟩
          obtain ⟨t, ht, rfl⟩ := getE hx
          have hip : i < ps.length := by rw [List.length_map] at hi; omega
          refine ⟨rfl, _, rfl, t, _, _, _, rfl, rfl, (s2.trans p2.1).sqT (hts i t _ ht (List.getElem?_eq_getElem hip)), rfl, ?_⟩
          refine p2.step hD2 ?_ (by rw [List.length_map]; omega) (Same.refl _)
          rw [List.getElem?_map, List.getElem?_eq_getElem hip]
          rfl
        · intro H3 p2
          obtain ⟨s3, hl3⟩ := p2.done (by rw [List.length_map, List.length_map, htl])
          refine ⟨D2, _, rfl, .inl ⟨SqL.of hl3, fun tp htp => ⟨_, rfl, tp, ps.map (·.1), nm, rfl, .inl (.inl ?_), ?_, ?_, fun H5 s5 => ?_⟩⟩⟩
          · rw [upd_same, List.map_map]
            rfl
          · rw [List.length_map]
            exact hl
          · intro z hz
            obtain ⟨p, hp, rfl⟩ := List.mem_map.mp hz
            exact hw p hp
          · have e : areNeeds ps nm = areOthers (ps.map (·.1)) nm := by unfold areNeeds; rw [c, Bool.true_and]
            rw [← e]
            exact k H5 (s2.trans (s3.trans ((Same.upd_new htp).trans s5)))
end
end Half

namespace Half
open PySem PySem.Spec PyProof.Rows L2
abbrev sWrong : Stmt := top 26
/-- an edition's parameters -/
structure Ed where
  name : Str
  version : V
  scripts : List Str
  needs : List (Str × Int)
  first : List (Str × Int)
  against : List Str
def Ed.checks (e : Ed) : List (Str × Bool) := [("name", isWord e.name), ("version", inR e.version 1 99), ("scripts", areScripts e.scripts), ("needs", areNeeds e.needs e.name), ("first", areNeeds e.first e.name), ("against", areOthers e.against e.name)]
def Ed.wrong (e : Ed) : Option Str := (e.checks.find? fun q => !q.2).map (·.1)
def optV : Option Str → V
  | none => .non
  | some x => .str x
/-- sizes that no check is beyond -/
structure Ed.Small (e : Ed) : Prop where
  name : e.name.length ≤ 1000
  version : (∃ n, e.version = .int n) ∨ ∃ b, e.version = .bl b
  scripts : e.scripts.length ≤ 100
  needs : e.needs.length ≤ 100 ∧ ∀ p ∈ e.needs, p.1.length ≤ 1000
  first : e.first.length ≤ 100 ∧ ∀ p ∈ e.first, p.1.length ≤ 1000
  against : e.against.length ≤ 100 ∧ ∀ z ∈ e.against, z.length ≤ 1000
/-- its six values -/
structure EdAt (K : PySem.W.Frag) (H : Hp) (e : Ed) (s n f g : Addr) : Prop where
  scripts : SqT K H s (e.scripts.map V.str)
  needs : NeedsAt K H n e.needs
  first : NeedsAt K H f e.first
  against : SqT K H g (e.against.map V.str)
theorem EdAt.same {K : PySem.W.Frag} {H H' : Hp} {e : Ed} {s n f g : Addr} (S : Same H H') (h : EdAt K H e s n f g) : EdAt K H' e s n f g :=
  ⟨S.sqT h.scripts, h.needs.same S, h.first.same S, S.sqT h.against⟩
theorem find_first {l : List (Str × Bool)} {i : Nat} {p : Str × Bool} (h : ∀ j q, j < i → l[j]? = some q → q.2 = true) (hi : l[i]? = some p) (hp : p.2 = false) : l.find? (fun q => !q.2) = some p := by
  induction l generalizing i with
  | nil => simp at hi
  | cons a l ih =>
    cases i with
    | zero =>
      have e : a = p := by simpa using hi
      subst e
      simp [hp]
    | succ i =>
      have ha : a.2 = true := h 0 a (Nat.succ_pos _) rfl
      rw [List.find?_cons_of_neg (by simp [ha])]
      exact ih (i := i) (fun j q hj e => h (j + 1) q (Nat.succ_lt_succ hj) (by simpa using e)) (by simpa using hi)
theorem find_none {l : List (Str × Bool)} (h : ∀ j q, j < l.length → l[j]? = some q → q.2 = true) : l.find? (fun q => !q.2) = none := by
  rw [List.find?_eq_none]
  intro q hq
  obtain ⟨j, hj, e⟩ := List.mem_iff_getElem.mp hq
  have := h j q hj (by rw [List.getElem?_eq_getElem hj, e])
  simp [this]
def spWrong (K : PySem.W.Frag) : Sp := fun vs H Q _ => ∃ (e : Ed) (s n f g : Addr), vs = [.str e.name, e.version, .ref s, .ref n, .ref f, .ref g] ∧ EdAt K H e s n f g ∧ e.Small ∧ ∀ H', Same H H' → Q (optV e.wrong) H'
structure Checks (P : Program) (w : World) (K : PySem.W.Frag) (mg : Str → Option Value) (base : Heap) : Prop where
  wo : Def P w K mg base 1 "is_word" ["text"] spWord
  ve : Def P w K mg base 2 "is_version" ["value"] spVersion
  sc : Def P w K mg base 2 "are_scripts" ["values"] (spScripts K)
  ne : Def P w K mg base 4 "are_needs" ["values", "name"] (spNeeds K)
  ot : Def P w K mg base 2 "are_other_names" ["values", "name"] (spOthers K)
section
variable {P : Program} {w : World} {K : PySem.W.Frag} {mg : Str → Option Value} {base : Heap}
theorem scWrong : FnScope ["name", "version", "scripts", "needs", "first", "against", "checked", "part", "right"] ["name", "version", "scripts", "needs", "first", "against"] (defScope sWrong) := ⟨rfl, rfl, rfl, by decide +kernel, rfl, by decide +kernel, by decide +kernel⟩
theorem two_le : 2 ≤ sizeLine := by decide
theorem ok_wrong {f : Addr} {fd : FuncData} (F : Fun K "wrong_part" "wrong_part" sWrong f fd) (T : TxtE K mg) (C : Checks P w K mg base) : FnOk P w K mg base CX0 5 f fd ["name", "version", "scripts", "needs", "first", "against"] (spWrong K) := by
  refine F.ok scWrong (fun vs H Q E h => ?_) (fun cdv A outer s H vs Q E hr h => ?_)
  · obtain ⟨e, s, n, f, g, rfl, _⟩ := h
    rfl
  · obtain ⟨e, as, an, af, ag, rfl, hE, hz, k⟩ := h
    have nd := scWrong.nd
    have r1 : Room 1 _ := hr.mono (by decide)
    have r2 : Room 2 _ := hr.mono (by decide)
    refine ⟨_, pss_cons (ps_set (i := 6) nd rfl (Or.inl rfl) (pe_tup
        (pa_cons (pe_tup (pa_cons pe_str (pa_cons (pe_def C.wo r1 rfl (pa_cons (pv 0) pa_nil)) pa_nil)))
        (pa_cons (pe_tup (pa_cons pe_str (pa_cons (pe_def C.ve r2 rfl (pa_cons (pv 1) pa_nil)) pa_nil)))
        (pa_cons (pe_tup (pa_cons pe_str (pa_cons (pe_def C.sc r2 rfl (pa_cons (pv 2) pa_nil)) pa_nil)))
        (pa_cons (pe_tup (pa_cons pe_str (pa_cons (pe_def C.ne hr rfl (pa_cons (pv 3) (pa_cons (pv 0) pa_nil))) pa_nil)))
        (pa_cons (pe_tup (pa_cons pe_str (pa_cons (pe_def C.ne hr rfl (pa_cons (pv 4) (pa_cons (pv 0) pa_nil))) pa_nil)))
        (pa_cons (pe_tup (pa_cons pe_str (pa_cons (pe_def C.ot r2 rfl (pa_cons (pv 5) (pa_cons (pv 0) pa_nil))) pa_nil))) pa_nil))))))))
      (pss_cons (ps_for PassesOwn.never rfl (pi_tup (pv 6)) (pg_tup rfl (pgs_cons (pg_name (i := 7) nd rfl (Or.inl rfl)) (pgs_cons (pg_name (i := 8) nd rfl (Or.inl rfl)) pgs_nil)))
        (pss_one (ps_if (pt_not (pt_val (pv 8))) (pss_one (ps_ret (pv 7))) pss_nil)))
      (pss_one (ps_ret pe_non))), ?_⟩
    refine ⟨_, rfl, e.name, rfl, hz.name, fun H1 s1 => ⟨two_le, fun t1 n1 => ?_⟩⟩
    refine ⟨_, rfl, e.version, rfl, hz.version, two_le, fun t2 n2 => ?_⟩
    have s2 := (s1.trans (Same.upd_new (o := .tup [.str "name", .bl (isWord e.name)]) n1)).trans (Same.upd_new (o := .tup [.str "version", .bl (inR e.version 1 99)]) n2)
    refine ⟨_, rfl, as, _, rfl, s2.sqT hE.scripts, hz.scripts, fun H3 s3 => ⟨two_le, fun t3 n3 => ?_⟩⟩
    have s3' := (s2.trans s3).trans (Same.upd_new (o := .tup [.str "scripts", .bl (areScripts e.scripts)]) n3)
    refine ⟨_, rfl, _, rfl, an, _, _, rfl, hE.needs.same s3', hz.needs.1, hz.needs.2, fun H4 s4 => ⟨two_le, fun t4 n4 => ?_⟩⟩
    have s4' := (s3'.trans s4).trans (Same.upd_new (o := .tup [.str "needs", .bl (areNeeds e.needs e.name)]) n4)
    refine ⟨_, rfl, _, rfl, af, _, _, rfl, hE.first.same s4', hz.first.1, hz.first.2, fun H5 s5 => ⟨two_le, fun t5 n5 => ?_⟩⟩
    have s5' := (s4'.trans s5).trans (Same.upd_new (o := .tup [.str "first", .bl (areNeeds e.first e.name)]) n5)
    refine ⟨_, rfl, _, rfl, ag, _, _, rfl, s5'.sqT hE.against, hz.against.1, hz.against.2, fun H6 s6 => ⟨two_le, fun t6 n6 => ⟨(by show 6 ≤ sizeLine; decide), fun TT nT => ?_⟩⟩⟩
    have z6 := Same.upd_new (o := .tup [.str "against", .bl (areOthers e.against e.name)]) n6
    have zT := Same.upd_new (o := .tup [.ref t1, .ref t2, .ref t3, .ref t4, .ref t5, .ref t6]) nT
    have zz := z6.trans zT
    have z5 := ((Same.upd_new (o := .tup [.str "first", .bl (areNeeds e.first e.name)]) n5).trans s6).trans zz
    have z4 := ((Same.upd_new (o := .tup [.str "needs", .bl (areNeeds e.needs e.name)]) n4).trans s5).trans z5
    have z3 := ((Same.upd_new (o := .tup [.str "scripts", .bl (areScripts e.scripts)]) n3).trans s4).trans z4
    have z2 := ((Same.upd_new (o := .tup [.str "version", .bl (inR e.version 1 99)]) n2).trans s3).trans z3
    have z1 := (Same.upd_new (o := .tup [.str "name", .bl (isWord e.name)]) n1).trans z2
    have hAll := (s5'.trans s6).trans zz
    generalize hHF : upd (upd H6 t6 _) TT _ = HF at *
    have hts : ∀ (i : Nat) x p, ([t1, t2, t3, t4, t5, t6] : List Addr)[i]? = some x → e.checks[i]? = some p → SqT K HF x [.str p.1, .bl p.2] := by
      have a1 : HF t1 = _ := z2 _ _ upd_same
      have a2 : HF t2 = _ := z3 _ _ (s3 _ _ upd_same)
      have a3 : HF t3 = _ := z4 _ _ (s4 _ _ upd_same)
      have a4 : HF t4 = _ := z5 _ _ (s5 _ _ upd_same)
      have a5 : HF t5 = _ := zz _ _ (s6 _ _ upd_same)
      have a6 : HF t6 = _ := zT _ _ upd_same
      intro i x p hx hp
      match i with
      | 0 => cases hx; cases hp; exact .inl (.inl a1)
      | 1 => cases hx; cases hp; exact .inl (.inl a2)
      | 2 => cases hx; cases hp; exact .inl (.inl a3)
      | 3 => cases hx; cases hp; exact .inl (.inl a4)
      | 4 => cases hx; cases hp; exact .inl (.inl a5)
      | 5 => cases hx; cases hp; exact .inl (.inl a6)
      | i + 6 => simp at hx
    have hTT : SqT K HF TT ([t1, t2, t3, t4, t5, t6].map V.ref) := .inl (.inl (by rw [← hHF]; exact upd_same))
    refine ⟨_, rfl, TT, rfl, ⟨_, hTT⟩, for_it (walk_tup (xs := [t1, t2, t3, t4, t5, t6].map V.ref)) (fun i σ H' => H' = HF ∧ (∃ v7 v8, σ = [some (.str e.name), some e.version, some (.ref as), some (.ref an), some (.ref af), some (.ref ag), some (.ref TT), v7, v8]) ∧ ∀ j q, j < i → e.checks[j]? = some q → q.2 = true)
      ⟨rfl, ⟨none, none, rfl⟩, fun j q hj => absurd hj (Nat.not_lt_zero _)⟩ (fun i σ H' _ h => by rw [h.1]; exact hTT) ?_ ?_⟩
    · rintro i x σ H' H'' hi ⟨rfl, ⟨v7, v8, rfl⟩, hbef⟩ ⟨rfl, hx⟩
      obtain ⟨t, ht, rfl⟩ := getE hx
      have hip : i < e.checks.length := hi
      have hp := List.getElem?_eq_getElem hip
      refine ⟨t, _, rfl, hts i t _ ht hp, rfl, _, _, rfl, _, _, rfl, rfl, ?_⟩
      refine ⟨_, rfl, _, rfl, ?_⟩
      cases c : e.checks[i].2 with
      | false =>
        refine iteT ?_
        refine ⟨_, rfl, ?_⟩
        have e1 : e.wrong = some e.checks[i].1 := by
          unfold Ed.wrong
          rw [find_first hbef hp c]
          rfl
        have q := k H'' hAll
        rw [e1] at q
        exact q
      | true =>
        refine iteF ?_
        refine ⟨rfl, ⟨_, _, rfl⟩, fun j q hj hq => ?_⟩
        by_cases hji : j = i
        · subst hji
          rw [hp] at hq
          rw [← Option.some.inj hq]
          exact c
        · exact hbef j q (by omega) hq
    · rintro σ H' ⟨rfl, _, hbef⟩
      have e1 : e.wrong = none := by
        unfold Ed.wrong
        rw [find_none fun j q hj hq => hbef j q hj hq]
        rfl
      have q := k H' hAll
      rw [e1] at q
      exact q
end
end Half

namespace Half
open PySem PySem.Spec PyProof.Rows L2
abbrev sIe : Stmt := inClass (top 8) 0
/-- what stands of an error class with its own __init__ (one parameter, super().__init__(..), one field fl) -/
def spErr (C : Addr) (fl : Str) : Sp := fun vs H Q _ => ∃ (a : Addr) (p : Str), vs = [.ref a, .str p] ∧ H a = some (exo a C none) ∧ p.length ≤ 1000 ∧
  ∀ dx, H dx = none → dx ≠ a → Q .non (upd (upd H dx (exd dx [(fl, .str p)])) a (exo a C (some dx)))
/-- the __init__ at f as the top has made it -/
structure ErrFn (P : Program) (K : PySem.W.Frag) (C : Addr) (qual : Str) (st : Stmt) (f : Addr) (fd : FuncData) : Prop where
  ex : ∃ (oc : Value) (od : Option Addr) (kV doc pm : Value) (an : Option Addr) (cda cc : Addr) (ct : Value) (osl : Array (Option Value)) (ccl : Value) (cdd : Option Addr) (vsc : Array Value) (ccs : Array (Option Value)) (file : Str) (tf : Tok) (cl : Value) (cld : Option Addr) (csl : Array (Option Value)),
    fd = PySem.W.ksFn "__init__" qual (defArgs st) (defBody st) (defScope st) .none kV doc pm an (.ref cda) ct cc ∧ K.lookup f = some ⟨oc, od, .func fd, osl⟩ ∧ PySem.W.codeIn K (.ref cda) qual = true ∧
    K.lookup cda = some ⟨ccl, cdd, .fields vsc, ccs⟩ ∧ vsc[2]? = some (.str file tf) ∧ ((P.main.file : Str) == file) = true ∧ K.lookup cc = some ⟨cl, cld, .cell (some (.ref C)), csl⟩
theorem scIe : SupScope ["self", "part"] ["self", "part"] (defScope sIe) := ⟨rfl, rfl, rfl, by decide +kernel, rfl, by decide +kernel, by decide +kernel, by decide +kernel, rfl, rfl⟩
theorem app_len (a b : Str) : (a ++ b).length = a.length + b.length := by
  show (a.cps ++ b.cps).size = _
  rw [Array.size_append]
  rfl
section
variable {P : Program} {w : World} {K : PySem.W.Frag} {mg : Str → Option Value} {base : Heap}
theorem ok_ie {C f : Addr} {fd : FuncData} (F : ErrFn P K C "InvalidEdition.__init__" sIe f fd) (T : SupC P K mg C) (nF : PySem.W.findIn K (.ref C) "part" = some none) : FnOk P w K mg base CX0 1 f fd ["self", "part"] (spErr C "part") := by
  obtain ⟨oc, od, kV, doc, pm, an, cda, cc, ct, osl, ccl, cdd, vsc, ccs, file, tf, cl, cld, csl, rfl, lk, hcd, hcode, hvs, hfile, hcell⟩ := F.ex
  refine fn_sup (N := ["self", "part"]) lk hcd scIe rfl rfl rfl hcode hvs hfile hcell T (fun vs H Q E h => ?_) (fun _ => rfl) (fun _ => rfl) (fun _ => rfl) (fun A outer s H vs Q E hr h => ?_)
  · obtain ⟨a, p, rfl, _⟩ := h
    rfl
  · obtain ⟨a, p, rfl, ha, hp, k⟩ := h
    refine ⟨a, _, _, rfl, ha, pa_cons (pe_joined (.cons pe_str (.cons (pe_fmt (pv 1)) (.cons pe_str .nil)))) pa_nil, pss_one (ps_ost (pv 0) (pv 1)), ?_⟩
    have l1 : ∀ x y : Str, x.length ≤ 100 → y.length ≤ 1200 → (x ++ y).length ≤ sizeLine := fun x y hx hy => by rw [app_len, sizeLine_eq]; omega
    refine ⟨_, rfl, (by decide), _, rfl, .inl ⟨p, rfl, Nat.le_trans hp (by decide), p, rfl, ?_, _, rfl, ?_, ?_⟩⟩
    · rw [app_len, app_len, sizeLine_eq]
      have : ("this cannot be the " : Str).length = 19 := by decide
      have e0 : (Str.empty).length = 0 := by decide
      omega
    · rw [app_len, app_len, app_len, sizeLine_eq]
      have : ("this cannot be the " : Str).length = 19 := by decide
      have : (" of an edition" : Str).length = 14 := by decide
      have e0 : (Str.empty).length = 0 := by decide
      omega
    · refine ⟨by show 1 ≤ 1000; decide, ha, ?_⟩
      refine ⟨_, rfl, _, rfl, a, C, rfl, T.oex, nF, .inl ⟨ha, fun dx h1 h2 => k dx h1 h2⟩⟩
end
end Half

namespace Half
open PySem PySem.Spec PyProof.Rows L2
abbrev sEi : Stmt := inClass (top 27) 0
abbrev sGet (i : Nat) : Stmt := inClass (top 27) (i + 1)
abbrev sEq : Stmt := inClass (top 27) 7
/-- all but the object at x stands as it stood -/
def SameBut (x : Addr) (H H' : Hp) : Prop := ∀ b o, b ≠ x → H b = some o → H' b = some o
/-- an edition at a -/
structure EdObj (K : PySem.W.Frag) (H : Hp) (C : Addr) (a : Addr) (e : Ed) (s n f g : Addr) : Prop where
  ob : ∃ dx p, H a = some (.ins C dx [("parts", .ref p)]) ∧ H p = some (.tup [.str e.name, e.version, .ref s, .ref n, .ref f, .ref g])
  at_ : EdAt K H e s n f g
theorem EdObj.same {K : PySem.W.Frag} {H H' : Hp} {C a : Addr} {e : Ed} {s n f g : Addr} (S : Same H H') (h : EdObj K H C a e s n f g) : EdObj K H' C a e s n f g := by
  obtain ⟨⟨dx, p, h1, h2⟩, h3⟩ := h
  exact ⟨⟨dx, p, S _ _ h1, S _ _ h2⟩, h3.same S⟩
def EiNames : List Str := ["self", "name", "version", "scripts", "needs", "first", "against"]
def spEi (K : PySem.W.Frag) (C CE : Addr) : Sp := fun vs H Q E => ∃ (x dx : Addr) (e : Ed) (s n f g : Addr), vs = [.ref x, .str e.name, e.version, .ref s, .ref n, .ref f, .ref g] ∧ H x = some (.ins C dx []) ∧ EdAt K H e s n f g ∧ e.Small ∧
  (e.wrong = none → ∀ H', SameBut x H H' → EdObj K H' C x e s n f g → Q .non H') ∧
  (∀ p, e.wrong = some p → ∀ H' d, Same H H' → H' d = some (.xd [("part", .str p)]) → E (.ref CE) (some d) H')
structure TxtG (P : Program) (K : PySem.W.Frag) (mg : Str → Option Value) (C CE fI : Addr) (fdI : FuncData) : Prop where
  cl : Cls K C
  nP : NoAttr K C "parts"
  mgC : mg "Edition" = some (.ref C)
  mgE : mg "InvalidEdition" = some (.ref CE)
  sup : SupC P K mg CE
  nF : PySem.W.findIn K (.ref CE) "part" = some none
  iC : PySem.W.findIn K (.ref CE) "__init__" = some (some (.ref fI))
  tI : PySem.W.typeIn K (.ref fI) = some (.type "function")
  er : ErrFn P K CE "InvalidEdition.__init__" sIe fI fdI
  bI : Binds K fdI ["self", "part"] []
section
variable {P : Program} {w : World} {K : PySem.W.Frag} {mg : Str → Option Value} {base : Heap} {C CE fI : Addr} {fdI : FuncData}
theorem scEi : FnScope ["self", "name", "version", "scripts", "needs", "first", "against", "part"] ["self", "name", "version", "scripts", "needs", "first", "against"] (defScope sEi) := ⟨rfl, rfl, rfl, by decide +kernel, rfl, by decide +kernel, by decide +kernel⟩
theorem wrong_small (e : Ed) {p : Str} (h : e.wrong = some p) : p.length ≤ 1000 := by
  unfold Ed.wrong at h
  cases q : e.checks.find? (fun q => !q.2) with
  | none => rw [q] at h; cases h
  | some r =>
    rw [q] at h
    have hp : r.1 = p := by simpa using h
    have hm := List.mem_of_find?_eq_some q
    rw [← hp]
    unfold Ed.checks at hm
    simp only [List.mem_cons, List.not_mem_nil, or_false] at hm
    rcases hm with rfl | rfl | rfl | rfl | rfl | rfl <;> (dsimp only; decide)
theorem ok_ei {f : Addr} {fd : FuncData} {kws : List (Str × V)} (F : FunD K "__init__" "Edition.__init__" (defArgs sEi) (defBody sEi) (defScope sEi) [] kws f fd) (T : TxtG P K mg C CE fI fdI) (dW : Def P w K mg base 5 "wrong_part" ["name", "version", "scripts", "needs", "first", "against"] (spWrong K)) :
    FnOk P w K mg base (L2.CX P w) 6 f fd ["self", "name", "version", "scripts", "needs", "first", "against"] (spEi K C CE) := by
  refine F.ok scEi (fun vs H Q E h => ?_) (fun cdv A outer s H vs Q E hr h => ?_)
  · obtain ⟨x, dx, e, s, n, f, g, rfl, _⟩ := h
    rfl
  · obtain ⟨x, dx, e, as, an, af, ag, rfl, hx, hE, hz, kOk, kBad⟩ := h
    have nd := scEi.nd
    have FI : FnOk P w K mg base CX0 1 fI fdI ["self", "part"] (spErr CE "part") := ok_ie T.er T.sup T.nF
    refine ⟨_, pss_cons (ps_set (i := 7) nd rfl (Or.inl rfl) (pe_def dW hr rfl (pa_cons (pv 1) (pa_cons (pv 2) (pa_cons (pv 3) (pa_cons (pv 4) (pa_cons (pv 5) (pa_cons (pv 6) pa_nil))))))))
      (pss_cons (ps_if (pt_cmp (pc_notN (pv 7))) (pss_one (ps_raise rfl (takes_of rfl rfl rfl rfl) (pmk_oex T.sup.oex T.iC T.tI FI (hr.mono (by decide)) T.bI .nil (fun _ _ _ _ _ _ _ h => h.elim) rfl T.mgE (pa_cons (pv 7) pa_nil)))) pss_nil)
      (pss_one (ps_fld (pv 0) (pe_tup (pa_cons (pv 1) (pa_cons (pv 2) (pa_cons (pv 3) (pa_cons (pv 4) (pa_cons (pv 5) (pa_cons (pv 6) pa_nil))))))) rfl))), ?_⟩
    refine ⟨_, rfl, _, rfl, _, rfl, _, rfl, _, rfl, _, rfl, e, as, an, af, ag, rfl, hE, hz, fun H1 s1 => ?_⟩
    cases hw : e.wrong with
    | some p =>
      refine ⟨_, rfl, true, rfl, ?_⟩
      refine iteT ?_
      refine ⟨_, rfl, (by show 1 ≤ 1000; decide), fun a ha => ⟨a, p, rfl, upd_same, wrong_small e hw, fun d hd1 hd2 => ⟨rfl, d, [("part", .str p)], upd_same, ?_, ?_, ?_⟩⟩⟩
      · rw [upd_ne hd2, upd_same]
      · rw [upd_ne hd2] at hd1
        exact hd1
      · rw [upd_ne hd2] at hd1
        refine kBad p hw _ d (fun b o q => ?_) upd_same
        have q1 := s1 b o q
        have nb : b ≠ d := ne_of_none q1 hd1
        have na : b ≠ a := ne_of_none q1 ha
        rw [upd_ne nb, del_ne na, upd_ne na, upd_ne nb, upd_ne na]
        exact q1
    | none =>
      refine ⟨_, rfl, false, rfl, ?_⟩
      refine iteF ?_
      refine ⟨_, rfl, _, rfl, _, rfl, _, rfl, _, rfl, _, rfl, (by show 6 ≤ sizeLine; decide), fun p hp => ?_⟩
      have nx : x ≠ p := ne_of_none (s1 _ _ hx) hp
      refine ⟨_, rfl, x, C, dx, [], rfl, (by rw [upd_ne nx]; exact s1 _ _ hx), T.cl, T.nP, (by show 0 < 1000; decide), ?_⟩
      have sb : SameBut x H (upd (upd H1 p (.tup [.str e.name, e.version, .ref as, .ref an, .ref af, .ref ag])) x (.ins C dx (putF "parts" (.ref p) []))) := fun b o hb q => by
        rw [upd_ne hb, upd_ne (ne_of_none (s1 _ _ q) hp)]
        exact s1 _ _ q
      refine kOk hw _ sb ⟨⟨dx, p, upd_same, by rw [upd_ne (Ne.symm nx), upd_same]⟩, ?_⟩
      have hE1 : EdAt K (upd H1 p (.tup [.str e.name, e.version, .ref as, .ref an, .ref af, .ref ag])) e as an af ag := hE.same (s1.trans (Same.upd_new hp))
      have tr : ∀ {a xs}, SqT K (upd H1 p (.tup [.str e.name, e.version, .ref as, .ref an, .ref af, .ref ag])) a xs → SqT K (upd (upd H1 p (.tup [.str e.name, e.version, .ref as, .ref an, .ref af, .ref ag])) x (.ins C dx (putF "parts" (.ref p) []))) a xs := fun {a xs} h => by
        have hxx : (upd H1 p (.tup [.str e.name, e.version, .ref as, .ref an, .ref af, .ref ag])) x = some (.ins C dx []) := by rw [upd_ne nx]; exact s1 _ _ hx
        rcases h with (h | ⟨o, h⟩) | h
        · exact .inl (.inl (by rw [upd_ne (ne_of h hxx (by intro z; cases z))]; exact h))
        · exact .inl (.inr ⟨o, by rw [upd_ne (ne_of h hxx (by intro z; cases z))]; exact h⟩)
        · exact .inr h
      have trN : ∀ {a ps}, NeedsAt K (upd H1 p (.tup [.str e.name, e.version, .ref as, .ref an, .ref af, .ref ag])) a ps → NeedsAt K (upd (upd H1 p (.tup [.str e.name, e.version, .ref as, .ref an, .ref af, .ref ag])) x (.ins C dx (putF "parts" (.ref p) []))) a ps := fun {a ps} h => by
        obtain ⟨ts, h1, h2, h3⟩ := h
        exact ⟨ts, tr h1, h2, fun i t p q r => tr (h3 i t p q r)⟩
      exact ⟨tr hE1.scripts, trN hE1.needs, trN hE1.first, tr hE1.against⟩
end
end Half

namespace Half
open PySem PySem.Spec PyProof.Rows L2
/-! ### the six properties -/
def spGet (C : Addr) (i : Nat) : Sp := fun vs H Q _ => ∃ (a dx p : Addr) (xs : List V) (v : V), vs = [.ref a] ∧ H a = some (.ins C dx [("parts", .ref p)]) ∧ H p = some (.tup xs) ∧ xs[i]? = some v ∧ Q v H
section
variable {P : Program} {w : World} {K : PySem.W.Frag} {mg : Str → Option Value} {base : Heap} {C : Addr}
theorem scGet {i : Nat} (h : i < 6) : FnScope ["self"] ["self"] (defScope (sGet i)) := by
  match i, h with
  | 0, _ => exact ⟨rfl, rfl, rfl, by decide +kernel, rfl, by decide +kernel, by decide +kernel⟩
  | 1, _ => exact ⟨rfl, rfl, rfl, by decide +kernel, rfl, by decide +kernel, by decide +kernel⟩
  | 2, _ => exact ⟨rfl, rfl, rfl, by decide +kernel, rfl, by decide +kernel, by decide +kernel⟩
  | 3, _ => exact ⟨rfl, rfl, rfl, by decide +kernel, rfl, by decide +kernel, by decide +kernel⟩
  | 4, _ => exact ⟨rfl, rfl, rfl, by decide +kernel, rfl, by decide +kernel, by decide +kernel⟩
  | 5, _ => exact ⟨rfl, rfl, rfl, by decide +kernel, rfl, by decide +kernel, by decide +kernel⟩
theorem getBody {i : Nat} (h : i < 6) : ∃ p1 p2 p3 p4 p5 : Pos, ∃ j, defBody (sGet i) = [.Return (some (.Subscript (.Attribute (.Name "self" p1) "parts" p2) (.Constant (.int i) j p3) p4)) p5] := by
  match i, h with
  | 0, _ => exact ⟨_, _, _, _, _, _, rfl⟩
  | 1, _ => exact ⟨_, _, _, _, _, _, rfl⟩
  | 2, _ => exact ⟨_, _, _, _, _, _, rfl⟩
  | 3, _ => exact ⟨_, _, _, _, _, _, rfl⟩
  | 4, _ => exact ⟨_, _, _, _, _, _, rfl⟩
  | 5, _ => exact ⟨_, _, _, _, _, _, rfl⟩
theorem ok_get {f : Addr} {fd : FuncData} {x qual : Str} {i : Nat} (hi : i < 6) (F : Fun K x qual (sGet i) f fd) (cl : Cls K C) (nP : NoAttr K C "parts") : FnOk P w K mg base CX0 1 f fd ["self"] (spGet C i) := by
  refine F.ok (scGet hi) (fun vs H Q E h => ?_) (fun cdv A outer s H vs Q E hr h => ?_)
  · obtain ⟨a, dx, p, xs, v, rfl, _⟩ := h
    rfl
  · obtain ⟨a, dx, p, xs, v, rfl, ha, hp, hv, k⟩ := h
    obtain ⟨p1, p2, p3, p4, p5, j, hb⟩ := getBody hi
    rw [hb]
    have hvis : Vis (defScope (sGet i)) "self" := ((scGet hi).par "self" (List.Mem.head _)).elim (fun z => .inl z) (fun z => .inr (.inl z))
    refine ⟨_, pss_one (ps_ret (pe_ix ix_tup (pe_fld (pe_var (i := 0) rfl hvis) rfl) pe_int (fun _ _ => rfl))), ?_⟩
    exact ⟨_, rfl, a, C, dx, _, _, rfl, ha, cl, nP, rfl, p, xs, _, v, rfl, rfl, .inl (.inl hp), atI_nat hv, k⟩
/-! ### == -/
def pairD (p : Str × Int) : PyData := .tuple [.str p.1, .int p.2]
def verD : V → PyData
  | .int n => .int n
  | .bl b => .bool b
  | _ => .none
def Ed.data (e : Ed) : PyData := .tuple [.str e.name, verD e.version, .tuple (e.scripts.map PyData.str), .tuple (e.needs.map pairD), .tuple (e.first.map pairD), .tuple (e.against.map PyData.str)]
theorem dpStrs {H : Hp} : ∀ l : List Str, DpAll K H (l.map V.str) (l.map PyData.str)
  | [] => .nil
  | x :: l => .cons (.str x) (dpStrs l)
theorem dpPairs {H : Hp} : ∀ (ts : List Addr) (ps : List (Str × Int)), ts.length = ps.length → (∀ (i : Nat) t p, ts[i]? = some t → ps[i]? = some p → SqT K H t [.str p.1, .int p.2]) → DpAll K H (ts.map V.ref) (ps.map pairD)
  | [], [], _, _ => .nil
  | t :: ts, p :: ps, hl, h => .cons (.tup (h 0 t p rfl rfl) (.cons (.str _) (.cons (.int _) .nil))) (dpPairs ts ps (by simpa using hl) fun i t' p' h1 h2 => h (i + 1) t' p' (by simpa using h1) (by simpa using h2))
  | [], _ :: _, hl, _ => by simp at hl
  | _ :: _, [], hl, _ => by simp at hl
theorem NeedsAt.dp {H : Hp} {a : Addr} {ps : List (Str × Int)} (h : NeedsAt K H a ps) : Dp K H (.ref a) (.tuple (ps.map pairD)) := by
  obtain ⟨ts, h1, h2, h3⟩ := h
  exact .tup h1 (dpPairs ts ps h2 h3)
theorem verDp {H : Hp} {v : V} (h : (∃ n, v = .int n) ∨ ∃ b, v = .bl b) : Dp K H v (verD v) := by
  rcases h with ⟨n, rfl⟩ | ⟨b, rfl⟩
  · exact .int n
  · exact .bl b
theorem EdObj.dp {H : Hp} {p s n f g : Addr} {e : Ed} (hp : H p = some (.tup [.str e.name, e.version, .ref s, .ref n, .ref f, .ref g])) (hE : EdAt K H e s n f g) (hv : (∃ n, e.version = .int n) ∨ ∃ b, e.version = .bl b) : Dp K H (.ref p) e.data :=
  .tup (.inl (.inl hp)) (.cons (.str _) (.cons (verDp hv) (.cons (.tup hE.scripts (dpStrs _)) (.cons hE.needs.dp (.cons hE.first.dp (.cons (.tup hE.against (dpStrs _)) .nil))))))
/-- an edition's promise of ==: what the data say -/
def EdIs (K : PySem.W.Frag) (H : Hp) (C a : Addr) (e : Ed) : Prop := (∃ s n f g, EdObj K H C a e s n f g) ∧ ((∃ n, e.version = .int n) ∨ ∃ b, e.version = .bl b) ∧ SeqAt.shaped e.data = true
theorem EdIs.same {H H' : Hp} {a : Addr} {e : Ed} (S : Same H H') (h : EdIs K H C a e) : EdIs K H' C a e := by
  obtain ⟨⟨s, n, f, g, h1⟩, h2⟩ := h
  exact ⟨⟨s, n, f, g, h1.same S⟩, h2⟩
def spEq (K : PySem.W.Frag) (C : Addr) : Sp := fun vs H Q _ => ∃ (a b : Addr) (e e' : Ed), vs = [.ref a, .ref b] ∧ EdIs K H C a e ∧ EdIs K H C b e' ∧ Q (.bl (PyData.eqv e.data e'.data)) H
structure TxtI (K : PySem.W.Frag) (mg : Str → Option Value) (C : Addr) : Prop where
  cl : Cls K C
  nP : NoAttr K C "parts"
  mgC : mg "Edition" = some (.ref C)
  isi : mg "isinstance" = none
  ha : PySem.W.findIn K (.ref C) "__class__" = some (some (.builtin "object.__class__"))
  hn : PySem.W.specialIn K (.builtin "object.__class__") "__get__" = some (some (.builtin "getset_descriptor.__get__"))
  ht : PySem.W.takesIn K (.builtin "object.__class__") = some true
  hm : PySem.W.mroIn K C (.type "object") = some true
  ki : PySem.W.kitOne K (.ref C) (.ref C) = some true
theorem scEq : FnScope ["self", "other"] ["self", "other"] (defScope sEq) := ⟨rfl, rfl, rfl, by decide +kernel, rfl, by decide +kernel, by decide +kernel⟩
theorem ok_eq {f : Addr} {fd : FuncData} (F : Fun K "__eq__" "Edition.__eq__" sEq f fd) (T : TxtI K mg C) : FnOk P w K mg base CX0 1 f fd ["self", "other"] (spEq K C) := by
  refine F.ok scEq (fun vs H Q E h => ?_) (fun cdv A outer s H vs Q E hr h => ?_)
  · obtain ⟨a, b, e, e', rfl, _⟩ := h
    rfl
  · obtain ⟨a, b, e, e', rfl, ⟨⟨s1, n1, f1, g1, ⟨dx, p, ha, hp⟩, hE⟩, hv, hs⟩, ⟨⟨s2, n2, f2, g2, ⟨dy, q, hb, hq⟩, hE'⟩, hv', hs'⟩, k⟩ := h
    refine ⟨_, pss_one (ps_ret (pe_and (pe_callB call_isi (by rfl) T.isi (by decide +kernel) (pa_cons (pv 1) (pa_cons (pe_glob (v := .ref C) rfl T.mgC rfl) pa_nil)))
      (pe_one (pe_cmpR (op_eqD hr.units) (pe_fld (pv 0) rfl) (pe_fld (pv 1) rfl) (nomark _))))), ?_⟩
    refine ⟨_, rfl, _, _, _, _, _, rfl, .own C, .base (.ins hb T.cl T.ha T.hn T.ht T.hm), T.ki, _, rfl, ?_⟩
    refine iteT ?_
    refine ⟨_, rfl, a, C, dx, _, _, rfl, ha, T.cl, T.nP, rfl, _, rfl, b, C, dy, _, _, rfl, hb, T.cl, T.nP, rfl, _, _, EdObj.dp hp hE hv, EdObj.dp hq hE' hv', hs, hs', k⟩
end
end Half

namespace Half
open PySem PySem.Spec PyProof.Rows L2 LamX
abbrev sRaised : Stmt := top 31
/-- the nine error classes, in the order in which they are asked for, and the class above them -/
structure ErrsC (K : PySem.W.Frag) (mg : Str → Option Value) (c0 c1 c2 c3 c4 c5 c6 c7 c8 cS : Addr) : Prop where
  isi : mg "isinstance" = none
  ve : mg "ValueError" = none
  g0 : mg "InvalidEdition" = some (.ref c0)
  g1 : mg "InvalidStore" = some (.ref c1)
  g2 : mg "InvalidSystem" = some (.ref c2)
  g3 : mg "Refused" = some (.ref c3)
  g4 : mg "UnknownEdition" = some (.ref c4)
  g5 : mg "UnknownName" = some (.ref c5)
  g6 : mg "InvalidNumber" = some (.ref c6)
  g7 : mg "UnlikeStores" = some (.ref c7)
  g8 : mg "TooMany" = some (.ref c8)
  gS : mg "SetupError" = some (.ref cS)
  x0 : XfC K c0
  x1 : XfC K c1
  x2 : XfC K c2
  x3 : XfC K c3
  n0 : PySem.W.findIn K (.ref c0) "part" = some none
  n1 : PySem.W.findIn K (.ref c1) "index" = some none
  n2 : PySem.W.findIn K (.ref c2) "package" = some none
  n3 : PySem.W.findIn K (.ref c3) "why" = some none
/-- what isinstance says of an error of the class at D: bs of the nine classes -/
structure ErrIs (K : PySem.W.Frag) (D c0 c1 c2 c3 c4 c5 c6 c7 c8 cS : Addr) (b0 b1 b2 b3 b4 b5 b6 b7 b8 : Bool) : Prop where
  ex : ExcC K D
  k0 : PySem.W.kitOne K (.ref D) (.ref c0) = some b0
  k1 : PySem.W.kitOne K (.ref D) (.ref c1) = some b1
  k2 : PySem.W.kitOne K (.ref D) (.ref c2) = some b2
  k3 : PySem.W.kitOne K (.ref D) (.ref c3) = some b3
  k4 : PySem.W.kitOne K (.ref D) (.ref c4) = some b4
  k5 : PySem.W.kitOne K (.ref D) (.ref c5) = some b5
  k6 : PySem.W.kitOne K (.ref D) (.ref c6) = some b6
  k7 : PySem.W.kitOne K (.ref D) (.ref c7) = some b7
  k8 : PySem.W.kitOne K (.ref D) (.ref c8) = some b8
  kv : PySem.W.kitOne K (.ref D) (.type "ValueError") = some true
  em : PySem.W.exmOne K (.ref D) (.ref cS) = some true
theorem scRaised : FnScope ["_law_work", "e", "_law_kinds", "_law_at"] ["_law_work"] (defScope sRaised) := ⟨rfl, rfl, rfl, by decide +kernel, rfl, by decide +kernel, by decide +kernel⟩
/-- what is made of the work: None, or of an InvalidEdition its word -/
def TRaised (c0 : Addr) : (XK → Hp → VK → Prop) → Hp → VK → Prop := fun tl H Q =>
  tl (fun cls d H' => cls = .ref c0 ∧ ∃ dd p, d = some dd ∧ H' dd = some (.xd [("part", .str p)]) ∧ ∀ H'' t, Same H' H'' → H'' t = some (.tup [.str "edition", .str p]) → Q (.ref t) H'') H (fun _ H' => Q .non H')
theorem same3 {H H1 : Hp} {p : Addr} {o : HO} (s : Same H H1) (h : H1 p = none) : Same H (upd H1 p o) := s.trans (Same.upd_new h)
/-! rules whose reading names the written part by itself -/
theorem pe_bmK {X : Cx} {K : PySem.W.Frag} {o e : Expr} {es : List Expr} {to : TE} {t : TA} {name : Str} {apos cpos : Pos} {T id : String} {r : V → List V → Hp → VK → Prop} (hK : X.K = K) (pa : PlainAttrs T) (slot : Slot T name id) (hty : typeOf (.builtin id) = pure (.type "method_descriptor")) (hm : MtR X id r) (ho : PE X o to) (ha : PA X (e :: es) t)
    (h1 : attributeBase o name X.env (eval o X.env) = eval o X.env := by rfl)
    (h2 : ((backTo cpos (starEach (e :: es) X.env)).all (fun x => !x.1) && (backToKw cpos (keywordEach [] X.env)).all (fun x => x.1.isSome) && decide ((e :: es).length + ([] : List Keyword).length + (if ([] : List Keyword).isEmpty then 0 else 1) < 30)) = true := by rfl)
    (h3 : (apos.endLine == cpos.line) = true := by rfl) (h4 : starEach (e :: es) X.env = (false, eval e X.env) :: starEach es X.env := by rfl) (h5 : (backTo cpos (starEach es X.env)).any (·.1) = false := by rfl) :
    PE X (.Call (.Attribute o name apos) (e :: es) [] cpos) (tBM K T r to t) := by
  subst hK
  exact pe_bm pa slot hty hm ho ha h1 h2 h3 h4 h5
theorem mt_countK {X : Cx} {K : PySem.W.Frag} (hK : X.K = K) : MtR X "list.count" (rCntB K) := by subst hK; exact mt_countB
theorem mt_indexK {X : Cx} {K : PySem.W.Frag} (hK : X.K = K) : MtR X "list.index" (rIndex K) := by subst hK; exact mt_index
theorem ix_listK {X : Cx} {K : PySem.W.Frag} (hK : X.K = K) : IxR X (rIxL K) := by subst hK; exact ix_list
theorem isx_read {K : PySem.W.Frag} {a D c dd : Addr} {d : Option Addr} {b : Bool} {H : Hp} {fs : List (Str × V)} {Q : VK} (ex : ExcC K D) (k : PySem.W.kitOne K (.ref D) (.ref c) = some b) (hd : d = some dd) (hx : H dd = some (.xd fs)) (q : Q (.bl b) H) : rIsX K a (.ref D) d [.ref a, .ref c] H Q :=
  ⟨.ref c, .ref c, b, D, rfl, fun u h => h, rfl, ex, k, .inr ⟨dd, fs, hd, hx⟩, q⟩
theorem isv_read {K : PySem.W.Frag} {a D dd : Addr} {d : Option Addr} {T : String} {b : Bool} {H : Hp} {fs : List (Str × V)} {Q : VK} (ex : ExcC K D) (k : PySem.W.kitOne K (.ref D) (.type T) = some b) (hd : d = some dd) (hx : H dd = some (.xd fs)) (q : Q (.bl b) H) : rIsX K a (.ref D) d [.ref a, .ty T] H Q :=
  ⟨.ty T, .type T, b, D, rfl, fun u h => h, rfl, ex, k, .inr ⟨dd, fs, hd, hx⟩, q⟩
theorem takes_len {X : Cx} {W : WX} (tk : Takes X W) : Takes X (fun cls d σ H => σ.length = X.N.length → W cls d σ H) := fun u s' x => by
  obtain ⟨a, B, sI, pins, σ, H, cls, d, e, I, nb, up, sky, na, os, ag, w⟩ := x
  exact tk u s' ⟨a, B, sI, pins, σ, H, cls, d, e, I, nb, up, sky, na, os, ag, w I.len⟩
section
variable {X : Cx} {c0 c1 c2 c3 c4 c5 c6 c7 c8 cS : Addr}
theorem raised_gives (T : ErrsC X.K X.mg c0 c1 c2 c3 c4 c5 c6 c7 c8 cS) (I0 : ErrIs X.K c0 c0 c1 c2 c3 c4 c5 c6 c7 c8 cS true false false false false false false false false) {g : Addr} {cdg : Value} {q : Str} :
    GivesTo X ["_law_work", "e", "_law_kinds", "_law_at"] "_law_raised" (defScope sRaised) g cdg (defBody sRaised) "_law_work" q (TRaised c0) := by
  intro f c' s H Q tl act hc h
  have nd := scRaised.nd
  refine ⟨_, pss_cons (ps_try_as (i := 1) (X := (cxOf C8.CX0 X.prog X.w X.K X.mg X.base ["_law_work", "e", "_law_kinds", "_law_at"] "_law_raised" (defScope sRaised) g cdg X.A X.stack s H C8.E0).nox) (c := .ref cS)
      (tb := fun W D σ H => ∃ Ech : XK, (∀ cls d σ' H', Ech cls d H' → σ'.length = 4 → W cls d σ' H') ∧ σ[0]? = some (some (.ref f)) ∧ H c' = some (CodeO c' q) ∧ tl Ech H (fun _ H' => D.nx σ H'))
      rfl rfl nd rfl rfl ⟨rfl, by decide, .inl T.gS⟩ LamX.takes0 (fun W pn xe tk _ => ?_) (fun a oe cls d pn hz hf => (pss_cons (ps_set (i := 2) nd rfl (Or.inl rfl) (pe_lst
        (pa_cons (pe_callB (call_isX hz hf) (by rfl) T.isi (by decide +kernel) (pa_cons (pv 1) (pa_cons (pe_glob (v := .ref c0) rfl T.g0 rfl) pa_nil)))
        (pa_cons (pe_callB (call_isX hz hf) (by rfl) T.isi (by decide +kernel) (pa_cons (pv 1) (pa_cons (pe_glob (v := .ref c1) rfl T.g1 rfl) pa_nil)))
        (pa_cons (pe_callB (call_isX hz hf) (by rfl) T.isi (by decide +kernel) (pa_cons (pv 1) (pa_cons (pe_glob (v := .ref c2) rfl T.g2 rfl) pa_nil))) pa_nil)))))
      (pss_cons (ps_set (i := 2) nd rfl (Or.inl rfl) (pe_op op_cat (pv 2) (pe_lst
        (pa_cons (pe_callB (call_isX hz hf) (by rfl) T.isi (by decide +kernel) (pa_cons (pv 1) (pa_cons (pe_glob (v := .ref c3) rfl T.g3 rfl) pa_nil)))
        (pa_cons (pe_callB (call_isX hz hf) (by rfl) T.isi (by decide +kernel) (pa_cons (pv 1) (pa_cons (pe_glob (v := .ref c4) rfl T.g4 rfl) pa_nil)))
        (pa_cons (pe_callB (call_isX hz hf) (by rfl) T.isi (by decide +kernel) (pa_cons (pv 1) (pa_cons (pe_glob (v := .ref c5) rfl T.g5 rfl) pa_nil))) pa_nil))))))
      (pss_cons (ps_set (i := 2) nd rfl (Or.inl rfl) (pe_op op_cat (pv 2) (pe_lst
        (pa_cons (pe_callB (call_isX hz hf) (by rfl) T.isi (by decide +kernel) (pa_cons (pv 1) (pa_cons (pe_glob (v := .ref c6) rfl T.g6 rfl) pa_nil)))
        (pa_cons (pe_callB (call_isX hz hf) (by rfl) T.isi (by decide +kernel) (pa_cons (pv 1) (pa_cons (pe_glob (v := .ref c7) rfl T.g7 rfl) pa_nil)))
        (pa_cons (pe_callB (call_isX hz hf) (by rfl) T.isi (by decide +kernel) (pa_cons (pv 1) (pa_cons (pe_glob (v := .ref c8) rfl T.g8 rfl) pa_nil))) pa_nil))))))
      (pss_cons (ps_if (PW.pt (pw_or (pt_cmpR op_ne (pe_bmK (K := X.K) rfl PySem.F.plainAttrs_list PySem.F.slot_list_count PySem.F.type_list_count (mt_countK (K := X.K) rfl) (pv 2) (pa_cons pe_bl pa_nil)) pe_int (nomark _))
          (pw_or1 (pt_not (pt_val (pe_callB (call_isX hz hf) (by rfl) T.isi (by decide +kernel) (pa_cons (pv 1) (pa_cons (pe_bltn (v := .ty "ValueError") (by rfl) T.ve (by decide +kernel) rfl) pa_nil))))))))
          (pss_one (ps_ret (pe_tup (pa_cons pe_str pa_nil)))) pss_nil)
      (pss_cons (ps_set (i := 3) nd rfl (Or.inl rfl) (pe_bmK (K := X.K) rfl PySem.F.plainAttrs_list PySem.F.slot_list_index PySem.F.type_list_index (mt_indexK (K := X.K) rfl) (pv 2) (pa_cons pe_bl pa_nil)))
      (pss_cons (ps_if (pt_cmpR op_eq (pv 3) pe_int (nomark _)) (pss_one (ps_ret (pe_tup (pa_cons pe_str (pa_cons (pe_xf T.x0 T.n0 hz hf (pv 1)) pa_nil))))) pss_nil)
      (pss_cons (ps_if (pt_cmpR op_eq (pv 3) pe_int (nomark _)) (pss_one (ps_ret (pe_tup (pa_cons pe_str (pa_cons (pe_xf T.x1 T.n1 hz hf (pv 1)) pa_nil))))) pss_nil)
      (pss_cons (ps_if (pt_cmpR op_eq (pv 3) pe_int (nomark _)) (pss_one (ps_ret (pe_tup (pa_cons pe_str (pa_cons (pe_xf T.x2 T.n2 hz hf (pv 1)) pa_nil))))) pss_nil)
      (pss_one (ps_ret (pe_ifExp (pt_cmpR op_eq (pv 3) pe_int (nomark _)) (pe_tup (pa_cons pe_str (pa_cons (pe_xf T.x3 T.n3 hz hf (pv 1)) pa_nil)))
        (pe_tup (pa_cons (pe_ix (ix_listK (K := X.K) rfl) (pe_lst (pa_cons pe_str (pa_cons pe_str (pa_cons pe_str (pa_cons pe_str (pa_cons pe_str pa_nil)))))) (pe_op op_sub (pv 3) pe_int) (fun _ _ => rfl)) pa_nil))))))))))))))) (pss_one (ps_ret pe_non)), ?_⟩
  · refine ⟨fun pins s' σ H' D I h' => ?_⟩
    obtain ⟨Ech, hW, h1, h2, h3⟩ := h'
    exact (pss_one (ps_expr (act _ pn xe Ech _ _ (takes_len tk) (fun cls d σ' H' e hl => hW cls d σ' H' e hl)))).run pins s' σ H' D I ⟨h1, h2, h3⟩
  · refine ⟨_, fun cls d σ' H2 hE hl => ?_, rfl, hc, h⟩
    obtain ⟨rfl, dd, p, rfl, hx, k⟩ := hE
    obtain ⟨x0, x1, x2, x3, rfl⟩ : ∃ x0 x1 x2 x3, σ' = [x0, x1, x2, x3] := by
      match σ', hl with
      | [x0, x1, x2, x3], _ => exact ⟨x0, x1, x2, x3, rfl⟩
    refine ⟨true, I0.em, fun _ a ha => ?_, fun z => nomatch z⟩
    have three : 3 ≤ sizeLine := by decide
    refine ⟨_, rfl, _, _, _, _, rfl, (fun u h => h), rfl, I0.ex, I0.k0, .inr ⟨dd, _, rfl, hx⟩, _, rfl, _, _, _, _, rfl, (fun u h => h), rfl, I0.ex, I0.k1, .inr ⟨dd, _, rfl, hx⟩, _, rfl, _, _, _, _, rfl, (fun u h => h), rfl, I0.ex, I0.k2, .inr ⟨dd, _, rfl, hx⟩, three, fun p1 n1 => ?_⟩
    have s1 : Same H2 _ := Same.upd_new (o := .lst [.bl true, .bl false, .bl false]) n1
    have hx1 := s1 _ _ hx
    refine ⟨_, rfl, _, rfl, _, _, _, _, rfl, (fun u h => h), rfl, I0.ex, I0.k3, .inr ⟨dd, _, rfl, hx1⟩, _, rfl, _, _, _, _, rfl, (fun u h => h), rfl, I0.ex, I0.k4, .inr ⟨dd, _, rfl, hx1⟩, _, rfl, _, _, _, _, rfl, (fun u h => h), rfl, I0.ex, I0.k5, .inr ⟨dd, _, rfl, hx1⟩, three, fun p2 n2 => ?_⟩
    have s2 := s1.trans (Same.upd_new (o := .lst [.bl false, .bl false, .bl false]) n2)
    refine ⟨p1, p2, _, _, rfl, rfl, (by rw [upd_ne (ne_of_none upd_same n2), upd_same]), upd_same, (by show 6 ≤ sizeLine; decide), fun p3 n3 => ?_⟩
    have s3 := s2.trans (Same.upd_new (o := .lst [.bl true, .bl false, .bl false, .bl false, .bl false, .bl false]) n3)
    have hx3 := s3 _ _ hx
    refine ⟨_, rfl, _, rfl, _, _, _, _, rfl, (fun u h => h), rfl, I0.ex, I0.k6, .inr ⟨dd, _, rfl, hx3⟩, _, rfl, _, _, _, _, rfl, (fun u h => h), rfl, I0.ex, I0.k7, .inr ⟨dd, _, rfl, hx3⟩, _, rfl, _, _, _, _, rfl, (fun u h => h), rfl, I0.ex, I0.k8, .inr ⟨dd, _, rfl, hx3⟩, three, fun p4 n4 => ?_⟩
    have s4 := s3.trans (Same.upd_new (o := .lst [.bl false, .bl false, .bl false]) n4)
    refine ⟨p3, p4, _, _, rfl, rfl, (by rw [upd_ne (ne_of_none upd_same n4)]; exact upd_same), upd_same, (by show 9 ≤ sizeLine; decide), fun p5 n5 => ?_⟩
    have s5 := s4.trans (Same.upd_new (o := .lst [.bl true, .bl false, .bl false, .bl false, .bl false, .bl false, .bl false, .bl false, .bl false]) n5)
    have hx5 := s5 _ _ hx
    refine ⟨_, rfl, .inl ⟨rfl, _, SqL.of upd_same⟩, p5, [true, false, false, false, false, false, false, false, false], rfl, rfl, SqL.of upd_same, rfl, _, rfl, ?_⟩
    refine iteF ?_
    refine ⟨_, rfl, _, _, _, _, rfl, (fun u h => h), rfl, I0.ex, I0.kv, .inr ⟨dd, _, rfl, hx5⟩, _, rfl, ?_⟩
    refine iteF ?_
    refine ⟨_, rfl, .inl ⟨rfl, _, SqL.of upd_same⟩, p5, _, _, 0, _, rfl, rfl, SqL.of upd_same, rfl, rfl, rfl, rfl, fun m z' hm => absurd hm (Nat.not_lt_zero _), ?_⟩
    refine ⟨_, rfl, rfl, _, rfl, ?_⟩
    refine iteT ?_
    refine ⟨_, rfl, rfl, rfl, dd, _, _, rfl, hx5, rfl, two_le, fun t nt => ?_⟩
    exact k _ t (s5.trans (Same.upd_new nt)) upd_same
end
end Half

namespace Half
open PySem PySem.Spec PyProof.Rows L2
/-! ### data of texts, numbers and tuples -/
mutual
inductive TD (K : PySem.W.Frag) (H : Hp) : V → PyData → Prop
  | bl (b : Bool) : TD K H (.bl b) (.bool b)
  | int (i : Int) : TD K H (.int i) (.int i)
  | str (x : Str) : TD K H (.str x) (.str x)
  | tup {a : Addr} {xs : List V} {ds : List PyData} : SqT K H a xs → TDAll K H xs ds → TD K H (.ref a) (.tuple ds)
inductive TDAll (K : PySem.W.Frag) (H : Hp) : List V → List PyData → Prop
  | nil : TDAll K H [] []
  | cons {v : V} {vs : List V} {d : PyData} {ds : List PyData} : TD K H v d → TDAll K H vs ds → TDAll K H (v :: vs) (d :: ds)
end
/-- every tuple stands -/
def Kp (K : PySem.W.Frag) (H H' : Hp) : Prop := ∀ a xs, SqT K H a xs → SqT K H' a xs
theorem _root_.L2.Same.kp {K : PySem.W.Frag} {H H' : Hp} (s : Same H H') : Kp K H H' := fun _ _ h => s.sqT h
theorem Kp.refl {K : PySem.W.Frag} {H : Hp} : Kp K H H := fun _ _ h => h
theorem Kp.trans {K : PySem.W.Frag} {H H1 H2 : Hp} (a : Kp K H H1) (b : Kp K H1 H2) : Kp K H H2 := fun _ _ h => b _ _ (a _ _ h)
theorem Kp.upd {K : PySem.W.Frag} {H : Hp} {p : Addr} {o u : HO} (hp : H p = some o) (h1 : ∀ xs, o ≠ .tup xs) (h2 : ∀ q xs, o ≠ .frz q (.tup xs)) : Kp K H (L2.upd H p u) := fun a xs h => by
  rcases h with (h | ⟨q, h⟩) | h
  · exact .inl (.inl (by rw [upd_ne (ne_of h hp (fun z => h1 _ z.symm))]; exact h))
  · exact .inl (.inr ⟨q, by rw [upd_ne (ne_of h hp (fun z => h2 _ _ z.symm))]; exact h⟩)
  · exact .inr h
mutual
theorem TD.kp {K : PySem.W.Frag} {H H' : Hp} (k : Kp K H H') : ∀ {v : V} {d : PyData}, TD K H v d → TD K H' v d
  | _, _, .bl b => .bl b
  | _, _, .int i => .int i
  | _, _, .str x => .str x
  | _, _, .tup h hs => .tup (k _ _ h) (TDAll.kp k hs)
theorem TDAll.kp {K : PySem.W.Frag} {H H' : Hp} (k : Kp K H H') : ∀ {vs : List V} {ds : List PyData}, TDAll K H vs ds → TDAll K H' vs ds
  | _, _, .nil => .nil
  | _, _, .cons h hs => .cons (TD.kp k h) (TDAll.kp k hs)
end
mutual
theorem TD.dp {K : PySem.W.Frag} {H : Hp} : ∀ {v : V} {d : PyData}, TD K H v d → Dp K H v d
  | _, _, .bl b => .bl b
  | _, _, .int i => .int i
  | _, _, .str x => .str x
  | _, _, .tup h hs => .tup h (TDAll.dp hs)
theorem TDAll.dp {K : PySem.W.Frag} {H : Hp} : ∀ {vs : List V} {ds : List PyData}, TDAll K H vs ds → DpAll K H vs ds
  | _, _, .nil => .nil
  | _, _, .cons h hs => .cons (TD.dp h) (TDAll.dp hs)
end
theorem TDAll.len {K : PySem.W.Frag} {H : Hp} : ∀ {vs : List V} {ds : List PyData}, TDAll K H vs ds → vs.length = ds.length
  | _, _, .nil => rfl
  | _, _, .cons _ hs => congrArg Nat.succ hs.len
theorem TDAll.strs {K : PySem.W.Frag} {H : Hp} : ∀ {vs : List V} {ss : List Str}, TDAll K H vs (ss.map PyData.str) → vs = ss.map V.str
  | _, [], h => by cases h; rfl
  | _, z :: ss, h => by
    cases h with
    | cons h hs =>
      cases h
      rw [TDAll.strs hs]
      rfl
theorem TDAll.pairs {K : PySem.W.Frag} {H : Hp} : ∀ {vs : List V} {ps : List (Str × Int)}, TDAll K H vs (ps.map pairD) → ∃ ts : List Addr, vs = ts.map V.ref ∧ ts.length = ps.length ∧ ∀ (i : Nat) t p, ts[i]? = some t → ps[i]? = some p → SqT K H t [.str p.1, .int p.2]
  | _, [], h => by cases h; exact ⟨[], rfl, rfl, fun i t p h _ => by simp at h⟩
  | _, q :: ps, h => by
    cases h with
    | cons h hs =>
      obtain ⟨ts, rfl, hl, ht⟩ := TDAll.pairs hs
      cases h with
      | @tup a xs ds hq hd =>
        cases hd with
        | cons h1 hd =>
          cases hd with
          | cons h2 hd =>
            cases hd
            cases h1
            cases h2
            refine ⟨a :: ts, rfl, by simp [hl], fun i t p e1 e2 => ?_⟩
            cases i with
            | zero =>
              have z1 : a = t := by simpa using e1
              have z2 : q = p := by simpa using e2
              subst z1 z2
              exact hq
            | succ i => exact ht i t p (by simpa using e1) (by simpa using e2)
theorem TD.strs {K : PySem.W.Frag} {H : Hp} {v : V} {ss : List Str} (h : TD K H v (.tuple (ss.map PyData.str))) : ∃ a, v = .ref a ∧ SqT K H a (ss.map V.str) := by
  cases h with
  | tup hq hd =>
    rw [hd.strs] at hq
    exact ⟨_, rfl, hq⟩
theorem TD.needs {K : PySem.W.Frag} {H : Hp} {v : V} {ps : List (Str × Int)} (h : TD K H v (.tuple (ps.map pairD))) : ∃ a, v = .ref a ∧ NeedsAt K H a ps := by
  cases h with
  | tup hq hd =>
    obtain ⟨ts, rfl, hl, ht⟩ := hd.pairs
    exact ⟨_, rfl, ts, hq, hl, ht⟩
/-! ### displays of written data -/
def Y (K : PySem.W.Frag) (t : TE) (d : PyData) : Prop := ∀ σ H Q, (∀ v H', Same H H' → TD K H' v d → Q v H') → t σ H Q
def YA (K : PySem.W.Frag) (t : TA) (ds : List PyData) : Prop := ∀ σ H Q, (∀ vs H', Same H H' → TDAll K H' vs ds → Q vs H') → t σ H Q
section
variable {K : PySem.W.Frag}
theorem Y.str {z : Str} : Y K (tC (.str z)) (.str z) := fun _ H _ h => h _ H (Same.refl H) (.str z)
theorem Y.int {i : Int} : Y K (tC (.int i)) (.int i) := fun _ H _ h => h _ H (Same.refl H) (.int i)
theorem Y.bl {b : Bool} : Y K (tC (.bl b)) (.bool b) := fun _ H _ h => h _ H (Same.refl H) (.bl b)
theorem YA.nil : YA K tNil [] := fun _ H _ h => h _ H (Same.refl H) .nil
theorem YA.cons {t : TE} {ts : TA} {d : PyData} {ds : List PyData} (a : Y K t d) (b : YA K ts ds) : YA K (tCons t ts) (d :: ds) := fun σ H Q h =>
  a σ H _ fun v H1 s1 t1 => b σ H1 _ fun vs H2 s2 t2 => h (v :: vs) H2 (s1.trans s2) (.cons (t1.kp s2.kp) t2)
theorem Y.tup {ta : TA} {ds : List PyData} (a : YA K ta ds) (hl : ds.length ≤ 100 := by simp) : Y K (tTup ta) (.tuple ds) := fun σ H Q h =>
  a σ H _ fun vs H1 s1 t1 => ⟨by rw [t1.len, sizeLine_eq]; omega, fun p hp => h (.ref p) _ (s1.trans (Same.upd_new hp)) (.tup (.inl (.inl upd_same)) (t1.kp (Same.upd_new hp).kp))⟩
end
/-! ### d[k] = v as a target -/
theorem set_dict {X : Cx} (hu : X.A.units + 1 < cLine) : PSet X (fun o i v H Q => ∃ a H4, o = .ref a ∧ DPut H a i v H4 ∧ Q H4) := by
  intro pins s σ H o i v ov iv u Q I ro ri rv h
  obtain ⟨a, H4, rfl, g, q⟩ := h
  cases ro
  exact d_setItem hu I g ri rv fun s4 I4 => ⟨H4, I4, q⟩
/-! ### one of a list, drawn -/
def spPick (K : PySem.W.Frag) : Sp := fun vs H Q _ => ∃ (r l : Addr) (xs : List V), vs = [.ref r, .ref l] ∧ Row K H r ∧ SqL K H l xs ∧ r ≠ l ∧ 0 < xs.length ∧ xs.length ≤ 1000 ∧
  ∀ (i : Nat) (x : V) (o : HO), xs[i]? = some x → Row K (upd H r o) r → Q x (upd H r o)
section
variable {P : Program} {w : World} {K : PySem.W.Frag} {mg : Str → Option Value} {base : Heap}
theorem scPick : FnScope ["_law_row", "_law_some"] ["_law_row", "_law_some"] (defScope sPick) := ⟨rfl, rfl, rfl, by decide +kernel, rfl, by decide +kernel, by decide +kernel⟩
theorem ok_pick {f : Addr} {fd : FuncData} (F : Fun K "_law_pick" "_law_pick" sPick f fd) (T : TxtD mg) (dT : Def P w K mg base 1 "_law_taken" ["_law_row", "_law_many"] (spTaken K)) : FnOk P w K mg base CX0 2 f fd ["_law_row", "_law_some"] (spPick K) := by
  refine F.ok scPick (fun vs H Q E h => ?_) (fun cdv A outer s H vs Q E hr h => ?_)
  · obtain ⟨r, l, xs, rfl, _⟩ := h
    rfl
  · obtain ⟨r, l, xs, rfl, hR, hS, hne, h0, h1, k⟩ := h
    refine ⟨_, pss_one (ps_ret (pe_ix ix_list (pv 1) (pe_def dT hr rfl (pa_cons (pv 0) (pa_cons (pe_callB call_len_seq (by rfl) T.len PySem.boot_len (pa_cons (pv 1) pa_nil)) pa_nil))) (fun _ _ => rfl))), ?_⟩
    refine ⟨_, rfl, _, rfl, _, rfl, l, xs, rfl, .inl hS, r, _, rfl, hR, by omega, by omega, fun v o hv0 hv1 hR' => ?_⟩
    have hi : v.toNat < xs.length := by omega
    refine ⟨l, xs, v, _, rfl, rfl, seqNe hS hne, ?_, k v.toNat _ o (List.getElem?_eq_getElem hi) hR'⟩
    have e : atI xs ((v.toNat : Nat) : Int) = some xs[v.toNat] := atI_nat (List.getElem?_eq_getElem hi)
    rwa [show ((v.toNat : Nat) : Int) = v by omega] at e
end
end Half

namespace Half
open PySem PySem.Spec PyProof.Rows L2
abbrev sParts : Stmt := top 32
/-! ### what is drawn: 0 to 3 an odd value, 4 the right one -/
def pn (j : Nat) : Str := (["name", "version", "scripts", "needs", "first", "against"] : List Str).getD j ""
def nmO (k : Nat) : Str := (["", "Db", "abcdefghi", "d b", "db"] : List Str).getD k ""
def verO (v : Int) (k : Nat) : V := ([.int 0, .int 100, .int (-1), .bl true, .int v] : List V).getD k .non
def scrO (k : Nat) : List Str := ([["setup", "enter"], ["run"], ["enter", "enter"], ["", "setup"], ["enter", "setup"]] : List (List Str)).getD k []
def neeO (k : Nat) : List (Str × Int) := ([[("db", 1)], [("lib", 0)], [("zoo", 1), ("lib", 1)], [("lib", 1), ("lib", 2)], [("lib", 2)]] : List (List (Str × Int))).getD k []
def firO (k : Nat) : List (Str × Int) := ([[("lib", 100)], [("Lib", 1)], [("web", 1), ("lib", 1)], [("db", 3)], [("lib", 1), ("web", 99)]] : List (List (Str × Int))).getD k []
def agaO (k : Nat) : List Str := ([["db"], ["zoo", "lib"], ["lib", "lib"], [""], ["lib", "zoo"]] : List (List Str)).getD k []
def partD (v : Int) (j k : Nat) : PyData := match j with
  | 0 => .str (nmO k)
  | 1 => verD (verO v k)
  | 2 => .tuple ((scrO k).map PyData.str)
  | 3 => .tuple ((neeO k).map pairD)
  | 4 => .tuple ((firO k).map pairD)
  | _ => .tuple ((agaO k).map PyData.str)
def edO (v : Int) (c : Nat → Nat) : Ed := ⟨nmO (c 0), verO v (c 1), scrO (c 2), neeO (c 3), firO (c 4), agaO (c 5)⟩
def wr (c : Nat → Nat) : Option Str := if c 0 ≠ 4 then some "name" else if c 1 ≠ 4 then some "version" else if c 2 ≠ 4 then some "scripts" else if c 3 ≠ 4 then some "needs" else if c 4 ≠ 4 then some "first" else if c 5 ≠ 4 then some "against" else none
def set1 (c : Nat → Nat) (i k : Nat) : Nat → Nat := fun j => if j = i then k else c j
theorem wr_set {c : Nat → Nat} {i k : Nat} (hi : i < 6) (h : ∀ j, i ≤ j → c j = 4) (hk : k < 4) : wr (set1 c i k) = match wr c with | none => some (pn i) | some p => some p := by
  have hk' : k ≠ 4 := by omega
  match i, hi with
  | 0, _ =>
    have h0 := h 0 (by omega); have h1 := h 1 (by omega); have h2 := h 2 (by omega); have h3 := h 3 (by omega); have h4 := h 4 (by omega); have h5 := h 5 (by omega)
    simp [wr, set1, h0, h1, h2, h3, h4, h5, hk', pn]
  | 1, _ =>
    have h1 := h 1 (by omega); have h2 := h 2 (by omega); have h3 := h 3 (by omega); have h4 := h 4 (by omega); have h5 := h 5 (by omega)
    by_cases c0 : c 0 = 4 <;> simp [wr, set1, c0, h1, h2, h3, h4, h5, hk', pn]
  | 2, _ =>
    have h2 := h 2 (by omega); have h3 := h 3 (by omega); have h4 := h 4 (by omega); have h5 := h 5 (by omega)
    by_cases c0 : c 0 = 4 <;> by_cases c1 : c 1 = 4 <;> simp [wr, set1, c0, c1, h2, h3, h4, h5, hk', pn]
  | 3, _ =>
    have h3 := h 3 (by omega); have h4 := h 4 (by omega); have h5 := h 5 (by omega)
    by_cases c0 : c 0 = 4 <;> by_cases c1 : c 1 = 4 <;> by_cases c2 : c 2 = 4 <;> simp [wr, set1, c0, c1, c2, h3, h4, h5, hk', pn]
  | 4, _ =>
    have h4 := h 4 (by omega); have h5 := h 5 (by omega)
    by_cases c0 : c 0 = 4 <;> by_cases c1 : c 1 = 4 <;> by_cases c2 : c 2 = 4 <;> by_cases c3 : c 3 = 4 <;> simp [wr, set1, c0, c1, c2, c3, h4, h5, hk', pn]
  | 5, _ =>
    have h5 := h 5 (by omega)
    by_cases c0 : c 0 = 4 <;> by_cases c1 : c 1 = 4 <;> by_cases c2 : c 2 = 4 <;> by_cases c3 : c 3 = 4 <;> by_cases c4 : c 4 = 4 <;> simp [wr, set1, c0, c1, c2, c3, c4, h5, hk', pn]
def kv6 (vs : Nat → V) : List (Key × V) := [(.inr "name", vs 0), (.inr "version", vs 1), (.inr "scripts", vs 2), (.inr "needs", vs 3), (.inr "first", vs 4), (.inr "against", vs 5)]
def setV (vs : Nat → V) (i : Nat) (x : V) : Nat → V := fun j => if j = i then x else vs j
theorem putK6 {vs : Nat → V} {i : Nat} {x : V} (hi : i < 6) : putK (kv6 vs) (.inr (pn i)) x = kv6 (setV vs i x) := by
  match i, hi with
  | 0, _ => rfl
  | 1, _ => rfl
  | 2, _ => rfl
  | 3, _ => rfl
  | 4, _ => rfl
  | 5, _ => rfl
/-- the parts at d -/
def Parts (K : PySem.W.Frag) (H : Hp) (d : Addr) (ver : Int) (c : Nat → Nat) : Prop := ∃ vs : Nat → V, H d = some (.dK (kv6 vs)) ∧ ∀ j, j < 6 → TD K H (vs j) (partD ver j (c j))
/-- the odd values at o -/
structure Odd (K : PySem.W.Frag) (H : Hp) (o : Addr) (ver : Int) (r d : Addr) : Prop where
  ex : ∃ kvs, H o = some (.dK kvs) ∧ ∀ j, j < 6 → ∃ L vs, valV kvs (.inr (pn j)) = some (.ref L) ∧ H L = some (.lst vs) ∧ L ≠ r ∧ L ≠ d ∧ TDAll K H vs [partD ver j 0, partD ver j 1, partD ver j 2, partD ver j 3]
  nr : o ≠ r
  nd : o ≠ d
theorem Odd.upd {K : PySem.W.Frag} {H : Hp} {o r d p : Addr} {ver : Int} {u : HO} (h : Odd K H o ver r d) (hp : p = r ∨ p = d) (k : Kp K H (L2.upd H p u)) : Odd K (L2.upd H p u) o ver r d := by
  obtain ⟨⟨kvs, h1, h2⟩, nr, nd⟩ := h
  have no : o ≠ p := by rcases hp with e | e <;> rw [e] <;> assumption
  refine ⟨⟨kvs, by rw [upd_ne no]; exact h1, fun j hj => ?_⟩, nr, nd⟩
  obtain ⟨L, vs, a1, a2, a3, a4, a5⟩ := h2 j hj
  have nL : L ≠ p := by rcases hp with e | e <;> rw [e] <;> assumption
  exact ⟨L, vs, a1, by rw [upd_ne nL]; exact a2, a3, a4, a5.kp k⟩
def spParts (K : PySem.W.Frag) : Sp := fun vs H Q _ => ∃ r, vs = [.ref r] ∧ Row K H r ∧ ∀ (d t : Addr) (ver : Int) (c : Nat → Nat) (H' : Hp), 1 ≤ ver → ver ≤ 99 → (∀ j, c j ≤ 4) → SameBut r H H' → Row K H' r →
  H' t = some (.tup [.ref d, optV (wr c)]) → Parts K H' d ver c → H d = none → Q (.ref t) H'
theorem Row.same {K : PySem.W.Frag} {H H' : Hp} {r : Addr} (s : Same H H') (h : Row K H r) : Row K H' r := by
  obtain ⟨a, ns, i, g, l, h1, h2, h3⟩ := h
  exact ⟨a, ns, i, g, l, s _ _ h1, s.seq h2, h3⟩
/-- an item of a display -/
theorem y_item {K : PySem.W.Frag} {t : TE} {ts : TA} {d : PyData} {σ : L2.St} {H : Hp} {Q : List V → Hp → Prop} (y : Y K t d) (h : ∀ v H', Same H H' → TD K H' v d → ts σ H' fun vs H2 => Q (v :: vs) H2) : tCons t ts σ H Q :=
  y σ H _ h
theorem y_pair {K : PySem.W.Frag} {tv : TE} {trs : List (TE × TE)} {z : Str} {d : PyData} {σ : L2.St} {H : Hp} {Q : List (V × V) → Hp → Prop} (y : Y K tv d) (h : ∀ v H', Same H H' → TD K H' v d → tPairs trs σ H' fun ps H3 => Q ((.str z, v) :: ps) H3) : tPairs ((tC (.str z), tv) :: trs) σ H Q :=
  y σ H _ h
/-- a list display -/
def YL (K : PySem.W.Frag) (t : TE) (ds : List PyData) : Prop := ∀ σ H Q, (∀ vs H' p, Same H H' → TDAll K H' vs ds → H' p = none → Q (.ref p) (upd H' p (.lst vs))) → t σ H Q
theorem YL.mk {K : PySem.W.Frag} {ta : TA} {ds : List PyData} (a : YA K ta ds) (hl : ds.length ≤ 100 := by simp) : YL K (tLst ta) ds := fun σ H Q h =>
  a σ H _ fun vs H1 s1 t1 => ⟨by rw [t1.len, sizeLine_eq]; omega, fun p hp => h vs H1 p s1 t1 hp⟩
theorem yl_pair {K : PySem.W.Frag} {tv : TE} {trs : List (TE × TE)} {z : Str} {ds : List PyData} {σ : L2.St} {H : Hp} {Q : List (V × V) → Hp → Prop} (y : YL K tv ds) (h : ∀ vs H' p, Same H H' → TDAll K H' vs ds → H' p = none → tPairs trs σ (upd H' p (.lst vs)) fun ps H3 => Q ((.str z, .ref p) :: ps) H3) : tPairs ((tC (.str z), tv) :: trs) σ H Q :=
  y σ H _ h
theorem yl_dput {K : PySem.W.Frag} {tv td ty : TE} {ds : List PyData} {D : Ends} {σ : L2.St} {H : Hp} (y : YL K tv ds) (h : ∀ vs H' p, Same H H' → TDAll K H' vs ds → H' p = none → td σ (upd H' p (.lst vs)) fun x H2 => ty σ H2 fun i H3 => ∃ a H4, x = .ref a ∧ DPut H3 a i (.ref p) H4 ∧ D.nx σ H4) : sDPut td ty tv D σ H :=
  y σ H _ h
theorem yt_asg {K : PySem.W.Frag} {ta : TA} {g : TG} {ds : List PyData} {D : Ends} {σ : L2.St} {H : Hp} (y : YA K ta ds) (hl : ds.length ≤ 100) (h : ∀ vs H' p, Same H H' → TDAll K H' vs ds → H' p = none → g (.ref p) σ (upd H' p (.tup vs)) D.nx) : tAsg (tTup ta) g D σ H :=
  y σ H _ fun vs H1 s1 t1 => ⟨by rw [t1.len, sizeLine_eq]; omega, fun p hp => h vs H1 p s1 t1 hp⟩
abbrev yPair {K : PySem.W.Frag} {z : Str} {i : Int} : Y K (tTup (tCons (tC (.str z)) (tCons (tC (.int i)) tNil))) (pairD (z, i)) := Y.tup (.cons .str (.cons .int .nil))
/-- from one heap to a later one: all stands but what is at x, and every tuple stands -/
structure Go (K : PySem.W.Frag) (x : Addr) (H H' : Hp) : Prop where
  sb : SameBut x H H'
  kp : Kp K H H'
theorem Go.of {K : PySem.W.Frag} {x : Addr} {H H' : Hp} (s : Same H H') : Go K x H H' := ⟨fun b o _ h => s b o h, s.kp⟩
theorem Go.trans {K : PySem.W.Frag} {x : Addr} {H H1 H2 : Hp} (a : Go K x H H1) (b : Go K x H1 H2) : Go K x H H2 := ⟨fun c o n h => b.sb c o n (a.sb c o n h), a.kp.trans b.kp⟩
theorem Go.upd {K : PySem.W.Frag} {x : Addr} {H : Hp} {kvs : List (Key × V)} {u : HO} (h : H x = some (.dK kvs)) : Go K x H (L2.upd H x u) :=
  ⟨fun b o n q => by rw [upd_ne n]; exact q, Kp.upd h (fun xs z => by cases z) (fun q xs z => by cases z)⟩
theorem Go.updL {K : PySem.W.Frag} {x : Addr} {H : Hp} {xs : List V} {u : HO} (h : H x = some (.lst xs)) : Go K x H (L2.upd H x u) :=
  ⟨fun b o n q => by rw [upd_ne n]; exact q, Kp.upd h (fun xs z => by cases z) (fun q xs z => by cases z)⟩
theorem Go.row {K : PySem.W.Frag} {x r : Addr} {H H' : Hp} {kvs : List (Key × V)} (g : Go K x H H') (hx : H x = some (.dK kvs)) (h : Row K H r) : Row K H' r := by
  obtain ⟨a, ns, i, g', l, h1, h2, h3⟩ := h
  refine ⟨a, ns, i, g', l, g.sb _ _ (ne_of h1 hx (by intro z; cases z)) h1, ?_, h3⟩
  rcases h2 with (h | ⟨o, h⟩) | h
  · exact .inl (.inl (g.sb _ _ (ne_of h hx (by intro z; cases z)) h))
  · exact .inl (.inr ⟨o, g.sb _ _ (ne_of h hx (by intro z; cases z)) h⟩)
  · exact .inr h
theorem Row.at_ {K : PySem.W.Frag} {H : Hp} {r : Addr} (h : Row K H r) : ∃ xs, H r = some (.lst xs) := by
  obtain ⟨a, ns, i, g', l, h1, _⟩ := h
  exact ⟨_, h1⟩
/-- a list of the odd values -/
structure LF (K : PySem.W.Frag) (H7 H : Hp) (o L : Addr) (ds : List PyData) : Prop where
  ex : ∃ w, H L = some (.lst w) ∧ TDAll K H w ds
  no : L ≠ o
  nw : H7 L = none
theorem LF.go {K : PySem.W.Frag} {H7 H H' : Hp} {o L : Addr} {ds : List PyData} (g : Go K o H H') (h : LF K H7 H o L ds) : LF K H7 H' o L ds := by
  obtain ⟨⟨w, h1, h2⟩, no, nw⟩ := h
  exact ⟨⟨w, g.sb _ _ no h1, h2.kp g.kp⟩, no, nw⟩
theorem put_go {K : PySem.W.Frag} {H H' : Hp} {o L : Addr} {w : List V} {kvs kvs' : List (Key × V)} (s : Same H H') (n : H' L = none) (ho : H o = some (.dK kvs)) : Go K o H (upd (upd H' L (.lst w)) o (.dK kvs')) :=
  (Go.of (s.trans (Same.upd_new n))).trans (Go.upd ((s.trans (Same.upd_new n)) _ _ ho))
theorem put_lf {K : PySem.W.Frag} {H7 H H' : Hp} {o L : Addr} {w : List V} {ds : List PyData} {kvs kvs' : List (Key × V)} (s : Same H H') (n : H' L = none) (ho : H o = some (.dK kvs)) (t : TDAll K H' w ds) (h7 : SameBut o H7 H) (h7o : H7 o = none) : LF K H7 (upd (upd H' L (.lst w)) o (.dK kvs')) o L ds := by
  have hL : L ≠ o := fun z => by rw [z, s _ _ ho] at n; cases n
  refine ⟨⟨w, by rw [upd_ne hL, upd_same], (t.kp (Same.upd_new n).kp).kp (Go.upd (K := K) ((s.trans (Same.upd_new n)) _ _ ho)).kp⟩, hL, ?_⟩
  cases q : H7 L with
  | none => rfl
  | some u =>
    rw [s _ _ (h7 L u hL q)] at n
    cases n
theorem TDAll.get {K : PySem.W.Frag} {H : Hp} : ∀ {vs : List V} {ds : List PyData} {i : Nat} {d : PyData}, TDAll K H vs ds → ds[i]? = some d → ∃ x, vs[i]? = some x ∧ TD K H x d
  | _, _, _, _, .nil, h => by simp at h
  | _, _, 0, d, .cons h _, e => by
    have z := Option.some.inj (by simpa using e)
    subst z
    exact ⟨_, rfl, h⟩
  | _, _, i + 1, d, .cons _ hs, e => by
    obtain ⟨x, h1, h2⟩ := TDAll.get (i := i) (d := d) hs (by simpa using e)
    exact ⟨x, by simpa using h1, h2⟩
theorem four_get {ver : Int} {i k : Nat} (hk : k < 4) : ([partD ver i 0, partD ver i 1, partD ver i 2, partD ver i 3] : List PyData)[k]? = some (partD ver i k) := by
  match k, hk with
  | 0, _ => rfl
  | 1, _ => rfl
  | 2, _ => rfl
  | 3, _ => rfl
/-- what holds between two turns -/
structure Turn (K : PySem.W.Frag) (H H' : Hp) (r d o TT : Addr) (ver : Int) (c : Nat → Nat) : Prop where
  le : ∀ j, c j ≤ 4
  row : Row K H' r
  parts : Parts K H' d ver c
  odd : Odd K H' o ver r d
  sb : SameBut r H H'
  tt : H' TT = some (.tup ((["name", "version", "scripts", "needs", "first", "against"] : List Str).map V.str))
  nrd : r ≠ d
/-- .. behind a draw -/
theorem Turn.draw {K : PySem.W.Frag} {H H' : Hp} {r d o TT : Addr} {ver : Int} {c : Nat → Nat} {u : HO} (t : Turn K H H' r d o TT ver c) (hR : Row K (upd H' r u) r) : Turn K H (upd H' r u) r d o TT ver c := by
  obtain ⟨xs, hr⟩ := t.row.at_
  have g : Go K r H' (upd H' r u) := Go.updL hr
  obtain ⟨vs, h1, h2⟩ := t.parts
  exact ⟨t.le, hR, ⟨vs, g.sb _ _ (Ne.symm t.nrd) h1, fun j hj => (h2 j hj).kp g.kp⟩, t.odd.upd (.inl rfl) g.kp, fun b o' n q => g.sb _ _ n (t.sb b o' n q), g.sb _ _ (ne_of t.tt hr (by intro z; cases z)) t.tt, t.nrd⟩
section
variable {P : Program} {w : World} {K : PySem.W.Frag} {mg : Str → Option Value} {base : Heap}
theorem scParts : FnScope ["_law_row", "_law_parts_here", "_law_odd", "_law_wrong", "_law_part"] ["_law_row"] (defScope sParts) := ⟨rfl, rfl, rfl, by decide +kernel, rfl, by decide +kernel, by decide +kernel⟩
theorem ok_parts {f : Addr} {fd : FuncData} (F : Fun K "_law_parts" "_law_parts" sParts f fd) (dT : Def P w K mg base 1 "_law_taken" ["_law_row", "_law_many"] (spTaken K)) : FnOk P w K mg base CX0 2 f fd ["_law_row"] (spParts K) := by
  refine F.ok scParts (fun vs H Q E h => ?_) (fun cdv A outer s H vs Q E hr h => ?_)
  · obtain ⟨r, rfl, _⟩ := h
    rfl
  · obtain ⟨r, rfl, hR, k⟩ := h
    have nd := scParts.nd
    have hu := hu_of hr
    refine ⟨_, pss_cons (ps_set (i := 1) nd rfl (Or.inl rfl) (pe_disp (pps_cons pe_str pe_str (pps_cons pe_str (pe_op op_add pe_int (pe_def dT hr rfl (pa_cons (pv 0) (pa_cons pe_int pa_nil))))
          (pps_cons pe_str (pe_tup (pa_cons pe_str (pa_cons pe_str pa_nil))) (pps_cons pe_str (pe_tup (pa_cons (pe_tup (pa_cons pe_str (pa_cons pe_int pa_nil))) pa_nil)) pps_nil)))) (by rfl) (by rfl) (fun z => by cases z) (by decide)))
      (pss_cons (ps_asg (pe_tup (pa_cons (pe_tup (pa_cons (pe_tup (pa_cons pe_str (pa_cons pe_int pa_nil))) (pa_cons (pe_tup (pa_cons pe_str (pa_cons pe_int pa_nil))) pa_nil))) (pa_cons (pe_tup (pa_cons pe_str (pa_cons pe_str pa_nil))) pa_nil)))
          (pg_tup rfl (pgs_cons (pg_sub (pv 1) pe_str (set_dict hu)) (pgs_cons (pg_sub (pv 1) pe_str (set_dict hu)) pgs_nil))))
      (pss_cons (ps_set (i := 2) nd rfl (Or.inl rfl) (pe_disp (pps_cons pe_str (pe_lst (pa_cons pe_str (pa_cons pe_str (pa_cons pe_str (pa_cons pe_str pa_nil)))))
          (pps_cons pe_str (pe_lst (pa_cons pe_int (pa_cons pe_int (pa_cons (pe_un un_neg pe_int) (pa_cons pe_bl pa_nil))))) pps_nil)) (by rfl) (by rfl) (fun z => by cases z) (by decide)))
      (pss_cons (ps_dput hu (pv 2) pe_str (pe_lst (pa_cons (pe_tup (pa_cons pe_str pa_nil)) (pa_cons (pe_tup (pa_cons pe_str (pa_cons pe_str pa_nil))) (pa_cons (pe_tup (pa_cons pe_str (pa_cons pe_str pa_nil))) (pa_cons (pe_tup (pa_cons pe_str pa_nil)) pa_nil))))) rfl)
      (pss_cons (ps_dput hu (pv 2) pe_str (pe_lst (pa_cons (pe_tup (pa_cons pe_str (pa_cons pe_str pa_nil))) (pa_cons (pe_tup (pa_cons pe_str pa_nil)) (pa_cons (pe_tup (pa_cons pe_str (pa_cons pe_str pa_nil))) (pa_cons (pe_tup (pa_cons pe_str (pa_cons pe_str pa_nil))) pa_nil))))) rfl)
      (pss_cons (ps_dput hu (pv 2) pe_str (pe_lst (pa_cons (pe_tup (pa_cons (pe_tup (pa_cons pe_str (pa_cons pe_int pa_nil))) pa_nil)) (pa_cons (pe_tup (pa_cons (pe_tup (pa_cons pe_str (pa_cons pe_int pa_nil))) pa_nil))
          (pa_cons (pe_tup (pa_cons (pe_tup (pa_cons pe_str (pa_cons pe_int pa_nil))) (pa_cons (pe_tup (pa_cons pe_str (pa_cons pe_int pa_nil))) pa_nil))) (pa_cons (pe_tup (pa_cons (pe_tup (pa_cons pe_str (pa_cons pe_int pa_nil))) (pa_cons (pe_tup (pa_cons pe_str (pa_cons pe_int pa_nil))) pa_nil))) pa_nil))))) rfl)
      (pss_cons (ps_dput hu (pv 2) pe_str (pe_lst (pa_cons (pe_tup (pa_cons (pe_tup (pa_cons pe_str (pa_cons pe_int pa_nil))) pa_nil)) (pa_cons (pe_tup (pa_cons (pe_tup (pa_cons pe_str (pa_cons pe_int pa_nil))) pa_nil))
          (pa_cons (pe_tup (pa_cons (pe_tup (pa_cons pe_str (pa_cons pe_int pa_nil))) (pa_cons (pe_tup (pa_cons pe_str (pa_cons pe_int pa_nil))) pa_nil))) (pa_cons (pe_tup (pa_cons (pe_tup (pa_cons pe_str (pa_cons pe_int pa_nil))) pa_nil)) pa_nil))))) rfl)
      (pss_cons (ps_set (i := 3) nd rfl (Or.inl rfl) pe_non)
      (pss_cons (ps_for PassesOwn.never rfl (pi_tup (pe_tup (pa_cons pe_str (pa_cons pe_str (pa_cons pe_str (pa_cons pe_str (pa_cons pe_str (pa_cons pe_str pa_nil)))))))) (pg_name (i := 4) nd rfl (Or.inl rfl))
          (pss_one (ps_if (pt_cmpR op_eq (pe_def dT hr rfl (pa_cons (pv 0) (pa_cons pe_int pa_nil))) pe_int (nomark _))
            (pss_cons (ps_dput hu (pv 1) (pv 4) (pe_ix ix_list (pe_dget hu (pv 2) (pv 4) (fun _ _ => rfl)) (pe_def dT hr rfl (pa_cons (pv 0) (pa_cons pe_int pa_nil))) (fun _ _ => rfl)) rfl)
            (pss_one (ps_set (i := 3) nd rfl (Or.inl rfl) (pe_ifExp (pt_cmp (pc_isN (pv 3))) (pv 4) (pv 3))))) pss_nil)))
      (pss_one (ps_ret (pe_tup (pa_cons (pv 1) (pa_cons (pv 3) pa_nil))))))))))))), ?_⟩
    refine fun d hd => ?_
    have hR0 : Row K (upd H d (.dK [])) r := hR.same (Same.upd_new hd)
    refine ⟨_, rfl, r, 99, rfl, hR0, by decide, by decide, fun v1 o1 hv0 hv1 hR1 => ⟨_, _, rfl, rfl, ?_⟩⟩
    refine y_pair (Y.tup (K := K) (YA.cons Y.str (YA.cons Y.str YA.nil))) (fun v2 H2 s2 t2 => ?_)
    refine y_pair (Y.tup (K := K) (YA.cons yPair YA.nil)) (fun v3 H3 s3 t3 => ?_)
    obtain ⟨xr, hr0⟩ := hR.at_
    have nrd : r ≠ d := ne_of_none hr0 hd
    have hd1 : (upd (upd H d (.dK [])) r o1) d = some (.dK []) := by rw [upd_ne (Ne.symm nrd), upd_same]
    have hd3 := s3 _ _ (s2 _ _ hd1)
    have hR3 := (hR1.same s2).same s3
    have sb3 : SameBut r H H3 := fun b ob n q => s3 _ _ (s2 _ _ (by rw [upd_ne n, upd_ne (ne_of_none q hd)]; exact q))
    refine ⟨hd3, [(.inr "name", .str "db"), (.inr "version", .int (1 + v1)), (.inr "scripts", v2), (.inr "needs", v3)], rfl, by show 4 ≤ 15; decide, ?_⟩
    have g4 : Go K d H3 _ := Go.upd (u := .dK [(.inr "name", .str "db"), (.inr "version", .int (1 + v1)), (.inr "scripts", v2), (.inr "needs", v3)]) hd3
    have hR4 := g4.row hd3 hR3
    refine yt_asg (K := K) (YA.cons (Y.tup (YA.cons yPair (YA.cons yPair YA.nil))) (YA.cons (Y.tup (YA.cons Y.str (YA.cons Y.str YA.nil))) YA.nil)) (by decide) (fun vs5 H5 p5 s5 t5 n5 => ?_)
    cases t5 with
    | @cons v4 _ _ _ t4 t5 =>
    cases t5 with
    | @cons v5 _ _ _ t5 t6 =>
    cases t6
    have s5' := s5.trans (Same.upd_new (o := .tup [v4, v5]) n5)
    have hd5 := s5' _ _ (upd_same (H := H3) (a := d) (o := .dK [(.inr "name", .str "db"), (.inr "version", .int (1 + v1)), (.inr "scripts", v2), (.inr "needs", v3)]))
    refine ⟨p5, _, rfl, .inl (.inl upd_same), rfl, v4, _, rfl, _, rfl, d, _, rfl, DPut.k (k := .inr "first") hd5 (by show 4 < sizeLine; decide), v5, _, rfl, _, rfl, d, _, rfl, DPut.k (k := .inr "against") upd_same (by show 5 < sizeLine; decide), rfl, ?_⟩
    rw [upd_upd]
    have g7 : Go K d (upd H5 p5 (.tup [v4, v5])) _ := Go.upd (u := .dK (putK (putK [(.inr "name", .str "db"), (.inr "version", .int (1 + v1)), (.inr "scripts", v2), (.inr "needs", v3)] (.inr "first") v4) (.inr "against") v5)) hd5
    have hd7 : (upd (upd H5 p5 (.tup [v4, v5])) d (.dK (putK (putK [(.inr "name", .str "db"), (.inr "version", .int (1 + v1)), (.inr "scripts", v2), (.inr "needs", v3)] (.inr "first") v4) (.inr "against") v5))) d
        = some (.dK (kv6 (fun j => match j with | 0 => .str "db" | 1 => .int (1 + v1) | 2 => v2 | 3 => v3 | 4 => v4 | _ => v5))) := by rw [upd_same]; rfl
    have G5 : Go K d H3 (upd H5 p5 (.tup [v4, v5])) := g4.trans (Go.of s5')
    have td7 : ∀ j, j < 6 → TD K (upd (upd H5 p5 (.tup [v4, v5])) d (.dK (putK (putK [(.inr "name", .str "db"), (.inr "version", .int (1 + v1)), (.inr "scripts", v2), (.inr "needs", v3)] (.inr "first") v4) (.inr "against") v5)))
        ((fun j => match j with | 0 => .str "db" | 1 => .int (1 + v1) | 2 => v2 | 3 => v3 | 4 => v4 | _ => v5) j) (partD (1 + v1) j 4) := fun j hj => by
      match j, hj with
      | 0, _ => exact .str _
      | 1, _ => exact .int _
      | 2, _ => exact (t2.kp s3.kp).kp (G5.trans g7).kp
      | 3, _ => exact t3.kp (G5.trans g7).kp
      | 4, _ => exact (t4.kp (Same.upd_new n5).kp).kp g7.kp
      | 5, _ => exact (t5.kp (Same.upd_new n5).kp).kp g7.kp
    have G7 := G5.trans g7
    generalize (fun j => match j with | 0 => V.str "db" | 1 => V.int (1 + v1) | 2 => v2 | 3 => v3 | 4 => v4 | _ => v5 : Nat → V) = vsf at *
    generalize upd (upd H5 p5 (.tup [v4, v5])) d (.dK (putK (putK [(.inr "name", .str "db"), (.inr "version", .int (1 + v1)), (.inr "scripts", v2), (.inr "needs", v3)] (.inr "first") v4) (.inr "against") v5)) = H7 at *
    have hR7 : Row K H7 r := G7.row hd3 hR3
    have sb7 : SameBut r H H7 := fun b ob n q => G7.sb _ _ (ne_of_none q hd) (sb3 b ob n q)
    clear g7 G5 G7 s5' hd5 t4 t5 n5 s5 t2 t3 hR4 g4 hd3 hR3 sb3
    refine fun o ho => ?_
    refine yl_pair (K := K) (YL.mk (YA.cons Y.str (YA.cons Y.str (YA.cons Y.str (YA.cons Y.str YA.nil))))) (fun w0 H8 L0 s8 t8 n8 => ?_)
    refine yl_pair (K := K) (ds := [.int 0, .int 100, .int (-1), .bool true]) (YL.mk (YA.cons Y.int (YA.cons Y.int (YA.cons (fun _ H _ h => ⟨1, rfl, h _ H (Same.refl H) (.int _)⟩) (YA.cons Y.bl YA.nil))))) (fun w1 H9 L1 s9 t9 n9 => ?_)
    have a1 := (s8.trans (Same.upd_new (o := .lst w0) n8)).trans (s9.trans (Same.upd_new (o := .lst w1) n9))
    have ho9 := a1 _ _ (upd_same (H := H7) (a := o) (o := .dK []))
    have so : Same H7 (upd H7 o (.dK [])) := Same.upd_new ho
    refine ⟨ho9, [(.inr "name", .ref L0), (.inr "version", .ref L1)], rfl, by show 2 ≤ 15; decide, ?_⟩
    have b0 := s9.trans (Same.upd_new (o := .lst w1) n9)
    have l0 := b0 _ _ (upd_same (H := H8) (a := L0) (o := .lst w0))
    have l1 : (upd H9 L1 (.lst w1)) L1 = some (.lst w1) := upd_same
    have c0 := (t8.kp (Same.upd_new (o := .lst w0) n8).kp).kp b0.kp
    have c1 := t9.kp (Same.upd_new (o := .lst w1) n9).kp
    have g10 : Go K o (upd H9 L1 (.lst w1)) _ := Go.upd (u := .dK [(.inr "name", .ref L0), (.inr "version", .ref L1)]) ho9
    have gA : Go K o (upd H7 o (.dK [])) (upd (upd H9 L1 (.lst w1)) o (.dK [(.inr "name", .ref L0), (.inr "version", .ref L1)])) := (Go.of a1).trans g10
    have sbA : SameBut o H7 (upd (upd H9 L1 (.lst w1)) o (.dK [(.inr "name", .ref L0), (.inr "version", .ref L1)])) := fun b u n q => gA.sb _ _ n (so _ _ q)
    have fr : ∀ {L : Addr} {Hm : Hp}, Same (upd H7 o (.dK [])) Hm → Hm L = none → L ≠ o ∧ H7 L = none := fun {L Hm} sm n => by
      have h1 : (upd H7 o (.dK [])) L = none := sm.free n
      have h2 : L ≠ o := fun z => by rw [z, upd_same] at h1; cases h1
      exact ⟨h2, by rw [upd_ne h2] at h1; exact h1⟩
    have f0 := fr s8 n8
    have f1 := fr ((s8.trans (Same.upd_new (o := .lst w0) n8)).trans s9) n9
    have lf0 : LF K H7 (upd (upd H9 L1 (.lst w1)) o (.dK [(.inr "name", .ref L0), (.inr "version", .ref L1)])) o L0 _ := ⟨⟨w0, by rw [upd_ne f0.1]; exact l0, c0.kp g10.kp⟩, f0.1, f0.2⟩
    have lf1 : LF K H7 (upd (upd H9 L1 (.lst w1)) o (.dK [(.inr "name", .ref L0), (.inr "version", .ref L1)])) o L1 _ := ⟨⟨w1, by rw [upd_ne f1.1]; exact l1, c1.kp g10.kp⟩, f1.1, f1.2⟩
    have hoA : (upd (upd H9 L1 (.lst w1)) o (.dK [(.inr "name", .ref L0), (.inr "version", .ref L1)])) o = some (.dK [(.inr "name", .ref L0), (.inr "version", .ref L1)]) := upd_same
    have kpA : Kp K H7 (upd (upd H9 L1 (.lst w1)) o (.dK [(.inr "name", .ref L0), (.inr "version", .ref L1)])) := (Kp.trans so.kp gA.kp)
    show tSeq _ _ _ _ (upd (upd H9 L1 (.lst w1)) o (.dK [(.inr "name", .ref L0), (.inr "version", .ref L1)]))
    generalize upd (upd H9 L1 (.lst w1)) o (.dK [(.inr "name", .ref L0), (.inr "version", .ref L1)]) = HA at *
    refine yl_dput (K := K) (YL.mk (YA.cons (Y.tup (YA.cons Y.str YA.nil)) (YA.cons (Y.tup (YA.cons Y.str (YA.cons Y.str YA.nil))) (YA.cons (Y.tup (YA.cons Y.str (YA.cons Y.str YA.nil))) (YA.cons (Y.tup (YA.cons Y.str YA.nil)) YA.nil))))) (fun w5 HB L5 sB tB nB => ?_)
    refine ⟨_, rfl, o, _, rfl, DPut.k (k := .inr "against") ((sB.trans (Same.upd_new nB)) _ _ hoA) (by show 2 < sizeLine; decide), ?_⟩
    have gB : Go K o HA (upd (upd HB L5 (.lst w5)) o (.dK (putK [(.inr "name", .ref L0), (.inr "version", .ref L1)] (.inr "against") (.ref L5)))) := put_go sB nB hoA
    have lf5 : LF K H7 (upd (upd HB L5 (.lst w5)) o (.dK (putK [(.inr "name", .ref L0), (.inr "version", .ref L1)] (.inr "against") (.ref L5)))) o L5 _ := put_lf sB nB hoA tB sbA ho
    replace lf0 := lf0.go gB
    replace lf1 := lf1.go gB
    have hoB : (upd (upd HB L5 (.lst w5)) o (.dK (putK [(.inr "name", .ref L0), (.inr "version", .ref L1)] (.inr "against") (.ref L5)))) o = some (.dK (putK [(.inr "name", .ref L0), (.inr "version", .ref L1)] (.inr "against") (.ref L5))) := upd_same
    have sbB : SameBut o H7 (upd (upd HB L5 (.lst w5)) o (.dK (putK [(.inr "name", .ref L0), (.inr "version", .ref L1)] (.inr "against") (.ref L5)))) := fun b u n q => gB.sb _ _ n (sbA b u n q)
    have kpB : Kp K H7 (upd (upd HB L5 (.lst w5)) o (.dK (putK [(.inr "name", .ref L0), (.inr "version", .ref L1)] (.inr "against") (.ref L5)))) := kpA.trans gB.kp
    have gTB : Go K o (upd H7 o (.dK [])) (upd (upd HB L5 (.lst w5)) o (.dK (putK [(.inr "name", .ref L0), (.inr "version", .ref L1)] (.inr "against") (.ref L5)))) := gA.trans gB
    show tSeq _ _ _ _ (upd (upd HB L5 (.lst w5)) o (.dK (putK [(.inr "name", .ref L0), (.inr "version", .ref L1)] (.inr "against") (.ref L5))))
    generalize (upd (upd HB L5 (.lst w5)) o (.dK (putK [(.inr "name", .ref L0), (.inr "version", .ref L1)] (.inr "against") (.ref L5)))) = HBx at *
    clear gB
    refine yl_dput (K := K) (YL.mk (YA.cons (Y.tup (YA.cons Y.str (YA.cons Y.str YA.nil))) (YA.cons (Y.tup (YA.cons Y.str YA.nil)) (YA.cons (Y.tup (YA.cons Y.str (YA.cons Y.str YA.nil))) (YA.cons (Y.tup (YA.cons Y.str (YA.cons Y.str YA.nil))) YA.nil))))) (fun w2 HC L2 sC tC nC => ?_)
    refine ⟨_, rfl, o, _, rfl, DPut.k (k := .inr "scripts") ((sC.trans (Same.upd_new nC)) _ _ hoB) (by show 3 < sizeLine; decide), ?_⟩
    have gC : Go K o HBx (upd (upd HC L2 (.lst w2)) o (.dK (putK (putK [(.inr "name", .ref L0), (.inr "version", .ref L1)] (.inr "against") (.ref L5)) (.inr "scripts") (.ref L2)))) := put_go sC nC hoB
    have lf2 : LF K H7 (upd (upd HC L2 (.lst w2)) o (.dK (putK (putK [(.inr "name", .ref L0), (.inr "version", .ref L1)] (.inr "against") (.ref L5)) (.inr "scripts") (.ref L2)))) o L2 _ := put_lf sC nC hoB tC sbB ho
    replace lf0 := lf0.go gC
    replace lf1 := lf1.go gC
    replace lf5 := lf5.go gC
    have hoC : (upd (upd HC L2 (.lst w2)) o (.dK (putK (putK [(.inr "name", .ref L0), (.inr "version", .ref L1)] (.inr "against") (.ref L5)) (.inr "scripts") (.ref L2)))) o = some (.dK (putK (putK [(.inr "name", .ref L0), (.inr "version", .ref L1)] (.inr "against") (.ref L5)) (.inr "scripts") (.ref L2))) := upd_same
    have sbC : SameBut o H7 (upd (upd HC L2 (.lst w2)) o (.dK (putK (putK [(.inr "name", .ref L0), (.inr "version", .ref L1)] (.inr "against") (.ref L5)) (.inr "scripts") (.ref L2)))) := fun b u n q => gC.sb _ _ n (sbB b u n q)
    have kpC : Kp K H7 (upd (upd HC L2 (.lst w2)) o (.dK (putK (putK [(.inr "name", .ref L0), (.inr "version", .ref L1)] (.inr "against") (.ref L5)) (.inr "scripts") (.ref L2)))) := kpB.trans gC.kp
    have gTC : Go K o (upd H7 o (.dK [])) (upd (upd HC L2 (.lst w2)) o (.dK (putK (putK [(.inr "name", .ref L0), (.inr "version", .ref L1)] (.inr "against") (.ref L5)) (.inr "scripts") (.ref L2)))) := gTB.trans gC
    show tSeq _ _ _ _ (upd (upd HC L2 (.lst w2)) o (.dK (putK (putK [(.inr "name", .ref L0), (.inr "version", .ref L1)] (.inr "against") (.ref L5)) (.inr "scripts") (.ref L2))))
    generalize (upd (upd HC L2 (.lst w2)) o (.dK (putK (putK [(.inr "name", .ref L0), (.inr "version", .ref L1)] (.inr "against") (.ref L5)) (.inr "scripts") (.ref L2)))) = HCx at *
    clear gC
    refine yl_dput (K := K) (YL.mk (YA.cons (Y.tup (YA.cons yPair YA.nil)) (YA.cons (Y.tup (YA.cons yPair YA.nil)) (YA.cons (Y.tup (YA.cons yPair (YA.cons yPair YA.nil))) (YA.cons (Y.tup (YA.cons yPair (YA.cons yPair YA.nil))) YA.nil))))) (fun w3 HD L3 sD tD nD => ?_)
    refine ⟨_, rfl, o, _, rfl, DPut.k (k := .inr "needs") ((sD.trans (Same.upd_new nD)) _ _ hoC) (by show 4 < sizeLine; decide), ?_⟩
    have gD : Go K o HCx (upd (upd HD L3 (.lst w3)) o (.dK (putK (putK (putK [(.inr "name", .ref L0), (.inr "version", .ref L1)] (.inr "against") (.ref L5)) (.inr "scripts") (.ref L2)) (.inr "needs") (.ref L3)))) := put_go sD nD hoC
    have lf3 : LF K H7 (upd (upd HD L3 (.lst w3)) o (.dK (putK (putK (putK [(.inr "name", .ref L0), (.inr "version", .ref L1)] (.inr "against") (.ref L5)) (.inr "scripts") (.ref L2)) (.inr "needs") (.ref L3)))) o L3 _ := put_lf sD nD hoC tD sbC ho
    replace lf0 := lf0.go gD
    replace lf1 := lf1.go gD
    replace lf5 := lf5.go gD
    replace lf2 := lf2.go gD
    have hoD : (upd (upd HD L3 (.lst w3)) o (.dK (putK (putK (putK [(.inr "name", .ref L0), (.inr "version", .ref L1)] (.inr "against") (.ref L5)) (.inr "scripts") (.ref L2)) (.inr "needs") (.ref L3)))) o = some (.dK (putK (putK (putK [(.inr "name", .ref L0), (.inr "version", .ref L1)] (.inr "against") (.ref L5)) (.inr "scripts") (.ref L2)) (.inr "needs") (.ref L3))) := upd_same
    have sbD : SameBut o H7 (upd (upd HD L3 (.lst w3)) o (.dK (putK (putK (putK [(.inr "name", .ref L0), (.inr "version", .ref L1)] (.inr "against") (.ref L5)) (.inr "scripts") (.ref L2)) (.inr "needs") (.ref L3)))) := fun b u n q => gD.sb _ _ n (sbC b u n q)
    have kpD : Kp K H7 (upd (upd HD L3 (.lst w3)) o (.dK (putK (putK (putK [(.inr "name", .ref L0), (.inr "version", .ref L1)] (.inr "against") (.ref L5)) (.inr "scripts") (.ref L2)) (.inr "needs") (.ref L3)))) := kpC.trans gD.kp
    have gTD : Go K o (upd H7 o (.dK [])) (upd (upd HD L3 (.lst w3)) o (.dK (putK (putK (putK [(.inr "name", .ref L0), (.inr "version", .ref L1)] (.inr "against") (.ref L5)) (.inr "scripts") (.ref L2)) (.inr "needs") (.ref L3)))) := gTC.trans gD
    show tSeq _ _ _ _ (upd (upd HD L3 (.lst w3)) o (.dK (putK (putK (putK [(.inr "name", .ref L0), (.inr "version", .ref L1)] (.inr "against") (.ref L5)) (.inr "scripts") (.ref L2)) (.inr "needs") (.ref L3))))
    generalize (upd (upd HD L3 (.lst w3)) o (.dK (putK (putK (putK [(.inr "name", .ref L0), (.inr "version", .ref L1)] (.inr "against") (.ref L5)) (.inr "scripts") (.ref L2)) (.inr "needs") (.ref L3)))) = HDx at *
    clear gD
    refine yl_dput (K := K) (YL.mk (YA.cons (Y.tup (YA.cons yPair YA.nil)) (YA.cons (Y.tup (YA.cons yPair YA.nil)) (YA.cons (Y.tup (YA.cons yPair (YA.cons yPair YA.nil))) (YA.cons (Y.tup (YA.cons yPair YA.nil)) YA.nil))))) (fun w4 HE L4 sE tE nE => ?_)
    refine ⟨_, rfl, o, _, rfl, DPut.k (k := .inr "first") ((sE.trans (Same.upd_new nE)) _ _ hoD) (by show 5 < sizeLine; decide), ?_⟩
    have gE : Go K o HDx (upd (upd HE L4 (.lst w4)) o (.dK (putK (putK (putK (putK [(.inr "name", .ref L0), (.inr "version", .ref L1)] (.inr "against") (.ref L5)) (.inr "scripts") (.ref L2)) (.inr "needs") (.ref L3)) (.inr "first") (.ref L4)))) := put_go sE nE hoD
    have lf4 : LF K H7 (upd (upd HE L4 (.lst w4)) o (.dK (putK (putK (putK (putK [(.inr "name", .ref L0), (.inr "version", .ref L1)] (.inr "against") (.ref L5)) (.inr "scripts") (.ref L2)) (.inr "needs") (.ref L3)) (.inr "first") (.ref L4)))) o L4 _ := put_lf sE nE hoD tE sbD ho
    replace lf0 := lf0.go gE
    replace lf1 := lf1.go gE
    replace lf5 := lf5.go gE
    replace lf2 := lf2.go gE
    replace lf3 := lf3.go gE
    have hoE : (upd (upd HE L4 (.lst w4)) o (.dK (putK (putK (putK (putK [(.inr "name", .ref L0), (.inr "version", .ref L1)] (.inr "against") (.ref L5)) (.inr "scripts") (.ref L2)) (.inr "needs") (.ref L3)) (.inr "first") (.ref L4)))) o = some (.dK (putK (putK (putK (putK [(.inr "name", .ref L0), (.inr "version", .ref L1)] (.inr "against") (.ref L5)) (.inr "scripts") (.ref L2)) (.inr "needs") (.ref L3)) (.inr "first") (.ref L4))) := upd_same
    have sbE : SameBut o H7 (upd (upd HE L4 (.lst w4)) o (.dK (putK (putK (putK (putK [(.inr "name", .ref L0), (.inr "version", .ref L1)] (.inr "against") (.ref L5)) (.inr "scripts") (.ref L2)) (.inr "needs") (.ref L3)) (.inr "first") (.ref L4)))) := fun b u n q => gE.sb _ _ n (sbD b u n q)
    have kpE : Kp K H7 (upd (upd HE L4 (.lst w4)) o (.dK (putK (putK (putK (putK [(.inr "name", .ref L0), (.inr "version", .ref L1)] (.inr "against") (.ref L5)) (.inr "scripts") (.ref L2)) (.inr "needs") (.ref L3)) (.inr "first") (.ref L4)))) := kpD.trans gE.kp
    have gTE : Go K o (upd H7 o (.dK [])) (upd (upd HE L4 (.lst w4)) o (.dK (putK (putK (putK (putK [(.inr "name", .ref L0), (.inr "version", .ref L1)] (.inr "against") (.ref L5)) (.inr "scripts") (.ref L2)) (.inr "needs") (.ref L3)) (.inr "first") (.ref L4)))) := gTD.trans gE
    show tSeq _ _ _ _ (upd (upd HE L4 (.lst w4)) o (.dK (putK (putK (putK (putK [(.inr "name", .ref L0), (.inr "version", .ref L1)] (.inr "against") (.ref L5)) (.inr "scripts") (.ref L2)) (.inr "needs") (.ref L3)) (.inr "first") (.ref L4))))
    generalize (upd (upd HE L4 (.lst w4)) o (.dK (putK (putK (putK (putK [(.inr "name", .ref L0), (.inr "version", .ref L1)] (.inr "against") (.ref L5)) (.inr "scripts") (.ref L2)) (.inr "needs") (.ref L3)) (.inr "first") (.ref L4)))) = HEx at *
    clear gE
    obtain ⟨xr7, hr7⟩ := hR7.at_
    have nor : o ≠ r := fun z => by rw [z, hr7] at ho; cases ho
    have nod : o ≠ d := fun z => by rw [z, hd7] at ho; cases ho
    have notr : ∀ {L : Addr}, H7 L = none → L ≠ r := fun {L} h z => by rw [z, hr7] at h; cases h
    have notd : ∀ {L : Addr}, H7 L = none → L ≠ d := fun {L} h z => by rw [z, hd7] at h; cases h
    have odd : Odd K HEx o (1 + v1) r d := by
      refine ⟨⟨_, hoE, fun j hj => ?_⟩, nor, nod⟩
      match j, hj with
      | 0, _ => obtain ⟨⟨w', h1, h2⟩, no, nw⟩ := lf0; exact ⟨L0, w', rfl, h1, notr nw, notd nw, h2⟩
      | 1, _ => obtain ⟨⟨w', h1, h2⟩, no, nw⟩ := lf1; exact ⟨L1, w', rfl, h1, notr nw, notd nw, h2⟩
      | 2, _ => obtain ⟨⟨w', h1, h2⟩, no, nw⟩ := lf2; exact ⟨L2, w', rfl, h1, notr nw, notd nw, h2⟩
      | 3, _ => obtain ⟨⟨w', h1, h2⟩, no, nw⟩ := lf3; exact ⟨L3, w', rfl, h1, notr nw, notd nw, h2⟩
      | 4, _ => obtain ⟨⟨w', h1, h2⟩, no, nw⟩ := lf4; exact ⟨L4, w', rfl, h1, notr nw, notd nw, h2⟩
      | 5, _ => obtain ⟨⟨w', h1, h2⟩, no, nw⟩ := lf5; exact ⟨L5, w', rfl, h1, notr nw, notd nw, h2⟩
    have rowF : Row K HEx r := gTE.row upd_same (hR7.same so)
    have sbF : SameBut r H HEx := fun b u n q => sbE _ _ (fun z => by have q7 := sb7 b u n q; rw [z, ho] at q7; cases q7) (sb7 b u n q)
    refine ⟨(by show 6 ≤ sizeLine; decide), fun TT nT => ?_⟩
    have sT : Same HEx (upd HEx TT (.tup ((["name", "version", "scripts", "needs", "first", "against"] : List Str).map V.str))) := Same.upd_new nT
    have turn0 : Turn K H (upd HEx TT (.tup ((["name", "version", "scripts", "needs", "first", "against"] : List Str).map V.str))) r d o TT (1 + v1) (fun _ => 4) := by
      obtain ⟨⟨kvs, h1, h2⟩, h3, h4⟩ := odd
      refine ⟨fun _ => Nat.le_refl _, rowF.same sT, ⟨vsf, sT _ _ (sbE _ _ (Ne.symm nod) hd7), fun j hj => ((td7 j hj).kp kpE).kp sT.kp⟩, ⟨⟨kvs, sT _ _ h1, fun j hj => ?_⟩, h3, h4⟩, fun b u n q => sT _ _ (sbF b u n q), upd_same, nrd⟩
      obtain ⟨L, vs, a1, a2, a3, a4, a5⟩ := h2 j hj
      exact ⟨L, vs, a1, sT _ _ a2, a3, a4, a5.kp sT.kp⟩
    refine ⟨TT, rfl, ⟨_, .inl (.inl turn0.tt)⟩, for_it (walk_tup (xs := (["name", "version", "scripts", "needs", "first", "against"] : List Str).map V.str)) (fun i σ H' => ∃ (c : Nat → Nat) (v4 : Option V), σ = [some (.ref r), some (.ref d), some (.ref o), some (optV (wr c)), v4] ∧ (∀ j, i ≤ j → c j = 4) ∧ Turn K H H' r d o TT (1 + v1) c)
      ⟨fun _ => 4, none, rfl, fun _ _ => rfl, turn0⟩ (fun i σ H' _ h => by obtain ⟨c, v4, _, _, t⟩ := h; exact .inl (.inl t.tt)) ?_ ?_⟩
    · rintro i x σ H' H'' hi ⟨c, v4, rfl, hc, t⟩ ⟨rfl, hx⟩
      have hi6 : i < 6 := hi
      obtain ⟨z, hz, rfl⟩ := getE hx
      have ez : z = pn i := by unfold pn; rw [List.getD_eq_getElem?_getD, hz]; rfl
      subst ez
      refine ⟨_, rfl, r, 8, rfl, t.row, by decide, by decide, fun v o1 h0 h1 hR1 => ⟨rfl, _, rfl, ?_⟩⟩
      have t1 := t.draw hR1
      refine ite2 (fun cz => ?_) (fun cz => ?_)
      · obtain ⟨⟨kvs, ho1, hj⟩, _, _⟩ := t1.odd
        obtain ⟨L, vs, a1, a2, a3, a4, a5⟩ := hj i hi6
        have dg : DGet (upd H'' r o1) o (kV (.inr (pn i))) (some (.ref L)) := by
          rw [← a1]
          exact DGet.k ho1
        refine ⟨_, rfl, _, rfl, o, _, rfl, dg, ?_⟩
        refine ⟨_, rfl, r, 4, rfl, hR1, by decide, by decide, fun v2 o2 g0 g1 hR2 => ?_⟩
        have t2 := t1.draw hR2
        have hk : v2.toNat < 4 := by omega
        obtain ⟨y, hy, td⟩ := a5.get (four_get (ver := 1 + v1) (i := i) hk)
        obtain ⟨xs1, hr1⟩ := hR1.at_
        have gr : Go K r (upd H'' r o1) (upd (upd H'' r o1) r o2) := Go.updL hr1
        have hat : atI vs v2 = some y := by
          have e : atI vs ((v2.toNat : Nat) : Int) = some y := atI_nat hy
          rwa [show ((v2.toNat : Nat) : Int) = v2 by omega] at e
        obtain ⟨vp, hp1, hp2⟩ := t2.parts
        refine ⟨L, vs, v2, y, rfl, rfl, SqL.of (gr.sb _ _ a3 a2), hat, _, rfl, _, rfl, d, _, rfl, DPut.k (k := .inr (pn i)) hp1 (by show 6 < sizeLine; decide), ?_⟩
        rw [putK6 hi6]
        have gd : Go K d (upd (upd H'' r o1) r o2) _ := Go.upd (u := .dK (kv6 (setV vp i y))) hp1
        have td2 := td.kp gr.kp
        have t3 : Turn K H (upd (upd (upd H'' r o1) r o2) d (.dK (kv6 (setV vp i y)))) r d o TT (1 + v1) (set1 c i v2.toNat) := by
          refine ⟨fun j => ?_, gd.row hp1 t2.row, ⟨setV vp i y, upd_same, fun j hj => ?_⟩, t2.odd.upd (.inr rfl) gd.kp, fun b u n q => ?_, gd.sb _ _ (ne_of t2.tt hp1 (by intro z; cases z)) t2.tt, t.nrd⟩
          · unfold set1
            split
            · omega
            · exact t.le j
          · unfold setV set1
            by_cases e : j = i
            · subst e
              rw [if_pos rfl, if_pos rfl]
              exact td2.kp gd.kp
            · rw [if_neg e, if_neg e]
              exact (hp2 j hj).kp gd.kp
          · exact gd.sb _ _ (ne_of_none q hd) (t2.sb b u n q)
        have hc' : ∀ j, i + 1 ≤ j → set1 c i v2.toNat j = 4 := fun j hj => by
          unfold set1
          rw [if_neg (by omega)]
          exact hc j (by omega)
        have ew := wr_set hi6 hc hk
        refine ⟨_, rfl, ?_⟩
        cases hw : wr c with
        | none =>
          rw [hw] at ew
          refine ⟨_, rfl, _, rfl, ?_⟩
          refine ⟨set1 c i v2.toNat, some (.str (pn i)), ?_, hc', t3⟩
          rw [ew]
          rfl
        | some p =>
          rw [hw] at ew
          refine ⟨_, rfl, _, rfl, ?_⟩
          refine ⟨set1 c i v2.toNat, some (.str (pn i)), ?_, hc', t3⟩
          rw [ew]
          rfl
      · exact ⟨c, _, rfl, fun j hj => hc j (by omega), t1⟩
    · rintro σ H' ⟨c, v4, rfl, hc, t⟩
      refine ⟨_, rfl, _, rfl, two_le, fun tt nt => ?_⟩
      have sf : Same H' (upd H' tt (.tup [.ref d, optV (wr c)])) := Same.upd_new nt
      obtain ⟨vp, hp1, hp2⟩ := t.parts
      exact k d tt (1 + v1) c _ (by omega) (by omega) t.le (fun b u n q => sf _ _ (t.sb b u n q)) (t.row.same sf) upd_same ⟨vp, sf _ _ hp1, fun j hj => (hp2 j hj).kp sf.kp⟩ hd
end
end Half

namespace Half
open PySem PySem.Spec PyProof.Rows L2
abbrev sMade : Stmt := top 33
abbrev EiPs : List Str := ["self", "name", "version", "scripts", "needs", "first", "against"]
/-- a dict that tells an edition -/
structure DictEd (K : PySem.W.Frag) (H : Hp) (d : Addr) (e : Ed) : Prop where
  ex : ∃ kvs s n f g, H d = some (.dK kvs) ∧ valV kvs (.inr "name") = some (.str e.name) ∧ valV kvs (.inr "version") = some e.version ∧ valV kvs (.inr "scripts") = some (.ref s) ∧ valV kvs (.inr "needs") = some (.ref n) ∧
    valV kvs (.inr "first") = some (.ref f) ∧ valV kvs (.inr "against") = some (.ref g) ∧ EdAt K H e s n f g
  sm : e.Small
theorem DictEd.same {K : PySem.W.Frag} {H H' : Hp} {d : Addr} {e : Ed} (S : Same H H') (h : DictEd K H d e) : DictEd K H' d e := by
  obtain ⟨⟨kvs, s, n, f, g, h1, h2, h3, h4, h5, h6, h7, h8⟩, sm⟩ := h
  exact ⟨⟨kvs, s, n, f, g, S _ _ h1, h2, h3, h4, h5, h6, h7, h8.same S⟩, sm⟩
/-- Edition's __init__ as the top has made it, with its defaults -/
structure EdF (P : Program) (w : World) (K : PySem.W.Frag) (mg : Str → Option Value) (base : Heap) (C CE : Addr) (f : Addr) (fd : FuncData) (aS z1 z2 z3 : Addr) : Prop where
  ok : FnOk P w K mg base (L2.CX P w) 6 f fd EiPs (spEi K C CE)
  fn : FunD K "__init__" "Edition.__init__" (defArgs sEi) (defBody sEi) (defScope sEi) [] [("scripts", .ref aS), ("needs", .ref z1), ("first", .ref z2), ("against", .ref z3)] f fd
  make : Mk K C f
  mgC : mg "Edition" = some (.ref C)
  tS : ∀ H, SqT K H aS (SCR.map V.str)
  t1 : ∀ H, SqT K H z1 []
  t2 : ∀ H, SqT K H z2 []
  t3 : ∀ H, SqT K H z3 []
def spMade (K : PySem.W.Frag) (C CE : Addr) : Sp := fun vs H Q E => ∃ (d : Addr) (e : Ed), vs = [.ref d] ∧ DictEd K H d e ∧
  (e.wrong = none → ∀ x H', Same H H' → (∃ s n f g, EdObj K H' C x e s n f g) → Q (.ref x) H') ∧ (∀ p, e.wrong = some p → ∀ H' dd, Same H H' → H' dd = some (.xd [("part", .str p)]) → E (.ref CE) (some dd) H')
section
variable {P : Program} {w : World} {K : PySem.W.Frag} {mg : Str → Option Value} {base : Heap} {C CE : Addr} {f : Addr} {fd : FuncData} {aS z1 z2 z3 : Addr}
theorem EdF.kb4 (D : EdF P w K mg base C CE f fd aS z1 z2 z3) : ∃ g, KBn K fd EiPs 3 ["scripts", "needs", "first", "against"] g (fun vs zs => vs ++ zs) := by
  obtain ⟨mv, h⟩ := D.fn.kbinds0 (ps := EiPs) 3 ["scripts", "needs", "first", "against"] [] (fun us _ ws => us ++ ws) (by simp) (fun q h => by cases h) (fun r1 _ r3 => r1.append r3)
    (fun D doc pm an cdv ct us mv ws h1 h2 h3 => match us, ws, h1, h3 with | [_, _, _], [_, _, _, _], _, _ => rfl)
  exact ⟨_, h⟩
theorem EdF.kb1 (D : EdF P w K mg base C CE f fd aS z1 z2 z3) : ∃ g, KBn K fd EiPs 3 ["scripts"] g (fun vs zs => vs ++ zs ++ [.ref z1, .ref z2, .ref z3]) := by
  obtain ⟨mv, h⟩ := D.fn.kbinds0 (ps := EiPs) 3 ["scripts"] [("needs", .ref z1), ("first", .ref z2), ("against", .ref z3)] (fun us mv ws => us ++ ws ++ mv) (by simp) (fun q h => List.mem_cons_of_mem _ h) (fun r1 r2 r3 => (r1.append r3).append r2)
    (fun D doc pm an cdv ct us mv ws h1 h2 h3 => match us, mv, ws, h1, h2, h3 with | [_, _, _], [_, _, _], [_], _, _, _ => ⟨_, _, _, _, _, _, rfl, rfl, _, _, _, _, _, _, rfl, rfl, _, _, _, _, _, _, rfl, rfl, rfl⟩)
  exact ⟨_, h⟩
theorem EdF.b0 (D : EdF P w K mg base C CE f fd aS z1 z2 z3) : ∃ ds, Vals [.ref aS, .ref z1, .ref z2, .ref z3] ds ∧ Binds K fd EiPs ds :=
  D.fn.binds0 (ps := EiPs) 3 (by simp) rfl (fun D doc pm an cdv ct us ks h1 h2 => match us, ks, h1, h2 with | [_, _, _], [_, _, _, _], _, _ => ⟨_, _, _, _, _, _, rfl, rfl, _, _, _, _, _, _, rfl, rfl, _, _, _, _, _, _, rfl, rfl, _, _, _, _, _, _, rfl, rfl, rfl⟩)
theorem scMade : FnScope ["_law_parts_here", "_law_some", "_law_name", "_law_version"] ["_law_parts_here"] (defScope sMade) := ⟨rfl, rfl, rfl, by decide +kernel, rfl, by decide +kernel, by decide +kernel⟩
theorem ok_made {fm : Addr} {fdm : FuncData} (F : Fun K "_law_made" "_law_made" sMade fm fdm) (D : EdF P w K mg base C CE f fd aS z1 z2 z3) : FnOk P w K mg base (L2.CX P w) 8 fm fdm ["_law_parts_here"] (spMade K C CE) := by
  refine F.okX scMade (fun vs H Q E h => ?_) (fun cdv A outer s H vs Q E hr h => ?_)
  · obtain ⟨d, e, rfl, _⟩ := h
    rfl
  · obtain ⟨d, e, rfl, ⟨⟨kvs, s1, n1, f1, g1, hd, h1, h2, h3, h4, h5, h6, hE⟩, sm⟩, kOk, kBad⟩ := h
    have nd := scMade.nd
    have hu := hu_of hr
    obtain ⟨gg, hb⟩ := D.kb4
    refine ⟨_, pss_cons (ps_set (i := 1) nd rfl (Or.inl rfl) (pe_lst (pa_cons (pe_dget hu (pv 0) pe_str (fun _ _ => rfl)) (pa_cons (pe_dget hu (pv 0) pe_str (fun _ _ => rfl)) (pa_cons (pe_dget hu (pv 0) pe_str (fun _ _ => rfl)) (pa_cons (pe_dget hu (pv 0) pe_str (fun _ _ => rfl)) pa_nil))))))
      (pss_cons (ps_par (i := 2) (j := 3) (by rfl) nd rfl rfl (by decide) rfl rfl (pa_cons (pe_dget hu (pv 0) pe_str (fun _ _ => rfl)) (pa_cons (pe_dget hu (pv 0) pe_str (fun _ _ => rfl)) pa_nil)) (by rfl))
      (pss_one (ps_ret (pe_makeK (n := 2) D.make D.ok hr rfl D.mgC hb (passes_call (takes_of rfl rfl rfl rfl) (fun _ _ _ _ h => h)) (pa_cons (pv 2) (pa_cons (pv 3) pa_nil))
        (pk_cons (pe_ix ix_list (pv 1) pe_int (fun _ _ => rfl)) (pk_cons (pe_ix ix_list (pv 1) pe_int (fun _ _ => rfl)) (pk_cons (pe_ix ix_list (pv 1) pe_int (fun _ _ => rfl)) (pk_cons (pe_ix ix_list (pv 1) pe_int (fun _ _ => rfl)) pk_nil)))))))), ?_⟩
    have dg : ∀ {H' : Hp} {x : Str} {v : V}, H' d = some (.dK kvs) → valV kvs (.inr x) = some v → DGet H' d (.str x) (some v) := fun {H' x v} a b => by
      rw [← b]
      exact DGet.k (k := .inr x) a
    refine ⟨_, rfl, d, _, rfl, dg hd h3, _, rfl, d, _, rfl, dg hd h4, _, rfl, d, _, rfl, dg hd h5, _, rfl, d, _, rfl, dg hd h6, (by show 4 ≤ sizeLine; decide), fun l nl => ?_⟩
    have sl : Same H (upd H l (.lst [.ref s1, .ref n1, .ref f1, .ref g1])) := Same.upd_new nl
    refine ⟨_, rfl, d, _, rfl, dg (sl _ _ hd) h1, _, rfl, d, _, rfl, dg (sl _ _ hd) h2, _, _, rfl, ?_⟩
    refine ⟨_, rfl, _, rfl, _, rfl, l, _, _, _, rfl, rfl, SqL.of upd_same, rfl, _, rfl, l, _, _, _, rfl, rfl, SqL.of upd_same, rfl, _, rfl, l, _, _, _, rfl, rfl, SqL.of upd_same, rfl, _, rfl, l, _, _, _, rfl, rfl, SqL.of upd_same, rfl, rfl, rfl, fun x dx nx ndx nxx => ?_⟩
    have sx : Same (upd H l (.lst [.ref s1, .ref n1, .ref f1, .ref g1])) (upd (upd (upd H l (.lst [.ref s1, .ref n1, .ref f1, .ref g1])) dx (.own x)) x (.ins C dx [])) := fun b o q => by
      rw [upd_ne (ne_of_none q nx), upd_ne (ne_of_none q ndx)]
      exact q
    refine ⟨x, dx, e, s1, n1, f1, g1, rfl, upd_same, (hE.same sl).same sx, sm, fun hw H' sb ho => ⟨rfl, ?_⟩, fun p hw H' dd sH hx => ?_⟩
    · refine kOk hw x H' (fun b o q => ?_) ⟨_, _, _, _, ho⟩
      exact sb _ _ (ne_of_none (sl _ _ q) nx) (sx _ _ (sl _ _ q))
    · exact kBad p hw H' dd ((sl.trans sx).trans sH) hx
end
end Half

namespace Half
open PySem PySem.Spec PyProof.Rows L2
abbrev sLaw : Stmt := top 34
abbrev LawN : List Str := ["_law_script", "_law_row", "_law_parts_here", "_law_wrong", "_law_word", "_law_one", "_law_other", "_law_part", "_law_plain"]
/-- a property -/
structure Prp (P : Program) (w : World) (K : PySem.W.Frag) (mg : Str → Option Value) (base : Heap) (C : Addr) (x : Str) (i : Nat) : Prop where
  ex : ∃ p g fd, PropOf K C x p g ∧ FnOk P w K mg base CX0 1 g fd ["self"] (spGet C i) ∧ Binds K fd ["self"] []
theorem pe_prp {X : Cx} {C : Addr} {x : Str} {i : Nat} {e : Expr} {pos : Pos} {ta : TE} (D : Prp X.prog X.w X.K X.mg X.base C x i) (cl : Cls X.K C) (hr : Room 2 X.A) (he : PE X e ta) (hab : attributeBase e x X.env (eval e X.env) = eval e X.env := by rfl) :
    PE X (.Attribute e x pos) (tProp C (spGet C i) [] E0 ta) := by
  obtain ⟨p, g, fd, h1, h2, h3⟩ := D.ex
  exact pe_prop he cl h1 h2 hr h3 .nil pass0 hab
/-- == of editions -/
structure EqF (P : Program) (w : World) (K : PySem.W.Frag) (mg : Str → Option Value) (base : Heap) (C : Addr) : Prop where
  ex : ∃ f fd, FnOk P w K mg base CX0 1 f fd ["self", "other"] (spEq K C) ∧ OwnEqC K C f ∧ Binds K fd ["self", "other"] []
theorem op_eqE {X : Cx} {C : Addr} (D : EqF X.prog X.w X.K X.mg X.base C) (hr : Room 2 X.A) : OpR X (compareOp .Eq) (rEqO C (spEq X.K C) id) := by
  obtain ⟨f, fd, h1, h2, h3⟩ := D.ex
  exact op_eqO h1 h2 h3 (hr.mono (by decide))
theorem op_neE {X : Cx} {C : Addr} (D : EqF X.prog X.w X.K X.mg X.base C) (hr : Room 2 X.A) : OpR X (compareOp .NotEq) (rEqO C (spEq X.K C) not) := by
  obtain ⟨f, fd, h1, h2, h3⟩ := D.ex
  exact op_neO h1 h2 h3 hr
/-- all that the law asks of Edition -/
structure EdAll (P : Program) (w : World) (K : PySem.W.Frag) (mg : Str → Option Value) (base : Heap) (C CE : Addr) : Prop where
  ei : ∃ f fd aS z1 z2 z3, EdF P w K mg base C CE f fd aS z1 z2 z3
  eq : EqF P w K mg base C
  cl : Cls K C
  p0 : Prp P w K mg base C "name" 0
  p1 : Prp P w K mg base C "version" 1
  p2 : Prp P w K mg base C "scripts" 2
  p3 : Prp P w K mg base C "needs" 3
  p4 : Prp P w K mg base C "first" 4
  p5 : Prp P w K mg base C "against" 5
theorem EdIs.ins {K : PySem.W.Frag} {H : Hp} {C a : Addr} {e : Ed} (h : EdIs K H C a e) : ∃ dx fs, H a = some (.ins C dx fs) := by
  obtain ⟨⟨s, n, f, g, ⟨dx, p, h1, h2⟩, h3⟩, _⟩ := h
  exact ⟨dx, _, h1⟩
/-- how a == b of editions is read -/
theorem eqO_read {K : PySem.W.Frag} {H : Hp} {C a b : Addr} {e e' : Ed} {fl : Bool → Bool} {Q : VK} (h1 : EdIs K H C a e) (h2 : EdIs K H C b e') (q : Q (.bl (fl (PyData.eqv e.data e'.data))) H) : rEqO C (spEq K C) fl (.ref a) (.ref b) H Q := by
  obtain ⟨dx, fs, ha⟩ := h1.ins
  obtain ⟨dy, gs, hb⟩ := h2.ins
  exact ⟨a, b, dx, dy, fs, gs, rfl, rfl, ha, hb, a, b, e, e', rfl, h1, h2, _, rfl, q⟩
/-- an edition with nothing but its name and version -/
def edP (nm : Str) (v : Int) : Ed := ⟨nm, .int v, SCR, [], [], []⟩
theorem edP_ok {nm : Str} {v : Int} (h1 : isWord nm = true) (h2 : 1 ≤ v) (h3 : v ≤ 99) : (edP nm v).wrong = none := by
  have a1 : inR (.int v) 1 99 = true := by show (decide (1 ≤ v) && decide (v ≤ 99)) = true; rw [decide_eq_true h2, decide_eq_true h3]; rfl
  have a2 : areScripts SCR = true := by decide +kernel
  have a3 : areNeeds [] nm = true := by rfl
  have a4 : areOthers [] nm = true := by rfl
  unfold Ed.wrong Ed.checks edP
  simp only [h1, a1, a2, a3, a4]
  rfl
theorem edP_small {nm : Str} {v : Int} (h : nm.length ≤ 1000) : (edP nm v).Small := ⟨h, .inl ⟨v, rfl⟩, (by decide : SCR.length ≤ 100), ⟨Nat.zero_le _, fun p hp => by cases hp⟩, ⟨Nat.zero_le _, fun p hp => by cases hp⟩, ⟨Nat.zero_le _, fun p hp => by cases hp⟩⟩
theorem NeedsAt.nil {K : PySem.W.Frag} {H : Hp} {a : Addr} (h : SqT K H a []) : NeedsAt K H a [] := ⟨[], h, rfl, fun i t p h _ => by simp at h⟩
theorem ite_no {b : Bool} {A B : Prop} (hb : b = false) (h : B) : if b = true then A else B := by
  rw [hb]
  exact iteF h
theorem ite_yes {b : Bool} {A B : Prop} (hb : b = true) (h : A) : if b = true then A else B := by
  rw [hb]
  exact iteT h
/-- an edition is made that has nothing wrong -/
theorem mk_read {K : PySem.W.Frag} {H : Hp} {C CE x dx s n f g : Addr} {e : Ed} {Q : Hp → Prop} {E : XK} (nx : H x = none) (ndx : H dx = none) (hE : EdAt K H e s n f g) (sm : e.Small) (hw : e.wrong = none) (k : ∀ H', Same H H' → EdObj K H' C x e s n f g → Q H') :
    spEi K C CE [.ref x, .str e.name, e.version, .ref s, .ref n, .ref f, .ref g] (upd (upd H dx (.own x)) x (.ins C dx [])) (fun v H3 => v = .non ∧ Q H3) E := by
  have sx : Same H (upd (upd H dx (.own x)) x (.ins C dx [])) := fun b o q => by
    rw [upd_ne (ne_of_none q nx), upd_ne (ne_of_none q ndx)]
    exact q
  refine ⟨x, dx, e, s, n, f, g, rfl, upd_same, hE.same sx, sm, fun _ H' sb ho => ⟨rfl, k H' (fun b o q => sb _ _ (ne_of_none q nx) (sx _ _ q)) ho⟩, fun p hp => ?_⟩
  rw [hw] at hp
  cases hp
theorem edP_is {K : PySem.W.Frag} {H : Hp} {C a s n f g : Addr} {nm : Str} {v : Int} (h : EdObj K H C a (edP nm v) s n f g) (hs : PyData.strOk nm = true) : EdIs K H C a (edP nm v) := by
  refine ⟨⟨s, n, f, g, h⟩, .inl ⟨v, rfl⟩, ?_⟩
  have a1 : PyData.strOk "clean" = true := by decide +kernel
  have a2 : PyData.strOk "enter" = true := by decide +kernel
  have a3 : PyData.strOk "leave" = true := by decide +kernel
  have a4 : PyData.strOk "setup" = true := by decide +kernel
  simp [SeqAt.shaped, edP, Ed.data, verD, SCR, PyData.canLay0, PyData.canLayAll0, PyData.depth, PyData.depthAll, hs, a1, a2, a3, a4]
section
variable {P : Program} {w : World} {K : PySem.W.Frag} {mg : Str → Option Value} {base : Heap} {C CE : Addr}
theorem law_rest {f : Addr} {cdv : Value} {A : Around} {outer : List Env} {s : Shared} {H0 : Hp} {E : XK} (D : EdAll P w K mg base C CE) (hr : Room 10 (A.deeper (envOfC "law" (defScope sLaw) s.heap.objs.size f cdv))) (nd : LawN.Nodup) :
    ∃ t, PSs (cxOf CX0 P w K mg base LawN "law" (defScope sLaw) f cdv A outer s H0 E).nox ((defBody sLaw).drop 5) t ∧ ∀ (D' : Ends) (σ : L2.St) (H : Hp), σ.length = 9 → (∀ H', D'.rt (.bl true) H') → t D' σ H := by
  obtain ⟨fi, fdi, aS, z1, z2, z3, EI⟩ := D.ei
  obtain ⟨ds, hds, hb0⟩ := EI.b0
  obtain ⟨g1, hb1⟩ := EI.kb1
  have r7 : Room 7 _ := hr.mono (by decide)
  have r2 : Room 2 _ := hr.mono (by decide)
  refine ⟨_, pss_cons (ps_set (i := 8) nd rfl (Or.inl rfl) (pe_make EI.make EI.ok r7 rfl EI.mgC hb0 hds passL (pa_cons pe_str (pa_cons pe_int pa_nil))))
    (pss_cons (ps_if (pt_cmpR (op_neD hr.units) (pe_prp D.p2 D.cl r2 (pv 8)) (pe_tup (pa_cons pe_str (pa_cons pe_str (pa_cons pe_str (pa_cons pe_str pa_nil))))) (nomark _)) (pss_one (ps_ret pe_bl)) pss_nil)
    (pss_cons (ps_if (pt_cmpR (op_neD hr.units) (pe_tup (pa_cons (pe_prp D.p3 D.cl r2 (pv 8)) (pa_cons (pe_prp D.p4 D.cl r2 (pv 8)) (pa_cons (pe_prp D.p5 D.cl r2 (pv 8)) pa_nil)))) (pe_tup (pa_cons (pe_tup pa_nil) (pa_cons (pe_tup pa_nil) (pa_cons (pe_tup pa_nil) pa_nil)))) (nomark _)) (pss_one (ps_ret pe_bl)) pss_nil)
    (pss_one (ps_ret (pe_and (pe_cmpR (op_eqE D.eq r2) (pv 8) (pe_makeK (n := 2) EI.make EI.ok r7 rfl EI.mgC hb1 passL (pa_cons pe_str (pa_cons pe_int pa_nil)) (pk_cons (pe_tup (pa_cons pe_str (pa_cons pe_str (pa_cons pe_str (pa_cons pe_str pa_nil))))) pk_nil)) (nomark _))
      (pe_one (pe_cmpR (op_neE D.eq r2) (pv 8) (pe_make EI.make EI.ok r7 rfl EI.mgC hb0 hds passL (pa_cons pe_str (pa_cons pe_int pa_nil))) (nomark _)))))))), ?_⟩
  intro D' σ H hl k
  obtain ⟨x0, x1, x2, x3, x4, x5, x6, x7, x8, rfl⟩ : ∃ x0 x1 x2 x3 x4 x5 x6 x7 x8, σ = [x0, x1, x2, x3, x4, x5, x6, x7, x8] := by
    match σ, hl with
    | [x0, x1, x2, x3, x4, x5, x6, x7, x8], _ => exact ⟨x0, x1, x2, x3, x4, x5, x6, x7, x8, rfl⟩
  refine fun x dx nx ndx nxx => ?_
  have eAt : ∀ (H : Hp) (nm : Str) (v : Int), EdAt K H (edP nm v) aS z1 z2 z3 := fun H nm v => ⟨EI.tS H, .nil (EI.t1 H), .nil (EI.t2 H), EI.t3 H⟩
  refine mk_read (e := edP "lib" 7) nx ndx (eAt _ _ _) (edP_small (by decide)) (edP_ok (by decide +kernel) (by decide) (by decide)) (fun H1 s1 ho => ?_)
  obtain ⟨⟨dy, pp, hx, hp⟩, hA⟩ := id ho
  have is1 := edP_is ho (by decide +kernel)
  refine ⟨_, rfl, x, dy, _, rfl, hx, x, dy, pp, _, _, rfl, hx, hp, rfl, ?_⟩
  refine ⟨(by show 4 ≤ sizeLine; decide), fun t1 n1 => ?_⟩
  have q1 : Same H1 (upd H1 t1 (.tup (SCR.map V.str))) := Same.upd_new n1
  refine ⟨_, _, .tup (EI.tS _) (dpStrs SCR), .tup (.inl (.inl upd_same)) (dpStrs SCR), by decide +kernel, by decide +kernel, _, rfl, ?_⟩
  refine ite_no (by decide +kernel) ?_
  have hx1 := q1 _ _ hx
  have hp1 := q1 _ _ hp
  refine ⟨_, rfl, x, dy, _, rfl, hx1, x, dy, pp, _, _, rfl, hx1, hp1, rfl, _, rfl, x, dy, _, rfl, hx1, x, dy, pp, _, _, rfl, hx1, hp1, rfl, _, rfl, x, dy, _, rfl, hx1, x, dy, pp, _, _, rfl, hx1, hp1, rfl, (by show 3 ≤ sizeLine; decide), fun t2 n2 => ?_⟩
  refine ⟨Nat.zero_le _, fun t3 n3 => ⟨Nat.zero_le _, fun t4 n4 => ⟨Nat.zero_le _, fun t5 n5 => ⟨(by show 3 ≤ sizeLine; decide), fun t6 n6 => ?_⟩⟩⟩⟩
  have b3 := Same.upd_new (o := .tup []) n3
  have b4 := Same.upd_new (o := .tup []) n4
  have b5 := Same.upd_new (o := .tup []) n5
  have b6 := Same.upd_new (o := .tup [.ref t3, .ref t4, .ref t5]) n6
  have e2 := ((b3.trans b4).trans (b5.trans b6)) _ _ (upd_same (H := upd H1 t1 (.tup (SCR.map V.str))) (a := t2) (o := .tup [.ref z1, .ref z2, .ref z3]))
  have e3 := (b4.trans (b5.trans b6)) _ _ (upd_same (a := t3) (o := .tup []))
  have e4 := (b5.trans b6) _ _ (upd_same (a := t4) (o := .tup []))
  have e5 := b6 _ _ (upd_same (a := t5) (o := .tup []))
  have q6 : Same H1 _ := q1.trans ((Same.upd_new (o := .tup [.ref z1, .ref z2, .ref z3]) n2).trans ((b3.trans b4).trans (b5.trans b6)))
  refine ⟨.tuple [.tuple [], .tuple [], .tuple []], .tuple [.tuple [], .tuple [], .tuple []], .tup (.inl (.inl e2)) (.cons (.tup (EI.t1 _) .nil) (.cons (.tup (EI.t2 _) .nil) (.cons (.tup (EI.t3 _) .nil) .nil))),
    .tup (.inl (.inl upd_same)) (.cons (.tup (.inl (.inl e3)) .nil) (.cons (.tup (.inl (.inl e4)) .nil) (.cons (.tup (.inl (.inl e5)) .nil) .nil))), by decide +kernel, by decide +kernel, _, rfl, ?_⟩
  refine ite_no (by decide +kernel) ?_
  have is6 := is1.same q6
  refine ⟨_, rfl, (by show 4 ≤ sizeLine; decide), fun t7 n7 => ⟨rfl, rfl, fun y dz ny ndz nyy => ?_⟩⟩
  have q7 := Same.upd_new (o := .tup (SCR.map V.str)) n7
  refine mk_read (e := edP "lib" 7) (s := t7) ny ndz ⟨.inl (.inl upd_same), .nil (EI.t1 _), .nil (EI.t2 _), EI.t3 _⟩ (edP_small (by decide)) (edP_ok (by decide +kernel) (by decide) (by decide)) (fun H8 s8 ho8 => ?_)
  have is8 := is6.same (q7.trans s8)
  refine eqO_read is8 (edP_is ho8 (by decide +kernel)) ?_
  refine ⟨_, rfl, ?_⟩
  refine ite_yes (by decide +kernel) ?_
  refine ⟨_, rfl, fun u du nu ndu nuu => ?_⟩
  refine mk_read (e := edP "lib" 8) nu ndu (eAt _ _ _) (edP_small (by decide)) (edP_ok (by decide +kernel) (by decide) (by decide)) (fun H9 s9 ho9 => ?_)
  refine eqO_read (is8.same s9) (edP_is ho9 (by decide +kernel)) ?_
  have e9 : (!PyData.eqv (edP "lib" 7).data (edP "lib" 8).data) = true := by decide +kernel
  show D'.rt (.bl (!PyData.eqv (edP "lib" 7).data (edP "lib" 8).data)) H9
  rw [e9]
  exact k H9
end
end Half

namespace Half
open PySem PySem.Spec PyProof.Rows L2
/-! ### the mathematics: which part is the first wrong one -/
theorem le4 {p : Nat → Prop} (h0 : p 0) (h1 : p 1) (h2 : p 2) (h3 : p 3) (h4 : p 4) : ∀ k, k ≤ 4 → p k := fun k hk => by
  match k, hk with
  | 0, _ => exact h0
  | 1, _ => exact h1
  | 2, _ => exact h2
  | 3, _ => exact h3
  | 4, _ => exact h4
theorem m0 : ∀ k, k ≤ 4 → isWord (nmO k) = decide (k = 4) := le4 (by decide +kernel) (by decide +kernel) (by decide +kernel) (by decide +kernel) (by decide +kernel)
theorem m1 {v : Int} (h1 : 1 ≤ v) (h2 : v ≤ 99) : ∀ k, k ≤ 4 → inR (verO v k) 1 99 = decide (k = 4) :=
  le4 rfl rfl rfl rfl (by show (decide (1 ≤ v) && decide (v ≤ 99)) = true; rw [decide_eq_true h1, decide_eq_true h2]; rfl)
theorem m2 : ∀ k, k ≤ 4 → areScripts (scrO k) = decide (k = 4) := le4 (by decide +kernel) (by decide +kernel) (by decide +kernel) (by decide +kernel) (by decide +kernel)
theorem m3 : ∀ k, k ≤ 4 → areNeeds (neeO k) "db" = decide (k = 4) := le4 (by decide +kernel) (by decide +kernel) (by decide +kernel) (by decide +kernel) (by decide +kernel)
theorem m4 : ∀ k, k ≤ 4 → areNeeds (firO k) "db" = decide (k = 4) := le4 (by decide +kernel) (by decide +kernel) (by decide +kernel) (by decide +kernel) (by decide +kernel)
theorem m5 : ∀ k, k ≤ 4 → areOthers (agaO k) "db" = decide (k = 4) := le4 (by decide +kernel) (by decide +kernel) (by decide +kernel) (by decide +kernel) (by decide +kernel)
theorem wrong_eq {v : Int} {c : Nat → Nat} (h1 : 1 ≤ v) (h2 : v ≤ 99) (hc : ∀ j, c j ≤ 4) : (edO v c).wrong = wr c := by
  have a0 := m0 _ (hc 0)
  have a1 := m1 h1 h2 _ (hc 1)
  have a2 := m2 _ (hc 2)
  have a3 := m3 _ (hc 3)
  have a4 := m4 _ (hc 4)
  have a5 := m5 _ (hc 5)
  unfold Ed.wrong Ed.checks edO wr
  dsimp only
  by_cases c0 : c 0 = 4
  · have en : nmO (c 0) = "db" := by rw [c0]; rfl
    rw [c0] at a0
    rw [c0, show nmO 4 = ("db" : Str) from rfl]
    rw [a1, a2, a3, a4, a5, show isWord "db" = true from a0]
    by_cases c1 : c 1 = 4 <;> by_cases c2 : c 2 = 4 <;> by_cases c3 : c 3 = 4 <;> by_cases c4 : c 4 = 4 <;> by_cases c5 : c 5 = 4 <;> simp [c1, c2, c3, c4, c5]
  · rw [decide_eq_false c0] at a0
    simp [a0, c0]
theorem wr_none {c : Nat → Nat} (h : wr c = none) : ∀ j, j < 6 → c j = 4 := by
  unfold wr at h
  split at h
  · cases h
  rename_i h0
  split at h
  · cases h
  rename_i h1
  split at h
  · cases h
  rename_i h2
  split at h
  · cases h
  rename_i h3
  split at h
  · cases h
  rename_i h4
  split at h
  · cases h
  rename_i h5
  intro j hj
  match j, hj with
  | 0, _ => omega
  | 1, _ => omega
  | 2, _ => omega
  | 3, _ => omega
  | 4, _ => omega
  | 5, _ => omega
theorem smallS {l : List Str} (h : (l.all fun z => decide (z.length ≤ 1000)) = true) : ∀ z ∈ l, z.length ≤ 1000 := fun z hz => of_decide_eq_true (List.all_eq_true.mp h z hz)
theorem smallP {l : List (Str × Int)} (h : (l.all fun p => decide (p.1.length ≤ 1000)) = true) : ∀ p ∈ l, p.1.length ≤ 1000 := fun z hz => of_decide_eq_true (List.all_eq_true.mp h z hz)
theorem ver_kind {v : Int} : ∀ k, k ≤ 4 → (∃ n, verO v k = .int n) ∨ ∃ b, verO v k = .bl b := le4 (.inl ⟨_, rfl⟩) (.inl ⟨_, rfl⟩) (.inl ⟨_, rfl⟩) (.inr ⟨_, rfl⟩) (.inl ⟨_, rfl⟩)
theorem edO_small {v : Int} {c : Nat → Nat} (hc : ∀ j, c j ≤ 4) : (edO v c).Small := by
  refine ⟨?_, ver_kind _ (hc 1), ?_, ⟨?_, smallP ?_⟩, ⟨?_, smallP ?_⟩, ⟨?_, smallS ?_⟩⟩
  · exact le4 (p := fun k => (nmO k).length ≤ 1000) (by decide) (by decide) (by decide) (by decide) (by decide) _ (hc 0)
  · exact le4 (p := fun k => (scrO k).length ≤ 100) (by decide) (by decide) (by decide) (by decide) (by decide) _ (hc 2)
  · exact le4 (p := fun k => (neeO k).length ≤ 100) (by decide) (by decide) (by decide) (by decide) (by decide) _ (hc 3)
  · exact le4 (p := fun k => ((neeO k).all fun p => decide (p.1.length ≤ 1000)) = true) (by decide) (by decide) (by decide) (by decide) (by decide) _ (hc 3)
  · exact le4 (p := fun k => (firO k).length ≤ 100) (by decide) (by decide) (by decide) (by decide) (by decide) _ (hc 4)
  · exact le4 (p := fun k => ((firO k).all fun p => decide (p.1.length ≤ 1000)) = true) (by decide) (by decide) (by decide) (by decide) (by decide) _ (hc 4)
  · exact le4 (p := fun k => (agaO k).length ≤ 100) (by decide) (by decide) (by decide) (by decide) (by decide) _ (hc 5)
  · exact le4 (p := fun k => ((agaO k).all fun z => decide (z.length ≤ 1000)) = true) (by decide) (by decide) (by decide) (by decide) (by decide) _ (hc 5)
/-- the six values of a dict kv6 -/
theorem kv6_ed {K : PySem.W.Frag} {H : Hp} {d : Addr} {vs : Nat → V} {e : Ed} (hd : H d = some (.dK (kv6 vs))) (h0 : vs 0 = .str e.name) (h1 : vs 1 = e.version) (h2 : TD K H (vs 2) (.tuple (e.scripts.map PyData.str))) (h3 : TD K H (vs 3) (.tuple (e.needs.map pairD)))
    (h4 : TD K H (vs 4) (.tuple (e.first.map pairD))) (h5 : TD K H (vs 5) (.tuple (e.against.map PyData.str))) (sm : e.Small) : DictEd K H d e := by
  obtain ⟨s, es, hs⟩ := h2.strs
  obtain ⟨n, en, hn⟩ := h3.needs
  obtain ⟨f, ef, hf⟩ := h4.needs
  obtain ⟨g, eg, hg⟩ := h5.strs
  refine ⟨⟨_, s, n, f, g, hd, ?_, ?_, ?_, ?_, ?_, ?_, ⟨hs, hn, hf, hg⟩⟩, sm⟩
  · rw [← h0]; rfl
  · rw [← h1]; rfl
  · rw [← es]; rfl
  · rw [← en]; rfl
  · rw [← ef]; rfl
  · rw [← eg]; rfl
theorem TD.ver {K : PySem.W.Frag} {H : Hp} {v : Int} {x : V} : ∀ k, k ≤ 4 → TD K H x (verD (verO v k)) → x = verO v k :=
  le4 (fun h => by cases h; rfl) (fun h => by cases h; rfl) (fun h => by cases h; rfl) (fun h => by cases h; rfl) (fun h => by cases h; rfl)
theorem TD.str_eq {K : PySem.W.Frag} {H : Hp} {z : Str} {x : V} (h : TD K H x (.str z)) : x = .str z := by cases h; rfl
theorem Parts.ed {K : PySem.W.Frag} {H : Hp} {d : Addr} {v : Int} {c : Nat → Nat} (hc : ∀ j, c j ≤ 4) (h : Parts K H d v c) : DictEd K H d (edO v c) := by
  obtain ⟨vs, hd, ht⟩ := h
  exact kv6_ed hd (TD.str_eq (ht 0 (by decide))) (TD.ver _ (hc 1) (ht 1 (by decide))) (ht 2 (by decide)) (ht 3 (by decide)) (ht 4 (by decide)) (ht 5 (by decide)) (edO_small hc)
/-! ### the right edition, and those that lack a part -/
def e0 (v : Int) : Ed := ⟨"db", .int v, ["enter", "setup"], [("lib", 2)], [("lib", 1), ("web", 99)], ["lib", "zoo"]⟩
theorem edO_e0 {v : Int} {c : Nat → Nat} (h : ∀ j, j < 6 → c j = 4) : edO v c = e0 v := by
  unfold edO
  rw [h 0 (by decide), h 1 (by decide), h 2 (by decide), h 3 (by decide), h 4 (by decide), h 5 (by decide)]
  rfl
def lack (v : Int) (i : Nat) : Ed := match i with
  | 0 => { e0 v with scripts := [] }
  | 1 => { e0 v with needs := [] }
  | 2 => { e0 v with first := [] }
  | _ => { e0 v with against := [] }
theorem in_ok {v : Int} (h1 : 1 ≤ v) (h2 : v ≤ 99) : inR (.int v) 1 99 = true := m1 h1 h2 4 (by decide)
theorem e0_ok {v : Int} (h1 : 1 ≤ v) (h2 : v ≤ 99) : (e0 v).wrong = none := by
  have h := wrong_eq (c := fun _ => 4) h1 h2 (fun _ => Nat.le_refl _)
  rw [edO_e0 (fun _ _ => rfl)] at h
  rw [h]
  rfl
theorem lack_ok {v : Int} (h1 : 1 ≤ v) (h2 : v ≤ 99) (i : Nat) (hi : i < 4) : (lack v i).wrong = none := by
  have a0 : isWord "db" = true := by decide +kernel
  have a1 := in_ok h1 h2
  have a2 : areScripts ["enter", "setup"] = true := by decide +kernel
  have a2' : areScripts [] = true := by decide +kernel
  have a3 : areNeeds [("lib", 2)] "db" = true := by decide +kernel
  have a3' : areNeeds [] "db" = true := by decide +kernel
  have a4 : areNeeds [("lib", 1), ("web", 99)] "db" = true := by decide +kernel
  have a5 : areOthers ["lib", "zoo"] "db" = true := by decide +kernel
  have a5' : areOthers [] "db" = true := by decide +kernel
  match i, hi with
  | 0, _ => simp [Ed.wrong, Ed.checks, lack, e0, a0, a1, a2', a3, a4, a5]
  | 1, _ => simp [Ed.wrong, Ed.checks, lack, e0, a0, a1, a2, a3', a4, a5]
  | 2, _ => simp [Ed.wrong, Ed.checks, lack, e0, a0, a1, a2, a3, a3', a5]
  | 3, _ => simp [Ed.wrong, Ed.checks, lack, e0, a0, a1, a2, a3, a4, a5']
theorem e0_small (v : Int) : (e0 v).Small := by
  have h := edO_small (v := v) (c := fun _ => 4) (fun _ => Nat.le_refl _)
  rw [edO_e0 (fun _ _ => rfl)] at h
  exact h
theorem lack_small (v : Int) (i : Nat) (hi : i < 4) : (lack v i).Small := by
  have h := e0_small v
  match i, hi with
  | 0, _ => exact { h with scripts := Nat.zero_le _ }
  | 1, _ => exact { h with needs := ⟨Nat.zero_le _, fun p hp => by cases hp⟩ }
  | 2, _ => exact { h with first := ⟨Nat.zero_le _, fun p hp => by cases hp⟩ }
  | 3, _ => exact { h with against := ⟨Nat.zero_le _, fun p hp => by cases hp⟩ }
theorem okS : PyData.strOk "db" = true ∧ PyData.strOk "enter" = true ∧ PyData.strOk "setup" = true ∧ PyData.strOk "lib" = true ∧ PyData.strOk "web" = true ∧ PyData.strOk "zoo" = true := by decide +kernel
theorem e0_shaped (v : Int) : SeqAt.shaped (e0 v).data = true := by
  obtain ⟨h1, h2, h3, h4, h5, h6⟩ := okS
  simp [SeqAt.shaped, e0, Ed.data, verD, pairD, PyData.canLay0, PyData.canLayAll0, PyData.depth, PyData.depthAll, h1, h2, h3, h4, h5, h6]
theorem lack_shaped (v : Int) (i : Nat) (hi : i < 4) : SeqAt.shaped (lack v i).data = true := by
  obtain ⟨h1, h2, h3, h4, h5, h6⟩ := okS
  match i, hi with
  | 0, _ => simp [SeqAt.shaped, lack, e0, Ed.data, verD, pairD, PyData.canLay0, PyData.canLayAll0, PyData.depth, PyData.depthAll, h1, h2, h3, h4, h5, h6]
  | 1, _ => simp [SeqAt.shaped, lack, e0, Ed.data, verD, pairD, PyData.canLay0, PyData.canLayAll0, PyData.depth, PyData.depthAll, h1, h2, h3, h4, h5, h6]
  | 2, _ => simp [SeqAt.shaped, lack, e0, Ed.data, verD, pairD, PyData.canLay0, PyData.canLayAll0, PyData.depth, PyData.depthAll, h1, h2, h3, h4, h5, h6]
  | 3, _ => simp [SeqAt.shaped, lack, e0, Ed.data, verD, pairD, PyData.canLay0, PyData.canLayAll0, PyData.depth, PyData.depthAll, h1, h2, h3, h4, h5, h6]
theorem e0_lack (v : Int) (i : Nat) (hi : i < 4) : PyData.eqv (e0 v).data (lack v i).data = false := by
  match i, hi with
  | 0, _ => simp [lack, e0, Ed.data, verD, PyData.eqv, PyData.eqvAll]
  | 1, _ => simp [lack, e0, Ed.data, verD, PyData.eqv, PyData.eqvAll]
  | 2, _ => simp [lack, e0, Ed.data, verD, PyData.eqv, PyData.eqvAll]
  | 3, _ => simp [lack, e0, Ed.data, verD, PyData.eqv, PyData.eqvAll]
theorem e0_plain (v : Int) : PyData.eqv (e0 v).data (edP "db" v).data = false := by
  have n : (("enter" : Str) == "clean") = false := by decide +kernel
  simp [edP, SCR, e0, Ed.data, verD, PyData.eqv, PyData.eqvAll, n]
theorem e0_same (v : Int) : PyData.eqv (e0 v).data (e0 v).data = true := SeqAt.eqv_refl _ (SeqAt.canLay_of_shaped (e0_shaped v))
end Half

namespace Half
open PySem PySem.Spec PyProof.Rows L2
def ifBody (s : Stmt) : List Stmt := match s with
  | .If _ b _ _ => b
  | _ => []
def nth (l : List Stmt) (i : Nat) : Stmt := l.getD i (.Pass ⟨0, 0, 0, 0⟩)
/-- _law_made, known by its promise -/
structure MadeF (P : Program) (w : World) (K : PySem.W.Frag) (mg : Str → Option Value) (base : Heap) (C CE : Addr) : Prop where
  ex : ∃ f fd, FnOk P w K mg base (L2.CX P w) 8 f fd ["_law_parts_here"] (spMade K C CE) ∧ mg "_law_made" = some (.ref f) ∧ PySem.W.keepIn K (.ref f) = true ∧ Binds K fd ["_law_parts_here"] []
theorem pe_made {X : Cx} {C CE : Addr} {e : Expr} {t : TA} {p pos : Pos} {E : XK} (D : MadeF X.prog X.w X.K X.mg X.base C CE) (hr : Room 8 X.A) (hx : Passes (L2.CX X.prog X.w) X E) (hg : Gl X "_law_made") (ha : PA X [e] t)
    (he : starEach [e] X.env = (false, eval e X.env) :: starEach [] X.env := by rfl) (hpl : (backTo pos (starEach [] X.env)).any (·.1) = false := by rfl) :
    PE X (.Call (.Name "_law_made" p) [e] [] pos) (tCall (spMade X.K C CE) [] E t) := by
  obtain ⟨f, fd, F, hm, hk, hb⟩ := D.ex
  exact pe_call F hr hg hm hk hb .nil hx ha (by decide) he hpl
theorem made_read {K : PySem.W.Frag} {C CE d : Addr} {e : Ed} {H : Hp} {Q : VK} (hd : DictEd K H d e) (hw : e.wrong = none) (k : ∀ x H', Same H H' → (∃ s n f g, EdObj K H' C x e s n f g) → Q (.ref x) H') : spMade K C CE [.ref d] H Q E0 := by
  refine ⟨d, e, rfl, hd, fun _ => k, fun p hp => ?_⟩
  rw [hw] at hp
  cases hp
theorem dget_at {H : Hp} {d : Addr} {kvs : List (Key × V)} {x : Str} {v : V} (a : H d = some (.dK kvs)) (b : valV kvs (.inr x) = some v) : DGet H d (.str x) (some v) := by
  rw [← b]
  exact DGet.k (k := .inr x) a
theorem eqv_self {d : PyData} (h : SeqAt.shaped d = true) : (!PyData.eqv d d) = false := by
  rw [SeqAt.eqv_refl _ (SeqAt.canLay_of_shaped h)]
  rfl
section
variable {P : Program} {w : World} {K : PySem.W.Frag} {mg : Str → Option Value} {base : Heap} {C CE : Addr}
theorem law_in {f : Addr} {cdv : Value} {A : Around} {outer : List Env} {s : Shared} {H0 : Hp} {E : XK} (D : EdAll P w K mg base C CE) (M : MadeF P w K mg base C CE) (dP : Def P w K mg base 2 "_law_pick" ["_law_row", "_law_some"] (spPick K)) (gD : mg "dict" = none)
    (hr : Room 10 (A.deeper (envOfC "law" (defScope sLaw) s.heap.objs.size f cdv))) (nd : LawN.Nodup) :
    ∃ t, PSs (cxOf CX0 P w K mg base LawN "law" (defScope sLaw) f cdv A outer s H0 E).nox (ifBody (nth (defBody sLaw) 4)) t ∧ ∀ (D' : Ends) (H : Hp) (r d : Addr) (ver : Int) (x0 x3 x4 x5 x6 x7 x8 : Option V), Row K H r → Parts K H d ver (fun _ => 4) → 1 ≤ ver → ver ≤ 99 → (∀ σ' H', σ'.length = 9 → D'.nx σ' H') →
      t D' [x0, some (.ref r), some (.ref d), x3, x4, x5, x6, x7, x8] H := by
  obtain ⟨fi, fdi, aS, z1, z2, z3, EI⟩ := D.ei
  obtain ⟨ds, hds, hb0⟩ := EI.b0
  have r8 : Room 8 _ := hr.mono (by decide)
  have r7 : Room 7 _ := hr.mono (by decide)
  have r2 : Room 2 _ := hr.mono (by decide)
  have hu := hu_of hr
  refine ⟨_, pss_cons (ps_set (i := 5) nd rfl (Or.inl rfl) (pe_made M r8 passL rfl (pa_cons (pv 2) pa_nil)))
    (pss_cons (ps_if (pt_cmpR (op_neD hr.units) (pe_tup (pa_cons (pe_prp D.p0 D.cl r2 (pv 5)) (pa_cons (pe_prp D.p1 D.cl r2 (pv 5)) (pa_cons (pe_prp D.p2 D.cl r2 (pv 5)) pa_nil)))) (pe_tup (pa_cons (pe_dget hu (pv 2) pe_str (fun _ _ => rfl)) (pa_cons (pe_dget hu (pv 2) pe_str (fun _ _ => rfl)) (pa_cons (pe_dget hu (pv 2) pe_str (fun _ _ => rfl)) pa_nil)))) (nomark _)) (pss_one (ps_ret pe_bl)) pss_nil)
    (pss_cons (ps_if (pt_cmpR (op_neD hr.units) (pe_tup (pa_cons (pe_prp D.p3 D.cl r2 (pv 5)) (pa_cons (pe_prp D.p4 D.cl r2 (pv 5)) (pa_cons (pe_prp D.p5 D.cl r2 (pv 5)) pa_nil)))) (pe_tup (pa_cons (pe_dget hu (pv 2) pe_str (fun _ _ => rfl)) (pa_cons (pe_dget hu (pv 2) pe_str (fun _ _ => rfl)) (pa_cons (pe_dget hu (pv 2) pe_str (fun _ _ => rfl)) pa_nil)))) (nomark _)) (pss_one (ps_ret pe_bl)) pss_nil)
    (pss_cons (ps_if (PW.pt (pw_or (pt_cmpR (op_neE D.eq r2) (pv 5) (pe_made M r8 passL rfl (pa_cons (pv 2) pa_nil)) (nomark _)) (pw_or1 (pt_cmpR (op_eqE D.eq r2) (pv 5) (pe_make EI.make EI.ok r7 rfl EI.mgC hb0 hds passL (pa_cons pe_str (pa_cons (pe_dget hu (pv 2) pe_str (fun _ _ => rfl)) pa_nil))) (nomark _))))) (pss_one (ps_ret pe_bl)) pss_nil)
    (pss_cons (ps_set (i := 6) nd rfl (Or.inl rfl) (pe_callTy call_dictD (by rfl) gD (by decide +kernel) (pa_cons (pv 2) pa_nil)))
    (pss_cons (ps_set (i := 7) nd rfl (Or.inl rfl) (pe_def dP r2 rfl (pa_cons (pv 1) (pa_cons (pe_lst (pa_cons pe_str (pa_cons pe_str (pa_cons pe_str (pa_cons pe_str pa_nil))))) pa_nil))))
    (pss_cons (ps_dput hu (pv 6) (pv 7) (pe_tup pa_nil) rfl)
    (pss_one (ps_if (pt_cmpR (op_eqE D.eq r2) (pv 5) (pe_made M r8 passL rfl (pa_cons (pv 6) pa_nil)) (nomark _)) (pss_one (ps_ret pe_bl)) pss_nil)))))))), ?_⟩
  intro D' H r d ver x0 x3 x4 x5 x6 x7 x8 hR hP hv1 hv2 k
  have hed := hP.ed (fun _ => Nat.le_refl _)
  rw [edO_e0 (fun _ _ => rfl)] at hed
  refine ⟨_, rfl, d, e0 ver, rfl, hed, fun _ x H1 s1 ho => ?_, fun p hp => nomatch (e0_ok hv1 hv2).symm.trans hp⟩
  obtain ⟨s5, n5, f5, g5, ho⟩ := ho
  have is1 : EdIs K H1 C x (e0 ver) := ⟨⟨_, _, _, _, ho⟩, .inl ⟨ver, rfl⟩, e0_shaped ver⟩
  obtain ⟨⟨dy, pp, hx, hp⟩, hA⟩ := id ho
  have hed1 := hed.same s1
  obtain ⟨⟨kvs, s6, n6, f6, g6, hd1, h1, h2, h3, h4, h5, h6, hE⟩, sm⟩ := id hed1
  -- (one.name, one.version, one.scripts) != ..
  refine ⟨_, rfl, x, dy, _, rfl, hx, x, dy, pp, _, _, rfl, hx, hp, rfl, _, rfl, x, dy, _, rfl, hx, x, dy, pp, _, _, rfl, hx, hp, rfl, _, rfl, x, dy, _, rfl, hx, x, dy, pp, _, _, rfl, hx, hp, rfl, (by show 3 ≤ sizeLine; decide), fun t1 m1 => ?_⟩
  have q1 := Same.upd_new (o := .tup [.str (e0 ver).name, (e0 ver).version, .ref s5]) m1
  refine ⟨_, rfl, d, _, rfl, dget_at (q1 _ _ hd1) h1, _, rfl, d, _, rfl, dget_at (q1 _ _ hd1) h2, _, rfl, d, _, rfl, dget_at (q1 _ _ hd1) h3, (by show 3 ≤ sizeLine; decide), fun t2 m2 => ?_⟩
  have q2 := q1.trans (Same.upd_new (o := .tup [.str (e0 ver).name, (e0 ver).version, .ref s6]) m2)
  have shA : SeqAt.shaped (.tuple [.str (e0 ver).name, .int ver, .tuple ((e0 ver).scripts.map PyData.str)]) = true := by
    obtain ⟨h1, h2, h3, h4, h5, h6⟩ := okS
    simp [SeqAt.shaped, e0, PyData.canLay0, PyData.canLayAll0, PyData.depth, PyData.depthAll, h1, h2, h3]
  refine ⟨_, _, .tup (.inl (.inl ((Same.upd_new m2) _ _ upd_same))) (.cons (.str _) (.cons (.int ver) (.cons (.tup (hA.same q2).scripts (dpStrs _)) .nil))), .tup (.inl (.inl upd_same)) (.cons (.str _) (.cons (.int ver) (.cons (.tup (hE.same q2).scripts (dpStrs _)) .nil))), shA, shA, _, rfl, ?_⟩
  refine ite_no (eqv_self shA) ?_
  -- (one.needs, one.first, one.against) != ..
  have hx2 := q2 _ _ hx
  have hp2 := q2 _ _ hp
  refine ⟨_, rfl, x, dy, _, rfl, hx2, x, dy, pp, _, _, rfl, hx2, hp2, rfl, _, rfl, x, dy, _, rfl, hx2, x, dy, pp, _, _, rfl, hx2, hp2, rfl, _, rfl, x, dy, _, rfl, hx2, x, dy, pp, _, _, rfl, hx2, hp2, rfl, (by show 3 ≤ sizeLine; decide), fun t3 m3 => ?_⟩
  have q3 := q2.trans (Same.upd_new (o := .tup [.ref n5, .ref f5, .ref g5]) m3)
  refine ⟨_, rfl, d, _, rfl, dget_at (q3 _ _ hd1) h4, _, rfl, d, _, rfl, dget_at (q3 _ _ hd1) h5, _, rfl, d, _, rfl, dget_at (q3 _ _ hd1) h6, (by show 3 ≤ sizeLine; decide), fun t4 m4 => ?_⟩
  have q4 := q3.trans (Same.upd_new (o := .tup [.ref n6, .ref f6, .ref g6]) m4)
  have shB : SeqAt.shaped (.tuple [.tuple ((e0 ver).needs.map pairD), .tuple ((e0 ver).first.map pairD), .tuple ((e0 ver).against.map PyData.str)]) = true := (by decide +kernel : SeqAt.shaped (.tuple [.tuple ([(("lib" : Str), (2 : Int))].map pairD), .tuple ([(("lib" : Str), (1 : Int)), ("web", 99)].map pairD), .tuple (((["lib", "zoo"] : List Str)).map PyData.str)]) = true)
  refine ⟨_, _, .tup (.inl (.inl ((Same.upd_new m4) _ _ upd_same))) (.cons (hA.same q4).needs.dp (.cons (hA.same q4).first.dp (.cons (.tup (hA.same q4).against (dpStrs _)) .nil))), .tup (.inl (.inl upd_same)) (.cons (hE.same q4).needs.dp (.cons (hE.same q4).first.dp (.cons (.tup (hE.same q4).against (dpStrs _)) .nil))), shB, shB, _, rfl, ?_⟩
  refine ite_no (eqv_self shB) ?_
  -- one != made or one == Edition('db', version)
  have hed4 := hed1.same q4
  refine ⟨_, rfl, _, rfl, d, e0 ver, rfl, hed4, fun _ y H5 s5' ho5 => ?_, fun p hp => nomatch (e0_ok hv1 hv2).symm.trans hp⟩
  have is5 : EdIs K H5 C y (e0 ver) := ⟨ho5, .inl ⟨ver, rfl⟩, e0_shaped ver⟩
  have is15 := (is1.same q4).same s5'
  refine eqO_read is15 is5 ?_
  refine ⟨_, rfl, ?_⟩
  refine ite_no (eqv_self (e0_shaped ver)) ?_
  refine ⟨_, rfl, _, rfl, d, _, rfl, dget_at ((q4.trans s5') _ _ hd1) h2, fun u du nu ndu nuu => ?_⟩
  refine mk_read (e := edP "db" ver) nu ndu ⟨EI.tS _, .nil (EI.t1 _), .nil (EI.t2 _), EI.t3 _⟩ (edP_small (by decide)) (edP_ok (by decide +kernel) hv1 hv2) (fun H6 s6' ho6 => ?_)
  refine eqO_read (is15.same s6') (edP_is ho6 (by decide +kernel)) ?_
  refine ⟨_, rfl, ?_⟩
  refine ite_no (e0_plain ver) ?_
  -- other = dict(parts)
  have q6 := (s1.trans q4).trans (s5'.trans s6')
  have is16 := is15.same s6'
  obtain ⟨vp, hpd, hpt⟩ := id hP
  refine ⟨_, rfl, d, _, rfl, .inl (q6 _ _ hpd), fun o no => ?_⟩
  have q7 := q6.trans (Same.upd_new (o := .dK (kv6 vp)) no)
  have is17 := is16.same (Same.upd_new (o := .dK (kv6 vp)) no)
  -- part = pick(row, ..)
  refine ⟨_, rfl, (by show 4 ≤ sizeLine; decide), fun l nl => ?_⟩
  have q8 := q7.trans (Same.upd_new (o := .lst ((["scripts", "needs", "first", "against"] : List Str).map V.str)) nl)
  have is18 := is17.same (Same.upd_new (o := .lst ((["scripts", "needs", "first", "against"] : List Str).map V.str)) nl)
  have hR8 := hR.same q8
  obtain ⟨xr, hr8⟩ := hR.at_
  have nrl : r ≠ l := ne_of_none (q7 _ _ hr8) nl
  refine ⟨r, l, (["scripts", "needs", "first", "against"] : List Str).map V.str, rfl, hR8, SqL.of upd_same, nrl, by show 0 < 4; decide, by show 4 ≤ 1000; decide, fun i z o1 hz hR9 => ?_⟩
  have hi4 : i < 4 := by
    rcases Nat.lt_or_ge i 4 with h | h
    · exact h
    · rw [List.getElem?_eq_none (by show 4 ≤ i; exact h)] at hz
      cases hz
  have ez : z = .str (pn (i + 2)) := by
    match i, hi4, hz with
    | 0, _, hz => exact (Option.some.inj hz).symm
    | 1, _, hz => exact (Option.some.inj hz).symm
    | 2, _, hz => exact (Option.some.inj hz).symm
    | 3, _, hz => exact (Option.some.inj hz).symm
  subst ez
  have gr : Go K r (upd (upd _ o (.dK (kv6 vp))) l (.lst ((["scripts", "needs", "first", "against"] : List Str).map V.str))) _ := Go.updL (u := o1) (q8 _ _ hr8)
  have ro : o ≠ r := fun z => by rw [z, q6 _ _ hr8] at no; cases no
  have ho8 : (upd (upd H6 o (.dK (kv6 vp))) l (.lst ((["scripts", "needs", "first", "against"] : List Str).map V.str))) o = some (.dK (kv6 vp)) := (Same.upd_new nl) _ _ upd_same
  have ho9 := gr.sb _ _ ro ho8
  -- other[part] = ()
  refine ⟨Nat.zero_le _, fun te ne => ?_⟩
  have se := Same.upd_new (o := .tup []) ne
  refine ⟨_, rfl, _, rfl, o, _, rfl, DPut.k (k := .inr (pn (i + 2))) (se _ _ ho9) (by show 6 < sizeLine; decide), ?_⟩
  rw [putK6 (show i + 2 < 6 by omega)]
  have go : Go K o _ _ := Go.upd (K := K) (u := .dK (kv6 (setV vp (i + 2) (.ref te)))) (se _ _ ho9)
  have kpAll : Kp K H (upd (upd (upd (upd (upd H6 o (.dK (kv6 vp))) l (.lst ((["scripts", "needs", "first", "against"] : List Str).map V.str))) r o1) te (.tup [])) o (.dK (kv6 (setV vp (i + 2) (.ref te))))) := ((q8.kp.trans gr.kp).trans se.kp).trans go.kp
  have hte : SqT K (upd (upd (upd (upd (upd H6 o (.dK (kv6 vp))) l (.lst ((["scripts", "needs", "first", "against"] : List Str).map V.str))) r o1) te (.tup [])) o (.dK (kv6 (setV vp (i + 2) (.ref te))))) te [] := go.kp _ _ (.inl (.inl upd_same))
  have hot : DictEd K (upd (upd (upd (upd (upd H6 o (.dK (kv6 vp))) l (.lst ((["scripts", "needs", "first", "against"] : List Str).map V.str))) r o1) te (.tup [])) o (.dK (kv6 (setV vp (i + 2) (.ref te))))) o (lack ver i) := by
    have t0 := TD.str_eq (hpt 0 (by decide))
    have t1 := TD.ver _ (Nat.le_refl _) (hpt 1 (by decide))
    have t2 := (hpt 2 (by decide)).kp kpAll
    have t3 := (hpt 3 (by decide)).kp kpAll
    have t4 := (hpt 4 (by decide)).kp kpAll
    have t5 := (hpt 5 (by decide)).kp kpAll
    have tn : TD K _ (.ref te) (.tuple []) := .tup hte .nil
    match i, hi4 with
    | 0, _ => exact kv6_ed upd_same t0 t1 tn t3 t4 t5 (lack_small ver 0 (by decide))
    | 1, _ => exact kv6_ed upd_same t0 t1 t2 tn t4 t5 (lack_small ver 1 (by decide))
    | 2, _ => exact kv6_ed upd_same t0 t1 t2 t3 tn t5 (lack_small ver 2 (by decide))
    | 3, _ => exact kv6_ed upd_same t0 t1 t2 t3 t4 tn (lack_small ver 3 (by decide))
  -- one == made(other)
  have is19 : EdIs K (upd (upd (upd (upd (upd H6 o (.dK (kv6 vp))) l (.lst ((["scripts", "needs", "first", "against"] : List Str).map V.str))) r o1) te (.tup [])) o (.dK (kv6 (setV vp (i + 2) (.ref te))))) C x (e0 ver) := by
    obtain ⟨⟨sa, sb, sc, sd, ⟨dxx, ppp, e1, e2⟩, e3⟩, e4⟩ := is18
    have nx1 : x ≠ r := ne_of e1 (q8 _ _ hr8) (by intro z; cases z)
    have np1 : ppp ≠ r := ne_of e2 (q8 _ _ hr8) (by intro z; cases z)
    have nxo : x ≠ o := ne_of e1 ho8 (by intro z; cases z)
    have npo : ppp ≠ o := ne_of e2 ho8 (by intro z; cases z)
    refine ⟨⟨sa, sb, sc, sd, ⟨dxx, ppp, go.sb _ _ nxo (se _ _ (gr.sb _ _ nx1 e1)), go.sb _ _ npo (se _ _ (gr.sb _ _ np1 e2))⟩, ?_⟩, e4⟩
    have kk := (gr.kp.trans se.kp).trans go.kp
    obtain ⟨ts1, a1, a2, a3⟩ := e3.needs
    obtain ⟨ts2, b1, b2, b3⟩ := e3.first
    exact ⟨kk _ _ e3.scripts, ⟨ts1, kk _ _ a1, a2, fun i t p q r => kk _ _ (a3 i t p q r)⟩, ⟨ts2, kk _ _ b1, b2, fun i t p q r => kk _ _ (b3 i t p q r)⟩, kk _ _ e3.against⟩
  refine ⟨_, rfl, _, rfl, o, lack ver i, rfl, hot, fun _ y2 H10 s10 ho10 => ?_, fun p hp => nomatch (lack_ok hv1 hv2 i hi4).symm.trans hp⟩
  have is20 : EdIs K H10 C y2 (lack ver i) := ⟨ho10, by match i, hi4 with | 0, _ => exact .inl ⟨ver, rfl⟩ | 1, _ => exact .inl ⟨ver, rfl⟩ | 2, _ => exact .inl ⟨ver, rfl⟩ | 3, _ => exact .inl ⟨ver, rfl⟩, lack_shaped ver i hi4⟩
  refine eqO_read (is19.same s10) is20 ?_
  refine ⟨_, rfl, ?_⟩
  refine ite_no (e0_lack ver i hi4) ?_
  exact k _ _ rfl
end
end Half

namespace Half
open PySem PySem.Spec PyProof.Rows L2 LamX
def spLaw (K : PySem.W.Frag) (PT : Addr) : Sp := fun vs H Q _ => ∃ (a : Addr) (ns : List Int), vs = [.ref a] ∧ SqL K H a (ns.map V.int) ∧ ns.length ≤ 63 ∧ H PT = some (.tbl #[]) ∧ ∀ H', Q (.bl true) H'
theorem extSqT {K : PySem.W.Frag} {H H' : Hp} (e : ExtN H H') : Kp K H H' := fun a xs h => by
  rcases h with (h | ⟨q, h⟩) | h
  · exact .inl (.inl (e _ _ h (fun ps z => by cases z)))
  · exact .inl (.inr ⟨q, e _ _ h (fun ps z => by cases z)⟩)
  · exact .inr h
theorem Row.ext {K : PySem.W.Frag} {H H' : Hp} {r : Addr} (e : ExtN H H') (h : Row K H r) : Row K H' r := by
  obtain ⟨a, ns, i, g, l, h1, h2, h3⟩ := h
  refine ⟨a, ns, i, g, l, e _ _ h1 (fun ps z => by cases z), ?_, h3⟩
  rcases h2 with (h | ⟨q, h⟩) | h
  · exact .inl (.inl (e _ _ h (fun ps z => by cases z)))
  · exact .inl (.inr ⟨q, e _ _ h (fun ps z => by cases z)⟩)
  · exact .inr h
theorem Parts.ext {K : PySem.W.Frag} {H H' : Hp} {d : Addr} {v : Int} {c : Nat → Nat} (e : ExtN H H') (h : Parts K H d v c) : Parts K H' d v c := by
  obtain ⟨vs, h1, h2⟩ := h
  exact ⟨vs, e _ _ h1 (fun ps z => by cases z), fun j hj => (h2 j hj).kp (extSqT e)⟩
theorem Parts.same {K : PySem.W.Frag} {H H' : Hp} {d : Addr} {v : Int} {c : Nat → Nat} (s : Same H H') (h : Parts K H d v c) : Parts K H' d v c := by
  obtain ⟨vs, h1, h2⟩ := h
  exact ⟨vs, s _ _ h1, fun j hj => (h2 j hj).kp s.kp⟩
theorem Parts.congr {K : PySem.W.Frag} {H : Hp} {d : Addr} {v : Int} {c c' : Nat → Nat} (e : ∀ j, j < 6 → c j = c' j) (h : Parts K H d v c) : Parts K H d v c' := by
  obtain ⟨vs, h1, h2⟩ := h
  exact ⟨vs, h1, fun j hj => by rw [← e j hj]; exact h2 j hj⟩
theorem wr_some {c : Nat → Nat} {p : Str} (h : wr c = some p) : p = "name" ∨ p = "version" ∨ p = "scripts" ∨ p = "needs" ∨ p = "first" ∨ p = "against" := by
  unfold wr at h
  repeat' split at h
  all_goals first | (cases h; simp) | cases h
/-- _law_raised as the top has made it -/
structure RaisedF (K : PySem.W.Frag) (mg : Str → Option Value) : Prop where
  ex : ∃ g oc od dV kV doc pm an cdv ct osl, mg "_law_raised" = some (.ref g) ∧ PySem.W.keepIn K (.ref g) = true ∧ K.lookup g = some ⟨oc, od, .func (PySem.W.fnOf "_law_raised" "_law_raised" (defArgs sRaised) (defBody sRaised) (defScope sRaised) dV kV doc pm an cdv ct), osl⟩ ∧ PySem.W.codeIn K cdv "_law_raised" = true ∧
    L2.Binds K (PySem.W.fnOf "_law_raised" "_law_raised" (defArgs sRaised) (defBody sRaised) (defScope sRaised) dV kV doc pm an cdv ct) ["_law_work"] []
section
variable {P : Program} {w : World} {K : PySem.W.Frag} {mg : Str → Option Value} {base : Heap} {C c0 c1 c2 c3 c4 c5 c6 c7 c8 cS : Addr}
theorem scLaw : FnScope LawN ["_law_script"] (defScope sLaw) := ⟨rfl, rfl, rfl, by decide +kernel, rfl, by decide +kernel, by decide +kernel⟩
theorem ok_law {f c PT : Addr} {oc kV doc pm ct : Value} {od an : Option Addr} {osl : Array (Option Value)} (lk : K.lookup f = some ⟨oc, od, .func (PySem.W.fnOf "law" "law" (defArgs sLaw) (defBody sLaw) (defScope sLaw) .none kV doc pm an (.ref c) ct), osl⟩) (hcd : PySem.W.codeIn K (.ref c) "law" = true)
    (D : EdAll P w K mg base C c0) (M : MadeF P w K mg base C c0) (dP : Def P w K mg base 2 "_law_pick" ["_law_row", "_law_some"] (spPick K)) (dQ : Def P w K mg base 2 "_law_parts" ["_law_row"] (spParts K)) (gD : mg "dict" = none) (R : RaisedF K mg)
    (TE : ErrsC K mg c0 c1 c2 c3 c4 c5 c6 c7 c8 cS) (I0 : ErrIs K c0 c0 c1 c2 c3 c4 c5 c6 c7 c8 cS true false false false false false false false false) (TB : TabB base mg c PT) :
    FnOk P w K mg base CX0 11 f (PySem.W.fnOf "law" "law" (defArgs sLaw) (defBody sLaw) (defScope sLaw) .none kV doc pm an (.ref c) ct) ["_law_script"] (spLaw K PT) := by
  refine fn_of lk hcd scLaw (fun vs H Q E h => ?_) (fun A outer s H vs Q E hr h => ?_)
  · obtain ⟨a, ns, rfl, _⟩ := h
    rfl
  · obtain ⟨a, ns, rfl, hS, hlen, hPT, k⟩ := h
    have nd := scLaw.nd
    obtain ⟨tR, hRest, rdR⟩ := law_rest (f := f) (cdv := .ref c) (A := A) (outer := outer) (s := s) (H0 := H) (E := E) D hr nd
    obtain ⟨tI, hIn, rdI⟩ := law_in (f := f) (cdv := .ref c) (A := A) (outer := outer) (s := s) (H0 := H) (E := E) D M dP gD hr nd
    obtain ⟨g, oc', od', dV', kV', doc', pm', an', cdv', ct', osl', gR, kR, lkR, hcR, bR⟩ := R.ex
    have r2 : Room 2 _ := hr.mono (by decide)
    have main : ∃ t, PSs (cxOf CX0 P w K mg base LawN "law" (defScope sLaw) f (.ref c) A outer s H E).nox (defBody sLaw) t ∧ t { nx := fun _ H' => Q .non H', rt := Q } (L2.start LawN [.ref a]) H := by
      refine ⟨_, pss_cons (ps_set (i := 1) nd rfl (Or.inl rfl) (pe_lst (pa_cons (pv 0) (pa_cons pe_int (pa_cons pe_int (pa_cons pe_int pa_nil))))))
        (pss_cons (ps_asg (pe_def dQ r2 rfl (pa_cons (pv 1) pa_nil)) (pg_tup rfl (pgs_cons (pg_name (i := 2) nd rfl (Or.inr rfl)) (pgs_cons (pg_name (i := 3) nd rfl (Or.inl rfl)) pgs_nil))))
        (pss_cons (ps_set (i := 4) nd rfl (Or.inl rfl) (pe_lamcall (T := [(PT, (cxOf CX0 P w K mg base LawN "law" (defScope sLaw) f (.ref c) A outer s H E).nox.env.qual ++ "<lambda>")]) (TT := TRaised c0) (k := 8) (t := fun E => tCall (spMade K C c0) [] E (tCons (tVar 2) tNil)) rfl gR kR lkR hcR bR scRaised rfl (Or.inl rfl) (raised_gives TE I0) TB rfl (List.mem_cons_self ..)
            (fun p hp _ => by rw [List.mem_singleton.mp hp]) hr (lamS_by (sc := defScope sLaw) (by decide +kernel)) rfl (fun _ _ _ _ _ => rfl) (fun A outer s H E f c' hr' => pe_made M hr' (passes_call (takes_of rfl rfl rfl rfl) (fun _ _ _ _ h => h)) rfl (pa_cons (pv 2) pa_nil))))
        (pss_cons (ps_if (pt_cmpR (op_neD hr.units) (pv 4) (pe_ifExp (pt_cmp (pc_notN (pv 3))) (pe_tup (pa_cons pe_str (pa_cons (pv 3) pa_nil))) pe_non) (nomark _)) (pss_one (ps_ret pe_bl)) pss_nil)
        (pss_cons (ps_if (pt_cmp (pc_isN (pv 3))) hIn pss_nil) hRest)))), ?_⟩
      refine ⟨_, rfl, (by show 4 ≤ sizeLine; decide), fun r nr => ?_⟩
      have s1 := Same.upd_new (o := .lst [.ref a, .int 0, .int 0, .int 0]) nr
      have hR1 : Row K (upd H r (.lst [.ref a, .int 0, .int 0, .int 0])) r := ⟨a, ns, 0, 0, 0, upd_same, s1.seq hS, hlen, Int.le_refl 0⟩
      refine ⟨_, rfl, r, rfl, hR1, fun d t ver cc H2 hv1 hv2 hc sb hR2 ht hP hdn => ?_⟩
      have nPT : PT ≠ r := ne_of_none hPT nr
      have hPT2 : H2 PT = some (.tbl #[]) := sb _ _ nPT (s1 _ _ hPT)
      refine ⟨t, _, rfl, .inl (.inl ht), rfl, _, _, rfl, _, _, rfl, rfl, ?_⟩
      have rest : ∀ (x4 : Option V) (H4 : Hp), tR { nx := fun _ H' => Q .non H', rt := Q } [some (.ref a), some (.ref r), some (.ref d), some (optV (wr cc)), x4, none, none, none, none] H4 := fun x4 H4 => rdR _ _ _ rfl k
      refine ⟨fun p hp => ?_, fun H3 eN T3 => ?_⟩
      · rw [List.mem_singleton.mp hp]
        exact TabS.nil hPT2
      · have hR3 := hR2.ext eN
        have hP3 := hP.ext eN
        have we := wrong_eq hv1 hv2 hc
        refine ⟨_, rfl, d, edO ver cc, rfl, hP3.ed hc, fun hw x H4 s4 _ => ?_, fun p hw H4 dd s4 hx => ⟨rfl, dd, p, rfl, hx, fun H5 t5 s5 ht5 => ?_⟩⟩
        · rw [we] at hw
          rw [hw] at rest ⊢
          refine ⟨_, rfl, _, rfl, false, rfl, ?_⟩
          refine ⟨.none, .none, .non, .non, by decide +kernel, by decide +kernel, _, rfl, ?_⟩
          refine ite_no (by decide +kernel) ?_
          refine ⟨_, rfl, true, rfl, ?_⟩
          refine ite_yes rfl ?_
          refine rdI _ H4 r d ver _ _ _ _ _ _ _ (hR3.same s4) ((hP3.same s4).congr (wr_none hw)) hv1 hv2 (fun σ' H' hl => rdR _ _ _ hl k)
        · rw [we] at hw
          rw [hw] at rest ⊢
          refine ⟨_, rfl, _, rfl, true, rfl, ?_⟩
          refine ite_yes rfl ?_
          refine ⟨_, rfl, two_le, fun t6 n6 => ?_⟩
          have s6 := Same.upd_new (o := .tup [.str "edition", .str p]) n6
          have sh : SeqAt.shaped (.tuple [.str "edition", .str p]) = true := by
            rcases wr_some hw with rfl | rfl | rfl | rfl | rfl | rfl <;> decide +kernel
          refine ⟨_, _, .tup (.inl (.inl (s6 _ _ ht5))) (.cons (.str _) (.cons (.str _) .nil)), .tup (.inl (.inl upd_same)) (.cons (.str _) (.cons (.str _) .nil)), sh, sh, _, rfl, ?_⟩
          refine ite_no (eqv_self sh) ?_
          refine ⟨_, rfl, false, rfl, ?_⟩
          refine ite_no rfl ?_
          exact rest _ _
    obtain ⟨t, h1, h2⟩ := main
    exact ⟨t, h1.nox, h2⟩
end
end Half

namespace Half
open PySem PySem.Spec PyProof.Rows L2 LamX
theorem all_mk {l : PySem.W.OpenLaw} {w : World} {K : PySem.W.Frag} {h : Heap} {mg : Str → Option Value} {fa PT : Addr} (X : K.In h) (G : h.Ns mainGlobals mg) (hfa : mg "law" = some (.ref fa)) (hTab : h.get? PT = some (PySem.W.tabObj #[]))
    {f_word : Addr} {oc_word kV_word dc_word pm_word cd_word ct_word : Value} {od_word an_word : Option Addr} {sl_word : Array (Option Value)}
    {f_numb : Addr} {oc_numb kV_numb dc_numb pm_numb cd_numb ct_numb : Value} {od_numb an_numb : Option Addr} {sl_numb : Array (Option Value)}
    {f_asc : Addr} {oc_asc kV_asc dc_asc pm_asc cd_asc ct_asc : Value} {od_asc an_asc : Option Addr} {sl_asc : Array (Option Value)}
    {f_vers : Addr} {oc_vers kV_vers dc_vers pm_vers cd_vers ct_vers : Value} {od_vers an_vers : Option Addr} {sl_vers : Array (Option Value)}
    {f_scri : Addr} {oc_scri kV_scri dc_scri pm_scri cd_scri ct_scri : Value} {od_scri an_scri : Option Addr} {sl_scri : Array (Option Value)}
    {f_othe : Addr} {oc_othe kV_othe dc_othe pm_othe cd_othe ct_othe : Value} {od_othe an_othe : Option Addr} {sl_othe : Array (Option Value)}
    {f_pair : Addr} {oc_pair kV_pair dc_pair pm_pair cd_pair ct_pair : Value} {od_pair an_pair : Option Addr} {sl_pair : Array (Option Value)}
    {f_need : Addr} {oc_need kV_need dc_need pm_need cd_need ct_need : Value} {od_need an_need : Option Addr} {sl_need : Array (Option Value)}
    {f_wron : Addr} {oc_wron kV_wron dc_wron pm_wron cd_wron ct_wron : Value} {od_wron an_wron : Option Addr} {sl_wron : Array (Option Value)}
    {f_take : Addr} {oc_take kV_take dc_take pm_take cd_take ct_take : Value} {od_take an_take : Option Addr} {sl_take : Array (Option Value)}
    {f_pick : Addr} {oc_pick kV_pick dc_pick pm_pick cd_pick ct_pick : Value} {od_pick an_pick : Option Addr} {sl_pick : Array (Option Value)}
    {f_part : Addr} {oc_part kV_part dc_part pm_part cd_part ct_part : Value} {od_part an_part : Option Addr} {sl_part : Array (Option Value)}
    {f_made : Addr} {oc_made kV_made dc_made pm_made cd_made ct_made : Value} {od_made an_made : Option Addr} {sl_made : Array (Option Value)}
    {f_rais : Addr} {oc_rais kV_rais dc_rais pm_rais cd_rais ct_rais : Value} {od_rais an_rais : Option Addr} {sl_rais : Array (Option Value)}
    {f_law cLaw : Addr} {oc_law kV_law dc_law pm_law ct_law : Value} {od_law an_law : Option Addr} {sl_law : Array (Option Value)}
    {c0 c1 c2 c3 c4 c5 c6 c7 c8 cS C : Addr}
    {tLet t8 tLv tMv : Tok} {aS : Addr}
    {f_ei kD : Addr} {oc_ei dc_ei pm_ei cd_ei ct_ei : Value} {od_ei an_ei : Option Addr} {sl_ei : Array (Option Value)}
    {z1 z2 z3 : Addr}
    {ddS dd1 dd2 dd3 : Option Addr} {q0 q1 q2 q3 : Tok} {nS n1 n2 n3 : Nat} {slS sl1 sl2 sl3 : Array (Option Value)}
    {p_name : Addr} {rest_name : List Value}
    {f_g0 : Addr} {oc_g0 kV_g0 dc_g0 pm_g0 cd_g0 ct_g0 : Value} {od_g0 an_g0 : Option Addr} {sl_g0 : Array (Option Value)}
    {p_version : Addr} {rest_version : List Value}
    {f_g1 : Addr} {oc_g1 kV_g1 dc_g1 pm_g1 cd_g1 ct_g1 : Value} {od_g1 an_g1 : Option Addr} {sl_g1 : Array (Option Value)}
    {p_scripts : Addr} {rest_scripts : List Value}
    {f_g2 : Addr} {oc_g2 kV_g2 dc_g2 pm_g2 cd_g2 ct_g2 : Value} {od_g2 an_g2 : Option Addr} {sl_g2 : Array (Option Value)}
    {p_needs : Addr} {rest_needs : List Value}
    {f_g3 : Addr} {oc_g3 kV_g3 dc_g3 pm_g3 cd_g3 ct_g3 : Value} {od_g3 an_g3 : Option Addr} {sl_g3 : Array (Option Value)}
    {p_first : Addr} {rest_first : List Value}
    {f_g4 : Addr} {oc_g4 kV_g4 dc_g4 pm_g4 cd_g4 ct_g4 : Value} {od_g4 an_g4 : Option Addr} {sl_g4 : Array (Option Value)}
    {p_against : Addr} {rest_against : List Value}
    {f_g5 : Addr} {oc_g5 kV_g5 dc_g5 pm_g5 cd_g5 ct_g5 : Value} {od_g5 an_g5 : Option Addr} {sl_g5 : Array (Option Value)}
    {f_eq : Addr} {oc_eq kV_eq dc_eq pm_eq cd_eq ct_eq : Value} {od_eq an_eq : Option Addr} {sl_eq : Array (Option Value)}
    {nmE qE : Str} {NE : Addr} {bsE : List Value} {hdE : Bool} {snE : List Str} {subE : List Value} {abE : Bool} {colE : Option Bool} {ddE : Option Addr} {k0E k1E k2E k3E k5E : Option Value} {newE : String}
    {nm0 q0' : Str} {N0 : Addr} {bs0 bm0 : List Value} {sn0 : List Str} {sub0 : List Value} {ab0 : Bool} {col0 : Option Bool} {dd0 : Option Addr} {k00 k10 k20 k30 k50 : Option Value}
    {f_ie : Addr}
    {oc_ie kV_ie dc_ie pm_ie ct_ie : Value} {od_ie an_ie : Option Addr} {cdI ccI : Addr} {sl_ie : Array (Option Value)} {cclI : Value} {cddI : Option Addr} {vsI : Array Value} {ccsI : Array (Option Value)} {fileI : Str} {tfI : Tok} {clI : Value} {cldI : Option Addr} {cslI : Array (Option Value)}
    (a_word : PySem.W.nsIn K mainGlobals "is_word" = some (some (.ref f_word)))
    (l_word : K.lookup f_word = some ⟨oc_word, od_word, .func (PySem.W.fnOf "is_word" "is_word" (defArgs sWord) (defBody sWord) (defScope sWord) .none kV_word dc_word pm_word an_word cd_word ct_word), sl_word⟩)
    (c_word : PySem.W.codeIn K cd_word "is_word" = true)
    (k_word : PySem.W.keepIn K (.ref f_word) = true)
    (a_numb : PySem.W.nsIn K mainGlobals "is_number" = some (some (.ref f_numb)))
    (l_numb : K.lookup f_numb = some ⟨oc_numb, od_numb, .func (PySem.W.fnOf "is_number" "is_number" (defArgs sNumber) (defBody sNumber) (defScope sNumber) .none kV_numb dc_numb pm_numb an_numb cd_numb ct_numb), sl_numb⟩)
    (c_numb : PySem.W.codeIn K cd_numb "is_number" = true)
    (k_numb : PySem.W.keepIn K (.ref f_numb) = true)
    (a_asc : PySem.W.nsIn K mainGlobals "ascends" = some (some (.ref f_asc)))
    (l_asc : K.lookup f_asc = some ⟨oc_asc, od_asc, .func (PySem.W.fnOf "ascends" "ascends" (defArgs sAscends) (defBody sAscends) (defScope sAscends) .none kV_asc dc_asc pm_asc an_asc cd_asc ct_asc), sl_asc⟩)
    (c_asc : PySem.W.codeIn K cd_asc "ascends" = true)
    (k_asc : PySem.W.keepIn K (.ref f_asc) = true)
    (a_vers : PySem.W.nsIn K mainGlobals "is_version" = some (some (.ref f_vers)))
    (l_vers : K.lookup f_vers = some ⟨oc_vers, od_vers, .func (PySem.W.fnOf "is_version" "is_version" (defArgs sVersion) (defBody sVersion) (defScope sVersion) .none kV_vers dc_vers pm_vers an_vers cd_vers ct_vers), sl_vers⟩)
    (c_vers : PySem.W.codeIn K cd_vers "is_version" = true)
    (k_vers : PySem.W.keepIn K (.ref f_vers) = true)
    (a_scri : PySem.W.nsIn K mainGlobals "are_scripts" = some (some (.ref f_scri)))
    (l_scri : K.lookup f_scri = some ⟨oc_scri, od_scri, .func (PySem.W.fnOf "are_scripts" "are_scripts" (defArgs sScripts) (defBody sScripts) (defScope sScripts) .none kV_scri dc_scri pm_scri an_scri cd_scri ct_scri), sl_scri⟩)
    (c_scri : PySem.W.codeIn K cd_scri "are_scripts" = true)
    (k_scri : PySem.W.keepIn K (.ref f_scri) = true)
    (a_othe : PySem.W.nsIn K mainGlobals "are_other_names" = some (some (.ref f_othe)))
    (l_othe : K.lookup f_othe = some ⟨oc_othe, od_othe, .func (PySem.W.fnOf "are_other_names" "are_other_names" (defArgs sOthers) (defBody sOthers) (defScope sOthers) .none kV_othe dc_othe pm_othe an_othe cd_othe ct_othe), sl_othe⟩)
    (c_othe : PySem.W.codeIn K cd_othe "are_other_names" = true)
    (k_othe : PySem.W.keepIn K (.ref f_othe) = true)
    (a_pair : PySem.W.nsIn K mainGlobals "is_pair_with_version" = some (some (.ref f_pair)))
    (l_pair : K.lookup f_pair = some ⟨oc_pair, od_pair, .func (PySem.W.fnOf "is_pair_with_version" "is_pair_with_version" (defArgs sPair) (defBody sPair) (defScope sPair) .none kV_pair dc_pair pm_pair an_pair cd_pair ct_pair), sl_pair⟩)
    (c_pair : PySem.W.codeIn K cd_pair "is_pair_with_version" = true)
    (k_pair : PySem.W.keepIn K (.ref f_pair) = true)
    (a_need : PySem.W.nsIn K mainGlobals "are_needs" = some (some (.ref f_need)))
    (l_need : K.lookup f_need = some ⟨oc_need, od_need, .func (PySem.W.fnOf "are_needs" "are_needs" (defArgs sNeeds) (defBody sNeeds) (defScope sNeeds) .none kV_need dc_need pm_need an_need cd_need ct_need), sl_need⟩)
    (c_need : PySem.W.codeIn K cd_need "are_needs" = true)
    (k_need : PySem.W.keepIn K (.ref f_need) = true)
    (a_wron : PySem.W.nsIn K mainGlobals "wrong_part" = some (some (.ref f_wron)))
    (l_wron : K.lookup f_wron = some ⟨oc_wron, od_wron, .func (PySem.W.fnOf "wrong_part" "wrong_part" (defArgs sWrong) (defBody sWrong) (defScope sWrong) .none kV_wron dc_wron pm_wron an_wron cd_wron ct_wron), sl_wron⟩)
    (c_wron : PySem.W.codeIn K cd_wron "wrong_part" = true)
    (k_wron : PySem.W.keepIn K (.ref f_wron) = true)
    (a_take : PySem.W.nsIn K mainGlobals "_law_taken" = some (some (.ref f_take)))
    (l_take : K.lookup f_take = some ⟨oc_take, od_take, .func (PySem.W.fnOf "_law_taken" "_law_taken" (defArgs sTaken) (defBody sTaken) (defScope sTaken) .none kV_take dc_take pm_take an_take cd_take ct_take), sl_take⟩)
    (c_take : PySem.W.codeIn K cd_take "_law_taken" = true)
    (k_take : PySem.W.keepIn K (.ref f_take) = true)
    (a_pick : PySem.W.nsIn K mainGlobals "_law_pick" = some (some (.ref f_pick)))
    (l_pick : K.lookup f_pick = some ⟨oc_pick, od_pick, .func (PySem.W.fnOf "_law_pick" "_law_pick" (defArgs sPick) (defBody sPick) (defScope sPick) .none kV_pick dc_pick pm_pick an_pick cd_pick ct_pick), sl_pick⟩)
    (c_pick : PySem.W.codeIn K cd_pick "_law_pick" = true)
    (k_pick : PySem.W.keepIn K (.ref f_pick) = true)
    (a_part : PySem.W.nsIn K mainGlobals "_law_parts" = some (some (.ref f_part)))
    (l_part : K.lookup f_part = some ⟨oc_part, od_part, .func (PySem.W.fnOf "_law_parts" "_law_parts" (defArgs sParts) (defBody sParts) (defScope sParts) .none kV_part dc_part pm_part an_part cd_part ct_part), sl_part⟩)
    (c_part : PySem.W.codeIn K cd_part "_law_parts" = true)
    (k_part : PySem.W.keepIn K (.ref f_part) = true)
    (a_made : PySem.W.nsIn K mainGlobals "_law_made" = some (some (.ref f_made)))
    (l_made : K.lookup f_made = some ⟨oc_made, od_made, .func (PySem.W.fnOf "_law_made" "_law_made" (defArgs sMade) (defBody sMade) (defScope sMade) .none kV_made dc_made pm_made an_made cd_made ct_made), sl_made⟩)
    (c_made : PySem.W.codeIn K cd_made "_law_made" = true)
    (k_made : PySem.W.keepIn K (.ref f_made) = true)
    (a_rais : PySem.W.nsIn K mainGlobals "_law_raised" = some (some (.ref f_rais)))
    (l_rais : K.lookup f_rais = some ⟨oc_rais, od_rais, .func (PySem.W.fnOf "_law_raised" "_law_raised" (defArgs sRaised) (defBody sRaised) (defScope sRaised) .none kV_rais dc_rais pm_rais an_rais cd_rais ct_rais), sl_rais⟩)
    (c_rais : PySem.W.codeIn K cd_rais "_law_raised" = true)
    (k_rais : PySem.W.keepIn K (.ref f_rais) = true)
    (a_law : PySem.W.nsIn K mainGlobals "law" = some (some (.ref f_law)))
    (l_law : K.lookup f_law = some ⟨oc_law, od_law, .func (PySem.W.fnOf "law" "law" (defArgs sLaw) (defBody sLaw) (defScope sLaw) .none kV_law dc_law pm_law an_law (.ref cLaw) ct_law), sl_law⟩)
    (c_law : PySem.W.codeIn K (.ref cLaw) "law" = true)
    (k_law : PySem.W.keepIn K (.ref f_law) = true)
    (g_c0 : PySem.W.nsIn K mainGlobals "InvalidEdition" = some (some (.ref c0)))
    (g_c1 : PySem.W.nsIn K mainGlobals "InvalidStore" = some (some (.ref c1)))
    (g_c2 : PySem.W.nsIn K mainGlobals "InvalidSystem" = some (some (.ref c2)))
    (g_c3 : PySem.W.nsIn K mainGlobals "Refused" = some (some (.ref c3)))
    (g_c4 : PySem.W.nsIn K mainGlobals "UnknownEdition" = some (some (.ref c4)))
    (g_c5 : PySem.W.nsIn K mainGlobals "UnknownName" = some (some (.ref c5)))
    (g_c6 : PySem.W.nsIn K mainGlobals "InvalidNumber" = some (some (.ref c6)))
    (g_c7 : PySem.W.nsIn K mainGlobals "UnlikeStores" = some (some (.ref c7)))
    (g_c8 : PySem.W.nsIn K mainGlobals "TooMany" = some (some (.ref c8)))
    (g_cS : PySem.W.nsIn K mainGlobals "SetupError" = some (some (.ref cS)))
    (g_C : PySem.W.nsIn K mainGlobals "Edition" = some (some (.ref C)))
    (n_int : PySem.W.nsIn K mainGlobals "int" = some none)
    (n_len : PySem.W.nsIn K mainGlobals "len" = some none)
    (n_isinstance : PySem.W.nsIn K mainGlobals "isinstance" = some none)
    (n_str : PySem.W.nsIn K mainGlobals "str" = some none)
    (n_bool : PySem.W.nsIn K mainGlobals "bool" = some none)
    (n_tuple : PySem.W.nsIn K mainGlobals "tuple" = some none)
    (n_all : PySem.W.nsIn K mainGlobals "all" = some none)
    (n_range : PySem.W.nsIn K mainGlobals "range" = some none)
    (n_dict : PySem.W.nsIn K mainGlobals "dict" = some none)
    (n_ValueError : PySem.W.nsIn K mainGlobals "ValueError" = some none)
    (n_super : PySem.W.nsIn K mainGlobals "super" = some none)
    (v_let : PySem.W.nsIn K mainGlobals "LETTERS" = some (some (.str LET tLet)))
    (v_lon : PySem.W.nsIn K mainGlobals "LONGEST_WORD" = some (some (.int 8 t8)))
    (v_lv : PySem.W.nsIn K mainGlobals "LEAST_VERSION" = some (some (.int 1 tLv)))
    (v_mv : PySem.W.nsIn K mainGlobals "MOST_VERSION" = some (some (.int 99 tMv)))
    (v_scr : PySem.W.nsIn K mainGlobals "SCRIPTS" = some (some (.ref aS)))
    (a_ei : PySem.W.findIn K (.ref C) "__init__" = some (some (.ref f_ei)))
    (l_ei : K.lookup f_ei = some ⟨oc_ei, od_ei, .func (PySem.W.fnOf "__init__" "Edition.__init__" (defArgs sEi) (defBody sEi) (defScope sEi) .none (.ref kD) dc_ei pm_ei an_ei cd_ei ct_ei), sl_ei⟩)
    (c_ei : PySem.W.codeIn K cd_ei "Edition.__init__" = true)
    (k_ei : PySem.W.keepIn K (.ref f_ei) = true)
    (d_scripts : PySem.W.nsIn K kD "scripts" = some (some (.ref aS)))
    (d_needs : PySem.W.nsIn K kD "needs" = some (some (.ref z1)))
    (d_first : PySem.W.nsIn K kD "first" = some (some (.ref z2)))
    (d_against : PySem.W.nsIn K kD "against" = some (some (.ref z3)))
    (t_S : K.lookup aS = some ⟨.type "tuple", ddS, .seq #[.str "clean" q0, .str "enter" q1, .str "leave" q2, .str "setup" q3] nS, slS⟩)
    (t_1 : K.lookup z1 = some ⟨.type "tuple", dd1, .seq #[] n1, sl1⟩)
    (t_2 : K.lookup z2 = some ⟨.type "tuple", dd2, .seq #[] n2, sl2⟩)
    (t_3 : K.lookup z3 = some ⟨.type "tuple", dd3, .seq #[] n3, sl3⟩)
    (i_ei : PySem.W.isFn K (.ref f_ei) = true)
    (pg : PySem.W.plainGet K C Str.empty = true)
    (hd : PySem.W.hasDictIn K C = true)
    (po : PySem.W.plainOver K C = true)
    (sa : PySem.W.findIn K (.ref C) "__setattr__" = some (some (.builtin "object.__setattr__")))
    (mk : PySem.W.makesIn K C = true)
    (kc : PySem.W.keepIn K (.ref C) = true)
    (nP : PySem.W.findIn K (.ref C) "parts" = some none)
    (ha : PySem.W.findIn K (.ref C) "__class__" = some (some (.builtin "object.__class__")))
    (hn : PySem.W.specialIn K (.builtin "object.__class__") "__get__" = some (some (.builtin "getset_descriptor.__get__")))
    (ht : PySem.W.takesIn K (.builtin "object.__class__") = some true)
    (hm : PySem.W.mroIn K C (.type "object") = some true)
    (ki : PySem.W.kitOne K (.ref C) (.ref C) = some true)
    (pa_name : PySem.W.findIn K (.ref C) "name" = some (some (.ref p_name)))
    (pg_name : PySem.W.specialIn K (.ref p_name) "__get__" = some (some (.builtin "property.__get__")))
    (pt_name : PySem.W.takesIn K (.ref p_name) = some true)
    (pr_name : PySem.W.recIn K p_name "property" = some (.ref f_g0 :: rest_name))
    (l_g0 : K.lookup f_g0 = some ⟨oc_g0, od_g0, .func (PySem.W.fnOf "name" "Edition.name" (defArgs (sGet 0)) (defBody (sGet 0)) (defScope (sGet 0)) .none kV_g0 dc_g0 pm_g0 an_g0 cd_g0 ct_g0), sl_g0⟩)
    (c_g0 : PySem.W.codeIn K cd_g0 "Edition.name" = true)
    (k_g0 : PySem.W.keepIn K (.ref f_g0) = true)
    (pa_version : PySem.W.findIn K (.ref C) "version" = some (some (.ref p_version)))
    (pg_version : PySem.W.specialIn K (.ref p_version) "__get__" = some (some (.builtin "property.__get__")))
    (pt_version : PySem.W.takesIn K (.ref p_version) = some true)
    (pr_version : PySem.W.recIn K p_version "property" = some (.ref f_g1 :: rest_version))
    (l_g1 : K.lookup f_g1 = some ⟨oc_g1, od_g1, .func (PySem.W.fnOf "version" "Edition.version" (defArgs (sGet 1)) (defBody (sGet 1)) (defScope (sGet 1)) .none kV_g1 dc_g1 pm_g1 an_g1 cd_g1 ct_g1), sl_g1⟩)
    (c_g1 : PySem.W.codeIn K cd_g1 "Edition.version" = true)
    (k_g1 : PySem.W.keepIn K (.ref f_g1) = true)
    (pa_scripts : PySem.W.findIn K (.ref C) "scripts" = some (some (.ref p_scripts)))
    (pg_scripts : PySem.W.specialIn K (.ref p_scripts) "__get__" = some (some (.builtin "property.__get__")))
    (pt_scripts : PySem.W.takesIn K (.ref p_scripts) = some true)
    (pr_scripts : PySem.W.recIn K p_scripts "property" = some (.ref f_g2 :: rest_scripts))
    (l_g2 : K.lookup f_g2 = some ⟨oc_g2, od_g2, .func (PySem.W.fnOf "scripts" "Edition.scripts" (defArgs (sGet 2)) (defBody (sGet 2)) (defScope (sGet 2)) .none kV_g2 dc_g2 pm_g2 an_g2 cd_g2 ct_g2), sl_g2⟩)
    (c_g2 : PySem.W.codeIn K cd_g2 "Edition.scripts" = true)
    (k_g2 : PySem.W.keepIn K (.ref f_g2) = true)
    (pa_needs : PySem.W.findIn K (.ref C) "needs" = some (some (.ref p_needs)))
    (pg_needs : PySem.W.specialIn K (.ref p_needs) "__get__" = some (some (.builtin "property.__get__")))
    (pt_needs : PySem.W.takesIn K (.ref p_needs) = some true)
    (pr_needs : PySem.W.recIn K p_needs "property" = some (.ref f_g3 :: rest_needs))
    (l_g3 : K.lookup f_g3 = some ⟨oc_g3, od_g3, .func (PySem.W.fnOf "needs" "Edition.needs" (defArgs (sGet 3)) (defBody (sGet 3)) (defScope (sGet 3)) .none kV_g3 dc_g3 pm_g3 an_g3 cd_g3 ct_g3), sl_g3⟩)
    (c_g3 : PySem.W.codeIn K cd_g3 "Edition.needs" = true)
    (k_g3 : PySem.W.keepIn K (.ref f_g3) = true)
    (pa_first : PySem.W.findIn K (.ref C) "first" = some (some (.ref p_first)))
    (pg_first : PySem.W.specialIn K (.ref p_first) "__get__" = some (some (.builtin "property.__get__")))
    (pt_first : PySem.W.takesIn K (.ref p_first) = some true)
    (pr_first : PySem.W.recIn K p_first "property" = some (.ref f_g4 :: rest_first))
    (l_g4 : K.lookup f_g4 = some ⟨oc_g4, od_g4, .func (PySem.W.fnOf "first" "Edition.first" (defArgs (sGet 4)) (defBody (sGet 4)) (defScope (sGet 4)) .none kV_g4 dc_g4 pm_g4 an_g4 cd_g4 ct_g4), sl_g4⟩)
    (c_g4 : PySem.W.codeIn K cd_g4 "Edition.first" = true)
    (k_g4 : PySem.W.keepIn K (.ref f_g4) = true)
    (pa_against : PySem.W.findIn K (.ref C) "against" = some (some (.ref p_against)))
    (pg_against : PySem.W.specialIn K (.ref p_against) "__get__" = some (some (.builtin "property.__get__")))
    (pt_against : PySem.W.takesIn K (.ref p_against) = some true)
    (pr_against : PySem.W.recIn K p_against "property" = some (.ref f_g5 :: rest_against))
    (l_g5 : K.lookup f_g5 = some ⟨oc_g5, od_g5, .func (PySem.W.fnOf "against" "Edition.against" (defArgs (sGet 5)) (defBody (sGet 5)) (defScope (sGet 5)) .none kV_g5 dc_g5 pm_g5 an_g5 cd_g5 ct_g5), sl_g5⟩)
    (c_g5 : PySem.W.codeIn K cd_g5 "Edition.against" = true)
    (k_g5 : PySem.W.keepIn K (.ref f_g5) = true)
    (a_eq : PySem.W.findIn K (.ref C) "__eq__" = some (some (.ref f_eq)))
    (l_eq : K.lookup f_eq = some ⟨oc_eq, od_eq, .func (PySem.W.fnOf "__eq__" "Edition.__eq__" (defArgs sEq) (defBody sEq) (defScope sEq) .none kV_eq dc_eq pm_eq an_eq cd_eq ct_eq), sl_eq⟩)
    (c_eq : PySem.W.codeIn K cd_eq "Edition.__eq__" = true)
    (k_eq : PySem.W.keepIn K (.ref f_eq) = true)
    (i_eq : PySem.W.isFn K (.ref f_eq) = true)
    (x_E : K.lookup C = some (excClassObj nmE qE C NE bsE [.type "object"] hdE snE subE abE colE ddE k0E k1E k2E k3E k5E newE))
    (x_eq : PySem.W.nsIn K NE "__eq__" = some (some (.ref f_eq)))
    (x_ne : PySem.W.nsIn K NE "__ne__" = some none)
    (x_ok : PySem.W.nsOkIn K NE = true)
    (ga_c0 : PySem.W.findIn K (.ref c0) "__getattribute__" = some (some (.builtin "BaseException.__getattribute__")))
    (gg_c0 : PySem.W.findIn K (.ref c0) "__getattr__" = some none)
    (ex_c0 : PySem.W.subIn K (.ref c0) (.type "BaseException") = some true)
    (hd_c0 : PySem.W.hasDictIn K c0 = true)
    (nf_c0 : PySem.W.findIn K (.ref c0) "part" = some none)
    (ga_c1 : PySem.W.findIn K (.ref c1) "__getattribute__" = some (some (.builtin "BaseException.__getattribute__")))
    (gg_c1 : PySem.W.findIn K (.ref c1) "__getattr__" = some none)
    (ex_c1 : PySem.W.subIn K (.ref c1) (.type "BaseException") = some true)
    (hd_c1 : PySem.W.hasDictIn K c1 = true)
    (nf_c1 : PySem.W.findIn K (.ref c1) "index" = some none)
    (ga_c2 : PySem.W.findIn K (.ref c2) "__getattribute__" = some (some (.builtin "BaseException.__getattribute__")))
    (gg_c2 : PySem.W.findIn K (.ref c2) "__getattr__" = some none)
    (ex_c2 : PySem.W.subIn K (.ref c2) (.type "BaseException") = some true)
    (hd_c2 : PySem.W.hasDictIn K c2 = true)
    (nf_c2 : PySem.W.findIn K (.ref c2) "package" = some none)
    (ga_c3 : PySem.W.findIn K (.ref c3) "__getattribute__" = some (some (.builtin "BaseException.__getattribute__")))
    (gg_c3 : PySem.W.findIn K (.ref c3) "__getattr__" = some none)
    (ex_c3 : PySem.W.subIn K (.ref c3) (.type "BaseException") = some true)
    (hd_c3 : PySem.W.hasDictIn K c3 = true)
    (nf_c3 : PySem.W.findIn K (.ref c3) "why" = some none)
    (ha_c0 : PySem.W.findIn K (.ref c0) "__class__" = some (some (.builtin "object.__class__")))
    (hm_c0 : PySem.W.mroIn K c0 (.type "object") = some true)
    (kk_0 : PySem.W.kitOne K (.ref c0) (.ref c0) = some true)
    (kk_1 : PySem.W.kitOne K (.ref c0) (.ref c1) = some false)
    (kk_2 : PySem.W.kitOne K (.ref c0) (.ref c2) = some false)
    (kk_3 : PySem.W.kitOne K (.ref c0) (.ref c3) = some false)
    (kk_4 : PySem.W.kitOne K (.ref c0) (.ref c4) = some false)
    (kk_5 : PySem.W.kitOne K (.ref c0) (.ref c5) = some false)
    (kk_6 : PySem.W.kitOne K (.ref c0) (.ref c6) = some false)
    (kk_7 : PySem.W.kitOne K (.ref c0) (.ref c7) = some false)
    (kk_8 : PySem.W.kitOne K (.ref c0) (.ref c8) = some false)
    (kk_v : PySem.W.kitOne K (.ref c0) (.type "ValueError") = some true)
    (s1 : PySem.W.subIn K (.ref cS) (.type "BaseException") = some true)
    (s2 : PySem.W.hasDictIn K cS = true)
    (s3 : PySem.W.typeIn K (.ref cS) = some (.type "type"))
    (s4 : PySem.W.subIn K (.ref c0) (.ref cS) = some true)
    (o_cl : K.lookup c0 = some (excClassObj nm0 q0' c0 N0 bs0 bm0 true sn0 sub0 ab0 col0 dd0 k00 k10 k20 k30 k50 "ValueError.__new__"))
    (o_ve : PySem.HandSPX.refsVE bm0 = true)
    (o_sa : PySem.W.findIn K (.ref c0) "__setattr__" = some (some (.builtin "object.__setattr__")))
    (o_ty : PySem.W.typeIn K (.ref c0) = some (.type "type"))
    (o_kc : PySem.W.keepIn K (.ref c0) = true)
    (o_sub : PySem.W.mroIn K c0 (.ref c0) = some true)
    (o_sup : PySem.W.ks_superIn K c0 c0 "__init__" = some (some (.builtin "ValueError.__init__")))
    (o_sv : PySem.W.subIn K (.ref c0) (.type "ValueError") = some true)
    (o_op : PySem.W.nsIn K cStatics "thirdparty.any" = some none)
    (o_top : (l.prog.main.scope.names.lookup ("super" : Str)).isSome = false)
    (a_ie : PySem.W.findIn K (.ref c0) "__init__" = some (some (.ref f_ie)))
    (y_ie : PySem.W.typeIn K (.ref f_ie) = some (.type "function"))
    (l_ie : K.lookup f_ie = some ⟨oc_ie, od_ie, .func (PySem.W.ksFn "__init__" "InvalidEdition.__init__" (defArgs sIe) (defBody sIe) (defScope sIe) .none kV_ie dc_ie pm_ie an_ie (.ref cdI) ct_ie ccI), sl_ie⟩)
    (c_ie : PySem.W.codeIn K (.ref cdI) "InvalidEdition.__init__" = true)
    (e_ie : K.lookup cdI = some ⟨cclI, cddI, .fields vsI, ccsI⟩)
    (f2_ie : vsI[2]? = some (.str fileI tfI))
    (fl_ie : ((l.prog.main.file : Str) == fileI) = true)
    (ce_ie : K.lookup ccI = some ⟨clI, cldI, .cell (some (.ref c0)), cslI⟩)
    (nT : K.lookup PT = none)
    (hH : PySem.W.codeHdIn K cLaw PT = true)
    : LawAtS l w K CX0 11 63 "_law_script" mg fa h := by
  have e := hfa.symm.trans (PySem.W.mg_of X G a_law)
  cases e
  have F_word := fun_mk (st := sWord) l_word c_word k_word
  have B_word := F_word.binds (ps := ["text"]) fun _ _ _ _ _ _ us hl => match us, hl with | [_], _ => rfl
  have F_numb := fun_mk (st := sNumber) l_numb c_numb k_numb
  have B_numb := F_numb.binds (ps := ["value", "least", "most"]) fun _ _ _ _ _ _ us hl => match us, hl with | [_, _, _], _ => rfl
  have F_asc := fun_mk (st := sAscends) l_asc c_asc k_asc
  have B_asc := F_asc.binds (ps := ["values"]) fun _ _ _ _ _ _ us hl => match us, hl with | [_], _ => rfl
  have F_vers := fun_mk (st := sVersion) l_vers c_vers k_vers
  have B_vers := F_vers.binds (ps := ["value"]) fun _ _ _ _ _ _ us hl => match us, hl with | [_], _ => rfl
  have F_scri := fun_mk (st := sScripts) l_scri c_scri k_scri
  have B_scri := F_scri.binds (ps := ["values"]) fun _ _ _ _ _ _ us hl => match us, hl with | [_], _ => rfl
  have F_othe := fun_mk (st := sOthers) l_othe c_othe k_othe
  have B_othe := F_othe.binds (ps := ["values", "name"]) fun _ _ _ _ _ _ us hl => match us, hl with | [_, _], _ => rfl
  have F_pair := fun_mk (st := sPair) l_pair c_pair k_pair
  have B_pair := F_pair.binds (ps := ["value"]) fun _ _ _ _ _ _ us hl => match us, hl with | [_], _ => rfl
  have F_need := fun_mk (st := sNeeds) l_need c_need k_need
  have B_need := F_need.binds (ps := ["values", "name"]) fun _ _ _ _ _ _ us hl => match us, hl with | [_, _], _ => rfl
  have F_wron := fun_mk (st := sWrong) l_wron c_wron k_wron
  have B_wron := F_wron.binds (ps := ["name", "version", "scripts", "needs", "first", "against"]) fun _ _ _ _ _ _ us hl => match us, hl with | [_, _, _, _, _, _], _ => rfl
  have F_take := fun_mk (st := sTaken) l_take c_take k_take
  have B_take := F_take.binds (ps := ["_law_row", "_law_many"]) fun _ _ _ _ _ _ us hl => match us, hl with | [_, _], _ => rfl
  have F_pick := fun_mk (st := sPick) l_pick c_pick k_pick
  have B_pick := F_pick.binds (ps := ["_law_row", "_law_some"]) fun _ _ _ _ _ _ us hl => match us, hl with | [_, _], _ => rfl
  have F_part := fun_mk (st := sParts) l_part c_part k_part
  have B_part := F_part.binds (ps := ["_law_row"]) fun _ _ _ _ _ _ us hl => match us, hl with | [_], _ => rfl
  have F_made := fun_mk (st := sMade) l_made c_made k_made
  have B_made := F_made.binds (ps := ["_law_parts_here"]) fun _ _ _ _ _ _ us hl => match us, hl with | [_], _ => rfl
  have tS : ∀ H, SqT K H aS (SCR.map V.str) := fun H => .inr ⟨_, _, _, t_S, rfl, rfl, (by decide : 4 ≤ sizeLine), .cons ⟨_, rfl⟩ (.cons ⟨_, rfl⟩ (.cons ⟨_, rfl⟩ (.cons ⟨_, rfl⟩ .nil)))⟩
  have t1 : ∀ H, SqT K H z1 [] := fun H => .inr ⟨_, _, _, t_1, rfl, rfl, by decide, .nil⟩
  have t2 : ∀ H, SqT K H z2 [] := fun H => .inr ⟨_, _, _, t_2, rfl, rfl, by decide, .nil⟩
  have t3 : ∀ H, SqT K H z3 [] := fun H => .inr ⟨_, _, _, t_3, rfl, rfl, by decide, .nil⟩
  have none_ : ∀ {x : Str}, PySem.W.nsIn K mainGlobals x = some none → mg x = none := fun h => PySem.W.mg_none_of X G h
  have TD0 : TxtD mg := ⟨none_ n_int, none_ n_len⟩
  have TC : TxtC K mg 0 0 0 0 0 0 0 := ⟨TD0, none_ n_isinstance, none_ n_str, none_ n_bool, none_ n_tuple, none_ n_all, none_ n_range, ⟨_, PySem.W.mg_of X G v_let⟩, ⟨_, PySem.W.mg_of X G v_lon⟩⟩
  have TE0 : TxtE K mg := ⟨TD0, none_ n_isinstance, none_ n_str, none_ n_bool, none_ n_tuple, none_ n_all, none_ n_range, ⟨_, PySem.W.mg_of X G v_lv⟩, ⟨_, PySem.W.mg_of X G v_mv⟩, ⟨_, PySem.W.mg_of X G v_scr, tS⟩⟩
  have oex : OexC K c0 := ⟨⟨_, _, _, _, _, _, _, _, _, _, _, _, _, _, _, o_cl, o_ve⟩, o_sa, ex_c0, o_ty, o_kc⟩
  have sup : SupC l.prog K mg c0 := ⟨oex, o_sub, o_sup, o_sv, o_op, none_ n_super, o_top⟩
  have er : ErrFn l.prog K c0 "InvalidEdition.__init__" sIe f_ie _ := ⟨⟨_, _, _, _, _, _, _, _, _, _, _, _, _, _, _, _, _, _, _, rfl, l_ie, c_ie, e_ie, f2_ie, fl_ie, ce_ie⟩⟩
  have cl : Cls K C := ⟨pg, hd, po, sa⟩
  have TG : TxtG l.prog K mg C c0 f_ie _ := ⟨cl, nP, PySem.W.mg_of X G g_C, PySem.W.mg_of X G g_c0, sup, nf_c0, a_ie, y_ie, er, Binds.all fun us hl => match us, hl with | [_, _], _ => rfl⟩
  have TI : TxtI K mg C := ⟨cl, nP, PySem.W.mg_of X G g_C, none_ n_isinstance, ha, hn, ht, hm, ki⟩
  have FE : FunD K "__init__" "Edition.__init__" (defArgs sEi) (defBody sEi) (defScope sEi) [] [("scripts", .ref aS), ("needs", .ref z1), ("first", .ref z2), ("against", .ref z3)] f_ei _ :=
    ⟨⟨_, _, _, _, _, _, _, _, _, _, rfl, l_ei, c_ei, .inl ⟨rfl, rfl⟩, .inr ⟨kD, rfl, fun q hq => by
      simp only [List.mem_cons, List.not_mem_nil, or_false] at hq
      rcases hq with rfl | rfl | rfl | rfl
      · exact ⟨_, d_scripts, rfl⟩
      · exact ⟨_, d_needs, rfl⟩
      · exact ⟨_, d_first, rfl⟩
      · exact ⟨_, d_against, rfl⟩⟩⟩, k_ei⟩
  have ES : ErrsC K mg c0 c1 c2 c3 c4 c5 c6 c7 c8 cS := ⟨none_ n_isinstance, none_ n_ValueError, PySem.W.mg_of X G g_c0, PySem.W.mg_of X G g_c1, PySem.W.mg_of X G g_c2, PySem.W.mg_of X G g_c3, PySem.W.mg_of X G g_c4, PySem.W.mg_of X G g_c5, PySem.W.mg_of X G g_c6, PySem.W.mg_of X G g_c7, PySem.W.mg_of X G g_c8, PySem.W.mg_of X G g_cS,
    ⟨ga_c0, gg_c0, ex_c0, hd_c0⟩, ⟨ga_c1, gg_c1, ex_c1, hd_c1⟩, ⟨ga_c2, gg_c2, ex_c2, hd_c2⟩, ⟨ga_c3, gg_c3, ex_c3, hd_c3⟩, nf_c0, nf_c1, nf_c2, nf_c3⟩
  have I0 : ErrIs K c0 c0 c1 c2 c3 c4 c5 c6 c7 c8 cS true false false false false false false false false := ⟨⟨ga_c0, gg_c0, ex_c0, hd_c0, ha_c0, hn, ht, hm_c0⟩, kk_0, kk_1, kk_2, kk_3, kk_4, kk_5, kk_6, kk_7, kk_8, kk_v, PySem.W.exm_ref s1 s2 s3 s4⟩
  have F_g0 := fun_mk (st := sGet 0) l_g0 c_g0 k_g0
  have B_g0 := F_g0.binds (ps := ["self"]) fun _ _ _ _ _ _ us hl => match us, hl with | [_], _ => rfl
  have F_g1 := fun_mk (st := sGet 1) l_g1 c_g1 k_g1
  have B_g1 := F_g1.binds (ps := ["self"]) fun _ _ _ _ _ _ us hl => match us, hl with | [_], _ => rfl
  have F_g2 := fun_mk (st := sGet 2) l_g2 c_g2 k_g2
  have B_g2 := F_g2.binds (ps := ["self"]) fun _ _ _ _ _ _ us hl => match us, hl with | [_], _ => rfl
  have F_g3 := fun_mk (st := sGet 3) l_g3 c_g3 k_g3
  have B_g3 := F_g3.binds (ps := ["self"]) fun _ _ _ _ _ _ us hl => match us, hl with | [_], _ => rfl
  have F_g4 := fun_mk (st := sGet 4) l_g4 c_g4 k_g4
  have B_g4 := F_g4.binds (ps := ["self"]) fun _ _ _ _ _ _ us hl => match us, hl with | [_], _ => rfl
  have F_g5 := fun_mk (st := sGet 5) l_g5 c_g5 k_g5
  have B_g5 := F_g5.binds (ps := ["self"]) fun _ _ _ _ _ _ us hl => match us, hl with | [_], _ => rfl
  have F_eq := fun_mk (st := sEq) l_eq c_eq k_eq
  have B_eq := F_eq.binds (ps := ["self", "other"]) fun _ _ _ _ _ _ us hl => match us, hl with | [_, _], _ => rfl
  have RF : RaisedF K mg := ⟨_, _, _, _, _, _, _, _, _, _, _, PySem.W.mg_of X G a_rais, k_rais, l_rais, c_rais, Binds.all fun us hl => match us, hl with | [_], _ => rfl⟩
  refine ⟨PySem.W.fnOf "law" "law" (defArgs sLaw) (defBody sLaw) (defScope sLaw) .none kV_law dc_law pm_law an_law (.ref cLaw) ct_law, [(cLaw, PT)], spLaw K PT, fun p hp => ?_, fun p hp => ?_, fun p hp => ?_, fun s v => .of_eq rfl, fun H a ns hl _ hT hS => ⟨a, ns, rfl, hS, hl, hT (cLaw, PT) (List.mem_cons_self ..), fun _ => rfl⟩, fun base KB GB TB => ?_⟩
  · rw [List.mem_singleton.mp hp]; exact hTab
  · rw [List.mem_singleton.mp hp]; exact nT
  · rw [List.mem_singleton.mp hp]; exact PySem.W.codeHd_of_K X hH
  · have dN : Def l.prog w K mg base 1 "is_number" _ spNumber := ⟨_, _, ok_number F_numb TE0, PySem.W.mg_of X G a_numb, k_numb, B_numb⟩
    have dV : Def l.prog w K mg base 2 "is_version" _ spVersion := ⟨_, _, ok_version F_vers TE0 dN, PySem.W.mg_of X G a_vers, k_vers, B_vers⟩
    have dA : Def l.prog w K mg base 1 "ascends" _ (spAsc K) := ⟨_, _, ok_asc F_asc TE0, PySem.W.mg_of X G a_asc, k_asc, B_asc⟩
    have dW : Def l.prog w K mg base 1 "is_word" _ spWord := ⟨_, _, ok_word F_word TC, PySem.W.mg_of X G a_word, k_word, B_word⟩
    have dS : Def l.prog w K mg base 2 "are_scripts" _ (spScripts K) := ⟨_, _, ok_scripts F_scri TE0 dA, PySem.W.mg_of X G a_scri, k_scri, B_scri⟩
    have dO : Def l.prog w K mg base 2 "are_other_names" _ (spOthers K) := ⟨_, _, ok_others F_othe TE0 dA dW, PySem.W.mg_of X G a_othe, k_othe, B_othe⟩
    have dPr : Def l.prog w K mg base 3 "is_pair_with_version" _ (spPair K) := ⟨_, _, ok_pair F_pair TE0 dV, PySem.W.mg_of X G a_pair, k_pair, B_pair⟩
    have dNe : Def l.prog w K mg base 4 "are_needs" _ (spNeeds K) := ⟨_, _, ok_needs F_need TE0 dPr dO, PySem.W.mg_of X G a_need, k_need, B_need⟩
    have dWr : Def l.prog w K mg base 5 "wrong_part" _ (spWrong K) := ⟨_, _, ok_wrong F_wron TE0 ⟨dW, dV, dS, dNe, dO⟩, PySem.W.mg_of X G a_wron, k_wron, B_wron⟩
    have EI : EdF l.prog w K mg base C c0 f_ei _ aS z1 z2 z3 := ⟨ok_ei FE TG dWr, FE, ⟨mk, a_ei, i_ei, kc⟩, PySem.W.mg_of X G g_C, tS, t1, t2, t3⟩
    have eqF : EqF l.prog w K mg base C := ⟨_, _, ok_eq F_eq TI, ⟨⟨_, _, _, _, _, _, _, _, _, _, _, _, _, _, _, _, x_E, x_eq, x_ne, x_ok⟩, a_eq, i_eq⟩, B_eq⟩
    have D : EdAll l.prog w K mg base C c0 := ⟨⟨_, _, _, _, _, _, EI⟩, eqF, cl, ⟨_, _, _, ⟨pa_name, pg_name, pt_name, ⟨_, pr_name⟩⟩, ok_get (by decide) F_g0 cl nP, B_g0⟩, ⟨_, _, _, ⟨pa_version, pg_version, pt_version, ⟨_, pr_version⟩⟩, ok_get (by decide) F_g1 cl nP, B_g1⟩, ⟨_, _, _, ⟨pa_scripts, pg_scripts, pt_scripts, ⟨_, pr_scripts⟩⟩, ok_get (by decide) F_g2 cl nP, B_g2⟩, ⟨_, _, _, ⟨pa_needs, pg_needs, pt_needs, ⟨_, pr_needs⟩⟩, ok_get (by decide) F_g3 cl nP, B_g3⟩, ⟨_, _, _, ⟨pa_first, pg_first, pt_first, ⟨_, pr_first⟩⟩, ok_get (by decide) F_g4 cl nP, B_g4⟩, ⟨_, _, _, ⟨pa_against, pg_against, pt_against, ⟨_, pr_against⟩⟩, ok_get (by decide) F_g5 cl nP, B_g5⟩⟩
    have M : MadeF l.prog w K mg base C c0 := ⟨_, _, ok_made F_made EI, PySem.W.mg_of X G a_made, k_made, B_made⟩
    have dT : Def l.prog w K mg base 1 "_law_taken" _ (spTaken K) := ⟨_, _, ok_taken F_take TD0, PySem.W.mg_of X G a_take, k_take, B_take⟩
    have dPi : Def l.prog w K mg base 2 "_law_pick" _ (spPick K) := ⟨_, _, ok_pick F_pick TD0 dT, PySem.W.mg_of X G a_pick, k_pick, B_pick⟩
    have dQ : Def l.prog w K mg base 2 "_law_parts" _ (spParts K) := ⟨_, _, ok_parts F_part dT, PySem.W.mg_of X G a_part, k_part, B_part⟩
    exact ok_law l_law c_law D M dPi dQ (none_ n_dict) RF ES I0 (TB (cLaw, PT) (List.mem_cons_self ..))
end Half

open PySem PySem.W PyProof.Rows
set_option maxRecDepth 100000 in
set_option maxHeartbeats 0 in
theorem PySem.Challenge.cw_halfsetup_k01_editions_validated_holds : PySem.Challenge.rw_halfsetup_k01_editions_validated.Holds := by
  w_on; o_law; k_head; (case hw => w_witness2)
  k_fill
  refine LamX.walk_ofTs (l := PySem.Challenge.rw_halfsetup_k01_editions_validated) (n := 63) (k := 11) (x := "_law_script") (CX := fun _ => L2.CX0) rfl (by decide) rfl ⟨rfl, by decide, by decide⟩ (fun w h Y => PySem.W.km_in_of Y) ?F (fun _ _ _ _ _ z => z)
  case F =>
    intro w mg fa h Y KX G hmg
    refine' Half.all_mk KX G hmg (PySem.W.km_tabs_of Y _ (List.mem_cons_self ..)) ?a_word ?l_word ?c_word ?k_word ?a_numb ?l_numb ?c_numb ?k_numb ?a_asc ?l_asc ?c_asc ?k_asc ?a_vers ?l_vers ?c_vers ?k_vers ?a_scri ?l_scri ?c_scri ?k_scri ?a_othe ?l_othe ?c_othe ?k_othe ?a_pair ?l_pair ?c_pair ?k_pair ?a_need ?l_need ?c_need ?k_need ?a_wron ?l_wron ?c_wron ?k_wron ?a_take ?l_take ?c_take ?k_take ?a_pick ?l_pick ?c_pick ?k_pick ?a_part ?l_part ?c_part ?k_part ?a_made ?l_made ?c_made ?k_made ?a_rais ?l_rais ?c_rais ?k_rais ?a_law ?l_law ?c_law ?k_law ?g_c0 ?g_c1 ?g_c2 ?g_c3 ?g_c4 ?g_c5 ?g_c6 ?g_c7 ?g_c8 ?g_cS ?g_C ?n_int ?n_len ?n_isinstance ?n_str ?n_bool ?n_tuple ?n_all ?n_range ?n_dict ?n_ValueError ?n_super ?v_let ?v_lon ?v_lv ?v_mv ?v_scr ?a_ei ?l_ei ?c_ei ?k_ei ?d_scripts ?d_needs ?d_first ?d_against ?t_S ?t_1 ?t_2 ?t_3 ?i_ei ?pg ?hd ?po ?sa ?mk ?kc ?nP ?ha ?hn ?ht ?hm ?ki ?pa_name ?pg_name ?pt_name ?pr_name ?l_g0 ?c_g0 ?k_g0 ?pa_version ?pg_version ?pt_version ?pr_version ?l_g1 ?c_g1 ?k_g1 ?pa_scripts ?pg_scripts ?pt_scripts ?pr_scripts ?l_g2 ?c_g2 ?k_g2 ?pa_needs ?pg_needs ?pt_needs ?pr_needs ?l_g3 ?c_g3 ?k_g3 ?pa_first ?pg_first ?pt_first ?pr_first ?l_g4 ?c_g4 ?k_g4 ?pa_against ?pg_against ?pt_against ?pr_against ?l_g5 ?c_g5 ?k_g5 ?a_eq ?l_eq ?c_eq ?k_eq ?i_eq ?x_E ?x_eq ?x_ne ?x_ok ?ga_c0 ?gg_c0 ?ex_c0 ?hd_c0 ?nf_c0 ?ga_c1 ?gg_c1 ?ex_c1 ?hd_c1 ?nf_c1 ?ga_c2 ?gg_c2 ?ex_c2 ?hd_c2 ?nf_c2 ?ga_c3 ?gg_c3 ?ex_c3 ?hd_c3 ?nf_c3 ?ha_c0 ?hm_c0 ?kk_0 ?kk_1 ?kk_2 ?kk_3 ?kk_4 ?kk_5 ?kk_6 ?kk_7 ?kk_8 ?kk_v ?s1 ?s2 ?s3 ?s4 ?o_cl ?o_ve ?o_sa ?o_ty ?o_kc ?o_sub ?o_sup ?o_sv ?o_op ?o_top ?a_ie ?y_ie ?l_ie ?c_ie ?e_ie ?f2_ie ?fl_ie ?ce_ie ?nT ?hH
    (case a_word => k_is)
    (case l_word => k_is)
    (case c_word => k_is)
    (case k_word => k_is)
    (case a_numb => k_is)
    (case l_numb => k_is)
    (case c_numb => k_is)
    (case k_numb => k_is)
    (case a_asc => k_is)
    (case l_asc => k_is)
    (case c_asc => k_is)
    (case k_asc => k_is)
    (case a_vers => k_is)
    (case l_vers => k_is)
    (case c_vers => k_is)
    (case k_vers => k_is)
    (case a_scri => k_is)
    (case l_scri => k_is)
    (case c_scri => k_is)
    (case k_scri => k_is)
    (case a_othe => k_is)
    (case l_othe => k_is)
    (case c_othe => k_is)
    (case k_othe => k_is)
    (case a_pair => k_is)
    (case l_pair => k_is)
    (case c_pair => k_is)
    (case k_pair => k_is)
    (case a_need => k_is)
    (case l_need => k_is)
    (case c_need => k_is)
    (case k_need => k_is)
    (case a_wron => k_is)
    (case l_wron => k_is)
    (case c_wron => k_is)
    (case k_wron => k_is)
    (case a_take => k_is)
    (case l_take => k_is)
    (case c_take => k_is)
    (case k_take => k_is)
    (case a_pick => k_is)
    (case l_pick => k_is)
    (case c_pick => k_is)
    (case k_pick => k_is)
    (case a_part => k_is)
    (case l_part => k_is)
    (case c_part => k_is)
    (case k_part => k_is)
    (case a_made => k_is)
    (case l_made => k_is)
    (case c_made => k_is)
    (case k_made => k_is)
    (case a_rais => k_is)
    (case l_rais => k_is)
    (case c_rais => k_is)
    (case k_rais => k_is)
    (case a_law => k_is)
    (case l_law => k_is)
    (case c_law => k_is)
    (case k_law => k_is)
    (case g_c0 => k_is)
    (case g_c1 => k_is)
    (case g_c2 => k_is)
    (case g_c3 => k_is)
    (case g_c4 => k_is)
    (case g_c5 => k_is)
    (case g_c6 => k_is)
    (case g_c7 => k_is)
    (case g_c8 => k_is)
    (case g_cS => k_is)
    (case g_C => k_is)
    (case n_int => k_is)
    (case n_len => k_is)
    (case n_isinstance => k_is)
    (case n_str => k_is)
    (case n_bool => k_is)
    (case n_tuple => k_is)
    (case n_all => k_is)
    (case n_range => k_is)
    (case n_dict => k_is)
    (case n_ValueError => k_is)
    (case n_super => k_is)
    (case v_let => k_is)
    (case v_lon => k_is)
    (case v_lv => k_is)
    (case v_mv => k_is)
    (case v_scr => k_is)
    (case a_ei => k_is)
    (case l_ei => k_is)
    (case c_ei => k_is)
    (case k_ei => k_is)
    (case d_scripts => k_is)
    (case d_needs => k_is)
    (case d_first => k_is)
    (case d_against => k_is)
    (case t_S => k_is)
    (case t_1 => k_is)
    (case t_2 => k_is)
    (case t_3 => k_is)
    (case i_ei => k_is)
    (case pg => k_is)
    (case hd => k_is)
    (case po => k_is)
    (case sa => k_is)
    (case mk => k_is)
    (case kc => k_is)
    (case nP => k_is)
    (case ha => k_is)
    (case hn => k_is)
    (case ht => k_is)
    (case hm => k_is)
    (case ki => kit_is)
    (case pa_name => k_is)
    (case pg_name => k_is)
    (case pt_name => k_is)
    (case pr_name => k_is)
    (case l_g0 => k_is)
    (case c_g0 => k_is)
    (case k_g0 => k_is)
    (case pa_version => k_is)
    (case pg_version => k_is)
    (case pt_version => k_is)
    (case pr_version => k_is)
    (case l_g1 => k_is)
    (case c_g1 => k_is)
    (case k_g1 => k_is)
    (case pa_scripts => k_is)
    (case pg_scripts => k_is)
    (case pt_scripts => k_is)
    (case pr_scripts => k_is)
    (case l_g2 => k_is)
    (case c_g2 => k_is)
    (case k_g2 => k_is)
    (case pa_needs => k_is)
    (case pg_needs => k_is)
    (case pt_needs => k_is)
    (case pr_needs => k_is)
    (case l_g3 => k_is)
    (case c_g3 => k_is)
    (case k_g3 => k_is)
    (case pa_first => k_is)
    (case pg_first => k_is)
    (case pt_first => k_is)
    (case pr_first => k_is)
    (case l_g4 => k_is)
    (case c_g4 => k_is)
    (case k_g4 => k_is)
    (case pa_against => k_is)
    (case pg_against => k_is)
    (case pt_against => k_is)
    (case pr_against => k_is)
    (case l_g5 => k_is)
    (case c_g5 => k_is)
    (case k_g5 => k_is)
    (case a_eq => k_is)
    (case l_eq => k_is)
    (case c_eq => k_is)
    (case k_eq => k_is)
    (case i_eq => k_is)
    (case x_E => k_is)
    (case x_eq => k_is)
    (case x_ne => k_is)
    (case x_ok => kernel_rfl)
    (case ga_c0 => k_is)
    (case gg_c0 => k_is)
    (case ex_c0 => k_is)
    (case hd_c0 => k_is)
    (case nf_c0 => k_is)
    (case ga_c1 => k_is)
    (case gg_c1 => k_is)
    (case ex_c1 => k_is)
    (case hd_c1 => k_is)
    (case nf_c1 => k_is)
    (case ga_c2 => k_is)
    (case gg_c2 => k_is)
    (case ex_c2 => k_is)
    (case hd_c2 => k_is)
    (case nf_c2 => k_is)
    (case ga_c3 => k_is)
    (case gg_c3 => k_is)
    (case ex_c3 => k_is)
    (case hd_c3 => k_is)
    (case nf_c3 => k_is)
    (case ha_c0 => k_is)
    (case hm_c0 => k_is)
    (case kk_0 => kit_is)
    (case kk_1 => kit_is)
    (case kk_2 => kit_is)
    (case kk_3 => kit_is)
    (case kk_4 => kit_is)
    (case kk_5 => kit_is)
    (case kk_6 => kit_is)
    (case kk_7 => kit_is)
    (case kk_8 => kit_is)
    (case kk_v => kit_is)
    (case s1 => k_is)
    (case s2 => k_is)
    (case s3 => k_is)
    (case s4 => k_is)
    (case o_cl => k_is)
    (case o_ve => decide +kernel)
    (case o_sa => k_is)
    (case o_ty => k_is)
    (case o_kc => k_is)
    (case o_sub => k_is)
    (case o_sup => ks_is)
    (case o_sv => k_is)
    (case o_op => k_is)
    (case o_top => decide +kernel)
    (case a_ie => k_is)
    (case y_ie => k_is)
    (case l_ie => k_is)
    (case c_ie => k_is)
    (case e_ie => k_is)
    (case f2_ie => rfl)
    (case fl_ie => decide +kernel)
    (case ce_ie => k_is)
    (case nT => kernel_rfl)
    (case hH => kernel_rfl)
