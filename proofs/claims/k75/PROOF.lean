import PyProof.Rows.All
import Wide.All
import OpenK.AllK
import Wide.FinOn
import KE.KExcSuper
import HandS.ForMost
import HandS.ForExc
import HandS.ExcInit
import PyProof.InstNe
import KE.KExcIs
import HandS.ExcIs
import HandS.SetFor
import HandS.IsInst
import HandS.Walk
import HandS.FStr
import HandS.More
import HandS.Codes
import HandS.Conv
import HandS.Defaults
import HandS.MakeKwOnly
import HandS.Property
import HandS.TupSets
import HandS.SetKeys
import HandS.SetTxt0
import HandS.Strs
import PyProof.Rows.SortShellAny
import HandS.SortRule
import HandS.SortOrd
import HandS.DictComp
import KE.GoesMore
import KE.KEqDict
import HandS.Lambda
import KE.KDflt
import HandS.Style
import HandS.TupAny
import HandS.Star
import KE.KRevSl
import HandS.ExcField
import HandS.TupLen
import HandS.RaiseMore
import HandS.ExcOwn
import HandS.Deep
import HandS.FStrTup
import HandS.Flow
import KE.DataMinMax
import KE.KDictWalk
import HandS.Iter
import KE.SortData
import HandS.EndTab
import KE.KNestM
import KE.RegKIsAll
import PySem.Challenge.RW_halfsetup_k75_whole_four_packages_in_rin
set_option Elab.async false
set_option linter.all false
set_option maxRecDepth 100000
set_option maxHeartbeats 8000000
/-! a def (the own __init__ of an exception class) whose first statement is super().__init__(e) -/
namespace L2
open PySem PySem.Spec PyProof.Rows
theorem zip_rev_lookup : ∀ {ps : List Str} {us : List Value} {i : Nat} {y : Str} {u : Value}, ps.Nodup → ps[i]? = some y → us[i]? = some u → (ps.zip us).reverse.lookup y = some u
  | [], _, i, _, _, _, h, _ => by simp at h
  | p :: ps, [], i, _, _, _, _, h => by simp at h
  | p :: ps, u0 :: us, 0, y, u, nd, h1, h2 => by
    have e1 : p = y := by simpa using h1
    have e2 : u0 = u := by simpa using h2
    subst e1 e2
    have hp : p ∉ ps := (List.nodup_cons.mp nd).1
    have q : ((ps.zip us).reverse).lookup p = none := by
      rw [List.lookup_eq_none_iff]
      intro z hz
      have n : p ≠ z.1 := fun e' => hp (by rw [e']; exact (List.of_mem_zip (List.mem_reverse.mp hz)).1)
      simpa using n
    rw [List.zip_cons_cons, List.reverse_cons, List.lookup_append, q]
    simp [List.lookup]
  | p :: ps, u0 :: us, i + 1, y, u, nd, h1, h2 => by
    have ih := zip_rev_lookup (ps := ps) (us := us) (i := i) (y := y) (u := u) (List.nodup_cons.mp nd).2 (by simpa using h1) (by simpa using h2)
    rw [List.zip_cons_cons, List.reverse_cons, List.lookup_append, ih]
    rfl
/-- what a slot holds at the start is an argument -/
theorem start_val {N : List Str} {vs : List V} {i : Nat} {v : V} (h : (start N vs)[i]? = some (some v)) : vs[i]? = some v := by
  rcases Nat.lt_or_ge i vs.length with lt | ge
  · rw [show start N vs = vs.map some ++ List.replicate (N.length - vs.length) none from rfl, List.getElem?_append_left (by rwa [List.length_map]), List.getElem?_map, List.getElem?_eq_getElem lt] at h
    rw [List.getElem?_eq_getElem lt]
    exact Option.some.inj h
  · rw [show start N vs = vs.map some ++ List.replicate (N.length - vs.length) none from rfl, List.getElem?_append_right (by rwa [List.length_map])] at h
    exact nomatch (List.mem_replicate.mp (List.mem_of_getElem? h)).2
structure SupScope (N P : List Str) (sc : Scope) : Prop where
  kind : sc.kind = .function
  co : sc.isCoroutine = false
  gen : sc.isGenerator = false
  nd : N.Nodup
  pre : N.take P.length = P
  par : ∀ x ∈ P, sc.names.lookup x = some .local
  nocell : ∀ y ∈ sc.names, y.2 ≠ .cell
  free : ∀ y ∈ sc.names, y.2 = .free → y.1 = ("__class__" : Str)
  hs : sc.names.lookup ("super" : Str) = some .globalImplicit
  hc : sc.names.lookup ("__class__" : Str) = some .free
def cxSup (CX : CXT) (P : Program) (w : World) (K : PySem.W.Frag) (mg : Str → Option Value) (base : Heap) (N : List Str) (qual : Str) (scope : Scope) (f : Addr) (cd : Value) (cc : Addr) (A : Around) (outer : List Env) (s : Shared) (H : Hp) (E : XK) : Cx where
  prog := P
  w := w
  K := K
  mg := mg
  base := base
  A := A.deeper (PySem.W.ksEnv qual scope s.heap.objs.size f cd cc)
  N := N
  s_0 := s
  H_0 := H
  env := PySem.W.ksEnv qual scope s.heap.objs.size f cd cc
  outer := outer
  stack := PySem.W.ksEnv qual scope s.heap.objs.size f cd cc :: outer
  ex := []
  calm := true
  fn := fun _ => false
  pn := []
  xe := fun e s' => wpAny (model P w) (A.deeper (PySem.W.ksEnv qual scope s.heap.objs.size f cd cc)) (leaving (PySem.W.ksEnv qual scope s.heap.objs.size f cd cc) e) (fun _ s'' => CX outer H s E e s'') (fun e' s'' => CX outer H s E e' s'') s'
theorem inv_startS {CX : CXT} {P : Program} {w : World} {K : PySem.W.Frag} {mg : Str → Option Value} {base : Heap} {N ps : List Str} {qual : Str} {scope : Scope} {f cc : Addr} {cd : Value} {A : Around} {outer : List Env} {s : Shared} {H : Hp} {E : XK} {us : List Value} {vs : List V} {h₀ : Heap} {tk : Nat}
    {oc : Obj} {cv : Option Value} (S : SupScope N ps scope) (hd : A.handled = none) (e0 : Env0 P w K mg base A outer s H) (hl : vs.length = ps.length) (r : Vals vs us) (hcell : K.lookup cc = some oc) (hcd : oc.data = .cell cv)
    (hns : h₀.Ns s.heap.objs.size (fun x => (ps.zip us).reverse.lookup x)) (kp : ∀ b o, s.heap.get? b = some o → h₀.get? b = some o) :
    Inv (cxSup CX P w K mg base N qual scope f cd cc A outer s H E) [] (start N vs) H { s with heap := h₀, toks := tk } := by
  have hpl : ps.length ≤ N.length := by have := congrArg List.length S.pre; rw [List.length_take] at this; omega
  have noA : ∀ b : Addr, b ∉ (cxSup CX P w K mg base N qual scope f cd cc A outer s H E).ex := fun b z => absurd (show b ∈ ([] : List Addr) from z) (by simp)
  have hb := e0.bs cc oc (e0.mod.kin _ _ hcell)
  have lk : ∀ {y : Str} {c : Addr}, ([(("__class__" : Str), cc)] : List (Str × Addr)).lookup y = some c → y = ("__class__" : Str) ∧ c = cc := fun {y c} e => by
    simp only [List.lookup] at e
    split at e
    · rename_i q
      exact ⟨by simpa using q, (Option.some.inj e).symm⟩
    · cases e
  refine ⟨⟨e0.mod, S.kind, rfl, rfl, Nat.le_refl _, fun y z c h1 h2 => ?_, fun y hy => ?_, fun y c z _ => ?_, fun _ => hd, Around.frames_deeper e0.frames, .inr ⟨rfl, rfl⟩, fun b z => absurd z (noA b), e0.bs, e0.bsz, fun b _ _ => noA b, fun b z => absurd z (noA b), e0.funs, e0.frf⟩,
    rfl, e0.bare, Un.kept kp, ⟨_, hns, fun i y v h1 h2 h3 => ?_⟩, fun y c h => ?_, e0.hok.fresh (Nat.le_refl _), fun y c h => ?_, fun p hp => absurd (show p ∈ ([] : List (Addr × Obj)) from hp) (by simp), e0.hok.kept kp, ?_⟩
  · exact (lk h1).1.trans (lk h2).1.symm
  · have hy : scope.names.lookup y = some .cell ∨ scope.names.lookup y = some .free := hy
    rcases hy with hy | hy
    · exact absurd rfl (S.nocell _ (PySem.mem_of_lookup hy))
    · have e := S.free _ (PySem.mem_of_lookup hy) rfl
      have e : y = ("__class__" : Str) := e
      subst e
      exact ⟨cc, by show ([(("__class__" : Str), cc)] : List (Str × Addr)).lookup _ = _; simp [List.lookup]⟩
  · have z : false = true := z
    cases z
  · have ha := start_val h2
    have hi := (List.getElem?_eq_some_iff.mp ha).1
    obtain ⟨u, hu, rv⟩ := r.get ha
    have hp : ps[i]? = some y := by rw [← S.pre, List.getElem?_take_of_lt (by omega)]; exact h1
    have ndP : ps.Nodup := by rw [← S.pre]; exact S.nd.sublist (List.take_sublist _ _)
    exact ⟨u, rv, .inl ⟨S.par y (List.mem_of_getElem? hp), zip_rev_lookup ndP hp hu⟩⟩
  · have e := (lk h).2
    subst e
    exact ⟨cv, oc, kp _ _ hb.1, hcd⟩
  · have e := (lk h).2
    subst e
    exact hb.2
  · unfold start
    show _ = N.length
    rw [List.length_append, List.length_map, List.length_replicate]
    omega
/-- the built-in __init__, bound to the exception at a, called -/
theorem call_mw {P : Program} {w : World} {A : Around} {E : Value → Shared → Prop} {h : Heap} {g : Array GenState} {d : Drawn} {t : Nat} {os : OsState} {nm q : Str} {C N : Addr} {bs bm : List Value} {hdct : Bool} {sn : List Str} {sub : List Value} {ab : Bool} {col : Option Bool} {dd : Option Addr} {k0 k1 k2 k3 k5 : Option Value}
    {u e t0 : Addr} {rest : List Value} {Q : Value → Shared → Prop}
    (hC : h.get? C = some (excClassObj nm q C N bs bm hdct sn sub ab col dd k0 k1 k2 k3 k5 "ValueError.__new__")) (he : h.get? e = some (HandSPX.excO C t0)) (hu : h.get? u = some (PySem.W.kxs_mw "ValueError.__init__" e)) (hz : rest.length ≤ sizeLine)
    (hq : ∀ h' t1, (∀ b o, b ≠ e → h.get? b = some o → h'.get? b = some o) → h'.get? e = some (HandSPX.excO C t1) → Q .none ⟨h', g, d, t, os⟩) :
    wpAny (model P w) A (call (.ref u) rest) Q E ⟨h, g, d, t, os⟩ := by
  have FB := F.excBase_ValueError
  refine wpAny_call (codeAny_of_tree ?_); show wpAny _ A.in1 (callAny (.ref u) ⟨rest, []⟩) _ _ _
  simp only [callAny]; refine wpAny_bind (wpAny_load hu ?_)
  simp only [PySem.W.kxs_mw, show (Value.type "method-wrapper" == Value.type "method" || Value.type "method-wrapper" == Value.type "builtin_function_or_method" || Value.type "method-wrapper" == Value.type "method-wrapper") = true by decide, if_true]
  refine PySem.W.KFB.if_so (by decide) (wpAny_bind (PySem.W.check_bound_init FB.toExcCallFacts hC he rfl (wpAny_bind (wpAny_pure (wpAny_pure ⟨plainId_quiet FB.init.plain _, codeAny_builtin FB.initEntry ?_⟩)))))
  exact PySem.W.exc_init_tree (cls := .ref C) (t0 := t0) (dv := none) (c2 := .none) (c3 := .none) (b4 := .bool false) he hz fun h' k hx _ => hq h' h.objs.size k hx
/-- what the written part says besides, for super() in the __init__ of the class at D -/
structure SupC (P : Program) (K : PySem.W.Frag) (mg : Str → Option Value) (D : Addr) : Prop where
  oex : OexC K D
  sub : PySem.W.mroIn K D (.ref D) = some true
  sup : PySem.W.ks_superIn K D D "__init__" = some (some (.builtin "ValueError.__init__"))
  ve : PySem.W.subIn K (.ref D) (.type "ValueError") = some true
  op : PySem.W.nsIn K cStatics "thirdparty.any" = some none
  mgs : mg "super" = none
  top : (P.main.scope.names.lookup ("super" : Str)).isSome = false
theorem fn_sup {CX : CXT} {P : Program} {w : World} {K : PySem.W.Frag} {mg : Str → Option Value} {base : Heap} {k : Nat} {f cc D cda : Addr} {name qual : Str} {params : Arguments} {body rest : List Stmt} {scope : Scope} {dV kV doc pm ct oc : Value} {an od : Option Addr}
    {osl : Array (Option Value)} {N ps : List Str} {sp : Sp} {e : Expr} {p0 p1 p2 p3 p4 : Pos} {pl : Sem Bool} {ar : Arg} {vsc : Array Value} {file : Str} {tf : Tok} {ccl : Value} {cdd : Option Addr} {ccs : Array (Option Value)} {cl : Value} {cld : Option Addr} {csl : Array (Option Value)}
    (lk : K.lookup f = some ⟨oc, od, .func (PySem.W.ksFn name qual params body scope dV kV doc pm an (.ref cda) ct cc), osl⟩) (hcd : PySem.W.codeIn K (.ref cda) qual = true) (S : SupScope N ps scope)
    (hb : body = .Expr (.Call (.Attribute (.Call (.Name "super" p0) [] [] p1) "__init__" p2) [e] [] p3) p4 :: rest)
    (hp : (params.posonlyargs ++ params.args).head? = some ar) (hps : ps[0]? = some ar.arg)
    (hcode : K.lookup cda = some ⟨ccl, cdd, .fields vsc, ccs⟩) (hvs : vsc[2]? = some (.str file tf)) (hfile : ((P.main.file : Str) == file) = true)
    (hcell : K.lookup cc = some ⟨cl, cld, .cell (some (.ref D)), csl⟩) (T : SupC P K mg D)
    (len : ∀ vs H Q E, sp vs H Q E → vs.length = ps.length)
    (he : ∀ L : Addr, starEach [e] (PySem.W.ksEnv qual scope L f (.ref cda) cc) = [(false, eval e (PySem.W.ksEnv qual scope L f (.ref cda) cc))])
    (hsw : ∀ L : Addr, swapsWith (.Call (.Attribute (.Call (.Name "super" p0) [] [] p1) "__init__" p2) [e] [] p3) none p4.line (PySem.W.ksEnv qual scope L f (.ref cda) cc) = pure false)
    (hev : ∀ L : Addr, eval (.Call (.Attribute (.Call (.Name "super" p0) [] [] p1) "__init__" p2) [e] [] p3) (PySem.W.ksEnv qual scope L f (.ref cda) cc) = (do
      let ov ← attributeBase (.Call (.Name "super" p0) [] [] p1) "__init__" (PySem.W.ksEnv qual scope L f (.ref cda) cc) (eval (.Call (.Name "super" p0) [] [] p1) (PySem.W.ksEnv qual scope L f (.ref cda) cc))
      standAt p2.atName
      let (fn, first) ← holding [ov] (getMethod ov "__init__" pl)
      callWith p3 fn first (backTo p3 (starEach [e] (PySem.W.ksEnv qual scope L f (.ref cda) cc))) []))
    (hbody : ∀ (A : Around) (outer : List Env) (s : Shared) (H : Hp) (vs : List V) (Q : VK) (E : XK), Room k (A.deeper (PySem.W.ksEnv qual scope s.heap.objs.size f (.ref cda) cc)) → sp vs H Q E →
      ∃ (a : Addr) (ta : TA) (t : TS), vs[0]? = some (.ref a) ∧ H a = some (exo a D none) ∧ PA (cxSup CX P w K mg base N qual scope f (.ref cda) cc A outer s H E) [e] ta ∧ PSs (cxSup CX P w K mg base N qual scope f (.ref cda) cc A outer s H E) rest t ∧
        ta (start N vs) H fun ws H1 => ws.length ≤ 1000 ∧ H1 a = some (exo a D none) ∧ t { nx := fun _ H' => Q .non H', rt := Q } (start N vs) H1) :
    FnOk P w K mg base CX (k + 1) f (PySem.W.ksFn name qual params body scope dV kV doc pm an (.ref cda) ct cc) ps sp := by
  refine ⟨len, fun A outer s H args us vs Q E hr e0 hbd r hsp => ?_⟩
  have hl := len _ _ _ _ hsp
  have KX : K.In s.heap := e0.mod.kin.keeps fun b o e => (e0.bs b o e).1
  have lim : s.heap.NoLimit := e0.mod.nolimit.keeps fun b o e => (e0.bs b o e).1
  obtain ⟨a, ta, t, hv0, ha, hpa, hpss, hq⟩ := hbody A outer s H vs Q E (hr.deeper _) hsp
  subst hb
  refine ks_codeAny_call_defAt (fd := PySem.W.ksFn name qual params _ scope dV kV doc pm an (.ref cda) ct cc) (binds := ps.zip us) hr.depth (KX _ _ lk) rfl lim (PySem.W.codeRec_of KX hcd) rfl hbd S.nocell (fun y hy => S.par _ (List.of_mem_zip hy).1) (fun h₀ hns kp => ?_) S.co S.gen S.kind
  have I := inv_startS (CX := CX) (E := E) (qual := qual) (f := f) (cd := .ref cda) (tk := s.toks + (ps.zip us).length) S hr.hd e0 hl r hcell rfl hns kp
  obtain ⟨u0, hu0, ru0⟩ := r.get hv0
  obtain rfl : u0 = Value.ref a := ru0
  have ndP : ps.Nodup := by rw [← S.pre]; exact S.nd.sublist (List.take_sublist _ _)
  have hself := zip_rev_lookup ndP hps hu0
  have KX0 : K.In h₀ := KX.keeps kp
  obtain ⟨nm, q, N', bs, bm, sn, sub, ab, col, dd, k0, k1, k2, k3, k5, hC, hbm⟩ := T.oex.cls
  have hcl : PySem.W.clsIn K D = some { name := nm, bases := bs, mro := .ref D :: bm, ns := N', qualname := q, hasDict := true, slotNames := sn, subclasses := sub, abstract := ab, collection := col, hasDel := false } := by unfold PySem.W.clsIn; rw [hC] <;> rfl
  obtain ⟨t1, ho⟩ := exo_at I.hok ha
  obtain ⟨mb, hmb, hbl⟩ := e0.mod.blt
  have bk : ∀ b o, base.get? b = some o → h₀.get? b = some o := fun b o e => kp b o (e0.bs b o e).1
  refine ks_wpAt_execs_cons (ks_wpAt_Expr_any (ks_wpAt_MethodCall (env := PySem.W.ksEnv qual scope s.heap.objs.size f (.ref cda) cc) ?_ (hev _)) I.quiet (hsw _))
  refine ks_wpAt_super_base (env := PySem.W.ksEnv qual scope s.heap.objs.size f (.ref cda) cc) S.hs S.hc (by decide) rfl (KX0 _ _ lk) rfl hp rfl (KX0 _ _ hcode) rfl hvs hfile T.top ?_
  refine PySem.W.ks_loadName_global S.kind S.hs (Calls.loadGlobal_builtin (e0.mod.glob.keeps bk) T.mgs (hmb.keeps bk) ((hbl _ (by decide)).trans (show bootBuiltins "super" = some (.type "super") by decide +kernel)) ⟨rfl, ?_⟩)
  refine wpAny_loadName_free S.kind S.hc rfl ⟨_, KX0 _ _ hcell, rfl⟩ ?_
  refine wpAny_loadName_local S.kind (S.par _ (List.mem_of_getElem? hps)) hns hself ?_
  refine ks_wpAny_isType_cls (KX0 _ _ hC) rfl ⟨rfl, ?_⟩
  obtain ⟨hs0, g, d, tk, os⟩ := s
  refine ks_wpAny_call_super (KX0 _ _ hC) rfl ho rfl (fun c z => by cases z) (PySem.W.looks_mroIn KX0 T.sub) (fun h1 e1 kp1 => ?_)
  have hsup := T.sup
  unfold PySem.W.ks_superIn at hsup
  rw [hcl] at hsup
  have KX1 : K.In h1 := KX0.keeps kp1
  have ho1 := kp1 _ _ ho
  have aD : a ≠ D := fun z => by
    rw [z] at ho1
    have := ho1.symm.trans (KX1 _ _ hC)
    cases this
  refine PySem.W.kxs_getMethod PySem.W.kxs_ValueError e1 (PySem.W.looks_opaque KX1 T.op) (fun A Q E s k q => wpAny_bind ((PySem.W.looks_clsIn KX1 hcl) A _ E s k (wpAny_pure q))) rfl KX1 hsup
    (PySem.W.InstAt.type (od := none) ⟨ho1, rfl, rfl, trivial⟩ |>.andThen (PySem.W.looks_subIn KX1 T.ve)) aD (by decide) ?_
  have kp2 : ∀ b o, h₀.get? b = some o → (h1.push (PySem.W.kxs_mw "ValueError.__init__" a)).get? b = some o := fun b o e => Heap.get?_push_of_some _ (kp1 b o e)
  have I2 := (I.kept (t' := tk + (ps.zip us).length + 1) kp2).pins_of (pins' := [(h1.objs.size, PySem.W.kxs_mw "ValueError.__init__" a)]) fun p hp => by
    have e : p = (h1.objs.size, PySem.W.kxs_mw "ValueError.__init__" a) := by simpa using hp
    subst e
    have big : h₀.objs.size ≤ h1.objs.size := by
      refine Nat.le_of_lt (Nat.lt_of_le_of_lt ?_ (Heap.lt_size e1))
      exact Nat.le_refl _
    refine ⟨Heap.get?_push_at rfl rfl, I.hok.fresh big, ?_, I.nofs big, fun v z => by cases z⟩
    exact Nat.ne_of_gt (Nat.lt_of_lt_of_le I.lt big)
  refine PySem.W.kxs_callWith (i := "ValueError.__init__") (x := a) (by rw [he _]; rfl) ?_
  rw [he _]
  refine Calls.evalArgs_plain ?_
  have hrun := hpa.run p3 _ _ (start N vs) H _ I2 hq
  have he' : starEach [e] (cxSup CX P w K mg base N qual scope f (.ref cda) cc A outer ⟨hs0, g, d, tk, os⟩ H E).env = _ := he _
  rw [he'] at hrun
  refine thn hrun fun ws s2 ⟨vs2, H1, I3, r3, hlen, ha1, ht⟩ => ?_
  obtain ⟨hu, _⟩ := I3.pin (h1.objs.size, PySem.W.kxs_mw "ValueError.__init__" a) (by simp)
  refine ⟨hu, ?_⟩
  obtain ⟨t2, ho2⟩ := exo_at I3.hok ha1
  obtain ⟨hp2, g2, d2, tk2, os2⟩ := s2
  refine call_mw (I3.kIn _ _ hC) ho2 hu (by rw [List.nil_append, ← Paired.length r3, sizeLine_eq]; omega) fun h' t3 k' hx => ?_
  have J0 := I3.write (t' := tk2) (x := a) (e := a) (o := exo a D none) (by rw [ha1]; exact True.intro) (.inl rfl) k' ⟨_, hx⟩ (exo_ok hx)
  have eu : upd H1 a (exo a D none) = H1 := by
    funext b
    by_cases hb : b = a
    · rw [hb, upd_same, ha1]
    · rw [upd_ne hb]
  rw [eu] at J0
  refine wpAt_of_wpAny (wpAny_mono (hpss.run _ _ (start N vs) H1 _ J0 ht) (fun fl s' hs => ?_) fun e s' hs => hs)
  have fin : ∀ {σ' : St} {H' : Hp} {v : V} {u : Value}, Inv (cxSup CX P w K mg base N qual scope f (.ref cda) cc A outer ⟨hs0, g, d, tk, os⟩ H E) [(h1.objs.size, PySem.W.kxs_mw "ValueError.__init__" a)] σ' H' s' → RelV v u → Q v H' → CE outer P w H ⟨hs0, g, d, tk, os⟩ Q u s' :=
    fun {σ' H' v u} J rv q => ⟨v, H', J.os, J.bare, J.base, J.hok, rv, q⟩
  match fl, hs with
  | .ret _, ⟨_, _, _, J, rv, q⟩ => exact fin J rv q
  | .next, ⟨_, _, J, q⟩ => exact fin (v := .non) J rfl q
  | .brk, ⟨_, _, _, q⟩ => exact q.elim
  | .cont, ⟨_, _, _, q⟩ => exact q.elim
end L2

namespace L2
open PySem PySem.Spec PyProof.Rows
/-! ### isinstance of a caught error, with or without a dict of its own -/
def rIsX (K : PySem.W.Frag) (a : Addr) (cls : Value) (d : Option Addr) : List V → Hp → VK → Prop := fun xs H Q => ∃ (c : V) (cv : Value) (b : Bool) (D : Addr), xs = [.ref a, c] ∧ (∀ u, RelV c u → u = cv) ∧ cls = .ref D ∧ ExcC K D ∧ PySem.W.kitOne K (.ref D) cv = some b ∧
  (d = none ∨ ∃ dd fs, d = some dd ∧ H dd = some (.xd fs)) ∧ Q (.bl b) H
theorem call_isX {X : Cx} {a : Addr} {oe : Obj} {cls : Value} {d : Option Addr} {pn : List (Addr × Obj)} (hz : Zc cls d oe) (hf : ∃ vs, oe.data = .fields vs) : CallR (X.suite a ((a, oe) :: pn)) (.builtin "isinstance") (rIsX X.K a cls d) := by
  intro pins s σ H xs us Q I r h
  obtain ⟨c, cv, b, D, rfl, hcv, rfl, C, e, hd, q⟩ := h
  cases r with
  | cons rx rr =>
    cases rr with
    | cons rt rr =>
      cases rr
      cases rx
      have ec := hcv _ rt
      subst ec
      obtain ⟨hget, _⟩ := I.pin (a, oe) (List.mem_append.mpr (.inl List.mem_cons_self))
      obtain ⟨vs, hv⟩ := hf
      have J : ∃ od, PySem.W.InstAt s.heap a oe D od := by
        rcases hd with hd | ⟨dd, fs, hd, hxd⟩
        · exact ⟨none, hget, hz.1, by unfold PySem.W.notCls; rw [hv] <;> rfl, by rw [hz.2, hd]; trivial⟩
        · obtain ⟨mA, hns, _⟩ := (show ObjOk X.prog X.w H s.heap dd (.xd fs) from I.hok dd _ hxd)
          obtain ⟨od, ho, _⟩ := lookIn_ns hns
          exact ⟨some od, hget, hz.1, by unfold PySem.W.notCls; rw [hv] <;> rfl, by rw [hz.2, hd]; exact ho⟩
      obtain ⟨od, J⟩ := J
      have hcl : (PySem.W.clsIn X.K D).isSome = true := by
        obtain ⟨cd, hc, _⟩ := PySem.W.any_some C.hd
        rw [hc]
        rfl
      exact PySem.W.kia_one (PySem.W.kitx_exc hcl C.hg C.hk C.hs C.ha C.hn C.ht C.hm) I.kIn J e (fun z => nomatch z) fun tk => ⟨.bl b, H, I.kept (t' := tk) fun _ _ z => z, rfl, q⟩
/-! ### xs.count(True), a list of True and False -/
def eqb (v : Value) : Bool := match v with
  | .bool b => b
  | _ => false
theorem eqb_all {A : Around} {s : Shared} : ∀ {us : List Value} {bs : List Bool}, Vals (bs.map V.bl) us → (∀ y ∈ us, SeqAt.EqAt A s y (.bool true) (eqb y)) ∧ us.countP eqb = bs.count true
  | _, [], h => by
    cases h
    refine ⟨fun y hy => ?_, rfl⟩; cases hy
  | _, b :: bs, h => by
    cases h with
    | @cons _ u _ us r t =>
      obtain ⟨h1, h2⟩ := eqb_all (A := A) (s := s) t
      obtain rfl : u = Value.bool b := r
      refine ⟨fun y hy => ?_, ?_⟩
      · rcases List.mem_cons.mp hy with e | e
        · rw [e]
          have z := eqAt_V (A := A) (s := s) (y := .bl b) (x := .bl true) (u := .bool b) (v := .bool true) rfl rfl rfl rfl
          have e2 : eqV (.bl b) (.bl true) = eqb (.bool b) := by cases b <;> decide
          rw [e2] at z
          exact z
        · exact h1 y e
      · rw [List.countP_cons, List.count_cons, h2]
        cases b <;> rfl
def rCntB (K : PySem.W.Frag) : V → List V → Hp → VK → Prop := fun x xs H Q => ∃ (p : Addr) (bs : List Bool), x = .ref p ∧ xs = [.bl true] ∧ SqL K H p (bs.map V.bl) ∧ Q (.int (bs.count true : Nat)) H
theorem mt_countB {X : Cx} : MtR X "list.count" (rCntB X.K) := by
  intro pins s σ H x xs v us Q I rx rxs h
  obtain ⟨p, bs, rfl, rfl, hS, q⟩ := h
  cases rx
  obtain ⟨u, rfl, ru⟩ := rxs.one
  obtain rfl : u = Value.bool true := ru
  obtain ⟨its, r, ⟨⟨cls, dd, data, sl⟩, n, ho, hc, hdn, hd⟩, z⟩ := I.list hS
  simp only at hc hd
  subst hc hd
  refine call_meets PySem.F.slot_list_count ⟨_, ho, rfl⟩ PySem.F.entry_list_count (PySem.F.args_list_count_2 _ _) (SeqAt.list_countAt p its.toArray n dd sl (.bool true) eqb) ⟨ho, fun y hy => (eqb_all r).1 y (by simpa using hy), ?_⟩
  have ec : its.toArray.toList.countP eqb = bs.count true := (eqb_all (A := X.A) (s := s) r).2
  refine ⟨.int (bs.count true : Nat), H, I.tok _, ⟨s.toks, congrArg (fun n : Nat => Value.int (n : Int) s.toks) ec⟩, q⟩
/-! ### == and != of two instances of a class with its own __eq__, whatever it answers -/
theorem ns_someX {K : PySem.W.Frag} {h : Heap} {N : Addr} {m : Str → Option Value} {n : Str} {v : Value} (X : K.In h) (G : h.Ns N m) (e : PySem.W.nsIn K N n = some (some v)) : m n = some v := by
  obtain ⟨o, es, ep, ho, hd, _, hf⟩ := G
  unfold PySem.W.nsIn at e; split at e
  · rename_i c d es' n' sl q
    have z := X _ _ q; rw [ho] at z; cases z; cases hd
    split at e
    · rename_i ent he
      rw [← hf]; unfold nsFind findBy; rw [← Array.find?_toList, he]
      simpa using e
    · split at e <;> cases e
  · cases e
structure OwnEqC (K : PySem.W.Frag) (C f : Addr) : Prop where
  cls : ∃ nm q N bs hd sn sub ab col dd k0 k1 k2 k3 k5 newId, K.lookup C = some (excClassObj nm q C N bs [.type "object"] hd sn sub ab col dd k0 k1 k2 k3 k5 newId) ∧ PySem.W.nsIn K N "__eq__" = some (some (.ref f)) ∧ PySem.W.nsIn K N "__ne__" = some none ∧ PySem.W.nsOkIn K N = true
  fi : PySem.W.findIn K (.ref C) "__eq__" = some (some (.ref f))
  fn : PySem.W.isFn K (.ref f) = true
def rEqO (C : Addr) (sp : Sp) (fl : Bool → Bool) : R2 := fun x y H Q => ∃ a b dx dy fs gs, x = .ref a ∧ y = .ref b ∧ H a = some (.ins C dx fs) ∧ H b = some (.ins C dy gs) ∧ sp [.ref a, .ref b] H (fun v H' => ∃ r, v = .bl r ∧ Q (.bl (fl r)) H') E0
section
variable {X : Cx} {C f : Addr} {fd : FuncData} {ps : List Str} {sp : Sp} {k : Nat}
theorem call_eqO (F : FnOk X.prog X.w X.K X.mg X.base CX0 k f fd ps sp) (hb : Binds X.K fd ps []) {A : Around} (hr : Room k A) (hA : A.frames = X.A.frames) {pins : List (Addr × Obj)} {s : Shared} {σ : St} {H : Hp} {a b : Addr} {Q : VK} {E : Value → Shared → Prop} (I : Inv X pins σ H s) (hsp : sp [.ref a, .ref b] H Q E0) :
    wpAny (model X.prog X.w) A (call (.ref f) [.ref a, .ref b]) (EP X pins σ Q) E s := by
  have e0 : Env0 X.prog X.w X.K X.mg X.base A X.stack s H := by
    have e := I.env0
    exact ⟨by rw [hA]; exact e.frames, e.mod, e.bs, e.bsz, e.funs, e.frf, e.hok, e.bare⟩
  have hl := F.len _ _ _ _ hsp
  have r2 : Vals [V.ref a, V.ref b] [Value.ref a, Value.ref b] := .cons rfl (.cons rfl .nil)
  have hbd := hb s [.ref a, .ref b] I.kIn (by simpa using hl)
  rw [List.append_nil] at hbd
  refine wpAny_call (codeAny_mono (F.run A X.stack s H ⟨[.ref a, .ref b], []⟩ [.ref a, .ref b] [.ref a, .ref b] _ E0 hr e0 hbd r2 hsp) fun r s' hq => ?_)
  cases r with
  | error e => exact (show False from hq).elim
  | ok fl =>
    cases fl with
    | ret w => exact I.after hq
    | next => exact False.elim hq
    | brk => exact False.elim hq
    | cont => exact False.elim hq
theorem op_eqO (F : FnOk X.prog X.w X.K X.mg X.base CX0 k f fd ps sp) (T : OwnEqC X.K C f) (hb : Binds X.K fd ps []) (hr : Room k X.A) : OpR X (compareOp .Eq) (rEqO C sp id) := by
  intro pins s σ H x y v u Q I rx ry hq
  obtain ⟨a, b, dx, dy, fs, gs, rfl, rfl, ha, hb', hsp⟩ := hq
  cases rx
  cases ry
  obtain ⟨mA, J, _⟩ := ins_get I.hok ha
  obtain ⟨mB, J', _⟩ := ins_get I.hok hb'
  obtain ⟨od, J, _⟩ := J.look
  obtain ⟨od', J', _⟩ := J'.look
  obtain ⟨m, hF⟩ := I.fr
  show wpAny (model X.prog X.w) X.A (richCompare .Eq (.ref a) (.ref b)) (EP X pins σ Q) X.xe s
  refine PySem.W.cmp_K (op := .Eq) (tb := .ref C) hr.units0 hF I.ok.mod.kin J J'.type (by simp [PySem.W.notFirst]) T.fi T.fn ?_
  refine thn (call_eqO F hb hr rfl I hsp) fun w s' hw => ?_
  obtain ⟨z, H', I', rz, r, rfl, q⟩ := hw
  obtain rfl : w = Value.bool r := rz
  exact ⟨.bl r, H', I', rfl, q⟩
theorem op_neO (F : FnOk X.prog X.w X.K X.mg X.base CX0 k f fd ps sp) (T : OwnEqC X.K C f) (hb : Binds X.K fd ps []) (hr : Room (k + 1) X.A) : OpR X (compareOp .NotEq) (rEqO C sp not) := by
  intro pins s σ H x y v u Q I rx ry hq
  obtain ⟨a, b, dx, dy, fs, gs, rfl, rfl, ha, hb', hsp⟩ := hq
  cases rx
  cases ry
  obtain ⟨mA, J, _⟩ := ins_get I.hok ha
  obtain ⟨mB, J', _⟩ := ins_get I.hok hb'
  obtain ⟨od, J, _⟩ := J.look
  obtain ⟨od', J', _⟩ := J'.look
  obtain ⟨nm, q, N, bs, hd, sn, sub, ab, col, dd, k0, k1, k2, k3, k5, newId, hC, he, hn, hok⟩ := T.cls
  have KX := I.kIn
  obtain ⟨of, hof, hofc⟩ : ∃ of, s.heap.get? f = some of ∧ of.cls = .type "function" := by
    have z := T.fn
    unfold PySem.W.isFn at z
    cases e : X.K.lookup f with
    | none => simp [PySem.W.typeIn, e] at z
    | some of => exact ⟨of, KX _ _ e, by simpa [PySem.W.typeIn, e] using z⟩
  have hN := Heap.Ns.of_isNs (PySem.W.isNs_of_in KX hok)
  have h1 := ns_someX KX hN he
  have h2 := PySem.W.ns_none_of KX hN hn
  obtain ⟨hp, g, d, t, os⟩ := s
  refine compareOp_ne_ownEq (C := C) (f := f) PySem.F.cmp_object ⟨_, of, nm, q, N, bs, hd, sn, sub, ab, col, dd, k0, k1, k2, k3, k5, newId, _, _, J.at_, J.cls, KX _ _ hC, hN, h1, hof, hofc, PySem.F.mro_object, PySem.F.cmp_object.eq.lookup, h2⟩ J'.at_ J'.cls (hu_of hr) ?_
  refine thn (call_eqO F hb hr.in1 rfl I hsp) fun w s' hw => ?_
  obtain ⟨z, H', I', rz, r, rfl, q⟩ := hw
  obtain rfl : w = Value.bool r := rz
  exact ⟨r, rfl, .bl (!r), H', I', rfl, q⟩
end
end L2

namespace Half
open PySem PySem.Spec PyProof.Rows L2
def top (i : Nat) : Stmt := PySem.Challenge.pw_halfsetup_k75_whole_four_packages_in_rin.main.body.getD i (.Pass ⟨0, 0, 0, 0⟩)
abbrev sTaken : Stmt := top 53
/-- the row of draws: the script, how many of its cells were read, the seed, what is left of a great cell -/
def Row (K : PySem.W.Frag) (H : Hp) (r a : Addr) : Prop := ∃ (ns : List Int) (i g l : Int), H r = some (.lst [.ref a, .int i, .int g, .int l]) ∧ SqL K H a (ns.map V.int) ∧ ns.length ≤ 63 ∧ 0 ≤ i
/-- a draw: some number below the bound; the row alone is changed -/
def spTaken (K : PySem.W.Frag) : Sp := fun vs H Q _ => ∃ (r : Addr) (m : Int) (a : Addr), vs = [.ref r, .int m] ∧ Row K H r a ∧ 0 < m ∧ m < 1073741824 ∧
  ∀ (v : Int) (o : HO), 0 ≤ v → v < m → Row K (upd H r o) r a → Q (.int v) (upd H r o)
theorem seqNe {K : PySem.W.Frag} {H : Hp} {r a : Addr} {o : HO} {xs : List V} (h : SqL K H a xs) (n : r ≠ a) : SqL K (upd H r o) a xs := by
  rcases h with (h | ⟨q, h⟩) | h
  · exact .inl (.inl (by rw [upd_ne (Ne.symm n)]; exact h))
  · exact .inl (.inr ⟨q, by rw [upd_ne (Ne.symm n)]; exact h⟩)
  · exact .inr h
theorem Row.seq {K : PySem.W.Frag} {H : Hp} {r a b : Addr} {o : HO} {ns : List Int} {l : List V} (hr : H r = some (.lst (.ref b :: l))) (h : SqL K H a (ns.map V.int)) : SqL K (upd H r o) a (ns.map V.int) := by
  have z : HO.lst (ns.map V.int) ≠ HO.lst (.ref b :: l) := fun z => by
    have z' : ns.map V.int = .ref b :: l := by injection z
    cases ns with
    | nil => cases z'
    | cons n ns => cases z'
  rcases h with (h | ⟨q, h⟩) | h
  · exact .inl (.inl (by rw [upd_ne (ne_of h hr z)]; exact h))
  · exact .inl (.inr ⟨q, by rw [upd_ne (ne_of h hr (fun w => by cases w))]; exact h⟩)
  · exact .inr h
structure TxtD (mg : Str → Option Value) : Prop where
  int : mg "int" = none
  len : mg "len" = none
section
variable {P : Program} {w : World} {K : PySem.W.Frag} {mg : Str → Option Value} {base : Heap}
theorem scTaken : FnScope ["_law_row", "_law_many", "_law_found", "_law_cell"] ["_law_row", "_law_many"] (defScope sTaken) := ⟨rfl, rfl, rfl, by decide +kernel, rfl, by decide +kernel, by decide +kernel⟩
theorem ok_taken {f : Addr} {fd : FuncData} (F : Fun K "_law_taken" "_law_taken" sTaken f fd) (T : TxtD mg) : FnOk P w K mg base CX0 1 f fd ["_law_row", "_law_many"] (spTaken K) := by
  refine F.ok scTaken (fun vs H Q E h => ?_) (fun cdv A outer s H vs Q E hr h => ?_)
  · obtain ⟨r, m, a, rfl, _⟩ := h
    rfl
  · obtain ⟨r, m, a, rfl, ⟨ns, i, g, l, hR, hS, hlen, hi⟩, hm0, hm1, k⟩ := h
    have nd := scTaken.nd
    refine ⟨_, pss_cons (ps_if (pt_cmpR op_gt (pe_ix ix_list (pv 0) pe_int (fun _ _ => rfl)) pe_int (nomark _))
        (pss_cons (ps_set (i := 2) nd rfl (Or.inl rfl) (pe_op op_mod (pe_callTy call_int1 (by rfl) T.int (by decide +kernel) (pa_cons (pe_ix ix_list (pv 0) pe_int (fun _ _ => rfl)) pa_nil)) (pv 1)))
        (pss_cons (ps_asg (pe_op op_fdiv (pe_ix ix_list (pv 0) pe_int (fun _ _ => rfl)) (pv 1)) (pg_sub (pv 0) pe_int set_list))
        (pss_one (ps_ret (pv 2))))) pss_nil)
      (pss_cons (ps_asg (pe_op op_add (pe_ix ix_list (pv 0) pe_int (fun _ _ => rfl)) pe_int) (pg_sub (pv 0) pe_int set_list))
      (pss_cons (ps_if (pt_cmpR op_gt (pe_ix ix_list (pv 0) pe_int (fun _ _ => rfl)) (pe_callB call_len_seq (by rfl) T.len PySem.boot_len (pa_cons (pe_ix ix_list (pv 0) pe_int (fun _ _ => rfl)) pa_nil)) (nomark _))
        (pss_cons (ps_asg (pe_op op_mod (pe_callTy call_int1 (by rfl) T.int (by decide +kernel) (pa_cons (pe_op op_add (pe_op op_mul (pe_ix ix_list (pv 0) pe_int (fun _ _ => rfl)) pe_int) pe_int) pa_nil)) pe_int) (pg_sub (pv 0) pe_int set_list))
        (pss_one (ps_ret (pe_op op_mod (pe_callTy call_int1 (by rfl) T.int (by decide +kernel) (pa_cons (pe_op op_fdiv (pe_ix ix_list (pv 0) pe_int (fun _ _ => rfl)) pe_int) pa_nil)) (pv 1))))) pss_nil)
      (pss_cons (ps_set (i := 3) nd rfl (Or.inl rfl) (pe_ix ix_list (pe_ix ix_list (pv 0) pe_int (fun _ _ => rfl)) (pe_op op_sub (pe_ix ix_list (pv 0) pe_int (fun _ _ => rfl)) pe_int) (fun _ _ => rfl)))
      (pss_cons (ps_asg (pe_op op_mod (pe_callTy call_int1 (by rfl) T.int (by decide +kernel) (pa_cons (pe_op op_add (pe_op op_add (pe_op op_mul (pe_ix ix_list (pv 0) pe_int (fun _ _ => rfl)) pe_int) (pv 3)) pe_int) pa_nil)) pe_int) (pg_sub (pv 0) pe_int set_list))
      (pss_cons (ps_asg (pe_ifExp (pt_cmpR op_ge (pv 3) (pe_op op_pow pe_int pe_int) (nomark _)) (pe_op op_fdiv (pv 3) (pv 1)) pe_int) (pg_sub (pv 0) pe_int set_list))
      (pss_one (ps_ret (pe_op op_mod (pe_callTy call_int1 (by rfl) T.int (by decide +kernel) (pa_cons (pv 3) pa_nil)) (pv 1))))))))), ?_⟩
    have mk : ∀ (i' g' l' : Int), 0 ≤ i' → ∀ o, o = HO.lst [.ref a, .int i', .int g', .int l'] → Row K (upd H r o) r a := fun i' g' l' h o e => ⟨ns, i', g', l', by rw [upd_same, e], Row.seq hR hS, hlen, h⟩
    refine ⟨_, rfl, r, _, _, _, rfl, rfl, SqL.of hR, rfl, _, _, rfl, rfl, _, rfl, ?_⟩
    refine ite2 (fun c => ?_) (fun c => ?_)
    · refine ⟨_, rfl, r, _, _, _, rfl, rfl, SqL.of hR, rfl, .inl ⟨_, rfl, _, rfl, _, _, rfl, rfl, hm0, ?_⟩⟩
      refine ⟨_, rfl, r, _, _, _, rfl, rfl, SqL.of hR, rfl, _, rfl, _, _, rfl, rfl, ⟨hm0, hm1⟩, _, rfl, r, _, _, _, rfl, rfl, hR, rfl, ?_⟩
      refine ⟨_, rfl, ?_⟩
      exact k _ _ (Int.emod_nonneg _ (by omega)) (Int.emod_lt_of_pos _ hm0) (mk i g (l / m) hi _ rfl)
    · refine ⟨_, rfl, r, _, _, _, rfl, rfl, SqL.of hR, rfl, _, _, rfl, rfl, _, rfl, r, _, _, _, rfl, rfl, hR, rfl, ?_⟩
      have hR1 : ∀ o : HO, (upd H r o) r = some o := fun o => upd_same
      refine ⟨_, rfl, r, _, _, _, rfl, rfl, SqL.of (hR1 _), rfl, _, rfl, r, _, _, _, rfl, rfl, SqL.of (hR1 _), rfl, a, _, rfl, .inl (Row.seq hR hS), _, _, rfl, rfl, _, rfl, ?_⟩
      refine ite2 (fun c2 => ?_) (fun c2 => ?_)
      · refine ⟨_, rfl, r, _, _, _, rfl, rfl, SqL.of (hR1 _), rfl, _, _, rfl, rfl, .inr ⟨by decide, by decide⟩, _, _, rfl, rfl, .inl ⟨_, rfl, _, _, rfl, rfl, (by show (0 : Int) < 2147483647; decide), _, rfl, r, _, _, _, rfl, rfl, hR1 _, rfl, ?_⟩⟩
        rw [upd_upd]
        refine ⟨_, rfl, r, _, _, _, rfl, rfl, SqL.of (hR1 _), rfl, _, _, rfl, rfl, ⟨by decide, by decide⟩, .inl ⟨_, rfl, _, rfl, _, _, rfl, rfl, hm0, ?_⟩⟩
        exact k _ _ (Int.emod_nonneg _ (by omega)) (Int.emod_lt_of_pos _ hm0) (mk (i + 1) _ l (by omega) _ rfl)
      · have c3 : ¬ ((ns.map V.int).length : Int) < i + 1 := fun z => c2 (decide_eq_true z)
        rw [List.length_map] at c3
        have hin : i.toNat < ns.length := by omega
        have hat : atI (ns.map V.int) ((i + 1) - 1) = some (V.int ns[i.toNat]) := by
          have e : (i + 1) - 1 = ((i.toNat : Nat) : Int) := by omega
          rw [e]
          refine atI_nat ?_
          rw [List.getElem?_map, List.getElem?_eq_getElem hin]
          rfl
        refine ⟨_, rfl, r, _, _, _, rfl, rfl, SqL.of (hR1 _), rfl, _, rfl, r, _, _, _, rfl, rfl, SqL.of (hR1 _), rfl, _, _, rfl, rfl, a, _, _, _, rfl, rfl, Row.seq hR hS, hat, ?_⟩
        refine ⟨_, rfl, r, _, _, _, rfl, rfl, SqL.of (hR1 _), rfl, _, _, rfl, rfl, .inr ⟨by decide, by decide⟩, _, rfl, _, _, rfl, rfl, _, _, rfl, rfl, .inl ⟨_, rfl, _, _, rfl, rfl, (by show (0 : Int) < 2147483647; decide), _, rfl, r, _, _, _, rfl, rfl, hR1 _, rfl, ?_⟩⟩
        rw [upd_upd]
        refine ⟨_, rfl, _, _, rfl, rfl, ⟨by decide, by decide, by decide⟩, _, _, rfl, rfl, _, rfl, ?_⟩
        refine ite2 (fun c4 => ?_) (fun c4 => ?_)
        · refine ⟨_, rfl, _, rfl, _, _, rfl, rfl, ⟨hm0, hm1⟩, _, rfl, r, _, _, _, rfl, rfl, hR1 _, rfl, ?_⟩
          rw [upd_upd]
          refine ⟨_, rfl, .inl ⟨_, rfl, _, rfl, _, _, rfl, rfl, hm0, ?_⟩⟩
          exact k _ _ (Int.emod_nonneg _ (by omega)) (Int.emod_lt_of_pos _ hm0) (mk (i + 1) _ _ (by omega) _ rfl)
        · refine ⟨_, rfl, r, _, _, _, rfl, rfl, hR1 _, rfl, ?_⟩
          rw [upd_upd]
          refine ⟨_, rfl, .inl ⟨_, rfl, _, rfl, _, _, rfl, rfl, hm0, ?_⟩⟩
          exact k _ _ (Int.emod_nonneg _ (by omega)) (Int.emod_lt_of_pos _ hm0) (mk (i + 1) _ _ (by omega) _ rfl)
end
end Half

namespace Half
open PySem PySem.Spec PyProof.Rows L2
abbrev sWord : Stmt := top 4
abbrev sNumber : Stmt := top 5
abbrev sAscends : Stmt := top 6
abbrev sVersion : Stmt := top 39
abbrev sScripts : Stmt := top 40
abbrev sOthers : Stmt := top 41
abbrev sPair : Stmt := top 42
abbrev sNeeds : Stmt := top 43
/-! comprehensions that make one item of each -/
def MapP (H1 : Hp) (D : Addr) (ys : List V) : Nat → Hp → Prop := fun i H => Same H1 H ∧ H D = some (.lst (ys.take i))
theorem MapP.zero {H1 : Hp} {D : Addr} {ys : List V} (hD : H1 D = none) : MapP H1 D ys 0 (upd H1 D (.lst [])) :=
  ⟨fun b o e => by rw [upd_ne (ne_of_none e hD)]; exact e, upd_same⟩
theorem MapP.step {H1 H H4 : Hp} {D : Addr} {ys : List V} {i : Nat} {y : V} (p : MapP H1 D ys i H) (hD : H1 D = none) (hy : ys[i]? = some y) (hl : ys.length ≤ 1000) (e : Same H H4) :
    ∃ acc, H4 D = some (.lst acc) ∧ acc.length < sizeLine ∧ MapP H1 D ys (i + 1) (upd H4 D (.lst (acc ++ [y]))) := by
  refine ⟨_, e _ _ p.2, small1000 (by rw [List.length_take]; omega), fun b o q => ?_, ?_⟩
  · rw [upd_ne (ne_of_none q hD)]
    exact e _ _ (p.1 b o q)
  · rw [upd_same, List.take_add_one, hy]
    rfl
theorem MapP.done {H1 H : Hp} {D : Addr} {ys : List V} {n : Nat} (p : MapP H1 D ys n H) (hn : n = ys.length) : Same H1 H ∧ H D = some (.lst ys) := by
  refine ⟨p.1, ?_⟩
  rw [p.2, hn, List.take_length]
theorem iteNT {c A B : Prop} [Decidable c] (hc : ¬ c) (h : A) : if (!decide c) = true then A else B := by
  rw [decide_eq_false hc]
  exact iteT h
/-! the mirror -/
def LET : Str := "abcdefghijklmnopqrstuvwxyz"
def isWord (z : Str) : Bool := decide (1 ≤ (z.length : Int)) && decide ((z.length : Int) ≤ 8) && z.cps.toList.all fun c => decide (c ∈ LET.cps.toList)
/-- what the top says -/
structure TxtC (K : PySem.W.Frag) (mg : Str → Option Value) (fW fN fA fV fO fP : Addr) (tS : Addr) : Prop where
  d : TxtD mg
  isi : mg "isinstance" = none
  str : mg "str" = none
  boo : mg "bool" = none
  tup : mg "tuple" = none
  all : mg "all" = none
  ran : mg "range" = none
  lets : ∃ t, mg "LETTERS" = some (.str LET t)
  lon : ∃ t, mg "LONGEST_WORD" = some (.int 8 t)
section
variable {P : Program} {w : World} {K : PySem.W.Frag} {mg : Str → Option Value} {base : Heap} {fW fN fA fV fO fP tS : Addr}
def spWord : Sp := fun vs H Q _ => ∃ z : Str, vs = [.str z] ∧ z.length ≤ 1000 ∧ ∀ H', Same H H' → Q (.bl (isWord z)) H'
theorem scWord : FnScope ["text", "letter"] ["text"] (defScope sWord) := ⟨rfl, rfl, rfl, by decide +kernel, rfl, by decide +kernel, by decide +kernel⟩
theorem ok_word {f : Addr} {fd : FuncData} (F : Fun K "is_word" "is_word" sWord f fd) (T : TxtC K mg fW fN fA fV fO fP tS) : FnOk P w K mg base CX0 1 f fd ["text"] spWord := by
  refine F.ok scWord (fun vs H Q E h => ?_) (fun cdv A outer s H vs Q E hr h => ?_)
  · obtain ⟨z, rfl, _⟩ := h
    rfl
  · obtain ⟨z, rfl, hz, k⟩ := h
    obtain ⟨tl, gl⟩ := T.lets
    obtain ⟨t8, g8⟩ := T.lon
    have nd := scWord.nd
    refine ⟨_, pss_cons (ps_if (PW.pt (pw_or (pt_not (pt_val (pe_callB call_isi (by rfl) T.isi (by decide +kernel) (pa_cons (pv 0) (pa_cons (pe_bltn (v := .ty "str") (by rfl) T.str (by decide +kernel) rfl) pa_nil)))))
        (pw_or1 (pt_not (pt_chain op_le op_le pe_int (pe_callB call_len_str (by rfl) T.d.len PySem.boot_len (pa_cons (pv 0) pa_nil)) (pe_glob (v := .int 8) rfl g8 ⟨_, rfl⟩))))))
        (pss_one (ps_ret pe_bl)) pss_nil)
      (pss_one (ps_ret (pe_callB (cr_all rfl) (by rfl) T.all (by decide +kernel) (pa_cons
        (pe_lc (own := [("letter", 1)]) (g := gName 1) (tt := tYes) rfl nd (pi_str (pv 0)) (blkOk_by (N := ["text", "letter"]) (sc := defScope sWord) (by decide +kernel))
          (fun _ _ _ _ _ => pg_name (i := 1) nd rfl (Or.inl rfl)) (fun _ _ _ _ _ => pts_nil)
          (fun _ _ _ _ _ => pe_cmpR op_in_sign (pv 1) (pe_glob (v := .str LET) rfl gl ⟨_, rfl⟩) rfl)) pa_nil)))), ?_⟩
    refine ⟨_, rfl, _, _, _, _, _, rfl, .ty _, .base (.str _), kit_ty (r := true) (by decide +kernel), _, rfl, iteF ?_⟩
    refine ⟨_, rfl, _, rfl, Nat.le_trans hz (by decide), _, _, rfl, rfl, _, rfl, ?_⟩
    have bad : isWord z = false → Q (.bl false) H := fun e => by
      have q := k H (Same.refl H)
      rw [e] at q
      exact q
    refine ite2 (fun c1 => ?_) (fun c1 => ?_)
    · refine ⟨_, _, rfl, rfl, _, rfl, ?_⟩
      by_cases c2 : (z.length : Int) ≤ 8
      · refine iteNS c2 ?_
        refine ⟨_, rfl, z, rfl, fun D hD => lc_it walk_str (MapP H D (z.cps.toList.map fun c => V.bl (decide (c ∈ LET.cps.toList)))) (MapP.zero hD) (fun _ _ _ _ => trivial) ?_ ?_⟩
        · rintro i x H1 H2 hi p ⟨rfl, c, hc, rfl⟩
          refine ⟨rfl, _, rfl, c, _, rfl, rfl, ?_⟩
          refine p.step hD ?_ (by rw [List.length_map, Array.length_toList]; exact hz) (Same.refl _)
          rw [List.getElem?_map, Array.getElem?_toList, hc]
          rfl
        · intro H2 p
          obtain ⟨s2, hl⟩ := p.done (by rw [List.length_map, Array.length_toList])
          refine ⟨D, z.cps.toList.map fun c => decide (c ∈ LET.cps.toList), rfl, SqL.of (by rw [hl, List.map_map]; rfl), ?_⟩
          have e : isWord z = (z.cps.toList.map fun c => decide (c ∈ LET.cps.toList)).all id := by
            unfold isWord
            rw [c1, decide_eq_true c2, List.all_map]
            rfl
          rw [← e]
          exact k H2 s2
      · refine iteNT c2 ?_
        exact bad (by unfold isWord; rw [decide_eq_false c2, Bool.and_false, Bool.false_and])
    · have c1' : decide (1 ≤ (z.length : Int)) = false := by simpa using c1
      refine ⟨_, rfl, iteT ?_⟩
      exact bad (by unfold isWord; rw [c1', Bool.false_and, Bool.false_and])
end
end Half

namespace Half
open PySem PySem.Spec PyProof.Rows L2
/-! ### a def that is known by its promise -/
structure Def (P : Program) (w : World) (K : PySem.W.Frag) (mg : Str → Option Value) (base : Heap) (k : Nat) (x : Str) (ps : List Str) (sp : Sp) : Prop where
  ex : ∃ f fd, FnOk P w K mg base CX0 k f fd ps sp ∧ mg x = some (.ref f) ∧ PySem.W.keepIn K (.ref f) = true ∧ Binds K fd ps []
theorem pe_def {X : Cx} {k : Nat} {x : Str} {ps : List Str} {sp : Sp} {e : Expr} {es : List Expr} {t : TA} {p pos : Pos} (D : Def X.prog X.w X.K X.mg X.base k x ps sp) (hr : Room k X.A) (hg : Gl X x) (ha : PA X (e :: es) t)
    (hdb : (x == ("__debug__" : Str)) = false := by decide) (he : starEach (e :: es) X.env = (false, eval e X.env) :: starEach es X.env := by rfl) (hpl : (backTo pos (starEach es X.env)).any (·.1) = false := by rfl) :
    PE X (.Call (.Name x p) (e :: es) [] pos) (tCall sp [] E0 t) := by
  obtain ⟨f, fd, F, hm, hk, hb⟩ := D.ex
  exact pe_call F hr hg hm hk hb .nil pass0 ha hdb he hpl
theorem _root_.L2.Same.sqT {K : PySem.W.Frag} {H H' : Hp} {a : Addr} {xs : List V} (e : Same H H') (h : SqT K H a xs) : SqT K H' a xs := by
  rcases h with (h | ⟨o, h⟩) | h
  · exact .inl (.inl (e _ _ h))
  · exact .inl (.inr ⟨o, e _ _ h⟩)
  · exact .inr h
theorem tyT {K : PySem.W.Frag} {H : Hp} {a : Addr} {xs : List V} (h : SqT K H a xs) : TyX K H (.ref a) (.type "tuple") := by
  rcases h with (h | ⟨o, h⟩) | ⟨o, its, n, h1, h2, _⟩
  · exact .base (.tup h)
  · exact .fTuple h
  · exact .kTuple h1 h2
theorem _root_.L2.Same.upd_new {H : Hp} {p : Addr} {o : HO} (h : H p = none) : Same H (upd H p o) := fun b u e => by rw [upd_ne (ne_of_none e h)]; exact e
/-! ### the mirror -/
def inR (v : V) (lo hi : Int) : Bool := match v with
  | .int n => decide (lo ≤ n) && decide (n ≤ hi)
  | _ => false
def strLt (a b : Str) : Bool := decide (a.cps.toList < b.cps.toList)
def ascS (ss : List Str) : Bool := (List.range (ss.length - 1)).all fun i => strLt (ss.getD i "") (ss.getD (i + 1) "")
def SCR : List Str := ["clean", "enter", "leave", "setup"]
def areScripts (ss : List Str) : Bool := (ss.all fun z => inV (.str z) (SCR.map V.str)) && ascS ss
def areOthers (ss : List Str) (nm : Str) : Bool := (ss.all fun z => isWord z && !decide (V.str z = V.str nm)) && ascS ss
def areNeeds (ps : List (Str × Int)) (nm : Str) : Bool := (ps.all fun p => inR (.int p.2) 1 99) && areOthers (ps.map (·.1)) nm
/-- needs: a tuple of pairs -/
def NeedsAt (K : PySem.W.Frag) (H : Hp) (a : Addr) (ps : List (Str × Int)) : Prop := ∃ ts : List Addr, SqT K H a (ts.map V.ref) ∧ ts.length = ps.length ∧ ∀ (i : Nat) t p, ts[i]? = some t → ps[i]? = some p → SqT K H t [.str p.1, .int p.2]
theorem NeedsAt.same {K : PySem.W.Frag} {H H' : Hp} {a : Addr} {ps : List (Str × Int)} (e : Same H H') (h : NeedsAt K H a ps) : NeedsAt K H' a ps := by
  obtain ⟨ts, h1, h2, h3⟩ := h
  exact ⟨ts, e.sqT h1, h2, fun i t p q r => e.sqT (h3 i t p q r)⟩
/-! ### promises -/
def spNumber : Sp := fun vs H Q _ => ∃ (v : V) (lo hi : Int), vs = [v, .int lo, .int hi] ∧ ((∃ n, v = .int n) ∨ ∃ b, v = .bl b) ∧ Q (.bl (inR v lo hi)) H
def spVersion : Sp := fun vs H Q _ => ∃ v : V, vs = [v] ∧ ((∃ n, v = .int n) ∨ ∃ b, v = .bl b) ∧ Q (.bl (inR v 1 99)) H
def spAsc (K : PySem.W.Frag) : Sp := fun vs H Q _ => ∃ (a : Addr) (ss : List Str), vs = [.ref a] ∧ SqT K H a (ss.map V.str) ∧ ss.length ≤ 100 ∧ ∀ H', Same H H' → Q (.bl (ascS ss)) H'
def spScripts (K : PySem.W.Frag) : Sp := fun vs H Q _ => ∃ (a : Addr) (ss : List Str), vs = [.ref a] ∧ SqT K H a (ss.map V.str) ∧ ss.length ≤ 100 ∧ ∀ H', Same H H' → Q (.bl (areScripts ss)) H'
def spOthers (K : PySem.W.Frag) : Sp := fun vs H Q _ => ∃ (a : Addr) (ss : List Str) (nm : Str), vs = [.ref a, .str nm] ∧ SqT K H a (ss.map V.str) ∧ ss.length ≤ 100 ∧ (∀ z ∈ ss, z.length ≤ 1000) ∧ ∀ H', Same H H' → Q (.bl (areOthers ss nm)) H'
def spPair (K : PySem.W.Frag) : Sp := fun vs H Q _ => ∃ (t : Addr) (n : Str) (v : Int), vs = [.ref t] ∧ SqT K H t [.str n, .int v] ∧ Q (.bl (inR (.int v) 1 99)) H
def spNeeds (K : PySem.W.Frag) : Sp := fun vs H Q _ => ∃ (a : Addr) (ps : List (Str × Int)) (nm : Str), vs = [.ref a, .str nm] ∧ NeedsAt K H a ps ∧ ps.length ≤ 100 ∧ (∀ p ∈ ps, p.1.length ≤ 1000) ∧ ∀ H', Same H H' → Q (.bl (areNeeds ps nm)) H'
structure TxtE (K : PySem.W.Frag) (mg : Str → Option Value) : Prop where
  d : TxtD mg
  isi : mg "isinstance" = none
  str : mg "str" = none
  boo : mg "bool" = none
  tup : mg "tuple" = none
  all : mg "all" = none
  ran : mg "range" = none
  lv : ∃ t, mg "LEAST_VERSION" = some (.int 1 t)
  mv : ∃ t, mg "MOST_VERSION" = some (.int 99 t)
  scr : ∃ a, mg "SCRIPTS" = some (.ref a) ∧ ∀ H, SqT K H a (SCR.map V.str)
section
variable {P : Program} {w : World} {K : PySem.W.Frag} {mg : Str → Option Value} {base : Heap}
theorem scNumber : FnScope ["value", "least", "most"] ["value", "least", "most"] (defScope sNumber) := ⟨rfl, rfl, rfl, by decide +kernel, rfl, by decide +kernel, by decide +kernel⟩
theorem ok_number {f : Addr} {fd : FuncData} (F : Fun K "is_number" "is_number" sNumber f fd) (T : TxtE K mg) : FnOk P w K mg base CX0 1 f fd ["value", "least", "most"] spNumber := by
  refine F.ok scNumber (fun vs H Q E h => ?_) (fun cdv A outer s H vs Q E hr h => ?_)
  · obtain ⟨v, lo, hi, rfl, _⟩ := h
    rfl
  · obtain ⟨v, lo, hi, rfl, hv, k⟩ := h
    refine ⟨_, pss_cons (ps_if (PW.pt (pw_or (pt_val (pe_callB call_isi (by rfl) T.isi (by decide +kernel) (pa_cons (pv 0) (pa_cons (pe_bltn (v := .ty "bool") (by rfl) T.boo (by decide +kernel) rfl) pa_nil))))
        (pw_or1 (pt_not (pt_val (pe_callB call_isi (by rfl) T.isi (by decide +kernel) (pa_cons (pv 0) (pa_cons (pe_bltn (v := .ty "int") (by rfl) T.d.int (by decide +kernel) rfl) pa_nil))))))))
        (pss_one (ps_ret pe_bl)) pss_nil)
      (pss_one (ps_ret (pe_chain op_le op_le (pv 1) (pv 0) (pv 2)))), ?_⟩
    rcases hv with ⟨n, rfl⟩ | ⟨b, rfl⟩
    · refine ⟨_, rfl, _, _, _, _, _, rfl, .ty _, .base (.int _), kit_ty (r := false) (by decide +kernel), _, rfl, ?_⟩
      refine iteF ?_
      refine ⟨_, rfl, _, _, _, _, _, rfl, .ty _, .base (.int _), kit_ty (r := true) (by decide +kernel), _, rfl, ?_⟩
      refine iteF ?_
      refine ⟨_, rfl, _, rfl, _, _, rfl, rfl, _, rfl, ?_⟩
      refine ite2 (fun c => ?_) (fun c => ?_)
      · refine ⟨_, rfl, _, _, rfl, rfl, ?_⟩
        have e : inR (.int n) lo hi = decide (n ≤ hi) := by show (decide (lo ≤ n) && decide (n ≤ hi)) = _; rw [c, Bool.true_and]
        rw [e] at k
        exact k
      · have c' : decide (lo ≤ n) = false := by simpa using c
        have e : inR (.int n) lo hi = false := by show (decide (lo ≤ n) && decide (n ≤ hi)) = _; rw [c', Bool.false_and]
        rw [e] at k
        exact k
    · refine ⟨_, rfl, _, _, _, _, _, rfl, .ty _, .base (.bl _), kit_ty (r := true) (by decide +kernel), _, rfl, ?_⟩
      exact k
theorem scVersion : FnScope ["value"] ["value"] (defScope sVersion) := ⟨rfl, rfl, rfl, by decide +kernel, rfl, by decide +kernel, by decide +kernel⟩
theorem ok_version {f : Addr} {fd : FuncData} (F : Fun K "is_version" "is_version" sVersion f fd) (T : TxtE K mg) (dN : Def P w K mg base 1 "is_number" ["value", "least", "most"] spNumber) : FnOk P w K mg base CX0 2 f fd ["value"] spVersion := by
  refine F.ok scVersion (fun vs H Q E h => ?_) (fun cdv A outer s H vs Q E hr h => ?_)
  · obtain ⟨v, rfl, _⟩ := h
    rfl
  · obtain ⟨v, rfl, hv, k⟩ := h
    obtain ⟨t1, g1⟩ := T.lv
    obtain ⟨t2, g2⟩ := T.mv
    refine ⟨_, pss_one (ps_ret (pe_def dN hr rfl (pa_cons (pv 0) (pa_cons (pe_glob (v := .int 1) rfl g1 ⟨_, rfl⟩) (pa_cons (pe_glob (v := .int 99) rfl g2 ⟨_, rfl⟩) pa_nil))))), ?_⟩
    exact ⟨_, rfl, v, 1, 99, rfl, hv, k⟩
theorem scAsc : FnScope ["values", "at"] ["values"] (defScope sAscends) := ⟨rfl, rfl, rfl, by decide +kernel, rfl, by decide +kernel, by decide +kernel⟩
theorem ok_asc {f : Addr} {fd : FuncData} (F : Fun K "ascends" "ascends" sAscends f fd) (T : TxtE K mg) : FnOk P w K mg base CX0 1 f fd ["values"] (spAsc K) := by
  refine F.ok scAsc (fun vs H Q E h => ?_) (fun cdv A outer s H vs Q E hr h => ?_)
  · obtain ⟨a, ss, rfl, _⟩ := h
    rfl
  · obtain ⟨a, ss, rfl, hS, hl, k⟩ := h
    have nd := scAsc.nd
    refine ⟨_, pss_one (ps_ret (pe_callB (cr_all rfl) (by rfl) T.all (by decide +kernel) (pa_cons
        (pe_lc (own := [("at", 1)]) (g := gName 1) (tt := tYes) rfl nd (pi_range2 (by rfl) T.ran (pa_cons pe_int (pa_cons (pe_callB call_len_seq (by rfl) T.d.len PySem.boot_len (pa_cons (pv 0) pa_nil)) pa_nil))) (blkOk_by (N := ["values", "at"]) (sc := defScope sAscends) (by decide +kernel))
          (fun _ _ _ _ _ => pg_name (i := 1) nd rfl (Or.inl rfl)) (fun _ _ _ _ _ => pts_nil)
          (fun _ _ _ _ _ => pe_cmpR op_lt_str (pe_ix (ix_tup : IxR _ (rIxT K)) (pv 0) (pe_op op_sub (pv 1) pe_int) (fun _ _ => rfl)) (pe_ix (ix_tup : IxR _ (rIxT K)) (pv 0) (pv 1) (fun _ _ => rfl)) (nomark _))) pa_nil))), ?_⟩
    have hlm : (ss.map V.str).length = ss.length := List.length_map ..
    have hn : (((ss.map V.str).length : Int) - 1).toNat = ss.length - 1 := by omega
    refine ⟨_, rfl, a, _, rfl, .inr hS, 1, _, rfl, ⟨by decide, by decide, by omega, by omega⟩, ?_⟩
    rw [hn]
    refine fun D hD => lc_it walk_range (MapP H D ((List.range (ss.length - 1)).map fun i => V.bl (strLt (ss.getD i "") (ss.getD (i + 1) "")))) (MapP.zero hD) (fun _ _ _ _ => trivial) ?_ ?_
    · rintro i x H1 H2 hi p ⟨rfl, rfl⟩
      have e1 : atI (ss.map V.str) ((1 + (i : Int)) - 1) = some (V.str (ss.getD i "")) := by
        have e : (1 + (i : Int)) - 1 = ((i : Nat) : Int) := by omega
        rw [e]
        refine atI_nat ?_
        rw [List.getElem?_map, List.getD_eq_getElem?_getD, List.getElem?_eq_getElem (by omega)]
        rfl
      have e2 : atI (ss.map V.str) (1 + (i : Int)) = some (V.str (ss.getD (i + 1) "")) := by
        have e : (1 + (i : Int)) = ((i + 1 : Nat) : Int) := by omega
        rw [e]
        refine atI_nat ?_
        rw [List.getElem?_map, List.getD_eq_getElem?_getD, List.getElem?_eq_getElem (by omega)]
        rfl
      refine ⟨rfl, _, rfl, _, rfl, _, _, rfl, rfl, a, _, _, _, rfl, rfl, p.1.sqT hS, e1, _, rfl, _, rfl, a, _, _, _, rfl, rfl, p.1.sqT hS, e2, _, _, rfl, rfl, ?_⟩
      refine p.step hD ?_ (by rw [List.length_map, List.length_range]; omega) (Same.refl _)
      rw [List.getElem?_map, List.getElem?_range hi]
      rfl
    · intro H2 p
      obtain ⟨s2, hl2⟩ := p.done (by rw [List.length_map, List.length_range])
      refine ⟨D, (List.range (ss.length - 1)).map fun i => strLt (ss.getD i "") (ss.getD (i + 1) ""), rfl, SqL.of (by rw [hl2, List.map_map]; rfl), ?_⟩
      have e : ascS ss = ((List.range (ss.length - 1)).map fun i => strLt (ss.getD i "") (ss.getD (i + 1) "")).all id := by
        rw [List.all_map]
        rfl
      rw [← e]
      exact k H2 s2
end
end Half

namespace Half
open PySem PySem.Spec PyProof.Rows L2
theorem all_map_bl {α : Type} (l : List α) (f : α → Bool) : (l.map f).all id = l.all f := by rw [List.all_map]; rfl
theorem flat_strs (l : List Str) : (l.map V.str).all flatV = true := by
  rw [List.all_map, List.all_eq_true]
  intro x _
  rfl
theorem getE {α : Type} {l : List α} {i : Nat} {β : Type} {f : α → β} {y : β} (h : (l.map f)[i]? = some y) : ∃ a, l[i]? = some a ∧ y = f a := by
  rw [List.getElem?_map] at h
  cases e : l[i]? with
  | none => rw [e] at h; cases h
  | some a => rw [e] at h; exact ⟨a, rfl, (Option.some.inj h).symm⟩
section
variable {P : Program} {w : World} {K : PySem.W.Frag} {mg : Str → Option Value} {base : Heap}
theorem scScripts : FnScope ["values", "value"] ["values"] (defScope sScripts) := ⟨rfl, rfl, rfl, by decide +kernel, rfl, by decide +kernel, by decide +kernel⟩
theorem ok_scripts {f : Addr} {fd : FuncData} (F : Fun K "are_scripts" "are_scripts" sScripts f fd) (T : TxtE K mg) (dA : Def P w K mg base 1 "ascends" ["values"] (spAsc K)) : FnOk P w K mg base CX0 2 f fd ["values"] (spScripts K) := by
  refine F.ok scScripts (fun vs H Q E h => ?_) (fun cdv A outer s H vs Q E hr h => ?_)
  · obtain ⟨a, ss, rfl, _⟩ := h
    rfl
  · obtain ⟨a, ss, rfl, hS, hl, k⟩ := h
    have nd := scScripts.nd
    obtain ⟨aS, gS, hSC⟩ := T.scr
    refine ⟨_, pss_cons (ps_if (pt_not (pt_val (pe_callB call_isi (by rfl) T.isi (by decide +kernel) (pa_cons (pv 0) (pa_cons (pe_bltn (v := .ty "tuple") (by rfl) T.tup (by decide +kernel) rfl) pa_nil)))))
        (pss_one (ps_ret pe_bl)) pss_nil)
      (pss_one (ps_ret (pe_and (pe_callB (cr_all rfl) (by rfl) T.all (by decide +kernel) (pa_cons
        (pe_lc (own := [("value", 1)]) (g := gName 1) (tt := tYes) rfl nd (pi_tup (pv 0)) (blkOk_by (N := ["values", "value"]) (sc := defScope sScripts) (by decide +kernel))
          (fun _ _ _ _ _ => pg_name (i := 1) nd rfl (Or.inl rfl)) (fun _ _ _ _ _ => pts_nil)
          (fun _ _ _ _ _ => pe_cmpR (op_in_seq : OpR _ _ (rIn K false)) (pv 1) (pe_glob (v := .ref aS) rfl gS rfl) (by rfl))) pa_nil))
        (pe_one (pe_def dA hr rfl (pa_cons (pv 0) pa_nil)))))), ?_⟩
    refine ⟨_, rfl, _, _, _, _, _, rfl, .ty _, tyT hS, kit_ty (r := true) (by decide +kernel), _, rfl, ?_⟩
    refine iteF ?_
    refine ⟨_, rfl, a, rfl, ⟨_, hS⟩, fun D hD => lc_it (walk_tup (xs := ss.map V.str)) (MapP H D (ss.map fun z => V.bl (inV (.str z) (SCR.map V.str)))) (MapP.zero hD) (fun _ _ _ p => p.1.sqT hS) ?_ ?_⟩
    · rintro i x H1 H2 hi p ⟨rfl, hx⟩
      obtain ⟨z, hz, rfl⟩ := getE hx
      refine ⟨rfl, _, rfl, aS, _, rfl, .inr (hSC _), rfl, flat_strs _, ?_⟩
      refine p.step hD ?_ (by rw [List.length_map]; omega) (Same.refl _)
      rw [List.getElem?_map, hz]
      rfl
    · intro H2 p
      obtain ⟨s2, hl2⟩ := p.done (by rw [List.length_map, List.length_map])
      refine ⟨D, ss.map fun z => inV (.str z) (SCR.map V.str), rfl, SqL.of (by rw [hl2, List.map_map]; rfl), _, rfl, ?_⟩
      rw [all_map_bl]
      refine ite2 (fun c => ?_) (fun c => ?_)
      · refine ⟨_, rfl, a, ss, rfl, s2.sqT hS, hl, fun H3 s3 => ?_⟩
        have e : areScripts ss = ascS ss := by unfold areScripts; rw [c, Bool.true_and]
        rw [← e]
        exact k H3 (s2.trans s3)
      · have c' : (ss.all fun z => inV (.str z) (SCR.map V.str)) = false := by simpa using c
        have e : areScripts ss = false := by unfold areScripts; rw [c', Bool.false_and]
        rw [← e]
        exact k H2 s2
theorem scOthers : FnScope ["values", "name", "value"] ["values", "name"] (defScope sOthers) := ⟨rfl, rfl, rfl, by decide +kernel, rfl, by decide +kernel, by decide +kernel⟩
theorem ok_others {f : Addr} {fd : FuncData} (F : Fun K "are_other_names" "are_other_names" sOthers f fd) (T : TxtE K mg) (dA : Def P w K mg base 1 "ascends" ["values"] (spAsc K)) (dW : Def P w K mg base 1 "is_word" ["text"] spWord) : FnOk P w K mg base CX0 2 f fd ["values", "name"] (spOthers K) := by
  refine F.ok scOthers (fun vs H Q E h => ?_) (fun cdv A outer s H vs Q E hr h => ?_)
  · obtain ⟨a, ss, nm, rfl, _⟩ := h
    rfl
  · obtain ⟨a, ss, nm, rfl, hS, hl, hw, k⟩ := h
    have nd := scOthers.nd
    refine ⟨_, pss_cons (ps_if (pt_not (pt_val (pe_callB call_isi (by rfl) T.isi (by decide +kernel) (pa_cons (pv 0) (pa_cons (pe_bltn (v := .ty "tuple") (by rfl) T.tup (by decide +kernel) rfl) pa_nil)))))
        (pss_one (ps_ret pe_bl)) pss_nil)
      (pss_one (ps_ret (pe_and (pe_callB (cr_all rfl) (by rfl) T.all (by decide +kernel) (pa_cons
        (pe_lc (own := [("value", 2)]) (g := gName 2) (tt := tYes) rfl nd (pi_tup (pv 0)) (blkOk_by (N := ["values", "name", "value"]) (sc := defScope sOthers) (by decide +kernel))
          (fun _ _ _ _ _ => pg_name (i := 2) nd rfl (Or.inl rfl)) (fun _ _ _ _ _ => pts_nil)
          (fun _ _ _ _ _ => pe_and (pe_def dW hr rfl (pa_cons (pv 2) pa_nil)) (pe_one (pe_cmpR op_ne (pv 2) (pv 1) (nomark _))))) pa_nil))
        (pe_one (pe_def dA hr rfl (pa_cons (pv 0) pa_nil)))))), ?_⟩
    refine ⟨_, rfl, _, _, _, _, _, rfl, .ty _, tyT hS, kit_ty (r := true) (by decide +kernel), _, rfl, ?_⟩
    refine iteF ?_
    refine ⟨_, rfl, a, rfl, ⟨_, hS⟩, fun D hD => lc_it (walk_tup (xs := ss.map V.str)) (MapP H D (ss.map fun z => V.bl (isWord z && !decide (V.str z = V.str nm)))) (MapP.zero hD) (fun _ _ _ p => p.1.sqT hS) ?_ ?_⟩
    · rintro i x H1 H2 hi p ⟨rfl, hx⟩
      obtain ⟨z, hz, rfl⟩ := getE hx
      refine ⟨rfl, _, rfl, z, rfl, hw z (List.mem_of_getElem? hz), fun H3 s3 => ⟨_, rfl, ?_⟩⟩
      have fin : ∀ b, b = (isWord z && !decide (V.str z = V.str nm)) → ∃ acc, H3 D = some (.lst acc) ∧ acc.length < sizeLine ∧ MapP H D (ss.map fun z => V.bl (isWord z && !decide (V.str z = V.str nm))) (i + 1) (upd H3 D (.lst (acc ++ [V.bl b]))) := fun b e => by
        refine p.step hD ?_ (by rw [List.length_map]; omega) s3
        rw [List.getElem?_map, hz, e]
        rfl
      refine ite2 (fun c => ?_) (fun c => ?_)
      · refine ⟨_, rfl, _, rfl, rfl, ?_⟩
        exact fin _ (by rw [c, Bool.true_and])
      · have c' : isWord z = false := by simpa using c
        exact fin _ (by rw [c', Bool.false_and])
    · intro H2 p
      obtain ⟨s2, hl2⟩ := p.done (by rw [List.length_map, List.length_map])
      refine ⟨D, ss.map fun z => (isWord z && !decide (V.str z = V.str nm)), rfl, SqL.of (by rw [hl2, List.map_map]; rfl), _, rfl, ?_⟩
      rw [all_map_bl]
      refine ite2 (fun c => ?_) (fun c => ?_)
      · refine ⟨_, rfl, a, ss, rfl, s2.sqT hS, hl, fun H3 s3 => ?_⟩
        have e : areOthers ss nm = ascS ss := by unfold areOthers; rw [c, Bool.true_and]
        rw [← e]
        exact k H3 (s2.trans s3)
      · have c' : (ss.all fun z => (isWord z && !decide (V.str z = V.str nm))) = false := by simpa using c
        have e : areOthers ss nm = false := by unfold areOthers; rw [c', Bool.false_and]
        rw [← e]
        exact k H2 s2
theorem scPair : FnScope ["value"] ["value"] (defScope sPair) := ⟨rfl, rfl, rfl, by decide +kernel, rfl, by decide +kernel, by decide +kernel⟩
theorem ok_pair {f : Addr} {fd : FuncData} (F : Fun K "is_pair_with_version" "is_pair_with_version" sPair f fd) (T : TxtE K mg) (dV : Def P w K mg base 2 "is_version" ["value"] spVersion) : FnOk P w K mg base CX0 3 f fd ["value"] (spPair K) := by
  refine F.ok scPair (fun vs H Q E h => ?_) (fun cdv A outer s H vs Q E hr h => ?_)
  · obtain ⟨t, n, v, rfl, _⟩ := h
    rfl
  · obtain ⟨t, n, v, rfl, hS, k⟩ := h
    refine ⟨_, pss_one (ps_ret (pe_and (pe_callB call_isi (by rfl) T.isi (by decide +kernel) (pa_cons (pv 0) (pa_cons (pe_bltn (v := .ty "tuple") (by rfl) T.tup (by decide +kernel) rfl) pa_nil)))
      (pe_and (pe_cmpR op_eq (pe_callB call_len_seq (by rfl) T.d.len PySem.boot_len (pa_cons (pv 0) pa_nil)) pe_int (nomark _))
        (pe_one (pe_def dV hr rfl (pa_cons (pe_ix ix_tup (pv 0) pe_int (fun _ _ => rfl)) pa_nil)))))), ?_⟩
    refine ⟨_, rfl, _, _, _, _, _, rfl, .ty _, tyT hS, kit_ty (r := true) (by decide +kernel), _, rfl, ?_⟩
    refine iteT ?_
    refine ⟨_, rfl, t, _, rfl, .inr hS, rfl, true, rfl, ?_⟩
    refine iteT ?_
    exact ⟨_, rfl, t, _, _, _, rfl, rfl, hS, rfl, _, rfl, .inl ⟨_, rfl⟩, k⟩
theorem scNeeds : FnScope ["values", "name", "value"] ["values", "name"] (defScope sNeeds) := ⟨rfl, rfl, rfl, by decide +kernel, rfl, by decide +kernel, by decide +kernel⟩
theorem ok_needs {f : Addr} {fd : FuncData} (F : Fun K "are_needs" "are_needs" sNeeds f fd) (T : TxtE K mg) (dP : Def P w K mg base 3 "is_pair_with_version" ["value"] (spPair K)) (dO : Def P w K mg base 2 "are_other_names" ["values", "name"] (spOthers K)) : FnOk P w K mg base CX0 4 f fd ["values", "name"] (spNeeds K) := by
  refine F.ok scNeeds (fun vs H Q E h => ?_) (fun cdv A outer s H vs Q E hr h => ?_)
  · obtain ⟨a, ps, nm, rfl, _⟩ := h
    rfl
  · obtain ⟨a, ps, nm, rfl, hN, hl, hw, k⟩ := h
    have nd := scNeeds.nd
    obtain ⟨ts, hS, htl, hts⟩ := id hN
    refine ⟨_, pss_cons (ps_if (PW.pt (pw_or (pt_not (pt_val (pe_callB call_isi (by rfl) T.isi (by decide +kernel) (pa_cons (pv 0) (pa_cons (pe_bltn (v := .ty "tuple") (by rfl) T.tup (by decide +kernel) rfl) pa_nil)))))
        (pw_or1 (pt_not (pt_val (pe_callB (cr_all rfl) (by rfl) T.all (by decide +kernel) (pa_cons
          (pe_lc (own := [("value", 2)]) (g := gName 2) (tt := tYes) rfl nd (pi_tup (pv 0)) (blkOk_by (N := ["values", "name", "value"]) (sc := defScope sNeeds) (by decide +kernel))
            (fun _ _ _ _ _ => pg_name (i := 2) nd rfl (Or.inl rfl)) (fun _ _ _ _ _ => pts_nil)
            (fun _ _ _ _ _ => pe_def dP hr rfl (pa_cons (pv 2) pa_nil))) pa_nil)))))))
        (pss_one (ps_ret pe_bl)) pss_nil)
      (pss_one (ps_ret (pe_def dO (hr.mono (by decide)) rfl (pa_cons (pe_callTy call_tuple_of (by rfl) T.tup (by decide +kernel) (pa_cons
          (pe_lc (own := [("value", 2)]) (g := gName 2) (tt := tYes) rfl nd (pi_tup (pv 0)) (blkOk_by (N := ["values", "name", "value"]) (sc := defScope sNeeds) (by decide +kernel))
            (fun _ _ _ _ _ => pg_name (i := 2) nd rfl (Or.inl rfl)) (fun _ _ _ _ _ => pts_nil)
            (fun _ _ _ _ _ => pe_ix (ix_tup : IxR _ (rIxT K)) (pv 2) pe_int (fun _ _ => rfl))) pa_nil)) (pa_cons (pv 1) pa_nil))))), ?_⟩
    refine ⟨_, rfl, _, _, _, _, _, rfl, .ty _, tyT hS, kit_ty (r := true) (by decide +kernel), _, rfl, ?_⟩
    refine iteF ?_
    refine ⟨_, rfl, a, rfl, ⟨_, hS⟩, fun D hD => lc_it (walk_tup (xs := ts.map V.ref)) (MapP H D (ps.map fun p => V.bl (inR (.int p.2) 1 99))) (MapP.zero hD) (fun _ _ _ p => p.1.sqT hS) ?_ ?_⟩
    · rintro i x H1 H2 hi p ⟨rfl, hx⟩
      obtain ⟨t, ht, rfl⟩ := getE hx
      have hip : i < ps.length := by rw [List.length_map] at hi; omega
      refine ⟨rfl, _, rfl, t, _, _, rfl, p.1.sqT (hts i t _ ht (List.getElem?_eq_getElem hip)), ?_⟩
      refine p.step hD ?_ (by rw [List.length_map]; omega) (Same.refl _)
      rw [List.getElem?_map, List.getElem?_eq_getElem hip]
      rfl
    · intro H2 p
      obtain ⟨s2, hl2⟩ := p.done (by rw [List.length_map, List.length_map, htl])
      refine ⟨D, ps.map fun p => inR (.int p.2) 1 99, rfl, SqL.of (by rw [hl2, List.map_map]; rfl), _, rfl, ?_⟩
      rw [all_map_bl]
      cases c : (ps.all fun p => inR (.int p.2) 1 99) with
      | false =>
        refine iteT ?_
        have e : areNeeds ps nm = false := by unfold areNeeds; rw [c, Bool.false_and]
        have q := k H2 s2
        rw [e] at q
        exact q
      | true =>
        refine iteF ?_
        refine ⟨_, rfl, a, rfl, ⟨_, s2.sqT hS⟩, fun D2 hD2 => lc_it (walk_tup (xs := ts.map V.ref)) (MapP H2 D2 (ps.map fun p => V.str p.1)) (MapP.zero hD2) (fun _ _ _ p => (s2.trans p.1).sqT hS) ?_ ?_⟩
        · rintro i x H3 H4 hi p2 ⟨rfl, hx⟩
          obtain ⟨t, ht, rfl⟩ := getE hx
          have hip : i < ps.length := by rw [List.length_map] at hi; omega
          refine ⟨rfl, _, rfl, t, _, _, _, rfl, rfl, (s2.trans p2.1).sqT (hts i t _ ht (List.getElem?_eq_getElem hip)), rfl, ?_⟩
          refine p2.step hD2 ?_ (by rw [List.length_map]; omega) (Same.refl _)
          rw [List.getElem?_map, List.getElem?_eq_getElem hip]
          rfl
        · intro H3 p2
          obtain ⟨s3, hl3⟩ := p2.done (by rw [List.length_map, List.length_map, htl])
          refine ⟨D2, _, rfl, .inl ⟨SqL.of hl3, fun tp htp => ⟨_, rfl, tp, ps.map (·.1), nm, rfl, .inl (.inl ?_), ?_, ?_, fun H5 s5 => ?_⟩⟩⟩
          · rw [upd_same, List.map_map]
            rfl
          · rw [List.length_map]
            exact hl
          · intro z hz
            obtain ⟨p, hp, rfl⟩ := List.mem_map.mp hz
            exact hw p hp
          · have e : areNeeds ps nm = areOthers (ps.map (·.1)) nm := by unfold areNeeds; rw [c, Bool.true_and]
            rw [← e]
            exact k H5 (s2.trans (s3.trans ((Same.upd_new htp).trans s5)))
end
end Half

namespace Half
open PySem PySem.Spec PyProof.Rows L2
abbrev sWrong : Stmt := top 44
/-- an edition's parameters -/
structure Ed where
  name : Str
  version : V
  scripts : List Str
  needs : List (Str × Int)
  first : List (Str × Int)
  against : List Str
def Ed.checks (e : Ed) : List (Str × Bool) := [("name", isWord e.name), ("version", inR e.version 1 99), ("scripts", areScripts e.scripts), ("needs", areNeeds e.needs e.name), ("first", areNeeds e.first e.name), ("against", areOthers e.against e.name)]
def Ed.wrong (e : Ed) : Option Str := (e.checks.find? fun q => !q.2).map (·.1)
def optV : Option Str → V
  | none => .non
  | some x => .str x
/-- sizes that no check is beyond -/
structure Ed.Small (e : Ed) : Prop where
  name : e.name.length ≤ 1000
  version : (∃ n, e.version = .int n) ∨ ∃ b, e.version = .bl b
  scripts : e.scripts.length ≤ 100
  needs : e.needs.length ≤ 100 ∧ ∀ p ∈ e.needs, p.1.length ≤ 1000
  first : e.first.length ≤ 100 ∧ ∀ p ∈ e.first, p.1.length ≤ 1000
  against : e.against.length ≤ 100 ∧ ∀ z ∈ e.against, z.length ≤ 1000
/-- its six values -/
structure EdAt (K : PySem.W.Frag) (H : Hp) (e : Ed) (s n f g : Addr) : Prop where
  scripts : SqT K H s (e.scripts.map V.str)
  needs : NeedsAt K H n e.needs
  first : NeedsAt K H f e.first
  against : SqT K H g (e.against.map V.str)
theorem EdAt.same {K : PySem.W.Frag} {H H' : Hp} {e : Ed} {s n f g : Addr} (S : Same H H') (h : EdAt K H e s n f g) : EdAt K H' e s n f g :=
  ⟨S.sqT h.scripts, h.needs.same S, h.first.same S, S.sqT h.against⟩
theorem find_first {l : List (Str × Bool)} {i : Nat} {p : Str × Bool} (h : ∀ j q, j < i → l[j]? = some q → q.2 = true) (hi : l[i]? = some p) (hp : p.2 = false) : l.find? (fun q => !q.2) = some p := by
  induction l generalizing i with
  | nil => simp at hi
  | cons a l ih =>
    cases i with
    | zero =>
      have e : a = p := by simpa using hi
      subst e
      simp [hp]
    | succ i =>
      have ha : a.2 = true := h 0 a (Nat.succ_pos _) rfl
      rw [List.find?_cons_of_neg (by simp [ha])]
      exact ih (i := i) (fun j q hj e => h (j + 1) q (Nat.succ_lt_succ hj) (by simpa using e)) (by simpa using hi)
theorem find_none {l : List (Str × Bool)} (h : ∀ j q, j < l.length → l[j]? = some q → q.2 = true) : l.find? (fun q => !q.2) = none := by
  rw [List.find?_eq_none]
  intro q hq
  obtain ⟨j, hj, e⟩ := List.mem_iff_getElem.mp hq
  have := h j q hj (by rw [List.getElem?_eq_getElem hj, e])
  simp [this]
def spWrong (K : PySem.W.Frag) : Sp := fun vs H Q _ => ∃ (e : Ed) (s n f g : Addr), vs = [.str e.name, e.version, .ref s, .ref n, .ref f, .ref g] ∧ EdAt K H e s n f g ∧ e.Small ∧ ∀ H', Same H H' → Q (optV e.wrong) H'
structure Checks (P : Program) (w : World) (K : PySem.W.Frag) (mg : Str → Option Value) (base : Heap) : Prop where
  wo : Def P w K mg base 1 "is_word" ["text"] spWord
  ve : Def P w K mg base 2 "is_version" ["value"] spVersion
  sc : Def P w K mg base 2 "are_scripts" ["values"] (spScripts K)
  ne : Def P w K mg base 4 "are_needs" ["values", "name"] (spNeeds K)
  ot : Def P w K mg base 2 "are_other_names" ["values", "name"] (spOthers K)
section
variable {P : Program} {w : World} {K : PySem.W.Frag} {mg : Str → Option Value} {base : Heap}
theorem scWrong : FnScope ["name", "version", "scripts", "needs", "first", "against", "checked", "part", "right"] ["name", "version", "scripts", "needs", "first", "against"] (defScope sWrong) := ⟨rfl, rfl, rfl, by decide +kernel, rfl, by decide +kernel, by decide +kernel⟩
theorem two_le : 2 ≤ sizeLine := by decide
theorem ok_wrong {f : Addr} {fd : FuncData} (F : Fun K "wrong_part" "wrong_part" sWrong f fd) (T : TxtE K mg) (C : Checks P w K mg base) : FnOk P w K mg base CX0 5 f fd ["name", "version", "scripts", "needs", "first", "against"] (spWrong K) := by
  refine F.ok scWrong (fun vs H Q E h => ?_) (fun cdv A outer s H vs Q E hr h => ?_)
  · obtain ⟨e, s, n, f, g, rfl, _⟩ := h
    rfl
  · obtain ⟨e, as, an, af, ag, rfl, hE, hz, k⟩ := h
    have nd := scWrong.nd
    have r1 : Room 1 _ := hr.mono (by decide)
    have r2 : Room 2 _ := hr.mono (by decide)
    refine ⟨_, pss_cons (ps_set (i := 6) nd rfl (Or.inl rfl) (pe_tup
        (pa_cons (pe_tup (pa_cons pe_str (pa_cons (pe_def C.wo r1 rfl (pa_cons (pv 0) pa_nil)) pa_nil)))
        (pa_cons (pe_tup (pa_cons pe_str (pa_cons (pe_def C.ve r2 rfl (pa_cons (pv 1) pa_nil)) pa_nil)))
        (pa_cons (pe_tup (pa_cons pe_str (pa_cons (pe_def C.sc r2 rfl (pa_cons (pv 2) pa_nil)) pa_nil)))
        (pa_cons (pe_tup (pa_cons pe_str (pa_cons (pe_def C.ne hr rfl (pa_cons (pv 3) (pa_cons (pv 0) pa_nil))) pa_nil)))
        (pa_cons (pe_tup (pa_cons pe_str (pa_cons (pe_def C.ne hr rfl (pa_cons (pv 4) (pa_cons (pv 0) pa_nil))) pa_nil)))
        (pa_cons (pe_tup (pa_cons pe_str (pa_cons (pe_def C.ot r2 rfl (pa_cons (pv 5) (pa_cons (pv 0) pa_nil))) pa_nil))) pa_nil))))))))
      (pss_cons (ps_for PassesOwn.never rfl (pi_tup (pv 6)) (pg_tup rfl (pgs_cons (pg_name (i := 7) nd rfl (Or.inl rfl)) (pgs_cons (pg_name (i := 8) nd rfl (Or.inl rfl)) pgs_nil)))
        (pss_one (ps_if (pt_not (pt_val (pv 8))) (pss_one (ps_ret (pv 7))) pss_nil)))
      (pss_one (ps_ret pe_non))), ?_⟩
    refine ⟨_, rfl, e.name, rfl, hz.name, fun H1 s1 => ⟨two_le, fun t1 n1 => ?_⟩⟩
    refine ⟨_, rfl, e.version, rfl, hz.version, two_le, fun t2 n2 => ?_⟩
    have s2 := (s1.trans (Same.upd_new (o := .tup [.str "name", .bl (isWord e.name)]) n1)).trans (Same.upd_new (o := .tup [.str "version", .bl (inR e.version 1 99)]) n2)
    refine ⟨_, rfl, as, _, rfl, s2.sqT hE.scripts, hz.scripts, fun H3 s3 => ⟨two_le, fun t3 n3 => ?_⟩⟩
    have s3' := (s2.trans s3).trans (Same.upd_new (o := .tup [.str "scripts", .bl (areScripts e.scripts)]) n3)
    refine ⟨_, rfl, _, rfl, an, _, _, rfl, hE.needs.same s3', hz.needs.1, hz.needs.2, fun H4 s4 => ⟨two_le, fun t4 n4 => ?_⟩⟩
    have s4' := (s3'.trans s4).trans (Same.upd_new (o := .tup [.str "needs", .bl (areNeeds e.needs e.name)]) n4)
    refine ⟨_, rfl, _, rfl, af, _, _, rfl, hE.first.same s4', hz.first.1, hz.first.2, fun H5 s5 => ⟨two_le, fun t5 n5 => ?_⟩⟩
    have s5' := (s4'.trans s5).trans (Same.upd_new (o := .tup [.str "first", .bl (areNeeds e.first e.name)]) n5)
    refine ⟨_, rfl, _, rfl, ag, _, _, rfl, s5'.sqT hE.against, hz.against.1, hz.against.2, fun H6 s6 => ⟨two_le, fun t6 n6 => ⟨(by show 6 ≤ sizeLine; decide), fun TT nT => ?_⟩⟩⟩
    have z6 := Same.upd_new (o := .tup [.str "against", .bl (areOthers e.against e.name)]) n6
    have zT := Same.upd_new (o := .tup [.ref t1, .ref t2, .ref t3, .ref t4, .ref t5, .ref t6]) nT
    have zz := z6.trans zT
    have z5 := ((Same.upd_new (o := .tup [.str "first", .bl (areNeeds e.first e.name)]) n5).trans s6).trans zz
    have z4 := ((Same.upd_new (o := .tup [.str "needs", .bl (areNeeds e.needs e.name)]) n4).trans s5).trans z5
    have z3 := ((Same.upd_new (o := .tup [.str "scripts", .bl (areScripts e.scripts)]) n3).trans s4).trans z4
    have z2 := ((Same.upd_new (o := .tup [.str "version", .bl (inR e.version 1 99)]) n2).trans s3).trans z3
    have z1 := (Same.upd_new (o := .tup [.str "name", .bl (isWord e.name)]) n1).trans z2
    have hAll := (s5'.trans s6).trans zz
    generalize hHF : upd (upd H6 t6 _) TT _ = HF at *
    have hts : ∀ (i : Nat) x p, ([t1, t2, t3, t4, t5, t6] : List Addr)[i]? = some x → e.checks[i]? = some p → SqT K HF x [.str p.1, .bl p.2] := by
      have a1 : HF t1 = _ := z2 _ _ upd_same
      have a2 : HF t2 = _ := z3 _ _ (s3 _ _ upd_same)
      have a3 : HF t3 = _ := z4 _ _ (s4 _ _ upd_same)
      have a4 : HF t4 = _ := z5 _ _ (s5 _ _ upd_same)
      have a5 : HF t5 = _ := zz _ _ (s6 _ _ upd_same)
      have a6 : HF t6 = _ := zT _ _ upd_same
      intro i x p hx hp
      match i with
      | 0 => cases hx; cases hp; exact .inl (.inl a1)
      | 1 => cases hx; cases hp; exact .inl (.inl a2)
      | 2 => cases hx; cases hp; exact .inl (.inl a3)
      | 3 => cases hx; cases hp; exact .inl (.inl a4)
      | 4 => cases hx; cases hp; exact .inl (.inl a5)
      | 5 => cases hx; cases hp; exact .inl (.inl a6)
      | i + 6 => simp at hx
    have hTT : SqT K HF TT ([t1, t2, t3, t4, t5, t6].map V.ref) := .inl (.inl (by rw [← hHF]; exact upd_same))
    refine ⟨_, rfl, TT, rfl, ⟨_, hTT⟩, for_it (walk_tup (xs := [t1, t2, t3, t4, t5, t6].map V.ref)) (fun i σ H' => H' = HF ∧ (∃ v7 v8, σ = [some (.str e.name), some e.version, some (.ref as), some (.ref an), some (.ref af), some (.ref ag), some (.ref TT), v7, v8]) ∧ ∀ j q, j < i → e.checks[j]? = some q → q.2 = true)
      ⟨rfl, ⟨none, none, rfl⟩, fun j q hj => absurd hj (Nat.not_lt_zero _)⟩ (fun i σ H' _ h => by rw [h.1]; exact hTT) ?_ ?_⟩
    · rintro i x σ H' H'' hi ⟨rfl, ⟨v7, v8, rfl⟩, hbef⟩ ⟨rfl, hx⟩
      obtain ⟨t, ht, rfl⟩ := getE hx
      have hip : i < e.checks.length := hi
      have hp := List.getElem?_eq_getElem hip
      refine ⟨t, _, rfl, hts i t _ ht hp, rfl, _, _, rfl, _, _, rfl, rfl, ?_⟩
      refine ⟨_, rfl, _, rfl, ?_⟩
      cases c : e.checks[i].2 with
      | false =>
        refine iteT ?_
        refine ⟨_, rfl, ?_⟩
        have e1 : e.wrong = some e.checks[i].1 := by
          unfold Ed.wrong
          rw [find_first hbef hp c]
          rfl
        have q := k H'' hAll
        rw [e1] at q
        exact q
      | true =>
        refine iteF ?_
        refine ⟨rfl, ⟨_, _, rfl⟩, fun j q hj hq => ?_⟩
        by_cases hji : j = i
        · subst hji
          rw [hp] at hq
          rw [← Option.some.inj hq]
          exact c
        · exact hbef j q (by omega) hq
    · rintro σ H' ⟨rfl, _, hbef⟩
      have e1 : e.wrong = none := by
        unfold Ed.wrong
        rw [find_none fun j q hj hq => hbef j q hj hq]
        rfl
      have q := k H' hAll
      rw [e1] at q
      exact q
end
end Half

namespace Half
open PySem PySem.Spec PyProof.Rows L2
abbrev sIe : Stmt := inClass (top 9) 0
/-- what stands of an error class with its own __init__ (one parameter, super().__init__(..), one field fl) -/
def spErr (C : Addr) (fl : Str) : Sp := fun vs H Q _ => ∃ (a : Addr) (p : Str), vs = [.ref a, .str p] ∧ H a = some (exo a C none) ∧ p.length ≤ 1000 ∧
  ∀ dx, H dx = none → dx ≠ a → Q .non (upd (upd H dx (exd dx [(fl, .str p)])) a (exo a C (some dx)))
/-- the __init__ at f as the top has made it -/
structure ErrFn (P : Program) (K : PySem.W.Frag) (C : Addr) (qual : Str) (st : Stmt) (f : Addr) (fd : FuncData) : Prop where
  ex : ∃ (oc : Value) (od : Option Addr) (kV doc pm : Value) (an : Option Addr) (cda cc : Addr) (ct : Value) (osl : Array (Option Value)) (ccl : Value) (cdd : Option Addr) (vsc : Array Value) (ccs : Array (Option Value)) (file : Str) (tf : Tok) (cl : Value) (cld : Option Addr) (csl : Array (Option Value)),
    fd = PySem.W.ksFn "__init__" qual (defArgs st) (defBody st) (defScope st) .none kV doc pm an (.ref cda) ct cc ∧ K.lookup f = some ⟨oc, od, .func fd, osl⟩ ∧ PySem.W.codeIn K (.ref cda) qual = true ∧
    K.lookup cda = some ⟨ccl, cdd, .fields vsc, ccs⟩ ∧ vsc[2]? = some (.str file tf) ∧ ((P.main.file : Str) == file) = true ∧ K.lookup cc = some ⟨cl, cld, .cell (some (.ref C)), csl⟩
theorem scIe : SupScope ["self", "part"] ["self", "part"] (defScope sIe) := ⟨rfl, rfl, rfl, by decide +kernel, rfl, by decide +kernel, by decide +kernel, by decide +kernel, rfl, rfl⟩
theorem app_len (a b : Str) : (a ++ b).length = a.length + b.length := by
  show (a.cps ++ b.cps).size = _
  rw [Array.size_append]
  rfl
section
variable {P : Program} {w : World} {K : PySem.W.Frag} {mg : Str → Option Value} {base : Heap}
theorem ok_ie {C f : Addr} {fd : FuncData} (F : ErrFn P K C "InvalidEdition.__init__" sIe f fd) (T : SupC P K mg C) (nF : PySem.W.findIn K (.ref C) "part" = some none) : FnOk P w K mg base CX0 1 f fd ["self", "part"] (spErr C "part") := by
  obtain ⟨oc, od, kV, doc, pm, an, cda, cc, ct, osl, ccl, cdd, vsc, ccs, file, tf, cl, cld, csl, rfl, lk, hcd, hcode, hvs, hfile, hcell⟩ := F.ex
  refine fn_sup (N := ["self", "part"]) lk hcd scIe rfl rfl rfl hcode hvs hfile hcell T (fun vs H Q E h => ?_) (fun _ => rfl) (fun _ => rfl) (fun _ => rfl) (fun A outer s H vs Q E hr h => ?_)
  · obtain ⟨a, p, rfl, _⟩ := h
    rfl
  · obtain ⟨a, p, rfl, ha, hp, k⟩ := h
    refine ⟨a, _, _, rfl, ha, pa_cons (pe_joined (.cons pe_str (.cons (pe_fmt (pv 1)) (.cons pe_str .nil)))) pa_nil, pss_one (ps_ost (pv 0) (pv 1)), ?_⟩
    have l1 : ∀ x y : Str, x.length ≤ 100 → y.length ≤ 1200 → (x ++ y).length ≤ sizeLine := fun x y hx hy => by rw [app_len, sizeLine_eq]; omega
    refine ⟨_, rfl, (by decide), _, rfl, .inl ⟨p, rfl, Nat.le_trans hp (by decide), p, rfl, ?_, _, rfl, ?_, ?_⟩⟩
    · rw [app_len, app_len, sizeLine_eq]
      have : ("this cannot be the " : Str).length = 19 := by decide
      have e0 : (Str.empty).length = 0 := by decide
      omega
    · rw [app_len, app_len, app_len, sizeLine_eq]
      have : ("this cannot be the " : Str).length = 19 := by decide
      have : (" of an edition" : Str).length = 14 := by decide
      have e0 : (Str.empty).length = 0 := by decide
      omega
    · refine ⟨by show 1 ≤ 1000; decide, ha, ?_⟩
      refine ⟨_, rfl, _, rfl, a, C, rfl, T.oex, nF, .inl ⟨ha, fun dx h1 h2 => k dx h1 h2⟩⟩
end
end Half

namespace Half
open PySem PySem.Spec PyProof.Rows L2
abbrev sEi : Stmt := inClass (top 45) 0
abbrev sGet (i : Nat) : Stmt := inClass (top 45) (i + 1)
abbrev sEq : Stmt := inClass (top 45) 7
/-- all but the object at x stands as it stood -/
def SameBut (x : Addr) (H H' : Hp) : Prop := ∀ b o, b ≠ x → H b = some o → H' b = some o
/-- an edition at a -/
structure EdObj (K : PySem.W.Frag) (H : Hp) (C : Addr) (a : Addr) (e : Ed) (s n f g : Addr) : Prop where
  ob : ∃ dx p, H a = some (.ins C dx [("parts", .ref p)]) ∧ H p = some (.tup [.str e.name, e.version, .ref s, .ref n, .ref f, .ref g])
  at_ : EdAt K H e s n f g
theorem EdObj.same {K : PySem.W.Frag} {H H' : Hp} {C a : Addr} {e : Ed} {s n f g : Addr} (S : Same H H') (h : EdObj K H C a e s n f g) : EdObj K H' C a e s n f g := by
  obtain ⟨⟨dx, p, h1, h2⟩, h3⟩ := h
  exact ⟨⟨dx, p, S _ _ h1, S _ _ h2⟩, h3.same S⟩
def EiNames : List Str := ["self", "name", "version", "scripts", "needs", "first", "against"]
def spEi (K : PySem.W.Frag) (C CE : Addr) : Sp := fun vs H Q E => ∃ (x dx : Addr) (e : Ed) (s n f g : Addr), vs = [.ref x, .str e.name, e.version, .ref s, .ref n, .ref f, .ref g] ∧ H x = some (.ins C dx []) ∧ EdAt K H e s n f g ∧ e.Small ∧
  (e.wrong = none → ∀ H', SameBut x H H' → EdObj K H' C x e s n f g → Q .non H') ∧
  (∀ p, e.wrong = some p → ∀ H' d, Same H H' → H' d = some (.xd [("part", .str p)]) → E (.ref CE) (some d) H')
structure TxtG (P : Program) (K : PySem.W.Frag) (mg : Str → Option Value) (C CE fI : Addr) (fdI : FuncData) : Prop where
  cl : Cls K C
  nP : NoAttr K C "parts"
  mgC : mg "Edition" = some (.ref C)
  mgE : mg "InvalidEdition" = some (.ref CE)
  sup : SupC P K mg CE
  nF : PySem.W.findIn K (.ref CE) "part" = some none
  iC : PySem.W.findIn K (.ref CE) "__init__" = some (some (.ref fI))
  tI : PySem.W.typeIn K (.ref fI) = some (.type "function")
  er : ErrFn P K CE "InvalidEdition.__init__" sIe fI fdI
  bI : Binds K fdI ["self", "part"] []
section
variable {P : Program} {w : World} {K : PySem.W.Frag} {mg : Str → Option Value} {base : Heap} {C CE fI : Addr} {fdI : FuncData}
theorem scEi : FnScope ["self", "name", "version", "scripts", "needs", "first", "against", "part"] ["self", "name", "version", "scripts", "needs", "first", "against"] (defScope sEi) := ⟨rfl, rfl, rfl, by decide +kernel, rfl, by decide +kernel, by decide +kernel⟩
theorem wrong_small (e : Ed) {p : Str} (h : e.wrong = some p) : p.length ≤ 1000 := by
  unfold Ed.wrong at h
  cases q : e.checks.find? (fun q => !q.2) with
  | none => rw [q] at h; cases h
  | some r =>
    rw [q] at h
    have hp : r.1 = p := by simpa using h
    have hm := List.mem_of_find?_eq_some q
    rw [← hp]
    unfold Ed.checks at hm
    simp only [List.mem_cons, List.not_mem_nil, or_false] at hm
    rcases hm with rfl | rfl | rfl | rfl | rfl | rfl <;> (dsimp only; decide)
theorem ok_ei {f : Addr} {fd : FuncData} {kws : List (Str × V)} (F : FunD K "__init__" "Edition.__init__" (defArgs sEi) (defBody sEi) (defScope sEi) [] kws f fd) (T : TxtG P K mg C CE fI fdI) (dW : Def P w K mg base 5 "wrong_part" ["name", "version", "scripts", "needs", "first", "against"] (spWrong K)) :
    FnOk P w K mg base (L2.CX P w) 6 f fd ["self", "name", "version", "scripts", "needs", "first", "against"] (spEi K C CE) := by
  refine F.ok scEi (fun vs H Q E h => ?_) (fun cdv A outer s H vs Q E hr h => ?_)
  · obtain ⟨x, dx, e, s, n, f, g, rfl, _⟩ := h
    rfl
  · obtain ⟨x, dx, e, as, an, af, ag, rfl, hx, hE, hz, kOk, kBad⟩ := h
    have nd := scEi.nd
    have FI : FnOk P w K mg base CX0 1 fI fdI ["self", "part"] (spErr CE "part") := ok_ie T.er T.sup T.nF
    refine ⟨_, pss_cons (ps_set (i := 7) nd rfl (Or.inl rfl) (pe_def dW hr rfl (pa_cons (pv 1) (pa_cons (pv 2) (pa_cons (pv 3) (pa_cons (pv 4) (pa_cons (pv 5) (pa_cons (pv 6) pa_nil))))))))
      (pss_cons (ps_if (pt_cmp (pc_notN (pv 7))) (pss_one (ps_raise rfl (takes_of rfl rfl rfl rfl) (pmk_oex T.sup.oex T.iC T.tI FI (hr.mono (by decide)) T.bI .nil (fun _ _ _ _ _ _ _ h => h.elim) rfl T.mgE (pa_cons (pv 7) pa_nil)))) pss_nil)
      (pss_one (ps_fld (pv 0) (pe_tup (pa_cons (pv 1) (pa_cons (pv 2) (pa_cons (pv 3) (pa_cons (pv 4) (pa_cons (pv 5) (pa_cons (pv 6) pa_nil))))))) rfl))), ?_⟩
    refine ⟨_, rfl, _, rfl, _, rfl, _, rfl, _, rfl, _, rfl, e, as, an, af, ag, rfl, hE, hz, fun H1 s1 => ?_⟩
    cases hw : e.wrong with
    | some p =>
      refine ⟨_, rfl, true, rfl, ?_⟩
      refine iteT ?_
      refine ⟨_, rfl, (by show 1 ≤ 1000; decide), fun a ha => ⟨a, p, rfl, upd_same, wrong_small e hw, fun d hd1 hd2 => ⟨rfl, d, [("part", .str p)], upd_same, ?_, ?_, ?_⟩⟩⟩
      · rw [upd_ne hd2, upd_same]
      · rw [upd_ne hd2] at hd1
        exact hd1
      · rw [upd_ne hd2] at hd1
        refine kBad p hw _ d (fun b o q => ?_) upd_same
        have q1 := s1 b o q
        have nb : b ≠ d := ne_of_none q1 hd1
        have na : b ≠ a := ne_of_none q1 ha
        rw [upd_ne nb, del_ne na, upd_ne na, upd_ne nb, upd_ne na]
        exact q1
    | none =>
      refine ⟨_, rfl, false, rfl, ?_⟩
      refine iteF ?_
      refine ⟨_, rfl, _, rfl, _, rfl, _, rfl, _, rfl, _, rfl, (by show 6 ≤ sizeLine; decide), fun p hp => ?_⟩
      have nx : x ≠ p := ne_of_none (s1 _ _ hx) hp
      refine ⟨_, rfl, x, C, dx, [], rfl, (by rw [upd_ne nx]; exact s1 _ _ hx), T.cl, T.nP, (by show 0 < 1000; decide), ?_⟩
      have sb : SameBut x H (upd (upd H1 p (.tup [.str e.name, e.version, .ref as, .ref an, .ref af, .ref ag])) x (.ins C dx (putF "parts" (.ref p) []))) := fun b o hb q => by
        rw [upd_ne hb, upd_ne (ne_of_none (s1 _ _ q) hp)]
        exact s1 _ _ q
      refine kOk hw _ sb ⟨⟨dx, p, upd_same, by rw [upd_ne (Ne.symm nx), upd_same]⟩, ?_⟩
      have hE1 : EdAt K (upd H1 p (.tup [.str e.name, e.version, .ref as, .ref an, .ref af, .ref ag])) e as an af ag := hE.same (s1.trans (Same.upd_new hp))
      have tr : ∀ {a xs}, SqT K (upd H1 p (.tup [.str e.name, e.version, .ref as, .ref an, .ref af, .ref ag])) a xs → SqT K (upd (upd H1 p (.tup [.str e.name, e.version, .ref as, .ref an, .ref af, .ref ag])) x (.ins C dx (putF "parts" (.ref p) []))) a xs := fun {a xs} h => by
        have hxx : (upd H1 p (.tup [.str e.name, e.version, .ref as, .ref an, .ref af, .ref ag])) x = some (.ins C dx []) := by rw [upd_ne nx]; exact s1 _ _ hx
        rcases h with (h | ⟨o, h⟩) | h
        · exact .inl (.inl (by rw [upd_ne (ne_of h hxx (by intro z; cases z))]; exact h))
        · exact .inl (.inr ⟨o, by rw [upd_ne (ne_of h hxx (by intro z; cases z))]; exact h⟩)
        · exact .inr h
      have trN : ∀ {a ps}, NeedsAt K (upd H1 p (.tup [.str e.name, e.version, .ref as, .ref an, .ref af, .ref ag])) a ps → NeedsAt K (upd (upd H1 p (.tup [.str e.name, e.version, .ref as, .ref an, .ref af, .ref ag])) x (.ins C dx (putF "parts" (.ref p) []))) a ps := fun {a ps} h => by
        obtain ⟨ts, h1, h2, h3⟩ := h
        exact ⟨ts, tr h1, h2, fun i t p q r => tr (h3 i t p q r)⟩
      exact ⟨tr hE1.scripts, trN hE1.needs, trN hE1.first, tr hE1.against⟩
end
end Half

namespace Half
open PySem PySem.Spec PyProof.Rows L2
/-! ### the six properties -/
def spGet (C : Addr) (i : Nat) : Sp := fun vs H Q _ => ∃ (a dx p : Addr) (xs : List V) (v : V), vs = [.ref a] ∧ H a = some (.ins C dx [("parts", .ref p)]) ∧ H p = some (.tup xs) ∧ xs[i]? = some v ∧ Q v H
section
variable {P : Program} {w : World} {K : PySem.W.Frag} {mg : Str → Option Value} {base : Heap} {C : Addr}
theorem scGet {i : Nat} (h : i < 6) : FnScope ["self"] ["self"] (defScope (sGet i)) := by
  match i, h with
  | 0, _ => exact ⟨rfl, rfl, rfl, by decide +kernel, rfl, by decide +kernel, by decide +kernel⟩
  | 1, _ => exact ⟨rfl, rfl, rfl, by decide +kernel, rfl, by decide +kernel, by decide +kernel⟩
  | 2, _ => exact ⟨rfl, rfl, rfl, by decide +kernel, rfl, by decide +kernel, by decide +kernel⟩
  | 3, _ => exact ⟨rfl, rfl, rfl, by decide +kernel, rfl, by decide +kernel, by decide +kernel⟩
  | 4, _ => exact ⟨rfl, rfl, rfl, by decide +kernel, rfl, by decide +kernel, by decide +kernel⟩
  | 5, _ => exact ⟨rfl, rfl, rfl, by decide +kernel, rfl, by decide +kernel, by decide +kernel⟩
theorem getBody {i : Nat} (h : i < 6) : ∃ p1 p2 p3 p4 p5 : Pos, ∃ j, defBody (sGet i) = [.Return (some (.Subscript (.Attribute (.Name "self" p1) "parts" p2) (.Constant (.int i) j p3) p4)) p5] := by
  match i, h with
  | 0, _ => exact ⟨_, _, _, _, _, _, rfl⟩
  | 1, _ => exact ⟨_, _, _, _, _, _, rfl⟩
  | 2, _ => exact ⟨_, _, _, _, _, _, rfl⟩
  | 3, _ => exact ⟨_, _, _, _, _, _, rfl⟩
  | 4, _ => exact ⟨_, _, _, _, _, _, rfl⟩
  | 5, _ => exact ⟨_, _, _, _, _, _, rfl⟩
theorem ok_get {f : Addr} {fd : FuncData} {x qual : Str} {i : Nat} (hi : i < 6) (F : Fun K x qual (sGet i) f fd) (cl : Cls K C) (nP : NoAttr K C "parts") : FnOk P w K mg base CX0 1 f fd ["self"] (spGet C i) := by
  refine F.ok (scGet hi) (fun vs H Q E h => ?_) (fun cdv A outer s H vs Q E hr h => ?_)
  · obtain ⟨a, dx, p, xs, v, rfl, _⟩ := h
    rfl
  · obtain ⟨a, dx, p, xs, v, rfl, ha, hp, hv, k⟩ := h
    obtain ⟨p1, p2, p3, p4, p5, j, hb⟩ := getBody hi
    rw [hb]
    have hvis : Vis (defScope (sGet i)) "self" := ((scGet hi).par "self" (List.Mem.head _)).elim (fun z => .inl z) (fun z => .inr (.inl z))
    refine ⟨_, pss_one (ps_ret (pe_ix ix_tup (pe_fld (pe_var (i := 0) rfl hvis) rfl) pe_int (fun _ _ => rfl))), ?_⟩
    exact ⟨_, rfl, a, C, dx, _, _, rfl, ha, cl, nP, rfl, p, xs, _, v, rfl, rfl, .inl (.inl hp), atI_nat hv, k⟩
/-! ### == -/
def pairD (p : Str × Int) : PyData := .tuple [.str p.1, .int p.2]
def verD : V → PyData
  | .int n => .int n
  | .bl b => .bool b
  | _ => .none
def Ed.data (e : Ed) : PyData := .tuple [.str e.name, verD e.version, .tuple (e.scripts.map PyData.str), .tuple (e.needs.map pairD), .tuple (e.first.map pairD), .tuple (e.against.map PyData.str)]
theorem dpStrs {H : Hp} : ∀ l : List Str, DpAll K H (l.map V.str) (l.map PyData.str)
  | [] => .nil
  | x :: l => .cons (.str x) (dpStrs l)
theorem dpPairs {H : Hp} : ∀ (ts : List Addr) (ps : List (Str × Int)), ts.length = ps.length → (∀ (i : Nat) t p, ts[i]? = some t → ps[i]? = some p → SqT K H t [.str p.1, .int p.2]) → DpAll K H (ts.map V.ref) (ps.map pairD)
  | [], [], _, _ => .nil
  | t :: ts, p :: ps, hl, h => .cons (.tup (h 0 t p rfl rfl) (.cons (.str _) (.cons (.int _) .nil))) (dpPairs ts ps (by simpa using hl) fun i t' p' h1 h2 => h (i + 1) t' p' (by simpa using h1) (by simpa using h2))
  | [], _ :: _, hl, _ => by simp at hl
  | _ :: _, [], hl, _ => by simp at hl
theorem NeedsAt.dp {H : Hp} {a : Addr} {ps : List (Str × Int)} (h : NeedsAt K H a ps) : Dp K H (.ref a) (.tuple (ps.map pairD)) := by
  obtain ⟨ts, h1, h2, h3⟩ := h
  exact .tup h1 (dpPairs ts ps h2 h3)
theorem verDp {H : Hp} {v : V} (h : (∃ n, v = .int n) ∨ ∃ b, v = .bl b) : Dp K H v (verD v) := by
  rcases h with ⟨n, rfl⟩ | ⟨b, rfl⟩
  · exact .int n
  · exact .bl b
theorem EdObj.dp {H : Hp} {p s n f g : Addr} {e : Ed} (hp : H p = some (.tup [.str e.name, e.version, .ref s, .ref n, .ref f, .ref g])) (hE : EdAt K H e s n f g) (hv : (∃ n, e.version = .int n) ∨ ∃ b, e.version = .bl b) : Dp K H (.ref p) e.data :=
  .tup (.inl (.inl hp)) (.cons (.str _) (.cons (verDp hv) (.cons (.tup hE.scripts (dpStrs _)) (.cons hE.needs.dp (.cons hE.first.dp (.cons (.tup hE.against (dpStrs _)) .nil))))))
/-- an edition's promise of ==: what the data say -/
def EdIs (K : PySem.W.Frag) (H : Hp) (C a : Addr) (e : Ed) : Prop := (∃ s n f g, EdObj K H C a e s n f g) ∧ ((∃ n, e.version = .int n) ∨ ∃ b, e.version = .bl b) ∧ SeqAt.shaped e.data = true
theorem EdIs.same {H H' : Hp} {a : Addr} {e : Ed} (S : Same H H') (h : EdIs K H C a e) : EdIs K H' C a e := by
  obtain ⟨⟨s, n, f, g, h1⟩, h2⟩ := h
  exact ⟨⟨s, n, f, g, h1.same S⟩, h2⟩
def spEq (K : PySem.W.Frag) (C : Addr) : Sp := fun vs H Q _ => ∃ (a b : Addr) (e e' : Ed), vs = [.ref a, .ref b] ∧ EdIs K H C a e ∧ EdIs K H C b e' ∧ Q (.bl (PyData.eqv e.data e'.data)) H
structure TxtI (K : PySem.W.Frag) (mg : Str → Option Value) (C : Addr) : Prop where
  cl : Cls K C
  nP : NoAttr K C "parts"
  mgC : mg "Edition" = some (.ref C)
  isi : mg "isinstance" = none
  ha : PySem.W.findIn K (.ref C) "__class__" = some (some (.builtin "object.__class__"))
  hn : PySem.W.specialIn K (.builtin "object.__class__") "__get__" = some (some (.builtin "getset_descriptor.__get__"))
  ht : PySem.W.takesIn K (.builtin "object.__class__") = some true
  hm : PySem.W.mroIn K C (.type "object") = some true
  ki : PySem.W.kitOne K (.ref C) (.ref C) = some true
theorem scEq : FnScope ["self", "other"] ["self", "other"] (defScope sEq) := ⟨rfl, rfl, rfl, by decide +kernel, rfl, by decide +kernel, by decide +kernel⟩
theorem ok_eq {f : Addr} {fd : FuncData} (F : Fun K "__eq__" "Edition.__eq__" sEq f fd) (T : TxtI K mg C) : FnOk P w K mg base CX0 1 f fd ["self", "other"] (spEq K C) := by
  refine F.ok scEq (fun vs H Q E h => ?_) (fun cdv A outer s H vs Q E hr h => ?_)
  · obtain ⟨a, b, e, e', rfl, _⟩ := h
    rfl
  · obtain ⟨a, b, e, e', rfl, ⟨⟨s1, n1, f1, g1, ⟨dx, p, ha, hp⟩, hE⟩, hv, hs⟩, ⟨⟨s2, n2, f2, g2, ⟨dy, q, hb, hq⟩, hE'⟩, hv', hs'⟩, k⟩ := h
    refine ⟨_, pss_one (ps_ret (pe_and (pe_callB call_isi (by rfl) T.isi (by decide +kernel) (pa_cons (pv 1) (pa_cons (pe_glob (v := .ref C) rfl T.mgC rfl) pa_nil)))
      (pe_one (pe_cmpR (op_eqD hr.units) (pe_fld (pv 0) rfl) (pe_fld (pv 1) rfl) (nomark _))))), ?_⟩
    refine ⟨_, rfl, _, _, _, _, _, rfl, .own C, .base (.ins hb T.cl T.ha T.hn T.ht T.hm), T.ki, _, rfl, ?_⟩
    refine iteT ?_
    refine ⟨_, rfl, a, C, dx, _, _, rfl, ha, T.cl, T.nP, rfl, _, rfl, b, C, dy, _, _, rfl, hb, T.cl, T.nP, rfl, _, _, EdObj.dp hp hE hv, EdObj.dp hq hE' hv', hs, hs', k⟩
end
end Half

/-! sets whose items are tuples of ints and texts: s.add(t), t in s -/
namespace L2
open PySem PySem.Spec PyProof.Rows
abbrev kh (P : Program) (w : World) (k : List Key) : Int := tupleKeyHash (mixKind P w) k
abbrev TupK (P : Program) (w : World) (h : Heap) (k : List Key) (a : Addr) : Prop := IsTupleKey (mixKind P w) h k a
section
variable {P : Program} {w : World} {A : Around} {E : Value → Shared → Prop} {s : Shared}
def flatKey (v : Value) : Prop := (∃ i t, v = Value.int i t) ∨ ∃ x t, v = Value.str x t
theorem items_flat {k : List Key} {vs : List Value} (h : ItemsAre (mixKind P w) k vs) : ∀ v ∈ vs, flatKey v := by
  induction h with
  | nil => exact fun v hv => nomatch hv
  | @cons c u ks us one _ more =>
    intro v hv
    rcases List.mem_cons.mp hv with rfl | hv
    · rcases keyIs_shape (k := c) (v := v) one with ⟨i, t, _, e⟩ | ⟨x, t, _, e⟩
      · exact .inl ⟨i, t, e⟩
      · exact .inr ⟨x, t, e⟩
    · exact more v hv
theorem cls_flat {n : Nat} {v : Value} (h : flatKey v) : ofAClassStatement n v = pure false := by
  rcases h with ⟨i, t, rfl⟩ | ⟨x, t, rfl⟩ <;> cases n <;> rfl
theorem val_flat {n : Nat} {v : Value} (h : flatKey v) : ∃ b, hashByValue n v = pure b := by
  rcases h with ⟨i, t, rfl⟩ | ⟨x, t, rfl⟩
  · exact ⟨true, by cases n <;> rfl⟩
  · exact ⟨false, by cases n <;> rfl⟩
theorem cls_tup {k : List Key} {b : Addr} {Q : Bool → Shared → Prop} (T : TupK P w s.heap k b) (q : Q false s) : wpAny (model P w) A (ofAClassStatement 8 (.ref b)) Q E s := by
  have ty := T.typeIs
  obtain ⟨o, its, n, go, _, gd, gi⟩ := T
  unfold ofAClassStatement
  refine wpAny_bind (wpAny_typeOf ty ?_)
  dsimp only
  simp only [show (("tuple" : String) == "tuple") = true by decide, if_true, Bool.not_true, Bool.false_eq_true, if_false]
  first
    | refine wpAny_bind (wpAny_pure ?_)
    | skip
  try simp only [Bool.not_true, Bool.false_eq_true, if_false]
  show wpAny _ _ (seqItems? (.ref b) >>= _) _ _ s
  refine wpAny_bind (wpAny_seqItems go gd ?_)
  dsimp only
  refine wpAny_bind ?_
  show wpAny _ _ (forIn its _ _) _ _ s
  rw [← Array.forIn_toList]
  refine wpAny_forIn_list _ (fun rest r s' => r.1 = none ∧ s' = s ∧ ∀ v ∈ rest, flatKey v) _ ?_ ?_ _ _ ⟨rfl, rfl, items_flat gi⟩
  · rintro v rest r z ⟨hr, rfl, hall⟩
    rw [cls_flat (hall v List.mem_cons_self)]
    refine wpAny_bind (wpAny_pure ?_)
    simp only [Bool.false_eq_true, if_false]
    exact wpAny_pure ⟨rfl, rfl, fun u hu' => hall u (.tail _ hu')⟩
  · rintro ⟨r1, r2⟩ z ⟨hr, rfl, _⟩
    simp only at hr
    subst hr
    exact wpAny_pure q
theorem val_tup {k : List Key} {b : Addr} {Q : Bool → Shared → Prop} (T : TupK P w s.heap k b) (q : ∀ c, Q c s) : wpAny (model P w) A (hashByValue 8 (.ref b)) Q E s := by
  have ty := T.typeIs
  obtain ⟨o, its, n, go, _, gd, gi⟩ := T
  unfold hashByValue
  refine wpAny_bind (wpAny_specialOf ty F.slot_tuple_hash.lookup ?_)
  show wpAny _ _ (seqItems? (.ref b) >>= _) _ _ s
  refine wpAny_bind (wpAny_seqItems go gd ?_)
  refine wpAny_bind ?_
  show wpAny _ _ (forIn its _ _) _ _ s
  rw [← Array.forIn_toList]
  refine wpAny_forIn_list _ (fun rest r s' => (∀ c, r.1 = some c → c = false) ∧ s' = s ∧ ∀ v ∈ rest, flatKey v) _ ?_ ?_ _ _ ⟨(fun c h => nomatch h), rfl, items_flat gi⟩
  · rintro v rest r z ⟨hr, rfl, hall⟩
    obtain ⟨c, e⟩ := val_flat (n := 7) (hall v List.mem_cons_self)
    rw [e]
    refine wpAny_bind (wpAny_pure ?_)
    cases c
    · simp only [Bool.not_false, if_true]
      exact wpAny_pure (wpAny_pure (q false))
    · simp only [Bool.not_true, Bool.false_eq_true, if_false]
      exact wpAny_pure ⟨(fun c h => nomatch h), rfl, fun u hu' => hall u (.tail _ hu')⟩
  · rintro ⟨r1, r2⟩ z ⟨hr, rfl, _⟩
    cases r1 with
    | none => exact wpAny_pure (q true)
    | some c => exact wpAny_pure (q c)
theorem unseen {k : List Key} {b : Addr} {Q : Bool → Shared → Prop} (T : TupK P w s.heap k b) {ys : List Value} (hy : ∀ y ∈ ys, ∃ k' c, y = Value.ref c ∧ TupK P w s.heap k' c) (q : Q false s) :
    wpAny (model P w) A (searchCouldBeSeen (.ref b) ys) Q E s := by
  unfold searchCouldBeSeen
  refine wpAny_bind ?_
  refine wpAny_forIn_list _ (fun rest r s' => r.1 = none ∧ s' = s ∧ ∀ y ∈ rest, ∃ k' c, y = Value.ref c ∧ TupK P w s.heap k' c) _ ?_ ?_ _ _ ⟨rfl, rfl, hy⟩
  · rintro v rest r z ⟨hr, rfl, hall⟩
    obtain ⟨k', c, rfl, hc⟩ := hall v List.mem_cons_self
    have more : ∀ y ∈ rest, ∃ k' c, y = Value.ref c ∧ TupK P w z.heap k' c := fun u m => hall u (.tail _ m)
    dsimp only
    by_cases hv : (b == c || (carriedByValue (.ref b) && carriedByValue (.ref c))) = true
    · exact wp_if_pos hv (wpAny_pure ⟨rfl, rfl, more⟩)
    · refine wp_if_neg hv (wpAny_bind (wpAny_eqIsQuiet_tuple T ?_))
      simp only [Bool.not_true, Bool.false_eq_true, if_false]
      refine wpAny_bind (wpAny_eqIsQuiet_tuple hc ?_)
      simp only [Bool.not_true, Bool.false_eq_true, if_false]
      refine wpAny_bind (cls_tup T ?_)
      simp only [Bool.false_eq_true, if_false]
      refine wpAny_bind (cls_tup hc ?_)
      simp only [Bool.false_eq_true, if_false]
      exact wpAny_pure ⟨rfl, rfl, more⟩
  · rintro ⟨r1, r2⟩ z ⟨hr, rfl, _⟩
    simp only at hr
    subst hr
    exact wpAny_pure q
/-! the table of such a set -/
def ents (P : Program) (w : World) (L : List (Addr × List Key)) : List (Int × Value) := L.map fun p => (kh P w p.2, Value.ref p.1)
structure SetTK (P : Program) (w : World) (h : Heap) (a : Addr) (L : List (Addr × List Key)) (es : Array (Int × Value)) (ep : Nat) (t : SetTable) : Prop where
  ob : ∃ o, h.get? a = some o ∧ o.ExactSet ∧ o.data = .set es ep t
  row : es.toList = ents P w L
  tab : TabOk t (L.map fun p => kh P w p.2)
  one : (L.map (·.2)).Nodup
  room : L.length * 5 < t.mask * 3
  few : L.length < 64
variable {a : Addr} {L : List (Addr × List Key)} {es : Array (Int × Value)} {ep : Nat} {t : SetTable} {h : Heap}
theorem ents_len (e : es.toList = ents P w L) : es.size = L.length := by
  have z := congrArg List.length e
  unfold ents at z
  rwa [Array.length_toList, List.length_map] at z
theorem fit_of (n : es.size = L.length) (z : t.place.size = L.length) (d : t.dummies = #[]) (r : L.length ≤ t.mask) : t.fits es.size = true := by
  unfold SetTable.fits SetTable.fill
  rw [d, Bool.and_eq_true, beq_iff_eq, decide_eq_true_eq]
  exact ⟨z.trans n.symm, by show t.place.size + 0 ≤ t.mask; omega⟩
theorem SetTK.psz (R : SetTK P w h a L es ep t) : t.place.size = L.length := by
  have z := R.tab.sz
  rwa [List.length_map] at z
theorem SetTK.fit (R : SetTK P w h a L es ep t) : t.fits es.size = true := fit_of (ents_len R.row) R.psz R.tab.dm (by have := R.room; omega)
theorem SetTK.at (R : SetTK P w h a L es ep t) {i : Nat} {p : Addr × List Key} (m : L[i]? = some p) : es[i]? = some (kh P w p.2, Value.ref p.1) := by
  rw [← Array.getElem?_toList, R.row]
  unfold ents
  rw [List.getElem?_map, m] <;> rfl
theorem SetTK.odd (R : SetTK P w h a L es ep t) : ¬ t.gaveWay = true := by
  unfold SetTable.gaveWay
  rw [mask_odd R.tab.mok] <;> decide
/-- the c-th probe of the key -/
abbrev prb (P : Program) (w : World) (t : SetTable) (k : List Key) (c : Nat) : SetTable.Probe := nth t.mask (runAt t.mask (SetTable.bits (kh P w k) % (t.mask + 1)) (SetTable.bits (kh P w k))) c
theorem nth_dummy (m : Nat) : ∀ (n : Nat) (p : SetTable.Probe), p.dummy = none → (nth m p n).dummy = none
  | 0, _, e => e
  | n + 1, p, e => nth_dummy m n (adv m p) (by unfold adv; split <;> exact e)
/-- a search for a key, in a table that has its first free place at the K-th step -/
theorem look_from {ad : Bool} (R : SetTK P w s.heap a L es ep t) (TT : ∀ p ∈ L, TupK P w s.heap p.2 p.1) {x : Addr} {k : List Key} (hx : TupK P w s.heap k x) (hu : A.units < cLine) {K : Nat} (hKf : K < 10 * SetTable.turns t.mask)
    (free : way t.mask (kh P w k) K ∉ t.place.toList) (busy : ∀ c, c < K → way t.mask (kh P w k) c ∈ t.place.toList) {Q : SetFound → Shared → Prop}
    (yes : ∀ r, (ad = false → r.isSome = true) → k ∈ L.map (·.2) → Q (.there r) s) (no : k ∉ L.map (·.2) → Q (.free (way t.mask (kh P w k) K) false) s) :
    ∀ (f c : Nat) (stand : Option SetTable.Probe), stand.getD (t.probeStart (kh P w k)) = prb P w t k c → c ≤ K → K - c < f →
      (∀ (i : Nat) p, L[i]? = some p → p.2 = k → ∃ c', c ≤ c' ∧ c' < K ∧ t.place.toList[i]? = some (way t.mask (kh P w k) c')) →
      wpAny (model P w) A (setSearchFrom a (.ref x) (kh P w k) ad f stand) Q E s
  | 0, c, stand, _, _, hf, _ => absurd hf (Nat.not_lt_zero _)
  | f + 1, c, stand, hst, hc, hf, hre => by
    obtain ⟨o, go, gx, gd⟩ := R.ob
    rw [setSearchFrom_succ]
    refine wpAny_bind (wpAny_setState_of go gd R.fit ?_)
    dsimp only
    refine wp_if_neg R.odd ?_
    first
      | refine wpAny_bind (wpAny_pure ?_)
      | skip
    have nod : (prb P w t k c).dummy = none := nth_dummy t.mask c _ rfl
    have sh : ∀ q, nth t.mask (prb P w t k c) q = prb P w t k (c + q) := fun q => (nth_add t.mask c _ q).symm
    have e1 : ∀ q, (nth t.mask (prb P w t k c) q).j = way t.mask (kh P w k) (c + q) := fun q => congrArg SetTable.Probe.j (sh q)
    have spec := go_spec t R.tab.ris R.tab.dm (fun i => (es[i]?.map (·.1)).getD 0) (kh P w k) (10 * SetTable.turns t.mask) (K - c) _ nod (by omega)
      (fun q hq => by rw [e1]; exact busy (c + q) (by omega)) (by rw [e1, show c + (K - c) = K by omega]; exact free)
    have hsh : ∀ (i : Nat) p, L[i]? = some p → (fun i => (es[i]?.map (·.1)).getD 0) i = kh P w p.2 := fun i p hp => by
      show (es[i]?.map (·.1)).getD 0 = _
      rw [R.at hp] <;> rfl
    rcases spec with ⟨q, i, hq, hi, hh, hno, hpr⟩ | ⟨hno, hpr⟩
    · have met : t.probe (fun i => (es[i]?.map (·.1)).getD 0) (kh P w k) (stand.getD (t.probeStart (kh P w k))) = some (.candidate (way t.mask (kh P w k) (c + q)) i (prb P w t k (c + (q + 1)))) := by
        rw [hst, ← e1, ← sh]
        exact hpr
      rw [met]
      dsimp only
      rw [e1] at hi
      have hil : i < L.length := by
        have h1 := (List.getElem?_eq_some_iff.mp hi).1
        rw [Array.length_toList, R.psz] at h1
        exact h1
      have hp : L[i]? = some L[i] := List.getElem?_eq_getElem hil
      generalize L[i] = p at hp
      have hm : p ∈ L := List.mem_of_getElem? hp
      have live : t.slot (way t.mask (kh P w k) (c + q)) = .live i := slot_live R.tab.ris hi
      have rest : wpAny (model P w) A (searchRest a (.ref x) (kh P w k) ad f es t (way t.mask (kh P w k) (c + q)) i (prb P w t k (c + (q + 1)))) Q E s := by
        unfold searchRest
        rw [R.at hp]
        dsimp only
        refine wpAny_bind (wpAny_holding (wpAny_eqBool_tuple hu (TT p hm) hx ?_))
        refine wpAny_bind (wpAny_setState_of go gd R.fit ?_)
        dsimp only
        by_cases both : (ad && decide (p.2 = k)) = true
        · refine wp_if_pos both (wpAny_pure (yes none (fun z => ?_) ?_))
          · rw [z] at both; exact nomatch both
          · exact List.mem_map.mpr ⟨p, hm, of_decide_eq_true (Bool.and_eq_true _ _ ▸ both).2⟩
        · refine wp_if_neg both ?_
          first
            | refine wpAny_bind (wpAny_pure ?_)
            | skip
          rw [sameMem]
          dsimp only
          simp only [if_true, live, R.at hp]
          refine wpAny_bind (wpAny_isSame_ref_self (wpAny_bind (wpAny_pure ?_)))
          simp only [if_true]
          by_cases same : p.2 = k
          · exact wp_if_pos (by simp [same]) (wpAny_pure (yes (some i) (fun _ => rfl) (List.mem_map.mpr ⟨p, hm, same⟩)))
          · refine wp_if_neg (by simp [same]) ?_
            refine look_from R TT hx hu hKf free busy yes no f (c + (q + 1)) _ rfl (by omega) (by omega) fun i0 p0 h0 hk0 => ?_
            obtain ⟨c', a1, a2, a3⟩ := hre i0 p0 h0 hk0
            refine ⟨c', ?_, a2, a3⟩
            rcases Nat.lt_trichotomy c' (c + q) with z | z | z
            · exact (hno (c' - c) i0 (by omega) (by rw [e1, show c + (c' - c) = c' by omega]; exact a3) ((hsh i0 p0 h0).trans (congrArg (kh P w) hk0))).elim
            · rw [z] at a3
              have s0 := live.symm.trans (slot_live R.tab.ris a3)
              injection s0 with s0
              rw [← s0, hp] at h0
              exact absurd ((congrArg Prod.snd (Option.some.inj h0)).trans hk0) same
            · omega
      by_cases hl : t.led = true
      · refine wp_if_neg (by simp [hl]) ?_
        first
          | exact rest
          | exact wpAny_bind (wpAny_pure rest)
      · refine wp_if_pos (by simp [hl]) (wpAny_bind (unseen hx (fun y hy => ?_) ?_))
        · obtain ⟨e, he, ee⟩ := List.mem_map.mp hy
          have he1 : e ∈ es ∧ e.1 = kh P w k := by simpa using he
          have he2 : e ∈ es.toList := by simpa using he1.1
          rw [R.row] at he2
          obtain ⟨p2, hp2, e2⟩ := List.mem_map.mp he2
          exact ⟨p2.2, p2.1, by rw [← ee, ← e2], TT p2 hp2⟩
        · refine wp_if_neg (by decide) ?_
          first
            | exact rest
            | exact wpAny_bind (wpAny_pure rest)
    · have met : t.probe (fun i => (es[i]?.map (·.1)).getD 0) (kh P w k) (stand.getD (t.probeStart (kh P w k))) = some (.empty (way t.mask (kh P w k) K) none) := by
        have e2 : way t.mask (kh P w k) K = (nth t.mask (prb P w t k c) (K - c)).j := by rw [e1, show c + (K - c) = K by omega]
        rw [hst, e2]
        exact hpr
      rw [met]
      dsimp only
      refine wpAny_pure (no fun hm => ?_)
      obtain ⟨p0, h0, hk0⟩ := List.mem_map.mp hm
      obtain ⟨i0, hi0, e0⟩ := List.getElem_of_mem h0
      have h00 : L[i0]? = some p0 := by rw [List.getElem?_eq_getElem hi0, e0]
      obtain ⟨c', a1, a2, a3⟩ := hre i0 p0 h00 hk0
      exact hno (c' - c) i0 (by omega) (by rw [e1, show c + (c' - c) = c' by omega]; exact a3) ((hsh i0 p0 h00).trans (congrArg (kh P w) hk0))
theorem look_at {ad : Bool} (R : SetTK P w s.heap a L es ep t) (TT : ∀ p ∈ L, TupK P w s.heap p.2 p.1) {x : Addr} {k : List Key} (hx : TupK P w s.heap k x) (hu : A.units < cLine) {Q : SetFound → Shared → Prop}
    (yes : ∀ r, (ad = false → r.isSome = true) → k ∈ L.map (·.2) → Q (.there r) s)
    (no : ∀ K, k ∉ L.map (·.2) → way t.mask (kh P w k) K ∉ t.place.toList → (∀ c, c < K → way t.mask (kh P w k) c ∈ t.place.toList) → Q (.free (way t.mask (kh P w k) K) false) s) :
    wpAny (model P w) A (setSearch a (.ref x) (kh P w k) ad) Q E s := by
  have hroom := R.room
  obtain ⟨K, hKf, free, busy⟩ := R.tab.first (by rw [List.length_map]; omega) (kh P w k)
  have small : 10 * SetTable.turns t.mask ≤ 1420 := by
    unfold SetTable.turns
    rcases R.tab.mok with e | e | e <;> omega
  unfold setSearch
  refine look_from R TT hx hu hKf free busy yes (fun hn => no K hn free busy) 100000 0 none rfl (Nat.zero_le _) (by omega) fun i p hp hk => ?_
  have hil : i < t.place.toList.length := by
    rw [Array.length_toList, R.psz]
    exact (List.getElem?_eq_some_iff.mp hp).1
  have hj := List.getElem?_eq_getElem hil
  obtain ⟨c, hc, e⟩ := R.tab.before free (by rw [List.getElem?_map, hp, ← hk] <;> rfl) hj
  exact ⟨c, Nat.zero_le _, hc, by rw [hj, e]⟩
/-! adding -/
theorem tup_same {h h' : Heap} {k : List Key} {a b : Addr} {o : Obj} {es : Array (Int × Value)} {ep : Nat} {t : SetTable} (T : TupK P w h k b) (ho : h.get? a = some o) (hd : o.data = .set es ep t) (sb : Heap.SameBut a h h') : TupK P w h' k b := by
  obtain ⟨z, its, n, go, gc, gd, gi⟩ := T
  have ne : b ≠ a := by
    rintro rfl
    obtain rfl : z = o := Option.some.inj (go.symm.trans ho)
    rw [hd] at gd
    exact nomatch gd
  exact ⟨z, its, n, (sb.2 b ne).trans go, gc, gd, gi⟩
theorem ents_put (L : List (Addr × List Key)) (p : Nat) (x : Addr) (k : List Key) : ents P w (L.take p ++ (x, k) :: L.drop p) = (ents P w L).take p ++ (kh P w k, Value.ref x) :: (ents P w L).drop p := by
  unfold ents
  rw [List.map_append, List.map_cons, List.map_take, List.map_drop]
theorem pick_all {α : Type} (L : List α) : (List.range L.length).filterMap (fun i => L[i]?) = L := by
  have key : ∀ n, n ≤ L.length → (List.range n).filterMap (fun i => L[i]?) = L.take n := by
    intro n
    induction n with
    | zero => exact fun _ => rfl
    | succ n more =>
      intro hn
      rw [List.range_succ, List.filterMap_append, more (Nat.le_of_succ_le hn), List.take_succ, List.getElem?_eq_getElem hn, List.filterMap_cons_some (List.getElem?_eq_getElem hn)] <;> rfl
  rw [key _ (Nat.le_refl _), List.take_length]
theorem ents_order (L : List (Addr × List Key)) (es : Array (Int × Value)) (order : Array Nat) (hr : es.toList = ents P w L) (hp : order.toList.Perm (List.range L.length)) :
    ∃ L2, (order.filterMap (es[·]?)).toList = ents P w L2 ∧ L2.Perm L ∧ (L2.map fun p => kh P w p.2) = order.toList.map fun i => (es.map (·.1)).getD i 0 := by
  have sz := ents_len hr
  have ent : ∀ i (h : i < L.length), es[i]? = some (kh P w (L[i]).2, Value.ref (L[i]).1) := fun i h => by
    rw [← Array.getElem?_toList, hr]
    unfold ents
    rw [List.getElem?_map, List.getElem?_eq_getElem h] <;> rfl
  have key : ∀ l : List Nat, (∀ i ∈ l, i < L.length) → l.filterMap (fun i => es[i]?) = ents P w (l.filterMap (fun i => L[i]?)) ∧ ((l.filterMap (fun i => L[i]?)).map fun p => kh P w p.2) = l.map fun i => (es.map (·.1)).getD i 0 := by
    intro l
    induction l with
    | nil => exact fun _ => ⟨rfl, rfl⟩
    | cons i l more =>
      intro hl
      have hi := hl i List.mem_cons_self
      obtain ⟨e1, e2⟩ := more fun j hj => hl j (.tail _ hj)
      have e4 : (es.map (·.1)).getD i 0 = kh P w (L[i]).2 := by
        have e5 : (es.map (·.1))[i]? = some (kh P w (L[i]).2) := by rw [Array.getElem?_map, ent i hi] <;> rfl
        simp [Array.getD_eq_getD_getElem?, e5]
      rw [List.filterMap_cons_some (List.getElem?_eq_getElem hi), List.filterMap_cons_some (ent i hi), e1, List.map_cons, List.map_cons, e2, e4]
      exact ⟨rfl, rfl⟩
  obtain ⟨e1, e2⟩ := key order.toList fun i hi => List.mem_range.mp (hp.mem_iff.mp hi)
  refine ⟨_, by first | (rw [Array.toList_filterMap]; exact e1) | simpa using e1, ?_, e2⟩
  have h1 := hp.filterMap (fun i => L[i]?)
  rwa [pick_all] at h1
theorem relay_key {o : Obj} (ho : s.heap.get? a = some o) (hex : o.ExactSet) (hd : o.data = .set es ep t) (row : es.toList = ents P w L) (psz : t.place.size = L.length) (hdm : t.dummies = #[]) (hfl : L.length ≤ t.mask)
    (one : (L.map (·.2)).Nodup) (few : L.length < 64) {wanted M : Nat} (hw : SetTable.sizeAbove wanted - 1 = M) (hM : MaskOk M) (hw2 : SetTable.sizeAbove wanted ≤ 128) (hn : L.length * 5 < M * 3) {Q : Unit → Shared → Prop}
    (q : ∀ h' L' es' ep' t', Heap.SameBut a s.heap h' → SetTK P w h' a L' es' ep' t' → L'.Perm L → Q () { s with heap := h' }) : wpAny (model P w) A (setRelay a wanted) Q E s := by
  have sz := ents_len row
  obtain ⟨t', order, e, hp, T, em, el, _, ed⟩ := relaid_ok t (hs := es.map (·.1)) (wanted := wanted) hw hM (by rw [Array.size_map, sz]; omega)
  rw [Array.size_map, sz] at hp
  obtain ⟨L2, r1, r2, r3⟩ := ents_order L es order row hp
  rw [← r3] at T
  have hs2 : (order.filterMap (es[·]?)).size = es.size := by rw [ents_len r1, r2.length_eq, sz]
  rw [setRelay_eq]
  refine wpAny_bind (wpAny_setState_of ho hd (fit_of sz psz hdm hfl) ?_)
  dsimp only
  refine wp_if_neg (by rw [sizeLine_eq]; omega) ?_
  first
    | refine wpAny_bind (wpAny_pure ?_)
    | skip
  rw [e]
  dsimp only
  refine wpAny_bind (wp_if_neg (by rw [hs2]; simp) ?_)
  first
    | refine wpAny_bind (wpAny_pure (wpAny_pure ?_))
    | refine wpAny_pure ?_
  dsimp only
  refine wpAny_storeSet_of ho hd ?_ (by rw [hs2, sz, sizeLine_eq]; omega)
  refine q _ L2 (order.filterMap (es[·]?)) (ep + 1) t' (Heap.SameBut.update ..) ⟨⟨_, store_at ho hd, ⟨hex.1, hex.2.1, hex.2.2⟩, rfl⟩, r1, T, (r2.map (·.2)).nodup_iff.mpr one, ?_, by rw [r2.length_eq]; exact few⟩ r2
  rw [r2.length_eq, em]
  exact hn
theorem add_key (R : SetTK P w s.heap a L es ep t) (TT : ∀ p ∈ L, TupK P w s.heap p.2 p.1) {x : Addr} {k : List Key} (hx : TupK P w s.heap k x) (hu : A.units < cLine) (hfew : L.length + 1 < 64) {Q : Bool → Shared → Prop}
    (q : ∀ b h' L' es' ep' t', Heap.SameBut a s.heap h' → SetTK P w h' a L' es' ep' t' → (k ∈ L.map (·.2) → L' = L) → (k ∉ L.map (·.2) → L'.Perm ((x, k) :: L)) → Q b { s with heap := h' }) :
    wpAny (model P w) A (setAddHashed a (.ref x) (kh P w k)) Q E s := by
  obtain ⟨o, go, gx, gd⟩ := R.ob
  have sz := ents_len R.row
  have room := R.room
  unfold setAddHashed
  refine wpAny_holding ?_
  rw [show (100000 : Nat) = 99999 + 1 from rfl, setAddHashedIn_succ]
  refine wpAny_bind (wpAny_setState_of go gd R.fit ?_)
  dsimp only
  refine wp_if_neg (by simp [byScan, Value.scannable]) ?_
  first
    | refine wpAny_bind (wpAny_pure ?_)
    | skip
  refine wpAny_bind (look_at R TT hx hu (fun r _ hm => ?_) fun K hm free busy => ?_)
  · exact wpAny_pure (q false s.heap L es ep t (Heap.SameBut.refl a s.heap) R (fun _ => rfl) fun z => absurd hm z)
  · dsimp only
    refine wpAny_bind (wpAny_setState_of go gd R.fit ?_)
    dsimp only
    obtain ⟨q1, q2, q3, q4, q5, q6, q7, q8, q9⟩ := R.tab.put free busy
    generalize t.put (way t.mask (kh P w k) K) = pt at q1 q3 q4 q5 q6 q7 q8 q9 ⊢
    obtain ⟨t1, p⟩ := pt
    dsimp only at q1 q3 q4 q5 q6 q7 q8 q9 ⊢
    subst q1
    have ins : (SetTable.insertAt es (SetTable.below t.place (way t.mask (kh P w k) K)) (kh P w k, Value.ref x)).toList = ents P w (L.take (SetTable.below t.place (way t.mask (kh P w k) K)) ++ (x, k) :: L.drop (SetTable.below t.place (way t.mask (kh P w k) K))) := by
      rw [SetTable.toList_insertAt, ents_put, R.row]
    generalize SetTable.below t.place (way t.mask (kh P w k) K) = p at q2 q3 ins ⊢
    have pm := put_perm L p (x, k)
    have hhs : (L.take p ++ (x, k) :: L.drop p).map (fun p => kh P w p.2) = (L.map fun p => kh P w p.2).take p ++ kh P w k :: (L.map fun p => kh P w p.2).drop p := by
      rw [List.map_append, List.map_cons, List.map_take, List.map_drop]
    rw [← hhs] at q3
    generalize L.take p ++ (x, k) :: L.drop p = L1 at pm q3 ins hhs
    have len1 : L1.length = L.length + 1 := pm.length_eq
    have one1 : (L1.map (·.2)).Nodup := (pm.map (·.2)).nodup_iff.mpr (by rw [List.map_cons]; exact List.nodup_cons.mpr ⟨hm, R.one⟩)
    have hes := (ents_len ins).trans len1
    generalize SetTable.insertAt es p (kh P w k, Value.ref x) = es1 at ins hes ⊢
    have body : ∀ t2 : SetTable, t2 = t1 ∨ t2 = { t1 with plain := false } → wpAny (model P w) A (do
        storeSet a es1 t2
        if !false && t2.tooFull then setRelay a (SetTable.grown (es.size + 1))
        return true) Q E s := fun t2 ht2 => by
      have q32 : TabOk t2 (L1.map fun p => kh P w p.2) := by
        rcases ht2 with rfl | rfl
        · exact q3
        · exact ⟨q3.ris, q3.dm, q3.sz, q3.mok, q3.bd, q3.reach⟩
      have q42 : t2.mask = t.mask := by rcases ht2 with rfl | rfl <;> exact q4
      have full : t2.tooFull = t1.tooFull := by rcases ht2 with rfl | rfl <;> rfl
      refine wpAny_bind (wpAny_storeSet_of go gd ?_ (by rw [hes, sizeLine_eq]; omega))
      have sb : Heap.SameBut a s.heap (s.heap.update a (Obj.putSet es1 t2)) := Heap.SameBut.update ..
      have ho1 := store_at (es' := es1) (t' := t2) go gd
      generalize s.heap.update a (Obj.putSet es1 t2) = h1 at sb ho1 ⊢
      have psz2 : t2.place.size = L1.length := by
        have z := q32.sz
        rwa [List.length_map] at z
      have say : t1.tooFull = decide ((L.length + 1) * 5 ≥ t1.mask * 3) := by
        unfold SetTable.tooFull
        rw [q9, List.length_map]
      by_cases hf : t2.tooFull = true
      · first
          | (refine wpAny_bind ?_; refine wp_if_pos (by simp [hf]) ?_)
          | (refine wp_if_pos (by simp [hf]) ?_; refine wpAny_bind ?_)
        have big : (L.length + 1) * 5 ≥ t.mask * 3 := by
          rw [full, say, decide_eq_true_eq, q4] at hf
          exact hf
        rw [sz]
        have two : (t.mask = 7 ∧ L.length = 4) ∨ (t.mask = 31 ∧ L.length = 18) := by
          rcases R.tab.mok with e | e | e
          · exact .inl ⟨e, by rw [e] at big room; omega⟩
          · exact .inr ⟨e, by rw [e] at big room; omega⟩
          · rw [e] at big; omega
        have go2 : ∀ M, SetTable.sizeAbove (SetTable.grown (L.length + 1)) - 1 = M → MaskOk M → SetTable.sizeAbove (SetTable.grown (L.length + 1)) ≤ 128 → (L.length + 1) * 5 < M * 3 →
            wpAny (model P w) A (setRelay a (SetTable.grown (L.length + 1))) (fun _ s' => wpAny (model P w) A (pure true) Q E s') E { s with heap := h1 } := fun M b1 b2 b3 b4 =>
          relay_key (s := { s with heap := h1 }) ho1 ⟨gx.1, gx.2.1, gx.2.2⟩ rfl ins psz2 q32.dm (by rw [len1, q42]; rcases two with ⟨e, e2⟩ | ⟨e, e2⟩ <;> omega) one1 (by rw [len1]; exact hfew) b1 b2 b3 (by rw [len1]; exact b4)
            fun h2 L2 es2 ep2 t2 sb2 R2 pm2 => wpAny_pure (q true h2 L2 es2 ep2 t2 (sb.trans sb2) R2 (fun z => absurd z hm) fun _ => pm2.trans pm)
        rcases two with ⟨_, e2⟩ | ⟨_, e2⟩
        · exact go2 31 (by rw [e2, size_20]) (.inr (.inl rfl)) (by rw [e2, size_20]; decide) (by omega)
        · exact go2 127 (by rw [e2, size_76]) (.inr (.inr rfl)) (by rw [e2, size_76]; decide) (by omega)
      · first
          | refine wp_if_neg (by simp [hf]) ?_
          | (refine wpAny_bind ?_; refine wp_if_neg (by simp [hf]) ?_; refine wpAny_pure ?_)
        refine wpAny_pure (q true h1 L1 es1 (ep + 1) t2 sb ⟨⟨_, ho1, ⟨gx.1, gx.2.1, gx.2.2⟩, rfl⟩, ins, q32, one1, ?_, by rw [len1]; exact hfew⟩ (fun z => absurd z hm) fun _ => pm)
        rw [full, say, decide_eq_true_eq, q4] at hf
        rw [len1, q42]
        omega
    by_cases hp1 : t1.plain = true
    · first
        | (refine wpAny_bind ?_; refine wp_if_pos hp1 ?_; refine val_tup hx fun c => ?_)
        | refine wp_if_pos hp1 (wpAny_bind (val_tup hx fun c => ?_))
      cases c
      · exact body _ (.inr rfl)
      · exact body _ (.inl rfl)
    · first
        | (refine wpAny_bind ?_; refine wp_if_neg hp1 ?_; refine wpAny_pure ?_)
        | refine wp_if_neg hp1 (wpAny_bind (wpAny_pure ?_))
      exact body _ (.inl rfl)
end
end L2

namespace L2
open PySem PySem.Spec PyProof.Rows
/-- the set at a: tuples of ints and texts, each with its address -/
def TsO (P : Program) (w : World) (a : Addr) (L : List (Addr × List Key)) : HO := .ext fun h => ∃ es ep t, SetTK P w h a L es ep t
/-- its tuples stand where they stood -/
def TupsIn (H : Hp) (L : List (Addr × List Key)) : Prop := ∀ p ∈ L, H p.1 = some (.tup (p.2.map kV))
/-- the key is among them -/
def hasK (L : List (Addr × List Key)) (k : List Key) : Bool := L.any fun p => decide (p.2 = k)
theorem hasK_iff {L : List (Addr × List Key)} {k : List Key} : hasK L k = true ↔ k ∈ L.map (·.2) := by simp [hasK]
theorem hasK_no {L : List (Addr × List Key)} {k : List Key} (h : k ∉ L.map (·.2)) : hasK L k = false := by
  cases e : hasK L k
  · rfl
  · exact absurd (hasK_iff.mp e) h
section
variable {X : Cx} {P : Program} {w : World}
theorem setTK_move {h h' : Heap} {a : Addr} {L : List (Addr × List Key)} {es : Array (Int × Value)} {ep : Nat} {t : SetTable} (R : SetTK P w h a L es ep t) (k : ∀ o, h.get? a = some o → h'.get? a = some o) : SetTK P w h' a L es ep t := by
  obtain ⟨o, go, r⟩ := R.ob
  exact ⟨⟨o, k o go, r⟩, R.row, R.tab, R.one, R.room, R.few⟩
theorem tsO_new {H : Hp} {h : Heap} {a : Addr} {L : List (Addr × List Key)} {es : Array (Int × Value)} {ep : Nat} {t : SetTable} (R : SetTK P w h a L es ep t) : ObjOk P w H h a (TsO P w a L) := by
  have ⟨o, go, _⟩ := R.ob
  exact ⟨⟨es, ep, t, R⟩, ⟨o, go⟩, fun h1 h2 ⟨e1, p1, t1, p⟩ k => ⟨e1, p1, t1, setTK_move p k⟩⟩
theorem tsO_get {pins : List (Addr × Obj)} {σ : St} {H : Hp} {s : Shared} {a : Addr} {L : List (Addr × List Key)} (I : Inv X pins σ H s) (ha : H a = some (TsO X.prog X.w a L)) : ∃ es ep t, SetTK X.prog X.w s.heap a L es ep t := (I.hok a _ ha).1
theorem setTK_type {s : Shared} {a : Addr} {L : List (Addr × List Key)} {es : Array (Int × Value)} {ep : Nat} {t : SetTable} (R : SetTK P w s.heap a L es ep t) : s.TypeIs (.ref a) "set" := by
  obtain ⟨o, go, gx, _⟩ := R.ob
  exact ⟨o, go, gx.1⟩
/-- set(), that tuples will be put into -/
def rSet0T (P : Program) (w : World) : List V → Hp → VK → Prop := fun xs H Q => xs = [] ∧ ∀ p, H p = none → Q (.ref p) (upd H p (TsO P w p []))
theorem setTK_nil {h : Heap} {a : Addr} (ho : h.get? a = some { cls := .type "set", dict := none, data := .set #[] 0 (.fresh 0 0 (!w.params.followText "set-order")) }) : SetTK P w h a [] #[] 0 (.fresh 0 0 (!w.params.followText "set-order")) :=
  ⟨⟨_, ho, ⟨rfl, rfl, rfl⟩, rfl⟩, rfl, ⟨.nil, rfl, rfl, .inl rfl, (fun x hx => nomatch hx), fun i h j hi => by simp at hi⟩, .nil, by show 0 * 5 < 7 * 3; decide, by show 0 < 64; decide⟩
theorem cr_set0T : CallR X (.type "set") (rSet0T X.prog X.w) := by
  intro pins s σ H xs us Q I r h
  obtain ⟨rfl, q⟩ := h
  cases r
  refine setR_new fun _ => ?_
  refine ⟨.ref _, upd H s.heap.objs.size (TsO X.prog X.w s.heap.objs.size []), I.laid (t' := s.toks) (fun b u e => Heap.get?_push_of_some _ e) (Nat.le_refl _) (tsO_new (setTK_nil (Heap.get?_push_size _ rfl))), rfl, q _ (I.hok.fresh (Nat.le_refl _))⟩
theorem tupK_of {pins : List (Addr × Obj)} {σ : St} {H : Hp} {s : Shared} {b : Addr} {k : List Key} (I : Inv X pins σ H s) (e : H b = some (.tup (k.map kV))) : TupK X.prog X.w s.heap k b := key_of I.hok e
/-- s.add(t) -/
def rSAddT (P : Program) (w : World) : V → List V → Hp → VK → Prop := fun x xs H Q => ∃ (a b : Addr) (k : List Key) (L : List (Addr × List Key)), x = V.ref a ∧ xs = [.ref b] ∧ H b = some (.tup (k.map kV)) ∧ H a = some (TsO P w a L) ∧ TupsIn H L ∧ L.length + 1 < 64 ∧
  (k ∈ L.map (·.2) → Q .non (upd H a (TsO P w a L))) ∧ (k ∉ L.map (·.2) → ∀ L', L'.Perm ((b, k) :: L) → Q .non (upd H a (TsO P w a L')))
theorem mt_saddT (hu : X.A.units + 1 < cLine) : MtR X "set.add" (rSAddT X.prog X.w) := by
  intro pins s σ H x xs v us Q I rx rxs h
  obtain ⟨a, b, k, L, rfl, rfl, hb, ha, hL, room, q1, q2⟩ := h
  cases rx
  obtain ⟨u, rfl, ru⟩ := rxs.one
  cases ru
  obtain ⟨es, ep, t, R⟩ := tsO_get I ha
  have T := tupK_of I hb
  refine wpAny_call_entry F.slot_set_add (setTK_type R) F.entry_set_add ?_ (F.args_set_add_2 _ _)
  simp only [Builtin.«set.add», Builtin.Frozenset.oneOther, Builtin.Frozenset.addrOf, setAdd, List.isEmpty_nil, bind_assoc]
  refine wpAny_bind (wpAny_pure (wpAny_bind (wpAny_pure (wpAny_bind (wpAny_holding (wpAny_bind (wpAny_pyHash_tuple (A := X.A.in1) hu T ?_)))))))
  refine add_key (s := { s with toks := s.toks + (k.length + 1) }) R (fun p hp => tupK_of (s := s) I (hL p hp)) T (by exact hu) room fun c h' L' es' ep' t' sb R' y n => ?_
  show wpAny _ _ (ret Value.none) _ _ _
  refine wpAny_pure ⟨_, rfl, ?_⟩
  have he : ∃ u, h'.get? a = some u := by
    have ⟨o, go, _⟩ := R'.ob
    exact ⟨o, go⟩
  refine ⟨.non, upd H a (TsO X.prog X.w a L'), I.write (e := a) (t' := s.toks + (k.length + 1)) (by rw [ha]; trivial) (.inl rfl) (fun b u hb hu => (sb.2 b hb).trans hu) he (tsO_new R'), rfl, ?_⟩
  by_cases m : k ∈ L.map (·.2)
  · rw [y m]; exact q1 m
  · exact q2 m L' (n m)
def tSAddT (P : Program) (w : World) (to : TE) (t : TA) : TE := fun σ H Q => to σ H fun x H1 => (∃ a L, x = V.ref a ∧ H1 a = some (TsO P w a L)) ∧ t σ H1 fun xs H2 => rSAddT P w x xs H2 Q
theorem pe_saddT {o e : Expr} {es : List Expr} {to : TE} {t : TA} {apos cpos : Pos} (hu : X.A.units + 1 < cLine) (ho : PE X o to) (ha : PA X (e :: es) t)
    (h1 : attributeBase o "add" X.env (eval o X.env) = eval o X.env := by rfl)
    (h2 : ((backTo cpos (starEach (e :: es) X.env)).all (fun x => !x.1) && (backToKw cpos (keywordEach [] X.env)).all (fun x => x.1.isSome) && decide ((e :: es).length + ([] : List Keyword).length + (if ([] : List Keyword).isEmpty then 0 else 1) < 30)) = true := by rfl)
    (h3 : (apos.endLine == cpos.line) = true := by rfl) (h4 : starEach (e :: es) X.env = (false, eval e X.env) :: starEach es X.env := by rfl) (h5 : (backTo cpos (starEach es X.env)).any (·.1) = false := by rfl) :
    PE X (.Call (.Attribute o "add" apos) (e :: es) [] cpos) (tSAddT X.prog X.w to t) := by
  refine ⟨fun pins s σ H Q I h => ?_⟩
  refine wpAny_Call_method_late h1 h2 h3 rfl (thn (ho.run pins s σ H _ I h) fun v s1 ⟨x, H1, I1, r1, ty, q1⟩ => ?_)
  obtain ⟨a, L, rfl, hka⟩ := ty
  obtain ⟨ee, ep, tt, R⟩ := tsO_get I1 hka
  cases r1
  refine ⟨"set", "set.add", F.plainAttrs_set, F.slot_set_add, F.type_set_add, setTK_type R, (fun b e => ?_), ?_⟩
  · injection e with e
    subst e
    have ⟨o, go, gx, _⟩ := R.ob
    exact ⟨o, go, gx.2.1⟩
  have hA := ha.run cpos pins s1 σ H1 _ I1 q1
  rw [h4] at hA ⊢
  refine Calls.callWith_builtin (by show (false || (backTo cpos (starEach es X.env)).any (·.1)) = false; rw [h5] <;> rfl) (Calls.evalArgs_plain ?_)
  exact thn hA fun us s2 ⟨vs, H2, I2, r2, q2⟩ => mt_saddT hu pins s2 σ H2 (.ref a) vs (.ref a) us Q I2 rfl r2 q2
/-- t in s -/
def rSInT (P : Program) (w : World) : V → V → Hp → VK → Prop := fun x y H Q => ∃ (a b : Addr) (k : List Key) (L : List (Addr × List Key)), x = .ref b ∧ y = .ref a ∧ H b = some (.tup (k.map kV)) ∧ H a = some (TsO P w a L) ∧ TupsIn H L ∧ Q (.bl (hasK L k)) H
theorem find_key {A : Around} {E : Value → Shared → Prop} {s : Shared} {a : Addr} {L : List (Addr × List Key)} {es : Array (Int × Value)} {ep : Nat} {t : SetTable} (R : SetTK P w s.heap a L es ep t) (TT : ∀ p ∈ L, TupK P w s.heap p.2 p.1) {x : Addr} {k : List Key} (hx : TupK P w s.heap k x) (hu : A.units < cLine) {Q : Option Nat → Shared → Prop}
    (q : ∀ r : Option Nat, r.isSome = hasK L k → Q r s) : wpAny (model P w) A (setFind a (.ref x) (kh P w k)) Q E s := by
  obtain ⟨o, go, gx, gd⟩ := R.ob
  unfold setFind setFindIn
  refine wpAny_bind (wpAny_setState_of go gd R.fit ?_)
  dsimp only
  refine wp_if_neg (by simp [byScan, Value.scannable]) ?_
  first
    | refine wpAny_bind (wpAny_pure ?_)
    | skip
  refine wpAny_bind (look_at (ad := false) R TT hx hu (fun r hr m => ?_) fun K m _ _ => ?_)
  · exact wpAny_pure (q r (by rw [hr rfl, hasK_iff.mpr m]))
  · exact wpAny_pure (q none (by rw [hasK_no m] <;> rfl))
/-- x in s, s a set: the set's own __contains__ is asked -/
theorem set_asked {A : Around} {E : Value → Shared → Prop} {s : Shared} {a b : Addr} {Q : Bool → Shared → Prop} (ty : s.TypeIs (.ref a) "set") (h : ∀ X, wpAny (model P w) A.in1 (setContains a (.ref b)) Q X s) : wpAny (model P w) A (contains (.ref a) (.ref b)) Q E s := by
  have own : ¬ (some (Value.builtin "set.__contains__") == some Value.none) = true := by rw [beq_builtin_none]; exact Bool.false_ne_true
  refine wpAny_holding ?_
  refine wpAny_bind (wpAny_specialOf ty F.slot_set_contains.lookup ?_)
  refine wp_if_neg own (wpAny_bind (wpAny_callSpecialUnlessNone?_slot (name := Str.ofString "__contains__") ty F.slot_set_contains (wpAny_call_entry F.slot_set_contains ty entry_set_contains ?_ (F.args_set_contains_2 _ _))))
  simp only [Builtin.«frozenset.__contains__», Builtin.Frozenset.oneOther, Builtin.Frozenset.addrOf, Builtin.Frozenset.withSetAsKey, List.isEmpty_nil, bind_assoc]
  exact wpAny_bind (wpAny_pure (wpAny_bind (wpAny_pure (wpAny_bind (wpAny_tryCatch (wpAny_mono (h _) (fun r z q => wpAny_pure ⟨_, rfl, wpAny_truthy_bool q⟩) fun _ _ q => q))))))
theorem or_sinT (hu : X.A.units + 1 < cLine) : OpR X (compareOp .In) (rSInT X.prog X.w) := by
  intro pins s σ H x y v u Q I rx ry h
  obtain ⟨a, b, k, L, rfl, rfl, hb, ha, hL, q⟩ := h
  cases rx
  cases ry
  obtain ⟨es, ep, t, R⟩ := tsO_get I ha
  have T := tupK_of I hb
  have ty := setTK_type R
  refine wpAny_bind (set_asked ty fun _ => wpAny_holding (wpAny_bind (wpAny_pyHash_tuple (A := X.A.in1) hu T ?_)))
  refine wpAny_bind (find_key (s := { s with toks := s.toks + (k.length + 1) }) R (fun p hp => tupK_of (s := s) I (hL p hp)) T (by exact hu) fun r hr => ?_)
  exact wpAny_pure (wpAny_pure ⟨.bl (hasK L k), H, I.tok _, by rw [hr]; rfl, q⟩)
/-- len(s), a set of ints and texts -/
def rLenSK (P : Program) (w : World) : List V → Hp → VK → Prop := fun xs H Q => ∃ (a : Addr) (S : Key → Bool) (n : Nat), xs = [.ref a] ∧ H a = some (SetK P w a S n) ∧ Q (.int n) H
theorem call_lenSK : CallR X (.builtin "len") (rLenSK X.prog X.w) := by
  intro pins s σ H xs us Q I r h
  obtain ⟨a, S, n, rfl, ha, q⟩ := h
  rw [Vals.ref1 r]
  obtain ⟨o, es, ep, t, ho, hex, hd, _, _, hb, hf, hn⟩ := setK_get I ha
  have hb' : es.size < 4096 := hb
  refine call_len_set ho hex hd hf (by omega) ⟨.int n, H, I.tok _, ⟨_, by rw [hn]⟩, q⟩
end
end L2

/-! set(l) of a list: the shell, and the loop that puts the items in -/
namespace L2
open PySem PySem.Froz PyProof.Rows PySem.Spec
section
variable {P : Program} {w : World} {A : Around} {E : Value → Shared → Prop} {s : Shared}
/-- the set that set() begins with -/
def bareSet (w : World) : Obj := { cls := .type "set", dict := none, data := .set #[] 0 (.fresh 0 0 (!w.params.followText "set-order")) }
/-- set(l): what the loop that puts the items in makes of the bare set is the set -/
theorem set_made {l : Addr} {xs : Array Value} {Q : Value → Shared → Prop} (Gd : Heap → Prop) (hl : s.heap.IsList l xs) (hh : A.handled = none)
    (loop : ∀ B : Around, B.handled = none → codeAny (model P w) B (.builtin "set.update.loop" ⟨[.ref s.heap.objs.size, .ref (s.heap.objs.size + 1)], []⟩)
      (fun r z => r = .ok (.ret .none) ∧ ∃ h' tk, z = { s with heap := h', toks := tk } ∧ Gd h' ∧ ∀ b o, s.heap.get? b = some o → h'.get? b = some o)
      { s with heap := (s.heap.push (bareSet w)).push { cls := .type "list_iterator", data := .fields #[.ref l, .int 0 0] } })
    (q : ∀ h' tk, Gd h' → (∀ b o, s.heap.get? b = some o → h'.get? b = some o) → Q (.ref s.heap.objs.size) { s with heap := h', toks := tk }) : wpAny (model P w) A (call (.type "set") [.ref l]) Q E s := by
  obtain ⟨c, tl, hmro⟩ := F.called_set.mro
  have f1 := F.called_set.made
  have f2 := F.called_set.sub
  have f3 := F.called_set.notType
  have f4 := F.called_set.canCreate
  have f5 := F.typeCall_set_1 (.ref l)
  refine wpAny_call (codeAny_of_tree (?_ : wpAny _ _ (callAny (.type "set") _) _ _ _))
  refine wpAny_pure ⟨Code.quiet_builtin _ (by decide +kernel), codeAny_builtin F.entry_type_call ?_⟩
  rw [Around.under_plain (weight_type_call_type "set" [.ref l] []) rfl]
  repeat (any_goals (first | assumption | wp_step))
  refine codeAny_mono (code_set_led1 (.ref l) (E := E) (Q₁ := fun v z => v = .ref s.heap.objs.size ∧ z = { s with heap := s.heap.push (bareSet w) }) ⟨rfl, rfl⟩) fun r z hr => ?_
  match r, hr with
  | .error e, hr => exact hr
  | .ok .next, hr => exact hr.elim
  | .ok .brk, hr => exact hr.elim
  | .ok .cont, hr => exact hr.elim
  | .ok (.ret v), hr =>
    obtain ⟨rfl, rfl⟩ := hr
    have own : (s.heap.push (bareSet w)).get? s.heap.objs.size = some (bareSet w) := Heap.get?_push_size _ rfl
    have ty : Shared.TypeIs { s with heap := s.heap.push (bareSet w) } (.ref s.heap.objs.size) "set" := ⟨_, own, rfl⟩
    have f6 := F.called_set.init.lookup
    have f7 := F.called_set.init.bind (.ref s.heap.objs.size)
    repeat (any_goals (first | assumption | wp_step))
    refine codeAny_mono (codeAny_call_builtin (R := wants (fun v z => v = .none ∧ ∃ h' tk, z = { s with heap := h', toks := tk } ∧ Gd h' ∧ ∀ b o, s.heap.get? b = some o → h'.get? b = some o) E) F.called_set.init.plain F.entry_set_init (check_set_init_1 ty ?init)) fun r2 z2 hr2 => ?_
    case init =>
      obtain ⟨⟨cl, dc, dt, sl⟩, g, gc, n, gd⟩ := hl
      simp only at gc gd
      subst gc gd
      have g1 : (s.heap.push (bareSet w)).get? l = some ⟨.type "list", dc, .seq xs n, sl⟩ := Heap.get?_push_of_some _ g
      have li : (s.heap.push (bareSet w)).IsList l xs := ⟨_, g1, rfl, n, rfl⟩
      have k1 := F.sub_list_set
      have k2 := F.sub_list_frozenset
      have k3 : (Value.type "list" == Value.type "dict") = false := by decide
      unfold Builtin.«set.__init__» noKeywords Builtin.Frozenset.updateFrom
      generalize hi : pyIter = PI
      wp_walk
      subst hi
      refine wpAny_pyIter_list li (wpAny_bind (wpAny_runValue ?_))
      have lo := loop A.in1.in1 (by simp [hh])
      rw [Heap.size_push]
      refine codeAny_mono lo fun r3 z3 h3 => ?_
      obtain ⟨rfl, h', tk, rfl, gd, keep⟩ := h3
      exact wpAny_pure (wpAny_pure ⟨rfl, h', tk, rfl, gd, keep⟩)
    match r2, hr2 with
    | .error e, hr2 => exact hr2
    | .ok .next, hr2 => exact hr2.elim
    | .ok .brk, hr2 => exact hr2.elim
    | .ok .cont, hr2 => exact hr2.elim
    | .ok (.ret v), hr2 =>
      obtain ⟨rfl, h', tk, rfl, gd, keep⟩ := hr2
      repeat (any_goals (first | assumption | wp_step))
      exact q h' tk gd keep
/-- the loop over a list: J tells what the set at S is behind i items -/
theorem fill_list {S I l : Addr} {items : Array Value} (J : Nat → Heap → Prop) (calm : A.handled = none) (apart : S ≠ I ∧ S ≠ l ∧ l ≠ I) (stay : ∀ i h h', (∀ o, h.get? S = some o → h'.get? S = some o) → J i h → J i h')
    (add : ∀ i x (z : Shared) (Q : Bool → Shared → Prop) (X : Value → Shared → Prop), items[i]? = some x → J i z.heap → (∀ b h', Heap.SameBut S z.heap h' → J (i + 1) h' → Q b { z with heap := h', toks := z.toks + 1 }) → wpAny (model P w) A.in1 (setAdd S x) Q X z) :
    ∀ (n i : Nat) (z : Shared), n + i = items.size → z.heap.IsListIter I l i → z.heap.IsList l items → J i z.heap → codeAny (model P w) A (.builtin "set.update.loop" ⟨[.ref S, .ref I], []⟩)
      (fun r y => r = .ok (.ret .none) ∧ ∃ h' tk, y = { z with heap := h', toks := tk } ∧ J items.size h' ∧ ∀ b o, b ≠ S → b ≠ I → z.heap.get? b = some o → h'.get? b = some o) z := by
  intro n
  induction n with
  | zero =>
    intro i z en it li j
    obtain rfl : i = items.size := by omega
    exact codeAny_builtin F.entry_set_update_loop ((Around.under_plainId F.plain_set_update_loop _).symm ▸ wpAny_bind (wpAny_pyNext_list_end calm it li (Array.getElem?_eq_none (Nat.le_refl _)) fun h' ext => wpAny_pure ⟨rfl, h', z.toks, rfl, stay _ _ _ (fun o e => ext S o apart.1 e) j, fun b o _ bI e => ext b o bI e⟩))
  | succ n more =>
    intro i z en it li j
    have lt : i < items.size := by omega
    refine codeAny_builtin F.entry_set_update_loop ((Around.under_plainId F.plain_set_update_loop _).symm ▸ wpAny_bind (wpAny_pyNext_list_item it li (Array.getElem?_eq_getElem lt) fun h1 it1 sb1 => ?_))
    refine wpAny_bind (wpAny_holding (add i _ { z with heap := h1 } _ _ (Array.getElem?_eq_getElem lt) (stay _ _ _ (fun o e => (sb1.2 S apart.1).trans e) j) fun b h2 sb2 j2 => wpAny_pure ⟨plainId_quiet F.plain_set_update_loop _, ?_⟩))
    have li1 : h1.IsList l items := li.at fun o e => (sb1.2 l apart.2.2).trans e
    refine codeAny_mono (more (i + 1) { z with heap := h2, toks := z.toks + 1 } (by omega) (it1.at fun o e => (sb2.2 I (Ne.symm apart.1)).trans e) (li1.at fun o e => (sb2.2 l (Ne.symm apart.2.1)).trans e) j2) ?_
    rintro r y ⟨rfl, h', tk, rfl, jn, far⟩
    exact ⟨rfl, h', tk, rfl, jn, fun b o bS bI e => far b o bS bI ((sb2.2 b bS).trans ((sb1.2 b bI).trans e))⟩
end
end L2

/-! sets of texts, made of a list; sorted of them -/
namespace L2
open PySem PySem.Spec PyProof.Rows PySem.Froz
/-- the payload of a set of the texts l -/
structure TxS (P : Program) (w : World) (D : SD) (l : List Str) : Prop where
  ok : TxOk P w D l
  one : l.Nodup
  ris : Ris D.2.2.place.toList
  led : w.params.followText "set-order" = true ∨ D.2.2.led = true
section
variable {P : Program} {w : World} {A : Around} {E : Value → Shared → Prop} {s : Shared}
theorem add_tab (D : SD) (h : Int) (v : Value) (r : Ris D.2.2.place.toList) : Ris (addTx h v D).2.2.place.toList ∧ (addTx h v D).2.2.led = D.2.2.led := by
  obtain ⟨es, ep, t⟩ := D
  have a1 := layNew_ris t es h v r
  have a2 := layNew_led t es h v
  unfold addTx
  dsimp only
  generalize layNew t es h v = L at a1 a2
  obtain ⟨es1, t1, wd, gv⟩ := L
  dsimp only at a1 a2 ⊢
  have b1 : Ris (if t1.plain = true then { t1 with plain := false } else t1).place.toList := by split <;> exact a1
  have b2 : (if t1.plain = true then { t1 with plain := false } else t1).led = t.led := by split <;> exact a2
  generalize (if t1.plain = true then { t1 with plain := false } else t1) = t2 at b1 b2
  unfold tailTx
  split
  · exact ⟨relayAll_ris _ _ _, (relayAll_led _ _ _).trans b2⟩
  · exact ⟨b1, b2⟩
theorem TxS.more {D : SD} {l : List Str} (R : TxS P w D l) {k : Str} (u : Tok) (hk : k ∉ l) : TxS P w (addTx (hashStr w k) (.str k u) D) (k :: l) := by
  obtain ⟨a, b⟩ := add_tab D (hashStr w k) (.str k u) R.ris
  exact ⟨add_ok u R.ok, List.nodup_cons.mpr ⟨hk, R.one⟩, a, by rw [b]; exact R.led⟩
/-- adding a text that is there -/
theorem add_there {a : Addr} {D : SD} {l : List Str} {k : Str} {u : Tok} {Q : Bool → Shared → Prop} (ho : s.heap.get? a = some (sObj "set" D)) (F : TxOk P w D l) (hk : k ∈ l) (hb : l.length < scanBound) (q : Q false s) :
    wpAny (model P w) A (setAddHashed a (.str k u) (hashStr w k)) Q E s := by
  obtain ⟨es, ep, t⟩ := D
  have gd : (sObj "set" (es, ep, t)).data = .set es ep t := rfl
  have gf : t.fits es.size = true := F.fit
  have gel : ElemsOf (strKind P w) es.toList := F.el
  have gsz : es.size = l.length := F.sz
  have gk : (strKind P w).is k (.str k u) = true := is_str k u
  obtain ⟨j, hj⟩ : ∃ j, List.findIdx? (fun e => (strKind P w).is k e.2) es.toList = some j := by
    cases hr : List.findIdx? (fun e => (strKind P w).is k e.2) es.toList with
    | some j => exact ⟨j, rfl⟩
    | none =>
      obtain ⟨e, he, z⟩ := (F.mem k).mp hk
      have z' := List.findIdx?_eq_none_iff.mp hr e he
      rw [z] at z'
      exact nomatch z'
  unfold setAddHashed setAddHashedIn
  refine wpAny_holding (wpAny_bind (wpAny_setState_of ho gd gf ?_))
  dsimp only
  rw [byScan_of rfl (by omega) gel]
  simp only [↓reduceIte]
  unfold setAddByScan
  refine wpAny_bind (wpAny_bind (wpAny_rule ?_))
  refine wpAny_bind (wpAny_setScan_of (knd := strKind P w) (k := k) gk ho gd gf gel ?_)
  rw [hj]
  dsimp only
  exact wpAny_pure (wpAny_pure q)
/-- a text is put in, be it there or not -/
theorem add_text {S : Addr} {D : SD} {l : List Str} {x : Str} {u : Tok} {Q : Bool → Shared → Prop} (at_ : s.heap.get? S = some (sObj "set" D)) (T : TxS P w D l) (few : l.length + 1 < scanBound)
    (q : ∀ b h' D' l', Heap.SameBut S s.heap h' → h'.get? S = some (sObj "set" D') → TxS P w D' l' → l'.length ≤ l.length + 1 → (∀ z, z ∈ l' ↔ z = x ∨ z ∈ l) → Q b { s with heap := h', toks := s.toks + 1 }) :
    wpAny (model P w) A (setAdd S (.str x u)) Q E s := by
  refine wpAny_holding (wpAny_bind ((strKind P w).pyHash (is_str x u) ?_))
  by_cases there : x ∈ l
  · refine add_there (s := { s with toks := s.toks + 1 }) at_ T.ok there (by omega) (q _ s.heap D l (Heap.SameBut.refl S _) at_ T (by omega) fun z => ⟨.inr, ?_⟩)
    rintro (rfl | h)
    · exact there
    · exact h
  · exact add_x (s := { s with toks := s.toks + 1 }) at_ T.ok there few (q _ _ _ (x :: l) (Heap.SameBut.update ..) (get_upd _ at_ rfl) (T.more u there) (Nat.le_refl _) fun z => List.mem_cons)
/-- set(xs), xs a list of texts -/
theorem set_texts {l : Addr} {items : Array Value} (xs : List Str) {Q : Value → Shared → Prop} (hh : A.handled = none) (hl : s.heap.IsList l items) (hit : StrsAre items.toList xs) (few : xs.length < 64)
    (q : ∀ (h' : Heap) (tk : Nat) D ys, h'.get? s.heap.objs.size = some (sObj "set" D) → TxS P w D ys → ys.length ≤ xs.length → (∀ z, z ∈ ys ↔ z ∈ xs) → (∀ b o, s.heap.get? b = some o → h'.get? b = some o) → Q (.ref s.heap.objs.size) { s with heap := h', toks := tk }) :
    wpAny (model P w) A (call (.type "set") [.ref l]) Q E s := by
  have size : items.size = xs.length := by rw [← Array.length_toList]; exact hit.length
  have low : l < s.heap.objs.size := let ⟨_, g, _⟩ := hl; Heap.lt_size g
  have led : w.params.followText "set-order" = true ∨ (!w.params.followText "set-order") = true := by cases w.params.followText "set-order" <;> simp
  refine set_made (fun h' => ∃ D ys, h'.get? s.heap.objs.size = some (sObj "set" D) ∧ TxS P w D ys ∧ ys.length ≤ items.size ∧ ∀ z, z ∈ ys ↔ z ∈ xs.take items.size) hl hh (fun B hB => ?_) fun h' tk ⟨D, ys, g, T, le, mem⟩ keep => ?_
  · have top : ((s.heap.push (bareSet w)).push { cls := .type "list_iterator", data := .fields #[.ref l, .int 0 0] }).get? (s.heap.objs.size + 1) = some { cls := .type "list_iterator", data := .fields #[.ref l, .int 0 0] } := by
      rw [← Heap.size_push s.heap (bareSet w)]
      exact Heap.get?_push_size _ rfl
    refine codeAny_mono (fill_list (A := B) (fun i h => ∃ D ys, h.get? s.heap.objs.size = some (sObj "set" D) ∧ TxS P w D ys ∧ ys.length ≤ i ∧ ∀ z, z ∈ ys ↔ z ∈ xs.take i) hB ⟨Nat.ne_of_lt (Nat.lt_succ_self _), Nat.ne_of_gt low, Nat.ne_of_lt (Nat.lt_succ_of_lt low)⟩
      (fun i h h' k ⟨D, ys, g, r⟩ => ⟨D, ys, k _ g, r⟩) (fun i x z Q' X hx ⟨D, ys, g, T, le, mem⟩ k => ?_) items.size 0 _ rfl ⟨_, top, rfl, rfl⟩ ((hl.push _).push _) ?_) ?_
    · have lt : i < xs.length := by rw [← size]; exact (Array.getElem?_eq_some_iff.mp hx).1
      obtain ⟨t, e⟩ := SS.strs_at hit i x (by rw [Array.getElem?_toList]; exact hx)
      have e' : x = .str xs[i] t := by rw [e, List.getD_eq_getElem?_getD, List.getElem?_eq_getElem lt] <;> rfl
      rw [e']
      refine add_text g T (by unfold scanBound; omega) fun b h' D' l' sb g' T' le' mem' => k b h' sb ⟨D', l', g', T', by omega, fun z => ?_⟩
      rw [mem', mem, take_next (List.getElem?_eq_getElem lt), List.mem_append, List.mem_singleton, or_comm]
    · exact ⟨(#[], 0, .fresh 0 0 (!w.params.followText "set-order")), [], Heap.get?_push_of_some _ (Heap.get?_push_size _ rfl), ⟨TxOk.nil rfl, .nil, .nil, led⟩, Nat.le_refl _, fun z => by rw [List.take_zero]⟩
    · rintro r y ⟨rfl, h', tk, rfl, J, far⟩
      exact ⟨rfl, h', tk, rfl, J, fun b o e => far b o (Nat.ne_of_lt (Heap.lt_size e)) (Nat.ne_of_lt (Nat.lt_succ_of_lt (Heap.lt_size e))) (Heap.get?_push_of_some _ (Heap.get?_push_of_some _ e))⟩
  · refine q h' tk D ys g T (by rw [← size]; exact le) (fun z => ?_) keep
    rw [mem, size, List.take_length]
end
end L2

namespace L2
open PySem PySem.Spec PyProof.Rows PySem.Froz
/-- a set of the texts l -/
def TxO (P : Program) (w : World) (a : Addr) (l : List Str) : HO := .ext fun h => ∃ D, h.get? a = some (sObj "set" D) ∧ TxS P w D l
section
variable {X : Cx} {P : Program} {w : World} {A : Around} {E : Value → Shared → Prop} {s : Shared}
theorem txO_new {H : Hp} {h : Heap} {a : Addr} {l : List Str} {D : SD} (g : h.get? a = some (sObj "set" D)) (T : TxS P w D l) : ObjOk P w H h a (TxO P w a l) :=
  ⟨⟨D, g, T⟩, ⟨_, g⟩, fun h1 h2 ⟨D', g', T'⟩ k => ⟨D', k _ g', T'⟩⟩
/-- set(xs), xs a list of texts -/
def rSetTx (K : PySem.W.Frag) (P : Program) (w : World) : List V → Hp → VK → Prop := fun vs H Q => ∃ (p : Addr) (xs : List Str), vs = [.ref p] ∧ SqL K H p (xs.map V.str) ∧ xs.length < 64 ∧
  ∀ (a : Addr) (l : List Str), l.Nodup → (∀ z, z ∈ l ↔ z ∈ xs) → l.length ≤ xs.length → H a = none → Q (.ref a) (upd H a (TxO P w a l))
theorem cr_setTx (hc : X.calm = true) : CallR X (.type "set") (rSetTx X.K X.prog X.w) := by
  intro pins s σ H vs us Q I r h
  obtain ⟨p, xs, rfl, hs, few, q⟩ := h
  obtain ⟨its, rv, hl, _⟩ := I.list hs
  rw [Vals.ref1 r]
  refine set_texts xs (I.ok.hd hc) hl.isList (by simpa using rv.strs) few fun h' tk D ys g T hlen hm keep => ?_
  exact ⟨.ref _, upd H s.heap.objs.size (TxO X.prog X.w s.heap.objs.size ys), I.laid (t' := tk) (fun b u e => keep b u e) (Nat.le_refl _) (txO_new g T), rfl, q _ ys T.one hm hlen (I.hok.fresh (Nat.le_refl _))⟩
theorem texts_of {D : SD} {l : List Str} (T : TxOk P w D l) : ∃ ss, StrsAre (D.1.toList.map (·.2)) ss ∧ (∀ z, z ∈ ss ↔ z ∈ l) ∧ ss.length = l.length := by
  have key : ∀ es : List (Int × Value), ElemsOf (strKind P w) es → ∃ ss, StrsAre (es.map (·.2)) ss ∧ (∀ z, z ∈ ss ↔ ∃ e ∈ es, (strKind P w).is z e.2 = true) ∧ ss.length = es.length := by
    intro es
    induction es with
    | nil => exact fun _ => ⟨[], .nil, fun z => by simp, rfl⟩
    | cons e es more =>
      intro h
      obtain ⟨ss, h1, h2, h3⟩ := more h.tail
      obtain ⟨⟨k, hk, _⟩, _⟩ := h.head
      obtain ⟨t, et⟩ := Value.isStrOf_shape (x := k) (v := e.2) hk
      refine ⟨k :: ss, by rw [List.map_cons, et]; exact .cons k t h1, fun z => ?_, by rw [List.length_cons, List.length_cons, h3]⟩
      rw [List.mem_cons, h2 z]
      constructor
      · rintro (rfl | ⟨f, hf, q⟩)
        · exact ⟨e, List.mem_cons_self, hk⟩
        · exact ⟨f, .tail _ hf, q⟩
      · rintro ⟨f, hf, q⟩
        rcases List.mem_cons.mp hf with rfl | hf
        · exact .inl ((strKind P w).inj f.2 z k q hk)
        · exact .inr ⟨f, hf, q⟩
  obtain ⟨ss, h1, h2, h3⟩ := key D.1.toList T.el
  exact ⟨ss, h1, fun z => (h2 z).trans (T.mem z).symm, by rw [h3, Array.length_toList, T.sz]⟩
/-- as many different ones as there are: one order of the others -/
theorem perm_of_len {α : Type} [DecidableEq α] : ∀ {l m : List α}, l.Nodup → (∀ z, z ∈ l → z ∈ m) → m.length ≤ l.length → m.Perm l
  | [], [], _, _, _ => .nil
  | [], _ :: _, _, _, h => absurd h (by simp)
  | x :: l, m, hn, hs, hle => by
    have hx := hs x List.mem_cons_self
    obtain ⟨n1, n2⟩ := List.nodup_cons.mp hn
    have hm := List.perm_cons_erase hx
    have hlen := hm.length_eq
    rw [List.length_cons] at hlen hle
    refine hm.trans (.cons x (perm_of_len n2 (fun z hz => ?_) (by omega)))
    have hne : z ≠ x := fun e => n1 (e ▸ hz)
    exact (List.mem_erase_of_ne hne).mpr (hs z (.tail _ hz))
/-- sorted(s), s a set of texts -/
def rSortTx (P : Program) (w : World) : List V → Hp → VK → Prop := fun vs H Q => ∃ (a : Addr) (l : List Str), vs = [.ref a] ∧ H a = some (TxO P w a l) ∧ l.length < 64 ∧
  ∀ (ys : List Str) (p : Addr), ys.Perm l → sortedS ys = true → H p = none → Q (.ref p) (upd H p (.lst (ys.map V.str)))
theorem cr_sortTx (hc : X.calm = true) : CallR X (.builtin "sorted") (rSortTx X.prog X.w) := by
  intro pins s σ H vs us Q I r h
  obtain ⟨a, l, rfl, ha, few, q⟩ := h
  obtain ⟨D, g, T⟩ : ∃ D, s.heap.get? a = some (sObj "set" D) ∧ TxS X.prog X.w D l := (I.hok a _ ha).1
  rw [Vals.ref1 r]
  obtain ⟨es, ep, t⟩ := D
  have sz : es.size = l.length := T.ok.sz
  obtain ⟨ss, s1, s2, s3⟩ := texts_of T.ok
  refine Calls.call_function_entry kind_sorted plain_sorted entry_sorted (args_sorted1 _) ?_
  unfold Builtin.«sorted»
  refine wpAny_bind (m := checkCount "sorted" 1 1 _) (wpAny_pure ?_)
  refine wpAny_bind (collect_set (A := X.A.in1) (I.ok.hd hc) ⟨_, g, rfl, rfl⟩ T.ok.fit (by show es.size < 4096; omega) T.ris T.led fun z vs keep hz g1 o1 pm => ?_)
  have vlen : vs.length = l.length := by rw [pm.length_eq, List.length_map, Array.length_toList, sz]
  obtain ⟨ss', p1, p2⟩ : ∃ ss', StrsAre vs ss' ∧ ss'.Perm ss := by
    refine ⟨vs.map strOf, strsAre_map vs fun v hv => s1.all _ (pm.mem_iff.mp hv), ?_⟩
    have e := pm.map strOf
    rwa [s1.strs] at e
  have pl : ss.Perm l := perm_of_len T.one (fun z hz => (s2 z).mpr hz) (Nat.le_of_eq s3)
  refine wpAny_bind (wpAny_newList ?_ (by rw [vlen, sizeLine_eq]; omega))
  have hoL : (z.heap.push (seqObj "list" vs.toArray 0)).get? z.heap.objs.size = some (seqObj "list" vs.toArray 0) := Heap.get?_push_size _ rfl
  refine wpAny_bind (wpAny_holding (wpAny_call_entry slot_list_sort ⟨_, hoL, rfl⟩ entry_list_sort (list_sort_treeKAny strKind_oneLt hoL p1.keysOf (fun v₁ v₂ rest e => keyKind_strs (by rw [← e]; exact p1)) (by rw [vlen, sizeLine_eq]; omega) fun st' a1 a2 => ⟨_, rfl, ?_⟩) (args_list_sort _)))
  obtain ⟨ys, b1, b2, b3⟩ := sorted_out_str p1 a1 a2
  obtain ⟨c, hcn⟩ := sortedHeap_at (vs := vs) (out := (arrOf st').map (·.2)) hoL
  refine wpAny_pure ⟨_, rfl, ?_⟩
  generalize (arrOf st').map (·.2) = out at b1 hcn ⊢
  have perm : ys.Perm l := b2.trans (p2.trans pl)
  have hlen : (ys.map V.str).length ≤ sizeLine := by rw [List.length_map, perm.length_eq, sizeLine_eq]; omega
  have hn : H z.heap.objs.size = none := I.hok.fresh hz
  have keep2 : ∀ b u, s.heap.get? b = some u → (sortedHeap (z.heap.push (seqObj "list" vs.toArray 0)) z.heap.objs.size vs out).get? b = some u := fun b u e => by
    have k := keep b u e
    have hlt := Heap.lt_size k
    rw [sortedHeap_old (Nat.ne_of_lt hlt) (by rw [size_push']; exact Nat.lt_succ_of_lt hlt)]
    exact Heap.get?_push_of_some _ k
  obtain ⟨zh, zg, zd, zt, zo⟩ := z
  dsimp only at *
  subst g1 o1
  refine ⟨.ref zh.objs.size, upd H zh.objs.size (.lst (ys.map V.str)), ?_, rfl, q ys _ perm b3 hn⟩
  exact I.call (ch := []) (d' := zd) (t' := zt) (Un.laid keep2 hz hn) (I.hok.laid (o := .lst (ys.map V.str)) keep2 hz ⟨hlen, out.toList, c, vals_of_strs b1, hcn⟩) I.bare (fun _ z => nomatch z)
end
end L2

/-! sorted(xs), xs a list of pairs of a text and an int -/
namespace L2
open PySem PySem.Spec PyProof.Rows
def txLt (x y : Str) : Bool := decide (x.cps.toList < y.cps.toList)
theorem tx_irr (x : Str) : txLt x x = false := PyProof.Rows.strKind.irrefl x.cps.toList
theorem tx_tr {x y z : Str} (h1 : txLt x y = true) (h2 : txLt y z = true) : txLt x z = true := PyProof.Rows.strKind.trans x.cps.toList y.cps.toList z.cps.toList h1 h2
theorem str_ext {x y : Str} (h : x.cps.toList = y.cps.toList) : x = y := by
  cases x; cases y
  congr 1
  exact Array.toList_inj.mp h
theorem tx_tot {x y : Str} (h1 : txLt x y = false) (h2 : txLt y x = false) : x = y := str_ext (PyProof.Rows.strKind.total x.cps.toList y.cps.toList h1 h2)
theorem tx_as {x y : Str} (h : txLt x y = true) : txLt y x = false := by
  cases e : txLt y x
  · rfl
  · have z := tx_tr h e
    rw [tx_irr] at z
    exact nomatch z
/-- x before y: by the text, then by the number -/
def pLt (p q : Str × Int) : Bool := if p.1 = q.1 then decide (p.2 < q.2) else txLt p.1 q.1
theorem pLt_iff {p q : Str × Int} : pLt p q = true ↔ txLt p.1 q.1 = true ∨ (p.1 = q.1 ∧ p.2 < q.2) := by
  unfold pLt
  by_cases e : p.1 = q.1
  · rw [if_pos e, decide_eq_true_eq, e, tx_irr]
    simp
  · rw [if_neg e]
    simp [e]
theorem pLt_as {p q : Str × Int} (h : pLt p q = true) : pLt q p = false := by
  cases e : pLt q p
  · rfl
  · rcases pLt_iff.mp h with a | ⟨a, b⟩ <;> rcases pLt_iff.mp e with c | ⟨c, d⟩
    · rw [tx_as a] at c; exact nomatch c
    · rw [c, tx_irr] at a; exact nomatch a
    · rw [a, tx_irr] at c; exact nomatch c
    · omega
theorem pLt_no {p q : Str × Int} (h : pLt p q = false) : txLt q.1 p.1 = true ∨ (q.1 = p.1 ∧ q.2 ≤ p.2) := by
  unfold pLt at h
  by_cases e : p.1 = q.1
  · rw [if_pos e] at h
    exact .inr ⟨e.symm, Int.not_lt.mp (of_decide_eq_false h)⟩
  · rw [if_neg e] at h
    cases c : txLt q.1 p.1
    · exact absurd (tx_tot h c) e
    · exact .inl rfl
theorem pLt_ge {p q : Str × Int} (h : txLt q.1 p.1 = true ∨ (q.1 = p.1 ∧ q.2 ≤ p.2)) : pLt p q = false := by
  cases e : pLt p q
  · rfl
  · rcases pLt_iff.mp e with a | ⟨a, b⟩ <;> rcases h with c | ⟨c, d⟩
    · rw [tx_as a] at c; exact nomatch c
    · rw [c, tx_irr] at a; exact nomatch a
    · rw [a, tx_irr] at c; exact nomatch c
    · omega
theorem pLt_swo {α : Type} (k : α → Str × Int) : SrtO.Swo fun x y => pLt (k x) (k y) := by
  refine ⟨fun x y h => pLt_as h, fun x y z h1 h2 => pLt_ge ?_⟩
  rcases pLt_no h1 with a | ⟨a, b⟩ <;> rcases pLt_no h2 with c | ⟨c, d⟩
  · exact .inl (tx_tr a c)
  · exact .inl (by rw [← c]; exact a)
  · exact .inl (by rw [a]; exact c)
  · exact .inr ⟨a.trans c, Int.le_trans b d⟩
def PairTI (h : Heap) (v : Value) (x : Str) (y : Int) : Prop := ∃ a o t u n, v = .ref a ∧ h.get? a = some o ∧ o.cls = .type "tuple" ∧ o.data = .seq #[.str x t, .int y u] n
section
variable {prog : Program} {w : World} {A : Around} {E : Value → Shared → Prop} {s : Shared}
theorem pairTI_firsts {h : Heap} : ∀ {vs : List Value}, (∀ v ∈ vs, ∃ x y, PairTI h v x y) → ∃ fs : List Value, PySem.W.KatTups h vs fs ∧ fs.length = vs.length ∧ ∀ f ∈ fs, ∃ x t, f = Value.str x t
  | [], _ => ⟨[], .nil, rfl, fun _ hm => nomatch hm⟩
  | v :: vs, hp => by
    obtain ⟨fs, h1, h2, h3⟩ := pairTI_firsts (vs := vs) fun v' hm => hp v' (.tail _ hm)
    obtain ⟨x, y, a, o, t, u, n, e, ho, hc, hd⟩ := hp v List.mem_cons_self
    subst e
    exact ⟨.str x t :: fs, PySem.W.KatTups.cons ho hc hd rfl h1, congrArg (· + 1) h2, fun f hm => (List.mem_cons.mp hm).elim (fun z => ⟨x, t, z⟩) (h3 f)⟩
theorem pairTI_cmp {vs : List Value} {k : Value → Str × Int} (hp : ∀ v ∈ vs, PairTI s.heap v (k v).1 (k v).2) : SrtO.Cmp prog w A s (tuples' true) (fun p => p.1 ∈ vs) (SrtO.lt2 fun v u => pLt (k v) (k u)) := by
  rintro ⟨v, v0⟩ ⟨v', v0'⟩ m m'
  have goal : ∀ (P1 P2 : Str × Int), PairTI s.heap v P1.1 P1.2 → PairTI s.heap v' P2.1 P2.2 → wpAny (model prog w) A (keyLt' (tuples' true) v v') (fun r s' => s' = s ∧ r = pLt P1 P2) (fun _ _ => False) s := by
    rintro ⟨x, y⟩ ⟨x', y'⟩ ⟨a, o, t, u, n, rfl, ho, -, hd⟩ ⟨a', o', t', u', n', rfl, ho', -, hd'⟩
    refine PySem.W.kat_lt ho hd ho' hd' (PySem.W.kat_cons (SeqAt.EqAt.str_str x t x' t' prog w _ _ (PySem.W.kat_go (fun same => ?_) fun less => ?_)))
    · obtain rfl : x = x' := by simpa using same
      refine PySem.W.kat_yes (PySem.W.kat_cons (SeqAt.EqAt.int_int y u y' u' prog w _ _ (PySem.W.kat_go (fun same2 => ?_) fun _ => PySem.W.kat_no (PySem.W.kat_one _ _ (PyProof.Rows.lt_int ⟨rfl, (if_pos rfl).symm⟩)))))
      obtain rfl : y = y' := by simpa using same2
      refine PySem.W.kat_yes (PySem.W.kat_nil ⟨rfl, ?_⟩)
      rw [pLt, if_pos rfl, decide_eq_false (Int.lt_irrefl y)]
      rfl
    · have diff : ¬ x = x' := by simpa using less
      exact PySem.W.kat_no (PyProof.Rows.strKind_oneLt _ _ _ _ _ _ _ x.cps.toList x'.cps.toList rfl rfl ⟨rfl, (if_neg diff).symm⟩)
  exact goal (k v) (k v') (hp v m) (hp v' m')
theorem pairTI_sortable {a : Addr} {vs : List Value} {k : Value → Str × Int} (h0 : 0 < vs.length) (hp : ∀ v ∈ vs, PairTI s.heap v (k v).1 (k v).2) (ha : ∀ o, s.heap.get? a = some o → o.cls ≠ .type "tuple") : SrtO.SortableO prog w A s a vs fun v u => pLt (k v) (k u) := by
  intro h' keep
  have hp' : ∀ v ∈ vs, PairTI h' v (k v).1 (k v).2 := fun v hm => by
    obtain ⟨b, o, t, u, n, e, ho, hc, hd⟩ := hp v hm
    exact ⟨b, o, t, u, n, e, keep b o (fun z => by subst z; exact ha o ho hc) ho, hc, hd⟩
  obtain ⟨fs, h1, h2, h3⟩ := pairTI_firsts fun v hm => ⟨_, _, hp' v hm⟩
  refine ⟨tuples' true, fun Q E hq => ?_, pairTI_cmp hp'⟩
  refine PySem.W.kat_kind (T := .type "str") h1 (by omega) (fun f hm => ?_) (by rfl) ?_
  · obtain ⟨x, t, rfl⟩ := h3 f hm
    exact PySem.W.Looks.now
  · rw [show (Value.type "str" != Value.type "tuple") = true by first | decide +kernel | rfl | decide]
    exact hq
end
def rSortTI (K : PySem.W.Frag) : List V → Hp → VK → Prop := fun vs H Q => ∃ (a : Addr) (xs : List V) (k : V → Str × Int), vs = [V.ref a] ∧ SqL K H a xs ∧ (∀ x ∈ xs, ∃ t, x = V.ref t ∧ H t = some (.tup [.str (k x).1, .int (k x).2])) ∧
  ∀ ys p, ys.Pairwise (fun x y => pLt (k y) (k x) = false) → ys.Perm xs → H p = none → Q (.ref p) (upd H p (.lst ys))
section
variable {X : Cx}
theorem cr_sortTI : CallR X (.builtin "sorted") (rSortTI X.K) := by
  intro pins s σ H vs us Q I r h
  obtain ⟨a, xs, k, rfl, hs, hx, q⟩ := h
  obtain ⟨its, rv, hl, hz⟩ := I.list hs
  rw [Vals.ref1 r]
  obtain ⟨e1, e2⟩ := refs_back rv fun x m => by
    obtain ⟨t, e, _⟩ := hx x m
    exact ⟨t, e⟩
  have hp : ∀ v ∈ its, PairTI s.heap v (k (backV v)).1 (k (backV v)).2 := fun v hv => by
    obtain ⟨t, rfl⟩ := e2 v hv
    obtain ⟨t', e, ht⟩ := hx (.ref t) (by rw [e1]; exact List.mem_map.mpr ⟨_, hv, rfl⟩)
    cases e
    obtain ⟨_, its2, r2, o, ho, hc, n, hd⟩ := I.hok _ _ ht
    obtain ⟨u1, u2, rfl, ri, rj⟩ := vals2 r2
    obtain ⟨t1, rfl⟩ := ri
    obtain ⟨t2, rfl⟩ := rj
    exact ⟨t, o, t1, t2, n, rfl, ho, hc, hd⟩
  refine SrtO.sorted_ord (pLt_swo fun u => k (backV u)) hl.isList (by rw [← rv.length]; exact hz) (fun h2 h₁ a ha kk => ?_) fun out h1 h2 => ?_
  · refine pairTI_sortable (k := fun u => k (backV u)) (s := { s with heap := h₁ }) (by omega) (fun v hm => ?_) fun o e => ?_
    · obtain ⟨b, o, t, u, n, e, ho, hc, hd⟩ := hp v hm
      exact ⟨b, o, t, u, n, e, (kk b o ho).2, hc, hd⟩
    · cases (e.symm.trans ha : some o = some (seqObj "list" its.toArray 0))
      exact fun c => absurd (Value.type.inj c) (by decide)
  · have same : (out.map backV).Perm xs := e1 ▸ h2.perm.map backV
    have ⟨n, hn⟩ := sortedAll_at s.heap its out.toArray
    exact ⟨.ref _, upd H _ (.lst (out.map backV)), I.laid (t' := s.toks) (fun _ _ e => sortedAll_old e) (Nat.le_succ _) ⟨same.length_eq ▸ hz, out, n, vals_back fun u hu => e2 u (h2.perm.mem_iff.mp hu), hn⟩, rfl, q _ _ (List.pairwise_map.mpr h1) same (I.hok.fresh (Nat.le_succ _))⟩
end
end L2

/-! {k: v for x in xs} of any keys that a dict can have: ints and texts, or tuples of them -/
namespace L2
open PySem PySem.Spec PyProof.Rows
/-- an entry put in, as a display or a comprehension does it -/
theorem dput_any {X : Cx} {pins : List (Addr × Obj)} {σ : St} {H H' : Hp} {s : Shared} {A : Around} {E : Value → Shared → Prop} {D : Addr} {y v : V} {u r : Value} {Q : Unit → Shared → Prop} (hu : A.units + 1 < cLine) (I : Inv X pins σ H s) (g : DPut H D y v H') (ry : RelV y u) (rv : RelV v r)
    (q : ∀ z, Inv X pins σ H' z → Q () z) : wpAny (model X.prog X.w) A (dictSet D u r) Q E s := by
  rcases g with ⟨kvs, k, e, rfl, l, rfl⟩ | ⟨kvs, k, b, e, rfl, eb, l, rfl⟩
  · obtain ⟨z, hd, vs, rel, dd⟩ := dk_of I.hok e
    have sml : (putK kvs k v).length ≤ sizeLine := Nat.le_trans (length_putK kvs k v) l
    refine wpAny_dictSet_pairs (hsz := by rw [← rel.length]; exact z) (kV_is ry) dd fun h' dd' hs => q _ ?_
    exact d_write I (by rw [e]; exact True.intro) hs (let ⟨q, _, _, hq, _⟩ := dd'; ⟨q, hq⟩) (dk_new sml hd (rel.put k rv) dd')
  · cases (show u = Value.ref b from ry)
    obtain ⟨z, hd, xs, rel, dd⟩ := dt_of I.hok e
    have sml : (putK kvs k v).length ≤ sizeLine := Nat.le_trans (length_putK kvs k v) l
    refine wpAny_dictSet_heap (hsz := by rw [← Paired.length rel]; exact z) (show A.units < cLine by omega) (key_of I.hok eb) dd fun h' dd' hs => q _ ?_
    obtain ⟨o, es, ep, hq, h2, h3, h4, _, h5⟩ := dd'
    refine d_write I (by rw [e]; exact True.intro) hs ⟨o, hq⟩ ⟨sml, hd, _, (rel.put k eb rv).keeps fun c ys ec => ?_, o, es, ep, hq, h2, h3, h4, h5⟩
    rw [upd_ne (ne_of ec e (fun z => nomatch z))]
    exact ec
/-- the dict that is begun with -/
inductive Bare : HO → Prop
  | k : Bare (.dK [])
  | t : Bare (.dT [])
theorem bare_ok {P : Program} {w : World} {H : Hp} {o : HO} (b : Bare o) (h : Heap) (hb : sysModules < h.objs.size) : ObjOk P w H (h.push { cls := .type "dict", data := .dict #[] }) h.objs.size o := by
  cases b
  · exact dk_empty h hb
  · exact dt_empty h hb
section
variable {X : Cx}
def tDcG (o : HO) (wi : TI) (g : TG) (tt : TT) (tk tv : TE) (vs : List Nat) : TE := fun σ H Q => wi σ H fun J H1 => ∀ D, H1 D = none → ∃ W : Nat → Nat → Hp → Prop, (∃ m, W 0 m (upd H1 D o)) ∧ ∀ i m H, W i m H →
  (J.stop i H ∧ Q (.ref D) H) ∨ (J.go i H ∧ ∃ Nx : Hp → Prop, (∀ H', Nx H' → ∃ m', m' < m ∧ W (i + 1) m' H') ∧ ∀ x H', J.yld i H x H' → g x (wipe σ vs) H' fun σ2 H2 => wipe σ2 vs = wipe σ vs ∧ tt σ2 H2 fun b H3 =>
    if b = true then tk σ2 H3 fun y H4 => tv σ2 H4 fun z H5 => ∃ H6, DPut H5 D y z H6 ∧ Nx H6 else Nx H3)
abbrev InBlk (X : Cx) (scope : Scope) (T : Cx → Prop) : Prop := ∀ (s : Shared) (H : Hp) (C : Addr) (cl : List (Str × Addr)) (fp : List Addr), T (X.blk s H scope (compEnvC scope cl C X.env) fp)
theorem pe_dcG {o : HO} {kx vx tg iter : Expr} {ifs : List Expr} {scope : Scope} {own : List (Str × Nat)} {pos : Pos} {wi : TI} {g : TG} {tt : TT} {tk tv : TE} (bo : Bare o) (hu : X.A.units + 1 < cLine) (hc : X.calm = true) (hN : X.N.Nodup) (hi : PI X tg iter wi) (ok : BlkOk X.N X.env.scope scope own)
    (hg : InBlk X scope fun B => PG B tg g) (ht : InBlk X scope fun B => PTs B ifs tt) (hk : InBlk X scope fun B => PE B kx tk) (he : InBlk X scope fun B => PE B vx tv) (hs : ∀ x, foldedSetIterable iter X.env x = pure x := by intro _; rfl) :
    PE X (.DictComp kx vx [⟨tg, iter, ifs, 0⟩] scope pos) (tDcG o wi g tt tk tv (own.map (·.2))) := by
  refine ⟨fun pins s σ H Q I h => ?_⟩
  rw [arm_eval_DictComp]
  have frees : ∀ y ∈ scope.names, y.2 = .free → ∃ c, X.env.cells.lookup y.1 = some c := fun y hy e => (ok.free y hy e).elim (fun k => I.ok.has _ (.inl k)) fun k => I.ok.has _ (.inr k)
  refine wpAny_comprehension_free (use := none) rfl hs (closure_ok frees) ok.kind (fun y hy e => by rw [ok.uniq y hy, e]) (thn (hi.run pins s σ H _ I h) fun xv s1 hx => thn hx fun itv s2 h2 => ?_)
  obtain ⟨it, fp, tn, J, H2, rfl, I2, T, st2, f2, q⟩ := h2
  refine wpAny_newObj_type (newEnv_comp ?_)
  generalize hD : s2.heap.objs.size = D
  have new : H2 D = none := I2.hok.fresh (Nat.le_of_eq hD)
  obtain ⟨W, ⟨m0, w0⟩, turn⟩ := q D new
  generalize es3 : ({ s2 with heap := s2.heap.push { cls := .type "dict", data := .dict #[] } } : Shared) = s3
  have h3 : s3.heap = s2.heap.push { cls := .type "dict", data := .dict #[] } := by rw [← es3]
  have I3 : Inv X pins σ (upd H2 D o) s3 := by
    rw [← es3]
    refine I2.laid (t' := s2.toks) (fun b u e => Heap.get?_push_of_some _ e) (Nat.le_of_eq hD) ?_
    rw [← hD]
    exact bare_ok bo s2.heap I2.big
  have low : ∀ b ∈ fp, b < s2.heap.objs.size := fun b hb => by
    obtain ⟨u, e, _⟩ := T.obj _ _ st2 b hb
    exact Heap.lt_size e
  have f3 : ∀ b ∈ fp, FpOk X pins (upd H2 D o) b ∧ b < s3.heap.objs.size := fun b hb => by
    refine ⟨⟨?_, (f2 b hb).2⟩, by rw [h3, Heap.size_push]; exact Nat.lt_succ_of_lt (low b hb)⟩
    rw [upd_ne (by rw [← hD]; exact Nat.ne_of_lt (low b hb))]
    exact (f2 b hb).1
  have st3 : tn 0 s3.heap := T.keep _ _ _ st2 fun b _ u e => by rw [h3]; exact Heap.get?_push_of_some _ e
  have I4 := block_start I3 ok hN f3
  have pg := hg s3 (upd H2 D o) s3.heap.objs.size (cellsFrom (s3.heap.objs.size + 1) scope.names (cloFrom X.env.cells scope.names [])) fp
  have pt := ht s3 (upd H2 D o) s3.heap.objs.size (cellsFrom (s3.heap.objs.size + 1) scope.names (cloFrom X.env.cells scope.names [])) fp
  have pk := hk s3 (upd H2 D o) s3.heap.objs.size (cellsFrom (s3.heap.objs.size + 1) scope.names (cloFrom X.env.cells scope.names [])) fp
  have pe := he s3 (upd H2 D o) s3.heap.objs.size (cellsFrom (s3.heap.objs.size + 1) scope.names (cloFrom X.env.cells scope.names [])) fp
  have nfp : ∀ b ∈ fp, (upd H2 D o) b = none := fun b hb => (f3 b hb).1.1
  show codeAny _ _ (.compStart (.DictComp kx vx [⟨tg, iter, ifs, 0⟩] scope pos) 0 (.ref it) (.ref D) (compEnvC scope (cellsFrom (s3.heap.objs.size + 1) scope.names (cloFrom X.env.cells scope.names [])) s3.heap.objs.size X.env)) (compPost (model X.prog X.w) X.A X.xe none _ (.ref D) s3.heap.objs.size) { s3 with heap := pushCells (s3.heap.push { cls := .type "dict", data := .dict #[] }) scope.names }
  generalize ece : compEnvC scope (cellsFrom (s3.heap.objs.size + 1) scope.names (cloFrom X.env.cells scope.names [])) s3.heap.objs.size X.env = ce at I4 pg pt pk pe ⊢
  have loc : ce.locals = s3.heap.objs.size := by subst ece; rfl
  generalize upd H2 D o = H3 at I3 I4 pg pt pk pe w0 nfp f3
  generalize es4 : ({ s3 with heap := pushCells (s3.heap.push { cls := .type "dict", data := .dict #[] }) scope.names } : Shared) = s4 at I4 ⊢
  have st4 : tn 0 s4.heap := T.keep _ _ _ st3 fun b _ u e => by rw [← es4]; exact pushCells_keeps _ _ _ _ (Heap.get?_push_of_some _ e)
  have quiet : ∀ {σ' : St} {H' : Hp} {z : Shared}, Inv (X.blk s3 H3 scope ce fp) [] σ' H' z → (∀ b ∈ fp, H' b = none) → ∀ b ∈ fp, FpOk (X.blk s3 H3 scope ce fp) [] H' b := fun {σ' H' z} I' hn b hb =>
    ⟨hn b hb, (I'.ok.exf b hb).1, I'.ok.exfs b hb, .inl hb, fun x c e => (I'.ok.exf b hb).2 x c e, fun p hp => absurd (show p ∈ ([] : List (Addr × Obj)) ++ [] from hp) (by simp)⟩
  have loop : codeAny (model X.prog X.w) X.A (.compLoop (.DictComp kx vx [⟨tg, iter, ifs, 0⟩] scope pos) 0 (.ref it) (.ref D) ce) (compPost (model X.prog X.w) X.A X.xe none (EP X pins σ Q) (.ref D) s3.heap.objs.size) s4 := by
    refine compLoop_anyD (fun n z => ∃ i H', Inv (X.blk s3 H3 scope ce fp) [] (wipe σ (own.map (·.2))) H' z ∧ tn i z.heap ∧ (∀ b ∈ fp, H' b = none) ∧ W i n H') ?_ m0 ⟨0, H3, I4, st4, nfp, w0⟩
    rintro n s5 ⟨i, H5, I5, st5, n5, w5⟩
    rcases turn i n H5 w5 with ⟨stop, qq⟩ | ⟨go, Nx, hNx, step⟩
    · refine thnF (T.done (X.blk s3 H3 scope ce fp) rfl rfl rfl hc i [] s5 _ H5 (fun _ _ => False) I5 (quiet I5 n5) st5 stop) fun r s6 ⟨hr, I6⟩ => ?_
      subst hr
      have I7 : Inv X pins σ H5 s6 := I3.call' (ch := fp) I6.os I6.base I6.hok I6.bare fun b hb => ⟨(f3 b hb).1.2.2.2.1, (f3 b hb).1.2.1, (f3 b hb).1.2.2.2.2.1, (f3 b hb).1.2.2.2.2.2⟩
      have nC : H5 s3.heap.objs.size = none := by
        have z : H5 ce.locals = none := I6.free
        rwa [loc] at z
      obtain ⟨m, hn, _⟩ := I6.loc
      have hn : s6.heap.Ns ce.locals m := hn
      rw [loc] at hn
      refine ⟨m, hn, fun h'' sb => ?_⟩
      obtain ⟨f0, f1, f2, f3, f4, f5⟩ := I3.fpOk (Nat.le_refl _) nC
      exact ⟨.ref D, H5, I7.turned (t' := s6.toks) (fun b u hb e => (sb.2 b hb).trans e) f0 f1 f3 f4 f5, rfl, qq⟩
    · refine thnF (T.item (X.blk s3 H3 scope ce fp) rfl rfl rfl hc i [] s5 _ H5 (fun _ _ => False) I5 (quiet I5 n5) st5 go) fun r s6 ⟨u, hr, h6⟩ => ?_
      subst hr
      refine thnF h6 fun _ s7 ⟨x, H7, I7, r7, y7, st7, n7⟩ => ?_
      refine thnF (pg.run _ s7 _ H7 x u _ (I7.pinned (quiet I7 n7) (T.obj _ _ st7)) r7 (step x H7 y7)) fun _ s8 ⟨σ8, H8, I8, hw8, q8⟩ => ?_
      refine thnF (pt.run _ s8 σ8 H8 _ I8 q8) fun b s9 ⟨H9, I9, q9⟩ => ?_
      have fin : ∀ {z : Shared} {H' : Hp}, Inv (X.blk s3 H3 scope ce fp) ([] ++ pinsAt fp s7.heap) σ8 H' z → Nx H' → ∃ m, m < n ∧ ∃ i H', Inv (X.blk s3 H3 scope ce fp) [] (wipe σ (own.map (·.2))) H' z ∧ tn i z.heap ∧ (∀ b ∈ fp, H' b = none) ∧ W i m H' := fun {z H'} I' nx => by
        obtain ⟨m', hm, w'⟩ := hNx H' nx
        have pin' : ∀ b ∈ fp, ∀ u, s7.heap.get? b = some u → z.heap.get? b = some u ∧ H' b = none := fun b hb u e =>
          let k := I'.pin (b, u) (List.mem_append_right _ (List.mem_append_right _ (mem_pinsAt hb e)))
          ⟨k.1, k.2.1⟩
        refine ⟨m', hm, i + 1, H', (I'.unpinned (pins := [])).weak (by rw [← hw8, wipe_length]) (fun j v e => ?_), T.keep _ _ _ st7 fun b hb u e => (pin' b hb u e).1, fun b hb => ?_, w'⟩
        · rw [← hw8] at e
          exact (wipe_some e).1
        · obtain ⟨u, e, _⟩ := T.obj _ _ st7 b hb
          exact (pin' b hb u e).2
      cases b with
      | false =>
        simp only [Bool.false_eq_true, if_false] at q9 ⊢
        exact fin I9 q9
      | true =>
        simp only [if_true] at q9 ⊢
        refine thnF (pk.run _ s9 σ8 H9 _ I9 q9) fun z s10 ⟨yk, H10, I10, r10, q10⟩ => ?_
        refine thnF (pe.run _ s10 σ8 H10 _ I10 q10) fun z2 s11 ⟨yv, H11, I11, r11, H12, put, nx⟩ => ?_
        exact dput_any (X := X.blk s3 H3 scope ce fp) hu I11 put r10 r11 fun s12 I12 => fin I12 nx
  exact codeAny_compStart_dict loop (T.self X.A 0 _ _ _ st4 loop)
/-- the turns, by an invariant -/
theorem dcG_it {J : It} {n : Nat} {G : Hp → Prop} {Y : Nat → Hp → V → Hp → Prop} (w : Walk J n G Y) {o : HO} {g : TG} {tt : TT} {tk tv : TE} {vs : List Nat} {σ : St} {H1 : Hp} {D : Addr} {Qd : Hp → Prop} (Pv : Nat → Hp → Prop) (h0 : Pv 0 (upd H1 D o)) (hG : ∀ i H, i ≤ n → Pv i H → G H)
    (hs : ∀ i x H H', i < n → Pv i H → Y i H x H' → g x (wipe σ vs) H' fun σ2 H2 => wipe σ2 vs = wipe σ vs ∧ tt σ2 H2 fun b H3 =>
      if b = true then tk σ2 H3 fun y H4 => tv σ2 H4 fun z H5 => ∃ H6, DPut H5 D y z H6 ∧ Pv (i + 1) H6 else Pv (i + 1) H3) (hd : ∀ H, Pv n H → Qd H) :
    ∃ W : Nat → Nat → Hp → Prop, (∃ m, W 0 m (upd H1 D o)) ∧ ∀ i m H, W i m H →
      (J.stop i H ∧ Qd H) ∨ (J.go i H ∧ ∃ Nx : Hp → Prop, (∀ H', Nx H' → ∃ m', m' < m ∧ W (i + 1) m' H') ∧ ∀ x H', J.yld i H x H' → g x (wipe σ vs) H' fun σ2 H2 => wipe σ2 vs = wipe σ vs ∧ tt σ2 H2 fun b H3 =>
        if b = true then tk σ2 H3 fun y H4 => tv σ2 H4 fun z H5 => ∃ H6, DPut H5 D y z H6 ∧ Nx H6 else Nx H3) := by
  refine ⟨fun i m H => m = n - i ∧ i ≤ n ∧ Pv i H, ⟨n, by simp, Nat.zero_le _, h0⟩, ?_⟩
  rintro i m H ⟨rfl, hi, p⟩
  have q := hG i H hi p
  rcases Nat.lt_or_ge i n with hlt | hge
  · exact .inr ⟨w.goes i H hlt q, Pv (i + 1), fun H' p' => ⟨n - (i + 1), by omega, rfl, hlt, p'⟩, fun x H' y => hs i x H H' hlt p (w.yields i H x H' hlt q y)⟩
  · obtain rfl : i = n := Nat.le_antisymm hi hge
    exact .inl ⟨w.stops H q, hd H p⟩
end
end L2

/-! for i, x in enumerate(t), t a tuple: the library's Begins and Draws of a tuple, put together -/
namespace L2
open PySem PyProof.Rows PySem.Spec
/-- a new enumerate over the iterator at j -/
abbrev enObj (j : Addr) : Obj := { cls := .type "enumerate", data := .fields #[.none, .bool false, .ref j, rawInt 0, .none, .none] }
theorem enum_one {v : Value} {o : Obj} {G : Heap → Prop} (B : Begins v o G) : Meets (Builtin.«enumerate.__new__» ⟨[.type "enumerate", v], []⟩) fun _ R s =>
    G s.heap ∧ R (.ok (.ret (.ref (s.heap.push o).objs.size))) { s with heap := (s.heap.push o).push (enObj s.heap.objs.size) } :=
  .of_wp fun P w _ R ⟨h, gs, dr, tk, os⟩ ⟨g, q⟩ => by
    have sub0 := sub_enumerate
    have goes : ∀ {A' : Around} {E' : Value → Shared → Prop} {Q' : Value → Shared → Prop}, Q' (.ref h.objs.size) ⟨h.push o, gs, dr, tk, os⟩ → wpAny (model P w) A' (pyIter v) Q' E' ⟨h, gs, dr, tk, os⟩ := fun z => B.iter P w _ _ _ _ g z
    wp_walk using goes
    refine wpAny_stack_any fun _ => wpAny_pure ?_
    split
    all_goals first
      | (rename_i c _ _ _ _ _; cases (c == Value.type "enumerate") <;> (wp_walk using goes; exact ⟨_, rfl, q⟩))
      | (wp_walk using goes; exact ⟨_, rfl, q⟩)
theorem enum_call {P : Program} {w : World} {A : Around} {E : Value → Shared → Prop} {s : Shared} {v : Value} {o : Obj} {G : Heap → Prop} {Q : Value → Shared → Prop} (B : Begins v o G) (g : G s.heap)
    (q : ∀ n h', n = s.heap.objs.size → IsEnum h' (n + 1) n 0 .none → h'.get? n = some o → (∀ b u, s.heap.get? b = some u → h'.get? b = some u) → Q (.ref (n + 1)) { s with heap := h' }) :
    wpAny (model P w) A (call (.type "enumerate") [v]) Q E s := by
  have up : ∀ (b : Addr) (u : Obj), (s.heap.push o).get? b = some u → ((s.heap.push o).push (enObj s.heap.objs.size)).get? b = some u := fun b u e => Heap.get?_push_of_some _ e
  have top := Heap.get?_push_size (s.heap.push o) (o := enObj s.heap.objs.size) rfl
  refine callType_new F.called_enumerate (by decide) (F.typeCall_enumerate_1 _) (F.newCall_enumerate_1 _) (fun c => F.args_object_init_2 c _) F.entry_enumerate_new (enum_one B) ⟨g, ?_⟩
  rw [Heap.size_push] at top
  rw [show (s.heap.push o).objs.size = s.heap.objs.size + 1 from Heap.size_push ..]
  exact ⟨⟨_, top, rfl⟩, q _ _ rfl top (up _ _ (Heap.get?_push_size _ B.free)) fun b u e => up b u (Heap.get?_push_of_some _ e)⟩
/-- the tuple at a, each item in a new pair -/
def Itq (K : PySem.W.Frag) (a : Addr) : It :=
  ⟨fun i H => ∃ (xs : List V) (x : V), SqT K H a xs ∧ xs[i]? = some x, fun i H v H' => ∃ T x, v = .ref T ∧ H T = none ∧ H' = upd H T (.tup [.int (i : Nat), x]) ∧ ∀ xs, SqT K H a xs → xs[i]? = some x, fun i H => ∃ xs : List V, SqT K H a xs ∧ xs.length ≤ i⟩
/-- enumerate at e, its iterator at j, the tuple at a: i items are drawn -/
structure EnT (a e j : Addr) (i : Nat) (h : Heap) : Prop where
  en : ∃ old, IsEnum h e j ((i : Nat) : Int) old
  it : h.IsTupleIter j a i
  ne : e ≠ j
theorem EnT.apart {a e j : Addr} {i : Nat} {h : Heap} {xs : Array Value} (T : EnT a e j i h) (p : h.IsTuple a xs) : a ≠ j ∧ a ≠ e := by
  obtain ⟨o, ho, hc, -⟩ := p
  obtain ⟨u, hu, hk, -⟩ := T.it
  obtain ⟨old, he⟩ := T.en
  refine ⟨fun z => ?_, fun z => ?_⟩
  · rw [← z, ho] at hu
    rw [← Option.some.inj hu, hc] at hk
    exact absurd (Value.type.inj hk) (by decide)
  · have y : h.get? e = some _ := he
    rw [← z, ho] at y
    rw [Option.some.inj y] at hc
    exact absurd (Value.type.inj hc) (by decide)
theorem turn_enumT {P : Program} {w : World} {K : PySem.W.Frag} {elts : List Expr} {kk : Nat} {tpos : Pos} (a e j : Addr) : Turn P w K (.Tuple elts kk tpos) (Itq K a) [e, j] e (EnT a e j) where
  mem := List.mem_cons_self ..
  obj i h T b hb := by
    rcases List.mem_cons.mp hb with z | z
    · rw [z]
      exact ⟨_, T.en.choose_spec, fun _ y => nomatch y⟩
    · rw [List.mem_singleton.mp z]
      obtain ⟨o, ho, -, hd⟩ := T.it
      exact ⟨o, ho, fun _ y => nomatch (hd.symm.trans y)⟩
  keep _ _ _ T k := ⟨T.en.imp fun _ y => k e (List.mem_cons_self ..) _ y, T.it.at fun o y => k j (List.mem_cons_of_mem _ (List.mem_cons_self ..)) o y, T.ne⟩
  item := by
    rintro X rfl rfl rfl calm i pins s σ H E I fp T ⟨xs, x, hq, hx⟩
    obtain ⟨us, rel, isT, -⟩ := I.tuple hq
    obtain ⟨u, hu, ru⟩ := rel.get hx
    obtain ⟨aj, ae⟩ := T.apart isT
    obtain ⟨old, en⟩ := T.en
    have lt : i < us.toArray.size := by rw [List.size_toArray]; exact (List.getElem?_eq_some_iff.mp hu).1
    have low : ∀ b ∈ [e, j], b < s.heap.objs.size := fun b hb => by
      rcases List.mem_cons.mp hb with z | z
      · rw [z]; exact Heap.lt_size en
      · rw [List.mem_singleton.mp z]; exact Heap.lt_size T.it.choose_spec.1
    have out : e ∉ [j, a] := fun z => by
      rcases List.mem_cons.mp z with z | z
      · exact T.ne z
      · exact ae (List.mem_singleton.mp z).symm
    refine wpAny_pyNext_enum_itemD (Draws.tuple (A := X.A.in1) (I.ok.hd calm) j a aj us.toArray) en ⟨T.it, isT⟩ lt T.ne out fun y h1 tk hy eo T1 pr _ kp => ⟨_, rfl, wpAny_letOwnedTupleGo_enum (s := { s with heap := h1, toks := tk + 1 }) eo fun h2 e2 sb => ?_⟩
    have ey : y = u := Option.some.inj (hy.symm.trans (by rw [List.getElem?_toArray]; exact hu))
    rw [ey] at pr e2
    have far : ∀ b, b ∉ [e, j] → b ≠ e ∧ b ≠ j := fun b hb => ⟨fun z => hb (by rw [z]; exact List.mem_cons_self ..), fun z => hb (by rw [z]; exact List.mem_cons_of_mem _ (List.mem_cons_self ..))⟩
    have keeps : ∀ b o, b ∉ [e, j] → s.heap.get? b = some o → h2.get? b = some o := fun b o hb y => (sb.2 b (far b hb).1).trans (kp b o (far b hb).1 (far b hb).2 y)
    have at2 := (sb.2 _ (Nat.ne_of_gt (low e (List.mem_cons_self ..)))).trans pr
    have ok2 : ObjOk X.prog X.w (upd H s.heap.objs.size (.tup [.int (i : Nat), x])) h2 s.heap.objs.size (.tup [.int (i : Nat), x]) := ⟨(by decide : 2 ≤ sizeLine), [_, u], .cons ⟨tk, rfl⟩ (.cons ru .nil), _, at2, rfl, _, rfl⟩
    exact ⟨.ref s.heap.objs.size, _, I.turnedNew keeps fp (Nat.le_refl _) ok2, rfl, ⟨_, x, rfl, I.hok.fresh (Nat.le_refl _), rfl, fun zs hz => I.tuple_inj hz hq ▸ hx⟩,
      ⟨⟨u, by rw [show ((i + 1 : Nat) : Int) = (i : Int) + 1 from rfl]; exact e2⟩, T1.1.at fun o z => (sb.2 j (Ne.symm T.ne)).trans z, T.ne⟩, fun b hb => (upd_ne (Nat.ne_of_lt (low b hb))).trans (fp b hb).1⟩
  done := by
    rintro X rfl rfl rfl calm i pins s σ H E I fp T ⟨xs, hq, hl⟩
    obtain ⟨us, rel, isT, -⟩ := I.tuple hq
    obtain ⟨old, en⟩ := T.en
    obtain ⟨n1, n2, -, n3, n4, n5⟩ := fp j (List.mem_cons_of_mem _ (List.mem_cons_self ..))
    have D : Draws X.prog X.w X.A.in1 j [j, a] i (fun _ _ => False) (fun n h => n = i ∧ h.IsTupleIter j a i ∧ h.IsTuple a us.toArray) :=
      ⟨fun _ _ st => ⟨_, st.2.1.choose_spec.1⟩, fun _ _ _ st k => ⟨st.1, st.2.1.at fun o z => k j (List.mem_cons_self ..) o z, st.2.2.at fun o z => k a (List.mem_cons_of_mem _ (List.mem_cons_self ..)) o z⟩,
        fun n _ _ _ lt st _ => absurd st.1 (Nat.ne_of_lt lt), fun _ _ _ st k => wpAny_nextOf_tuple_end (I.ok.hd calm) st.2.1 st.2.2 (by rw [List.getElem?_toArray, List.getElem?_eq_none]; rw [← rel.length]; exact hl) k⟩
    exact wpAny_pyNext_enum_endD D en ⟨rfl, T.it, isT⟩ fun h1 k => ⟨rfl, I.turned (t' := s.toks) k n1 n2 n3 n4 n5⟩
  self _ _ _ _ _ T q := wpAny_pyIter_enum T.en.choose_spec q
def iEnumT (K : PySem.W.Frag) (ta : TA) : TI := fun σ H R => ta σ H fun vs H1 => ∃ a xs, vs = [.ref a] ∧ SqT K H1 a xs ∧ R (Itq K a) H1
theorem pi_enumT {X : Cx} {e : Expr} {ta : TA} {p pos tpos : Pos} {elts : List Expr} {kk : Nat} (hg : Gl X "enumerate") (hm : X.mg "enumerate" = none) (ha : PA X [e] ta) (hs : starEach [e] X.env = [(false, eval e X.env)] := by rfl) :
    PI X (.Tuple elts kk tpos) (.Call (.Name "enumerate" p) [e] [] pos) (iEnumT X.K ta) where
  run pins s σ H R I h := by
    refine Call_ (ld_blt I hg hm boot_enumerate (PyProof.Rows.callWith_type1 (thn (ha.run pos pins s σ H _ I h) ?_) hs rfl))
    rintro us s1 ⟨vs, H1, I1, rel, a, xs, rfl, hq, k⟩
    rw [Vals.ref1 rel]
    obtain ⟨its, -, isT, -⟩ := I1.tuple hq
    refine enum_call (begins_tuple a its.toArray) isT fun n h' hn en it0 kp => wpAny_pyIter_enum en ⟨n + 1, [n + 1, n], EnT a (n + 1) n, Itq X.K a, H1, rfl, I1.kept (t' := s1.toks) kp, turn_enumT a (n + 1) n, ⟨⟨_, en⟩, ⟨_, it0, rfl, rfl⟩, Nat.succ_ne_self n⟩, ?_, k⟩
    intro b hb
    have le : s1.heap.objs.size ≤ b := by
      rcases List.mem_cons.mp hb with z | z
      · rw [z, ← hn]; exact Nat.le_succ _
      · rw [List.mem_singleton.mp z, hn]; exact Nat.le_refl _
    exact I1.fpOk le (I1.hok.fresh le)
theorem walk_enumT {K : PySem.W.Frag} {a : Addr} {xs : List V} : Walk (Itq K a) xs.length (fun H => SqT K H a xs) (YPair (fun i => some (.int (i : Nat))) (fun i => xs[i]?)) where
  goes i H lt g := ⟨xs, xs[i], g, List.getElem?_eq_getElem lt⟩
  stops H g := ⟨xs, g, Nat.le_refl _⟩
  yields i H x H' lt g y := let ⟨T, z, e, n, e', h⟩ := y; ⟨T, .int (i : Nat), z, e, n, e', rfl, h xs g⟩
end L2

/-! tuple(d), d a dict of ints and texts -/
namespace L2
open PySem PySem.Spec PyProof.Rows
section
variable {prog : Program} {w : World} {A : Around} {E : Value → Shared → Prop} {s : Shared} {T : String} {r d : Addr} {n : Nat} {P : Nat → Value → Prop} {OK : Heap → Prop}
theorem collect_src {Q : List Value → Shared → Prop} (K : PySem.W.KdlSrc prog w T r d n P OK) (hh : A.handled = none) (hok : OK s.heap) (hn : n ≤ sizeLine)
    (q : ∀ (h' : Heap) (tk : Nat) (acc : Array Value), (∀ b o, s.heap.get? b = some o → h'.get? b = some o) → ItemsOf P acc n → Q acc.toList { s with heap := h', toks := tk }) : wpAny (model prog w) A (collect (.ref r)) Q E s := by
  have lt := K.there _ hok
  unfold collect
  refine wpAny_bind (wpAny_runValue (codeAny_builtin F.entry_proto_collect ?_))
  rw [Around.under_plainId F.plain_proto_collect _]
  show wpAny _ A.in1 (newList [] >>= fun l => again (.builtin "list.__iadd__" ⟨[l, .ref r], []⟩)) _ _ s
  refine wpAny_bind (wpAny_newObj_type (wpAny_pure ⟨plainId_quiet F.plain_list_iadd _, codeAny_builtin F.entry_list_iadd ?_⟩))
  rw [Around.under_plainId F.plain_list_iadd _]
  show wpAny _ A.in1 (Builtin.List.listExtendWith (.ref s.heap.objs.size) (.ref r) (.ref s.heap.objs.size)) _ _ _
  have gS : (s.heap.push { cls := .type "list", data := .seq ([] : List Value).toArray }).get? s.heap.objs.size = some { cls := .type "list", data := .seq #[] 0 } := Heap.get?_push_size _ rfl
  have go := PySem.W.kdl_extend (A := A) (R := fun rr z => rr = .ok (.ret (.ref s.heap.objs.size)) ∧ ∃ (h' : Heap) (tk : Nat) (acc : Array Value) (c' : Nat), z = { s with heap := h', toks := tk } ∧
      (∀ b o, s.heap.get? b = some o → h'.get? b = some o) ∧ h'.get? s.heap.objs.size = some { cls := .type "list", dict := none, data := .seq acc c', slots := #[] } ∧ ItemsOf P acc n)
    (s := { s with heap := s.heap.push { cls := .type "list", data := .seq ([] : List Value).toArray } }) K hh (K.keep _ _ hok fun b _ o e => Heap.get?_push_of_some _ e) s.heap.objs.size (Nat.ne_of_gt lt.1) (Nat.ne_of_gt lt.2) (.ref s.heap.objs.size) 0 gS
    (fun h' tk acc c' hk e hi => ⟨rfl, h', tk, acc, c', rfl, fun b o y => hk b o (Nat.ne_of_lt (Heap.lt_size y)) (Heap.get?_push_of_some _ y), e, hi⟩) hn
  refine wpAny_mono go (fun fin z x => ?_) fun e z x => absurd x.1 (by simp)
  cases fin with
  | done f =>
    obtain ⟨e, h', tk, acc, c', rfl, hk, hS', hi⟩ := x
    cases e
    show wpAny _ A (load s.heap.objs.size >>= _) _ _ _
    exact wpAny_bind (wpAny_load hS' (wpAny_pure (q h' tk acc hk hi)))
  | again c =>
    refine ⟨x.1, codeAny_mono x.2 fun rr y hr' => ?_⟩
    obtain ⟨rfl, h', tk, acc, c', rfl, hk, hS', hi⟩ := hr'
    show wpAny _ A (load s.heap.objs.size >>= _) _ _ _
    exact wpAny_bind (wpAny_load hS' (wpAny_pure (q h' tk acc hk hi)))
theorem tuple_src {Q : Value → Shared → Prop} (K : PySem.W.KdlSrc prog w T r d n P OK) (hh : A.handled = none) (hok : OK s.heap) (hn : n ≤ sizeLine)
    (q : ∀ (h' : Heap) (tk : Nat) (acc : Array Value), (∀ b o, s.heap.get? b = some o → h'.get? b = some o) → ItemsOf P acc n → Q (.ref h'.objs.size) { s with heap := h'.push { cls := .type "tuple", data := .seq acc }, toks := tk }) :
    wpAny (model prog w) A (call (.type "tuple") [.ref r]) Q E s := by
  refine callType_codes (Q₁ := fun obj s₁ => s₁.TypeIs obj "tuple" ∧ Q obj s₁) F.called_tuple (F.typeCall_tuple_1 _) F.entry_object_init (codeAny_of_tree ?_) fun obj s₁ h₁ => ⟨h₁.1, F.args_object_init_2 obj _, object_init_meets F.called_tuple.init.lookup F.called_tuple.made (by decide) prog w A.in1 _ s₁ ⟨h₁.1, rfl, h₁.2⟩⟩
  show wpAny _ A.in1.in1 (do checkBuiltinCall "tuple.__new__" ⟨[.type "tuple", .ref r], []⟩; again (.builtin "tuple.__new__" ⟨[.type "tuple", .ref r], []⟩)) _ _ s
  refine wpAny_bind (wpAny_of_eq (F.newCall_tuple_1 _) (wpAny_pure ⟨plainId_quiet F.plain_tuple_new _, codeAny_builtin F.entry_tuple_new ?_⟩))
  rw [Around.under_plainId F.plain_tuple_new _]
  have hsub := sub_tuple_self
  have hinit := init_tuple_lookup
  have hmh := madeHere_tuple
  have ty : s.TypeIs (.ref r) T := K.type s hok
  have nt := K.notTuple
  have nl := K.notList
  have hh2 : A.in1.in1.handled = none := hh
  wp_walk using wpAny_typeOf ty, collect_src (A := A.in1.in1) K hh2 hok hn
  intro h' tk acc hk hacc
  show wpAny _ _ (Builtin.Tuple.tupleExact acc.toList.toArray >>= fun v => ret v) _ _ _
  unfold Builtin.Tuple.tupleExact
  rw [Array.toArray_toList]
  refine wpAny_bind (wpAny_newObj_type (wpAny_pure ?_) (by show acc.size ≤ sizeLine; rw [hacc.1]; exact hn))
  exact ⟨⟨_, Heap.get?_push_size _ rfl, rfl⟩, q h' tk acc hk hacc⟩
end
theorem dk_items {P : Program} {w : World} {kvs : List (Key × V)} {vs : List (Key × Value)} {acc : Array Value} (rk : KV kvs vs) (ia : ItemsOf (fun i v => ∃ k x, vs[i]? = some (k, x) ∧ (mixKind P w).is k v = true) acc vs.length) : Vals (kvs.map fun kv => kV kv.1) acc.toList := by
  refine vals_of_at (by rw [List.length_map]; exact (Paired.length rk).trans (ia.1.symm.trans Array.length_toList.symm)) fun j x u h1 h2 => ?_
  obtain ⟨k, y, hky, hi⟩ := ia.2 j u (by rw [← Array.getElem?_toList]; exact h2)
  have e1 : (kvs.map (·.1))[j]? = some k := by rw [KV.keys rk, List.getElem?_map, hky] <;> rfl
  rw [show (kvs.map fun kv => kV kv.1) = (kvs.map (·.1)).map kV by rw [List.map_map] <;> rfl, List.getElem?_map, e1] at h1
  cases h1
  exact keyIs_rel hi
def rTupD : List V → Hp → VK → Prop := fun xs H Q => ∃ p kvs, xs = [.ref p] ∧ H p = some (.dK kvs) ∧ ∀ q, H q = none → Q (.ref q) (upd H q (.tup (kvs.map fun kv => kV kv.1)))
theorem call_tuple_dK {X : Cx} (hc : X.calm = true) : CallR X (.type "tuple") rTupD := by
  intro pins s σ H xs us Q I r h
  obtain ⟨p, kvs, rfl, hk, q⟩ := h
  rw [Vals.ref1 r]
  obtain ⟨z, lo, vs, rk, hd⟩ := (show ObjOk X.prog X.w H s.heap p (.dK kvs) from I.hok p _ hk)
  obtain ⟨ep, hat⟩ := hd.dictAt
  have hl : kvs.length = vs.length := Paired.length rk
  refine tuple_src (PySem.W.kdl_dict (knd := mixKind X.prog X.w) (kvs := vs) (ep := ep) lo) (I.ok.hd hc) hat (by rw [← hl]; exact z) fun h' tk acc keep ia => ?_
  have I1 : Inv X pins σ H { s with heap := h', toks := tk } := I.kept (t' := tk) keep
  refine ⟨.ref h'.objs.size, upd H h'.objs.size (.tup (kvs.map fun kv => kV kv.1)), I1.laid (t' := tk) (fun b o e => Heap.get?_push_of_some _ e) (Nat.le_refl _) (show ObjOk X.prog X.w _ _ _ (.tup (kvs.map fun kv => kV kv.1)) from ⟨?_, acc.toList, dk_items rk ia, by rw [Array.toArray_toList]; exact IsTup.new _ _⟩), rfl, q _ (I1.hok.fresh (Nat.le_refl _))⟩
  rw [List.length_map]
  exact z
end L2

/-! len(o), k in o, o[k] by own __len__, __contains__, __getitem__ -/
namespace L2
open PySem PySem.Spec PyProof.Rows
section
variable {X : Cx} {CX : CXT} {C f : Addr} {fd : FuncData} {ps : List Str} {sp : Sp} {k : Nat} {E : XK}
theorem call_ownA (F : FnOk X.prog X.w X.K X.mg X.base CX k f fd ps sp) (hb : Binds X.K fd ps []) {A : Around} (hr : Room k A) (hA : A.frames = X.A.frames) (hx : Passes CX X E) {pins : List (Addr × Obj)} {s : Shared} {σ : St} {H : Hp} {us : List Value} {vs : List V} {Q : VK}
    (I : Inv X pins σ H s) (r : Vals vs us) (h : sp vs H Q E) : wpAny (model X.prog X.w) A (call (.ref f) us) (EP X pins σ Q) X.xe s := by
  have e := I.env0
  have e0 : Env0 X.prog X.w X.K X.mg X.base A X.stack s H := ⟨by rw [hA]; exact e.frames, e.mod, e.bs, e.bsz, e.funs, e.frf, e.hok, e.bare⟩
  have hl : us.length = ps.length := by rw [← r.length]; exact F.len _ _ _ _ h
  have hbd := hb s us I.kIn (by simpa using hl)
  rw [List.append_nil] at hbd
  refine wpAny_call (codeAny_mono (F.run A X.stack s H ⟨us, []⟩ us vs Q E hr e0 hbd r h) fun r z hq => ?_)
  cases r with
  | error e => exact hx pins σ H s e z I hq
  | ok fl =>
    cases fl with
    | ret w => exact I.after hq
    | next => exact False.elim hq
    | brk => exact False.elim hq
    | cont => exact False.elim hq
/-- an own special method -/
structure OwnSp (K : PySem.W.Frag) (C f : Addr) (name : Str) : Prop where
  fi : PySem.W.findIn K (.ref C) name = some (some (.ref f))
  fn : PySem.W.isFn K (.ref f) = true
def rInO (C : Addr) (sp : Sp) (E : XK) (fl : Bool → Bool) : R2 := fun x y H Q => ∃ a dx fs, y = .ref a ∧ H a = some (.ins C dx fs) ∧ sp [.ref a, x] H (fun v H' => ∃ r, v = .bl r ∧ Q (.bl (fl r)) H') E
theorem has_own (F : FnOk X.prog X.w X.K X.mg X.base CX k f fd ps sp) (T : OwnSp X.K C f "__contains__") (hb : Binds X.K fd ps []) (hr : Room k X.A) (hx : Passes CX X E) {pins : List (Addr × Obj)} {s : Shared} {σ : St} {H : Hp} {a dx : Addr} {fs : List (Str × V)} {x : V} {v : Value} {Q : Bool → Shared → Prop} {R : Bool → Hp → Prop} (I : Inv X pins σ H s) (rx : RelV x v) (ha : H a = some (.ins C dx fs))
    (h : sp [.ref a, x] H (fun v H' => ∃ r, v = .bl r ∧ R r H') E) (q : ∀ r z H', Inv X pins σ H' z → R r H' → Q r z) : wpAny (model X.prog X.w) X.A (contains (.ref a) v) Q X.xe s := by
  obtain ⟨mA, J, _⟩ := ins_get I.hok ha
  obtain ⟨od, J, _⟩ := J.look
  have KX := I.kIn
  have sp : PySem.W.Looks (model X.prog X.w) s.heap (specialOf (.ref a) "__contains__") (some (.ref f)) := J.type.andThen (PySem.W.looks_findIn KX T.fi)
  unfold contains
  refine wpAny_holding ?_
  rw [show stdlibNamesSay? (.ref a) v = none by rfl]
  dsimp only
  refine wpAny_bind (sp.here ?_)
  refine wp_if_neg (by rw [show ((some (Value.ref f) : Option Value) == some Value.none) = false by rfl]; exact Bool.false_ne_true) ?_
  first
    | refine wpAny_bind ?_
    | refine wpAny_bind (wpAny_pure (wpAny_bind ?_))
  unfold callSpecialUnlessNone?
  refine wpAny_bind (sp.here (wpAny_holding (wpAny_bind ((PySem.W.bind_fn KX _ (beq_iff_eq.mp T.fn)).here ?_))))
  dsimp only
  refine wp_if_neg (by rw [show (Value.ref f == Value.none) = false by rfl]; exact Bool.false_ne_true) ?_
  first
    | refine wpAny_bind ?_
    | refine wpAny_bind (wpAny_pure (wpAny_bind ?_))
  refine thn (call_ownA F hb hr rfl hx I (.cons (show RelV (.ref a) (.ref a) from rfl) (.cons rx .nil)) h) fun w z hw => ?_
  obtain ⟨y, H', I', ry, r, rfl, qq⟩ := hw
  obtain rfl : w = Value.bool r := ry
  exact wpAny_pure (wpAny_truthy_bool (q r z H' I' qq))
theorem op_inO (F : FnOk X.prog X.w X.K X.mg X.base CX k f fd ps sp) (T : OwnSp X.K C f "__contains__") (hb : Binds X.K fd ps []) (hr : Room k X.A) (hx : Passes CX X E) : OpR X (compareOp .In) (rInO C sp E id) := by
  intro pins s σ H x y v u Q I rx ry h
  obtain ⟨a, dx, fs, rfl, ha, h⟩ := h
  cases ry
  show wpAny _ _ (do return Value.bool (← contains (.ref a) v)) _ _ s
  exact wpAny_bind (has_own (R := fun r H' => Q (.bl r) H') F T hb hr hx I rx ha h fun r z H' I' q => wpAny_pure ⟨.bl r, H', I', rfl, q⟩)
theorem op_notinO (F : FnOk X.prog X.w X.K X.mg X.base CX k f fd ps sp) (T : OwnSp X.K C f "__contains__") (hb : Binds X.K fd ps []) (hr : Room k X.A) (hx : Passes CX X E) : OpR X (compareOp .NotIn) (rInO C sp E not) := by
  intro pins s σ H x y v u Q I rx ry h
  obtain ⟨a, dx, fs, rfl, ha, h⟩ := h
  cases ry
  show wpAny _ _ (do return Value.bool (!(← contains (.ref a) v))) _ _ s
  exact wpAny_bind (has_own (R := fun r H' => Q (.bl (!r)) H') F T hb hr hx I rx ha h fun r z H' I' q => wpAny_pure ⟨.bl (!r), H', I', rfl, q⟩)
/-- len(o) -/
def rLenO (C : Addr) (sp : Sp) (E : XK) : List V → Hp → VK → Prop := fun xs H Q => ∃ a dx fs, xs = [.ref a] ∧ H a = some (.ins C dx fs) ∧ sp [.ref a] H (fun v H' => ∃ n : Nat, v = .int n ∧ n < 2 ^ 62 ∧ Q (.int n) H') E
theorem call_lenO (F : FnOk X.prog X.w X.K X.mg X.base CX k f fd ps sp) (T : OwnSp X.K C f "__len__") (hb : Binds X.K fd ps []) (hr : Room k X.A.in1) (hx : Passes CX X E) : CallR X (.builtin "len") (rLenO C sp E) := by
  intro pins s σ H xs us Q I r h
  obtain ⟨a, dx, fs, rfl, ha, h⟩ := h
  rw [Vals.ref1 r]
  obtain ⟨mA, J, _⟩ := ins_get I.hok ha
  obtain ⟨od, J, _⟩ := J.look
  refine Calls.call_function_entry kind_len plain_len entry_len (args_len1 _) ?_
  unfold Builtin.«len»
  refine wpAny_bind (m := oneArg "len" _) (wpAny_pure ?_)
  refine wpAny_bind (m := callSpecial? (.ref a) (Str.ofString "__len__")) (PySem.W.special_fn (name := Str.ofString "__len__") I.kIn J T.fi (beq_iff_eq.mp T.fn) ?_)
  refine thn (call_ownA (A := X.A.in1) F hb hr rfl hx I (.cons (show RelV (.ref a) (.ref a) from rfl) .nil) h) fun w z hw => ?_
  obtain ⟨y, H', I', ry, n, rfl, hn, q⟩ := hw
  obtain ⟨t, rfl⟩ := ry
  dsimp only
  refine wpAny_bind (wpAny_holding (wpAny_pure ?_))
  refine wpAny_bind (wpAny_letGo ?_)
  have h1 : ¬ ((n : Int) < 0) := by omega
  have h2 : ¬ ((n : Int) ≥ 2 ^ 63) := by omega
  refine wp_if_neg h1 ?_
  first
    | refine wp_if_neg h2 ?_
    | refine wpAny_bind (wpAny_pure (wp_if_neg h2 ?_))
  first
    | exact wpAny_bind (wpAny_mkInt (wpAny_pure ⟨_, rfl, .int n, H', I'.tok _, ⟨_, rfl⟩, q⟩))
    | exact wpAny_bind (wpAny_pure (wpAny_bind (wpAny_mkInt (wpAny_pure ⟨_, rfl, .int n, H', I'.tok _, ⟨_, rfl⟩, q⟩))))
/-- o[k] -/
def rIxO (C : Addr) (sp : Sp) (E : XK) : R2 := fun x y H Q => ∃ a dx fs, x = .ref a ∧ H a = some (.ins C dx fs) ∧ sp [.ref a, y] H Q E
theorem pe_ixO {a b : Expr} {ta tb : TE} {pos : Pos} (F : FnOk X.prog X.w X.K X.mg X.base CX k f fd ps sp) (T : OwnSp X.K C f "__getitem__") (hf : PySem.W.fnIn X.K f = true) (hb : Binds X.K fd ps []) (hr : Room k X.A.in1) (hx : Passes CX X E) (ha : PE X a ta) (hbb : PE X b tb)
    (hs : ∀ o i, subscripted b true o i = runValue (.builtin "lifetime.subscript" ⟨[o, i], []⟩) := by intro _ _; rfl) : PE X (.Subscript a b pos) (tOp (rIxO C sp E) ta tb) := by
  refine ⟨fun pins s σ H Q I h => ?_⟩
  refine Subscript_ (binT ha hbb I h fun v u s2 x y H2 I2 rx ry q => ?_)
  obtain ⟨p, dx, fs, rfl, hp, q⟩ := q
  cases rx
  obtain ⟨mA, J, _⟩ := ins_get I2.hok hp
  obtain ⟨od, J, _⟩ := J.look
  obtain ⟨m, hF⟩ := I2.fr
  exact PySem.W.sub_K hF I2.ok.mod.kin J T.fi hf T.fn (call_ownA (A := X.A.in1) F hb hr rfl hx I2 (.cons (show RelV (.ref p) (.ref p) from rfl) (.cons ry .nil)) q) (hs _ _)
end
end L2

/-! == of two dicts with tuple keys that hold the very same objects, or that are of unlike lengths -/
namespace L2
open PySem PySem.Spec PyProof.Rows
section
variable {prog : Program} {w : World} {K : Type} [DecidableEq K] {knd : HeapKind prog w K} {A : Around} {E : Value → Shared → Prop} {s : Shared}
theorem same_objs {nm : String} {a b : Addr} {xa xb : List (K × Addr × Value)} {Q : Bool → Shared → Prop} (hu : knd.room A) (ha : (a == sysModules) = false) (hb : (b == sysModules) = false) (da : s.heap.DictOfH knd a xa) (db : s.heap.DictOfH knd b xb)
    (hits : xa.length = xb.length → ∀ x ∈ xa, ∃ q r, x.2.2 = .ref r ∧ (x.1, q, Value.ref r) ∈ xb) (q : Q (decide (xa.length = xb.length)) s) : wpAny (model prog w) A (Builtin.Dict.samePairs nm a b) Q E s := by
  obtain ⟨oa, ea, pa, goa, _, gda, hea, hia, hna⟩ := da
  obtain ⟨ob, eb, pb, gob, _, gdb, heb, hib, hnb⟩ := db
  have sa : ea.size = xa.length := size_of_entries hea
  have sb : eb.size = xb.length := size_of_entries heb
  unfold Builtin.Dict.samePairs Builtin.Dict.showsAll
  rw [if_neg (show ¬ (a == sysModules) = true by rw [ha]; exact Bool.false_ne_true), if_neg (show ¬ (b == sysModules) = true by rw [hb]; exact Bool.false_ne_true)]
  refine wpAny_bind (wpAny_pure (wpAny_bind (wpAny_pure ?_)))
  refine wpAny_bind (wpAny_dictEntries goa gda ?_)
  dsimp only
  refine wpAny_bind (wpAny_dictEntries gob gdb ?_)
  by_cases hsz : xa.length = xb.length
  case neg =>
    rw [decide_eq_false hsz] at q
    refine wp_if_pos (by rw [sa, sb]; simpa using hsz) ?_
    exact wpAny_bind (wpAny_rule (wpAny_pure q))
  case pos =>
    rw [decide_eq_true hsz] at q
    have hits := hits hsz
    refine wp_if_neg (by rw [sa, sb, hsz]; simp) ?_
    first
      | refine wpAny_bind (wpAny_dictEpoch goa gda ?_)
      | refine wpAny_bind (wpAny_pure (wpAny_bind (wpAny_dictEpoch goa gda ?_)))
    refine wpAny_bind ?_
    rw [Std.Legacy.Range.forIn_eq_forIn_range']
    simp only [Std.Legacy.Range.size, Nat.sub_zero, Nat.add_sub_cancel, Nat.div_one]
    refine wpAny_forIn_list _ (fun rest r z => z = s ∧ r = (none, ()) ∧ ∀ i ∈ rest, i < xa.length) _ ?_ ?_ _ _ ⟨rfl, rfl, fun i hi => ?_⟩
    · rintro i rest r z ⟨rfl, rfl, hall⟩
      have hlt := hall i List.mem_cons_self
      have hx : xa[i]? = some xa[i] := List.getElem?_eq_getElem hlt
      have hm : xa[i] ∈ xa := List.getElem_mem hlt
      generalize xa[i] = x at hx hm
      obtain ⟨k, p, v⟩ := x
      obtain ⟨y, t, e, hy⟩ := hits _ hm
      dsimp only at e hy
      subst e
      refine wpAny_bind (wpAny_dictEntries goa gda ?_)
      rw [entry_at hea i, hx]
      show wpAny _ _ (holding [Value.ref p, Value.ref t] _ >>= _) _ _ _
      obtain ⟨j, hj, ej⟩ := List.getElem_of_mem hy
      have hjj : xb[j]? = some (k, y, Value.ref t) := by rw [List.getElem?_eq_getElem hj, ej]
      refine wpAny_bind (wpAny_holding (wpAny_bind (wpAny_dictFind_heap hu (hia _ hm) gob gdb heb hib hnb (fun no => absurd hjj (no j _)) fun j' pq hj' => ?_)))
      obtain rfl : j' = j := idxH_unique hnb hj' hjj
      refine wpAny_bind (wpAny_dictEntries gob gdb ?_)
      rw [entry_at heb j', hjj]
      refine wpAny_holding ?_
      show wpAny _ _ (eqBool (.ref t) (.ref t)) _ _ _
      unfold eqBool
      refine wpAny_holding (wp_if_pos (by simp) (wpAny_bind (wpAny_rule (wpAny_pure ?_))))
      simp only [Bool.not_true, Bool.false_eq_true, if_false]
      first
        | refine wpAny_bind (wpAny_dictEpoch goa gda ?_)
        | refine wpAny_bind (wpAny_pure (wpAny_bind (wpAny_dictEpoch goa gda ?_)))
      refine wp_if_neg (by simp) ?_
      first
        | exact wpAny_pure ⟨rfl, rfl, fun i hi => hall i (.tail _ hi)⟩
        | exact wpAny_bind (wpAny_pure (wpAny_pure ⟨rfl, rfl, fun i hi => hall i (.tail _ hi)⟩))
    · rintro r z ⟨rfl, rfl, _⟩
      exact wpAny_pure q
    · rw [sa] at hi
      have := List.mem_range'.mp hi
      omega
theorem eq_objs {a b : Addr} {xa xb : List (K × Addr × Value)} {Q : Value → Shared → Prop} (hu : knd.room A.in1) (hu2 : A.units < cLine) (ha : (a == sysModules) = false) (hb : (b == sysModules) = false) (da : s.heap.DictOfH knd a xa) (db : s.heap.DictOfH knd b xb)
    (hits : xa.length = xb.length → ∀ x ∈ xa, ∃ q r, x.2.2 = .ref r ∧ (x.1, q, Value.ref r) ∈ xb) (q : Q (.bool (decide (xa.length = xb.length))) s) : wpAny (model prog w) A (compareOp .Eq (.ref a) (.ref b)) Q E s := by
  have ta : s.TypeIs (.ref a) "dict" := let ⟨o, _, _, ho, hx, _⟩ := da; ⟨o, ho, hx.1⟩
  have tb : s.TypeIs (.ref b) "dict" := let ⟨o, _, _, ho, hx, _⟩ := db; ⟨o, ho, hx.1⟩
  refine wpAny_richCompare_same_room (op := .Eq) ta tb PySem.F.slot_dict_eq (wpAny_call_entry PySem.F.slot_dict_eq ta PySem.F.entry_dict_eq ?_ (PySem.F.args_dict_eq_2 _ _)) hu2
  show wpAny _ _ (Builtin.Dict.dictSlotArgs "__eq__" ⟨[.ref a, .ref b], []⟩ >>= _) _ _ s
  refine wpAny_bind ?_
  unfold Builtin.Dict.dictSlotArgs
  refine wpAny_bind (wpAny_notOrdered_dict ta ?_)
  show wpAny _ _ (pure (Value.ref a, Value.ref b)) _ _ s
  refine wpAny_pure (wpAny_bind (wpAny_isInstance (T := "dict") tb PySem.F.sub_dict_dict ?_))
  simp only [Bool.not_true, Bool.false_eq_true, if_false]
  refine wpAny_bind (wpAny_pure (wpAny_bind (wpAny_pure ?_)))
  refine wpAny_bind (same_objs hu ha hb da db hits ?_)
  refine wpAny_pure ⟨_, rfl, (fun x => nomatch x), ?_⟩
  simpa using q
end
theorem kt_hits {H : Hp} {ls : List (List Key × V)} {xb : List (List Key × Addr × Value)} (rb : KT H ls xb) : ∀ {ks : List (List Key × V)} {xa : List (List Key × Addr × Value)}, KT H ks xa → (∀ p ∈ ks, ∃ r, p.2 = .ref r ∧ valV ls p.1 = some (.ref r)) → ∀ x ∈ xa, ∃ q r, x.2.2 = Value.ref r ∧ (x.1, q, Value.ref r) ∈ xb := by
  intro ks xa ra
  induction ra with
  | nil => exact fun _ x hx => nomatch hx
  | @cons p x ks xa h _ more =>
    intro hp y hy
    rcases List.mem_cons.mp hy with rfl | hy
    · obtain ⟨r, e, hv⟩ := hp p List.mem_cons_self
      obtain ⟨e1, _, e3⟩ := h
      rw [e] at e3
      have ev : y.2.2 = Value.ref r := e3
      have z := rb.val p.1
      rw [hv] at z
      cases hk : atKey xb p.1 with
      | none => rw [hk] at z; exact (show False from z).elim
      | some m =>
        rw [hk] at z
        have z : m.2 = Value.ref r := z
        refine ⟨m.1, r, ev, ?_⟩
        unfold atKey at hk
        obtain ⟨t, ht, et⟩ := Option.map_eq_some_iff.mp hk
        have h1 := List.mem_of_find?_eq_some ht
        have h2 : t.1 = p.1 := by simpa using List.find?_some ht
        rw [show (y.1, m.1, Value.ref r) = t by rw [← e1, ← h2, ← et, ← z, ← et]]
        exact h1
    · exact more (fun q hq => hp q (.tail _ hq)) y hy
/-- d == e -/
def rEqT : R2 := fun x y H Q => ∃ a b ks ls, x = .ref a ∧ y = .ref b ∧ H a = some (.dT ks) ∧ H b = some (.dT ls) ∧ (ks.length = ls.length → ∀ p ∈ ks, ∃ r, p.2 = .ref r ∧ valV ls p.1 = some (.ref r)) ∧ Q (.bl (decide (ks.length = ls.length))) H
theorem op_eqT {X : Cx} (hu : X.A.units + 1 < cLine) : OpR X (compareOp .Eq) rEqT := by
  intro pins s σ H x y v u Q I rx ry h
  obtain ⟨a, b, ks, ls, rfl, rfl, ha, hb, hits, q⟩ := h
  cases rx
  cases ry
  obtain ⟨_, ya, xa, ra, da⟩ := dt_of I.hok ha
  obtain ⟨_, yb, xb, rb, db⟩ := dt_of I.hok hb
  have la : ks.length = xa.length := Paired.length ra
  have lb : ls.length = xb.length := Paired.length rb
  refine eq_objs (show X.A.in1.units < cLine from hu) (by omega) ya yb da db (fun e => kt_hits rb ra (hits (by omega))) ⟨.bl (decide (ks.length = ls.length)), H, I, ?_, q⟩
  rw [la, lb]
  rfl
end L2

/-! x(lambda a=e: body): a lambda with one default that it does not read -/
namespace LamX
open L2 PySem PyProof.Rows PySem.Spec
/-- the lambda's name in the tables of code, and what it holds of the names around it -/
abbrev lq (X : Cx) : Str := X.env.qual ++ "<lambda>"
abbrev lclo (X : Cx) (scope : Scope) : List (Str × Addr) := cloFrom X.env.cells scope.names []
/-- the lambda at f, its code at c, the tuple of its default u at D; nobody holds f and D -/
structure LamAt (X : Cx) (H : Hp) (h : Heap) (params : Arguments) (body : Expr) (scope : Scope) (u : Value) (f c D : Addr) : Prop where
  fn : ∃ doc pm ct, h.get? f = some (PySem.W.kdv_obj "<lambda>" (lq X) params (.expr body) scope (lclo X scope) (.ref D) doc pm c ct)
  tup : h.get? D = some (PySem.W.kdv_tup [u])
  off : ∀ b, b = f ∨ b = D → H b = none ∧ b ∉ frs X.stack
/-- a table of codes with one row more -/
def grown (H : Hp) (P : Addr) (ps : Array Value) (pos : Pos) (c : Addr) (q : Str) : Hp := upd (upd H P (.tbl (ps ++ #[rawInt pos.line, rawInt pos.col, .ref c]))) c (CodeO c q)
section
variable {T : List (Addr × Str)} {H : Hp} {P c : Addr} {ps : Array Value} {pos : Pos} {q : Str}
theorem grown_ext (hP : H P = some (.tbl ps)) (new : H c = none) : ExtN H (grown H P ps pos c q) := by
  intro b o hb nt
  have b1 : b ≠ c := ne_of_none hb new
  have b2 : b ≠ P := by
    intro z
    rw [z] at hb
    exact nt ps (Option.some.inj (hb.symm.trans hP))
  exact (upd_ne b1).trans ((upd_ne b2).trans hb)
theorem grown_tabs (hT : Tabs T H) (hP : H P = some (.tbl ps)) (ok : TriplesOk ps.toList) (one : ∀ p ∈ T, p.1 = P → p.2 = q) (new : H c = none) : Tabs T (grown H P ps pos c q) := by
  intro p hp
  obtain ⟨rs, at0, ok0, codes⟩ := hT p hp
  have old : ∀ {d : Addr}, H d = some (CodeO d p.2) → grown H P ps pos c q d = some (CodeO d p.2) := fun h => grown_ext hP new _ _ h codeO_ne
  by_cases same : p.1 = P
  · have er : rs = ps := by
      rw [same, hP] at at0
      injection at0 with z
      injection z with z
      exact z.symm
    subst er
    have el : (rs ++ #[rawInt pos.line, rawInt pos.col, Value.ref c]).toList = rs.toList ++ [rawInt pos.line, rawInt pos.col, .ref c] := Array.toList_append
    refine ⟨_, ?_, by rw [el]; exact PySem.TriplesOk_snoc _ _ _ _ ok, ?_⟩
    · rw [same]
      exact (upd_ne (ne_of_none hP new)).trans upd_same
    · intro p' cv found
      rw [el] at found
      refine (among_app _ ok found).elim (fun z => ?_) fun z => ⟨c, z, by rw [one p hp same]; exact upd_same⟩
      obtain ⟨d, e, k⟩ := codes p' cv z
      exact ⟨d, e, old k⟩
  · refine ⟨rs, (upd_ne (ne_of_none at0 new)).trans ((upd_ne same).trans at0), ok0, fun p' cv found => ?_⟩
    obtain ⟨d, e, k⟩ := codes p' cv found
    exact ⟨d, e, old k⟩
end
section
variable {X : Cx} {pins : List (Addr × Obj)} {σ : L2.St} {H : Hp} {s : Shared}
/-- a new address is nobody's and no frame -/
theorem new_off (I : Inv X pins σ H s) {b : Addr} (le : s.heap.objs.size ≤ b) : H b = none ∧ b ∉ frs X.stack := by
  refine ⟨I.hok.fresh le, fun z => ?_⟩
  cases List.mem_cons.mp (I.stkSub b z) with
  | inl e => exact absurd I.lt (by rw [← e]; exact Nat.not_lt_of_le le)
  | inr e => exact I.nofs le e
theorem lam_made {T : List (Addr × Str)} {c P : Addr} {params : Arguments} {body : Expr} {scope : Scope} {pos : Pos} {E : Value → Shared → Prop} {Q : Value → Shared → Prop} {u : Value} (I : Inv X pins σ H s) (TB : TabB X.base X.mg c P) (code : X.env.code = .ref c)
    (mem : (P, lq X) ∈ T) (one : ∀ p ∈ T, p.1 = P → p.2 = lq X) (hT : Tabs T H) (frees : ∀ y ∈ scope.names, y.2 = .free → ∃ c, X.env.cells.lookup y.1 = some c) (kw : params.kwonlyargs = [])
    (q : ∀ f d D H1 s1, Inv X pins σ H1 s1 → ExtN H H1 → Tabs T H1 → H1 d = some (CodeO d (lq X)) → LamAt X H1 s1.heap params body scope u f d D → Q (.ref f) s1) :
    wpAny (model X.prog X.w) X.A (makeFunction "<lambda>" (lq X) params (.expr body) scope X.env [u] [] [] pos pos.line) Q E s := by
  rw [makeFunction_eq]
  simp only [kw, List.zip_nil_left, List.filterMap_nil, List.isEmpty_nil, List.isEmpty_cons, Bool.false_eq_true, if_false, if_true, pure_bind]
  have I0 : Inv X pins σ H { s with heap := s.heap.push (PySem.W.kdv_tup [u]), toks := s.toks } := I.kept fun _ _ e => Heap.get?_push_of_some _ e
  have hD : (s.heap.push (PySem.W.kdv_tup [u])).get? s.heap.objs.size = some (PySem.W.kdv_tup [u]) := Heap.get?_push_size _ rfl
  have oD := new_off I (Nat.le_refl s.heap.objs.size)
  refine wpAny_bind (wpAny_newTextTuple ?_)
  have sz0 : s.heap.objs.size < (s.heap.push (PySem.W.kdv_tup [u])).objs.size := Heap.lt_size hD
  show wpAny _ _ _ _ _ { s with heap := s.heap.push (PySem.W.kdv_tup [u]), toks := s.toks }
  generalize hz : ({ s with heap := s.heap.push (PySem.W.kdv_tup [u]), toks := s.toks } : Shared) = z at I0
  have ez : z.heap = s.heap.push (PySem.W.kdv_tup [u]) := by rw [← hz]
  rw [← ez] at hD sz0
  generalize s.heap.objs.size = D at hD oD sz0
  obtain ⟨ps, hP, ok, codes⟩ := hT _ mem
  have gP : z.heap.get? P = some (PySem.W.tabObj ps) := I0.hok P _ hP
  have main := I0.mod.glob.keeps I0.bk
  have code0 := TB.code.keeps I0.bk
  have bts := TB.bm.keeps I0.bk
  cases found : codeAmong pos ps.toList with
  | some cv =>
    obtain ⟨d, rfl, hd⟩ := codes pos cv found
    refine PySem.W.kdv_makeTailHit (closure_ok frees) I0.ok.glob main code code0 gP ok found bts fun ct doc h' tk kp le => ?_
    have up : ∀ b o, z.heap.get? b = some o → (h'.push (PySem.W.kdv_obj "<lambda>" (lq X) params (.expr body) scope (lclo X scope) (.ref D) doc ((X.mg "__name__").getD .none) d ct)).get? b = some o := fun b o e => Heap.get?_push_of_some _ (kp b o e)
    refine q _ d D H _ (I0.kept up) (ExtN.refl H) hT hd ⟨⟨doc, _, ct, Heap.get?_push_size _ rfl⟩, up _ _ hD, fun b hb => ?_⟩
    rcases hb with rfl | rfl
    · exact new_off I0 le
    · exact oD
  | none =>
    refine PySem.W.kdv_makeTail (closure_ok frees) I0.ok.glob main code code0 gP ok found TB.gP bts fun d ct doc h' tk ext ge lt rec tab => ?_
    obtain ⟨d', oc, vs, t, e, r1, r2, r3⟩ := rec
    injection e with e
    subst e
    have nd := I0.hok.fresh ge
    have nP : D ≠ P := fun y => by
      rw [y, hP] at oD
      exact nomatch oD.1
    have lay := inv_table (h' := h'.push (PySem.W.kdv_obj "<lambda>" (lq X) params (.expr body) scope (lclo X scope) (.ref D) doc ((X.mg "__name__").getD .none) d ct)) (t' := tk) I0 hP (fun b o nb e => Heap.get?_push_of_some _ (ext b o nb e)) (Heap.get?_push_of_some _ tab) ge ⟨oc, vs, t, Heap.get?_push_of_some _ r1, r2, r3⟩
    have big := Nat.le_trans ge (Nat.le_of_lt lt)
    refine q _ d D (grown H P ps pos d (lq X)) _ lay (grown_ext hP nd) (grown_tabs hT hP ok one nd) upd_same ⟨⟨doc, _, ct, Heap.get?_push_size _ rfl⟩, Heap.get?_push_of_some _ (ext D _ nP hD), fun b hb => ?_⟩
    rcases hb with rfl | rfl
    · exact ⟨(upd_ne (Nat.ne_of_gt lt)).trans ((upd_ne (Nat.ne_of_gt (Nat.lt_of_lt_of_le (Heap.lt_size gP) big))).trans (I0.hok.fresh big)), (new_off I0 big).2⟩
    · exact ⟨(upd_ne (Nat.ne_of_lt (Nat.lt_of_lt_of_le sz0 ge))).trans ((upd_ne nP).trans oD.1), oD.2⟩
/-- one parameter a that the def around does not have, no other own names -/
structure LamD (N : List Str) (a : Str) (sc scope : Scope) : Prop where
  fun_ : scope.kind = .function ∧ scope.isCoroutine = false ∧ scope.isGenerator = false
  own : ∀ y ∈ scope.names, y.2 ≠ .cell ∧ (y.2 = .local → y.1 = a)
  held : ∀ y ∈ scope.names, y.2 = .free → (sc.names.lookup y.1 = some .cell ∨ sc.names.lookup y.1 = some .free)
  par : scope.names.lookup a = some .local
  out : a ∉ N
def lamDB (N : List Str) (a : Str) (sc scope : Scope) : Bool :=
  decide (scope.kind = .function) && !scope.isCoroutine && !scope.isGenerator && (scope.names.all fun y => !decide (y.2 = .cell) && (!decide (y.2 = .local) || y.1 == a) && (!decide (y.2 = .free) || decide (sc.names.lookup y.1 = some .cell) || decide (sc.names.lookup y.1 = some .free))) && decide (scope.names.lookup a = some .local) && !N.any (· == a)
theorem lamD_by {N : List Str} {a : Str} {sc scope : Scope} (h : lamDB N a sc scope = true) : LamD N a sc scope := by
  unfold lamDB at h
  simp only [Bool.and_eq_true, Bool.or_eq_true, Bool.not_eq_true', decide_eq_true_eq, decide_eq_false_iff_not, List.all_eq_true, beq_iff_eq] at h
  obtain ⟨⟨⟨⟨⟨h1, h2⟩, h3⟩, h4⟩, h5⟩, h6⟩ := h
  refine ⟨⟨h1, h2, h3⟩, fun y hy => ⟨(h4 y hy).1.1, fun e => (h4 y hy).1.2.resolve_left fun k => k e⟩, fun y hy e => ?_, h5, fun hm => ?_⟩
  · exact (or_assoc.mp (h4 y hy).2).resolve_left fun k => k e
  · have h7 : (N.any fun x => x == a) = true := List.any_eq_true.mpr ⟨a, hm, beq_self_eq_true a⟩
    exact nomatch h7.symm.trans h6
theorem LamD.has {N : List Str} {a : Str} {scope : Scope} (L : LamD N a X.env.scope scope) (ok : X.Ok) : ∀ y ∈ scope.names, y.2 = .free → ∃ c, X.env.cells.lookup y.1 = some c := fun y hy e => ok.has _ (L.held y hy e)
/-- a cell that the lambda holds is the cell around it, and each free name has one -/
theorem LamD.cell {N : List Str} {a : Str} {scope : Scope} (L : LamD N a X.env.scope scope) (ok : X.Ok) {y : Str} {c : Addr} (h : (lclo X scope).lookup y = some c) : X.env.cells.lookup y = some c := by
  rcases cloFrom_mem (PySem.mem_of_lookup h) with z | ⟨m, e⟩
  · exact nomatch z
  · have ⟨c1, h1⟩ := L.has ok _ m rfl
    rw [e, show X.env.cells.lookup y = some c1 from h1]
    rfl
theorem clo_has {scope : Scope} {y : Str} (h : scope.names.lookup y = some .free) : ∃ c, (lclo X scope).lookup y = some c := mem_lookup (cloFrom_has (acc := []) (PySem.mem_of_lookup h))
/-- the context of the body, when the call has laid its frame -/
theorem lam_entered {HZ : Hp} {s1 : Shared} {a : Str} {m : Str → Option Value} {A : Around} {outer : List Env} {E : XK} {scope : Scope} {f c : Addr} {h1 : Heap} {tk : Nat} (I : Inv X pins σ H s) (L : LamD X.N a X.env.scope scope) (e0 : Env0 X.prog X.w X.K X.mg X.base A outer s1 HZ) (calm : A.handled = none)
    (un : Un (frs X.stack) [] H HZ s.heap s1.heap) (ns : h1.Ns s1.heap.objs.size m) (kp : ∀ b o, s1.heap.get? b = some o → h1.get? b = some o) : Inv (lamCx X A outer s1 HZ E scope f c) [] σ HZ { s1 with heap := h1, toks := tk } := by
  have none_ : ∀ {b : Addr}, b ∉ ([] : List Addr) := fun z => nomatch z
  have through : ∀ {d : Addr} {v : Option Value}, H d = none → s.heap.IsCell d v → h1.IsCell d v := by
    rintro d v n ⟨o, ho, hd⟩
    obtain ⟨sl, ho'⟩ := un.any ho n none_
    exact ⟨_, kp _ _ ho', hd⟩
  have okL : (lamCx X A outer s1 HZ E scope f c).Ok :=
    { mod := e0.mod, kind := L.fun_.1, glob := rfl, blt := rfl, above := Nat.le_refl _, inj := fun x y d h1 h2 => I.ok.inj x y d (L.cell I.ok h1) (L.cell I.ok h2),
      has := fun x hx => (show scope.names.lookup x = some .cell ∨ scope.names.lookup x = some .free from hx).elim (fun z => absurd rfl (L.own _ (PySem.mem_of_lookup z)).1) clo_has,
      cab := fun _ _ z => (nomatch z), hd := fun _ => calm, frames := Around.frames_deeper e0.frames, stk := .inr ⟨rfl, rfl⟩, exf := fun _ z => absurd z none_, bs := e0.bs, bsz := e0.bsz, noex := fun _ _ _ => none_, exfs := fun _ z => absurd z none_, funs := e0.funs, frf := e0.frf }
  refine { ok := okL, os := rfl, bare := e0.bare, base := Un.kept kp, loc := ⟨_, ns, fun i y v hy hv vis => ?_⟩, cell := fun y d h => ?_, free := e0.hok.fresh (Nat.le_refl _), freeC := fun y d h => ?_, pin := fun p hp => (nomatch hp), hok := e0.hok.kept kp, len := I.len }
  · have vis : Vis scope y := vis
    have hy : X.N[i]? = some y := hy
    rcases vis with k | k | k
    · have ea : y = a := (L.own _ (PySem.mem_of_lookup k)).2 rfl
      exact absurd (List.mem_of_getElem? (ea ▸ hy)) L.out
    · exact absurd rfl (L.own _ (PySem.mem_of_lookup k)).1
    · have up := L.held _ (PySem.mem_of_lookup k) rfl
      obtain ⟨m0, -, look⟩ := I.loc
      obtain ⟨r, hr, at0⟩ := look i y v hy hv (.inr up)
      obtain ⟨d, hd⟩ := clo_has (X := X) k
      have hd0 := L.cell I.ok hd
      refine ⟨r, hr, .inr ⟨.inr k, d, hd, ?_⟩⟩
      rcases at0 with ⟨loc, -⟩ | ⟨-, d1, h2, isc⟩
      · have loc : X.env.scope.names.lookup y = some .local := loc
        rcases up with z | z <;> exact nomatch loc.symm.trans z
      · obtain rfl : d = d1 := Option.some.inj (hd0.symm.trans h2)
        exact through (I.freeC y d hd0) isc
  · have hd := L.cell I.ok h
    exact (I.cell y d hd).imp fun v z => through (I.freeC y d hd) z
  · have hd := L.cell I.ok h
    obtain ⟨v, o, ho, -⟩ := I.cell y d hd
    exact un.free d o ho (I.freeC y d hd) none_
/-- what a call ends in is the value of the call's expression -/
theorem call_ends {CX : CXT} {E : XK} {Q : VK} {Y : Cx} {pinsY : List (Addr × Obj)} {τ : L2.St} {G : Hp} {z : Shared} {v : Value} {us : List Value} (J : Inv Y pinsY τ G z) (pass : Passes CX Y E)
    (run : codeAny (model Y.prog Y.w) Y.A (.call v ⟨us, []⟩) (CR CX Y.stack Y.prog Y.w G z Q E) z) : wpAny (model Y.prog Y.w) Y.A (call v us) (EP Y pinsY τ Q) Y.xe z := by
  refine wpAny_call (codeAny_mono run ?_)
  rintro (e | fl) z' k
  · exact pass pinsY τ G z e z' J k
  · cases fl with
    | ret r => exact J.after k
    | _ => exact k.elim
/-- the lambda called with nothing, in the def that got it -/
theorem pe_actD {CXg : CXT} {Eg : XK} {Ng : List Str} {qg : Str} {sg : Scope} {g f c D : Addr} {cdg u : Value} {params : Arguments} {body : Expr} {scope : Scope} {k i : Nat} {a par : Str} {pn : List (Addr × Obj)} {xe : Value → Shared → Prop} {W : WX} {E : XK} {tb : TE} {p1 p2 : Pos} {Y : Cx}
    (eY : Y = (cxOf CXg X.prog X.w X.K X.mg X.base Ng qg sg g cdg X.A X.stack s H Eg).tr pn xe) (I : Inv X pins σ H s) (L : LamD X.N par X.env.scope scope) (F : LamAt X H s.heap params body scope u f c D)
    (binds : ∀ doc pm ct, ∃ k, bindArgs (PySem.W.kdv_fn "<lambda>" (lq X) params (.expr body) scope (lclo X scope) (.ref D) doc pm (.ref c) ct) ⟨[], []⟩ = seqItems? (.ref D) >>= k ∧ k (some #[u]) = pure [(par, u)])
    (tk : Takes Y W) (up : ∀ cls d τ G, E cls d G → W cls d τ G) (room : Room (k + 1) (X.A.deeper (envOfC qg sg s.heap.objs.size g cdg)))
    (hb : ∀ A outer s H, Room k (A.deeper (lamEnv X scope s.heap.objs.size f c)) → PE (lamCx X A outer s H E scope f c) body tb)
    (hN : Ng[i]? = some a) (vis : Vis sg a) (hd : (a == ("__debug__" : Str)) = false) (hcd : (a == ("__classdict__" : Str)) = false) :
    PE Y (.Call (.Name a p1) [] [] p2) fun τ G Q => τ[i]? = some (some (.ref f)) ∧ G c = some (CodeO c (lq X)) ∧ tb σ G Q := by
  subst eY
  constructor
  rintro pinsY sY τ G Q J ⟨at0, cod, rd⟩
  refine wpAny_Call_Name_kw (thn ((pe_var (pos := p1) hN vis hd hcd).run pinsY sY τ G (fun v G' => v = .ref f ∧ G' = G) J ⟨_, at0, rfl, rfl⟩) ?_)
  rintro y s1 ⟨v, G1, J1, rel, rfl, rfl⟩
  obtain rfl : y = Value.ref f := rel
  obtain ⟨doc, pm, ct, hf⟩ := F.fn
  have un : Un (frs X.stack) [] H G1 s.heap s1.heap := J1.base
  have hf1 := un.keep f _ hf (F.off f (.inl rfl)).1 (F.off f (.inl rfl)).2 (fun z => nomatch z)
  have hD1 := un.keep D _ F.tup (F.off D (.inr rfl)).1 (F.off D (.inr rfl)).2 (fun z => nomatch z)
  obtain ⟨⟨oc, vs, t, k1, k2, k3⟩, -, -⟩ := J1.hok c _ cod
  refine PySem.W.callWith_F0 ⟨_, _, _, _, hf1⟩ ?_
  refine call_ends (us := []) J1 (passes_call tk up) (PySem.W.kla_callFunE room.depth hf1 rfl L.fun_.2.1 L.fun_.2.2 rfl ⟨c, oc, vs, t, rfl, k1, k2, k3⟩ ?_)
  obtain ⟨kk, b1, b2⟩ := binds doc pm ct
  rw [b1]
  refine wpAny_bind (wpAny_seqItems hD1 rfl ?_)
  rw [show [u].toArray = #[u] from rfl, b2]
  refine wpAny_pure (wpAny_newFunctionEnv (fun y hy => (L.own y hy).1) (fun y hy => List.mem_singleton.mp hy ▸ L.par) (fun h1 ns sb => ⟨J1.nolimit.fresh _ sb, ?_⟩) L.fun_.1)
  have ent := lam_entered (E := E) (f := f) (c := c) (tk := s1.toks + [(par, u)].length) I L J1.env0 room.hd un ns fun b o e => sb.extBut b o (Nat.ne_of_lt (Heap.lt_size e)) (Heap.get?_push_of_some _ e)
  exact PySem.W.kla_codeExpr (wpAny_mono ((hb _ _ s1 G1 (room.deeper _)).run [] _ _ G1 Q ent rd) (fun _ _ ⟨w', G2, J2, rv, fin⟩ => ⟨w', G2, J2.os, J2.bare, J2.base, J2.hok, rv, fin⟩) fun _ _ z => z)
/-- x(lambda par=e: body) -/
theorem pe_lamcallD {T : List (Addr × Str)} {TT : (XK → Hp → VK → Prop) → Hp → VK → Prop} {x a par : Str} {g c P : Addr} {k : Nat} {pg : Arguments} {bg : List Stmt} {sg : Scope} {dV kV doc pm cdv ct oc : Value} {an od : Option Addr} {osl : Array (Option Value)} {Ng : List Str}
    {params : Arguments} {body e : Expr} {scope : Scope} {t : XK → TE} {p lpos pos : Pos} {n : Int} (hg : Gl X x) (hm : X.mg x = some (.ref g)) (hk : PySem.W.keepIn X.K (.ref g) = true)
    (lk : X.K.lookup g = some ⟨oc, od, .func (PySem.W.fnOf x x pg bg sg dV kV doc pm an cdv ct), osl⟩) (cg : PySem.W.codeIn X.K cdv x = true) (bs : L2.Binds X.K (PySem.W.fnOf x x pg bg sg dV kV doc pm an cdv ct) [a] []) (Sg : FnScope Ng [a] sg) (hNg : Ng[0]? = some a) (vis : Vis sg a)
    (hG : GivesTo X Ng x sg g cdv bg a (lq X) TT) (TB : TabB X.base X.mg c P) (code : X.env.code = .ref c) (mem : (P, lq X) ∈ T) (one : ∀ p ∈ T, p.1 = P → p.2 = lq X) (room : Room (k + 2) X.A) (L : LamD X.N par X.env.scope scope) (he : PE X e (tC (.int n))) (dfs : defaultsOf params X.env = ([eval e X.env], [])) (kw : params.kwonlyargs = [])
    (binds : ∀ (q : Str) (cl : List (Str × Addr)) (pm cv ctv u : Value) (D : Addr) (doc : Value), ∃ k, bindArgs (PySem.W.kdv_fn "<lambda>" q params (.expr body) scope cl (.ref D) doc pm cv ctv) ⟨[], []⟩ = seqItems? (.ref D) >>= k ∧ k (some #[u]) = pure [(par, u)])
    (hb : ∀ (A : Around) (outer : List Env) (s : Shared) (H : Hp) (E : XK) (f c : Addr), Room k (A.deeper (lamEnv X scope s.heap.objs.size f c)) → PE (lamCx X A outer s H E scope f c) body (t E))
    (h1 : (x == ("__debug__" : Str)) = false := by decide) (h2 : (a == ("__debug__" : Str)) = false := by decide) (h3 : (a == ("__classdict__" : Str)) = false := by decide) : PE X (.Call (.Name x p) [.Lambda params body scope lpos] [] pos) (tLam T TT t) where
  run pins s σ H Q I := by
    rintro ⟨tabs, give⟩
    have arm : wpAny (model X.prog X.w) X.A (eval (.Lambda params body scope lpos) X.env) (fun v s1 => ∃ f d D H1, v = .ref f ∧ Inv X pins σ H1 s1 ∧ ExtN H H1 ∧ Tabs T H1 ∧ H1 d = some (CodeO d (lq X)) ∧ ∃ u, LamAt X H1 s1.heap params body scope u f d D) X.xe s := by
      rw [arm_eval_Lambda, dfs]
      refine wpAny_bind (wpAny_bind (thn (he.run pins s σ H (fun _ G => G = H) I rfl) ?_))
      rintro u s0 ⟨_, _, I0, -, rfl⟩
      refine wpAny_bind (wpAny_holding (wpAny_pure (wpAny_pure (wpAny_bind (wpAny_holding (wpAny_pure ?_))))))
      exact lam_made I0 TB code mem one tabs (L.has I0.ok) kw fun f d D H1 s1 I1 ext tabs1 cod F => ⟨f, d, D, H1, rfl, I1, ext, tabs1, cod, u, F⟩
    refine wpAny_Call_Name_kw (ld_glob I hg hm (PySem.W.callWith_K (h₀ := X.base) I.ok.mod.kin hk ?_ (by rfl) (by rfl)) h1)
    show wpAny _ _ (spliced ((false, eval (.Lambda params body scope lpos) X.env) :: backTo pos (starEach [] X.env))) _ _ s
    refine Calls.spliced_cons (thn arm ?_)
    rintro v s1 ⟨f, d, D, H1, rfl, I1, ext, tabs1, cod, u, F⟩
    refine Calls.spliced_nil ⟨I1.kIn, call_ends (CX := C8.CX0) (E := C8.E0) I1 pass0 (run_ofS (N := Ng) (ps := [a]) (us := [.ref f]) (vs := [.ref f]) lk cg Sg room I1.env0 (bs s1 [.ref f] I1.kIn rfl) (.cons rfl .nil) rfl fun room1 => ?_)⟩
    obtain ⟨t1, ps1, rd1⟩ := hG f d s1 H1 Q (fun E G Q' => t E σ G Q') (fun W pn xe E p1 p2 tk up => pe_actD rfl I1 L F (fun doc pm ct => binds _ _ pm _ ct u D doc) tk up room1 (fun A outer s H r => hb A outer s H E f d r) hNg vis h2 h3) cod (give H1 ext tabs1)
    exact ⟨t1, ps1.nox, rd1⟩
end
end LamX

/-! t[::-1], t a tuple -/
namespace L2
open PySem PySem.Spec PyProof.Rows
section
variable {prog : Program} {w : World} {A : Around} {E : Value → Shared → Prop} {s : Shared}
theorem adjust_back (n : Nat) : Builtin.Slice.sliceAdjust none none (-1) (n : Int) = ((n : Int) - 1, -1) := by
  unfold Builtin.Slice.sliceAdjust
  simp
theorem places_back (n : Nat) : Builtin.Slice.slicePlaces ((n : Int) - 1) (-1) (-1) = n := by
  unfold Builtin.Slice.slicePlaces
  simp only [show ¬ ((-1 : Int) > 0) by decide, if_false, show (- -1 : Int) = 1 by decide, Int.ediv_one]
  split <;> omega
theorem pick_back (xs : Array Value) : ((List.range xs.size).filterMap fun (k : Nat) => xs[(((xs.size : Int) - 1) + (k : Int) * -1).toNat]?).toArray = xs.toList.reverse.toArray := by
  rw [← PySem.W.krv_pick]
  unfold slicePick
  rw [PySem.W.krv_bounds]
  show _ = ((sliceRange ((xs.size : Int) - 1) (-1) (-1)).filterMap (xs[·]?)).toArray
  rw [PySem.W.krv_sliceRange, List.filterMap_map]
  have same : ∀ l : List Nat, (∀ k ∈ l, k < xs.size) → l.filterMap (fun (k : Nat) => xs[(((xs.size : Int) - 1) + (k : Int) * -1).toNat]?) = l.filterMap ((fun x => xs[x]?) ∘ fun k => xs.size - 1 - k) := by
    intro l
    induction l with
    | nil => exact fun _ => rfl
    | cons k l more =>
      intro h
      have hk := h k List.mem_cons_self
      rw [List.filterMap_cons, List.filterMap_cons, more fun j hj => h j (.tail _ hj), show (((xs.size : Int) - 1) + (k : Int) * -1).toNat = xs.size - 1 - k by omega]
      rfl
  rw [same _ fun k hk => List.mem_range.mp hk]
theorem getItem_tuple_back {t sl : Addr} {items : Array Value} {vl vu vs : Value} {Q : Value → Shared → Prop} (ht : IsTup s.heap t items) (hs : s.heap.IsSliceOf sl vl vu vs) (pl : IsPart vl none) (pu : IsPart vu none) (ps : IsPart vs (some (-1)))
    (h : Q (.ref s.heap.objs.size) { s with heap := s.heap.push { cls := .type "tuple", data := .seq items.toList.reverse.toArray } }) (hsz : items.size ≤ sizeLine) : wpAny (model prog w) A (getItem (.ref t) (.ref sl)) Q E s := by
  have fit : sizeOk (.seq items.toList.reverse.toArray) := by
    show items.toList.reverse.toArray.size ≤ sizeLine
    rwa [List.size_toArray, List.length_reverse, Array.length_toList]
  obtain ⟨os, gos, gcs, gds⟩ := id hs
  have tys : s.TypeIs (.ref sl) "slice" := ⟨os, gos, gcs⟩
  unfold getItem
  try with_reducible refine wpAny_holding ?_
  first | refine wpAny_bind (wpAny_pure ?_) | skip
  refine wpAny_bind (wpAny_sequenceKey ht.typeIs (by decide) ?_)
  refine wpAny_bind (wpAny_callSpecial?_slot (name := Str.ofString "__getitem__") ht.typeIs PyProof.Rows.slot_tuple_getitem (wpAny_call_entry PyProof.Rows.slot_tuple_getitem ht.typeIs entry_tuple_getitem ?_ (args_tuple_getitem _ _)))
  show wpAny _ _ (Builtin.Tuple.tupleItemsOf (.ref t) >>= _) _ _ s
  refine wpAny_bind (tupleItemsOf_ ht (wpAny_bind (wpAny_typeOf tys ?_)))
  rw [if_pos (by decide)]
  refine wpAny_bind (m := Builtin.Slice.sliceApplied (.ref sl) (pure ((items.size : Nat) : Int))) ?_
  unfold Builtin.Slice.sliceApplied Builtin.Slice.sliceFields
  refine wpAny_bind (wpAny_bind (wpAny_field gos gds (x := vl) rfl (wpAny_bind (wpAny_field gos gds (x := vu) rfl (wpAny_bind (wpAny_field gos gds (x := vs) rfl (wpAny_pure ?_)))))))
  refine wpAny_bind (HT.slicePart_ ps ?_)
  refine wp_if_neg (by decide) ?_
  refine wpAny_bind (HT.slicePart_ pl (wpAny_bind (HT.slicePart_ pu (wpAny_bind (wpAny_pure ?_)))))
  show wpAny _ _ (match Builtin.Slice.sliceAdjust none none (-1) (items.size : Int) with | (lo, hi) => pure (lo, (-1 : Int), Builtin.Slice.slicePlaces lo hi (-1))) _ _ s
  rw [adjust_back]
  show wpAny _ _ (pure ((items.size : Int) - 1, (-1 : Int), Builtin.Slice.slicePlaces ((items.size : Int) - 1) (-1) (-1))) _ _ s
  rw [places_back]
  refine wpAny_pure ?_
  dsimp only
  refine wp_if_neg (by simp) ?_
  rw [pick_back]
  first
    | exact wpAny_bind (m := Builtin.Tuple.tupleExact _) (wpAny_newObj_type (wpAny_pure ⟨_, rfl, wpAny_pure h⟩) fit)
    | exact wpAny_bind (m := Builtin.Tuple.tupleExact _) (wpAny_newObj_type (wpAny_bind (wpAny_pure (wpAny_pure ⟨_, rfl, wpAny_pure h⟩))) fit)
    | exact wpAny_bind (wpAny_bind (m := Builtin.Tuple.tupleExact _) (wpAny_newObj_type (wpAny_pure (wpAny_pure ⟨_, rfl, wpAny_pure h⟩)) fit))
    | exact wpAny_bind (wpAny_bind (m := Builtin.Tuple.tupleExact _) (wpAny_newObj_type (wpAny_pure ⟨_, rfl, wpAny_pure h⟩) fit))
end
section
variable {X : Cx}
def tRevT (K : PySem.W.Frag) (te : TE) : TE := fun σ H Q => te σ H fun x H1 => ∃ a xs, x = .ref a ∧ SqT K H1 a xs ∧ ∀ p, H1 p = none → Q (.ref p) (upd H1 p (.tup xs.reverse))
theorem pe_revT {e : Expr} {te : TE} {k : Nat} {p1 p2 p3 pos : Pos} (he : PE X e te) : PE X (.Subscript e (.Slice none none (some (.UnaryOp .USub (.Constant (.int 1) k p1) p2)) p3) pos) (tRevT X.K te) := by
  refine ⟨fun pins s σ H Q I h => ?_⟩
  refine Subscript_ (thn (he.run pins s σ H _ I h) fun v s1 ⟨x, H1, I1, r1, q1⟩ => ?_)
  obtain ⟨a, xs, rfl, hx, q⟩ := q1
  cases r1
  have back : PO X (some (.UnaryOp .USub (.Constant (.int 1) k p1) p2)) (tPart (tUn (rU fun i => .int (-i)) (tC (.int 1)))) := po_some (pe_un un_neg pe_int)
  refine wpAny_Slice (thn (po_none.run pins s1 σ H1 (fun o H2 => o = none ∧ H2 = H1) I1 ⟨rfl, rfl⟩) fun vl s2 ⟨l, H2, I2, pl, el, e2⟩ => ?_)
  subst el e2
  refine thn (po_none.run pins s2 σ H2 (fun o H3 => o = none ∧ H3 = H2) I2 ⟨rfl, rfl⟩) fun vu s3 ⟨u, H3, I3, pu, eu, e3⟩ => ?_
  subst eu e3
  refine thn (back.run pins s3 σ H3 (fun o H4 => o = some (-1) ∧ H4 = H3) I3 ⟨1, rfl, -1, rfl, rfl, rfl⟩) fun vs s4 ⟨o, H4, I4, ps, eo, e4⟩ => ?_
  subst eo e4
  have I5 : Inv X pins σ H4 { s4 with heap := s4.heap.push { cls := .type "slice", data := .fields #[vl, vu, vs] } } := I4.kept (t' := s4.toks) fun b ob q => Heap.get?_push_of_some _ q
  obtain ⟨its, r, ht, hz⟩ := I5.tuple hx
  show wpAny (model X.prog X.w) X.A (subscriptTail e (.Slice none none (some (.UnaryOp .USub (.Constant (.int 1) k p1) p2)) p3) (.ref a) (.ref s4.heap.objs.size)) (EP X pins σ Q) X.xe { s4 with heap := s4.heap.push { cls := .type "slice", data := .fields #[vl, vu, vs] } }
  refine tail_any (ops := [.ref a, .ref s4.heap.objs.size]) ht.typeIs PyProof.Rows.slot_tuple_getitem.lookup ?_ (by with_unfolding_all rfl)
  have hlen := r.length
  refine getItem_tuple_back ht (Heap.IsSliceOf.new _ vl vu vs) pl pu ps ?_ (by rw [List.size_toArray]; omega)
  refine ⟨.ref _, _, I5.laid (t' := s4.toks) (o := .tup xs.reverse) (fun b ob q => Heap.get?_push_of_some _ q) (Nat.le_refl _) ?_, rfl, q _ (I5.hok.fresh (Nat.le_refl _))⟩
  exact ⟨by rw [List.length_reverse]; exact hz, _, r.reverse, IsTup.new _ _⟩
end
end L2

namespace Half
open PySem PySem.Spec PyProof.Rows L2
/-! ### data of texts, numbers and tuples -/
mutual
inductive TD (K : PySem.W.Frag) (H : Hp) : V → PyData → Prop
  | bl (b : Bool) : TD K H (.bl b) (.bool b)
  | int (i : Int) : TD K H (.int i) (.int i)
  | str (x : Str) : TD K H (.str x) (.str x)
  | tup {a : Addr} {xs : List V} {ds : List PyData} : SqT K H a xs → TDAll K H xs ds → TD K H (.ref a) (.tuple ds)
inductive TDAll (K : PySem.W.Frag) (H : Hp) : List V → List PyData → Prop
  | nil : TDAll K H [] []
  | cons {v : V} {vs : List V} {d : PyData} {ds : List PyData} : TD K H v d → TDAll K H vs ds → TDAll K H (v :: vs) (d :: ds)
end
/-- every tuple stands -/
def Kp (K : PySem.W.Frag) (H H' : Hp) : Prop := ∀ a xs, SqT K H a xs → SqT K H' a xs
theorem _root_.L2.Same.kp {K : PySem.W.Frag} {H H' : Hp} (s : Same H H') : Kp K H H' := fun _ _ h => s.sqT h
theorem Kp.refl {K : PySem.W.Frag} {H : Hp} : Kp K H H := fun _ _ h => h
theorem Kp.trans {K : PySem.W.Frag} {H H1 H2 : Hp} (a : Kp K H H1) (b : Kp K H1 H2) : Kp K H H2 := fun _ _ h => b _ _ (a _ _ h)
theorem Kp.upd {K : PySem.W.Frag} {H : Hp} {p : Addr} {o u : HO} (hp : H p = some o) (h1 : ∀ xs, o ≠ .tup xs) (h2 : ∀ q xs, o ≠ .frz q (.tup xs)) : Kp K H (L2.upd H p u) := fun a xs h => by
  rcases h with (h | ⟨q, h⟩) | h
  · exact .inl (.inl (by rw [upd_ne (ne_of h hp (fun z => h1 _ z.symm))]; exact h))
  · exact .inl (.inr ⟨q, by rw [upd_ne (ne_of h hp (fun z => h2 _ _ z.symm))]; exact h⟩)
  · exact .inr h
mutual
theorem TD.kp {K : PySem.W.Frag} {H H' : Hp} (k : Kp K H H') : ∀ {v : V} {d : PyData}, TD K H v d → TD K H' v d
  | _, _, .bl b => .bl b
  | _, _, .int i => .int i
  | _, _, .str x => .str x
  | _, _, .tup h hs => .tup (k _ _ h) (TDAll.kp k hs)
theorem TDAll.kp {K : PySem.W.Frag} {H H' : Hp} (k : Kp K H H') : ∀ {vs : List V} {ds : List PyData}, TDAll K H vs ds → TDAll K H' vs ds
  | _, _, .nil => .nil
  | _, _, .cons h hs => .cons (TD.kp k h) (TDAll.kp k hs)
end
mutual
theorem TD.dp {K : PySem.W.Frag} {H : Hp} : ∀ {v : V} {d : PyData}, TD K H v d → Dp K H v d
  | _, _, .bl b => .bl b
  | _, _, .int i => .int i
  | _, _, .str x => .str x
  | _, _, .tup h hs => .tup h (TDAll.dp hs)
theorem TDAll.dp {K : PySem.W.Frag} {H : Hp} : ∀ {vs : List V} {ds : List PyData}, TDAll K H vs ds → DpAll K H vs ds
  | _, _, .nil => .nil
  | _, _, .cons h hs => .cons (TD.dp h) (TDAll.dp hs)
end
theorem TDAll.len {K : PySem.W.Frag} {H : Hp} : ∀ {vs : List V} {ds : List PyData}, TDAll K H vs ds → vs.length = ds.length
  | _, _, .nil => rfl
  | _, _, .cons _ hs => congrArg Nat.succ hs.len
theorem TDAll.strs {K : PySem.W.Frag} {H : Hp} : ∀ {vs : List V} {ss : List Str}, TDAll K H vs (ss.map PyData.str) → vs = ss.map V.str
  | _, [], h => by cases h; rfl
  | _, z :: ss, h => by
    cases h with
    | cons h hs =>
      cases h
      rw [TDAll.strs hs]
      rfl
theorem TDAll.pairs {K : PySem.W.Frag} {H : Hp} : ∀ {vs : List V} {ps : List (Str × Int)}, TDAll K H vs (ps.map pairD) → ∃ ts : List Addr, vs = ts.map V.ref ∧ ts.length = ps.length ∧ ∀ (i : Nat) t p, ts[i]? = some t → ps[i]? = some p → SqT K H t [.str p.1, .int p.2]
  | _, [], h => by cases h; exact ⟨[], rfl, rfl, fun i t p h _ => by simp at h⟩
  | _, q :: ps, h => by
    cases h with
    | cons h hs =>
      obtain ⟨ts, rfl, hl, ht⟩ := TDAll.pairs hs
      cases h with
      | @tup a xs ds hq hd =>
        cases hd with
        | cons h1 hd =>
          cases hd with
          | cons h2 hd =>
            cases hd
            cases h1
            cases h2
            refine ⟨a :: ts, rfl, by simp [hl], fun i t p e1 e2 => ?_⟩
            cases i with
            | zero =>
              have z1 : a = t := by simpa using e1
              have z2 : q = p := by simpa using e2
              subst z1 z2
              exact hq
            | succ i => exact ht i t p (by simpa using e1) (by simpa using e2)
theorem TD.strs {K : PySem.W.Frag} {H : Hp} {v : V} {ss : List Str} (h : TD K H v (.tuple (ss.map PyData.str))) : ∃ a, v = .ref a ∧ SqT K H a (ss.map V.str) := by
  cases h with
  | tup hq hd =>
    rw [hd.strs] at hq
    exact ⟨_, rfl, hq⟩
theorem TD.needs {K : PySem.W.Frag} {H : Hp} {v : V} {ps : List (Str × Int)} (h : TD K H v (.tuple (ps.map pairD))) : ∃ a, v = .ref a ∧ NeedsAt K H a ps := by
  cases h with
  | tup hq hd =>
    obtain ⟨ts, rfl, hl, ht⟩ := hd.pairs
    exact ⟨_, rfl, ts, hq, hl, ht⟩
/-! ### displays of written data -/
def Y (K : PySem.W.Frag) (t : TE) (d : PyData) : Prop := ∀ σ H Q, (∀ v H', Same H H' → TD K H' v d → Q v H') → t σ H Q
def YA (K : PySem.W.Frag) (t : TA) (ds : List PyData) : Prop := ∀ σ H Q, (∀ vs H', Same H H' → TDAll K H' vs ds → Q vs H') → t σ H Q
section
variable {K : PySem.W.Frag}
theorem Y.str {z : Str} : Y K (tC (.str z)) (.str z) := fun _ H _ h => h _ H (Same.refl H) (.str z)
theorem Y.int {i : Int} : Y K (tC (.int i)) (.int i) := fun _ H _ h => h _ H (Same.refl H) (.int i)
theorem Y.bl {b : Bool} : Y K (tC (.bl b)) (.bool b) := fun _ H _ h => h _ H (Same.refl H) (.bl b)
theorem YA.nil : YA K tNil [] := fun _ H _ h => h _ H (Same.refl H) .nil
theorem YA.cons {t : TE} {ts : TA} {d : PyData} {ds : List PyData} (a : Y K t d) (b : YA K ts ds) : YA K (tCons t ts) (d :: ds) := fun σ H Q h =>
  a σ H _ fun v H1 s1 t1 => b σ H1 _ fun vs H2 s2 t2 => h (v :: vs) H2 (s1.trans s2) (.cons (t1.kp s2.kp) t2)
theorem Y.tup {ta : TA} {ds : List PyData} (a : YA K ta ds) (hl : ds.length ≤ 100 := by simp) : Y K (tTup ta) (.tuple ds) := fun σ H Q h =>
  a σ H _ fun vs H1 s1 t1 => ⟨by rw [t1.len, sizeLine_eq]; omega, fun p hp => h (.ref p) _ (s1.trans (Same.upd_new hp)) (.tup (.inl (.inl upd_same)) (t1.kp (Same.upd_new hp).kp))⟩
end
/-! ### d[k] = v as a target -/
theorem set_dict {X : Cx} (hu : X.A.units + 1 < cLine) : PSet X (fun o i v H Q => ∃ a H4, o = .ref a ∧ DPut H a i v H4 ∧ Q H4) := by
  intro pins s σ H o i v ov iv u Q I ro ri rv h
  obtain ⟨a, H4, rfl, g, q⟩ := h
  cases ro
  exact d_setItem hu I g ri rv fun s4 I4 => ⟨H4, I4, q⟩
end Half

namespace Half
open PySem PySem.Spec PyProof.Rows L2
abbrev EiPs : List Str := ["self", "name", "version", "scripts", "needs", "first", "against"]
/-- Edition's __init__ as the top has made it, with its defaults -/
structure EdF (P : Program) (w : World) (K : PySem.W.Frag) (mg : Str → Option Value) (base : Heap) (C CE : Addr) (f : Addr) (fd : FuncData) (aS z1 z2 z3 : Addr) : Prop where
  ok : FnOk P w K mg base (L2.CX P w) 6 f fd EiPs (spEi K C CE)
  fn : FunD K "__init__" "Edition.__init__" (defArgs sEi) (defBody sEi) (defScope sEi) [] [("scripts", .ref aS), ("needs", .ref z1), ("first", .ref z2), ("against", .ref z3)] f fd
  make : Mk K C f
  mgC : mg "Edition" = some (.ref C)
  tS : ∀ H, SqT K H aS (SCR.map V.str)
  t1 : ∀ H, SqT K H z1 []
  t2 : ∀ H, SqT K H z2 []
  t3 : ∀ H, SqT K H z3 []
section
variable {P : Program} {w : World} {K : PySem.W.Frag} {mg : Str → Option Value} {base : Heap} {C CE : Addr} {f : Addr} {fd : FuncData} {aS z1 z2 z3 : Addr}
theorem EdF.kb4 (D : EdF P w K mg base C CE f fd aS z1 z2 z3) : ∃ g, KBn K fd EiPs 3 ["scripts", "needs", "first", "against"] g (fun vs zs => vs ++ zs) := by
  obtain ⟨mv, h⟩ := D.fn.kbinds0 (ps := EiPs) 3 ["scripts", "needs", "first", "against"] [] (fun us _ ws => us ++ ws) (by simp) (fun q h => by cases h) (fun r1 _ r3 => r1.append r3)
    (fun D doc pm an cdv ct us mv ws h1 h2 h3 => match us, ws, h1, h3 with | [_, _, _], [_, _, _, _], _, _ => rfl)
  exact ⟨_, h⟩
theorem EdF.kb1 (D : EdF P w K mg base C CE f fd aS z1 z2 z3) : ∃ g, KBn K fd EiPs 3 ["scripts"] g (fun vs zs => vs ++ zs ++ [.ref z1, .ref z2, .ref z3]) := by
  obtain ⟨mv, h⟩ := D.fn.kbinds0 (ps := EiPs) 3 ["scripts"] [("needs", .ref z1), ("first", .ref z2), ("against", .ref z3)] (fun us mv ws => us ++ ws ++ mv) (by simp) (fun q h => List.mem_cons_of_mem _ h) (fun r1 r2 r3 => (r1.append r3).append r2)
    (fun D doc pm an cdv ct us mv ws h1 h2 h3 => match us, mv, ws, h1, h2, h3 with | [_, _, _], [_, _, _], [_], _, _, _ => ⟨_, _, _, _, _, _, rfl, rfl, _, _, _, _, _, _, rfl, rfl, _, _, _, _, _, _, rfl, rfl, rfl⟩)
  exact ⟨_, h⟩
theorem EdF.b0 (D : EdF P w K mg base C CE f fd aS z1 z2 z3) : ∃ ds, Vals [.ref aS, .ref z1, .ref z2, .ref z3] ds ∧ Binds K fd EiPs ds :=
  D.fn.binds0 (ps := EiPs) 3 (by simp) rfl (fun D doc pm an cdv ct us ks h1 h2 => match us, ks, h1, h2 with | [_, _, _], [_, _, _, _], _, _ => ⟨_, _, _, _, _, _, rfl, rfl, _, _, _, _, _, _, rfl, rfl, _, _, _, _, _, _, rfl, rfl, _, _, _, _, _, _, rfl, rfl, rfl⟩)
end
end Half

namespace Half
open PySem PySem.Spec PyProof.Rows L2
/-- a property -/
structure Prp (P : Program) (w : World) (K : PySem.W.Frag) (mg : Str → Option Value) (base : Heap) (C : Addr) (x : Str) (i : Nat) : Prop where
  ex : ∃ p g fd, PropOf K C x p g ∧ FnOk P w K mg base CX0 1 g fd ["self"] (spGet C i) ∧ Binds K fd ["self"] []
theorem pe_prp {X : Cx} {C : Addr} {x : Str} {i : Nat} {e : Expr} {pos : Pos} {ta : TE} (D : Prp X.prog X.w X.K X.mg X.base C x i) (cl : Cls X.K C) (hr : Room 2 X.A) (he : PE X e ta) (hab : attributeBase e x X.env (eval e X.env) = eval e X.env := by rfl) :
    PE X (.Attribute e x pos) (tProp C (spGet C i) [] E0 ta) := by
  obtain ⟨p, g, fd, h1, h2, h3⟩ := D.ex
  exact pe_prop he cl h1 h2 hr h3 .nil pass0 hab
/-- == of editions -/
structure EqF (P : Program) (w : World) (K : PySem.W.Frag) (mg : Str → Option Value) (base : Heap) (C : Addr) : Prop where
  ex : ∃ f fd, FnOk P w K mg base CX0 1 f fd ["self", "other"] (spEq K C) ∧ OwnEqC K C f ∧ Binds K fd ["self", "other"] []
theorem op_eqE {X : Cx} {C : Addr} (D : EqF X.prog X.w X.K X.mg X.base C) (hr : Room 2 X.A) : OpR X (compareOp .Eq) (rEqO C (spEq X.K C) id) := by
  obtain ⟨f, fd, h1, h2, h3⟩ := D.ex
  exact op_eqO h1 h2 h3 (hr.mono (by decide))
theorem op_neE {X : Cx} {C : Addr} (D : EqF X.prog X.w X.K X.mg X.base C) (hr : Room 2 X.A) : OpR X (compareOp .NotEq) (rEqO C (spEq X.K C) not) := by
  obtain ⟨f, fd, h1, h2, h3⟩ := D.ex
  exact op_neO h1 h2 h3 hr
/-- all that the law asks of Edition -/
structure EdAll (P : Program) (w : World) (K : PySem.W.Frag) (mg : Str → Option Value) (base : Heap) (C CE : Addr) : Prop where
  ei : ∃ f fd aS z1 z2 z3, EdF P w K mg base C CE f fd aS z1 z2 z3
  eq : EqF P w K mg base C
  cl : Cls K C
  p0 : Prp P w K mg base C "name" 0
  p1 : Prp P w K mg base C "version" 1
  p2 : Prp P w K mg base C "scripts" 2
  p3 : Prp P w K mg base C "needs" 3
  p4 : Prp P w K mg base C "first" 4
  p5 : Prp P w K mg base C "against" 5
theorem EdIs.ins {K : PySem.W.Frag} {H : Hp} {C a : Addr} {e : Ed} (h : EdIs K H C a e) : ∃ dx fs, H a = some (.ins C dx fs) := by
  obtain ⟨⟨s, n, f, g, ⟨dx, p, h1, h2⟩, h3⟩, _⟩ := h
  exact ⟨dx, _, h1⟩
/-- how a == b of editions is read -/
theorem eqO_read {K : PySem.W.Frag} {H : Hp} {C a b : Addr} {e e' : Ed} {fl : Bool → Bool} {Q : VK} (h1 : EdIs K H C a e) (h2 : EdIs K H C b e') (q : Q (.bl (fl (PyData.eqv e.data e'.data))) H) : rEqO C (spEq K C) fl (.ref a) (.ref b) H Q := by
  obtain ⟨dx, fs, ha⟩ := h1.ins
  obtain ⟨dy, gs, hb⟩ := h2.ins
  exact ⟨a, b, dx, dy, fs, gs, rfl, rfl, ha, hb, a, b, e, e', rfl, h1, h2, _, rfl, q⟩
/-- an edition with nothing but its name and version -/
def edP (nm : Str) (v : Int) : Ed := ⟨nm, .int v, SCR, [], [], []⟩
theorem edP_ok {nm : Str} {v : Int} (h1 : isWord nm = true) (h2 : 1 ≤ v) (h3 : v ≤ 99) : (edP nm v).wrong = none := by
  have a1 : inR (.int v) 1 99 = true := by show (decide (1 ≤ v) && decide (v ≤ 99)) = true; rw [decide_eq_true h2, decide_eq_true h3]; rfl
  have a2 : areScripts SCR = true := by decide +kernel
  have a3 : areNeeds [] nm = true := by rfl
  have a4 : areOthers [] nm = true := by rfl
  unfold Ed.wrong Ed.checks edP
  simp only [h1, a1, a2, a3, a4]
  rfl
theorem edP_small {nm : Str} {v : Int} (h : nm.length ≤ 1000) : (edP nm v).Small := ⟨h, .inl ⟨v, rfl⟩, (by decide : SCR.length ≤ 100), ⟨Nat.zero_le _, fun p hp => by cases hp⟩, ⟨Nat.zero_le _, fun p hp => by cases hp⟩, ⟨Nat.zero_le _, fun p hp => by cases hp⟩⟩
theorem NeedsAt.nil {K : PySem.W.Frag} {H : Hp} {a : Addr} (h : SqT K H a []) : NeedsAt K H a [] := ⟨[], h, rfl, fun i t p h _ => by simp at h⟩
theorem ite_no {b : Bool} {A B : Prop} (hb : b = false) (h : B) : if b = true then A else B := by
  rw [hb]
  exact iteF h
theorem ite_yes {b : Bool} {A B : Prop} (hb : b = true) (h : A) : if b = true then A else B := by
  rw [hb]
  exact iteT h
/-- an edition is made that has nothing wrong -/
theorem mk_read {K : PySem.W.Frag} {H : Hp} {C CE x dx s n f g : Addr} {e : Ed} {Q : Hp → Prop} {E : XK} (nx : H x = none) (ndx : H dx = none) (hE : EdAt K H e s n f g) (sm : e.Small) (hw : e.wrong = none) (k : ∀ H', Same H H' → EdObj K H' C x e s n f g → Q H') :
    spEi K C CE [.ref x, .str e.name, e.version, .ref s, .ref n, .ref f, .ref g] (upd (upd H dx (.own x)) x (.ins C dx [])) (fun v H3 => v = .non ∧ Q H3) E := by
  have sx : Same H (upd (upd H dx (.own x)) x (.ins C dx [])) := fun b o q => by
    rw [upd_ne (ne_of_none q nx), upd_ne (ne_of_none q ndx)]
    exact q
  refine ⟨x, dx, e, s, n, f, g, rfl, upd_same, hE.same sx, sm, fun _ H' sb ho => ⟨rfl, k H' (fun b o q => sb _ _ (ne_of_none q nx) (sx _ _ q)) ho⟩, fun p hp => ?_⟩
  rw [hw] at hp
  cases hp
theorem edP_is {K : PySem.W.Frag} {H : Hp} {C a s n f g : Addr} {nm : Str} {v : Int} (h : EdObj K H C a (edP nm v) s n f g) (hs : PyData.strOk nm = true) : EdIs K H C a (edP nm v) := by
  refine ⟨⟨s, n, f, g, h⟩, .inl ⟨v, rfl⟩, ?_⟩
  have a1 : PyData.strOk "clean" = true := by decide +kernel
  have a2 : PyData.strOk "enter" = true := by decide +kernel
  have a3 : PyData.strOk "leave" = true := by decide +kernel
  have a4 : PyData.strOk "setup" = true := by decide +kernel
  simp [SeqAt.shaped, edP, Ed.data, verD, SCR, PyData.canLay0, PyData.canLayAll0, PyData.depth, PyData.depthAll, hs, a1, a2, a3, a4]
end Half

namespace Half
open PySem PySem.Spec PyProof.Rows L2
/-! ### different ones, in the order in which they are met -/
section
variable {α : Type} [DecidableEq α]
def has (l : List α) (x : α) : Bool := l.any fun y => decide (y = x)
theorem has_iff {l : List α} {x : α} : has l x = true ↔ x ∈ l := by
  unfold has
  rw [List.any_eq_true]
  exact ⟨fun ⟨y, h, e⟩ => of_decide_eq_true e ▸ h, fun h => ⟨x, h, decide_eq_true rfl⟩⟩
theorem has_no {l : List α} {x : α} (h : x ∉ l) : has l x = false := by
  cases e : has l x
  · rfl
  · exact absurd (has_iff.mp e) h
theorem not_has {l : List α} {x : α} (h : has l x = false) : x ∉ l := fun m => by
  rw [has_iff.mpr m] at h
  exact nomatch h
def dstep (acc : List α) (x : α) : List α := if has acc x = true then acc else acc ++ [x]
def dset (l : List α) : List α := l.foldl dstep []
theorem dset_snoc (l : List α) (x : α) : dset (l ++ [x]) = dstep (dset l) x := by
  unfold dset
  rw [List.foldl_append]
  rfl
theorem snoc_ind {p : List α → Prop} (h0 : p []) (h1 : ∀ l x, p l → p (l ++ [x])) (l : List α) : p l := by
  have key : ∀ n (l : List α), l.length = n → p l := by
    intro n
    induction n with
    | zero => intro l e; rw [List.eq_nil_of_length_eq_zero e]; exact h0
    | succ n ih =>
      intro l e
      have hne : l ≠ [] := fun z => by rw [z] at e; cases e
      rw [← List.dropLast_concat_getLast hne]
      exact h1 _ _ (ih _ (by rw [List.length_dropLast, e]; rfl))
  exact key _ l rfl
theorem mem_dstep {acc : List α} {x y : α} : y ∈ dstep acc x ↔ y ∈ acc ∨ y = x := by
  unfold dstep
  split
  · rename_i h
    exact ⟨.inl, fun z => z.elim id fun e => e ▸ has_iff.mp h⟩
  · rw [List.mem_append, List.mem_singleton]
theorem mem_dset (l : List α) (y : α) : y ∈ dset l ↔ y ∈ l := by
  induction l using snoc_ind with
  | h0 => simp [dset]
  | h1 l x ih => rw [dset_snoc, mem_dstep, ih, List.mem_append, List.mem_singleton]
theorem dset_nodup (l : List α) : (dset l).Nodup := by
  induction l using snoc_ind with
  | h0 => exact .nil
  | h1 l x ih =>
    rw [dset_snoc]
    unfold dstep
    split
    · exact ih
    · rename_i h
      refine List.nodup_append.mpr ⟨ih, List.nodup_cons.mpr ⟨by simp, .nil⟩, fun a ha b hb e => ?_⟩
      rw [List.mem_singleton.mp hb] at e
      subst e
      exact h (has_iff.mpr ha)
def nd (l : List α) : Nat := (dset l).length
theorem nd_snoc (l : List α) (x : α) : nd (l ++ [x]) = if has l x = true then nd l else nd l + 1 := by
  unfold nd
  rw [dset_snoc]
  unfold dstep
  have e : has (dset l) x = has l x := by
    cases q : has l x
    · exact has_no fun z => not_has q ((mem_dset l x).mp z)
    · exact has_iff.mpr ((mem_dset l x).mpr (has_iff.mp q))
  rw [e]
  split <;> simp
theorem nd_le (l : List α) : nd l ≤ l.length := by
  induction l using snoc_ind with
  | h0 => exact Nat.le_refl _
  | h1 l x ih =>
    rw [nd_snoc, List.length_append, List.length_singleton]
    split <;> omega
theorem nd_perm {l m : List α} (hm : m.Nodup) (h : ∀ x, x ∈ m ↔ x ∈ l) : m.length = nd l :=
  ((List.perm_ext_iff_of_nodup hm (dset_nodup l)).mpr fun x => (h x).trans (mem_dset l x).symm).length_eq
end
/-! ### a store's editions -/
abbrev Kk : Type := Str × Int
/-- the i-th key stands before, its name is one too many, or it stands too late -/
def badB (ks : List Kk) (i : Nat) : Bool := match ks[i]? with
  | none => false
  | some k => has (ks.take i) k || (decide (4 < nd ((ks.take (i + 1)).map (·.1))) || decide (12 ≤ i))
def wrongAt (ks : List Kk) : Option Nat := if ks.isEmpty = true then some 0 else (List.range ks.length).find? (badB ks)
/-- as the law says it -/
def lawB (ks : List Kk) (i : Nat) : Bool := match ks[i]? with
  | none => false
  | some k => has (ks.take i) k || (decide (i = 12) || (!has ((ks.take i).map (·.1)) k.1 && decide (nd ((ks.take i).map (·.1)) = 4)))
theorem take_snoc {α : Type} {l : List α} {i : Nat} {x : α} (h : l[i]? = some x) : l.take (i + 1) = l.take i ++ [x] := take_next h
theorem bad_few {ks : List Kk} : ∀ i, (∀ j, j < i → badB ks j = false) → nd ((ks.take i).map (·.1)) ≤ 4
  | 0, _ => by simp [nd, dset]
  | i + 1, h => by
    cases e : ks[i]? with
    | none =>
      have ih := bad_few i fun j hj => h j (Nat.lt_succ_of_lt hj)
      rw [List.take_of_length_le (Nat.le_succ_of_le (List.getElem?_eq_none_iff.mp e))]
      rwa [List.take_of_length_le (List.getElem?_eq_none_iff.mp e)] at ih
    | some k =>
      have hb := h i (Nat.lt_succ_self _)
      unfold badB at hb
      rw [e] at hb
      simp only [Bool.or_eq_false_iff, decide_eq_false_iff_not] at hb
      omega
theorem bad_law {ks : List Kk} {i : Nat} (h : ∀ j, j < i → badB ks j = false) (hi : i ≤ 12) : badB ks i = lawB ks i := by
  unfold badB lawB
  cases e : ks[i]? with
  | none => rfl
  | some k =>
    have few := bad_few i h
    simp only
    congr 1
    rw [Bool.or_comm]
    congr 1
    · rw [decide_eq_decide]; omega
    · rw [take_snoc e, List.map_append, List.map_singleton, nd_snoc]
      cases has ((ks.take i).map (·.1)) k.1
      · simp only [Bool.false_eq_true, if_false, Bool.not_false, Bool.true_and, decide_eq_decide]; omega
      · simp only [if_true, Bool.not_true, Bool.false_and]
        exact decide_eq_false (by omega)
theorem bad_late {ks : List Kk} {i : Nat} (h1 : i < ks.length) (h2 : 12 ≤ i) : badB ks i = true := by
  unfold badB
  rw [List.getElem?_eq_getElem h1]
  simp [h2]
theorem law_late {ks : List Kk} (h1 : 12 < ks.length) : lawB ks 12 = true := by
  unfold lawB
  rw [List.getElem?_eq_getElem h1]
  simp
/-- the first bad one is the same -/
theorem first_law {ks : List Kk} {i : Nat} (h : ∀ j, j < i → lawB ks j = false) (hi : i ≤ ks.length) : ∀ j, j < i → badB ks j = false := by
  intro j
  induction j using Nat.strongRecOn with
  | ind j ih =>
    intro hj
    have hb : ∀ m, m < j → badB ks m = false := fun m hm => ih m hm (Nat.lt_trans hm hj)
    rcases Nat.lt_or_ge 12 j with c | c
    · have z := h 12 (by omega)
      rw [law_late (by omega)] at z
      exact nomatch z
    · rw [bad_law hb c]
      exact h j hj
theorem first_bad {ks : List Kk} {i : Nat} (h : ∀ j, j < i → badB ks j = false) (hi : i ≤ ks.length) : ∀ j, j < i → lawB ks j = false := by
  intro j hj
  have hb : ∀ m, m < j → badB ks m = false := fun m hm => h m (Nat.lt_trans hm hj)
  rcases Nat.lt_or_ge 12 j with c | c
  · have z := h 12 (by omega)
    rw [bad_late (by omega) (Nat.le_refl _)] at z
    exact nomatch z
  · rw [← bad_law hb c]
    exact h j hj
theorem find_eq {p q : Nat → Bool} {n : Nat} (h1 : ∀ i, i ≤ n → (∀ j, j < i → p j = false) → ∀ j, j < i → q j = false) (h2 : ∀ i, i ≤ n → (∀ j, j < i → q j = false) → ∀ j, j < i → p j = false) : (List.range n).find? p = (List.range n).find? q := by
  cases e : (List.range n).find? p with
  | none =>
    have hp : ∀ j, j < n → p j = false := fun j hj => by simpa using List.find?_eq_none.mp e j (List.mem_range.mpr hj)
    rw [find_range_none q (h1 n (Nat.le_refl _) hp)]
  | some i =>
    have hi : i < n := List.mem_range.mp (List.mem_of_find?_eq_some e)
    have hpi : p i = true := by simpa using List.find?_some e
    have hb : ∀ j, j < i → p j = false := fun j hj => by
      cases c : p j
      · rfl
      · obtain ⟨l1, l2, e1, e2⟩ := (List.find?_eq_some_iff_append.mp e).2
        have hjm : j ∈ List.range n := List.mem_range.mpr (by omega)
        rw [e1] at hjm
        rcases List.mem_append.mp hjm with m | m
        · have z := e2 j m; rw [c] at z; exact nomatch z
        · have srt : (l1 ++ i :: l2).Pairwise (· < ·) := by rw [← e1]; exact List.pairwise_lt_range
          rcases List.mem_cons.mp m with z | z
          · omega
          · have := (List.pairwise_append.mp srt).2.1
            have := List.rel_of_pairwise_cons this z
            omega
    have hq := h1 i (Nat.le_of_lt hi) hb
    have hqi : q i = true := by
      cases c : q i
      · have z := h2 (i + 1) hi (fun j hj => by
          rcases Nat.lt_or_ge j i with m | m
          · exact hq j m
          · rw [show j = i by omega]; exact c) i (Nat.lt_succ_self _)
        rw [hpi] at z
        exact nomatch z
      · rfl
    rw [find_range q hi hqi hq]
theorem wrong_law (ks : List Kk) : wrongAt ks = if ks.isEmpty = true then some 0 else (List.range ks.length).find? (lawB ks) := by
  unfold wrongAt
  split
  · rfl
  · exact find_eq (fun i hi h => first_bad h hi) (fun i hi h => first_law h hi)
/-! ### in order -/
theorem sorted_uniq {α : Type} {le : α → α → Prop} (as : ∀ x y, le x y → le y x → x = y) : ∀ {l m : List α}, l.Pairwise le → m.Pairwise le → l.Perm m → l = m
  | [], m, _, _, p => p.nil_eq
  | x :: l, [], _, _, p => absurd p.length_eq (by simp)
  | x :: l, y :: m, h1, h2, p => by
    have e : x = y := by
      have hx : x ∈ y :: m := p.mem_iff.mp List.mem_cons_self
      have hy : y ∈ x :: l := p.mem_iff.mpr List.mem_cons_self
      rcases List.mem_cons.mp hx with rfl | hx
      · rfl
      · rcases List.mem_cons.mp hy with rfl | hy
        · rfl
        · exact as _ _ (List.rel_of_pairwise_cons h1 hy) (List.rel_of_pairwise_cons h2 hx)
    subst e
    rw [sorted_uniq as (List.pairwise_cons.mp h1).2 (List.pairwise_cons.mp h2).2 (List.Perm.cons_inv p)]
def txLe (x y : Str) : Prop := txLt y x = false
theorem txLe_as (x y : Str) (h1 : txLe x y) (h2 : txLe y x) : x = y := tx_tot h2 h1
theorem txLe_tr {x y z : Str} (h1 : txLe x y) (h2 : txLe y z) : txLe x z := by
  unfold txLe at *
  cases e : txLt z x
  · rfl
  · cases c : txLt x y
    · rw [tx_tot c h1] at e; rw [e] at h2; exact nomatch h2
    · have := tx_tr e c
      rw [h2] at this
      exact nomatch this
theorem rising_pw : ∀ (p : Str) (l : List Str), risingS p l = true → (p :: l).Pairwise txLe
  | p, [], _ => List.pairwise_singleton _ _
  | p, x :: l, h => by
    have h : (!ltCps x.cps.toList p.cps.toList && risingS x l) = true := h
    rw [Bool.and_eq_true, Bool.not_eq_true'] at h
    have ih := rising_pw x l h.2
    have hx : txLe p x := by
      have e := h.1
      rw [ltCps_eq] at e
      exact e
    refine List.pairwise_cons.mpr ⟨fun y hy => ?_, ih⟩
    rcases List.mem_cons.mp hy with rfl | hy
    · exact hx
    · exact txLe_tr hx (List.rel_of_pairwise_cons ih hy)
theorem sortedS_pw : ∀ {l : List Str}, sortedS l = true → l.Pairwise txLe
  | [], _ => .nil
  | x :: l, h => rising_pw x l h
/-- different ones of a list in order are in order -/
theorem dset_sub {α : Type} [DecidableEq α] (l : List α) : (dset l).Sublist l := by
  induction l using snoc_ind with
  | h0 => exact .slnil
  | h1 l x ih =>
    rw [dset_snoc]
    unfold dstep
    split
    · exact ih.trans (List.sublist_append_left _ _)
    · exact ih.append (List.Sublist.refl _)
end Half

namespace Half
open PySem PySem.Spec PyProof.Rows L2
/-! ### InvalidStore -/
abbrev sIs : Stmt := inClass (top 10) 0
def spErrI (C : Addr) (fl : Str) : Sp := fun vs H Q _ => ∃ (a : Addr) (n : Nat), vs = [.ref a, .int n] ∧ H a = some (exo a C none) ∧ n ≤ 1000 ∧
  ∀ dx, H dx = none → dx ≠ a → Q .non (upd (upd H dx (exd dx [(fl, .int n)])) a (exo a C (some dx)))
theorem scIs : SupScope ["self", "index"] ["self", "index"] (defScope sIs) := ⟨rfl, rfl, rfl, by decide +kernel, rfl, by decide +kernel, by decide +kernel, by decide +kernel, rfl, rfl⟩
theorem small_text : ∀ n : Nat, n ≤ 1000 → (Str.ofString (toString (n : Int))).length ≤ 10 ∧ ((n : Int)).natAbs.log2 < 1920 := by
  have key : (List.range 1001).all (fun n => decide ((Str.ofString (toString (n : Int))).length ≤ 10) && decide (((n : Int)).natAbs.log2 < 1920)) = true := by decide +kernel
  intro n hn
  have z := List.all_eq_true.mp key n (List.mem_range.mpr (by omega))
  simpa using z
section
variable {P : Program} {w : World} {K : PySem.W.Frag} {mg : Str → Option Value} {base : Heap}
theorem ok_is {C f : Addr} {fd : FuncData} (F : ErrFn P K C "InvalidStore.__init__" sIs f fd) (T : SupC P K mg C) (nF : PySem.W.findIn K (.ref C) "index" = some none) : FnOk P w K mg base CX0 1 f fd ["self", "index"] (spErrI C "index") := by
  obtain ⟨oc, od, kV, doc, pm, an, cda, cc, ct, osl, ccl, cdd, vsc, ccs, file, tf, cl, cld, csl, rfl, lk, hcd, hcode, hvs, hfile, hcell⟩ := F.ex
  refine fn_sup (N := ["self", "index"]) lk hcd scIs rfl rfl rfl hcode hvs hfile hcell T (fun vs H Q E h => ?_) (fun _ => rfl) (fun _ => rfl) (fun _ => rfl) (fun A outer s H vs Q E hr h => ?_)
  · obtain ⟨a, p, rfl, _⟩ := h
    rfl
  · obtain ⟨a, n, rfl, ha, hn, k⟩ := h
    refine ⟨a, _, _, rfl, ha, pa_cons (pe_joined (.cons pe_str (.cons (pe_fmt (pv 1)) .nil))) pa_nil, pss_one (ps_ost (pv 0) (pv 1)), ?_⟩
    obtain ⟨l1, l2⟩ := small_text n hn
    refine ⟨_, rfl, (by decide), _, rfl, .inr ⟨(n : Int), rfl, l2, _, rfl, ?_, ?_⟩⟩
    · rw [app_len, app_len, sizeLine_eq]
      have : ("no store can be made of these editions, because of index " : Str).length = 57 := by decide
      have e0 : (Str.empty).length = 0 := by decide
      have : (Str.ofString (toString (n : Int))).length ≤ 10 := l1
      omega
    · refine ⟨by show 1 ≤ 1000; decide, ha, ?_⟩
      refine ⟨_, rfl, _, rfl, a, C, rfl, T.oex, nF, .inl ⟨ha, fun dx h1 h2 => k dx h1 h2⟩⟩
end
theorem ne_of_none' {H : Hp} {a b : Addr} {o : HO} (h : H a = some o) (n : H b = none) : b ≠ a := fun z => by rw [z, h] at n; cases n
/-! ### wrong_index -/
abbrev sWi : Stmt := top 49
/-- an edition that has this name and this version -/
def EdK (C : Addr) (H : Hp) (a : Addr) (k : Kk) : Prop := ∃ dx p xs, H a = some (.ins C dx [("parts", .ref p)]) ∧ H p = some (.tup (.str k.1 :: .int k.2 :: xs))
theorem EdK.same {C : Addr} {H H' : Hp} {a : Addr} {k : Kk} (S : Same H H') (h : EdK C H a k) : EdK C H' a k := by
  obtain ⟨dx, p, xs, h1, h2⟩ := h
  exact ⟨dx, p, xs, S _ _ h1, S _ _ h2⟩
/-- editions one after another -/
abbrev Eds : Type := List (Addr × Kk)
def EdsAt (K : PySem.W.Frag) (C : Addr) (H : Hp) (t : Addr) (es : Eds) : Prop := SqT K H t (es.map fun e => .ref e.1) ∧ ∀ e ∈ es, EdK C H e.1 e.2
theorem EdsAt.same {K : PySem.W.Frag} {C : Addr} {H H' : Hp} {t : Addr} {es : Eds} (S : Same H H') (h : EdsAt K C H t es) : EdsAt K C H' t es := ⟨S.sqT h.1, fun e he => (h.2 e he).same S⟩
abbrev keysOf (es : Eds) : List Kk := es.map (·.2)
def kk (k : Kk) : List Key := [.inr k.1, .inl k.2]
theorem kk_inj {a b : Kk} (h : kk a = kk b) : a = b := by
  unfold kk at h
  injection h with h1 h2
  injection h2 with h2 _
  injection h1 with h1
  injection h2 with h2
  exact Prod.ext h1 h2
def optI : Option Nat → V
  | none => .non
  | some i => .int i
def spWi (K : PySem.W.Frag) (C : Addr) : Sp := fun vs H Q _ => ∃ (t : Addr) (es : Eds), vs = [.ref t] ∧ EdsAt K C H t es ∧ es.length ≤ 40 ∧ ∀ H', Same H H' → Q (optI (wrongAt (keysOf es))) H'
structure TxtW (P : Program) (w : World) (K : PySem.W.Frag) (mg : Str → Option Value) (base : Heap) (C : Addr) : Prop where
  set : mg "set" = none
  len : mg "len" = none
  enum : mg "enumerate" = none
  mE : ∃ t, mg "MOST_EDITIONS" = some (.int 12 t)
  mN : ∃ t, mg "MOST_NAMES" = some (.int 4 t)
  p0 : Prp P w K mg base C "name" 0
  p1 : Prp P w K mg base C "version" 1
  cl : Cls K C
theorem scWi : FnScope ["editions", "keys", "names", "at", "edition", "key"] ["editions"] (defScope sWi) := ⟨rfl, rfl, rfl, by decide +kernel, rfl, by decide +kernel, by decide +kernel⟩
section
variable {P : Program} {w : World} {K : PySem.W.Frag} {mg : Str → Option Value} {base : Heap} {C : Addr}
/-- what stands before the i-th turn -/
structure WiI (P : Program) (w : World) (K : PySem.W.Frag) (C t ka na : Addr) (es : Eds) (H0 : Hp) (i : Nat) (σ : L2.St) (H : Hp) : Prop where
  sl : ∃ x3 x4 x5, σ = [some (.ref t), some (.ref ka), some (.ref na), x3, x4, x5]
  sm : Same H0 H
  n1 : H0 ka = none
  n2 : H0 na = none
  ts : ∃ L, H ka = some (TsO P w ka L) ∧ TupsIn H L ∧ L.length = i ∧ ∀ k, kk k ∈ L.map (·.2) ↔ k ∈ (keysOf es).take i
  nm : ∃ S n, H na = some (SetK P w na S n) ∧ (∀ x, S (.inr x) = has (((keysOf es).take i).map (·.1)) x) ∧ n = nd (((keysOf es).take i).map (·.1))
  ok : ∀ j, j < i → badB (keysOf es) j = false
theorem prp_read {H : Hp} {a : Addr} {k : Kk} {Q : VK} (h : EdK C H a k) (q : Q (.str k.1) H) : ∃ p dx fs, V.ref a = .ref p ∧ H p = some (.ins C dx fs) ∧ spGet C 0 [.ref p] H Q E0 := by
  obtain ⟨dx, p, xs, h1, h2⟩ := h
  exact ⟨a, dx, _, rfl, h1, a, dx, p, _, _, rfl, h1, h2, rfl, q⟩
theorem ok_wi {f : Addr} {fd : FuncData} (F : Fun K "wrong_index" "wrong_index" sWi f fd) (T : TxtW P w K mg base C) : FnOk P w K mg base CX0 3 f fd ["editions"] (spWi K C) := by
  refine F.ok scWi (fun vs H Q E h => ?_) (fun cdv A outer s H vs Q E hr h => ?_)
  · obtain ⟨t, es, rfl, _⟩ := h
    rfl
  · obtain ⟨t, es, rfl, hE, hz, k⟩ := h
    have nd' := scWi.nd
    have hu := hu_of hr
    have r2 : Room 2 _ := hr.mono (by decide)
    obtain ⟨tE, mE⟩ := T.mE
    obtain ⟨tN, mN⟩ := T.mN
    refine ⟨_, pss_cons (ps_if (pt_not (pt_truth (pv 0) (by intro _; rfl))) (pss_one (ps_ret pe_int)) pss_nil)
      (pss_cons (ps_set (i := 1) nd' rfl (Or.inl rfl) (pe_callTy0 cr_set0T (by rfl) T.set (by decide +kernel)))
      (pss_cons (ps_set (i := 2) nd' rfl (Or.inl rfl) (pe_callTy0 cr_set0K (by rfl) T.set (by decide +kernel)))
      (pss_cons (ps_for PassesOwn.never rfl (pi_enumT (by rfl) T.enum (pa_cons (pv 0) pa_nil)) (pg_tup rfl (pgs_cons (pg_name (i := 3) nd' rfl (Or.inl rfl)) (pgs_cons (pg_name (i := 4) nd' rfl (Or.inl rfl)) pgs_nil)))
        (pss_cons (ps_set (i := 5) nd' rfl (Or.inl rfl) (pe_tup (pa_cons (pe_prp T.p0 T.cl r2 (pv 4)) (pa_cons (pe_prp T.p1 T.cl r2 (pv 4)) pa_nil))))
        (pss_cons (ps_expr (pe_saddK (pv 2) (pa_cons (pe_prp T.p0 T.cl r2 (pv 4)) pa_nil)))
        (pss_cons (ps_if (PW.pt (pw_or (pt_cmpR (or_sinT hu) (pv 5) (pv 1) (by rfl)) (pw_or (pt_cmpR op_gt (pe_callB call_lenSK (by rfl) T.len PySem.boot_len (pa_cons (pv 2) pa_nil)) (pe_glob (v := .int 4) rfl mN ⟨_, rfl⟩) (nomark _)) (pw_or1 (pt_cmpR op_ge (pv 3) (pe_glob (v := .int 12) rfl mE ⟨_, rfl⟩) (nomark _)))))) (pss_one (ps_ret (pv 3))) pss_nil)
        (pss_one (ps_expr (pe_saddT hu (pv 1) (pa_cons (pv 5) pa_nil))))))))
      (pss_one (ps_ret pe_non))))), ?_⟩
    refine ⟨_, rfl, !es.isEmpty, .inr (.inl ⟨_, hE.1, by simp⟩), ?_⟩
    by_cases he : es.isEmpty = true
    · refine ite_yes (by rw [he]; rfl) ?_
      have e : wrongAt (keysOf es) = some 0 := by
        unfold wrongAt
        rw [if_pos (by simpa using he)]
      have z := k H (Same.refl H)
      rw [e] at z
      exact z
    refine ite_no (by simp at he ⊢; exact he) ?_
    have wrong : wrongAt (keysOf es) = (List.range (keysOf es).length).find? (badB (keysOf es)) := by
      unfold wrongAt
      rw [if_neg (by simpa using he)]
    refine ⟨rfl, fun ka n1 => ⟨rfl, fun na n2 => ?_⟩⟩
    have nka : na ≠ ka := fun z => by rw [z, upd_same] at n2; cases n2
    have n2' : H na = none := by rwa [upd_ne nka] at n2
    refine ⟨_, rfl, t, _, rfl, (hE.same ((Same.upd_new n1).trans (Same.upd_new n2))).1, ?_⟩
    refine for_it (walk_enumT (K := K) (a := t) (xs := es.map fun e => .ref e.1)) (WiI P w K C t ka na es H) ?_ ?_ ?_ ?_
    · exact ⟨⟨_, _, _, rfl⟩, (Same.upd_new n1).trans (Same.upd_new n2), n1, n2', ⟨[], by rw [upd_ne (Ne.symm nka), upd_same]; rfl, (fun p hp => nomatch hp), rfl, fun k => by simp⟩, ⟨_, _, upd_same, fun x => rfl, rfl⟩, fun j hj => absurd hj (Nat.not_lt_zero _)⟩
    · exact fun i σ H' _ I => (hE.same I.sm).1
    · intro i x σ H1 H2 hi I y
      obtain ⟨T', a, b, rfl, nT, rfl, ha, hb⟩ := y
      cases ha
      obtain ⟨e, he, rfl⟩ : ∃ e, es[i]? = some e ∧ b = .ref e.1 := by
        have hb : (es.map fun e => V.ref e.1)[i]? = some b := hb
        rw [List.getElem?_map] at hb
        obtain ⟨e, h1, h2⟩ := Option.map_eq_some_iff.mp hb
        exact ⟨e, h1, h2.symm⟩
      obtain ⟨⟨x3, x4, x5, rfl⟩, sm, _, _, ⟨L, hka, hL, hLl, hLm⟩, ⟨S, n, hna, hS, hn⟩, hok⟩ := I
      have hi' : i < es.length := (List.getElem?_eq_some_iff.mp he).1
      have hke : (keysOf es)[i]? = some e.2 := by rw [List.getElem?_map, he] <;> rfl
      refine ⟨T', _, rfl, .inl (.inl upd_same), rfl, _, _, rfl, _, _, rfl, rfl, ?_⟩
      have s1 : Same H1 (upd H1 T' (.tup [.int (i : Nat), .ref e.1])) := Same.upd_new nT
      obtain ⟨dx, p, xs, h1, h2⟩ := ((hE.2 e (List.mem_of_getElem? he)).same sm).same s1
      refine ⟨_, rfl, e.1, dx, _, rfl, h1, e.1, dx, p, _, _, rfl, h1, h2, rfl, _, rfl, e.1, dx, _, rfl, h1, e.1, dx, p, _, _, rfl, h1, h2, rfl, two_le, fun tk ntk => ?_⟩
      have s2 := s1.trans (Same.upd_new (o := .tup [.str e.2.1, .int e.2.2]) ntk)
      have h1' := (Same.upd_new (o := .tup [.str e.2.1, .int e.2.2]) ntk) _ _ h1
      have h2' := (Same.upd_new (o := .tup [.str e.2.1, .int e.2.2]) ntk) _ _ h2
      have hnl : n ≤ 40 := by
        rw [hn]
        refine Nat.le_trans (nd_le _) ?_
        rw [List.length_map, List.length_take]
        omega
      refine ⟨_, rfl, ⟨na, S, n, rfl, s2 _ _ hna⟩, _, rfl, e.1, dx, _, rfl, h1', e.1, dx, p, _, _, rfl, h1', h2', rfl, na, .inr e.2.1, S, n, rfl, rfl, s2 _ _ hna, (by show n + 1 < 4096; omega), ?_⟩
      have ntka : tk ≠ ka := ne_of_none' (s1 _ _ hka) ntk
      have ntna : tk ≠ na := ne_of_none' (s1 _ _ hna) ntk
      have kna : ka ≠ na := Ne.symm nka
      have nmE : ((keysOf es).take (i + 1)).map (·.1) = ((keysOf es).take i).map (·.1) ++ [e.2.1] := by rw [take_snoc hke, List.map_append] <;> rfl
      have cnt : (if S (.inr e.2.1) = true then n else n + 1) = nd (((keysOf es).take (i + 1)).map (·.1)) := by rw [nmE, nd_snoc, hS, hn]
      generalize (if S (.inr e.2.1) = true then n else n + 1) = n' at cnt ⊢
      generalize hS' : (fun j => S j || decide (j = Sum.inr e.2.1)) = S'
      have hS2 : ∀ x, S' (.inr x) = has (((keysOf es).take (i + 1)).map (·.1)) x := fun x => by
        rw [← hS', nmE]
        show (S (.inr x) || decide ((Sum.inr x : Key) = Sum.inr e.2.1)) = _
        rw [hS]
        unfold has
        rw [List.any_append]
        congr 1
        simp only [List.any_cons, List.any_nil, Bool.or_false]
        rw [decide_eq_decide]
        exact ⟨fun z => by injection z with z; exact z.symm, fun z => by rw [z]⟩
      have big : Same H (upd (upd (upd H1 T' (.tup [.int (i : Nat), .ref e.1])) tk (.tup [.str e.2.1, .int e.2.2])) na (SetK P w na S' n')) := fun b o q => by
        rw [upd_ne (ne_of_none q n2')]
        exact s2 _ _ (sm _ _ q)
      have tups : TupsIn (upd (upd (upd H1 T' (.tup [.int (i : Nat), .ref e.1])) tk (.tup [.str e.2.1, .int e.2.2])) na (SetK P w na S' n')) L := fun q hq => by
        rw [upd_ne (ne_of (s2 _ _ (hL q hq)) (s2 _ _ hna) (by intro z; cases z))]
        exact s2 _ _ (hL q hq)
      have gka : (upd (upd (upd H1 T' (.tup [.int (i : Nat), .ref e.1])) tk (.tup [.str e.2.1, .int e.2.2])) na (SetK P w na S' n')) ka = some (TsO P w ka L) := by
        rw [upd_ne kna]
        exact s2 _ _ hka
      have gtk : (upd (upd (upd H1 T' (.tup [.int (i : Nat), .ref e.1])) tk (.tup [.str e.2.1, .int e.2.2])) na (SetK P w na S' n')) tk = some (.tup ((kk e.2).map kV)) := by
        rw [upd_ne ntna, upd_same]
        rfl
      have gna : (upd (upd (upd H1 T' (.tup [.int (i : Nat), .ref e.1])) tk (.tup [.str e.2.1, .int e.2.2])) na (SetK P w na S' n')) na = some (SetK P w na S' n') := upd_same
      have hk : hasK L (kk e.2) = has ((keysOf es).take i) e.2 := by
        cases q : has ((keysOf es).take i) e.2
        · exact hasK_no fun z => not_has q ((hLm e.2).mp z)
        · exact hasK_iff.mpr ((hLm e.2).mpr (has_iff.mp q))
      have bad : badB (keysOf es) i = (hasK L (kk e.2) || (decide (4 < n') || decide (12 ≤ i))) := by
        unfold badB
        rw [hke, hk, cnt]
      have out : badB (keysOf es) i = true → Q (.int (i : Nat)) (upd (upd (upd H1 T' (.tup [.int (i : Nat), .ref e.1])) tk (.tup [.str e.2.1, .int e.2.2])) na (SetK P w na S' n')) := fun hb => by
        have e0 : wrongAt (keysOf es) = some i := by
          rw [wrong]
          exact find_range _ (by simpa using hi') hb hok
        have z := k _ big
        rw [e0] at z
        exact z
      refine ⟨_, rfl, _, rfl, ka, tk, kk e.2, L, rfl, rfl, gtk, gka, tups, _, rfl, ?_⟩
      cases c1 : hasK L (kk e.2)
      case true => exact iteT (⟨_, rfl, out (by rw [bad, c1]; rfl)⟩)
      refine iteF ?_
      refine ⟨_, rfl, na, S', n', rfl, gna, _, _, rfl, rfl, _, rfl, ?_⟩
      cases c2 : decide (4 < n')
      case true => exact ite_yes (by rw [decide_eq_true_eq] at c2 ⊢; omega) ⟨_, rfl, out (by rw [bad, c1, c2]; rfl)⟩
      refine ite_no (by rw [decide_eq_false_iff_not] at c2 ⊢; omega) ?_
      refine ⟨_, rfl, _, _, rfl, rfl, _, rfl, ?_⟩
      cases c3 : decide (12 ≤ i)
      case true => exact ite_yes (by rw [decide_eq_true_eq] at c3 ⊢; omega) ⟨_, rfl, out (by rw [bad, c1, c2, c3]; rfl)⟩
      refine ite_no (by rw [decide_eq_false_iff_not] at c3 ⊢; omega) ?_
      refine ⟨_, rfl, ⟨ka, L, rfl, gka⟩, _, rfl, ka, tk, kk e.2, L, rfl, rfl, gtk, gka, tups, by omega, fun z => ?_, fun _ L' pm => ?_⟩
      · rw [hasK_iff.mpr z] at c1
        exact nomatch c1
      · refine ⟨⟨_, _, _, rfl⟩, fun b o q => ?_, n1, n2', ⟨L', upd_same, fun q hq => ?_, ?_, fun k2 => ?_⟩, ⟨S', n', ?_, hS2, cnt⟩, fun j hj => ?_⟩
        · rw [upd_ne (ne_of_none q n1)]
          exact big _ _ q
        · have old : ∀ y : Addr × List Key, (upd (upd (upd H1 T' (.tup [.int (i : Nat), .ref e.1])) tk (.tup [.str e.2.1, .int e.2.2])) na (SetK P w na S' n')) y.1 = some (.tup (y.2.map kV)) → (upd (upd (upd (upd H1 T' (.tup [.int (i : Nat), .ref e.1])) tk (.tup [.str e.2.1, .int e.2.2])) na (SetK P w na S' n')) ka (TsO P w ka L')) y.1 = some (.tup (y.2.map kV)) := fun y hy => by
            rw [upd_ne (ne_of hy gka (by intro z; cases z))]
            exact hy
          rcases List.mem_cons.mp (pm.mem_iff.mp hq) with rfl | hq
          · exact old _ gtk
          · exact old _ (tups q hq)
        · rw [pm.length_eq, List.length_cons, hLl]
        · rw [(pm.map (·.2)).mem_iff, List.map_cons, List.mem_cons, hLm k2, take_snoc hke, List.mem_append, List.mem_singleton]
          exact ⟨fun z => z.elim (fun z => .inr (kk_inj z)) .inl, fun z => z.elim .inr fun z => .inl (by rw [z])⟩
        · rw [upd_ne nka]
          exact gna
        · rcases Nat.lt_or_ge j i with m | m
          · exact hok j m
          · rw [show j = i by omega, bad, c1, c2, c3]
            rfl
    · intro σ H' I
      have e : wrongAt (keysOf es) = none := by
        rw [wrong]
        exact find_range_none _ fun j hj => I.ok j (by simpa using hj)
      have z := k H' I.sm
      rw [e] at z
      exact z
end
end Half

namespace Half
open PySem PySem.Spec PyProof.Rows L2
abbrev sVn : Stmt := top 50
theorem put_keys {κ : Type} [DecidableEq κ] (kvs : List (κ × V)) (k : κ) (v : V) : (putK kvs k v).map (·.1) = dstep (kvs.map (·.1)) k := by
  unfold putK dstep
  have e : (kvs.any fun kv => decide (kv.1 = k)) = has (kvs.map (·.1)) k := by
    unfold has
    rw [List.any_map]
    rfl
  rw [e]
  split
  · rw [List.map_map]
    refine List.map_congr_left fun p hp => ?_
    show (if p.1 = k then (p.1, v) else p).1 = p.1
    split <;> rfl
  · rw [List.map_append]
    rfl
/-- which numbers a name has -/
def numsOf (ys : List Kk) (nm : Str) : List V := (ys.filter fun y => decide (y.1 = nm)).map fun y => .int y.2
/-- the dict at d tells ys name by name -/
def Nums0 (H : Hp) (d : Addr) (ys : List Kk) : Prop := ∃ kvs, H d = some (.dK kvs) ∧ kvs.map (·.1) = (dset (ys.map (·.1))).map Sum.inr ∧ ∀ nm ∈ ys.map (·.1), ∃ t, valV kvs (.inr nm) = some (.ref t) ∧ H t = some (.tup (numsOf ys nm))
def Asc (ys : List Kk) : Prop := ys.Pairwise fun x y => pLt y x = false
def NumsAt (H : Hp) (d : Addr) (ks : List Kk) : Prop := ∃ ys, ys.Perm ks ∧ Asc ys ∧ Nums0 H d ys
theorem Nums0.same {H H' : Hp} {d : Addr} {ys : List Kk} (S : Same H H') (h : Nums0 H d ys) : Nums0 H' d ys := by
  obtain ⟨kvs, h1, h2, h3⟩ := h
  exact ⟨kvs, S _ _ h1, h2, fun nm hm => let ⟨t, a, b⟩ := h3 nm hm; ⟨t, a, S _ _ b⟩⟩
theorem NumsAt.same {H H' : Hp} {d : Addr} {ks : List Kk} (S : Same H H') (h : NumsAt H d ks) : NumsAt H' d ks := by
  obtain ⟨ys, a, b, c⟩ := h
  exact ⟨ys, a, b, c.same S⟩
/-- the key that the tuple x holds -/
def keyAt (H : Hp) : V → Kk
  | .ref t => match H t with
    | some (.tup [.str a, .int b]) => (a, b)
    | _ => ("", 0)
  | _ => ("", 0)
theorem keyAt_of {H : Hp} {t : Addr} {k : Kk} (h : H t = some (.tup [.str k.1, .int k.2])) : keyAt H (.ref t) = k := by
  show (match H t with
    | some (.tup [.str a, .int b]) => (a, b)
    | _ => (("", 0) : Kk)) = k
  rw [h]
def KeysIn (H : Hp) (bs : List (Addr × Kk)) : Prop := ∀ b ∈ bs, H b.1 = some (.tup [.str b.2.1, .int b.2.2])
def spVn (K : PySem.W.Frag) : Sp := fun vs H Q _ => ∃ (l : Addr) (bs : List (Addr × Kk)), vs = [.ref l] ∧ SqL K H l (bs.map fun b => .ref b.1) ∧ KeysIn H bs ∧ bs.length ≤ 40 ∧ ∀ d H', Same H H' → H d = none → NumsAt H' d (bs.map (·.2)) → Q (.ref d) H'
theorem scVn : FnScope ["keys", "versions", "name", "version"] ["keys"] (defScope sVn) := ⟨rfl, rfl, rfl, by decide +kernel, rfl, by decide +kernel, by decide +kernel⟩
theorem nums_snoc {ys : List Kk} {y : Kk} {nm : Str} : numsOf (ys ++ [y]) nm = if y.1 = nm then numsOf ys nm ++ [.int y.2] else numsOf ys nm := by
  unfold numsOf
  rw [List.filter_append, List.map_append]
  by_cases e : y.1 = nm
  · rw [if_pos e, List.filter_cons_of_pos (by simpa using e)]
    rfl
  · rw [if_neg e, List.filter_cons_of_neg (by simpa using e)]
    simp
theorem nums_none {ys : List Kk} {nm : Str} (h : nm ∉ ys.map (·.1)) : numsOf ys nm = [] := by
  unfold numsOf
  rw [List.map_eq_nil_iff, List.filter_eq_nil_iff]
  intro y hy z
  exact h (List.mem_map.mpr ⟨y, hy, of_decide_eq_true z⟩)
section
variable {P : Program} {w : World} {K : PySem.W.Frag} {mg : Str → Option Value} {base : Heap}
theorem ok_vn {f : Addr} {fd : FuncData} (F : Fun K "versions_by_name" "versions_by_name" sVn f fd) (hS : mg "sorted" = none) : FnOk P w K mg base CX0 1 f fd ["keys"] (spVn K) := by
  refine F.ok scVn (fun vs H Q E h => ?_) (fun cdv A outer s H vs Q E hr h => ?_)
  · obtain ⟨l, bs, rfl, _⟩ := h
    rfl
  · obtain ⟨l, bs, rfl, hl, hb, hz, k⟩ := h
    have nd' := scVn.nd
    have hu := hu_of hr
    refine ⟨_, pss_cons (ps_set (i := 1) nd' rfl (Or.inl rfl) pe_dnewK)
      (pss_cons (ps_for PassesOwn.never rfl (pi_list (pe_callB cr_sortTI (by rfl) hS (by decide +kernel) (pa_cons (pv 0) pa_nil))) (pg_tup rfl (pgs_cons (pg_name (i := 2) nd' rfl (Or.inl rfl)) (pgs_cons (pg_name (i := 3) nd' rfl (Or.inl rfl)) pgs_nil)))
        (pss_one (ps_dput hu (pv 1) (pv 2) (pe_tup (StX.pa_star (pe_dget2 hu (pv 1) (pv 2) (pe_tup pa_nil) ⟨rfl, rfl, rfl, rfl⟩) (pa_cons (pv 3) pa_nil))) rfl)))
      (pss_one (ps_ret (pv 1)))), ?_⟩
    refine fun d nd1 => ?_
    have s1 : Same H (upd H d (.dK [])) := Same.upd_new nd1
    refine ⟨_, rfl, l, _, keyAt (upd H d (.dK [])), rfl, s1.seq hl, fun x hx => ?_, fun ys p hs hp np => ?_⟩
    · obtain ⟨b, hb', rfl⟩ := List.mem_map.mp hx
      have g := s1 _ _ (hb b hb')
      refine ⟨b.1, rfl, ?_⟩
      rw [keyAt_of g]
      exact g
    · have zs : (ys.map (keyAt (upd H d (.dK [])))).Perm (bs.map (·.2)) := by
        have e := hp.map (keyAt (upd H d (.dK [])))
        rw [List.map_map] at e
        rw [show bs.map (·.2) = bs.map (keyAt (upd H d (.dK [])) ∘ fun b => V.ref b.1) from List.map_congr_left fun b hb' => (keyAt_of (s1 _ _ (hb b hb'))).symm]
        exact e
      have asc : Asc (ys.map (keyAt (upd H d (.dK [])))) := List.pairwise_map.mpr hs
      have tups : ∀ y ∈ ys, ∃ t, y = .ref t ∧ (upd H d (.dK [])) t = some (.tup [.str (keyAt (upd H d (.dK [])) y).1, .int (keyAt (upd H d (.dK [])) y).2]) := fun y hy => by
        obtain ⟨b, hb', rfl⟩ := List.mem_map.mp (hp.mem_iff.mp hy)
        have g := s1 _ _ (hb b hb')
        refine ⟨b.1, rfl, ?_⟩
        rw [keyAt_of g]
        exact g
      have yl : ys.length ≤ 40 := by rw [hp.length_eq, List.length_map]; exact hz
      have hdp : d ≠ p := fun z => by rw [← z, upd_same] at np; cases np
      generalize keyAt (upd H d (.dK [])) = key at zs asc tups
      refine ⟨p, rfl, ⟨_, SqL.of upd_same⟩, ?_⟩
      refine for_it (walk_list (K := K) (a := p) (xs := ys)) (fun i σ H' => (∃ x2 x3, σ = [some (.ref l), some (.ref d), x2, x3]) ∧ Same H H' ∧ H' p = some (.lst ys) ∧ (∀ y ∈ ys, ∃ t, y = .ref t ∧ H' t = some (.tup [.str (key y).1, .int (key y).2])) ∧ Nums0 H' d ((ys.take i).map key)) ?_ ?_ ?_ ?_
      · refine ⟨⟨_, _, rfl⟩, s1.trans (Same.upd_new np), upd_same, fun y hy => ?_, ⟨[], by rw [upd_ne hdp, upd_same], rfl, fun nm hm => by simp at hm⟩⟩
        obtain ⟨t, e, g⟩ := tups y hy
        exact ⟨t, e, (Same.upd_new np) _ _ g⟩
      · exact fun i σ H' _ I => SqL.of I.2.2.1
      · rintro i x σ H1 H2 hi ⟨⟨x2, x3, rfl⟩, sm, gp, gt, ⟨kvs, gd, gk, gv⟩⟩ ⟨rfl, hx⟩
        obtain ⟨t, rfl, ht⟩ := gt x (List.mem_of_getElem? hx)
        have tk : (ys.take (i + 1)).map key = (ys.take i).map key ++ [key (.ref t)] := by rw [take_snoc hx, List.map_append] <;> rfl
        have il : i ≤ 40 := by omega
        have kl : kvs.length ≤ 40 := by
          have e := congrArg List.length gk
          rw [List.length_map, List.length_map] at e
          have := nd_le (((ys.take i).map key).map (·.1))
          unfold nd at this
          rw [List.length_map, List.length_map, List.length_take] at this
          omega
        refine ⟨t, _, rfl, .inl (.inl ht), rfl, _, _, rfl, _, _, rfl, rfl, ?_⟩
        generalize key (.ref t) = y at ht tk
        refine ⟨_, rfl, d, rfl, .inl ⟨kvs, .inl gd⟩, _, rfl, Nat.zero_le _, fun te nte => ?_⟩
        have se : Same H2 (upd H2 te (.tup [])) := Same.upd_new nte
        have wh : ∃ u, ((valV kvs (.inr y.1)).getD (.ref te)) = .ref u ∧ (upd H2 te (.tup [])) u = some (.tup (numsOf ((ys.take i).map key) y.1)) := by
          by_cases hm : y.1 ∈ ((ys.take i).map key).map (·.1)
          · obtain ⟨u, a, b⟩ := gv y.1 hm
            exact ⟨u, by rw [a]; rfl, se _ _ b⟩
          · have e : valV kvs (.inr y.1) = none := by
              cases c : valV kvs (.inr y.1) with
              | none => rfl
              | some v =>
                have z := valV_in c
                rw [gk] at z
                obtain ⟨q, hq, eq⟩ := List.mem_map.mp z
                injection eq with eq
                subst eq
                exact absurd ((mem_dset _ _).mp hq) hm
            exact ⟨te, by rw [e]; rfl, by rw [nums_none hm, upd_same]⟩
        obtain ⟨u, eu, hu'⟩ := wh
        refine ⟨_, DGet.k (k := .inr y.1) (se _ _ gd), ?_⟩
        refine ⟨u, _, eu, .inl (.inl (.inl hu')), _, rfl, ?_, fun tt ntt => ?_⟩
        · rw [List.length_append]
          have : (numsOf ((ys.take i).map key) y.1).length ≤ 40 := by
            unfold numsOf
            rw [List.length_map]
            refine Nat.le_trans (List.length_filter_le _ _) ?_
            rw [List.length_map, List.length_take]
            omega
          show _ + 1 ≤ sizeLine
          rw [sizeLine_eq]
          omega
        have st := Same.upd_new (o := .tup (numsOf ((ys.take i).map key) y.1 ++ [.int y.2])) ntt
        have gd2 := st _ _ (se _ _ gd)
        refine ⟨_, rfl, _, rfl, d, _, rfl, DPut.k (k := .inr y.1) gd2 (by rw [sizeLine_eq]; omega), ?_⟩
        have ne : ∀ {b o}, (∀ kvs, o ≠ .dK kvs) → H2 b = some o → (upd (upd (upd H2 te (.tup [])) tt (.tup (numsOf ((ys.take i).map key) y.1 ++ [.int y.2]))) d (.dK (putK kvs (.inr y.1) (.ref tt)))) b = some o := fun {b o} hk q => by
          rw [upd_ne (ne_of (st _ _ (se _ _ q)) gd2 (hk _))]
          exact st _ _ (se _ _ q)
        refine ⟨⟨_, _, rfl⟩, fun b o q => ?_, ne (by intro z e; cases e) gp, fun y' hy' => ?_, ?_⟩
        · have nb : b ≠ d := ne_of_none q nd1
          rw [upd_ne nb]
          exact st _ _ (se _ _ (sm _ _ q))
        · obtain ⟨t', e', g'⟩ := gt y' hy'
          exact ⟨t', e', ne (by intro z e; cases e) g'⟩
        · refine ⟨_, upd_same, ?_, fun nm hm => ?_⟩
          · rw [put_keys, gk, tk, List.map_append, List.map_singleton, dset_snoc]
            unfold dstep
            have e : has ((dset (((ys.take i).map key).map (·.1))).map (Sum.inr : Str → Key)) (.inr y.1) = has (dset (((ys.take i).map key).map (·.1))) y.1 := by
              unfold has
              rw [List.any_map]
              congr 1
              funext z
              show decide ((Sum.inr z : Key) = .inr y.1) = decide (z = y.1)
              rw [decide_eq_decide]
              exact ⟨fun q => by injection q, fun q => by rw [q]⟩
            rw [e]
            split
            · rfl
            · rw [List.map_append]
              rfl
          · rw [tk, List.map_append, List.mem_append] at hm
            rw [valV_put, tk, nums_snoc]
            by_cases e : y.1 = nm
            · subst e
              refine ⟨tt, by rw [if_pos rfl], ?_⟩
              rw [if_pos rfl, upd_ne (fun z => by rw [z, se _ _ gd] at ntt; cases ntt), upd_same]
            · rw [if_neg e, if_neg (fun q => e (by injection q with q; exact q.symm))]
              obtain ⟨t', a, b⟩ := gv nm (hm.resolve_right fun z => e (List.mem_singleton.mp (show nm ∈ [y.1] from z)).symm)
              exact ⟨t', a, ne (by intro z e; cases e) b⟩
      · rintro σ H' ⟨⟨x2, x3, rfl⟩, sm, gp, gt, gn⟩
        rw [List.take_length] at gn
        exact ⟨_, rfl, k d H' sm nd1 ⟨_, zs, asc, gn⟩⟩
end
end Half

namespace Half
open PySem PySem.Spec PyProof.Rows L2
abbrev sSt (i : Nat) : Stmt := inClass (top 51) i
/-! ### what a store holds -/
def tabOf (es : Eds) : List (List Key × V) := es.map fun e => (kk e.2, .ref e.1)
structure StObj (CT : Addr) (H : Hp) (a : Addr) (es : Eds) : Prop where
  ob : ∃ dx tb nb, H a = some (.ins CT dx [("table", .ref tb), ("numbers", .ref nb)]) ∧ H tb = some (.dT (tabOf es)) ∧ NumsAt H nb (keysOf es)
  one : (keysOf es).Nodup
theorem StObj.same {CT : Addr} {H H' : Hp} {a : Addr} {es : Eds} (S : Same H H') (h : StObj CT H a es) : StObj CT H' a es := by
  obtain ⟨⟨dx, tb, nb, h1, h2, h3⟩, one⟩ := h
  exact ⟨⟨dx, tb, nb, S _ _ h1, S _ _ h2, h3.same S⟩, one⟩
theorem wrong_none {ks : List Kk} (h : wrongAt ks = none) : ks ≠ [] ∧ ∀ i, i < ks.length → badB ks i = false := by
  unfold wrongAt at h
  split at h
  · cases h
  · rename_i he
    exact ⟨fun z => he (by rw [z]; rfl), fun i hi => by simpa using List.find?_eq_none.mp h i (List.mem_range.mpr hi)⟩
theorem bad_has {ks : List Kk} {i : Nat} {k : Kk} (h : badB ks i = false) (hk : ks[i]? = some k) : k ∉ ks.take i := by
  unfold badB at h
  rw [hk] at h
  simp only [Bool.or_eq_false_iff] at h
  exact not_has h.1
theorem wrong_nodup {ks : List Kk} (h : wrongAt ks = none) : ks.Nodup := by
  have hb := (wrong_none h).2
  have key : ∀ i, i ≤ ks.length → (ks.take i).Nodup := by
    intro i
    induction i with
    | zero => intro _; exact .nil
    | succ i ih =>
      intro hi
      have e : ks[i]? = some ks[i] := List.getElem?_eq_getElem hi
      rw [take_snoc e]
      refine List.nodup_append.mpr ⟨ih (Nat.le_of_succ_le hi), List.nodup_cons.mpr ⟨by simp, .nil⟩, fun a ha b hb' z => ?_⟩
      rw [List.mem_singleton.mp hb'] at z
      rw [z] at ha
      exact bad_has (hb i hi) e ha
  have := key ks.length (Nat.le_refl _)
  rwa [List.take_length] at this
theorem tab_none {es : Eds} {k : Kk} (h : k ∉ keysOf es) : valV (tabOf es) (kk k) = none := by
  cases c : valV (tabOf es) (kk k) with
  | none => rfl
  | some v =>
    have z := valV_in c
    unfold tabOf at z
    rw [List.map_map] at z
    obtain ⟨e, he, ee⟩ := List.mem_map.mp z
    exact absurd (List.mem_map.mpr ⟨e, he, kk_inj ee⟩) h
theorem tab_some {es : Eds} (one : (keysOf es).Nodup) {e : Addr × Kk} (h : e ∈ es) : valV (tabOf es) (kk e.2) = some (.ref e.1) := by
  have nd : ((tabOf es).map (·.1)).Nodup := by
    unfold tabOf
    rw [List.map_map]
    have : (es.map ((fun x : List Key × V => x.1) ∘ fun e => (kk e.2, V.ref e.1))) = (keysOf es).map kk := by rw [List.map_map] <;> rfl
    rw [this]
    exact List.pairwise_map.mpr (one.imp fun hne e => hne (kk_inj e))
  exact val_nodup nd (kk e.2, .ref e.1) (List.mem_map.mpr ⟨e, h, rfl⟩)
def spSi (K : PySem.W.Frag) (C CT CI : Addr) : Sp := fun vs H Q E => ∃ (x t dx : Addr) (es : Eds), vs = [.ref x, .ref t] ∧ H x = some (.ins CT dx []) ∧ EdsAt K C H t es ∧ es.length ≤ 40 ∧
  (wrongAt (keysOf es) = none → ∀ H', SameBut x H H' → StObj CT H' x es → Q .non H') ∧ (∀ i, wrongAt (keysOf es) = some i → ∀ H' d, Same H H' → H' d = some (.xd [("index", .int i)]) → E (.ref CI) (some d) H')
structure TxtS (P : Program) (w : World) (K : PySem.W.Frag) (mg : Str → Option Value) (base : Heap) (C CT CI fI : Addr) (fdI : FuncData) : Prop where
  cl : Cls K CT
  nT : NoAttr K CT "table"
  nN : NoAttr K CT "numbers"
  lst : mg "list" = none
  mgE : mg "InvalidStore" = some (.ref CI)
  sup : SupC P K mg CI
  nF : PySem.W.findIn K (.ref CI) "index" = some none
  iC : PySem.W.findIn K (.ref CI) "__init__" = some (some (.ref fI))
  tI : PySem.W.typeIn K (.ref fI) = some (.type "function")
  er : ErrFn P K CI "InvalidStore.__init__" sIs fI fdI
  bI : Binds K fdI ["self", "index"] []
  p0 : Prp P w K mg base C "name" 0
  p1 : Prp P w K mg base C "version" 1
  ce : Cls K C
  dW : Def P w K mg base 3 "wrong_index" ["editions"] (spWi K C)
  dV : Def P w K mg base 1 "versions_by_name" ["keys"] (spVn K)
abbrev SiN : List Str := ["self", "editions", "index", "edition"]
theorem scSi : FnScope SiN ["self", "editions"] (defScope (sSt 0)) := ⟨rfl, rfl, rfl, by decide +kernel, rfl, by decide +kernel, by decide +kernel⟩
theorem wrong_bound {ks : List Kk} {i : Nat} (h : wrongAt ks = some i) : i ≤ ks.length := by
  unfold wrongAt at h
  split at h
  · cases h; exact Nat.zero_le _
  · exact Nat.le_of_lt (List.mem_range.mp (List.mem_of_find?_eq_some h))
section
variable {P : Program} {w : World} {K : PySem.W.Frag} {mg : Str → Option Value} {base : Heap} {C CT CI fI : Addr} {fdI : FuncData}
theorem ok_si {f : Addr} {fd : FuncData} (F : Fun K "__init__" "Store.__init__" (sSt 0) f fd) (T : TxtS P w K mg base C CT CI fI fdI) : FnOk P w K mg base (L2.CX P w) 4 f fd ["self", "editions"] (spSi K C CT CI) := by
  refine F.okX scSi (fun vs H Q E h => ?_) (fun cdv A outer s H vs Q E hr h => ?_)
  · obtain ⟨x, t, dx, es, rfl, _⟩ := h
    rfl
  · obtain ⟨x, t, dx, es, rfl, hx, hE, hz, kOk, kBad⟩ := h
    have nd' := scSi.nd
    have hu := hu_of hr
    have r2 : Room 2 _ := hr.mono (by decide)
    have FI : FnOk P w K mg base CX0 1 fI fdI ["self", "index"] (spErrI CI "index") := ok_is T.er T.sup T.nF
    refine ⟨_, pss_cons (ps_set (i := 2) nd' rfl (Or.inl rfl) (pe_def T.dW hr rfl (pa_cons (pv 1) pa_nil)))
      (pss_cons (ps_if (pt_cmp (pc_notN (pv 2))) (pss_one (ps_raise rfl (takes_of rfl rfl rfl rfl) (pmk_oex T.sup.oex T.iC T.tI FI (hr.mono (by decide)) T.bI .nil (fun _ _ _ _ _ _ _ h => h.elim) rfl T.mgE (pa_cons (pv 2) pa_nil)))) pss_nil)
      (pss_cons (ps_fld (pv 0) (pe_dcG (own := [("edition", 3)]) (g := gName 3) (tt := tYes) Bare.t hu rfl nd' (pi_tup (pv 1)) (blkOk_by (N := SiN) (sc := defScope (sSt 0)) (by decide +kernel)) (fun _ _ _ _ _ => pg_name (i := 3) nd' rfl (Or.inl rfl)) (fun _ _ _ _ _ => pts_nil)
          (fun _ _ _ _ _ => pe_tup (pa_cons (pe_prp T.p0 T.ce r2 (pv 3)) (pa_cons (pe_prp T.p1 T.ce r2 (pv 3)) pa_nil))) (fun _ _ _ _ _ => pv 3)) rfl)
      (pss_one (ps_fld (pv 0) (pe_def T.dV (hr.mono (by decide)) rfl (pa_cons (pe_callTy (call_list_dT rfl) (by rfl) T.lst (by decide +kernel) (pa_cons (pe_fld (pv 0) rfl) pa_nil)) pa_nil)) rfl)))), ?_⟩
    refine ⟨_, rfl, t, es, rfl, hE, hz, fun H1 s1 => ?_⟩
    cases hw : wrongAt (keysOf es) with
    | some i =>
      refine ⟨_, rfl, true, rfl, ?_⟩
      refine iteT ?_
      have hi : i ≤ 1000 := by
        have := wrong_bound hw
        rw [List.length_map] at this
        omega
      refine ⟨_, rfl, (by show 1 ≤ 1000; decide), fun a ha => ⟨a, i, rfl, upd_same, hi, fun d hd1 hd2 => ⟨rfl, d, [("index", .int i)], upd_same, ?_, ?_, ?_⟩⟩⟩
      · rw [upd_ne hd2, upd_same]
      · rw [upd_ne hd2] at hd1
        exact hd1
      · rw [upd_ne hd2] at hd1
        refine kBad i hw _ d (fun b o q => ?_) upd_same
        have q1 := s1 b o q
        have nb : b ≠ d := ne_of_none q1 hd1
        have na : b ≠ a := ne_of_none q1 ha
        rw [upd_ne nb, del_ne na, upd_ne na, upd_ne nb, upd_ne na]
        exact q1
    | none =>
      refine ⟨_, rfl, false, rfl, ?_⟩
      refine iteF ?_
      have one := wrong_nodup hw
      refine ⟨_, rfl, t, rfl, ⟨_, (hE.same s1).1⟩, fun D nD => ?_⟩
      refine dcG_it (walk_tup (K := K) (a := t) (xs := es.map fun e => .ref e.1)) (fun i H' => Same H1 H' ∧ H' D = some (.dT (tabOf (es.take i)))) ⟨Same.upd_new nD, upd_same⟩ (fun i H' _ I => ((hE.same s1).same I.1).1) ?_ ?_
      · rintro i v H2 H2' hi ⟨sm, gD⟩ ⟨rfl, hv⟩
        obtain ⟨e, he, rfl⟩ : ∃ e, es[i]? = some e ∧ v = .ref e.1 := by
          rw [List.getElem?_map] at hv
          obtain ⟨e, h1, h2⟩ := Option.map_eq_some_iff.mp hv
          exact ⟨e, h1, h2.symm⟩
        obtain ⟨dy, p, xs, h1, h2⟩ := ((hE.2 e (List.mem_of_getElem? he)).same s1).same sm
        refine ⟨rfl, ?_⟩
        refine ⟨_, rfl, e.1, dy, _, rfl, h1, e.1, dy, p, _, _, rfl, h1, h2, rfl, _, rfl, e.1, dy, _, rfl, h1, e.1, dy, p, _, _, rfl, h1, h2, rfl, two_le, fun tk ntk => ?_⟩
        have st := Same.upd_new (o := .tup [.str e.2.1, .int e.2.2]) ntk
        have hi' : i < es.length := (List.getElem?_eq_some_iff.mp he).1
        refine ⟨_, rfl, _, DPut.t (k := kk e.2) (st _ _ gD) upd_same (by unfold tabOf; rw [List.length_map, List.length_take, sizeLine_eq]; omega), ?_, ?_⟩
        · intro b o q
          rw [upd_ne (ne_of_none q nD)]
          exact st _ _ (sm _ _ q)
        · have new : valV (tabOf (es.take i)) (kk e.2) = none := by
            refine tab_none fun z => ?_
            have hke : (keysOf es)[i]? = some e.2 := by rw [List.getElem?_map, he] <;> rfl
            refine bad_has ((wrong_none hw).2 i (by rw [List.length_map]; exact hi')) hke ?_
            rw [← List.map_take]
            exact z
          rw [putK_new _ new, upd_same, take_snoc he]
          unfold tabOf
          rw [List.map_append]
          rfl
      · rintro H2 ⟨sm, gD⟩
        rw [List.length_map, List.take_length] at gD
        have hx2 := sm _ _ (s1 _ _ hx)
        refine ⟨_, rfl, x, CT, dx, [], rfl, hx2, T.cl, T.nT, (by show 0 < 1000; decide), ?_⟩
        have nxD : D ≠ x := ne_of gD hx2 (by intro z; cases z)
        have gx3 : (upd H2 x (.ins CT dx (putF "table" (.ref D) []))) x = some (.ins CT dx [("table", .ref D)]) := upd_same
        have gD3 : (upd H2 x (.ins CT dx (putF "table" (.ref D) []))) D = some (.dT (tabOf es)) := by rw [upd_ne nxD]; exact gD
        refine ⟨_, rfl, x, CT, dx, _, _, rfl, gx3, T.cl, T.nT, rfl, D, _, rfl, .inl gD3, fun pl bs npl hbs => ?_⟩
        have sl := Same.upd_new (o := .lst (bs.map V.ref)) npl
        have lb : (tabOf es).length = bs.length := Paired.length hbs
        have lb' : bs.length = (keysOf es).length := by
          rw [← lb]
          unfold tabOf
          rw [List.length_map, List.length_map]
        have zip1 : (bs.zip (keysOf es)).map (fun b => V.ref b.1) = bs.map V.ref := by
          rw [show (fun b : Addr × Kk => V.ref b.1) = V.ref ∘ Prod.fst from rfl, ← List.map_map, List.map_fst_zip (Nat.le_of_eq lb')]
        have zip2 : (bs.zip (keysOf es)).map (·.2) = keysOf es := List.map_snd_zip (Nat.le_of_eq lb'.symm)
        have hk : ∀ {es : Eds} {bs : List Addr} {H : Hp}, IsKeys H (tabOf es) bs → KeysIn H (bs.zip (keysOf es)) := by
          intro es
          induction es with
          | nil => intro bs H _ b hb; simp at hb
          | cons e es ih =>
            intro bs H h
            cases h with
            | cons h t =>
              intro b hb
              rcases List.mem_cons.mp hb with rfl | hb
              · exact h
              · exact ih t b hb
        refine ⟨pl, bs.zip (keysOf es), rfl, by rw [zip1]; exact SqL.of upd_same, fun b hb => sl _ _ (hk hbs b hb), by rw [List.length_zip, List.length_map]; omega, fun d H5 s5 nd5 nums => ?_⟩
        rw [zip2] at nums
        have gx5 := s5 _ _ (sl _ _ gx3)
        refine ⟨_, rfl, x, CT, dx, _, rfl, gx5, T.cl, T.nN, (by show 1 < 1000; decide), ?_⟩
        have keep : SameBut x H (upd H5 x (.ins CT dx (putF "numbers" (.ref d) [("table", .ref D)]))) := fun b o hb q => by
          rw [upd_ne hb]
          refine s5 _ _ (sl _ _ ?_)
          rw [upd_ne hb]
          exact sm _ _ (s1 _ _ q)
        have sx : ∀ b o, (∀ fs, o ≠ .ins CT dx fs) → H5 b = some o → (upd H5 x (.ins CT dx (putF "numbers" (.ref d) [("table", .ref D)]))) b = some o := fun b o ho q => by
          rw [upd_ne (ne_of q gx5 (ho _))]
          exact q
        refine kOk hw _ keep ⟨⟨dx, D, d, upd_same, sx _ _ (by intro fs z; cases z) (s5 _ _ (sl _ _ gD3)), ?_⟩, one⟩
        obtain ⟨ys, a1, a2, kvs, a3, a4, a5⟩ := nums
        refine ⟨ys, a1, a2, kvs, sx _ _ (by intro fs z; cases z) a3, a4, fun nm hm => ?_⟩
        obtain ⟨tt, b1, b2⟩ := a5 nm hm
        exact ⟨tt, b1, sx _ _ (by intro fs z; cases z) b2⟩
end
end Half

namespace Half
open PySem PySem.Spec PyProof.Rows L2
/-- an error class without an own __init__ -/
structure ErrC (K : PySem.W.Frag) (mg : Str → Option Value) (x : Str) (C : Addr) : Prop where
  g : mg x = some (.ref C)
  x : PySem.W.excIn K C [.type "ValueError", .type "Exception", .type "BaseException", .type "object"] "ValueError.__new__" = true
  k : PySem.W.keepIn K (.ref C) = true
  b : PySem.W.subIn K (.ref C) (.type "BaseException") = some true
  t : PySem.W.typeIn K (.ref C) = some (.type "type")
structure TxtT (K : PySem.W.Frag) (mg : Str → Option Value) (CT CN CU : Addr) : Prop where
  cl : Cls K CT
  nT : NoAttr K CT "table"
  nN : NoAttr K CT "numbers"
  tup : mg "tuple" = none
  len : mg "len" = none
  isi : mg "isinstance" = none
  boo : mg "bool" = none
  mgC : mg "Store" = some (.ref CT)
  en : ErrC K mg "UnknownName" CN
  eu : ErrC K mg "UnknownEdition" CU
  ha : PySem.W.findIn K (.ref CT) "__class__" = some (some (.builtin "object.__class__"))
  hn : PySem.W.specialIn K (.builtin "object.__class__") "__get__" = some (some (.builtin "getset_descriptor.__get__"))
  ht : PySem.W.takesIn K (.builtin "object.__class__") = some true
  hm : PySem.W.mroIn K CT (.type "object") = some true
  ki : PySem.W.kitOne K (.ref CT) (.ref CT) = some true
def spNames (CT : Addr) : Sp := fun vs H Q _ => ∃ (a : Addr) (es : Eds), vs = [.ref a] ∧ StObj CT H a es ∧ ∀ ys p, ys.Perm (keysOf es) → Asc ys → H p = none → Q (.ref p) (upd H p (.tup ((dset (ys.map (·.1))).map V.str)))
def spVers (CT CN : Addr) : Sp := fun vs H Q E => ∃ (a : Addr) (es : Eds) (nm : Str), vs = [.ref a, .str nm] ∧ StObj CT H a es ∧
  (nm ∈ (keysOf es).map (·.1) → ∀ ys t, ys.Perm (keysOf es) → Asc ys → H t = some (.tup (numsOf ys nm)) → Q (.ref t) H) ∧ (nm ∉ (keysOf es).map (·.1) → (reprText nm).length ≤ 1000 ∧ E (.ref CN) none H)
def spLen (CT : Addr) : Sp := fun vs H Q _ => ∃ (a : Addr) (es : Eds), vs = [.ref a] ∧ StObj CT H a es ∧ Q (.int (es.length : Nat)) H
def spHas (CT : Addr) : Sp := fun vs H Q _ => ∃ (a b : Addr) (es : Eds) (k : Kk), vs = [.ref a, .ref b] ∧ StObj CT H a es ∧ H b = some (.tup [.str k.1, .int k.2]) ∧ Q (.bl (has (keysOf es) k)) H
def spItem (CT CU : Addr) : Sp := fun vs H Q E => ∃ (a b : Addr) (es : Eds) (k : Kk), vs = [.ref a, .ref b] ∧ StObj CT H a es ∧ H b = some (.tup [.str k.1, .int k.2]) ∧ (∀ e ∈ es, e.2 = k → Q (.ref e.1) H) ∧ (k ∉ keysOf es → E (.ref CU) none H)
def spStEq (CT : Addr) : Sp := fun vs H Q _ => ∃ (a b : Addr) (es es' : Eds), vs = [.ref a, .ref b] ∧ StObj CT H a es ∧ StObj CT H b es' ∧ (es.length = es'.length → ∀ e ∈ es, e ∈ es') ∧ Q (.bl (decide (es.length = es'.length))) H
section
variable {P : Program} {w : World} {K : PySem.W.Frag} {mg : Str → Option Value} {base : Heap} {CT CN CU : Addr}
theorem scNames : FnScope ["self"] ["self"] (defScope (sSt 1)) := ⟨rfl, rfl, rfl, by decide +kernel, rfl, by decide +kernel, by decide +kernel⟩
theorem ok_names {f : Addr} {fd : FuncData} (F : Fun K "names" "Store.names" (sSt 1) f fd) (T : TxtT K mg CT CN CU) : FnOk P w K mg base CX0 1 f fd ["self"] (spNames CT) := by
  refine F.ok scNames (fun vs H Q E h => ?_) (fun cdv A outer s H vs Q E hr h => ?_)
  · obtain ⟨a, es, rfl, _⟩ := h
    rfl
  · obtain ⟨a, es, rfl, ⟨⟨dx, tb, nb, h1, h2, ys, p1, p2, kvs, h3, h4, h5⟩, one⟩, k⟩ := h
    refine ⟨_, pss_one (ps_ret (pe_callTy (call_tuple_dK rfl) (by rfl) T.tup (by decide +kernel) (pa_cons (pe_fld (pv 0) rfl) pa_nil))), ?_⟩
    refine ⟨_, rfl, a, CT, dx, _, _, rfl, h1, T.cl, T.nN, rfl, nb, kvs, rfl, h3, fun q nq => ?_⟩
    have e : kvs.map (fun kv => kV kv.1) = (dset (ys.map (·.1))).map V.str := by
      rw [show (fun kv : Key × V => kV kv.1) = kV ∘ Prod.fst from rfl, ← List.map_map, h4, List.map_map]
      rfl
    rw [e]
    exact k ys q p1 p2 nq
theorem scVers : FnScope ["self", "name"] ["self", "name"] (defScope (sSt 2)) := ⟨rfl, rfl, rfl, by decide +kernel, rfl, by decide +kernel, by decide +kernel⟩
theorem ok_vers {f : Addr} {fd : FuncData} (F : Fun K "versions" "Store.versions" (sSt 2) f fd) (T : TxtT K mg CT CN CU) : FnOk P w K mg base (L2.CX P w) 1 f fd ["self", "name"] (spVers CT CN) := by
  refine F.okX scVers (fun vs H Q E h => ?_) (fun cdv A outer s H vs Q E hr h => ?_)
  · obtain ⟨a, es, nm, rfl, _⟩ := h
    rfl
  · obtain ⟨a, es, nm, rfl, ⟨⟨dx, tb, nb, h1, h2, ys, p1, p2, kvs, h3, h4, h5⟩, one⟩, kY, kN⟩ := h
    have hu := hu_of hr
    refine ⟨_, pss_cons (ps_if (pt_cmp (pc_dnotin hu (pv 1) (pe_fld (pv 0) rfl))) (pss_one (ps_raise rfl (takes_of rfl rfl rfl rfl) (SkE.pmk_own1 PySem.F.excBase_ValueError T.en.x T.en.g T.en.k (raises_own T.en.b T.en.t) rfl (pe_joined (.cons pe_str (.cons (pe_fmtR (pv 1)) .nil)))))) pss_nil)
      (pss_one (ps_ret (pe_dget hu (pe_fld (pv 0) rfl) (pv 1) (fun _ _ => rfl)))), ?_⟩
    have mem : ∀ x, x ∈ ys.map (·.1) ↔ x ∈ (keysOf es).map (·.1) := fun x => (p1.map (·.1)).mem_iff
    refine ⟨_, rfl, _, rfl, a, CT, dx, _, _, rfl, h1, T.cl, T.nN, rfl, nb, _, rfl, DGet.k (k := .inr nm) h3, _, rfl, ?_⟩
    by_cases hm : nm ∈ (keysOf es).map (·.1)
    · obtain ⟨t, e1, e2⟩ := h5 nm ((mem nm).mpr hm)
      refine ite_no (by rw [e1]; rfl) ?_
      refine ⟨_, rfl, a, CT, dx, _, _, rfl, h1, T.cl, T.nN, rfl, _, rfl, nb, .ref t, rfl, ?_, kY hm ys t p1 p2 e2⟩
      rw [← e1]
      exact DGet.k (k := .inr nm) h3
    · have e : valV kvs (.inr nm) = none := by
        cases c : valV kvs (.inr nm) with
        | none => rfl
        | some v =>
          have z := valV_in c
          rw [h4] at z
          obtain ⟨q, hq, eq⟩ := List.mem_map.mp z
          injection eq with eq
          subst eq
          exact absurd ((mem q).mp ((mem_dset _ _).mp hq)) hm
      refine ite_yes (by rw [e]; rfl) ?_
      obtain ⟨lr, kE⟩ := kN hm
      refine ⟨_, rfl, (by decide), _, rfl, .inl ⟨nm, rfl, by rw [sizeLine_eq]; omega, _, rfl, ?_, kE⟩⟩
      rw [app_len, app_len, sizeLine_eq]
      have : ("the store has no package " : Str).length = 25 := by decide
      have e0 : (Str.empty).length = 0 := by decide
      omega
theorem scLen : FnScope ["self"] ["self"] (defScope (sSt 3)) := ⟨rfl, rfl, rfl, by decide +kernel, rfl, by decide +kernel, by decide +kernel⟩
theorem ok_len {f : Addr} {fd : FuncData} (F : Fun K "__len__" "Store.__len__" (sSt 3) f fd) (T : TxtT K mg CT CN CU) : FnOk P w K mg base CX0 1 f fd ["self"] (spLen CT) := by
  refine F.ok scLen (fun vs H Q E h => ?_) (fun cdv A outer s H vs Q E hr h => ?_)
  · obtain ⟨a, es, rfl, _⟩ := h
    rfl
  · obtain ⟨a, es, rfl, ⟨⟨dx, tb, nb, h1, h2, _⟩, one⟩, k⟩ := h
    refine ⟨_, pss_one (ps_ret (pe_callB call_len_dT (by rfl) T.len PySem.boot_len (pa_cons (pe_fld (pv 0) rfl) pa_nil))), ?_⟩
    refine ⟨_, rfl, a, CT, dx, _, _, rfl, h1, T.cl, T.nT, rfl, tb, _, rfl, h2, ?_⟩
    have e : (tabOf es).length = es.length := List.length_map _
    rw [e]
    exact k
theorem scHas : FnScope ["self", "x"] ["self", "x"] (defScope (sSt 4)) := ⟨rfl, rfl, rfl, by decide +kernel, rfl, by decide +kernel, by decide +kernel⟩
theorem tab_has {es : Eds} (one : (keysOf es).Nodup) (k : Kk) : (valV (tabOf es) (kk k)).isSome = has (keysOf es) k := by
  by_cases h : k ∈ keysOf es
  · obtain ⟨e, he, rfl⟩ := List.mem_map.mp h
    rw [tab_some one he, has_iff.mpr h]
    rfl
  · rw [tab_none h, has_no h]
    rfl
theorem ok_has {f : Addr} {fd : FuncData} (F : Fun K "__contains__" "Store.__contains__" (sSt 4) f fd) (T : TxtT K mg CT CN CU) : FnOk P w K mg base CX0 1 f fd ["self", "x"] (spHas CT) := by
  refine F.ok scHas (fun vs H Q E h => ?_) (fun cdv A outer s H vs Q E hr h => ?_)
  · obtain ⟨a, b, es, k, rfl, _⟩ := h
    rfl
  · obtain ⟨a, b, es, k, rfl, ⟨⟨dx, tb, nb, h1, h2, _⟩, one⟩, hb, q⟩ := h
    have hu := hu_of hr
    refine ⟨_, pss_one (ps_ret (pe_and (pe_cmp (pc_din hu (pv 1) (pe_fld (pv 0) rfl)) rfl) (pe_one (pe_not (pe_callB call_isi (by rfl) T.isi (by decide +kernel) (pa_cons (pe_ix ix_tup (pv 1) pe_int (fun _ _ => rfl)) (pa_cons (pe_bltn (v := .ty "bool") (by rfl) T.boo (by decide +kernel) rfl) pa_nil))))))), ?_⟩
    refine ⟨_, rfl, _, rfl, a, CT, dx, _, _, rfl, h1, T.cl, T.nT, rfl, tb, _, rfl, DGet.t (k := kk k) h2 hb, _, rfl, ?_⟩
    rw [tab_has one]
    cases c : has (keysOf es) k
    · rw [c] at q
      exact iteF q
    · refine iteT ?_
      rw [c] at q
      refine ⟨_, rfl, b, _, 1, _, rfl, rfl, .inl (.inl hb), rfl, _, _, _, _, _, rfl, .ty _, .base (.int _), kit_ty (r := false) (by decide +kernel), _, rfl, q⟩
theorem scItem : FnScope ["self", "at"] ["self", "at"] (defScope (sSt 5)) := ⟨rfl, rfl, rfl, by decide +kernel, rfl, by decide +kernel, by decide +kernel⟩
theorem ok_item {f : Addr} {fd : FuncData} (F : Fun K "__getitem__" "Store.__getitem__" (sSt 5) f fd) (T : TxtT K mg CT CN CU) {fh : Addr} {fdh : FuncData} (FH : FnOk P w K mg base CX0 1 fh fdh ["self", "x"] (spHas CT)) (hO : OwnSp K CT fh "__contains__") (bh : Binds K fdh ["self", "x"] []) :
    FnOk P w K mg base (L2.CX P w) 2 f fd ["self", "at"] (spItem CT CU) := by
  refine F.okX scItem (fun vs H Q E h => ?_) (fun cdv A outer s H vs Q E hr h => ?_)
  · obtain ⟨a, b, es, k, rfl, _⟩ := h
    rfl
  · obtain ⟨a, b, es, k, rfl, hS, hb, kY, kN⟩ := h
    have hu := hu_of hr
    refine ⟨_, pss_cons (ps_if (pt_cmpR (op_notinO FH hO bh hr pass0) (pv 1) (pv 0) (by rfl)) (pss_one (ps_raise rfl (takes_of rfl rfl rfl rfl) (pmk_own PySem.F.excBase_ValueError T.eu.x T.eu.g T.eu.k (raises_own T.eu.b T.eu.t) rfl))) pss_nil)
      (pss_one (ps_ret (pe_dget hu (pe_fld (pv 0) rfl) (pv 1) (fun _ _ => rfl)))), ?_⟩
    obtain ⟨⟨dx, tb, nb, h1, h2, _⟩, one⟩ := id hS
    refine ⟨_, rfl, _, rfl, a, dx, _, rfl, h1, a, b, es, k, rfl, hS, hb, _, rfl, _, rfl, ?_⟩
    by_cases hm : k ∈ keysOf es
    · rw [has_iff.mpr hm]
      refine ite_no rfl ?_
      obtain ⟨e, he, rfl⟩ := List.mem_map.mp hm
      refine ⟨_, rfl, a, CT, dx, _, _, rfl, h1, T.cl, T.nT, rfl, _, rfl, tb, .ref e.1, rfl, ?_, kY e he rfl⟩
      rw [← tab_some one he]
      exact DGet.t (k := kk e.2) h2 hb
    · rw [has_no hm]
      refine ite_yes rfl ?_
      exact kN hm
theorem scStEq : FnScope ["self", "other"] ["self", "other"] (defScope (sSt 7)) := ⟨rfl, rfl, rfl, by decide +kernel, rfl, by decide +kernel, by decide +kernel⟩
theorem ok_steq {f : Addr} {fd : FuncData} (F : Fun K "__eq__" "Store.__eq__" (sSt 7) f fd) (T : TxtT K mg CT CN CU) : FnOk P w K mg base CX0 1 f fd ["self", "other"] (spStEq CT) := by
  refine F.ok scStEq (fun vs H Q E h => ?_) (fun cdv A outer s H vs Q E hr h => ?_)
  · obtain ⟨a, b, es, es', rfl, _⟩ := h
    rfl
  · obtain ⟨a, b, es, es', rfl, ⟨⟨dx, tb, nb, h1, h2, _⟩, one⟩, ⟨⟨dy, tc, nc, g1, g2, _⟩, one'⟩, hs, k⟩ := h
    have hu := hu_of hr
    refine ⟨_, pss_one (ps_ret (pe_and (pe_callB call_isi (by rfl) T.isi (by decide +kernel) (pa_cons (pv 1) (pa_cons (pe_glob (v := .ref CT) rfl T.mgC rfl) pa_nil)))
      (pe_one (pe_cmpR (op_eqT hu) (pe_fld (pv 0) rfl) (pe_fld (pv 1) rfl) (nomark _))))), ?_⟩
    refine ⟨_, rfl, _, _, _, _, _, rfl, .own CT, .base (.ins g1 T.cl T.ha T.hn T.ht T.hm), T.ki, _, rfl, ?_⟩
    refine iteT ?_
    have e1 : (tabOf es).length = es.length := List.length_map _
    have e2 : (tabOf es').length = es'.length := List.length_map _
    refine ⟨_, rfl, a, CT, dx, _, _, rfl, h1, T.cl, T.nT, rfl, _, rfl, b, CT, dy, _, _, rfl, g1, T.cl, T.nT, rfl, tb, tc, _, _, rfl, rfl, h2, g2, fun hl p hp => ?_, ?_⟩
    · rw [e1, e2] at hl
      obtain ⟨e, he, rfl⟩ := List.mem_map.mp hp
      exact ⟨e.1, rfl, tab_some one' (hs hl e he)⟩
    · rw [e1, e2]
      exact k
end
end Half

/-! == and != of two dicts with flat keys whose values are data -/
namespace L2
open PySem PySem.Spec PyProof.Rows
inductive DpM (K : PySem.W.Frag) (H : Hp) : List (Key × V) → List (Key × PyData) → Prop
  | nil : DpM K H [] []
  | cons {k : Key} {v : V} {d : PyData} {ks : List (Key × V)} {ds : List (Key × PyData)} : Dp K H v d → SeqAt.shaped d = true → DpM K H ks ds → DpM K H ((k, v) :: ks) ((k, d) :: ds)
def datAt (ds : List (Key × PyData)) (k : Key) : Option PyData := (ds.find? fun q => decide (q.1 = k)).map (·.2)
def hitM (dl : List (Key × PyData)) (p : Key × PyData) : Bool := match datAt dl p.1 with
  | some d => PyData.eqv p.2 d
  | none => false
def eqM (dk dl : List (Key × PyData)) : Bool := decide (dk.length = dl.length) && dk.all (hitM dl)
theorem DpM.len {K : PySem.W.Frag} {H : Hp} {ks : List (Key × V)} {ds : List (Key × PyData)} (h : DpM K H ks ds) : ks.length = ds.length := by
  induction h with
  | nil => rfl
  | cons _ _ _ ih => simp [ih]
theorem DpM.at {K : PySem.W.Frag} {H : Hp} {ks : List (Key × V)} {ds : List (Key × PyData)} (h : DpM K H ks ds) (k : Key) : (valV ks k = none ∧ datAt ds k = none) ∨ ∃ v d, valV ks k = some v ∧ datAt ds k = some d ∧ Dp K H v d ∧ SeqAt.shaped d = true := by
  induction h with
  | nil => exact .inl ⟨rfl, rfl⟩
  | @cons k' v d ks ds h1 h2 _ ih =>
    by_cases c : k' = k
    · refine .inr ⟨v, d, ?_, ?_, h1, h2⟩
      · unfold valV; rw [List.find?_cons, decide_eq_true c]; rfl
      · unfold datAt; rw [List.find?_cons, decide_eq_true c]; rfl
    · have e1 : valV ((k', v) :: ks) k = valV ks k := by unfold valV; rw [List.find?_cons, decide_eq_false c]
      have e2 : datAt ((k', d) :: ds) k = datAt ds k := by unfold datAt; rw [List.find?_cons, decide_eq_false c]
      rw [e1, e2]
      exact ih
section
variable {X : Cx}
theorem hits_dat {pins : List (Addr × Obj)} {σ : St} {H : Hp} {s : Shared} {A : Around} (I : Inv X pins σ H s) (hu : A.units + 64 < cLine) {ls : List (Key × V)} {dl : List (Key × PyData)} {vb : List (Key × Value)} (rb : KV ls vb) (hb : DpM X.K H ls dl) :
    ∀ {ks : List (Key × V)} {dk : List (Key × PyData)} {va : List (Key × Value)}, KV ks va → DpM X.K H ks dk → PySem.W.KeqHits A s vb va (dk.all (hitM dl)) := by
  intro ks dk va ra ha
  induction ha generalizing va with
  | nil =>
    cases ra
    exact .nil
  | @cons k v d ks ds h1 h2 _ ih =>
    cases ra with
    | @cons _ q _ qs h t =>
      obtain ⟨e1, e2⟩ := h
      obtain ⟨k', u⟩ := q
      have e1 : k = k' := e1
      subst e1
      have e2 : RelV v u := e2
      have ih := ih t
      have z := rb.val k
      rw [List.all_cons]
      rcases hb.at k with ⟨n1, n2⟩ | ⟨v', d', n1, n2, n3, n4⟩
      · rw [n1] at z
        have z : valueAt vb k = none := by
          cases q : valueAt vb k with
          | none => rfl
          | some m => rw [q] at z; exact (show False from z).elim
        have e : hitM dl (k, d) = false := by unfold hitM; rw [show datAt dl (k, d).1 = none from n2]
        rw [e, Bool.false_and]
        exact .miss z
      · rw [n1] at z
        obtain ⟨y, hy, ry⟩ := RelO.some_of z
        have e : hitM dl (k, d) = PyData.eqv d d' := by unfold hitM; rw [show datAt dl (k, d).1 = some d' from n2]
        rw [e]
        obtain ⟨as, r1⟩ := Dp.reads I d v u h1 e2
        obtain ⟨bs, r2⟩ := Dp.reads I d' v' y n3 ry
        exact .hit hy (SeqAt.eqAt_reads d d' A s u y as bs r1 r2 (SeqAt.canLay_of_shaped h2) (SeqAt.canLay_of_shaped n4) (SeqAt.room_of_shaped h2 hu)) ih
def rEqM (K : PySem.W.Frag) (fl : Bool → Bool) : R2 := fun x y H Q => ∃ a b ks ls dk dl, x = .ref a ∧ y = .ref b ∧ H a = some (.dK ks) ∧ H b = some (.dK ls) ∧ DpM K H ks dk ∧ DpM K H ls dl ∧ Q (.bl (fl (eqM dk dl))) H
theorem eqM_len {K : PySem.W.Frag} {H : Hp} {ks ls : List (Key × V)} {dk dl : List (Key × PyData)} {va vb : List (Key × Value)} (ra : KV ks va) (rb : KV ls vb) (ha : DpM K H ks dk) (hb : DpM K H ls dl) : (va.length == vb.length && dk.all (hitM dl)) = eqM dk dl := by
  unfold eqM
  rw [← ra.length, ← rb.length, ha.len, hb.len]
  congr 1
theorem op_eqM (hu : X.A.units + 66 < cLine) : OpR X (compareOp .Eq) (rEqM X.K id) := by
  intro pins s σ H x y v u Q I rx ry h
  obtain ⟨a, b, ks, ls, dk, dl, rfl, rfl, ea, eb, ma, mb, q⟩ := h
  cases rx
  cases ry
  obtain ⟨_, ya, va, ra, da⟩ := dk_of I.hok ea
  obtain ⟨_, yb, vb, rb, db⟩ := dk_of I.hok eb
  refine PySem.W.keq_eq (knd := mixKind X.prog X.w) ya yb da db (by omega) (fun _ => hits_dat I (show X.A.in1.units + 64 < cLine by show X.A.units + 1 + 64 < cLine; omega) rb mb ra ma) ?_
  rw [eqM_len ra rb ma mb]
  exact ⟨.bl _, H, I, rfl, q⟩
theorem op_neM (hu : X.A.units + 66 < cLine) : OpR X (compareOp .NotEq) (rEqM X.K not) := by
  intro pins s σ H x y v u Q I rx ry h
  obtain ⟨a, b, ks, ls, dk, dl, rfl, rfl, ea, eb, ma, mb, q⟩ := h
  cases rx
  cases ry
  obtain ⟨_, ya, va, ra, da⟩ := dk_of I.hok ea
  obtain ⟨_, yb, vb, rb, db⟩ := dk_of I.hok eb
  refine PySem.W.keq_ne (knd := mixKind X.prog X.w) ya yb da db (by omega) (fun _ => hits_dat I (show X.A.in1.units + 64 < cLine by show X.A.units + 1 + 64 < cLine; omega) rb mb ra ma) ?_
  rw [eqM_len ra rb ma mb]
  exact ⟨.bl _, H, I, rfl, q⟩
end
end L2

/-! a dict of flat keys taken into another one, pair by pair, as {**d, ..} does it -/
namespace L2
open PySem PySem.Spec PyProof.Rows
section
variable {P : Program} {w : World} {A : Around} {E : Value → Shared → Prop} {s : Shared}
/-- the place of a key, by the entries and by the pairs -/
theorem place_same {κ : Type} [DecidableEq κ] {kd : KeyKind P w κ} {es : Array DictEntry} {ps : List (κ × Value)} {x : κ} (hp : ∀ y, (es.toList.findIdx? fun e => kd.is y e.key) = ps.findIdx? fun q => decide (q.1 = y)) : (es.findIdx? fun e => kd.is x e.key) = ps.findIdx? fun q => decide (q.1 = x) := by
  have z := hp x
  obtain ⟨l⟩ := es
  simpa using z
/-- one pair -/
theorem put_one {κ : Type} [DecidableEq κ] {kd : KeyKind P w κ} {D : Addr} {ps : List (κ × Value)} {x : κ} {u y : Value} {Q : Unit → Shared → Prop} (hx : kd.is x u = true) (dd : s.heap.DictOf kd D ps) (few : ps.length ≤ sizeLine)
    (q : ∀ h', h'.DictOf kd D (stored ps x y) → Heap.SameBut D s.heap h' → Q () { s with heap := h' }) : wpAny (model P w) A (dictPut D (kd.hash x) u y) Q E s := by
  obtain ⟨ob, es, ep, g1, g2, g3, g4, g5, g6⟩ := dd
  have pl := place_same (x := x) g5.findIdx
  have size : es.size = ps.length := by rw [← g5.length, Array.length_toList]
  unfold dictPut
  refine wpAny_bind (wpAny_dictFind_of hx g1 g3 g4 ?_)
  by_cases there : x ∈ ps.map (·.1)
  · obtain ⟨i, ei⟩ : ∃ i, (ps.findIdx? fun q => decide (q.1 = x)) = some i := by
      cases c : ps.findIdx? fun q => decide (q.1 = x) with
      | some i => exact ⟨i, rfl⟩
      | none => exact absurd there (not_mem_of_findIdx_none c)
    have st : stored ps x y = ps.map fun q => if q.1 = x then (q.1, y) else q := by unfold stored; rw [if_pos (any_of_findIdx_some ei)]
    rw [pl, ei]
    have l1 : (es.toList.findIdx? fun e => kd.is x e.key) = some i := by rw [g5.findIdx x, ei]
    have pairs := g5.modify g6 l1 y
    refine wpAny_updateDict g1 g3 (q _ ⟨_, _, ep, Heap.get?_update_self _ g1 (Obj.isFreed_of_dict (Obj.data_mapDict g3 _)), g2.mapDict _, Obj.data_mapDict g3 _, g4.modify _ _, ?p, ?n⟩ (Heap.SameBut.update ..))
    case p =>
      obtain ⟨l⟩ := es
      rw [st]
      simpa using pairs
    case n =>
      rw [st, keys_map_store]
      exact g6
  · have none_ : (ps.findIdx? fun q => decide (q.1 = x)) = none := by
      refine List.findIdx?_eq_none_iff.mpr fun q hq => decide_eq_false fun e => there ?_
      exact List.mem_map.mpr ⟨q, hq, e⟩
    have st : stored ps x y = ps ++ [(x, y)] := by
      unfold stored
      rw [if_neg]
      intro z
      obtain ⟨q, hq, e⟩ := List.any_eq_true.mp z
      exact there (List.mem_map.mpr ⟨q, hq, of_decide_eq_true e⟩)
    rw [pl, none_]
    have pairs := g5.append hx (kd.hash x) y
    refine wpAny_updateDictKeys (hz := by rw [size]; exact few) g1 g3 (q _ ⟨_, _, ep + 1, Heap.get?_update_self _ g1 (Obj.isFreed_of_dict (Obj.data_mapDictKeys g3 _)), g2.mapDictKeys _, Obj.data_mapDictKeys g3 _, g4.push hx _, ?p, ?n⟩ (Heap.SameBut.update ..))
    case p =>
      obtain ⟨l⟩ := es
      rw [st]
      simpa using pairs
    case n =>
      rw [st, List.map_append]
      refine List.nodup_append.mpr ⟨g6, by simp, fun a ha b hb e => there ?_⟩
      have : b = x := by simpa using hb
      rw [← this, ← e]
      exact ha
theorem flat_of {k : Key} {v : Value} (h : (mixKind P w).is k v = true) (a : Addr) : v ≠ .ref a := by
  rintro rfl
  cases k <;> exact absurd h (by simp [mixKind, keyIs, Value.isInt, Value.isStrOf])
/-- one pair of the source, behind those that were taken -/
def oneMore (D S : Addr) (ep i : Nat) : Sem (ForInStep PUnit) := do
  match (← dictEntries S)[i]? with
  | some e => do
    holding [e.key, e.val] (dictPut D e.hash e.key e.val)
    if ((← dictEpoch S) != ep) = true then do
      (unsupported "dict.changed-during-merge" : Sem PUnit)
      pure (.yield .unit)
    else pure (.yield .unit)
  | _ => do
    (unsupported "dict.changed-during-merge" : Sem PUnit)
    pure (.yield .unit)
/-- an entry and its pair -/
def Goes (P : Program) (w : World) (e : DictEntry) (q : Key × Value) : Prop := (mixKind P w).is q.1 e.key = true ∧ e.hash = (mixKind P w).hash q.1 ∧ e.val = q.2
theorem goes_of {h : Heap} {S : Addr} {ps : List (Key × Value)} (dd : h.DictOf (mixKind P w) S ps) : ∃ ob es ep, h.get? S = some ob ∧ ob.data = .dict es ep ∧ es.size = ps.length ∧ ∀ (i : Nat) (q : Key × Value), ps[i]? = some q → ∃ e, es[i]? = some e ∧ Goes P w e q := by
  obtain ⟨ob, es, ep, g1, _, g3, g4, g5, _⟩ := dd
  have size : es.size = ps.length := by rw [← g5.length, Array.length_toList]
  refine ⟨ob, es, ep, g1, g3, size, fun i q hq => ?_⟩
  have lt : i < es.size := by rw [size]; exact (List.getElem?_eq_some_iff.mp hq).1
  refine ⟨es[i], Array.getElem?_eq_getElem lt, ?_⟩
  obtain ⟨a, b⟩ := g5.get? (i := i) (e := es[i]) (k := q.1) (v := q.2) (by rw [Array.getElem?_toList, Array.getElem?_eq_getElem lt]) hq
  obtain ⟨k2, c, d⟩ := g4 _ (Array.getElem_mem lt)
  rw [(mixKind P w).inj _ _ _ c a] at d
  exact ⟨a, d, b⟩
theorem take_rest {D S : Addr} {ob : Obj} {es : Array DictEntry} {ep : Nat} {ps : List (Key × Value)} (ne : S ≠ D) (hd : ob.data = .dict es ep) (go : ∀ (i : Nat) (q : Key × Value), ps[i]? = some q → ∃ e, es[i]? = some e ∧ Goes P w e q) : ∀ (n i : Nat) (s : Shared) (acc : List (Key × Value)) (Q : PUnit → Shared → Prop), n + i = ps.length →
    s.heap.get? S = some ob → s.heap.DictOf (mixKind P w) D acc → acc.length + n ≤ sizeLine →
    (∀ h', h'.get? S = some ob → h'.DictOf (mixKind P w) D (merged acc (ps.drop i)) → Heap.SameBut D s.heap h' → Q .unit { s with heap := h' }) →
    wpAny (model P w) A (forIn (List.range' i n) PUnit.unit fun j (_ : PUnit) => oneMore D S ep j) Q E s := by
  intro n
  induction n with
  | zero =>
    intro i s acc Q en gS gD _ q
    have z := q s.heap gS (by rw [List.drop_of_length_le (by omega)]; exact gD) (Heap.SameBut.refl D _)
    exact wpAny_pure z
  | succ n more =>
    intro i s acc Q en gS gD few q
    have lt : i < ps.length := by omega
    obtain ⟨e, ee, a1, a2, a3⟩ := go i ps[i] (List.getElem?_eq_getElem lt)
    rw [List.range'_succ, List.forIn_cons]
    refine wpAny_bind ?_
    unfold oneMore
    refine wpAny_bind (wpAny_dictEntries gS hd ?_)
    rw [ee]
    dsimp only
    rw [a2, a3]
    refine wpAny_bind (wpAny_holding (put_one a1 gD (by omega) fun h1 d1 b1 => ?_))
    have gS1 : h1.get? S = some ob := by rw [b1.2 S ne]; exact gS
    refine wpAny_bind (wpAny_dictEpoch gS1 hd ?_)
    rw [bne_self_eq_false, if_neg Bool.false_ne_true]
    refine wpAny_pure ?_
    dsimp only
    have l1 := stored_length_le acc ps[i].1 ps[i].2
    refine more (i + 1) { s with heap := h1 } _ Q (by omega) gS1 d1 (by omega) fun h2 c1 c2 c3 => q h2 c1 ?_ (b1.trans c3)
    rw [List.drop_eq_getElem_cons lt]
    exact c2
/-- all pairs of the dict at S are put into the dict at D -/
theorem merge_map {D S : Addr} {acc ps : List (Key × Value)} {Q : Unit → Shared → Prop} (ne : S ≠ D) (hS : (S == sysModules) = false) (gD : s.heap.DictOf (mixKind P w) D acc) (gS : s.heap.DictOf (mixKind P w) S ps) (few : acc.length + ps.length ≤ sizeLine)
    (q : ∀ h', h'.DictOf (mixKind P w) D (merged acc ps) → Heap.SameBut D s.heap h' → Q () { s with heap := h' }) : wpAny (model P w) A (mergeMapping D (.ref S) false) Q E s := by
  obtain ⟨ob, es, ep, gob, hd, size, go⟩ := goes_of gS
  obtain ⟨obD, esD, epD, gobD, hdD, _, _⟩ := goes_of gD
  have ty := gS.typeIs
  have main : wpAny (model P w) A (forIn (List.range es.size) PUnit.unit (fun j (_ : PUnit) => oneMore D S ep j) >>= fun _ => pure ()) Q E s := by
    rw [List.range_eq_range', size]
    refine wpAny_bind (take_rest ne hd go ps.length 0 s acc _ (Nat.add_zero _) gob gD few fun h' _ d sb => ?_)
    exact wpAny_pure (q h' d sb)
  unfold mergeMapping
  refine wpAny_bind (wpAny_isInstance ty isSubtype_dict_dict ?_)
  show wpAny _ _ (specialOf (.ref S) "__iter__" >>= _) _ _ s
  refine wpAny_bind (wpAny_specialOf ty F.slot_dict_iter.lookup ?_)
  show wpAny _ _ (pure (some (Value.builtin "dict.__iter__") == some (Value.builtin "dict.__iter__")) >>= _) _ _ s
  refine wpAny_bind (wpAny_pure ?_)
  have yes : (some (Value.builtin "dict.__iter__") == some (Value.builtin "dict.__iter__")) = true := by decide +kernel
  rw [yes]
  dsimp only
  rw [hS, if_neg Bool.false_ne_true]
  refine wpAny_bind (wpAny_dictEntries gobD hdD ?_)
  have tail : wpAny (model P w) A (do
      let l ← dictEntries S
      let e ← dictEpoch S
      forIn (List.range l.size) PUnit.unit fun j (_ : PUnit) => oneMore D S e j
      pure ()) Q E s := wpAny_bind (wpAny_dictEntries gob hd (wpAny_bind (wpAny_dictEpoch gob hd main)))
  by_cases em : esD.isEmpty = true
  · rw [if_pos em]
    refine wpAny_bind (wpAny_dictEntries gob hd (wpAny_bind ?_))
    rw [← Array.forIn_toList]
    have all : ∀ (l : List DictEntry) (Q' : PUnit → Shared → Prop), (∀ e ∈ l, ∀ a, e.key ≠ .ref a) → Q' .unit s → wpAny (model P w) A (forIn l PUnit.unit fun e (_ : PUnit) => (match e.key with
        | Value.ref a => do
          if ((← specialOf e.key (Str.ofString "__eq__")) != some (Value.builtin "object.__eq__")) = true then
            if (es.filter fun x => x.hash == e.hash).size > 1 then do
              (unsupported "dict.merge-into-an-empty-dict:keys-of-equal-hash" : Sem PUnit)
              pure (.yield .unit)
            else pure (.yield .unit)
          else pure (.yield .unit)
        | _ => pure (.yield .unit) : Sem (ForInStep PUnit))) Q' E s := by
      intro l
      induction l with
      | nil => exact fun Q' _ z => wpAny_pure z
      | cons e l ih =>
        intro Q' nr z
        rw [List.forIn_cons]
        refine wpAny_bind ?_
        have n0 := nr e List.mem_cons_self
        cases c : e.key with
        | ref a => exact absurd c (n0 a)
        | _ => exact wpAny_pure (ih Q' (fun f hf => nr f (List.mem_cons_of_mem _ hf)) z)
    refine all es.toList _ (fun e he a => ?_) tail
    obtain ⟨i, hi, e1⟩ := List.getElem_of_mem he
    have lt : i < ps.length := by rw [← size]; simpa using hi
    obtain ⟨e2, h2, h3, _⟩ := go i ps[i] (List.getElem?_eq_getElem lt)
    have : e2 = e := by
      rw [Array.getElem?_eq_getElem (by simpa using hi)] at h2
      rw [← e1, ← Option.some.inj h2]
      simp
    rw [← this]
    exact flat_of h3 a
  · rw [if_neg em]
    exact tail
end
end L2

namespace L2
open PySem PySem.Spec PyProof.Rows
section
variable {prog : Program} {w : World} {A : Around} {E : Value → Shared → Prop} {s : Shared}
theorem display_star {m k v : Sem Value} {Q : Value → Shared → Prop}
    (h : wpAny (model prog w) A m (fun x s1 => ∃ o more, x = .ref o ∧ s.heap.objs.size ≠ o ∧ (o == sysModules) = false ∧ s1.heap.DictOf (mixKind prog w) s.heap.objs.size [] ∧ s1.heap.DictOf (mixKind prog w) o more ∧ more.length + 16 ≤ sizeLine ∧
      ∀ h', h'.DictOf (mixKind prog w) s.heap.objs.size (merged [] more) → Heap.SameBut s.heap.objs.size s1.heap h' →
        wpAny (model prog w) A (evalPairs [(k, v)]) (fun vs s2 => ∃ kvs cur, Carries (mixKind prog w) vs kvs ∧ kvs.length ≤ 15 ∧ cur.length + 16 ≤ sizeLine ∧ s2.heap.DictOf (mixKind prog w) h'.objs.size [] ∧ s2.heap.DictOf (mixKind prog w) s.heap.objs.size cur ∧ s.heap.objs.size ≠ h'.objs.size ∧ (h'.objs.size == sysModules) = false ∧
          ∀ h2 h3 t, h2.DictOf (mixKind prog w) h'.objs.size (merged [] kvs) → Heap.SameBut h'.objs.size s2.heap h2 → h3.DictOf (mixKind prog w) s.heap.objs.size (merged cur (merged [] kvs)) → Heap.SameBut s.heap.objs.size h2 h3 → Q (.ref s.heap.objs.size) { s2 with heap := h3, toks := t }) E { s1 with heap := h'.push { cls := .type "dict", data := .dict #[] } }) E { s with heap := s.heap.push { cls := .type "dict", data := .dict #[] } }) :
    wpAny (model prog w) A (dictDisplay [(none, m), (some k, v)]) Q E s := by
  unfold dictDisplay
  dsimp only
  rw [List.forIn_cons]
  refine wpAny_bind (wpAny_bind ?_)
  dsimp only
  rw [if_pos (show ([] : List (Sem Value × Sem Value)).isEmpty = true from rfl)]
  refine wpAny_bind (wpAny_pure ?_)
  dsimp only
  refine wpAny_bind (wpAny_alloc ?_)
  refine wpAny_bind (wpAny_holding (wpAny_mono h (fun x s1 hx => ?_) (fun _ _ e => e)))
  obtain ⟨o, more, rfl, hne, hsys, hd, ho, hsz, hx⟩ := hx
  refine wpAny_bind (wpAny_onRaise (wpAny_tryCatch (wpAny_onRaise (wpAny_holding (merge_map (Ne.symm hne) hsys hd ho (by simp; omega) (fun h' d1 sb => ?_))))))
  refine wpAny_pure ?_
  dsimp only
  rw [List.forIn_cons]
  refine wpAny_bind ?_
  dsimp only
  rw [if_neg (by simp)]
  refine wpAny_pure ?_
  dsimp only
  rw [List.forIn_nil]
  refine wpAny_pure ?_
  dsimp only
  rw [if_neg (by simp)]
  have hx := hx h' d1 sb
  refine wpAny_bind (wpAny_bind (wpAny_holding (wpAny_subDict (knd := mixKind prog w) (by simp) (wpAny_mono hx (fun vs s2 h2 => ?_) (fun _ _ e => e)))))
  obtain ⟨kvs, cur, hc, h15, hcur, hd2, hd3, hne2, hsys2, hq⟩ := h2
  refine ⟨kvs, hc, hd2, fun h2 dd sb2 => ?_⟩
  have l1 := merged_length_le [] more
  have l2 := merged_length_le [] kvs
  simp only [List.length_nil] at l1 l2
  refine wpAny_bind (wpAny_onRaise (wpAny_holding (merge_map (Ne.symm hne2) hsys2 (hd3.sameBut sb2 hne2) dd (by omega) (fun h3 d3 sb3 => ?_))))
  refine wpAny_pure ?_
  exact wpAny_pure (hq h2 h3 _ dd sb2 d3 sb3)
/-- {**d, k: v} -/
def tDStar (td tk tv : TE) : TE := fun σ H Q => ∀ p, H p = none → td σ (upd H p (.dK [])) fun x H1 => ∃ a kvs, x = .ref a ∧ H1 a = some (.dK kvs) ∧ H1 p = some (.dK []) ∧ a ≠ p ∧ kvs.length ≤ 1000 ∧
  ∀ q, H1 q = none → q ≠ p → tk σ (upd (upd H1 p (.dK kvs)) q (.dK [])) fun y H2 => tv σ H2 fun z H3 => ∃ k, y = kV k ∧ H3 p = some (.dK kvs) ∧ H3 q = some (.dK []) ∧ Q (.ref p) (upd (upd H3 q (.dK [(k, z)])) p (.dK (putK kvs k z)))
end
section
variable {X : Cx}
theorem pe_dstar {dx ke ve : Expr} {td tk tv : TE} {pos : Pos} (hd : PE X dx td) (hk : PE X ke tk) (hv : PE X ve tv) : PE X (.Dict [none, some ke] [dx, ve] pos) (tDStar td tk tv) := by
  refine ⟨fun pins s σ H Q I h => ?_⟩
  have new := dk_empty (P := X.prog) (w := X.w) (H := upd H s.heap.objs.size (.dK [])) s.heap I.big
  have I1 := I.laid (t' := s.toks) (fun _ _ z => Heap.get?_push_of_some _ z) (Nat.le_refl _) new
  have hn := I.hok.fresh (a := s.heap.objs.size) (Nat.le_refl _)
  rw [arm_eval_Dict]
  refine wpAny_bind (wpAny_standAt ?_)
  show wpAny _ _ (dictDisplay [(none, do let x ← eval dx X.env; standAt pos; pure x), (some (eval ke X.env), do let x ← eval ve X.env; standAt pos; pure x)]) _ _ s
  refine display_star ?_
  refine wpAny_bind (thn (hd.run pins _ σ _ _ I1 (h _ hn)) fun u s1 ⟨x, H1, I1', rx, a, kvs, ex, ha, hp, nap, few, hq⟩ => ?_)
  subst ex
  cases rx
  refine wpAny_bind (wpAny_standAt (wpAny_pure ?_))
  obtain ⟨z1, hd1, vs1, r1, dd1⟩ := dk_of I1'.hok hp
  obtain ⟨z2, hd2, vs2, r2, dd2⟩ := dk_of I1'.hok ha
  cases r1
  refine ⟨a, vs2, rfl, Ne.symm nap, hd2, dd1, dd2, ?_, fun h' dd' sb => ?_⟩
  · rw [← r2.length, sizeLine_eq]; omega
  have hnd : merged [] vs2 = vs2 := by
    obtain ⟨_, _, _, _, _, _, _, _, hno⟩ := dd2
    exact merged_nil_of_nodup vs2 hno
  rw [hnd] at dd'
  have he : ∃ o, h'.get? s.heap.objs.size = some o := by
    obtain ⟨o, _, _, ho, _⟩ := dd'
    exact ⟨o, ho⟩
  have I2 := d_write (t' := s1.toks) I1' (by rw [hp]; exact True.intro) sb he (dk_new (kvs := kvs) (by rw [sizeLine_eq]; omega) hd1 r2 dd')
  have hq0 := I2.hok.fresh (Nat.le_refl h'.objs.size)
  have nqp : h'.objs.size ≠ s.heap.objs.size := fun e => by
    rw [show ({ s1 with heap := h' } : Shared).heap.objs.size = h'.objs.size from rfl] at *
    rw [e, upd_same] at hq0
    cases hq0
  have hq1 : H1 h'.objs.size = none := by rw [upd_ne nqp] at hq0; exact hq0
  have I3 := I2.laid (a := h'.objs.size) (o := .dK []) (h' := h'.push { cls := .type "dict", data := .dict #[] }) (t' := s1.toks) (fun _ _ q => Heap.get?_push_of_some _ q) (Nat.le_refl _) (dk_empty h' I2.big)
  refine thn ((pps_cons (pos := pos) hk hv pps_nil).run pins _ σ _ (fun ps H3 => match ps with
    | [(y, z)] => ∃ k, y = kV k ∧ H3 s.heap.objs.size = some (.dK kvs) ∧ H3 h'.objs.size = some (.dK []) ∧ Q (.ref s.heap.objs.size) (upd (upd H3 h'.objs.size (.dK [(k, z)])) s.heap.objs.size (.dK (putK kvs k z)))
    | _ => False) I3 (hq _ hq1 nqp)) fun ws s2 ⟨ps, H3, I3', rel, q3⟩ => ?_
  obtain ⟨y, z, rfl⟩ : ∃ y z, ps = [(y, z)] := by
    match ps, q3 with
    | [(y, z)], _ => exact ⟨y, z, rfl⟩
    | [], q => exact q.elim
    | _ :: _ :: _, q => exact q.elim
  obtain ⟨k, rfl, e1, e2, q3⟩ := q3
  obtain ⟨rs, c, rk⟩ := carries_of (P := X.prog) (w := X.w) (kvs := [(k, z)]) rel
  obtain ⟨_, hdq, vq, rq, ddq⟩ := dk_of I3'.hok e2
  obtain ⟨_, hdp, vp, rp, ddp⟩ := dk_of I3'.hok e1
  cases rq
  obtain ⟨r, rfl, er⟩ : ∃ r, rs = [(k, r)] ∧ RelV z r := by
    cases rk with
    | @cons _ q _ qs h t =>
      cases t
      obtain ⟨k', u⟩ := q
      obtain ⟨e1, e2⟩ := h
      have e1 : k = k' := e1
      subst e1
      exact ⟨u, rfl, e2⟩
  have hl : (putK kvs k z).length ≤ sizeLine := by have := length_putK kvs k z; rw [sizeLine_eq]; omega
  refine ⟨[(k, r)], vp, c, (by show 1 ≤ 15; decide), by rw [← rp.length, sizeLine_eq]; omega, ddq, ddp, Ne.symm nqp, hdq, fun h2 h3 t dd2 sb2 dd3 sb3 => ?_⟩
  have hz1 : ([(k, z)] : List (Key × V)).length ≤ sizeLine := by show 1 ≤ sizeLine; decide
  have Ia := d_write (t' := t) I3' (by rw [e2]; exact True.intro) sb2 (let ⟨q, _, _, hq, _⟩ := dd2; ⟨q, hq⟩) (dk_new (kvs := [(k, z)]) hz1 hdq (.cons ⟨rfl, er⟩ .nil) dd2)
  have ep : (upd H3 h'.objs.size (.dK [(k, z)])) s.heap.objs.size = some (.dK kvs) := by rw [upd_ne (Ne.symm nqp)]; exact e1
  have Ib := d_write (t' := t) Ia (by rw [ep]; exact True.intro) sb3 (let ⟨q, _, _, hq, _⟩ := dd3; ⟨q, hq⟩) (dk_new (kvs := putK kvs k z) hl hdp (rp.put k er) dd3)
  exact ⟨.ref s.heap.objs.size, _, Ib, rfl, q3⟩
end
end L2

namespace Half
open PySem PySem.Spec PyProof.Rows L2
/-! ### states -/
abbrev St3 : Type := Str × Int × Int
def stV (s : St3) : List V := [.str s.1, .int s.2.1, .int s.2.2]
def stD (s : St3) : PyData := .tuple [.str s.1, .int s.2.1, .int s.2.2]
def THR : List Str := ["failed", "half", "ready", "unpacked"]
def STA : List Str := ["absent", "failed", "half", "left", "ready", "unpacked"]
def UNS : List Str := ["failed", "half", "unpacked"]
def AB : St3 := ("absent", 0, 0)
def isState (ks : List Kk) (nm : Str) (s : St3) : Bool :=
  if decide (s.1 = "absent") = true then inR (.int s.2.1) 0 0 && inR (.int s.2.2) 0 0
  else if ((!has THR s.1 && !decide (s.1 = "left")) || !has ks (nm, s.2.1)) = true then false
  else if decide (s.1 = "ready") = true then inR (.int s.2.2) s.2.1 s.2.1
  else inR (.int s.2.2) 0 0 || has ks (nm, s.2.2)
theorem sta_has {x : Str} (h : decide (x = "absent") = false) : (!has STA x) = (!has THR x && !decide (x = "left")) := by
  have h' : ¬ x = "absent" := of_decide_eq_false h
  unfold has STA THR
  simp only [List.any_cons, List.any_nil, Bool.or_false]
  by_cases a : x = "left"
  · subst a; decide
  · have q : ∀ y : Str, (y == x) = decide (y = x) := fun y => by
      by_cases z : y = x
      · subst z; simp
      · rw [decide_eq_false z]; simpa using z
    have r : ∀ y : Str, (x == y) = decide (x = y) := fun y => by
      by_cases z : x = y
      · subst z; simp
      · rw [decide_eq_false z]; simpa using z
    have a' : ¬ ("left" : Str) = x := fun z => a z.symm
    have h'' : ¬ ("absent" : Str) = x := fun z => h' z.symm
    simp [q, r, h', h'', a, a']
abbrev sIst : Stmt := top 17
theorem inV_str (x : Str) : ∀ ys : List Str, inV (.str x) (ys.map V.str) = has ys x
  | [] => rfl
  | y :: ys => by
    have ih := inV_str x ys
    unfold inV at ih ⊢
    unfold has at ih ⊢
    rw [List.map_cons, List.any_cons, List.any_cons, ih]
    congr 1
theorem dec_str {x y : Str} : decide (V.str x = V.str y) = decide (x = y) := by
  by_cases h : x = y
  · subst h; simp
  · rw [decide_eq_false h, decide_eq_false (fun z => h (by cases z; rfl))]
theorem next_read {D : Ends} {σ : L2.St} {H : Hp} (h : D.nx σ H) : tNext D σ H := h
theorem seq_read {t u : TS} {D : Ends} {σ : L2.St} {H : Hp} (h : t { D with nx := u D } σ H) : tSeq t u D σ H := h
theorem if_read {c : TT} {t u : TS} {D : Ends} {σ : L2.St} {H : Hp} (h : c σ H fun b H1 => if b = true then t D σ H1 else u D σ H1) : tIfS c t u D σ H := h
theorem and_read {ta tb : TT} {σ : L2.St} {H : Hp} {Q : Bool → Hp → Prop} {b c : Bool} (h1 : ∀ Q' : Bool → Hp → Prop, Q' b H → ta σ H Q') (h2 : ∀ Q' : Bool → Hp → Prop, Q' c H → tb σ H Q') (q : Q (b && c) H) : tAnd ta tb σ H Q := by
  refine h1 _ ?_
  cases b
  · exact iteF q
  · exact iteT (h2 _ q)
theorem or1_read {ta tb : TT} {σ : L2.St} {H : Hp} {Q : Bool → Hp → Prop} {b : Bool} (h1 : ∀ Q' : Bool → Hp → Prop, Q' b H → ta σ H Q') (q1 : b = true → Q true H) (q2 : b = false → tb σ H Q) : tOr ta tb σ H Q := by
  refine h1 _ ?_
  cases b
  · exact iteF (q2 rfl)
  · exact iteT (q1 rfl)
/-- the store's `in`, known by its promise -/
structure HasF (P : Program) (w : World) (K : PySem.W.Frag) (mg : Str → Option Value) (base : Heap) (CT : Addr) : Prop where
  ex : ∃ f fd, OwnSp K CT f "__contains__" ∧ FnOk P w K mg base CX0 1 f fd ["self", "x"] (spHas CT) ∧ Binds K fd ["self", "x"] []
theorem op_inS {X : Cx} {CT : Addr} (D : HasF X.prog X.w X.K X.mg X.base CT) (hr : Room 1 X.A) : OpR X (compareOp .In) (rInO CT (spHas CT) E0 id) := by
  obtain ⟨f, fd, O, F, b⟩ := D.ex
  exact op_inO F O b hr pass0
theorem op_notinS {X : Cx} {CT : Addr} (D : HasF X.prog X.w X.K X.mg X.base CT) (hr : Room 1 X.A) : OpR X (compareOp .NotIn) (rInO CT (spHas CT) E0 not) := by
  obtain ⟨f, fd, O, F, b⟩ := D.ex
  exact op_notinO F O b hr pass0
theorem StObj.ins {CT : Addr} {H : Hp} {a : Addr} {es : Eds} (h : StObj CT H a es) : ∃ dx fs, H a = some (.ins CT dx fs) := by
  obtain ⟨⟨dx, tb, nb, h1, _⟩, _⟩ := h
  exact ⟨dx, _, h1⟩
theorem inS_read {CT : Addr} {H : Hp} {a t : Addr} {es : Eds} {k : Kk} {fl : Bool → Bool} {Q : VK} (h : StObj CT H a es) (ht : H t = some (.tup [.str k.1, .int k.2])) (q : Q (.bl (fl (has (keysOf es) k))) H) : rInO CT (spHas CT) E0 fl (.ref t) (.ref a) H Q := by
  obtain ⟨dx, fs, ha⟩ := h.ins
  exact ⟨a, dx, fs, rfl, ha, a, t, es, k, rfl, h, ht, _, rfl, q⟩
structure TxtY (P : Program) (w : World) (K : PySem.W.Frag) (mg : Str → Option Value) (base : Heap) (CT : Addr) : Prop where
  isi : mg "isinstance" = none
  tup : mg "tuple" = none
  len : mg "len" = none
  srt : mg "sorted" = none
  abs : ∃ a, mg "ABSENT" = some (.ref a) ∧ ∀ H, SqT K H a (stV AB)
  dN : Def P w K mg base 1 "is_number" ["value", "least", "most"] spNumber
  hs : HasF P w K mg base CT
  sta : ∃ a, mg "STATUSES" = some (.ref a) ∧ ∀ H, SqT K H a (STA.map V.str)
def spIst (K : PySem.W.Frag) (CT : Addr) : Sp := fun vs H Q _ => ∃ (a t : Addr) (es : Eds) (nm : Str) (s : St3), vs = [.ref a, .str nm, .ref t] ∧ StObj CT H a es ∧ SqT K H t (stV s) ∧ ∀ H', Same H H' → Q (.bl (isState (keysOf es) nm s)) H'
section
variable {P : Program} {w : World} {K : PySem.W.Frag} {mg : Str → Option Value} {base : Heap} {CT : Addr}
abbrev IstN : List Str := ["store", "name", "state", "status", "version", "done"]
theorem scIst : FnScope IstN ["store", "name", "state"] (defScope sIst) := ⟨rfl, rfl, rfl, by decide +kernel, rfl, by decide +kernel, by decide +kernel⟩
theorem ok_ist {f : Addr} {fd : FuncData} (F : Fun K "is_state" "is_state" sIst f fd) (T : TxtY P w K mg base CT) : FnOk P w K mg base CX0 2 f fd ["store", "name", "state"] (spIst K CT) := by
  refine F.ok scIst (fun vs H Q E h => ?_) (fun cdv A outer s H vs Q E hr h => ?_)
  · obtain ⟨a, t, es, nm, s, rfl, _⟩ := h
    rfl
  · obtain ⟨a, t, es, nm, ⟨stt, ver, don⟩, rfl, hO, hS, k⟩ := h
    have nd := scIst.nd
    obtain ⟨aT, gT, hT⟩ := T.sta
    refine ⟨_, pss_cons (ps_if (PW.pt (pw_or (pt_not (pt_val (pe_callB call_isi (by rfl) T.isi (by decide +kernel) (pa_cons (pv 2) (pa_cons (pe_bltn (v := .ty "tuple") (by rfl) T.tup (by decide +kernel) rfl) pa_nil)))))
          (pw_or1 (pt_cmpR op_ne (pe_callB call_len_seq (by rfl) T.len PySem.boot_len (pa_cons (pv 2) pa_nil)) pe_int (nomark _))))) (pss_one (ps_ret pe_bl)) pss_nil)
      (pss_cons (ps_asg (pv 2) (pg_tup rfl (pgs_cons (pg_name (i := 3) nd rfl (Or.inl rfl)) (pgs_cons (pg_name (i := 4) nd rfl (Or.inl rfl)) (pgs_cons (pg_name (i := 5) nd rfl (Or.inl rfl)) pgs_nil)))))
      (pss_cons (ps_if (pt_cmpR op_eq (pv 3) pe_str (nomark _)) (pss_one (ps_ret (pe_and (pe_def T.dN hr rfl (pa_cons (pv 4) (pa_cons pe_int (pa_cons pe_int pa_nil)))) (pe_one (pe_def T.dN hr rfl (pa_cons (pv 5) (pa_cons pe_int (pa_cons pe_int pa_nil)))))))) pss_nil)
      (pss_cons (ps_if (PW.pt (pw_or (pt_cmpR (op_notIn_seq : OpR _ _ (rIn K true)) (pv 3) (pe_glob (v := .ref aT) rfl gT rfl) (by rfl))
          (pw_or1 (pt_cmpR (op_notinS T.hs hr) (pe_tup (pa_cons (pv 1) (pa_cons (pv 4) pa_nil))) (pv 0) (by rfl))))) (pss_one (ps_ret pe_bl)) pss_nil)
      (pss_cons (ps_if (pt_cmpR op_eq (pv 3) pe_str (nomark _)) (pss_one (ps_ret (pe_def T.dN hr rfl (pa_cons (pv 5) (pa_cons (pv 4) (pa_cons (pv 4) pa_nil)))))) pss_nil)
      (pss_one (ps_ret (pe_or (pe_def T.dN hr rfl (pa_cons (pv 5) (pa_cons pe_int (pa_cons pe_int pa_nil)))) (pe_one (pe_cmpR (op_inS T.hs hr) (pe_tup (pa_cons (pv 1) (pa_cons (pv 5) pa_nil))) (pv 0) (by rfl)))))))))), ?_⟩
    unfold isState at k
    refine ⟨_, rfl, _, _, _, _, _, rfl, .ty _, tyT hS, kit_ty (r := true) (by decide +kernel), _, rfl, ?_⟩
    refine iteF ?_
    refine ⟨_, rfl, t, _, rfl, .inr hS, rfl, _, rfl, ?_⟩
    refine iteF ?_
    refine ⟨_, rfl, t, _, rfl, hS, rfl, _, _, rfl, _, _, rfl, _, _, rfl, rfl, ?_⟩
    refine ⟨_, rfl, rfl, _, rfl, ?_⟩
    rw [dec_str]
    dsimp only at k
    cases c1 : decide (stt = "absent") with
    | true =>
      refine iteT ?_
      refine ⟨_, rfl, .int ver, 0, 0, rfl, .inl ⟨_, rfl⟩, _, rfl, ?_⟩
      have k := fun H' s => k H' s
      rw [c1] at k
      simp only [if_true] at k
      cases c2 : inR (.int ver) 0 0 with
      | true =>
        refine iteT ?_
        refine ⟨_, rfl, .int don, 0, 0, rfl, .inl ⟨_, rfl⟩, ?_⟩
        rw [c2, Bool.true_and] at k
        exact k _ (Same.refl _)
      | false =>
        refine iteF ?_
        rw [c2, Bool.false_and] at k
        exact k _ (Same.refl _)
    | false =>
      refine iteF ?_
      rw [c1] at k
      simp only [Bool.false_eq_true, if_false] at k
      rw [← sta_has c1] at k
      refine next_read ?_
      dsimp only
      refine seq_read (if_read (or1_read (b := !has STA stt) (fun Q' q' => ?_) (fun e => ?_) (fun e => ?_)))
      · refine ⟨_, rfl, aT, _, rfl, .inr (hT _), rfl, flat_strs STA, _, rfl, ?_⟩
        rw [if_pos rfl, inV_str]
        exact q'
      · rw [e, Bool.true_or] at k
        exact iteT (k _ (Same.refl _))
      · rw [e, Bool.false_or] at k
        refine ⟨_, rfl, _, rfl, two_le, fun t1 n1 => ⟨_, rfl, inS_read (k := (nm, ver)) (hO.same (Same.upd_new n1)) upd_same ⟨_, rfl, ?_⟩⟩⟩
        have s1 := Same.upd_new (o := .tup [.str nm, .int ver]) n1
        have hO1 := hO.same s1
        cases c2 : !has (keysOf es) (nm, ver) with
        | true =>
          rw [c2] at k
          exact iteT (k _ s1)
        | false =>
          rw [c2] at k
          simp only [Bool.false_eq_true, if_false] at k
          refine iteF ?_
          refine ⟨_, rfl, rfl, _, rfl, ?_⟩
          rw [dec_str]
          cases c3 : decide (stt = "ready") with
          | true =>
            rw [c3] at k
            simp only [if_true] at k
            refine iteT ?_
            exact ⟨_, rfl, _, rfl, _, rfl, .int don, ver, ver, rfl, .inl ⟨_, rfl⟩, k _ s1⟩
          | false =>
            rw [c3] at k
            simp only [Bool.false_eq_true, if_false] at k
            refine iteF ?_
            refine ⟨_, rfl, .int don, 0, 0, rfl, .inl ⟨_, rfl⟩, _, rfl, ?_⟩
            cases c4 : inR (.int don) 0 0 with
            | true =>
              rw [c4, Bool.true_or] at k
              exact iteT (k _ s1)
            | false =>
              rw [c4, Bool.false_or] at k
              refine iteF ?_
              refine ⟨_, rfl, _, rfl, two_le, fun t2 n2 => ⟨_, rfl, inS_read (k := (nm, don)) (hO1.same (Same.upd_new n2)) upd_same ?_⟩⟩
              exact k _ (s1.trans (Same.upd_new n2))
end
end Half

namespace Half
open PySem PySem.Spec PyProof.Rows L2
/-! ### a dict of states -/
inductive SL (K : PySem.W.Frag) (H : Hp) : List (Key × V) → List (Str × St3) → Prop
  | nil : SL K H [] []
  | cons {n : Str} {t : Addr} {s : St3} {kvs : List (Key × V)} {ss : List (Str × St3)} : SqT K H t (stV s) → SL K H kvs ss → SL K H ((.inr n, .ref t) :: kvs) ((n, s) :: ss)
def stOf (ss : List (Str × St3)) (n : Str) : Option St3 := (ss.find? fun p => decide (p.1 = n)).map (·.2)
section
variable {K : PySem.W.Frag} {H H' : Hp} {kvs : List (Key × V)} {ss : List (Str × St3)}
theorem SL.kp (k : Kp K H H') (h : SL K H kvs ss) : SL K H' kvs ss := by
  induction h with
  | nil => exact .nil
  | cons a _ ih => exact .cons (k _ _ a) ih
theorem SL.same (s : Same H H') (h : SL K H kvs ss) : SL K H' kvs ss := h.kp s.kp
theorem SL.len (h : SL K H kvs ss) : kvs.length = ss.length := by
  induction h with
  | nil => rfl
  | cons _ _ ih => simp [ih]
theorem SL.keys (h : SL K H kvs ss) : kvs.map (·.1) = (ss.map (·.1)).map Sum.inr := by
  induction h with
  | nil => rfl
  | cons _ _ ih => simp [ih]
theorem stOf_cons {n m : Str} {s : St3} : stOf ((n, s) :: ss) m = if n = m then some s else stOf ss m := by
  unfold stOf
  rw [List.find?_cons]
  by_cases c : n = m
  · rw [if_pos c, decide_eq_true c]; rfl
  · rw [if_neg c, decide_eq_false c]
theorem SL.at (h : SL K H kvs ss) (n : Str) : (valV kvs (.inr n) = none ∧ stOf ss n = none) ∨ ∃ t s, valV kvs (.inr n) = some (.ref t) ∧ stOf ss n = some s ∧ SqT K H t (stV s) := by
  induction h with
  | nil => exact .inl ⟨rfl, rfl⟩
  | @cons m t s kvs ss a _ ih =>
    rw [stOf_cons]
    by_cases c : m = n
    · subst c
      refine .inr ⟨t, s, ?_, if_pos rfl, a⟩
      unfold valV; rw [List.find?_cons, decide_eq_true rfl]; rfl
    · rw [if_neg c]
      have e : valV ((Sum.inr m, V.ref t) :: kvs) (.inr n) = valV kvs (.inr n) := by
        unfold valV; rw [List.find?_cons, decide_eq_false (fun z => c (by injection z))]
      rw [e]
      exact ih
theorem stOf_mem {n : Str} : (stOf ss n = none ↔ n ∉ ss.map (·.1)) := by
  induction ss with
  | nil => simp [stOf]
  | cons p ss ih =>
    obtain ⟨m, s⟩ := p
    rw [stOf_cons]
    by_cases c : m = n
    · simp [c]
    · rw [if_neg c, ih]
      simp [Ne.symm c]
def putS (ss : List (Str × St3)) (n : Str) (s : St3) : List (Str × St3) := if has (ss.map (·.1)) n = true then ss.map (fun p => if p.1 = n then (p.1, s) else p) else ss ++ [(n, s)]
theorem SL.map {n : Str} {t : Addr} {s : St3} (a : SqT K H t (stV s)) (h : SL K H kvs ss) : SL K H (kvs.map (fun kv => if kv.1 = Sum.inr n then (kv.1, V.ref t) else kv)) (ss.map (fun p => if p.1 = n then (p.1, s) else p)) := by
  induction h with
  | nil => exact .nil
  | @cons m t' s' kvs ss b _ ih =>
    rw [List.map_cons, List.map_cons]
    by_cases c : m = n
    · rw [if_pos c, if_pos (by rw [c])]
      exact .cons a ih
    · rw [if_neg c, if_neg (fun z => c (by injection z))]
      exact .cons b ih
theorem SL.snoc {n : Str} {t : Addr} {s : St3} (a : SqT K H t (stV s)) (h : SL K H kvs ss) : SL K H (kvs ++ [(.inr n, .ref t)]) (ss ++ [(n, s)]) := by
  induction h with
  | nil => exact .cons a .nil
  | cons b _ ih => exact .cons b ih
theorem SL.any (h : SL K H kvs ss) (n : Str) : (kvs.any fun kv => decide (kv.1 = Sum.inr n)) = has (ss.map (·.1)) n := by
  induction h with
  | nil => rfl
  | @cons m t s kvs ss _ _ ih =>
    unfold has at ih ⊢
    rw [List.any_cons, List.map_cons, List.any_cons, ih]
    congr 1
    by_cases c : m = n
    · rw [decide_eq_true c, decide_eq_true (by rw [c])]
    · rw [decide_eq_false c, decide_eq_false (fun z => c (by injection z))]
theorem SL.put {n : Str} {t : Addr} {s : St3} (a : SqT K H t (stV s)) (h : SL K H kvs ss) : SL K H (putK kvs (.inr n) (.ref t)) (putS ss n s) := by
  unfold putK putS
  rw [h.any n]
  by_cases c : has (ss.map (·.1)) n = true
  · rw [if_pos c, if_pos c]
    exact h.map a
  · rw [if_neg c, if_neg c]
    exact h.snoc a
theorem putS_at (ss : List (Str × St3)) (n m : Str) (s : St3) : stOf (putS ss n s) m = if m = n then some s else stOf ss m := by
  unfold putS
  by_cases c : has (ss.map (·.1)) n = true
  · rw [if_pos c]
    replace c := has_iff.mp c
    induction ss with
    | nil => simp at c
    | cons p ss ih =>
      obtain ⟨k, s'⟩ := p
      rw [List.map_cons]
      by_cases e : k = n
      · rw [if_pos e, stOf_cons, stOf_cons]
        by_cases e2 : m = n
        · rw [if_pos (by rw [e, e2]), if_pos e2]
        · rw [if_neg (fun z => e2 (by rw [← z, e])), if_neg e2, if_neg (fun z => e2 (by rw [← z, e]))]
          by_cases c' : n ∈ ss.map (·.1)
          · rw [ih c', if_neg e2]
          · have : ss.map (fun p => if p.1 = n then (p.1, s) else p) = ss := by
              conv => rhs; rw [← List.map_id ss]
              refine List.map_congr_left fun p hp => ?_
              rw [if_neg (fun z => c' (List.mem_map.mpr ⟨p, hp, z⟩))]
              rfl
            rw [this]
      · rw [if_neg e, stOf_cons, stOf_cons]
        have c' : n ∈ ss.map (·.1) := by simpa [Ne.symm e] using c
        rw [ih c']
        by_cases e3 : k = m
        · rw [if_pos e3, if_pos e3, if_neg (fun z => e (by rw [e3, z]))]
        · rw [if_neg e3, if_neg e3]
  · rw [if_neg c]
    replace c := not_has (by simpa using c)
    induction ss with
    | nil => rw [List.nil_append, stOf_cons]; by_cases e : m = n <;> simp [e, stOf, Ne.symm]
    | cons p ss ih =>
      obtain ⟨k, s'⟩ := p
      rw [List.cons_append, stOf_cons, stOf_cons]
      have e : ¬ k = n := fun z => c (by simp [z])
      have c' : n ∉ ss.map (·.1) := fun z => c (by simp only [List.map_cons]; exact List.mem_cons_of_mem _ z)
      rw [ih c']
      by_cases e3 : k = m
      · rw [if_pos e3, if_pos e3, if_neg (fun z => e (by rw [e3, z]))]
      · rw [if_neg e3, if_neg e3]
theorem putS_keys (ss : List (Str × St3)) (n : Str) (s : St3) : (putS ss n s).map (·.1) = dstep (ss.map (·.1)) n := by
  unfold putS dstep
  by_cases c : has (ss.map (·.1)) n = true
  · rw [if_pos c, if_pos c, List.map_map]
    refine List.map_congr_left fun p _ => ?_
    show (if p.1 = n then (p.1, s) else p).1 = p.1
    split <;> rfl
  · rw [if_neg c, if_neg c, List.map_append]
    rfl
theorem SL.dpm (h : SL K H kvs ss) (ok : ∀ p ∈ ss, PyData.strOk p.2.1 = true) : DpM K H kvs (ss.map fun p => (.inr p.1, stD p.2)) := by
  induction h with
  | nil => exact .nil
  | @cons n t s kvs ss a _ ih =>
    refine .cons (.tup a (.cons (.str _) (.cons (.int _) (.cons (.int _) .nil)))) ?_ (ih fun p hp => ok p (List.mem_cons_of_mem _ hp))
    have := ok (n, s) List.mem_cons_self
    simp [SeqAt.shaped, stD, PyData.canLay0, PyData.canLayAll0, PyData.depth, PyData.depthAll, this]
end
end Half

namespace Half
open PySem PySem.Spec PyProof.Rows L2
/-! ### the first wrong package -/
abbrev sWp : Stmt := top 18
def optS : Option Str → V
  | some x => .str x
  | none => .non
def badP (ks : List Kk) (ss : List (Str × St3)) (n : Str) : Bool := !has (ks.map (·.1)) n || !isState ks n ((stOf ss n).getD AB)
theorem find_at {α : Type} {p : α → Bool} : ∀ {l : List α} {i : Nat} {x : α}, (∀ z ∈ l.take i, p z = false) → l[i]? = some x → p x = true → l.find? p = some x
  | [], _, _, _, h, _ => by simp at h
  | y :: l, 0, x, _, h, hp => by
    have e : y = x := by simpa using h
    subst e
    rw [List.find?_cons, hp]
  | y :: l, i + 1, x, hl, h, hp => by
    rw [List.find?_cons, hl y (by simp)]
    exact find_at (fun z hz => hl z (by rw [List.take_succ_cons]; exact List.mem_cons_of_mem _ hz)) (by simpa using h) hp
theorem find_no {α : Type} {p : α → Bool} {l : List α} (h : ∀ z ∈ l, p z = false) : l.find? p = none := List.find?_eq_none.mpr fun x hx => by simp [h x hx]
/-- the store's names, known by their promise -/
structure NamF (P : Program) (w : World) (K : PySem.W.Frag) (mg : Str → Option Value) (base : Heap) (CT : Addr) : Prop where
  cl : Cls K CT
  ex : ∃ p g fd, PropOf K CT "names" p g ∧ FnOk P w K mg base CX0 1 g fd ["self"] (spNames CT) ∧ Binds K fd ["self"] []
def tNam (CT : Addr) (te : TE) : TE := tProp CT (spNames CT) [] E0 te
theorem pe_nam {X : Cx} {CT : Addr} {e : Expr} {te : TE} {pos : Pos} (D : NamF X.prog X.w X.K X.mg X.base CT) (hr : Room 2 X.A) (he : PE X e te) (hab : attributeBase e "names" X.env (eval e X.env) = eval e X.env := by rfl) : PE X (.Attribute e "names" pos) (tNam CT te) := by
  obtain ⟨p, g, fd, h1, h2, h3⟩ := D.ex
  exact pe_prop he D.cl h1 h2 hr h3 .nil pass0 hab
theorem has_congr {α : Type} [DecidableEq α] {l m : List α} (h : ∀ x, x ∈ l ↔ x ∈ m) (x : α) : has l x = has m x := by
  cases c : has m x
  · exact has_no fun z => not_has c ((h x).mp z)
  · exact has_iff.mpr ((h x).mpr (has_iff.mp c))
theorem nam_mem {ks ys : List Kk} (hp : ys.Perm ks) (x : Str) : x ∈ dset (ys.map (·.1)) ↔ x ∈ ks.map (·.1) := by
  rw [mem_dset]
  exact (hp.map _).mem_iff
def spWp (K : PySem.W.Frag) (CT : Addr) : Sp := fun vs H Q _ => ∃ (a d : Addr) (es : Eds) (kvs : List (Key × V)) (ss : List (Str × St3)), vs = [.ref a, .ref d] ∧ StObj CT H a es ∧ H d = some (.dK kvs) ∧ SL K H kvs ss ∧ ss.length < 64 ∧
  ∀ ys H', ys.Perm (ss.map (·.1)) → sortedS ys = true → Same H H' → Q (optS (ys.find? (badP (keysOf es) ss))) H'
section
variable {P : Program} {w : World} {K : PySem.W.Frag} {mg : Str → Option Value} {base : Heap} {CT : Addr}
abbrev WpN : List Str := ["store", "states", "name"]
theorem scWp : FnScope WpN ["store", "states"] (defScope sWp) := ⟨rfl, rfl, rfl, by decide +kernel, rfl, by decide +kernel, by decide +kernel⟩
theorem ok_wp {f : Addr} {fd : FuncData} (F : Fun K "wrong_package" "wrong_package" sWp f fd) (T : TxtY P w K mg base CT) (N : NamF P w K mg base CT) (dI : Def P w K mg base 2 "is_state" ["store", "name", "state"] (spIst K CT)) : FnOk P w K mg base CX0 3 f fd ["store", "states"] (spWp K CT) := by
  refine F.ok scWp (fun vs H Q E h => ?_) (fun cdv A outer s H vs Q E hr h => ?_)
  · obtain ⟨a, d, es, kvs, ss, rfl, _⟩ := h
    rfl
  · obtain ⟨a, d, es, kvs, ss, rfl, hO, hd, hS, few, k⟩ := h
    have nd := scWp.nd
    have hu := hu_of hr
    refine ⟨_, pss_cons (ps_for PassesOwn.never rfl (pi_list (pe_callB (call_sortedD rfl) (by rfl) T.srt (by decide +kernel) (pa_cons (pv 1) pa_nil))) (pg_name (i := 2) nd rfl (Or.inl rfl))
        (pss_one (ps_if (PW.pt (pw_or (pt_cmpR (op_notIn_seq : OpR _ _ (rIn K true)) (pv 2) (pe_nam N hr (pv 0)) (by rfl)) (pw_or1 (pt_not (pt_val (pe_def dI hr rfl (pa_cons (pv 0) (pa_cons (pv 2) (pa_cons (pe_dget hu (pv 1) (pv 2) (fun _ _ => rfl)) pa_nil)))))))))
          (pss_one (ps_ret (pv 2))) pss_nil)))
      (pss_one (ps_ret pe_non)), ?_⟩
    refine ⟨_, rfl, d, kvs, ss.map (·.1), rfl, .inl hd, hS.keys, by rw [List.length_map]; exact few, fun ys p hp hs np => ?_⟩
    have s1 := Same.upd_new (o := .lst (ys.map V.str)) np
    refine ⟨p, rfl, ⟨_, SqL.of upd_same⟩, ?_⟩
    refine for_it (walk_list (xs := ys.map V.str)) (fun i σ H' => Same (upd H p (.lst (ys.map V.str))) H' ∧ (∃ x, σ = [some (.ref a), some (.ref d), x]) ∧ ∀ z ∈ ys.take i, badP (keysOf es) ss z = false) ?_ ?_ ?_ ?_
    · exact ⟨Same.refl _, ⟨none, rfl⟩, fun z hz => by simp at hz⟩
    · rintro i σ H1 _ ⟨s2, _⟩
      exact SqL.of (s2 _ _ upd_same)
    · rintro i x σ H1 H2 hi ⟨s2, ⟨x2, rfl⟩, hb⟩ ⟨rfl, hx⟩
      obtain ⟨nm, hnm, rfl⟩ := getE hx
      have s02 := s1.trans s2
      have hO2 := hO.same s02
      have hS2 := hS.same s02
      have hd2 := s02 _ _ hd
      have hmem : nm ∈ ss.map (·.1) := (hp.mem_iff).mp (List.mem_of_getElem? hnm)
      have bad : badP (keysOf es) ss nm = true → ∀ H', Same H H' → Q (.str nm) H' := fun e H' s' => by
        have q := k ys H' hp hs s'
        rw [find_at hb hnm e] at q
        exact q
      have good : badP (keysOf es) ss nm = false → ∀ z ∈ ys.take (i + 1), badP (keysOf es) ss z = false := fun e z hz => by
        rw [take_next hnm] at hz
        rcases List.mem_append.mp hz with q | q
        · exact hb z q
        · rw [List.mem_singleton.mp q]; exact e
      obtain ⟨dx, fs, ha⟩ := hO2.ins
      refine ⟨_, rfl, _, rfl, a, dx, fs, rfl, ha, a, es, rfl, hO2, fun zs q hzp hza nq => ?_⟩
      have s3 := Same.upd_new (o := .tup ((dset (zs.map (·.1))).map V.str)) nq
      refine ⟨q, _, rfl, .inr (.inl (.inl upd_same)), rfl, flat_strs _, _, rfl, ?_⟩
      rw [if_pos rfl, inV_str, has_congr (nam_mem hzp) nm]
      cases c1 : !has ((keysOf es).map (·.1)) nm with
      | true =>
        refine iteT (iteT ?_)
        exact ⟨_, rfl, bad (by unfold badP; rw [c1, Bool.true_or]) _ (s02.trans s3)⟩
      | false =>
        refine iteF ?_
        obtain ⟨t, st, e1, e2, e3⟩ : ∃ t s, valV kvs (.inr nm) = some (.ref t) ∧ stOf ss nm = some s ∧ SqT K H2 t (stV s) := by
          rcases hS2.at nm with ⟨_, z⟩ | z
          · exact absurd hmem (stOf_mem.mp z)
          · exact z
        refine ⟨_, rfl, _, rfl, _, rfl, _, rfl, d, .ref t, rfl, ?_, a, t, es, nm, st, rfl, hO2.same s3, s3.sqT e3, fun H4 s4 => ⟨_, rfl, ?_⟩⟩
        · rw [← e1]
          exact DGet.k (k := .inr nm) (s3 _ _ hd2)
        have eb : badP (keysOf es) ss nm = !isState (keysOf es) nm st := by unfold badP; rw [c1, Bool.false_or, e2]; rfl
        cases c2 : !isState (keysOf es) nm st with
        | true =>
          refine ite_yes c2 ?_
          exact ⟨_, rfl, bad (by rw [eb, c2]) _ (s02.trans (s3.trans s4))⟩
        | false =>
          refine ite_no c2 ?_
          exact ⟨s2.trans (s3.trans s4), ⟨_, rfl⟩, good (by rw [eb, c2])⟩
    · rintro σ H1 ⟨s2, ⟨x2, rfl⟩, hb⟩
      rw [show (ys.map V.str).length = ys.length from List.length_map .., List.take_length] at hb
      have q := k ys H1 hp hs (s1.trans s2)
      rw [find_no hb] at q
      exact q
end
end Half

namespace Half
open PySem PySem.Spec PyProof.Rows L2
/-! ### InvalidSystem -/
abbrev sIy : Stmt := inClass (top 13) 0
def spErrR (C : Addr) (fl : Str) : Sp := fun vs H Q _ => ∃ (a : Addr) (p : Str), vs = [.ref a, .str p] ∧ H a = some (exo a C none) ∧ (reprText p).length ≤ 1000 ∧
  ∀ dx, H dx = none → dx ≠ a → Q .non (upd (upd H dx (exd dx [(fl, .str p)])) a (exo a C (some dx)))
theorem scIy : SupScope ["self", "package"] ["self", "package"] (defScope sIy) := ⟨rfl, rfl, rfl, by decide +kernel, rfl, by decide +kernel, by decide +kernel, by decide +kernel, rfl, rfl⟩
section
variable {P : Program} {w : World} {K : PySem.W.Frag} {mg : Str → Option Value} {base : Heap}
theorem ok_iy {C f : Addr} {fd : FuncData} (F : ErrFn P K C "InvalidSystem.__init__" sIy f fd) (T : SupC P K mg C) (nF : PySem.W.findIn K (.ref C) "package" = some none) : FnOk P w K mg base CX0 1 f fd ["self", "package"] (spErrR C "package") := by
  obtain ⟨oc, od, kV, doc, pm, an, cda, cc, ct, osl, ccl, cdd, vsc, ccs, file, tf, cl, cld, csl, rfl, lk, hcd, hcode, hvs, hfile, hcell⟩ := F.ex
  refine fn_sup (N := ["self", "package"]) lk hcd scIy rfl rfl rfl hcode hvs hfile hcell T (fun vs H Q E h => ?_) (fun _ => rfl) (fun _ => rfl) (fun _ => rfl) (fun A outer s H vs Q E hr h => ?_)
  · obtain ⟨a, p, rfl, _⟩ := h
    rfl
  · obtain ⟨a, p, rfl, ha, hp, k⟩ := h
    refine ⟨a, _, _, rfl, ha, pa_cons (pe_joined (.cons pe_str (.cons (pe_fmtR (pv 1)) (.cons pe_str .nil)))) pa_nil, pss_one (ps_ost (pv 0) (pv 1)), ?_⟩
    refine ⟨_, rfl, (by decide), _, rfl, .inl ⟨p, rfl, Nat.le_trans hp (by decide), _, rfl, ?_, _, rfl, ?_, ?_⟩⟩
    · rw [app_len, app_len, sizeLine_eq]
      have : ("no such state of the package " : Str).length = 29 := by decide
      have e0 : (Str.empty).length = 0 := by decide
      omega
    · rw [app_len, app_len, app_len, sizeLine_eq]
      have : ("no such state of the package " : Str).length = 29 := by decide
      have : (" can be" : Str).length = 7 := by decide
      have e0 : (Str.empty).length = 0 := by decide
      omega
    · refine ⟨by show 1 ≤ 1000; decide, ha, ?_⟩
      refine ⟨_, rfl, _, rfl, a, C, rfl, T.oex, nF, .inl ⟨ha, fun dx h1 h2 => k dx h1 h2⟩⟩
end
/-! ### the names, ascending -/
structure IsNm (ks : List Kk) (ns : List Str) : Prop where
  nd : ns.Nodup
  asc : ns.Pairwise txLe
  mem : ∀ x, x ∈ ns ↔ x ∈ ks.map (·.1)
theorem len_sub {α : Type} [DecidableEq α] {l m : List α} (h : l.Nodup) (s : ∀ z, z ∈ l → z ∈ m) : l.length ≤ m.length := by
  rcases Nat.lt_or_ge m.length l.length with c | c
  · have := (perm_of_len h s (Nat.le_of_lt c)).length_eq
    omega
  · exact c
theorem same_perm {α : Type} [DecidableEq α] {l m : List α} (hl : l.Nodup) (hm : m.Nodup) (h : ∀ z, z ∈ l ↔ z ∈ m) : m.Perm l := perm_of_len hl (fun z => (h z).mp) (len_sub hm fun z => (h z).mpr)
theorem IsNm.uniq {ks : List Kk} {ns ms : List Str} (h1 : IsNm ks ns) (h2 : IsNm ks ms) : ns = ms :=
  sorted_uniq txLe_as h1.asc h2.asc (same_perm h2.nd h1.nd fun z => (h2.mem z).trans (h1.mem z).symm)
theorem names_asc {ys : List Kk} (h : Asc ys) : (dset (ys.map (·.1))).Pairwise txLe := by
  refine List.Pairwise.sublist (dset_sub _) ?_
  rw [List.pairwise_map]
  refine h.imp fun {a b} hab => ?_
  unfold txLe
  rcases pLt_no hab with q | ⟨q, _⟩
  · exact tx_as q
  · rw [q]; exact tx_irr _
theorem isNm_of {ks ys : List Kk} (hp : ys.Perm ks) (ha : Asc ys) : IsNm ks (dset (ys.map (·.1))) := ⟨dset_nodup _, names_asc ha, nam_mem hp⟩
/-! ### a system -/
abbrev sSy (i : Nat) : Stmt := inClass (top 19) i
structure SysAt (K : PySem.W.Frag) (CY : Addr) (H : Hp) (a st : Addr) (ss : List (Str × St3)) : Prop where
  ex : ∃ dx d kvs, H a = some (.ins CY dx [("held_store", .ref st), ("held_states", .ref d)]) ∧ H d = some (.dK kvs) ∧ SL K H kvs ss
theorem SysAt.same {K : PySem.W.Frag} {CY : Addr} {H H' : Hp} {a st : Addr} {ss : List (Str × St3)} (S : Same H H') (h : SysAt K CY H a st ss) : SysAt K CY H' a st ss := by
  obtain ⟨dx, d, kvs, h1, h2, h3⟩ := h.ex
  exact ⟨dx, d, kvs, S _ _ h1, S _ _ h2, h3.same S⟩
/-- all packages, in the order of the names -/
def allOf (ns : List Str) (ss : List (Str × St3)) : List (Str × St3) := ns.map fun n => (n, (stOf ss n).getD AB)
def spYi (K : PySem.W.Frag) (CT CY CI : Addr) : Sp := fun vs H Q E => ∃ (x st d dx : Addr) (es : Eds) (kvs : List (Key × V)) (ss : List (Str × St3)), vs = [.ref x, .ref st, .ref d] ∧ H x = some (.ins CY dx []) ∧ StObj CT H st es ∧ es.length ≤ 40 ∧ H d = some (.dK kvs) ∧ SL K H kvs ss ∧ ss.length < 64 ∧
  ((∀ n ∈ ss.map (·.1), badP (keysOf es) ss n = false) → ∀ ns H', IsNm (keysOf es) ns → SameBut x H H' → SysAt K CY H' x st (allOf ns ss) → Q .non H') ∧
  (∀ n, n ∈ ss.map (·.1) → badP (keysOf es) ss n = true → (∀ m ∈ ss.map (·.1), badP (keysOf es) ss m = true → txLe n m) → (reprText n).length ≤ 1000 ∧ ∀ H' dd, Same H H' → H' dd = some (.xd [("package", .str n)]) → E (.ref CI) (some dd) H')
structure TxtZ (P : Program) (w : World) (K : PySem.W.Frag) (mg : Str → Option Value) (base : Heap) (CT CY CI fI : Addr) (fdI : FuncData) : Prop where
  y : TxtY P w K mg base CT
  n : NamF P w K mg base CT
  cl : Cls K CY
  nS : NoAttr K CY "held_store"
  nT : NoAttr K CY "held_states"
  mgE : mg "InvalidSystem" = some (.ref CI)
  sup : SupC P K mg CI
  nF : PySem.W.findIn K (.ref CI) "package" = some none
  iC : PySem.W.findIn K (.ref CI) "__init__" = some (some (.ref fI))
  tI : PySem.W.typeIn K (.ref fI) = some (.type "function")
  er : ErrFn P K CI "InvalidSystem.__init__" sIy fI fdI
  bI : Binds K fdI ["self", "package"] []
  dW : Def P w K mg base 3 "wrong_package" ["store", "states"] (spWp K CT)
theorem find_least {p : Str → Bool} : ∀ {l : List Str} {n : Str}, l.Pairwise txLe → l.find? p = some n → ∀ m ∈ l, p m = true → txLe n m
  | [], _, _, h, _, _, _ => by simp at h
  | y :: l, n, hp, h, m, hm, hpm => by
    rw [List.find?_cons] at h
    cases c : p y with
    | true =>
      rw [c] at h
      have e : y = n := by simpa using h
      subst e
      rcases List.mem_cons.mp hm with rfl | q
      · exact tx_irr _
      · exact (List.pairwise_cons.mp hp).1 m q
    | false =>
      rw [c] at h
      rcases List.mem_cons.mp hm with rfl | q
      · rw [c] at hpm; cases hpm
      · exact find_least (List.pairwise_cons.mp hp).2 (by simpa using h) m q hpm
section
variable {P : Program} {w : World} {K : PySem.W.Frag} {mg : Str → Option Value} {base : Heap} {CT CY CI fI : Addr} {fdI : FuncData}
abbrev YiN : List Str := ["self", "store", "states", "package", "name"]
theorem scYi : FnScope YiN ["self", "store", "states"] (defScope (sSy 0)) := ⟨rfl, rfl, rfl, by decide +kernel, rfl, by decide +kernel, by decide +kernel⟩
theorem SL.ofNames {H : Hp} {kvs : List (Key × V)} {ss : List (Str × St3)} {n : Str} {v : V} {aA : Addr} (h : SL K H kvs ss) (hA : SqT K H aA (stV AB)) (e : v = (valV kvs (.inr n)).getD (.ref aA)) : ∃ t, v = .ref t ∧ SqT K H t (stV ((stOf ss n).getD AB)) := by
  rcases h.at n with ⟨h1, h2⟩ | ⟨t, s, h1, h2, h3⟩
  · rw [h1] at e
    rw [h2]
    exact ⟨aA, e, hA⟩
  · rw [h1] at e
    rw [h2]
    exact ⟨t, e, h3⟩
theorem ok_yi {f : Addr} {fd : FuncData} (F : Fun K "__init__" "System.__init__" (sSy 0) f fd) (T : TxtZ P w K mg base CT CY CI fI fdI) : FnOk P w K mg base (L2.CX P w) 4 f fd ["self", "store", "states"] (spYi K CT CY CI) := by
  refine F.okX scYi (fun vs H Q E h => ?_) (fun cdv A outer s H vs Q E hr h => ?_)
  · obtain ⟨x, st, d, dx, es, kvs, ss, rfl, _⟩ := h
    rfl
  · obtain ⟨x, st, d, dx, es, kvs, ss, rfl, hx, hO, few0, hd, hS, few, kOk, kBad⟩ := h
    have nd' := scYi.nd
    have hu := hu_of hr
    have r2 : Room 2 _ := hr.mono (by decide)
    obtain ⟨aA, gA, hA⟩ := T.y.abs
    have FI : FnOk P w K mg base CX0 1 fI fdI ["self", "package"] (spErrR CI "package") := ok_iy T.er T.sup T.nF
    refine ⟨_, pss_cons (ps_set (i := 3) nd' rfl (Or.inl rfl) (pe_def T.dW hr rfl (pa_cons (pv 1) (pa_cons (pv 2) pa_nil))))
      (pss_cons (ps_if (pt_cmp (pc_notN (pv 3))) (pss_one (ps_raise rfl (takes_of rfl rfl rfl rfl) (pmk_oex T.sup.oex T.iC T.tI FI (hr.mono (by decide)) T.bI .nil (fun _ _ _ _ _ _ _ h => h.elim) rfl T.mgE (pa_cons (pv 3) pa_nil)))) pss_nil)
      (pss_cons (ps_fld (pv 0) (pv 1) rfl)
      (pss_one (ps_fld (pv 0) (pe_dcG (own := [("name", 4)]) (g := gName 4) (tt := tYes) Bare.k hu rfl nd' (pi_tup (pe_nam T.n r2 (pv 1))) (blkOk_by (N := YiN) (sc := defScope (sSy 0)) (by decide +kernel)) (fun _ _ _ _ _ => pg_name (i := 4) nd' rfl (Or.inl rfl)) (fun _ _ _ _ _ => pts_nil)
          (fun _ _ _ _ _ => pv 4) (fun _ _ _ _ _ => pe_dget2 hu (pv 2) (pv 4) (pe_glob (v := .ref aA) rfl gA rfl) ⟨rfl, rfl, rfl, rfl⟩)) rfl)))), ?_⟩
    refine ⟨_, rfl, _, rfl, st, d, es, kvs, ss, rfl, hO, hd, hS, few, fun ys H1 hp hs s1 => ?_⟩
    cases hw : ys.find? (badP (keysOf es) ss) with
    | some n =>
      have hn : n ∈ ss.map (·.1) := (hp.mem_iff).mp (List.mem_of_find?_eq_some hw)
      obtain ⟨lr, kE⟩ := kBad n hn (List.find?_some hw) (fun m hm hb => find_least (sortedS_pw hs) hw m ((hp.mem_iff).mpr hm) hb)
      refine ⟨_, rfl, true, rfl, ?_⟩
      refine iteT ?_
      refine ⟨_, rfl, (by show 1 ≤ 1000; decide), fun a ha => ⟨a, n, rfl, upd_same, lr, fun dd hd1 hd2 => ⟨rfl, dd, [("package", .str n)], upd_same, ?_, ?_, ?_⟩⟩⟩
      · rw [upd_ne hd2, upd_same]
      · rw [upd_ne hd2] at hd1
        exact hd1
      · rw [upd_ne hd2] at hd1
        refine kE _ dd (fun b o q => ?_) upd_same
        have q1 := s1 b o q
        have nb : b ≠ dd := ne_of_none q1 hd1
        have na : b ≠ a := ne_of_none q1 ha
        rw [upd_ne nb, del_ne na, upd_ne na, upd_ne nb, upd_ne na]
        exact q1
    | none =>
      refine ⟨_, rfl, false, rfl, ?_⟩
      refine iteF ?_
      have hx1 := s1 _ _ hx
      refine ⟨_, rfl, _, rfl, x, CY, dx, [], rfl, hx1, T.cl, T.nS, (by show 0 < 1000; decide), ?_⟩
      have hxg : (upd H1 x (.ins CY dx (putF "held_store" (.ref st) []))) x = some (.ins CY dx [("held_store", .ref st)]) := upd_same
      have sb1 : SameBut x H (upd H1 x (.ins CY dx (putF "held_store" (.ref st) []))) := fun b o nb q => by rw [upd_ne nb]; exact s1 _ _ q
      generalize upd H1 x (.ins CY dx (putF "held_store" (.ref st) [])) = H2 at hxg sb1 ⊢
      have hO2 : StObj CT H2 st es := by
        obtain ⟨⟨dy, tb, nb, h1, h2, h3⟩, one⟩ := hO
        have n1 : st ≠ x := ne_of h1 hx (by intro z; cases z)
        have n2 : tb ≠ x := ne_of h2 hx (by intro z; cases z)
        obtain ⟨ys', a, b, kvs', g1, g2, g3⟩ := h3
        have n3 : nb ≠ x := ne_of g1 hx (by intro z; cases z)
        exact ⟨⟨dy, tb, nb, sb1 _ _ n1 h1, sb1 _ _ n2 h2, ys', a, b, kvs', sb1 _ _ n3 g1, g2, fun nm hm => let ⟨t, a, b⟩ := g3 nm hm; ⟨t, a, sb1 _ _ (ne_of b hx (by intro z; cases z)) b⟩⟩, one⟩
      have kp2 : Kp K H H2 := fun a xs h => by
        rcases h with (h | ⟨q, h⟩) | h
        · exact .inl (.inl (sb1 _ _ (ne_of h hx (by intro z; cases z)) h))
        · exact .inl (.inr ⟨q, sb1 _ _ (ne_of h hx (by intro z; cases z)) h⟩)
        · exact .inr h
      have hd2 : H2 d = some (.dK kvs) := sb1 _ _ (ne_of hd hx (by intro z; cases z)) hd
      have hS2 := hS.kp kp2
      obtain ⟨dy, fs, ha⟩ := hO2.ins
      refine ⟨_, rfl, st, dy, fs, rfl, ha, st, es, rfl, hO2, fun zs q hzp hza nq => ?_⟩
      have s3 := Same.upd_new (o := .tup ((dset (zs.map (·.1))).map V.str)) nq
      have nm := isNm_of hzp hza
      have nlen : (dset (zs.map (·.1))).length ≤ 40 := by
        have := nd_le (zs.map (·.1))
        unfold Half.nd at this
        rw [List.length_map, hzp.length_eq, List.length_map] at this
        omega
      generalize dset (zs.map (·.1)) = ns at s3 nm nlen
      refine ⟨q, rfl, ⟨_, .inl (.inl upd_same)⟩, fun D nD => ?_⟩
      refine dcG_it (walk_tup (K := K) (a := q) (xs := ns.map V.str)) (fun i H' => Same (upd H2 q (.tup (ns.map V.str))) H' ∧ ∃ kvs', H' D = some (.dK kvs') ∧ SL K H' kvs' (allOf (ns.take i) ss)) ⟨Same.upd_new nD, [], upd_same, .nil⟩ (fun i H' _ I => .inl (.inl (I.1 _ _ upd_same))) ?_ ?_
      · rintro i v H3 H3' hi ⟨sm, kvs', gD, gS⟩ ⟨rfl, hv⟩
        obtain ⟨n, hn, rfl⟩ := getE hv
        have s23 := s3.trans sm
        refine ⟨rfl, ?_⟩
        refine ⟨_, rfl, _, rfl, d, rfl, .inl ⟨kvs, .inl (s23 _ _ hd2)⟩, _, rfl, _, DGet.k (k := .inr n) (s23 _ _ hd2), ?_⟩
        obtain ⟨t, et, ht⟩ := (hS2.same s23).ofNames (n := n) (hA _) rfl
        rw [et]
        have kl : kvs'.length ≤ 40 := by
          rw [gS.len]
          unfold allOf
          rw [List.length_map, List.length_take]
          omega
        refine ⟨_, DPut.k (k := .inr n) gD (by rw [sizeLine_eq]; omega), ?_, ?_⟩
        · intro b o qq
          rw [upd_ne (ne_of_none qq nD)]
          exact sm _ _ qq
        · have kpD : Kp K H3' (upd H3' D (.dK (putK kvs' (.inr n) (.ref t)))) := Kp.upd gD (fun xs z => by cases z) (fun q xs z => by cases z)
          have gS' := (gS.kp kpD).put (n := n) (kpD _ _ ht)
          have en : n ∉ ns.take i := fun z => by
            have nd2 := nm.nd
            rw [← List.take_append_drop i ns] at nd2
            obtain ⟨_, _, qq⟩ := List.nodup_append.mp nd2
            have hi' := (List.getElem?_eq_some_iff.mp hn).1
            refine qq _ z _ ?_ rfl
            rw [List.drop_eq_getElem_cons hi', (List.getElem?_eq_some_iff.mp hn).2]
            exact List.mem_cons_self
          have ea : (allOf (ns.take i) ss).map (·.1) = ns.take i := by
            unfold allOf
            rw [List.map_map]
            exact List.map_id _
          have e : putS (allOf (ns.take i) ss) n ((stOf ss n).getD AB) = allOf (ns.take (i + 1)) ss := by
            unfold putS
            rw [ea, has_no en, if_neg (by decide), take_next hn]
            unfold allOf
            rw [List.map_append]
            rfl
          rw [e] at gS'
          exact ⟨_, upd_same, gS'⟩
      · rintro H3 ⟨sm, kvs', gD, gS⟩
        rw [show (ns.map V.str).length = ns.length from List.length_map .., List.take_length] at gS
        have s23 := s3.trans sm
        have hx3 := s23 _ _ hxg
        refine ⟨_, rfl, x, CY, dx, _, rfl, hx3, T.cl, T.nT, (by show 1 < 1000; decide), ?_⟩
        have nxD : D ≠ x := ne_of gD hx3 (by intro z; cases z)
        have kpx : Kp K H3 (upd H3 x (.ins CY dx (putF "held_states" (.ref D) [("held_store", .ref st)]))) := Kp.upd hx3 (fun xs z => by cases z) (fun q xs z => by cases z)
        refine kOk (fun n hn => ?_) ns _ nm (fun b o nb qq => ?_) ⟨dx, D, kvs', upd_same, by rw [upd_ne nxD]; exact gD, gS.kp kpx⟩
        · have := List.find?_eq_none.mp hw n ((hp.mem_iff).mpr hn)
          simpa using this
        · rw [upd_ne nb]
          exact s23 _ _ (sb1 _ _ nb qq)
end
end Half

namespace Half
open PySem PySem.Spec PyProof.Rows L2
/-! ### System's methods -/
structure TxtA (K : PySem.W.Frag) (mg : Str → Option Value) (CY CN : Addr) : Prop where
  cl : Cls K CY
  nS : NoAttr K CY "held_store"
  nT : NoAttr K CY "held_states"
  dic : mg "dict" = none
  isi : mg "isinstance" = none
  mgC : mg "System" = some (.ref CY)
  en : ErrC K mg "UnknownName" CN
  ha : PySem.W.findIn K (.ref CY) "__class__" = some (some (.builtin "object.__class__"))
  hn : PySem.W.specialIn K (.builtin "object.__class__") "__get__" = some (some (.builtin "getset_descriptor.__get__"))
  ht : PySem.W.takesIn K (.builtin "object.__class__") = some true
  hm : PySem.W.mroIn K CY (.type "object") = some true
  ki : PySem.W.kitOne K (.ref CY) (.ref CY) = some true
def datS (ss : List (Str × St3)) : List (Key × PyData) := ss.map fun p => (.inr p.1, stD p.2)
def spYs (K : PySem.W.Frag) (CY : Addr) : Sp := fun vs H Q _ => ∃ (a st : Addr) (ss : List (Str × St3)), vs = [.ref a] ∧ SysAt K CY H a st ss ∧ Q (.ref st) H
def spYt (K : PySem.W.Frag) (CY : Addr) : Sp := fun vs H Q _ => ∃ (a st : Addr) (ss : List (Str × St3)), vs = [.ref a] ∧ SysAt K CY H a st ss ∧ ∀ d kvs, H d = none → SL K H kvs ss → Q (.ref d) (upd H d (.dK kvs))
def spYg (K : PySem.W.Frag) (CY CN : Addr) : Sp := fun vs H Q E => ∃ (a st : Addr) (ss : List (Str × St3)) (nm : Str), vs = [.ref a, .str nm] ∧ SysAt K CY H a st ss ∧ (∀ t s, stOf ss nm = some s → SqT K H t (stV s) → Q (.ref t) H) ∧ (stOf ss nm = none → E (.ref CN) none H)
def spYw (K : PySem.W.Frag) (CT CY CI CN : Addr) : Sp := fun vs H Q E => ∃ (a st t : Addr) (ss : List (Str × St3)) (es : Eds) (nm : Str) (s : St3), vs = [.ref a, .str nm, .ref t] ∧ SysAt K CY H a st ss ∧ StObj CT H st es ∧ es.length ≤ 40 ∧ ss.length ≤ 40 ∧ SqT K H t (stV s) ∧
  (nm ∉ ss.map (·.1) → (reprText nm).length ≤ 1000 ∧ E (.ref CN) none H) ∧
  (nm ∈ ss.map (·.1) → (∀ n ∈ (putS ss nm s).map (·.1), badP (keysOf es) (putS ss nm s) n = false) → ∀ x ns H', IsNm (keysOf es) ns → Same H H' → SysAt K CY H' x st (allOf ns (putS ss nm s)) → Q (.ref x) H') ∧
  (nm ∈ ss.map (·.1) → ∀ n, n ∈ (putS ss nm s).map (·.1) → badP (keysOf es) (putS ss nm s) n = true → (∀ m ∈ (putS ss nm s).map (·.1), badP (keysOf es) (putS ss nm s) m = true → txLe n m) → (reprText n).length ≤ 1000 ∧ ∀ H' dd, Same H H' → H' dd = some (.xd [("package", .str n)]) → E (.ref CI) (some dd) H')
def spYe (K : PySem.W.Frag) (CT CY : Addr) : Sp := fun vs H Q _ => ∃ (a b st st' : Addr) (ss ss' : List (Str × St3)) (es es' : Eds), vs = [.ref a, .ref b] ∧ SysAt K CY H a st ss ∧ SysAt K CY H b st' ss' ∧ StObj CT H st es ∧ StObj CT H st' es' ∧ (es.length = es'.length → ∀ e ∈ es, e ∈ es') ∧
  (∀ p ∈ ss, PyData.strOk p.2.1 = true) ∧ (∀ p ∈ ss', PyData.strOk p.2.1 = true) ∧ Q (.bl (decide (es.length = es'.length) && eqM (datS ss) (datS ss'))) H
/-- the store's ==, known by its promise -/
structure StEqF (P : Program) (w : World) (K : PySem.W.Frag) (mg : Str → Option Value) (base : Heap) (CT : Addr) : Prop where
  ex : ∃ f fd, OwnEqC K CT f ∧ FnOk P w K mg base CX0 1 f fd ["self", "other"] (spStEq CT) ∧ Binds K fd ["self", "other"] []
theorem stEq_read {CT : Addr} {H : Hp} {a b : Addr} {es es' : Eds} {fl : Bool → Bool} {Q : VK} (h1 : StObj CT H a es) (h2 : StObj CT H b es') (hs : es.length = es'.length → ∀ e ∈ es, e ∈ es') (q : Q (.bl (fl (decide (es.length = es'.length)))) H) : rEqO CT (spStEq CT) fl (.ref a) (.ref b) H Q := by
  obtain ⟨dx, fs, ha⟩ := h1.ins
  obtain ⟨dy, gs, hb⟩ := h2.ins
  exact ⟨a, b, dx, dy, fs, gs, rfl, rfl, ha, hb, a, b, es, es', rfl, h1, h2, hs, _, rfl, q⟩
/-- System(..), known by its promise -/
structure MkY (P : Program) (w : World) (K : PySem.W.Frag) (mg : Str → Option Value) (base : Heap) (CT CY CI : Addr) : Prop where
  ex : ∃ f fd, FnOk P w K mg base (L2.CX P w) 4 f fd ["self", "store", "states"] (spYi K CT CY CI) ∧ Mk K CY f ∧ Binds K fd ["self", "store", "states"] [] ∧ mg "System" = some (.ref CY)
theorem pe_mkY {X : Cx} {CT CY CI : Addr} {E : XK} {e : Expr} {es : List Expr} {t : TA} {p pos : Pos} (D : MkY X.prog X.w X.K X.mg X.base CT CY CI) (hr : Room 5 X.A) (hg : Gl X "System") (hx : Passes (L2.CX X.prog X.w) X E) (ha : PA X (e :: es) t)
    (he : starEach (e :: es) X.env = (false, eval e X.env) :: starEach es X.env := by rfl) (hpl : (backTo pos (starEach es X.env)).any (·.1) = false := by rfl) : PE X (.Call (.Name "System" p) (e :: es) [] pos) (tMake CY (spYi X.K CT CY CI) [] E t) := by
  obtain ⟨f, fd, F, M, b, g⟩ := D.ex
  exact pe_make M F hr hg g b .nil hx ha (by decide) he hpl
/-- how System(store, states) is read -/
theorem mkY_read {K : PySem.W.Frag} {CT CY CI x dx st d : Addr} {H : Hp} {es : Eds} {kvs : List (Key × V)} {ss : List (Str × St3)} {Q : Hp → Prop} {E : XK} (nx : H x = none) (ndx : H dx = none) (hO : StObj CT H st es) (few : es.length ≤ 40) (hd : H d = some (.dK kvs)) (hS : SL K H kvs ss) (fs : ss.length < 64)
    (ok : (∀ n ∈ ss.map (·.1), badP (keysOf es) ss n = false) → ∀ ns H', IsNm (keysOf es) ns → Same H H' → SysAt K CY H' x st (allOf ns ss) → Q H')
    (bad : ∀ n, n ∈ ss.map (·.1) → badP (keysOf es) ss n = true → (∀ m ∈ ss.map (·.1), badP (keysOf es) ss m = true → txLe n m) → (reprText n).length ≤ 1000 ∧ ∀ H' dd, Same H H' → H' dd = some (.xd [("package", .str n)]) → E (.ref CI) (some dd) H') :
    spYi K CT CY CI [.ref x, .ref st, .ref d] (upd (upd H dx (.own x)) x (.ins CY dx [])) (fun v H3 => v = .non ∧ Q H3) E := by
  have sx : Same H (upd (upd H dx (.own x)) x (.ins CY dx [])) := fun b o q => by
    rw [upd_ne (ne_of_none q nx), upd_ne (ne_of_none q ndx)]
    exact q
  refine ⟨x, st, d, dx, es, kvs, ss, rfl, upd_same, hO.same sx, few, sx _ _ hd, hS.same sx, fs, fun h ns H' hn sb hs => ⟨rfl, ok h ns H' hn (fun b o q => sb _ _ (ne_of_none q nx) (sx _ _ q)) hs⟩, fun n h1 h2 h3 => ?_⟩
  obtain ⟨lr, k⟩ := bad n h1 h2 h3
  exact ⟨lr, fun H' dd s' hx => k H' dd (sx.trans s') hx⟩
section
variable {P : Program} {w : World} {K : PySem.W.Frag} {mg : Str → Option Value} {base : Heap} {CT CY CI CN : Addr}
theorem scYs : FnScope ["self"] ["self"] (defScope (sSy 1)) := ⟨rfl, rfl, rfl, by decide +kernel, rfl, by decide +kernel, by decide +kernel⟩
theorem ok_ys {f : Addr} {fd : FuncData} (F : Fun K "store" "System.store" (sSy 1) f fd) (T : TxtA K mg CY CN) : FnOk P w K mg base CX0 1 f fd ["self"] (spYs K CY) := by
  refine F.ok scYs (fun vs H Q E h => ?_) (fun cdv A outer s H vs Q E hr h => ?_)
  · obtain ⟨a, st, ss, rfl, _⟩ := h
    rfl
  · obtain ⟨a, st, ss, rfl, ⟨dx, d, kvs, h1, h2, h3⟩, k⟩ := h
    refine ⟨_, pss_one (ps_ret (pe_fld (pv 0) rfl)), ?_⟩
    exact ⟨_, rfl, a, CY, dx, _, _, rfl, h1, T.cl, T.nS, rfl, k⟩
theorem scYt : FnScope ["self"] ["self"] (defScope (sSy 2)) := ⟨rfl, rfl, rfl, by decide +kernel, rfl, by decide +kernel, by decide +kernel⟩
theorem ok_yt {f : Addr} {fd : FuncData} (F : Fun K "states" "System.states" (sSy 2) f fd) (T : TxtA K mg CY CN) : FnOk P w K mg base CX0 1 f fd ["self"] (spYt K CY) := by
  refine F.ok scYt (fun vs H Q E h => ?_) (fun cdv A outer s H vs Q E hr h => ?_)
  · obtain ⟨a, st, ss, rfl, _⟩ := h
    rfl
  · obtain ⟨a, st, ss, rfl, ⟨dx, d, kvs, h1, h2, h3⟩, k⟩ := h
    refine ⟨_, pss_one (ps_ret (pe_callTy call_dictD (by rfl) T.dic (by decide +kernel) (pa_cons (pe_fld (pv 0) rfl) pa_nil))), ?_⟩
    exact ⟨_, rfl, a, CY, dx, _, _, rfl, h1, T.cl, T.nT, rfl, d, kvs, rfl, .inl h2, fun p np => k p kvs np h3⟩
theorem scYg : FnScope ["self", "at"] ["self", "at"] (defScope (sSy 4)) := ⟨rfl, rfl, rfl, by decide +kernel, rfl, by decide +kernel, by decide +kernel⟩
theorem ok_yg {f : Addr} {fd : FuncData} (F : Fun K "__getitem__" "System.__getitem__" (sSy 4) f fd) (T : TxtA K mg CY CN) : FnOk P w K mg base (L2.CX P w) 1 f fd ["self", "at"] (spYg K CY CN) := by
  refine F.okX scYg (fun vs H Q E h => ?_) (fun cdv A outer s H vs Q E hr h => ?_)
  · obtain ⟨a, st, ss, nm, rfl, _⟩ := h
    rfl
  · obtain ⟨a, st, ss, nm, rfl, ⟨dx, d, kvs, h1, h2, h3⟩, kY, kN⟩ := h
    have hu := hu_of hr
    refine ⟨_, pss_cons (ps_if (pt_cmp (pc_dnotin hu (pv 1) (pe_fld (pv 0) rfl))) (pss_one (ps_raise rfl (takes_of rfl rfl rfl rfl) (pmk_own PySem.F.excBase_ValueError T.en.x T.en.g T.en.k (raises_own T.en.b T.en.t) rfl))) pss_nil)
      (pss_one (ps_ret (pe_dget hu (pe_fld (pv 0) rfl) (pv 1) (fun _ _ => rfl)))), ?_⟩
    refine ⟨_, rfl, _, rfl, a, CY, dx, _, _, rfl, h1, T.cl, T.nT, rfl, d, _, rfl, DGet.k (k := .inr nm) h2, _, rfl, ?_⟩
    rcases h3.at nm with ⟨e1, e2⟩ | ⟨t, s, e1, e2, e3⟩
    · refine ite_yes (by rw [e1]; rfl) ?_
      exact kN e2
    · refine ite_no (by rw [e1]; rfl) ?_
      refine ⟨_, rfl, a, CY, dx, _, _, rfl, h1, T.cl, T.nT, rfl, _, rfl, d, .ref t, rfl, ?_, kY t s e2 e3⟩
      rw [← e1]
      exact DGet.k (k := .inr nm) h2
theorem scYe : FnScope ["self", "other"] ["self", "other"] (defScope (sSy 6)) := ⟨rfl, rfl, rfl, by decide +kernel, rfl, by decide +kernel, by decide +kernel⟩
theorem ok_ye {f : Addr} {fd : FuncData} (F : Fun K "__eq__" "System.__eq__" (sSy 6) f fd) (T : TxtA K mg CY CN) (S : StEqF P w K mg base CT) : FnOk P w K mg base CX0 2 f fd ["self", "other"] (spYe K CT CY) := by
  refine F.ok scYe (fun vs H Q E h => ?_) (fun cdv A outer s H vs Q E hr h => ?_)
  · obtain ⟨a, b, st, st', ss, ss', es, es', rfl, _⟩ := h
    rfl
  · obtain ⟨a, b, st, st', ss, ss', es, es', rfl, ⟨dx, d, kvs, h1, h2, h3⟩, ⟨dy, d', kvs', g1, g2, g3⟩, hO, hO', hs, ok, ok', k⟩ := h
    obtain ⟨fe, fde, Oe, Fe, be⟩ := S.ex
    have hu : (A.deeper (envOfC "System.__eq__" (defScope (sSy 6)) s.heap.objs.size f cdv)).units + 66 < cLine := by have := hr.un; omega
    refine ⟨_, pss_one (ps_ret (pe_and (pe_callB call_isi (by rfl) T.isi (by decide +kernel) (pa_cons (pv 1) (pa_cons (pe_glob (v := .ref CY) rfl T.mgC rfl) pa_nil)))
      (pe_and (pe_cmpR (op_eqO Fe Oe be hr) (pe_fld (pv 0) rfl) (pe_fld (pv 1) rfl) (nomark _)) (pe_one (pe_cmpR (op_eqM hu) (pe_fld (pv 0) rfl) (pe_fld (pv 1) rfl) (nomark _)))))), ?_⟩
    refine ⟨_, rfl, _, _, _, _, _, rfl, .own CY, .base (.ins g1 T.cl T.ha T.hn T.ht T.hm), T.ki, _, rfl, ?_⟩
    refine iteT ?_
    refine ⟨_, rfl, a, CY, dx, _, _, rfl, h1, T.cl, T.nS, rfl, _, rfl, b, CY, dy, _, _, rfl, g1, T.cl, T.nS, rfl, ?_⟩
    refine stEq_read hO hO' hs ?_
    refine ⟨_, rfl, ?_⟩
    show if decide (es.length = es'.length) = true then _ else _
    cases c : decide (es.length = es'.length) with
    | false =>
      rw [c, Bool.false_and] at k
      exact iteF k
    | true =>
      rw [c, Bool.true_and] at k
      refine iteT ?_
      exact ⟨_, rfl, a, CY, dx, _, _, rfl, h1, T.cl, T.nT, rfl, _, rfl, b, CY, dy, _, _, rfl, g1, T.cl, T.nT, rfl, d, d', kvs, kvs', _, _, rfl, rfl, h2, g2, h3.dpm ok, g3.dpm ok', k⟩
end
end Half

namespace Half
open PySem PySem.Spec PyProof.Rows L2
/-! ### editions with all their parts -/
structure Edn where
  name : Str
  ver : Int
  scr : List Str
  nee : List (Str × Int)
  fir : List (Str × Int)
  aga : List Str
def Edn.ed (e : Edn) : Ed := ⟨e.name, .int e.ver, e.scr, e.nee, e.fir, e.aga⟩
def Edn.key (e : Edn) : Kk := (e.name, e.ver)
abbrev Es : Type := List (Addr × Edn)
def Es.eds (es : Es) : Eds := es.map fun e => (e.1, e.2.key)
def EdX (K : PySem.W.Frag) (H : Hp) (C a : Addr) (e : Edn) : Prop := ∃ s n f g, EdObj K H C a e.ed s n f g
theorem EdX.same {K : PySem.W.Frag} {H H' : Hp} {C a : Addr} {e : Edn} (S : Same H H') (h : EdX K H C a e) : EdX K H' C a e := by
  obtain ⟨s, n, f, g, h⟩ := h
  exact ⟨s, n, f, g, h.same S⟩
/-! ### the mirror -/
def metB (ss : List (Str × St3)) (q : Str × Int) : Bool := match stOf ss q.1 with
  | some s => decide (s.1 = "ready") && decide (q.2 ≤ s.2.1)
  | none => false
def thereB (ss : List (Str × St3)) (n : Str) : Bool := match stOf ss n with
  | some s => has THR s.1
  | none => false
def edAt (es : List Edn) (k : Kk) : Option Edn := es.find? fun e => decide (e.key = k)
def agB (e o : Edn) : Bool := has e.aga o.name || has o.aga e.name
def foeB (es : List Edn) (ss : List (Str × St3)) (e : Edn) (n : Str) : Bool := match stOf ss n with
  | some s => (match edAt es (n, s.2.1) with
    | some o => agB e o
    | none => false)
  | none => false
def hostB (es : List Edn) (ss : List (Str × St3)) (e : Edn) (n : Str) : Bool := (!decide (n = e.name) && thereB ss n) && foeB es ss e n
def upB (es : List Edn) (ss : List (Str × St3)) (n : Str) : Bool := match stOf ss n with
  | some s => if decide (s.1 = "ready") = true then (match edAt es (n, s.2.1) with
    | some e => (e.nee.any fun q => !metB ss q) || ((ss.map (·.1)).any fun m => hostB es ss e m)
    | none => false) else has UNS s.1
  | none => false
def soundB (es : List Edn) (ss : List (Str × St3)) : Bool := !(ss.map (·.1)).any (upB es ss)
/-! ### a system that can be -/
structure SysOk (K : PySem.W.Frag) (C CT CY : Addr) (H : Hp) (a st : Addr) (ss : List (Str × St3)) (es : Es) : Prop where
  sys : SysAt K CY H a st ss
  sto : StObj CT H st es.eds
  ed : ∀ e ∈ es, EdX K H C e.1 e.2
  nm : IsNm (keysOf es.eds) (ss.map (·.1))
  ok : ∀ p ∈ ss, isState (keysOf es.eds) p.1 p.2 = true
  few : es.length ≤ 40
theorem SysOk.same {K : PySem.W.Frag} {C CT CY : Addr} {H H' : Hp} {a st : Addr} {ss : List (Str × St3)} {es : Es} (S : Same H H') (h : SysOk K C CT CY H a st ss es) : SysOk K C CT CY H' a st ss es := ⟨h.sys.same S, h.sto.same S, fun e he => (h.ed e he).same S, h.nm, h.ok, h.few⟩
theorem stOf_in {ss : List (Str × St3)} {n : Str} {s : St3} (h : stOf ss n = some s) : (n, s) ∈ ss := by
  unfold stOf at h
  obtain ⟨p, h1, h2⟩ := Option.map_eq_some_iff.mp h
  have e1 := List.mem_of_find?_eq_some h1
  have e2 : p.1 = n := by simpa using List.find?_some h1
  rw [← e2, ← h2]
  exact e1
theorem stOf_some {ss : List (Str × St3)} {n : Str} (h : n ∈ ss.map (·.1)) : ∃ s, stOf ss n = some s := by
  cases c : stOf ss n with
  | some s => exact ⟨s, rfl⟩
  | none => exact absurd h (stOf_mem.mp c)
/-- a state that can be, and is not absent, is of an edition -/
theorem isState_key {ks : List Kk} {n : Str} {s : St3} (h : isState ks n s = true) (hn : s.1 ≠ "absent") : (n, s.2.1) ∈ ks := by
  unfold isState at h
  rw [decide_eq_false hn] at h
  simp only [Bool.false_eq_true, if_false] at h
  split at h
  · cases h
  · rename_i c
    have c : ((!has THR s.1 && !decide (s.1 = "left")) || !has ks (n, s.2.1)) = false := by simpa using c
    have c2 := (Bool.or_eq_false_iff.mp c).2
    exact has_iff.mp (by simpa using c2)
theorem edAt_some {es : Es} {k : Kk} (h : k ∈ keysOf es.eds) : ∃ e ∈ es, e.2.key = k ∧ edAt (es.map (·.2)) k = some e.2 := by
  unfold edAt
  induction es with
  | nil => simp [Es.eds] at h
  | cons e es ih =>
    rw [List.map_cons, List.find?_cons]
    by_cases c : e.2.key = k
    · exact ⟨e, List.mem_cons_self, c, by rw [decide_eq_true c]⟩
    · rw [decide_eq_false c]
      have h' : k ∈ keysOf (Es.eds es) := by
        rcases List.mem_cons.mp (show k ∈ e.2.key :: keysOf (Es.eds es) from h) with q | q
        · exact absurd q.symm c
        · exact q
      obtain ⟨e', h1, h2, h3⟩ := ih h'
      exact ⟨e', List.mem_cons_of_mem _ h1, h2, h3⟩
/-- what is asked of System and Store, known by their promises -/
structure SyF (P : Program) (w : World) (K : PySem.W.Frag) (mg : Str → Option Value) (base : Heap) (C CT CY CN CU : Addr) : Prop where
  cl : Cls K CY
  clE : Cls K C
  nam : NamF P w K mg base CT
  sto : ∃ p g fd, PropOf K CY "store" p g ∧ FnOk P w K mg base CX0 1 g fd ["self"] (spYs K CY) ∧ Binds K fd ["self"] []
  get : ∃ f fd, OwnSp K CY f "__getitem__" ∧ PySem.W.fnIn K f = true ∧ FnOk P w K mg base (L2.CX P w) 1 f fd ["self", "at"] (spYg K CY CN) ∧ Binds K fd ["self", "at"] []
  item : ∃ f fd, OwnSp K CT f "__getitem__" ∧ PySem.W.fnIn K f = true ∧ FnOk P w K mg base (L2.CX P w) 2 f fd ["self", "at"] (spItem CT CU) ∧ Binds K fd ["self", "at"] []
  p0 : Prp P w K mg base C "name" 0
  p3 : Prp P w K mg base C "needs" 3
  p5 : Prp P w K mg base C "against" 5
section
variable {X : Cx} {C CT CY CN CU : Addr}
theorem pe_ysto {e : Expr} {te : TE} {pos : Pos} (D : SyF X.prog X.w X.K X.mg X.base C CT CY CN CU) (hr : Room 2 X.A) (he : PE X e te) (hab : attributeBase e "store" X.env (eval e X.env) = eval e X.env := by rfl) : PE X (.Attribute e "store" pos) (tProp CY (spYs X.K CY) [] E0 te) := by
  obtain ⟨p, g, fd, h1, h2, h3⟩ := D.sto
  exact pe_prop he D.cl h1 h2 hr h3 .nil pass0 hab
theorem pe_yget {a b : Expr} {ta tb : TE} {pos : Pos} (D : SyF X.prog X.w X.K X.mg X.base C CT CY CN CU) (hr : Room 2 X.A) (ha : PE X a ta) (hb : PE X b tb)
    (hs : ∀ o i, subscripted b true o i = runValue (.builtin "lifetime.subscript" ⟨[o, i], []⟩) := by intro _ _; rfl) : PE X (.Subscript a b pos) (tOp (rIxO CY (spYg X.K CY CN) E0) ta tb) := by
  obtain ⟨f, fd, O, k, F, bd⟩ := D.get
  exact pe_ixO F O k bd (Room.in1 hr) passL ha hb hs
theorem pe_sget {a b : Expr} {ta tb : TE} {pos : Pos} (D : SyF X.prog X.w X.K X.mg X.base C CT CY CN CU) (hr : Room 3 X.A) (ha : PE X a ta) (hb : PE X b tb)
    (hs : ∀ o i, subscripted b true o i = runValue (.builtin "lifetime.subscript" ⟨[o, i], []⟩) := by intro _ _; rfl) : PE X (.Subscript a b pos) (tOp (rIxO CT (spItem CT CU) E0) ta tb) := by
  obtain ⟨f, fd, O, k, F, bd⟩ := D.item
  exact pe_ixO F O k bd (Room.in1 hr) passL ha hb hs
end
section
variable {K : PySem.W.Frag} {C CT CY CN CU : Addr} {H : Hp} {a st : Addr} {ss : List (Str × St3)} {es : Es} {Q : VK}
theorem SysAt.ins (h : SysAt K CY H a st ss) : ∃ dx fs, H a = some (.ins CY dx fs) := by
  obtain ⟨dx, d, kvs, h1, _⟩ := h.ex
  exact ⟨dx, _, h1⟩
theorem yget_read {n : Str} {s : St3} (h : SysAt K CY H a st ss) (hn : stOf ss n = some s) (k : ∀ t, SqT K H t (stV s) → Q (.ref t) H) : rIxO CY (spYg K CY CN) E0 (.ref a) (.str n) H Q := by
  obtain ⟨dx, fs, ha⟩ := h.ins
  refine ⟨a, dx, fs, rfl, ha, a, st, ss, n, rfl, h, fun t s' e1 e2 => ?_, fun z => ?_⟩
  · rw [hn] at e1
    cases e1
    exact k t e2
  · rw [hn] at z; cases z
theorem ysto_read (h : SysAt K CY H a st ss) (k : Q (.ref st) H) : ∃ p dx fs, V.ref a = .ref p ∧ H p = some (.ins CY dx fs) ∧ spYs K CY [.ref p] H Q E0 := by
  obtain ⟨dx, fs, ha⟩ := h.ins
  exact ⟨a, dx, fs, rfl, ha, a, st, ss, rfl, h, k⟩
theorem nam_read {eds : Eds} (h : StObj CT H st eds) (k : ∀ ns p, IsNm (keysOf eds) ns → H p = none → Q (.ref p) (upd H p (.tup (ns.map V.str)))) : ∃ p dx fs, V.ref st = .ref p ∧ H p = some (.ins CT dx fs) ∧ spNames CT [.ref p] H Q E0 := by
  obtain ⟨dx, fs, ha⟩ := h.ins
  exact ⟨st, dx, fs, rfl, ha, st, eds, rfl, h, fun ys p hp has np => k _ p (isNm_of hp has) np⟩
theorem sget_read {t : Addr} {k : Kk} {e : Addr × Kk} {eds : Eds} (h : StObj CT H st eds) (ht : H t = some (.tup [.str k.1, .int k.2])) (he : e ∈ eds) (hk : e.2 = k) (q : Q (.ref e.1) H) : rIxO CT (spItem CT CU) E0 (.ref st) (.ref t) H Q := by
  obtain ⟨dx, fs, ha⟩ := h.ins
  refine ⟨st, dx, fs, rfl, ha, st, t, eds, k, rfl, h, ht, fun e' he' ek => ?_, fun z => absurd (List.mem_map.mpr ⟨e, he, hk⟩) z⟩
  have e1 := val_nodup (κ := List Key) (kvs := tabOf eds)
  have a1 := tab_some h.one he
  have a2 := tab_some h.one he'
  rw [hk] at a1
  rw [ek, a1] at a2
  have : e.1 = e'.1 := by injection (Option.some.inj a2)
  rw [← this]
  exact q
theorem prp0 {e : Edn} (h : EdX K H C a e) (q : Q (.str e.name) H) : ∃ p dx fs, V.ref a = .ref p ∧ H p = some (.ins C dx fs) ∧ spGet C 0 [.ref p] H Q E0 := by
  obtain ⟨s, n, f, g, ⟨dx, p, h1, h2⟩, h3⟩ := h
  exact ⟨a, dx, _, rfl, h1, a, dx, p, _, _, rfl, h1, h2, rfl, q⟩
theorem prp3 {e : Edn} (h : EdX K H C a e) (q : ∀ n, NeedsAt K H n e.nee → Q (.ref n) H) : ∃ p dx fs, V.ref a = .ref p ∧ H p = some (.ins C dx fs) ∧ spGet C 3 [.ref p] H Q E0 := by
  obtain ⟨s, n, f, g, ⟨dx, p, h1, h2⟩, h3⟩ := h
  exact ⟨a, dx, _, rfl, h1, a, dx, p, _, _, rfl, h1, h2, rfl, q n h3.needs⟩
theorem prp5 {e : Edn} (h : EdX K H C a e) (q : ∀ n, SqT K H n (e.aga.map V.str) → Q (.ref n) H) : ∃ p dx fs, V.ref a = .ref p ∧ H p = some (.ins C dx fs) ∧ spGet C 5 [.ref p] H Q E0 := by
  obtain ⟨s, n, f, g, ⟨dx, p, h1, h2⟩, h3⟩ := h
  exact ⟨a, dx, _, rfl, h1, a, dx, p, _, _, rfl, h1, h2, rfl, q g h3.against⟩
end
end Half

namespace Half
open PySem PySem.Spec PyProof.Rows L2
abbrev sEo : Stmt := top 20
abbrev sMet : Stmt := top 21
/-! ### promises -/
def spEo (K : PySem.W.Frag) (C CT CY : Addr) : Sp := fun vs H Q _ => ∃ (a st : Addr) (ss : List (Str × St3)) (es : Es) (n : Str) (s : St3), vs = [.ref a, .str n] ∧ SysOk K C CT CY H a st ss es ∧ stOf ss n = some s ∧ s.1 ≠ "absent" ∧ ∀ e ∈ es, edAt (es.map (·.2)) (n, s.2.1) = some e.2 → ∀ H', Same H H' → Q (.ref e.1) H'
def spMet (K : PySem.W.Frag) (C CT CY : Addr) : Sp := fun vs H Q _ => ∃ (a st t : Addr) (ss : List (Str × St3)) (es : Es) (q : Str × Int), vs = [.ref a, .ref t] ∧ SysOk K C CT CY H a st ss es ∧ SqT K H t [.str q.1, .int q.2] ∧ ∀ H', Same H H' → Q (.bl (metB ss q)) H'
theorem there_not_absent {ss : List (Str × St3)} {n : Str} {s : St3} (h : stOf ss n = some s) (ht : thereB ss n = true) : s.1 ≠ "absent" := fun e => by
  unfold thereB at ht
  rw [h] at ht
  dsimp only at ht
  rw [e] at ht
  exact absurd ht (by decide)
section
variable {P : Program} {w : World} {K : PySem.W.Frag} {mg : Str → Option Value} {base : Heap} {C CT CY CN CU : Addr}
theorem scEo : FnScope ["system", "name"] ["system", "name"] (defScope sEo) := ⟨rfl, rfl, rfl, by decide +kernel, rfl, by decide +kernel, by decide +kernel⟩
theorem ok_eo {f : Addr} {fd : FuncData} (F : Fun K "edition_of" "edition_of" sEo f fd) (Y : SyF P w K mg base C CT CY CN CU) : FnOk P w K mg base CX0 4 f fd ["system", "name"] (spEo K C CT CY) := by
  refine F.ok scEo (fun vs H Q E h => ?_) (fun cdv A outer s H vs Q E hr h => ?_)
  · obtain ⟨a, st, ss, es, n, s, rfl, _⟩ := h
    rfl
  · obtain ⟨a, st, ss, es, n, s3, rfl, hY, hs, ha, k⟩ := h
    have r2 : Room 2 _ := hr.mono (by decide)
    refine ⟨_, pss_one (ps_ret (pe_sget Y hr (pe_ysto Y r2 (pv 0)) (pe_tup (pa_cons (pv 1) (pa_cons (pe_ix ix_tup (pe_yget Y r2 (pv 0) (pv 1)) pe_int (fun _ _ => rfl)) pa_nil))))), ?_⟩
    refine ⟨_, rfl, ysto_read hY.sys ⟨_, rfl, _, rfl, _, rfl, yget_read hY.sys hs fun t ht => ⟨t, _, 1, _, rfl, rfl, ht, rfl, two_le, fun t2 n2 => ?_⟩⟩⟩
    have s1 := Same.upd_new (o := .tup [.str n, .int s3.2.1]) n2
    obtain ⟨e, he, ek, ea⟩ := edAt_some (isState_key (hY.ok _ (stOf_in hs)) ha)
    exact sget_read (k := (n, s3.2.1)) (e := (e.1, e.2.key)) (hY.sto.same s1) upd_same (List.mem_map.mpr ⟨e, he, rfl⟩) ek (k e he ea _ s1)
theorem scMet : FnScope ["system", "need", "name", "least", "status", "version", "done"] ["system", "need"] (defScope sMet) := ⟨rfl, rfl, rfl, by decide +kernel, rfl, by decide +kernel, by decide +kernel⟩
theorem ok_met {f : Addr} {fd : FuncData} (F : Fun K "is_met" "is_met" sMet f fd) (Y : SyF P w K mg base C CT CY CN CU) : FnOk P w K mg base CX0 3 f fd ["system", "need"] (spMet K C CT CY) := by
  refine F.ok scMet (fun vs H Q E h => ?_) (fun cdv A outer s H vs Q E hr h => ?_)
  · obtain ⟨a, st, t, ss, es, q, rfl, _⟩ := h
    rfl
  · obtain ⟨a, st, t, ss, es, ⟨n, l⟩, rfl, hY, ht, k⟩ := h
    have nd := scMet.nd
    refine ⟨_, pss_cons (ps_asg (pv 1) (pg_tup rfl (pgs_cons (pg_name (i := 2) nd rfl (Or.inl rfl)) (pgs_cons (pg_name (i := 3) nd rfl (Or.inl rfl)) pgs_nil))))
      (pss_cons (ps_if (pt_cmpR (op_notIn_seq : OpR _ _ (rIn K true)) (pv 2) (pe_nam Y.nam hr (pe_ysto Y hr (pv 0))) (by rfl)) (pss_one (ps_ret pe_bl)) pss_nil)
      (pss_cons (ps_asg (pe_yget Y hr (pv 0) (pv 2)) (pg_tup rfl (pgs_cons (pg_name (i := 4) nd rfl (Or.inl rfl)) (pgs_cons (pg_name (i := 5) nd rfl (Or.inl rfl)) (pgs_cons (pg_name (i := 6) nd rfl (Or.inl rfl)) pgs_nil)))))
      (pss_one (ps_ret (pe_and (pe_cmpR op_eq (pv 4) pe_str (nomark _)) (pe_one (pe_cmpR op_ge (pv 5) (pv 3) (nomark _)))))))), ?_⟩
    refine ⟨_, rfl, t, _, rfl, ht, rfl, _, _, rfl, _, _, rfl, rfl, ?_⟩
    refine ⟨_, rfl, _, rfl, ysto_read hY.sys (nam_read hY.sto fun ns p hns np => ?_)⟩
    have s1 := Same.upd_new (o := .tup (ns.map V.str)) np
    refine ⟨p, _, rfl, .inr (.inl (.inl upd_same)), rfl, flat_strs _, _, rfl, ?_⟩
    have hns : ns = ss.map (·.1) := hns.uniq hY.nm
    subst hns
    rw [if_pos rfl, inV_str]
    unfold metB at k
    dsimp only at k
    cases c : stOf ss n with
    | none =>
      rw [c] at k
      rw [has_no (stOf_mem.mp c)]
      exact iteT (k _ s1)
    | some s3 =>
      rw [c] at k
      rw [has_iff.mpr (List.mem_map.mpr ⟨_, stOf_in c, rfl⟩)]
      refine iteF ?_
      refine ⟨_, rfl, _, rfl, yget_read (hY.same s1).sys c fun t2 ht2 => ⟨t2, _, rfl, ht2, rfl, _, _, rfl, _, _, rfl, _, _, rfl, rfl, ?_⟩⟩
      refine ⟨_, rfl, rfl, _, rfl, ?_⟩
      rw [dec_str]
      dsimp only at k
      cases c2 : decide (s3.1 = "ready") with
      | false =>
        rw [c2, Bool.false_and] at k
        exact iteF (k _ s1)
      | true =>
        rw [c2, Bool.true_and] at k
        refine iteT ?_
        exact ⟨_, rfl, _, rfl, _, _, rfl, rfl, k _ s1⟩
end
end Half

namespace Half
open PySem PySem.Spec PyProof.Rows L2
/-! ### a comprehension with a test -/
def AccP (H1 : Hp) (D : Addr) (f : Nat → List V) : Nat → Hp → Prop := fun i H => Same H1 H ∧ H D = some (.lst (f i))
theorem AccP.zero {H1 : Hp} {D : Addr} {f : Nat → List V} (hD : H1 D = none) (h : f 0 = []) : AccP H1 D f 0 (upd H1 D (.lst [])) := ⟨Same.upd_new hD, by rw [upd_same, h]⟩
theorem AccP.step {H1 H H4 : Hp} {D : Addr} {f : Nat → List V} {i : Nat} {y : V} (p : AccP H1 D f i H) (hD : H1 D = none) (hy : f (i + 1) = f i ++ [y]) (hl : (f i).length ≤ 1000) (e : Same H H4) :
    ∃ acc, H4 D = some (.lst acc) ∧ acc.length < sizeLine ∧ AccP H1 D f (i + 1) (upd H4 D (.lst (acc ++ [y]))) := by
  refine ⟨f i, e _ _ p.2, by rw [sizeLine_eq]; omega, fun b o q => ?_, by rw [upd_same, hy]⟩
  rw [upd_ne (ne_of_none q hD)]
  exact e _ _ (p.1 _ _ q)
theorem AccP.skip {H1 H H4 : Hp} {D : Addr} {f : Nat → List V} {i : Nat} (p : AccP H1 D f i H) (hy : f (i + 1) = f i) (e : Same H H4) : AccP H1 D f (i + 1) H4 :=
  ⟨p.1.trans e, by rw [hy]; exact e _ _ p.2⟩
/-- those of a list that are so, mapped -/
def filV {α : Type} (p : α → Bool) (g : α → V) (l : List α) (i : Nat) : List V := ((l.take i).filter p).map g
theorem filV_yes {α : Type} {p : α → Bool} {g : α → V} {l : List α} {i : Nat} {x : α} (h : l[i]? = some x) (c : p x = true) : filV p g l (i + 1) = filV p g l i ++ [g x] := by
  unfold filV
  rw [take_next h, List.filter_append, List.map_append]
  simp [c]
theorem filV_no {α : Type} {p : α → Bool} {g : α → V} {l : List α} {i : Nat} {x : α} (h : l[i]? = some x) (c : p x = false) : filV p g l (i + 1) = filV p g l i := by
  unfold filV
  rw [take_next h, List.filter_append, List.map_append]
  simp [c]
theorem filV_len {α : Type} (p : α → Bool) (g : α → V) (l : List α) (i : Nat) : (filV p g l i).length ≤ l.length := by
  unfold filV
  rw [List.length_map]
  refine Nat.le_trans (List.length_filter_le ..) ?_
  rw [List.length_take]
  omega
end Half

/-! sorted(t) of a tuple of texts -/
namespace L2
open PySem PySem.Spec PyProof.Rows PySem.Froz
section
variable {P : Program} {w : World} {A : Around} {E : Value → Shared → Prop} {s : Shared}
/-- the heap behind collect: a new list of these items -/
def listed (h : Heap) (xs : Array Value) : Heap := (h.push (seqObj "list" #[] 0)).update h.objs.size (Obj.mapSeq (· ++ xs))
theorem listed_keeps {h : Heap} {xs : Array Value} {b : Addr} {o : Obj} (e : h.get? b = some o) : (listed h xs).get? b = some o :=
  (Heap.get?_update_other _ _ (Nat.ne_of_gt (Heap.lt_size e))).trans (Heap.get?_push_of_some _ e)
theorem listed_size (h : Heap) (xs : Array Value) : (listed h xs).objs.size = h.objs.size + 1 := by
  unfold listed
  rw [Heap.size_update, Heap.size_push]
theorem collect_tup {t : Addr} {xs : Array Value} {Q : List Value → Shared → Prop} (ht : IsTup s.heap t xs) (few : xs.size ≤ sizeLine) (q : Q xs.toList { s with heap := listed s.heap xs }) : wpAny (model P w) A (collect (.ref t)) Q E s := by
  obtain ⟨o, g, c, n, d⟩ := ht
  have new : (s.heap.push (seqObj "list" #[] 0)).get? s.heap.objs.size = some (seqObj "list" #[] 0) := Heap.get?_push_size _ rfl
  have out : wpAny (model P w) A (do
      match (← load s.heap.objs.size).data with
      | .seq ys _ => pure ys.toList
      | _ => unsupported "internal:collect") Q E { s with heap := listed s.heap xs } := by
    refine wpAny_bind (wpAny_load (Heap.get?_update_self (Obj.mapSeq (· ++ xs)) new rfl) (wpAny_pure ?_))
    show Q (#[] ++ xs).toList _
    rw [Array.empty_append]
    exact q
  unfold collect
  refine wpAny_bind (wpAny_runValue (codeAny_builtin F.entry_proto_collect ?_))
  rw [Around.under_plainId F.plain_proto_collect]
  refine wpAny_bind (m := newList []) (wpAny_newObj_type (wpAny_pure ⟨plainId_quiet F.plain_list_iadd _, codeAny_builtin F.entry_list_iadd ?_⟩))
  rw [Around.under_plainId F.plain_list_iadd]
  refine wpAny_mono (wpAny_extend_seq (A := A) (hsz := few) (R := fun r z => r = .ok (.ret (.ref s.heap.objs.size)) ∧ z = { s with heap := listed s.heap xs }) _ t _ 0 (.inr rfl) new (Heap.get?_push_of_some _ g) c d ⟨rfl, rfl⟩) (fun fin z h => ?_) (fun e z h => ?_)
  · cases fin with
    | done r =>
      obtain ⟨h1, rfl⟩ := h
      cases h1
      exact out
    | again k =>
      refine ⟨h.1, codeAny_mono h.2 fun r z' h' => ?_⟩
      obtain ⟨rfl, rfl⟩ := h'
      exact out
  · exact absurd h.1 (by simp)
end
section
variable {X : Cx}
def rSortST (K : PySem.W.Frag) : List V → Hp → VK → Prop := fun vs H Q => ∃ (a : Addr) (xs : List Str), vs = [V.ref a] ∧ SqT K H a (xs.map V.str) ∧ xs.length < 64 ∧
  ∀ (ys : List Str) (p : Addr), ys.Perm xs → sortedS ys = true → H p = none → Q (.ref p) (upd H p (.lst (ys.map V.str)))
theorem cr_sortST : CallR X (.builtin "sorted") (rSortST X.K) := by
  intro pins s σ H vs us Q I r h
  obtain ⟨a, xs, rfl, hs, few, q⟩ := h
  obtain ⟨its, rv, tu, _⟩ := I.tuple hs
  rw [Vals.ref1 r]
  have p1 := rv.strs
  have vlen : its.length = xs.length := p1.length
  refine Calls.call_function_entry kind_sorted plain_sorted entry_sorted (args_sorted1 _) ?_
  unfold Builtin.«sorted»
  refine wpAny_bind (m := checkCount "sorted" 1 1 _) (wpAny_pure (wpAny_bind (collect_tup tu (by rw [sizeLine_eq]; simp; omega) ?_)))
  refine wpAny_bind (wpAny_newList ?_ (by rw [sizeLine_eq]; simp; omega))
  rw [show its.toArray.toList = its from rfl]
  have at_ : ((listed s.heap its.toArray).push (seqObj "list" its.toArray 0)).get? (listed s.heap its.toArray).objs.size = some (seqObj "list" its.toArray 0) := Heap.get?_push_size _ rfl
  refine wpAny_bind (wpAny_holding (wpAny_call_entry slot_list_sort ⟨_, at_, rfl⟩ entry_list_sort (list_sort_treeKAny strKind_oneLt at_ p1.keysOf (fun v1 v2 r e => keyKind_strs (e ▸ p1)) (by rw [vlen, sizeLine_eq]; omega) fun st' a1 a2 => ⟨_, rfl, wpAny_pure ⟨_, rfl, ?_⟩⟩) (args_list_sort _)))
  obtain ⟨ys, b1, b2, b3⟩ := sorted_out_str p1 a1 a2
  obtain ⟨c, hcn⟩ := sortedHeap_at (vs := its) (out := (arrOf st').map (·.2)) at_
  generalize (arrOf st').map (·.2) = out at b1 hcn ⊢
  have keep : ∀ b u, s.heap.get? b = some u → (sortedHeap ((listed s.heap its.toArray).push (seqObj "list" its.toArray 0)) (listed s.heap its.toArray).objs.size its out).get? b = some u := fun b u e => by
    have k := listed_keeps (xs := its.toArray) e
    have lt := Heap.lt_size k
    refine (sortedHeap_old (Nat.ne_of_lt lt) ?_).trans (Heap.get?_push_of_some _ k)
    rw [Heap.size_push]
    exact Nat.lt_succ_of_lt lt
  have big : s.heap.objs.size ≤ (listed s.heap its.toArray).objs.size := by rw [listed_size]; omega
  have room : (ys.map V.str).length ≤ sizeLine := by rw [List.length_map, b2.length_eq, sizeLine_eq]; omega
  exact ⟨.ref _, _, I.laid (t' := s.toks) (o := .lst (ys.map V.str)) keep big ⟨room, out.toList, c, vals_of_strs b1, hcn⟩, rfl, q ys _ b2 b3 (I.hok.fresh big)⟩
end
end L2

/-! set(l) of a list of ints: the shell stands in Kxa -/

namespace L2
open PySem PySem.Spec PyProof.Rows PySem.Froz
section
variable {X : Cx}
/-- set(l), l a list of ints -/
def rSetI (K : PySem.W.Frag) (w : World) : List V → Hp → VK → Prop := fun vs H Q => ∃ (p : Addr) (ns : List Int), vs = [.ref p] ∧ SqL K H p (ns.map V.int) ∧ ns.length < 64 ∧
  ∀ (a : Addr) (n : Nat), n ≤ ns.length → H a = none → Q (.ref a) (upd H a (SetO w a (fun j => decide (j ∈ ns)) n))
theorem cr_setI (hc : X.calm = true) : CallR X (.type "set") (rSetI X.K X.w) := by
  intro pins s σ H vs us Q I r h
  obtain ⟨p, ns, rfl, hs, few, q⟩ := h
  obtain ⟨its, rv, hl, _⟩ := I.list hs
  rw [Vals.ref1 r]
  have hi := rv.ints
  have hlen : its.length = ns.length := hi.length
  have li := hl.isList
  have lt : p < s.heap.objs.size := by obtain ⟨o, g, _⟩ := li; exact Heap.lt_size g
  refine set_made (fun h' => ∃ n, n ≤ ns.length ∧ SetR X.w h' s.heap.objs.size (fun j => decide (j ∈ ns)) n) li (I.ok.hd hc) (fun B hB => ?_) (fun h' tk gd keep => ?_)
  · have ne : p ≠ s.heap.objs.size + 1 := Nat.ne_of_lt (Nat.lt_succ_of_lt lt)
    have out : s.heap.objs.size ∉ [s.heap.objs.size + 1, p] := by
      intro z
      simp only [List.mem_cons, List.not_mem_nil, or_false] at z
      rcases z with z | z
      · exact Nat.ne_of_lt (Nat.lt_succ_self _) z
      · exact Nat.ne_of_gt lt z
    have li2 : ((s.heap.push (bareSet X.w)).push { cls := .type "list_iterator", data := .fields #[.ref p, .int 0 0] }).IsList p its.toArray := (li.push _).push _
    have it2 : ((s.heap.push (bareSet X.w)).push { cls := .type "list_iterator", data := .fields #[.ref p, .int 0 0] }).get? (s.heap.objs.size + 1) = some { cls := .type "list_iterator", data := .fields #[.ref p, .int 0 0] } := by
      have e := Heap.get?_push_size (s.heap.push (bareSet X.w)) (o := { cls := .type "list_iterator", data := .fields #[.ref p, .int 0 0] }) rfl
      rwa [Heap.size_push] at e
    have se : ((s.heap.push (bareSet X.w)).push { cls := .type "list_iterator", data := .fields #[.ref p, .int 0 0] }).get? s.heap.objs.size = some (bareSet X.w) := Heap.get?_push_of_some _ (Heap.get?_push_size _ rfl)
    refine set_update_ints (A := B) (Walks.list (by simp [hB]) (s.heap.objs.size + 1) p ne its.toArray).toS s.heap.objs.size out ns (by simp [hlen]) (by unfold scanBound; omega) (fun i v hv => ?_) _ 0 _ rfl (Nat.zero_le _) ⟨⟨_, it2, rfl, rfl⟩, li2⟩ ⟨0, Nat.le_refl _, setR_new_at se⟩ (fun z n mv hn R => ?_)
    · have hv' : its[i]? = some v := by simpa using hv
      have lt' : i < ns.length := by rw [← hlen]; exact (List.getElem?_eq_some_iff.mp hv').1
      obtain ⟨t, e⟩ := PyProof.Rows.IntsAre.int_at hi i v hv'
      refine ⟨ns[i], t, List.getElem?_eq_getElem lt', ?_⟩
      rw [e, List.getD_eq_getElem?_getD, List.getElem?_eq_getElem lt']
      rfl
    · obtain ⟨zh, zg, zd, zt, zo⟩ := z
      obtain rfl : zg = s.gens := mv.gens
      obtain rfl : zd = s.drawn := mv.drawn
      obtain rfl : zo = s.os := mv.os
      refine ⟨rfl, zh, zt, rfl, ⟨n, by simpa [hlen] using hn, R⟩, fun b o e => ?_⟩
      have lb := Heap.lt_size e
      refine mv.heap b o (fun z => ?_) (Heap.get?_push_of_some _ (Heap.get?_push_of_some _ e))
      simp only [List.mem_cons, List.not_mem_nil, or_false] at z
      rcases z with z | z
      · exact Nat.ne_of_lt lb z
      · exact Nat.ne_of_lt (Nat.lt_succ_of_lt lb) z
  · obtain ⟨n, hn, R⟩ := gd
    exact ⟨.ref _, _, I.laid (t' := tk) keep (Nat.le_refl _) (setO_new R), rfl, q _ n hn (I.hok.fresh (Nat.le_refl _))⟩
end
end L2

namespace Half
open PySem PySem.Spec PyProof.Rows L2
/-! ### draws: all but the row stays -/
structure Dr (r a : Addr) (H H' : Hp) : Prop where
  sb : SameBut r H H'
  at_ : ∃ i g l : Int, 0 ≤ i ∧ H' r = some (.lst [.ref a, .int i, .int g, .int l])
section
variable {K : PySem.W.Frag} {r a : Addr} {H H' H'' : Hp}
theorem Row.dr (h : Row K H r a) : Dr r a H H := by
  obtain ⟨ns, i, g, l, h1, h2, h3, h4⟩ := h
  exact ⟨fun _ _ _ q => q, i, g, l, h4, h1⟩
theorem Dr.row (h : Row K H r a) (d : Dr r a H H') : Row K H' r a := by
  obtain ⟨ns, i, g, l, h1, h2, h3, h4⟩ := h
  obtain ⟨i', g', l', e1, e2⟩ := d.at_
  refine ⟨ns, i', g', l', e2, ?_, h3, e1⟩
  have z : HO.lst (ns.map V.int) ≠ HO.lst [.ref a, .int i, .int g, .int l] := fun z => by
    have z' : ns.map V.int = [.ref a, .int i, .int g, .int l] := by injection z
    cases ns with
    | nil => cases z'
    | cons n ns => cases z'
  rcases h2 with (q | ⟨o, q⟩) | q
  · exact .inl (.inl (d.sb _ _ (ne_of q h1 z) q))
  · exact .inl (.inr ⟨o, d.sb _ _ (ne_of q h1 (by intro z; cases z)) q⟩)
  · exact .inr q
theorem Row.same' (S : Row K H r a) (e : Same H H') : Row K H' r a := Dr.row S (by
  obtain ⟨ns, i, g, l, h1, _, _, h4⟩ := S
  exact ⟨fun b o _ q => e _ _ q, i, g, l, h4, e _ _ h1⟩)
theorem Dr.same (d : Dr r a H H') (S : Same H' H'') : Dr r a H H'' := by
  obtain ⟨i, g, l, e1, e2⟩ := d.at_
  exact ⟨fun b o n q => S _ _ (d.sb b o n q), i, g, l, e1, S _ _ e2⟩
theorem Row.of (h : Row K H r a) (S : Same H H') : Dr r a H H' := h.dr.same S
theorem Dr.trans (d : Dr r a H H') (e : Dr r a H' H'') : Dr r a H H'' := ⟨fun b o n q => e.sb b o n (d.sb b o n q), e.at_⟩
theorem Dr.draw {o : HO} (h : Row K (upd H r o) r a) : Dr r a H (upd H r o) := by
  obtain ⟨ns, i, g, l, h1, h2, h3, h4⟩ := h
  exact ⟨fun b u n q => by rw [upd_ne n]; exact q, i, g, l, h4, h1⟩
/-- what is new ahead of the draws may be written -/
theorem Dr.put {D : Addr} {o : HO} (d : Dr r a H H') (hD : H D = none) (ne : D ≠ r) : Dr r a H (upd H' D o) := by
  obtain ⟨i, g, l, e1, e2⟩ := d.at_
  exact ⟨fun b u n q => by rw [upd_ne (ne_of_none q hD)]; exact d.sb b u n q, i, g, l, e1, by rw [upd_ne (Ne.symm ne)]; exact e2⟩
theorem Row.at_ (h : Row K H r a) : ∃ xs, H r = some (.lst xs) := by
  obtain ⟨ns, i, g, l, h1, _⟩ := h
  exact ⟨_, h1⟩
theorem Row.ne {D : Addr} (h : Row K H r a) (hD : H D = none) : D ≠ r := fun z => by
  obtain ⟨ys, hr⟩ := h.at_
  rw [z, hr] at hD
  cases hD
theorem Dr.kp (h : Row K H r a) (d : Dr r a H H') : Kp K H H' := fun b xs q => by
  obtain ⟨ys, hr⟩ := h.at_
  rcases q with (q | ⟨o, q⟩) | q
  · exact .inl (.inl (d.sb _ _ (ne_of q hr (by intro z; cases z)) q))
  · exact .inl (.inr ⟨o, d.sb _ _ (ne_of q hr (by intro z; cases z)) q⟩)
  · exact .inr q
end
/-! ### [x for x in xs if taken(row, m) == 0] and [(x, 1 + taken(row, k)) for ..] -/
abbrev LcW (J : It) (g : TG) (tt : TT) (te : TE) (vs : List Nat) (σ : L2.St) (H1 : Hp) (D : Addr) (Qd : Hp → Prop) : Prop := ∃ W : Nat → Nat → Hp → Prop, (∃ m, W 0 m (upd H1 D (.lst []))) ∧ ∀ i m H, W i m H →
      (J.stop i H ∧ Qd H) ∨ (J.go i H ∧ ∃ Nx : Hp → Prop, (∀ H', Nx H' → ∃ m', m' < m ∧ W (i + 1) m' H') ∧ ∀ x H', J.yld i H x H' → g x (wipe σ vs) H' fun σ2 H2 => wipe σ2 vs = wipe σ vs ∧ tt σ2 H2 fun b H3 =>
        if b = true then te σ2 H3 fun y H4 => ∃ acc, H4 D = some (.lst acc) ∧ acc.length < sizeLine ∧ Nx (upd H4 D (.lst (acc ++ [y]))) else Nx H3)
/-- the test of a draw -/
abbrev tDrawn (K : PySem.W.Frag) (ir : Nat) (m : Int) : TT := tTest (tOp rEq (tCall (spTaken K) [] E0 (tCons (tVar ir) (tCons (tC (.int m)) tNil))) (tC (.int 0)))
theorem taken_read {K : PySem.W.Frag} {r a : Addr} {m : Int} {H : Hp} {Q : VK} {E : XK} (h : Row K H r a) (h0 : 0 < m) (h1 : m < 1073741824) (k : ∀ v H', 0 ≤ v → v < m → Dr r a H H' → Q (.int v) H') : spTaken K [.ref r, .int m] H Q E :=
  ⟨r, m, a, rfl, h, h0, h1, fun v o v0 v1 R => k v _ v0 v1 (Dr.draw R)⟩
theorem drawn_read {K : PySem.W.Frag} {r a : Addr} {ir : Nat} {m : Int} {σ : L2.St} {H : Hp} {Q : Bool → Hp → Prop} (hs : σ[ir]? = some (some (.ref r))) (h : Row K H r a) (h0 : 0 < m) (h1 : m < 1073741824) (k : ∀ b H', Dr r a H H' → Q b H') : tDrawn K ir m σ H Q := by
  exact ⟨_, hs, r, m, a, rfl, h, h0, h1, fun v o _ _ R => ⟨rfl, _, rfl, k _ _ (Dr.draw R)⟩⟩
theorem sub_snoc {α : Type} {zs xs : List α} {i : Nat} {x : α} (h : zs.Sublist (xs.take i)) (hx : xs[i]? = some x) : (zs ++ [x]).Sublist (xs.take (i + 1)) := by
  rw [take_next hx]
  exact h.append (List.Sublist.refl _)
theorem sub_skip {α : Type} {zs xs : List α} {i : Nat} {x : α} (h : zs.Sublist (xs.take i)) (hx : xs[i]? = some x) : zs.Sublist (xs.take (i + 1)) := by
  rw [take_next hx]
  exact h.trans (List.sublist_append_left _ _)
theorem sub_len {α : Type} {zs xs : List α} {i : Nat} (h : zs.Sublist (xs.take i)) : zs.length ≤ xs.length := by
  have := h.length_le
  rw [List.length_take] at this
  omega
/-- the slots of a comprehension with one variable -/
structure Slot1 (σ : L2.St) (ir iv : Nat) (r : Addr) : Prop where
  row : ∀ x, ((wipe σ [iv]).set iv (some x))[ir]? = some (some (.ref r))
  var : ∀ x, ((wipe σ [iv]).set iv (some x))[iv]? = some (some x)
  wip : ∀ x, wipe ((wipe σ [iv]).set iv (some x)) [iv] = wipe σ [iv]
section
variable {K : PySem.W.Frag} {r a D : Addr} {ir iv : Nat} {m m2 : Int} {xs : List Str} {σ : L2.St} {H : Hp} {Qd : Hp → Prop} {J : It} {G : Hp → Prop}
theorem draw_names (wk : Walk J xs.length G (YAt (xs.map V.str))) (hG : ∀ H', Dr r a H H' → G H') (hR : Row K H r a) (few : xs.length ≤ 40) (h0 : 0 < m) (h1 : m < 1073741824) (S : Slot1 σ ir iv r) (hD : H D = none)
    (k : ∀ H' (zs : List Str), Dr r a H H' → H' D = some (.lst (zs.map V.str)) → zs.Sublist xs → Qd H') : LcW J (gName iv) (tDrawn K ir m) (tVar iv) [iv] σ H D Qd := by
  have ne := hR.ne hD
  refine lc_it wk (fun i H' => Dr r a H H' ∧ ∃ zs : List Str, H' D = some (.lst (zs.map V.str)) ∧ zs.Sublist (xs.take i)) ⟨hR.dr.put hD ne, [], upd_same, by simp⟩ (fun i H' _ p => hG H' p.1) ?_ ?_
  · rintro i x H1 H2 hi ⟨d, zs, hz, hs⟩ ⟨rfl, hx⟩
    obtain ⟨n, hn, rfl⟩ := getE hx
    refine ⟨S.wip _, drawn_read (S.row _) (d.row hR) h0 h1 fun b H3 d3 => ?_⟩
    have hz3 := d3.sb _ _ ne hz
    cases b with
    | false => exact iteF ⟨d.trans d3, zs, hz3, sub_skip hs hn⟩
    | true =>
      refine iteT ⟨_, S.var _, _, hz3, ?_, ?_, zs ++ [n], ?_, sub_snoc hs hn⟩
      · rw [List.length_map, sizeLine_eq]
        have := sub_len hs
        omega
      · exact (d.trans d3).put hD ne
      · rw [upd_same, List.map_append]
        rfl
  · rintro H2 ⟨d, zs, hz, hs⟩
    rw [List.take_length] at hs
    exact k H2 zs d hz hs
/-- pairs at the addresses ts -/
def PairsAt (K : PySem.W.Frag) (H : Hp) (ts : List Addr) (ps : List (Str × Int)) : Prop := ts.length = ps.length ∧ ∀ (i : Nat) t p, ts[i]? = some t → ps[i]? = some p → SqT K H t [.str p.1, .int p.2]
theorem PairsAt.kp {H' : Hp} {ts : List Addr} {ps : List (Str × Int)} (k : Kp K H H') (h : PairsAt K H ts ps) : PairsAt K H' ts ps := ⟨h.1, fun i t p a b => k _ _ (h.2 i t p a b)⟩
theorem PairsAt.snoc {ts : List Addr} {ps : List (Str × Int)} {t : Addr} {p : Str × Int} (h : PairsAt K H ts ps) (ht : SqT K H t [.str p.1, .int p.2]) : PairsAt K H (ts ++ [t]) (ps ++ [p]) := by
  refine ⟨by rw [List.length_append, List.length_append, h.1]; rfl, fun i t' p' a b => ?_⟩
  rcases Nat.lt_or_ge i ts.length with c | c
  · rw [List.getElem?_append_left c] at a
    rw [List.getElem?_append_left (by rw [← h.1]; exact c)] at b
    exact h.2 i t' p' a b
  · rw [List.getElem?_append_right c] at a
    rw [List.getElem?_append_right (by rw [← h.1]; exact c)] at b
    have e : i = ts.length := by
      rcases Nat.lt_or_ge ts.length i with z | z
      · rw [List.getElem?_eq_none (by show 1 ≤ _; omega)] at a
        cases a
      · omega
    subst e
    rw [Nat.sub_self] at a
    rw [h.1, Nat.sub_self] at b
    cases a
    cases b
    exact ht
theorem draw_pairs (wk : Walk J xs.length G (YAt (xs.map V.str))) (hG : ∀ H', Dr r a H H' → G H') (hR : Row K H r a) (few : xs.length ≤ 40) (h0 : 0 < m) (h1 : m < 1073741824) (h2 : 0 < m2) (h3 : m2 < 1073741824) (S : Slot1 σ ir iv r) (hD : H D = none)
    (k : ∀ H' ts ps, Dr r a H H' → H' D = some (.lst (ts.map V.ref)) → PairsAt K H' ts ps → (ps.map (·.1)).Sublist xs → (∀ p ∈ ps, 1 ≤ p.2 ∧ p.2 ≤ m2) → Qd H') :
    LcW J (gName iv) (tDrawn K ir m) (tTup (tCons (tVar iv) (tCons (tOp (rI0 fun i j => .int (i + j)) (tC (.int 1)) (tCall (spTaken K) [] E0 (tCons (tVar ir) (tCons (tC (.int m2)) tNil)))) tNil))) [iv] σ H D Qd := by
  have ne := hR.ne hD
  refine lc_it wk (fun i H' => Dr r a H H' ∧ ∃ ts ps, H' D = some (.lst (ts.map V.ref)) ∧ PairsAt K H' ts ps ∧ (ps.map (·.1)).Sublist (xs.take i) ∧ ∀ p ∈ ps, 1 ≤ p.2 ∧ p.2 ≤ m2) ⟨hR.dr.put hD ne, [], [], upd_same, ⟨rfl, fun i t p a => by simp at a⟩, by simp, fun p hp => by cases hp⟩ (fun i H' _ p => hG H' p.1) ?_ ?_
  · rintro i x H1 H2 hi ⟨d, ts, ps, hz, hp, hs, hb⟩ ⟨rfl, hx⟩
    obtain ⟨n, hn, rfl⟩ := getE hx
    have R1 := d.row hR
    refine ⟨S.wip _, drawn_read (S.row _) R1 h0 h1 fun b H3 d3 => ?_⟩
    have hz3 := d3.sb _ _ ne hz
    have hp3 := hp.kp (d3.kp R1)
    have R3 := d3.row R1
    cases b with
    | false => exact iteF ⟨d.trans d3, ts, ps, hz3, hp3, sub_skip hs hn, hb⟩
    | true =>
      refine iteT ⟨_, S.var _, _, S.row _, r, m2, a, rfl, R3, h2, h3, fun v o v0 v1 R4 => ⟨_, _, rfl, rfl, two_le, fun t nt => ?_⟩⟩
      have d4 := Dr.draw R4
      generalize upd H3 r o = H4 at d4 nt ⊢
      have s5 := Same.upd_new (o := .tup [.str n, .int (1 + v)]) nt
      have hz5 := s5 _ _ (d4.sb _ _ ne hz3)
      have d5 := ((d.trans d3).trans d4).same s5
      have hp5 := (hp3.kp (d4.kp R3)).kp s5.kp
      have kpD : ∀ o, Kp K (upd H4 t (.tup [.str n, .int (1 + v)])) (upd (upd H4 t (.tup [.str n, .int (1 + v)])) D o) := fun o => Kp.upd hz5 (fun xs z => by cases z) (fun q xs z => by cases z)
      refine ⟨_, hz5, ?_, d5.put hD ne, ts ++ [t], ps ++ [(n, 1 + v)], ?_, ?_, ?_, ?_⟩
      · rw [List.length_map, hp.1, sizeLine_eq]
        have := sub_len hs
        rw [List.length_map] at this
        omega
      · rw [upd_same, List.map_append]
        rfl
      · exact (hp5.kp (kpD _)).snoc (kpD _ _ _ (.inl (.inl upd_same)))
      · rw [List.map_append]
        exact sub_snoc hs hn
      · intro p hp
        rcases List.mem_append.mp hp with q | q
        · exact hb p q
        · rw [List.mem_singleton.mp q]
          exact ⟨by show 1 ≤ 1 + v; omega, by show 1 + v ≤ m2; omega⟩
  · rintro H2 ⟨d, ts, ps, hz, hp, hs, hb⟩
    rw [List.take_length] at hs
    exact k H2 ts ps d hz hp hs hb
end
end Half

namespace Half
open PySem PySem.Spec PyProof.Rows L2
theorem walk_strs {K : PySem.W.Frag} {p : Addr} {xs : List Str} : Walk (Itl K p) xs.length (fun H => SqL K H p (xs.map V.str)) (YAt (xs.map V.str)) := by
  have w := walk_list (K := K) (a := p) (xs := xs.map V.str)
  rwa [List.length_map] at w
theorem Dr.lst {r a p : Addr} {H H' : Hp} {xs : List V} (d : Dr r a H H') (ne : p ≠ r) (h : H p = some (.lst xs)) : H' p = some (.lst xs) := d.sb _ _ ne h
structure TxtJ (mg : Str → Option Value) : Prop where
  srt : mg "sorted" = none
  tup : mg "tuple" = none
  set : mg "set" = none
  ran : mg "range" = none
  dic : mg "dict" = none
  len : mg "len" = none
def nth (l : List Stmt) (i : Nat) : Stmt := l.getD i (.Pass ⟨0, 0, 0, 0⟩)
def forBody (s : Stmt) : List Stmt := match s with
  | .For (body := b) .. => b
  | _ => []
theorem NeedsAt.kp {K : PySem.W.Frag} {H H' : Hp} {a : Addr} {ps : List (Str × Int)} (k : Kp K H H') (h : NeedsAt K H a ps) : NeedsAt K H' a ps := by
  obtain ⟨ts, h1, h2, h3⟩ := h
  exact ⟨ts, k _ _ h1, h2, fun i t p q r => k _ _ (h3 i t p q r)⟩
theorem EdAt.kp {K : PySem.W.Frag} {H H' : Hp} {e : Ed} {s n f g : Addr} (k : Kp K H H') (h : EdAt K H e s n f g) : EdAt K H' e s n f g := ⟨k _ _ h.scripts, h.needs.kp k, h.first.kp k, k _ _ h.against⟩
/-- draws, and the list at l may be written -/
structure DrW (r a l : Addr) (H H' : Hp) : Prop where
  sb : ∀ b o, b ≠ r → b ≠ l → H b = some o → H' b = some o
  at_ : ∃ i g z : Int, 0 ≤ i ∧ H' r = some (.lst [.ref a, .int i, .int g, .int z])
section
variable {K : PySem.W.Frag} {r a l : Addr} {H H' H'' : Hp} {ls : Es}
theorem Dr.w (d : Dr r a H H') : DrW r a l H H' := ⟨fun b o n _ q => d.sb b o n q, d.at_⟩
theorem DrW.trans (d : DrW r a l H H') (e : DrW r a l H' H'') : DrW r a l H H'' := ⟨fun b o n m q => e.sb b o n m (d.sb b o n m q), e.at_⟩
theorem DrW.row {xs : List V} (h : Row K H r a) (hl : H l = some (.lst xs)) (na : a ≠ l ∨ ∃ ns : List Int, ns.length ≤ 63 ∧ ∀ H', SqL K H' a (ns.map V.int)) (d : DrW r a l H H') : Row K H' r a := by
  obtain ⟨ns, i, g, z, h1, h2, h3, h4⟩ := h
  obtain ⟨i', g', z', e1, e2⟩ := d.at_
  have zz : HO.lst (ns.map V.int) ≠ HO.lst [.ref a, .int i, .int g, .int z] := fun y => by
    have y' : ns.map V.int = [.ref a, .int i, .int g, .int z] := by injection y
    cases ns with
    | nil => cases y'
    | cons n ns => cases y'
  rcases na with na | ⟨ms, m1, m2⟩
  · refine ⟨ns, i', g', z', e2, ?_, h3, e1⟩
    rcases h2 with (q | ⟨o, q⟩) | q
    · exact .inl (.inl (d.sb _ _ (ne_of q h1 zz) na q))
    · exact .inl (.inr ⟨o, d.sb _ _ (ne_of q h1 (by intro z; cases z)) na q⟩)
    · exact .inr q
  · exact ⟨ms, i', g', z', e2, m2 _, m1, e1⟩
theorem DrW.kp {xs : List V} (h : Row K H r a) (hl : H l = some (.lst xs)) (d : DrW r a l H H') : Kp K H H' := fun b ys q => by
  obtain ⟨zs, hr⟩ := h.at_
  rcases q with (q | ⟨o, q⟩) | q
  · exact .inl (.inl (d.sb _ _ (ne_of q hr (by intro z; cases z)) (ne_of q hl (by intro z; cases z)) q))
  · exact .inl (.inr ⟨o, d.sb _ _ (ne_of q hr (by intro z; cases z)) (ne_of q hl (by intro z; cases z)) q⟩)
  · exact .inr q
end
/-- the drawn parts of an edition of a package with these others -/
structure GoodE (nm : Str) (ver : Int) (os : List Str) (e : Edn) : Prop where
  name : e.name = nm
  ver : e.ver = ver
  scr : e.scr.Sublist SCR
  nee : (e.nee.map (·.1)).Sublist os
  neeV : ∀ p ∈ e.nee, 1 ≤ p.2 ∧ p.2 ≤ 3
  fir : (e.fir.map (·.1)).Sublist os
  firV : ∀ p ∈ e.fir, 1 ≤ p.2 ∧ p.2 ≤ 3
  aga : e.aga.Sublist os
/-- the editions of one name, one for each version -/
def GoodB (nm : Str) (os : List Str) (vs : List Int) (es : Es) : Prop := es.length = vs.length ∧ ∀ (j : Nat) (e : Addr × Edn) (v : Int), es[j]? = some e → vs[j]? = some v → GoodE nm v os e.2
theorem GoodB.snoc {nm : Str} {os : List Str} {vs : List Int} {i : Nat} {es : Es} {t : Addr} {e : Edn} {v : Int} (h : GoodB nm os (vs.take i) es) (hv : vs[i]? = some v) (g : GoodE nm v os e) : GoodB nm os (vs.take (i + 1)) (es ++ [(t, e)]) := by
  rw [take_next hv]
  refine ⟨by rw [List.length_append, List.length_append, h.1]; rfl, fun j x u a b => ?_⟩
  rcases Nat.lt_or_ge j es.length with c | c
  · rw [List.getElem?_append_left c] at a
    rw [List.getElem?_append_left (by rw [← h.1]; exact c)] at b
    exact h.2 j x u a b
  · rw [List.getElem?_append_right c] at a
    rw [List.getElem?_append_right (by rw [← h.1]; exact c)] at b
    have e' : j = es.length := by
      rcases Nat.lt_or_ge es.length j with z | z
      · rw [List.getElem?_eq_none (by show 1 ≤ _; omega)] at a
        cases a
      · omega
    subst e'
    rw [Nat.sub_self] at a
    rw [h.1, Nat.sub_self] at b
    cases a
    cases b
    exact g
abbrev Al (K : PySem.W.Frag) (a l : Addr) : Prop := a ≠ l ∨ ∃ ns : List Int, ns.length ≤ 63 ∧ ∀ H', SqL K H' a (ns.map V.int)
def StD (K : PySem.W.Frag) (H : Hp) (d : Addr) (ss : List (Str × St3)) : Prop := ∃ kvs, Rd H d (.dK kvs) ∧ SL K H kvs ss
theorem StD.same {K : PySem.W.Frag} {H H' : Hp} {d : Addr} {ss : List (Str × St3)} (S : Same H H') (h : StD K H d ss) : StD K H' d ss := by
  obtain ⟨kvs, h1, h2⟩ := h
  refine ⟨kvs, ?_, h2.same S⟩
  rcases h1 with h1 | ⟨o, h1⟩
  · exact .inl (S _ _ h1)
  · exact .inr ⟨o, S _ _ h1⟩
def STS : List Str := ["absent", "failed", "half", "left", "ready", "unpacked", "ready"]
theorem inR_self (v : Int) : inR (.int v) v v = true := by
  show (decide (v ≤ v) && decide (v ≤ v)) = true
  simp
theorem state_ok {ks : List Kk} {n st : Str} {v dn : Int} (hv : (n, v) ∈ ks) (hst : st ∈ STS) (ha : st ≠ "absent") (hd : dn = 0 ∨ (n, dn) ∈ ks) : isState ks n (st, v, if decide (st = "ready") = true then v else dn) = true := by
  have e1 : decide (st = "absent") = false := decide_eq_false ha
  have e2 : (!has THR st && !decide (st = "left")) = false := by
    unfold STS at hst
    simp only [List.mem_cons, List.not_mem_nil, or_false] at hst
    rcases hst with rfl | rfl | rfl | rfl | rfl | rfl | rfl
    · exact absurd rfl ha
    all_goals decide +kernel
  unfold isState
  dsimp only
  rw [e1, if_neg (by decide), e2, has_iff.mpr hv]
  rw [if_neg (by decide)]
  cases c : decide (st = "ready") with
  | true =>
    rw [if_pos rfl, if_pos rfl]
    exact inR_self v
  | false =>
    rw [if_neg (by decide), if_neg (by decide)]
    rcases hd with rfl | q
    · rfl
    · rw [has_iff.mpr q, Bool.or_true]
def StsOk (ks : List Kk) (ss : List (Str × St3)) : Prop := IsNm ks (ss.map (·.1)) ∧ ∀ p ∈ ss, isState ks p.1 p.2 = true ∧ p.2.1 ∈ STS
theorem Dr.none {K : PySem.W.Frag} {r a D : Addr} {H H' : Hp} (d : Dr r a H H') (hR : Row K H r a) (h : H' D = none) : H D = none := by
  cases c : H D with
  | none => rfl
  | some o =>
    by_cases z : D = r
    · obtain ⟨i, g, l, _, e⟩ := d.at_
      rw [z, e] at h
      cases h
    · rw [d.sb _ _ z c] at h
      cases h
theorem keys_eds (y : Es) : keysOf y.eds = (y.map (·.2)).map Edn.key := by
  show (y.map fun e => (e.1, e.2.key)).map (·.2) = _
  rw [List.map_map, List.map_map]
  rfl
structure MkSt (P : Program) (w : World) (K : PySem.W.Frag) (mg : Str → Option Value) (base : Heap) (C CT CI : Addr) : Prop where
  ex : ∃ f fd, Mk K CT f ∧ FnOk P w K mg base (L2.CX P w) 4 f fd ["self", "editions"] (spSi K C CT CI) ∧ Binds K fd ["self", "editions"] []
  mgS : mg "Store" = some (.ref CT)
theorem store_read {K : PySem.W.Frag} {C CT CI : Addr} {H : Hp} {x dx t : Addr} {es : Eds} {Q : Hp → Prop} {E : XK} (nx : H x = none) (ndx : H dx = none) (hE : EdsAt K C H t es) (few : es.length ≤ 40) (hw : wrongAt (keysOf es) = none) (k : ∀ H', Same H H' → StObj CT H' x es → Q H') :
    spSi K C CT CI [.ref x, .ref t] (upd (upd H dx (.own x)) x (.ins CT dx [])) (fun v H3 => v = .non ∧ Q H3) E := by
  have S : Same H (upd (upd H dx (.own x)) x (.ins CT dx [])) := fun b o q => by
    rw [upd_ne (ne_of_none q nx), upd_ne (ne_of_none q ndx), q]
  refine ⟨x, t, dx, es, rfl, upd_same, hE.same S, few, fun _ H' sb ho => ⟨rfl, k H' (fun b o q => sb b o (ne_of_none q nx) (S b o q)) ho⟩, fun i hi => ?_⟩
  rw [hw] at hi
  cases hi
theorem EdX.put {K : PySem.W.Frag} {H : Hp} {C a fo : Addr} {e : Edn} {xs : List V} {o : HO} (hf : H fo = some (.lst xs)) (h : EdX K H C a e) : EdX K (upd H fo o) C a e := by
  obtain ⟨s, n, f, g, ⟨dx, p, h1, h2⟩, h3⟩ := h
  have kp : Kp K H (upd H fo o) := Kp.upd hf (fun xs z => by cases z) (fun q xs z => by cases z)
  exact ⟨s, n, f, g, ⟨dx, p, by rw [upd_ne (ne_of h1 hf (by intro z; cases z))]; exact h1, by rw [upd_ne (ne_of h2 hf (by intro z; cases z))]; exact h2⟩, h3.kp kp⟩
theorem EdX.key {K : PySem.W.Frag} {H : Hp} {C a : Addr} {e : Edn} (h : EdX K H C a e) : EdK C H a e.key := by
  obtain ⟨s, n, f, g, ⟨dx, p, h1, h2⟩, _⟩ := h
  exact ⟨dx, p, _, h1, h2⟩
theorem asc_of {l : List Str} (h : l.Pairwise fun a b => strLt a b = true) : ascS l = true := by
  unfold ascS
  refine List.all_eq_true.mpr fun i hi => ?_
  have hi : i < l.length - 1 := List.mem_range.mp hi
  have h1 : i < l.length := by omega
  have h2 : i + 1 < l.length := by omega
  have e1 : l.getD i "" = l[i] := by rw [List.getD_eq_getElem?_getD, List.getElem?_eq_getElem h1]; rfl
  have e2 : l.getD (i + 1) "" = l[i + 1] := by rw [List.getD_eq_getElem?_getD, List.getElem?_eq_getElem h2]; rfl
  rw [e1, e2]
  exact List.pairwise_iff_getElem.mp h i (i + 1) h1 h2 (by omega)
theorem scr_asc : SCR.Pairwise fun a b => strLt a b = true := by decide +kernel
theorem scripts_ok {l : List Str} (h : l.Sublist SCR) : areScripts l = true := by
  unfold areScripts
  rw [asc_of (scr_asc.sublist h), Bool.and_true]
  refine List.all_eq_true.mpr fun z hz => ?_
  rw [inV_str]
  exact has_iff.mpr (h.subset hz)
theorem nodup_take {α : Type} {l : List α} {i : Nat} {x : α} (h : l.Nodup) (hx : l[i]? = some x) : x ∉ l.take i := fun z => by
  have hi := (List.getElem?_eq_some_iff.mp hx).1
  rw [← List.take_append_drop i l] at h
  refine (List.nodup_append.mp h).2.2 x z x ?_ rfl
  rw [List.drop_eq_getElem_cons hi, (List.getElem?_eq_some_iff.mp hx).2]
  exact List.mem_cons_self
theorem pLt_ne {a b : Kk} (h : pLt a b = true) : a ≠ b := fun z => by
  rw [z] at h
  rcases pLt_iff.mp h with q | ⟨_, q⟩
  · have := tx_irr b.1
    rw [q] at this
    cases this
  · omega
/-! ### of states and systems, as in k03 -/
theorem keys_same {ls es : Es} (h : es.map (·.2) = ls.map (·.2)) : keysOf es.eds = keysOf ls.eds := by rw [keys_eds, keys_eds, h]
theorem stOf_of : ∀ {ss : List (Str × St3)} {p : Str × St3}, (ss.map (·.1)).Nodup → p ∈ ss → stOf ss p.1 = some p.2
  | (m, s) :: ss, p, h, hp => by
    obtain ⟨h1, h2⟩ := List.nodup_cons.mp (show (m :: ss.map (·.1)).Nodup from h)
    rw [stOf_cons]
    rcases List.mem_cons.mp hp with rfl | q
    · rw [if_pos rfl]
    · rw [if_neg (fun z => h1 (by rw [z]; exact List.mem_map.mpr ⟨p, q, rfl⟩))]
      exact stOf_of h2 q
theorem allOf_self {ss : List (Str × St3)} (h : (ss.map (·.1)).Nodup) : allOf (ss.map (·.1)) ss = ss := by
  unfold allOf
  rw [List.map_map]
  have : ∀ p ∈ ss, ((fun n => (n, (stOf ss n).getD AB)) ∘ fun p : Str × St3 => p.1) p = id p := fun p hp => by
    have e : stOf ss p.1 = some p.2 := stOf_of h hp
    show (p.1, (stOf ss p.1).getD AB) = p
    rw [e]
    rfl
  rw [List.map_congr_left this, List.map_id]
theorem sts_good {ks : List Kk} {ss : List (Str × St3)} (h : StsOk ks ss) : ∀ n ∈ ss.map (·.1), badP ks ss n = false := fun n hn => by
  obtain ⟨s, hs⟩ := stOf_some hn
  have a := (h.1.mem n).mp hn
  have b := (h.2 _ (stOf_in hs)).1
  unfold badP
  rw [has_iff.mpr a, hs]
  show (false || !isState ks n s) = false
  rw [b]
  rfl
structure YtF (P : Program) (w : World) (K : PySem.W.Frag) (mg : Str → Option Value) (base : Heap) (CY : Addr) : Prop where
  ex : ∃ p g fd, PropOf K CY "states" p g ∧ FnOk P w K mg base CX0 1 g fd ["self"] (spYt K CY) ∧ Binds K fd ["self"] []
theorem sts_txt : ∀ x ∈ STS, PyData.strOk x = true := by
  intro x h
  unfold STS at h
  simp only [List.mem_cons, List.not_mem_nil, or_false] at h
  rcases h with rfl | rfl | rfl | rfl | rfl | rfl | rfl <;> decide +kernel
theorem eqM_self {dk : List (Key × PyData)} (h : ∀ p ∈ dk, hitM dk p = true) : eqM dk dk = true := by
  unfold eqM
  rw [decide_eq_true rfl, Bool.true_and]
  exact List.all_eq_true.mpr h
def Nl (H H' : Hp) : Prop := ∀ b o, H b = some o → (∀ xs, o ≠ .lst xs) → H' b = some o
theorem Dr.nl {K : PySem.W.Frag} {r a : Addr} {H H' : Hp} (h : Row K H r a) (d : Dr r a H H') : Nl H H' := fun b o q n => by
  obtain ⟨xs, hr⟩ := h.at_
  refine d.sb b o (fun z => ?_) q
  rw [z, hr] at q
  cases q
  exact n xs rfl
theorem StObj.nl {CT : Addr} {H H' : Hp} {st : Addr} {es : Eds} (k : Nl H H') (h : StObj CT H st es) : StObj CT H' st es := by
  obtain ⟨⟨dy, tb, nb, h1, h2, h3⟩, one⟩ := h
  obtain ⟨ys', a, b, kvs', g1, g2, g3⟩ := h3
  exact ⟨⟨dy, tb, nb, k _ _ h1 (by intro _ z; cases z), k _ _ h2 (by intro _ z; cases z), ys', a, b, kvs', k _ _ g1 (by intro _ z; cases z), g2, fun nm hm => let ⟨t, a, b⟩ := g3 nm hm; ⟨t, a, k _ _ b (by intro _ z; cases z)⟩⟩, one⟩
theorem EdX.nl {K : PySem.W.Frag} {C a : Addr} {H H' : Hp} {e : Edn} (k : Nl H H') (kp : Kp K H H') (h : EdX K H C a e) : EdX K H' C a e := by
  obtain ⟨s, n, f, g, ⟨dx, p, h1, h2⟩, h3⟩ := h
  exact ⟨s, n, f, g, ⟨dx, p, k _ _ h1 (by intro _ z; cases z), k _ _ h2 (by intro _ z; cases z)⟩, h3.kp kp⟩
theorem eqv_st (s : St3) : PyData.eqv (stD s) (stD s) = true := by simp [stD, PyData.eqv, PyData.eqvAll]
theorem dat_of : ∀ {ss : List (Str × St3)} {p : Str × St3}, (ss.map (·.1)).Nodup → p ∈ ss → datAt (datS ss) (.inr p.1) = some (stD p.2)
  | (m, s) :: ss, p, h, hp => by
    obtain ⟨h1, h2⟩ := List.nodup_cons.mp (show (m :: ss.map (·.1)).Nodup from h)
    unfold datAt datS
    rw [List.map_cons, List.find?_cons]
    rcases List.mem_cons.mp hp with rfl | q
    · rw [decide_eq_true rfl]
      rfl
    · have ne : ¬ ((.inr m : Key) = .inr p.1) := fun z => h1 (by injection z with z; rw [z]; exact List.mem_map.mpr ⟨p, q, rfl⟩)
      rw [decide_eq_false ne]
      exact dat_of h2 q
theorem eqM_states {ss : List (Str × St3)} (h : (ss.map (·.1)).Nodup) : eqM (datS ss) (datS ss) = true := eqM_self fun p hp => by
  obtain ⟨q, hq, rfl⟩ := List.mem_map.mp hp
  unfold hitM
  rw [dat_of h hq]
  exact eqv_st q.2
theorem SysAt.nl {K : PySem.W.Frag} {CY a st : Addr} {H H' : Hp} {ss : List (Str × St3)} (k : Nl H H') (kp : Kp K H H') (h : SysAt K CY H a st ss) : SysAt K CY H' a st ss := by
  obtain ⟨dx, d, kvs, h1, h2, h3⟩ := h.ex
  exact ⟨dx, d, kvs, k _ _ h1 (by intro _ z; cases z), k _ _ h2 (by intro _ z; cases z), h3.kp kp⟩
theorem SysOk.nl {K : PySem.W.Frag} {C CT CY : Addr} {H H' : Hp} {a st : Addr} {ss : List (Str × St3)} {es : Es} (k : Nl H H') (kp : Kp K H H') (h : SysOk K C CT CY H a st ss es) : SysOk K C CT CY H' a st ss es :=
  ⟨h.sys.nl k kp, h.sto.nl k, fun e he => (h.ed e he).nl k kp, h.nm, h.ok, h.few⟩
structure YwF (P : Program) (w : World) (K : PySem.W.Frag) (mg : Str → Option Value) (base : Heap) (CT CY CI CN : Addr) : Prop where
  ex : ∃ f fd, Meth K CY "with_state" f ∧ FnOk P w K mg base (L2.CX P w) 6 f fd ["self", "name", "state"] (spYw K CT CY CI CN) ∧ Binds K fd ["self", "name", "state"] []
theorem put_names {ss : List (Str × St3)} {n : Str} {s : St3} (h : n ∈ ss.map (·.1)) : (putS ss n s).map (·.1) = ss.map (·.1) := by
  rw [putS_keys]
  unfold dstep
  rw [has_iff.mpr h, if_pos rfl]
theorem put_mem {ss : List (Str × St3)} {n : Str} {s : St3} (h : n ∈ ss.map (·.1)) : ∀ p ∈ putS ss n s, p = (n, s) ∨ (p ∈ ss ∧ p.1 ≠ n) := fun p hp => by
  unfold putS at hp
  rw [has_iff.mpr h, if_pos rfl] at hp
  obtain ⟨q, hq, e⟩ := List.mem_map.mp hp
  by_cases c : q.1 = n
  · rw [if_pos c] at e
    rw [← e, c]
    exact .inl rfl
  · rw [if_neg c] at e
    rw [← e]
    exact .inr ⟨hq, c⟩
theorem put_len (ss : List (Str × St3)) (n : Str) (s : St3) : (putS ss n s).length ≤ ss.length + 1 := by
  unfold putS
  split
  · rw [List.length_map]; omega
  · rw [List.length_append]; exact Nat.le_refl _
theorem st_shaped {s : St3} (h : PyData.strOk s.1 = true) : SeqAt.shaped (stD s) = true := by
  simp [SeqAt.shaped, stD, PyData.canLay0, PyData.canLayAll0, PyData.depth, PyData.depthAll, h]
theorem st_dp {K : PySem.W.Frag} {H : Hp} {t : Addr} {s : St3} (h : SqT K H t (stV s)) : Dp K H (.ref t) (stD s) := .tup h (.cons (.str _) (.cons (.int _) (.cons (.int _) .nil)))
/-! ### an edition as the law draws it -/
def TupE (K : PySem.W.Frag) (H : Hp) (t : Addr) (e : Edn) : Prop := ∃ s n f g, SqT K H t [.str e.name, .int e.ver, .ref s, .ref n, .ref f, .ref g] ∧ EdAt K H e.ed s n f g
theorem TupE.kp {K : PySem.W.Frag} {H H' : Hp} {t : Addr} {e : Edn} (k : Kp K H H') (h : TupE K H t e) : TupE K H' t e := by
  obtain ⟨s, n, f, g, h1, h2⟩ := h
  exact ⟨s, n, f, g, k _ _ h1, h2.kp k⟩
structure LEd (K : PySem.W.Frag) (H : Hp) (l : Addr) (ls : Es) : Prop where
  at_ : H l = some (.lst (ls.map fun e => .ref e.1))
  tu : ∀ e ∈ ls, TupE K H e.1 e.2
section
variable {K : PySem.W.Frag} {r a l : Addr} {H H' H'' : Hp} {ls : Es}
theorem LEd.dr (h : Row K H r a) (ne : l ≠ r) (d : Dr r a H H') (e : LEd K H l ls) : LEd K H' l ls := ⟨d.sb _ _ ne e.at_, fun x hx => (e.tu x hx).kp (d.kp h)⟩
theorem LEd.app {t : Addr} {e : Edn} (h : LEd K H l ls) (ht : TupE K H t e) : LEd K (upd H l (.lst ((ls.map fun e => .ref e.1) ++ [.ref t]))) l (ls ++ [(t, e)]) := by
  have kp : Kp K H (upd H l (.lst ((ls.map fun e => V.ref e.1) ++ [.ref t]))) := Kp.upd h.at_ (fun xs z => by cases z) (fun q xs z => by cases z)
  refine ⟨?_, fun x hx => ?_⟩
  · rw [upd_same, List.map_append]
    rfl
  · rcases List.mem_append.mp hx with q | q
    · exact (h.tu x q).kp kp
    · rw [List.mem_singleton.mp q]
      exact ht.kp kp
end
theorem LEd.same {K : PySem.W.Frag} {H H' : Hp} {l : Addr} {ls : Es} (S : Same H H') (h : LEd K H l ls) : LEd K H' l ls := ⟨S _ _ h.at_, fun x hx => (h.tu x hx).kp S.kp⟩
abbrev sLsr : Stmt := top 54
abbrev LsrN : List Str := ["_law_some", "_law_found", "_law_one"]
def spLsr (K : PySem.W.Frag) (C CT : Addr) : Sp := fun vs H Q _ => ∃ (l : Addr) (ls : Es), vs = [.ref l] ∧ LEd K H l ls ∧ ls.length ≤ 40 ∧ (∀ e ∈ ls, e.2.ed.Small ∧ e.2.ed.wrong = none) ∧ wrongAt (keysOf ls.eds) = none ∧
  ∀ st (es : Es) H', es.map (·.2) = ls.map (·.2) → Same H H' → StObj CT H' st es.eds → (∀ e ∈ es, EdX K H' C e.1 e.2) → Q (.ref st) H'
section
variable {P : Program} {w : World} {K : PySem.W.Frag} {mg : Str → Option Value} {base : Heap} {C CE CT CI f0 : Addr} {fd0 : FuncData} {aS z1 z2 z3 : Addr}
theorem scLsr : FnScope LsrN ["_law_some"] (defScope sLsr) := ⟨rfl, rfl, rfl, by decide +kernel, rfl, by decide +kernel, by decide +kernel⟩
theorem ok_lsr {f : Addr} {fd : FuncData} (F : Fun K "_law_store" "_law_store" sLsr f fd) (T : TxtJ mg) (D : EdF P w K mg base C CE f0 fd0 aS z1 z2 z3) (M : MkSt P w K mg base C CT CI) : FnOk P w K mg base CX0 8 f fd ["_law_some"] (spLsr K C CT) := by
  refine F.ok scLsr (fun vs H Q E h => ?_) (fun cdv A outer s H vs Q E hr h => ?_)
  · obtain ⟨l, ls, rfl, _⟩ := h
    rfl
  · obtain ⟨l, ls, rfl, hL, few, hok, hw, k⟩ := h
    have nd := scLsr.nd
    have r5 : Room 5 _ := hr.mono (by decide)
    obtain ⟨gg, hb⟩ := D.kb4
    obtain ⟨f1, fd1, M1, F1, b1⟩ := M.ex
    refine ⟨_, pss_cons (ps_set (i := 1) nd rfl (Or.inl rfl) (pe_lst pa_nil))
      (pss_cons (ps_for PassesOwn.never rfl (pi_list (pv 0)) (pg_name (i := 2) nd rfl (Or.inl rfl))
        (pss_one (ps_expr (pe_bm PySem.F.plainAttrs_list PySem.F.slot_list_append PySem.F.type_list_append mt_append (pv 1) (pa_cons
          (pe_makeK (n := 2) D.make D.ok hr rfl D.mgC hb passL (pa_cons (pe_ix ix_tup (pv 2) pe_int (fun _ _ => rfl)) (pa_cons (pe_ix ix_tup (pv 2) pe_int (fun _ _ => rfl)) pa_nil))
            (pk_cons (pe_ix ix_tup (pv 2) pe_int (fun _ _ => rfl)) (pk_cons (pe_ix ix_tup (pv 2) pe_int (fun _ _ => rfl)) (pk_cons (pe_ix ix_tup (pv 2) pe_int (fun _ _ => rfl)) (pk_cons (pe_ix ix_tup (pv 2) pe_int (fun _ _ => rfl)) pk_nil))))) pa_nil)))))
      (pss_one (ps_ret (pe_make M1 F1 r5 rfl M.mgS b1 .nil passL (pa_cons (pe_callTy call_tuple_of (by rfl) T.tup (by decide +kernel) (pa_cons (pv 1) pa_nil)) pa_nil))))), ?_⟩
    refine ⟨Nat.zero_le _, fun fo nf => ?_⟩
    have s0 := Same.upd_new (o := .lst []) nf
    have gf0 : (upd H fo (.lst [])) fo = some (.lst []) := upd_same
    have L0 := hL.same s0
    generalize upd H fo (.lst []) = H0 at s0 gf0 L0 ⊢
    refine ⟨_, rfl, l, rfl, ⟨_, SqL.of L0.at_⟩, ?_⟩
    refine for_it (walk_list (xs := ls.map fun e => V.ref e.1)) (fun i σ H' => Same H H' ∧ (∃ es : Es, H' fo = some (.lst (es.map fun e => .ref e.1)) ∧ (∀ e ∈ es, EdX K H' C e.1 e.2) ∧ es.map (·.2) = (ls.map (·.2)).take i) ∧ ∃ x2, σ = [some (.ref l), some (.ref fo), x2]) ?_ ?_ ?_ ?_
    · exact ⟨s0, ⟨[], gf0, fun e he => (by cases he), by simp⟩, _, rfl⟩
    · rintro i σ H' _ ⟨S, _⟩
      exact SqL.of (S _ _ hL.at_)
    · rintro i x σ H1 H2 hi ⟨S, ⟨es, gf, hX, hm⟩, x2, rfl⟩ ⟨rfl, hx⟩
      obtain ⟨e, he, rfl⟩ := getE hx
      have hme := List.mem_of_getElem? he
      obtain ⟨s1, n1, f1, g1, ht, hE⟩ := (hL.same S).tu e hme
      obtain ⟨sm, wr⟩ := hok e hme
      refine ⟨_, rfl, .inl ⟨rfl, _, SqL.of gf⟩, _, rfl, e.1, _, 0, _, rfl, rfl, ht, rfl, _, rfl, e.1, _, 1, _, rfl, rfl, ht, rfl, _, rfl, e.1, _, 2, _, rfl, rfl, ht, rfl, _, rfl, e.1, _, 3, _, rfl, rfl, ht, rfl, _, rfl, e.1, _, 4, _, rfl, rfl, ht, rfl, _, rfl, e.1, _, 5, _, rfl, rfl, ht, rfl, rfl, rfl, fun x dx nx ndx nxx => ?_⟩
      refine mk_read nx ndx hE sm wr fun H3 s3 ho => ?_
      have gf3 := s3 _ _ gf
      have el : es.length ≤ 40 := by
        have e1 : (es.map (·.2)).length = ((ls.map (·.2)).take i).length := by rw [hm]
        rw [List.length_map, List.length_take, List.length_map] at e1
        omega
      refine ⟨fo, _, _, rfl, rfl, gf3, by rw [List.length_map, sizeLine_eq]; omega, fun b o q => ?_, ⟨es ++ [(x, e.2)], by rw [upd_same, List.map_append]; rfl, fun y hy => ?_, ?_⟩, _, rfl⟩
      · rw [upd_ne (ne_of_none q nf)]
        exact s3 _ _ (S _ _ q)
      · rcases List.mem_append.mp hy with q | q
        · exact ((hX y q).same s3).put gf3
        · rw [List.mem_singleton.mp q]
          exact EdX.put gf3 ⟨s1, n1, f1, g1, ho⟩
      · have he2 : (ls.map (·.2))[i]? = some e.2 := by rw [List.getElem?_map, he]; rfl
        rw [List.map_append, hm, take_next he2]
        rfl
    · rintro σ H6 ⟨S, ⟨es, gf, hX, hm⟩, x2, rfl⟩
      rw [List.length_map, show ls.length = (ls.map (·.2)).length from (List.length_map ..).symm, List.take_length] at hm
      have ek : keysOf es.eds = keysOf ls.eds := by
        rw [keys_eds, keys_eds, hm]
      have el : es.length ≤ 40 := by
        have e1 : (es.map (·.2)).length = (ls.map (·.2)).length := by rw [hm]
        rw [List.length_map, List.length_map] at e1
        omega
      refine ⟨_, rfl, fo, _, rfl, .inl ⟨SqL.of gf, fun t nt => ?_⟩⟩
      have s7 := Same.upd_new (o := .tup (es.map fun e => V.ref e.1)) nt
      have a7 : EdsAt K C (upd H6 t (.tup (es.map fun e => V.ref e.1))) t es.eds := by
        refine ⟨.inl (.inl ?_), fun y hy => ?_⟩
        · rw [upd_same]
          unfold Es.eds
          rw [List.map_map]
          rfl
        · obtain ⟨z, hz, rfl⟩ := List.mem_map.mp hy
          exact ((hX z hz).same s7).key
      refine fun st dx nst ndx nxx => ?_
      refine store_read (es := es.eds) nst ndx a7 (by unfold Es.eds; rw [List.length_map]; exact el) (by rw [ek]; exact hw) fun H8 s8 hS => ?_
      exact k st es H8 hm (S.trans (s7.trans s8)) hS fun y hy => ((hX y hy).same s7).same s8
end
def PN4 : List Str := ["app", "db", "lib", "web"]
theorem pn4_lt : PN4.Pairwise fun a b => strLt a b = true := by decide +kernel
theorem pn4_ok : ∀ x ∈ PN4, PyData.strOk x = true ∧ isWord x = true ∧ x.length ≤ 1000 := by
  intro x h
  unfold PN4 at h
  simp only [List.mem_cons, List.not_mem_nil, or_false] at h
  rcases h with rfl | rfl | rfl | rfl <;> decide +kernel
theorem others4_ok {l : List Str} {nm : Str} (h : l.Sublist PN4) (hn : nm ∉ l) : areOthers l nm = true := by
  unfold areOthers
  rw [asc_of (pn4_lt.sublist h), Bool.and_true]
  refine List.all_eq_true.mpr fun z hz => ?_
  have ne : ¬ z = nm := fun e => hn (by rw [← e]; exact hz)
  rw [(pn4_ok z (h.subset hz)).2.1, dec_str, decide_eq_false ne]
  rfl
theorem needs4_ok {ps : List (Str × Int)} {nm : Str} (h : (ps.map (·.1)).Sublist PN4) (hn : nm ∉ ps.map (·.1)) (hv : ∀ p ∈ ps, 1 ≤ p.2 ∧ p.2 ≤ 3) : areNeeds ps nm = true := by
  unfold areNeeds
  rw [others4_ok h hn, Bool.and_true]
  refine List.all_eq_true.mpr fun p hp => ?_
  obtain ⟨a, b⟩ := hv p hp
  show (decide (1 ≤ p.2) && decide (p.2 ≤ 99)) = true
  rw [decide_eq_true a, decide_eq_true (by omega : p.2 ≤ 99)]
  rfl
/-- an edition that is drawn so has nothing wrong -/
theorem GoodE.right {nm : Str} {ver : Int} {os : List Str} {e : Edn} (g : GoodE nm ver os e) (hn : nm ∈ PN4) (v1 : 1 ≤ ver) (v2 : ver ≤ 99) (hos : os.Sublist PN4) (hno : nm ∉ os) : e.ed.Small ∧ e.ed.wrong = none := by
  have en := g.name
  have n1 := g.nee.trans hos
  have n2 := g.fir.trans hos
  have n3 := g.aga.trans hos
  have ok := pn4_ok _ hn
  have len4 : ∀ {l : List Str}, l.Sublist PN4 → l.length ≤ 4 ∧ ∀ z ∈ l, PyData.strOk z = true ∧ z.length ≤ 1000 := fun s => ⟨s.length_le, fun z hz => ⟨(pn4_ok z (s.subset hz)).1, (pn4_ok z (s.subset hz)).2.2⟩⟩
  have c2 : inR (.int e.ver) 1 99 = true := by
    rw [g.ver]
    show (decide (1 ≤ ver) && decide (ver ≤ 99)) = true
    rw [decide_eq_true v1, decide_eq_true v2]
    rfl
  have c3 := scripts_ok g.scr
  have c4 : areNeeds e.nee e.name = true := by rw [en]; exact needs4_ok n1 (fun z => hno (g.nee.subset z)) g.neeV
  have c5 : areNeeds e.fir e.name = true := by rw [en]; exact needs4_ok n2 (fun z => hno (g.fir.subset z)) g.firV
  have c6 : areOthers e.aga e.name = true := by rw [en]; exact others4_ok n3 (fun z => hno (g.aga.subset z))
  have c1 : isWord e.name = true := by rw [en]; exact ok.2.1
  have sl : ∀ {ps : List (Str × Int)}, (ps.map (·.1)).Sublist PN4 → ps.length ≤ 100 ∧ ∀ p ∈ ps, p.1.length ≤ 1000 := fun s => by
    obtain ⟨a, b⟩ := len4 s
    rw [List.length_map] at a
    exact ⟨by omega, fun p hp => (b p.1 (List.mem_map.mpr ⟨p, hp, rfl⟩)).2⟩
  refine ⟨⟨by show e.name.length ≤ 1000; rw [en]; exact ok.2.2, .inl ⟨_, rfl⟩, ?_, sl n1, sl n2, ⟨Nat.le_trans (len4 n3).1 (by decide), fun z hz => ((len4 n3).2 z hz).2⟩⟩, ?_⟩
  · have := g.scr.length_le
    exact Nat.le_trans this (by decide)
  · unfold Ed.wrong Ed.checks Edn.ed
    simp only [c1, c2, c3, c4, c5, c6]
    rfl
end Half

namespace Half
open PySem PySem.Spec PyProof.Rows L2
def Lean (es : Es) : Prop := ∀ e ∈ es, e.2.nee.length ≤ 100 ∧ e.2.fir.length ≤ 100
theorem one_le : 1 ≤ sizeLine := by decide
theorem thr_le : 3 ≤ sizeLine := by decide
structure EdG (P : Program) (w : World) (K : PySem.W.Frag) (mg : Str → Option Value) (base : Heap) (C : Addr) : Prop where
  p1 : Prp P w K mg base C "version" 1
  p2 : Prp P w K mg base C "scripts" 2
  p4 : Prp P w K mg base C "first" 4
section
variable {K : PySem.W.Frag} {C CT CY CN CU : Addr} {H : Hp} {a : Addr} {Q : VK}
theorem prp1 {e : Edn} (h : EdX K H C a e) (q : Q (.int e.ver) H) : ∃ p dx fs, V.ref a = .ref p ∧ H p = some (.ins C dx fs) ∧ spGet C 1 [.ref p] H Q E0 := by
  obtain ⟨s, n, f, g, ⟨dx, p, h1, h2⟩, h3⟩ := h
  exact ⟨a, dx, _, rfl, h1, a, dx, p, _, _, rfl, h1, h2, rfl, q⟩
theorem prp2 {e : Edn} (h : EdX K H C a e) (q : ∀ n, SqT K H n (e.scr.map V.str) → Q (.ref n) H) : ∃ p dx fs, V.ref a = .ref p ∧ H p = some (.ins C dx fs) ∧ spGet C 2 [.ref p] H Q E0 := by
  obtain ⟨s, n, f, g, ⟨dx, p, h1, h2⟩, h3⟩ := h
  exact ⟨a, dx, _, rfl, h1, a, dx, p, _, _, rfl, h1, h2, rfl, q s h3.scripts⟩
theorem prp4 {e : Edn} (h : EdX K H C a e) (q : ∀ n, NeedsAt K H n e.fir → Q (.ref n) H) : ∃ p dx fs, V.ref a = .ref p ∧ H p = some (.ins C dx fs) ∧ spGet C 4 [.ref p] H Q E0 := by
  obtain ⟨s, n, f, g, ⟨dx, p, h1, h2⟩, h3⟩ := h
  exact ⟨a, dx, _, rfl, h1, a, dx, p, _, _, rfl, h1, h2, rfl, q f h3.first⟩
end
end Half

namespace Half
open PySem PySem.Spec PyProof.Rows L2
/-! ### orders: what is pending, and what it lacks -/
abbrev sPen : Stmt := top 24
abbrev sWm : Stmt := top 25
abbrev sLk : Stmt := top 26
def PEND : List Str := ["failed", "unpacked"]
def pendB (ss : List (Str × St3)) (n : Str) : Bool := match stOf ss n with
  | some s => has PEND s.1
  | none => false
def pendL (ss : List (Str × St3)) : List Str := (ss.map (·.1)).filter (pendB ss)
def wmB (ss : List (Str × St3)) (ns : List Str) (q : Str × Int) : Bool := has ns q.1 && (match stOf ss q.1 with
  | some s => decide (q.2 ≤ s.2.1)
  | none => false)
def lackB (es : List Edn) (ss : List (Str × St3)) (ns : List Str) (n : Str) : Bool := match stOf ss n with
  | some s => (match edAt es (n, s.2.1) with
    | some e => e.nee.any fun q => !metB ss q && !wmB ss ns q
    | none => false)
  | none => false
/-- a list or a tuple of names -/
def NmAt (K : PySem.W.Frag) (H : Hp) (l : Addr) (ns : List Str) : Prop := SqL K H l (ns.map V.str) ∨ SqT K H l (ns.map V.str)
theorem NmAt.same {K : PySem.W.Frag} {H H' : Hp} {l : Addr} {ns : List Str} (S : Same H H') (h : NmAt K H l ns) : NmAt K H' l ns := by
  rcases h with h | h
  · exact .inl (S.seq h)
  · exact .inr (S.sqT h)
theorem pend_not_absent {ss : List (Str × St3)} {n : Str} {s : St3} (h : stOf ss n = some s) (hp : pendB ss n = true) : s.1 ≠ "absent" := fun e => by
  unfold pendB at hp
  rw [h] at hp
  dsimp only at hp
  rw [e] at hp
  exact absurd hp (by decide)
def spPen (K : PySem.W.Frag) (C CT CY : Addr) : Sp := fun vs H Q _ => ∃ (a st : Addr) (ss : List (Str × St3)) (es : Es), vs = [.ref a] ∧ SysOk K C CT CY H a st ss es ∧ ∀ p H', Same H H' → H p = none → H' p = some (.lst ((pendL ss).map V.str)) → Q (.ref p) H'
def spWm (K : PySem.W.Frag) (C CT CY : Addr) : Sp := fun vs H Q _ => ∃ (a st l t : Addr) (ss : List (Str × St3)) (es : Es) (ns : List Str) (q : Str × Int), vs = [.ref a, .ref l, .ref t] ∧ SysOk K C CT CY H a st ss es ∧ NmAt K H l ns ∧ (∀ n ∈ ns, n ∈ ss.map (·.1)) ∧ SqT K H t [.str q.1, .int q.2] ∧ Q (.bl (wmB ss ns q)) H
def spLk (K : PySem.W.Frag) (C CT CY : Addr) : Sp := fun vs H Q _ => ∃ (a st l : Addr) (ss : List (Str × St3)) (es : Es) (ns : List Str) (n : Str) (s : St3), vs = [.ref a, .str n, .ref l] ∧ SysOk K C CT CY H a st ss es ∧ Lean es ∧ NmAt K H l ns ∧ (∀ n ∈ ns, n ∈ ss.map (·.1)) ∧ stOf ss n = some s ∧ s.1 ≠ "absent" ∧ ∀ H', Same H H' → Q (.bl (lackB (es.map (·.2)) ss ns n)) H'
structure TxtO (K : PySem.W.Frag) (mg : Str → Option Value) : Prop where
  pen : ∃ a, mg "PENDING" = some (.ref a) ∧ ∀ H, SqT K H a (PEND.map V.str)
  any : mg "any" = none
theorem SysOk.fewn {K : PySem.W.Frag} {C CT CY : Addr} {H : Hp} {a st : Addr} {ss : List (Str × St3)} {es : Es} (hY : SysOk K C CT CY H a st ss es) : (ss.map (·.1)).length ≤ 40 := by
  have := len_sub hY.nm.nd (m := (keysOf es.eds).map (·.1)) fun z hz => (hY.nm.mem z).mp hz
  refine Nat.le_trans this ?_
  unfold Es.eds
  simp only [List.length_map]
  exact hY.few
section
variable {P : Program} {w : World} {K : PySem.W.Frag} {mg : Str → Option Value} {base : Heap} {C CT CY CN CU : Addr}
theorem scPen : FnScope ["system", "name"] ["system"] (defScope sPen) := ⟨rfl, rfl, rfl, by decide +kernel, rfl, by decide +kernel, by decide +kernel⟩
theorem ok_pen {f : Addr} {fd : FuncData} (F : Fun K "pending" "pending" sPen f fd) (T : TxtO K mg) (Y : SyF P w K mg base C CT CY CN CU) : FnOk P w K mg base CX0 3 f fd ["system"] (spPen K C CT CY) := by
  refine F.ok scPen (fun vs H Q E h => ?_) (fun cdv A outer s H vs Q E hr h => ?_)
  · obtain ⟨a, st, ss, es, rfl, _⟩ := h
    rfl
  · obtain ⟨a, st, ss, es, rfl, hY, k⟩ := h
    have nd := scPen.nd
    obtain ⟨aT, gT, hT⟩ := T.pen
    refine ⟨_, pss_one (ps_ret (pe_lc (own := [("name", 1)]) (g := gName 1) (tt := tTest (tOp (rIn K false) (tOp (rIxT K) (tOp (rIxO CY (spYg K CY CN) E0) (tVar 0) (tVar 1)) (tC (.int 0))) (tC (.ref aT)))) (te := tVar 1) rfl nd (pi_tup (pe_nam Y.nam hr (pe_ysto Y hr (pv 0)))) (blkOk_by (N := ["system", "name"]) (sc := defScope sPen) (by decide +kernel))
          (fun _ _ _ _ _ => pg_name (i := 1) nd rfl (Or.inl rfl)) (fun _ _ _ _ _ => pts_one (pt_cmpR (op_in_seq : OpR _ _ (rIn K false)) (pe_ix (ix_tup : IxR _ (rIxT K)) (pe_yget Y hr (pv 0) (pv 1)) pe_int (fun _ _ => rfl)) (pe_glob (v := .ref aT) rfl gT rfl) (by rfl))) (fun _ _ _ _ _ => pv 1))), ?_⟩
    refine ⟨_, rfl, ysto_read hY.sys (nam_read hY.sto fun ns q hns nq => ?_)⟩
    have hns : ns = ss.map (·.1) := hns.uniq hY.nm
    subst hns
    have s1 := Same.upd_new (o := .tup ((ss.map (·.1)).map V.str)) nq
    have fewn := hY.fewn
    refine ⟨q, rfl, ⟨_, .inl (.inl upd_same)⟩, fun D hD => lc_it (walk_tup (xs := (ss.map (·.1)).map V.str)) (AccP _ D (filV (pendB ss) V.str (ss.map (·.1)))) (AccP.zero hD rfl) (fun _ _ _ p => .inl (.inl (p.1 _ _ upd_same))) ?_ ?_⟩
    · rintro i x H1 H2 hi p ⟨rfl, hx⟩
      obtain ⟨n, hn, rfl⟩ := getE hx
      have s2 := s1.trans p.1
      obtain ⟨s3, hs⟩ := stOf_some (List.mem_of_getElem? hn)
      refine ⟨rfl, ?_⟩
      refine ⟨_, rfl, _, rfl, yget_read (hY.same s2).sys hs fun t ht => ⟨t, _, 0, _, rfl, rfl, ht, rfl, aT, _, rfl, .inr (hT _), rfl, flat_strs PEND, _, rfl, ?_⟩⟩
      have e : pendB ss n = inV (.str s3.1) (PEND.map V.str) := by unfold pendB; rw [hs, inV_str]
      cases c : pendB ss n with
      | true =>
        refine ite_yes (e.symm.trans c) ?_
        exact ⟨_, rfl, p.step hD (filV_yes hn c) (Nat.le_trans (filV_len ..) (by omega)) (Same.refl _)⟩
      | false =>
        refine ite_no (e.symm.trans c) ?_
        exact p.skip (filV_no hn c) (Same.refl _)
    · intro H2 p
      have nD : H D = none := by
        cases z : H D with
        | none => rfl
        | some o => rw [s1 _ _ z] at hD; cases hD
      refine k D H2 (s1.trans p.1) nD ?_
      have := p.2
      rw [List.length_map] at this
      rw [this]
      unfold filV pendL
      rw [List.take_length]
theorem scWm : FnScope ["system", "names", "need", "name", "least"] ["system", "names", "need"] (defScope sWm) := ⟨rfl, rfl, rfl, by decide +kernel, rfl, by decide +kernel, by decide +kernel⟩
theorem ok_wm {f : Addr} {fd : FuncData} (F : Fun K "would_meet" "would_meet" sWm f fd) (Y : SyF P w K mg base C CT CY CN CU) : FnOk P w K mg base CX0 3 f fd ["system", "names", "need"] (spWm K C CT CY) := by
  refine F.ok scWm (fun vs H Q E h => ?_) (fun cdv A outer s H vs Q E hr h => ?_)
  · obtain ⟨a, st, l, t, ss, es, ns, q, rfl, _⟩ := h
    rfl
  · obtain ⟨a, st, l, t, ss, es, ns, ⟨n, v⟩, rfl, hY, hL, sub, ht, k⟩ := h
    have nd := scWm.nd
    refine ⟨_, pss_cons (ps_asg (pv 2) (pg_tup rfl (pgs_cons (pg_name (i := 3) nd rfl (Or.inl rfl)) (pgs_cons (pg_name (i := 4) nd rfl (Or.inl rfl)) pgs_nil))))
      (pss_one (ps_ret (pe_and (pe_cmpR (op_in_seq : OpR _ _ (rIn K false)) (pv 3) (pv 1) (by rfl)) (pe_one (pe_cmpR op_ge (pe_ix ix_tup (pe_yget Y hr (pv 0) (pv 3)) pe_int (fun _ _ => rfl)) (pv 4) (nomark _)))))), ?_⟩
    refine ⟨_, rfl, t, _, rfl, ht, rfl, _, _, rfl, _, _, rfl, rfl, ?_⟩
    refine ⟨_, rfl, _, rfl, l, _, rfl, hL, rfl, flat_strs _, _, rfl, ?_⟩
    unfold wmB at k
    dsimp only at k
    cases c : has ns n with
    | false =>
      rw [c, Bool.false_and] at k
      exact ite_no ((inV_str _ _).trans c) k
    | true =>
      rw [c, Bool.true_and] at k
      refine ite_yes ((inV_str _ _).trans c) ?_
      obtain ⟨s3, hs⟩ := stOf_some (sub n (has_iff.mp c))
      rw [hs] at k
      exact ⟨_, rfl, _, rfl, yget_read hY.sys hs fun t2 ht2 => ⟨t2, _, 1, _, rfl, rfl, ht2, rfl, _, rfl, _, _, rfl, rfl, k⟩⟩
theorem scLk : FnScope ["system", "name", "names", "needs", "need"] ["system", "name", "names"] (defScope sLk) := ⟨rfl, rfl, rfl, by decide +kernel, rfl, by decide +kernel, by decide +kernel⟩
theorem ok_lk {f : Addr} {fd : FuncData} (F : Fun K "lacks" "lacks" sLk f fd) (T : TxtO K mg) (Y : SyF P w K mg base C CT CY CN CU) (dE : Def P w K mg base 4 "edition_of" ["system", "name"] (spEo K C CT CY)) (dM : Def P w K mg base 3 "is_met" ["system", "need"] (spMet K C CT CY)) (dW : Def P w K mg base 3 "would_meet" ["system", "names", "need"] (spWm K C CT CY)) : FnOk P w K mg base CX0 5 f fd ["system", "name", "names"] (spLk K C CT CY) := by
  refine F.ok scLk (fun vs H Q E h => ?_) (fun cdv A outer s H vs Q E hr h => ?_)
  · obtain ⟨a, st, l, ss, es, ns, n, s, rfl, _⟩ := h
    rfl
  · obtain ⟨a, st, l, ss, es, ns, n, s3, rfl, hY, hLe, hL, sub, hs, ha, k⟩ := h
    have nd := scLk.nd
    have r2 : Room 2 _ := hr.mono (by decide)
    have r3 : Room 3 _ := hr.mono (by decide)
    refine ⟨_, pss_cons (ps_set (i := 3) nd rfl (Or.inl rfl) (pe_prp Y.p3 Y.clE r2 (pe_def dE hr rfl (pa_cons (pv 0) (pa_cons (pv 1) pa_nil)))))
      (pss_one (ps_ret (pe_callB (cr_any rfl) (by rfl) T.any (by decide +kernel) (pa_cons
        (pe_lc (own := [("need", 4)]) (g := gName 4) (tt := tYes) (te := tAndV (tNotV (tCall (spMet K C CT CY) [] E0 (tCons (tVar 0) (tCons (tVar 4) tNil)))) (tNotV (tCall (spWm K C CT CY) [] E0 (tCons (tVar 0) (tCons (tVar 2) (tCons (tVar 4) tNil)))))) rfl nd (pi_tup (pv 3)) (blkOk_by (N := ["system", "name", "names", "needs", "need"]) (sc := defScope sLk) (by decide +kernel))
          (fun _ _ _ _ _ => pg_name (i := 4) nd rfl (Or.inl rfl)) (fun _ _ _ _ _ => pts_nil)
          (fun _ _ _ _ _ => pe_and (pe_not (pe_def dM r3 rfl (pa_cons (pv 0) (pa_cons (pv 4) pa_nil)))) (pe_one (pe_not (pe_def dW r3 rfl (pa_cons (pv 0) (pa_cons (pv 2) (pa_cons (pv 4) pa_nil)))))))) pa_nil)))), ?_⟩
    refine ⟨_, rfl, _, rfl, a, st, ss, es, n, s3, rfl, hY, hs, ha, fun e he ee H1 s1 => ?_⟩
    refine prp3 ((hY.ed e he).same s1) fun t hN => ?_
    obtain ⟨ts, hS, htl, hts⟩ := id hN
    have few : e.2.nee.length ≤ 100 := (hLe e he).1
    let g : Str × Int → Bool := fun q => !metB ss q && !wmB ss ns q
    refine ⟨_, rfl, t, rfl, ⟨_, hS⟩, fun D hD => lc_it (walk_tup (xs := ts.map V.ref)) (MapP _ D (e.2.nee.map fun q => V.bl (g q))) (MapP.zero hD) (fun _ _ _ p => p.1.sqT hS) ?_ ?_⟩
    · rintro i x H2 H3 hi p ⟨rfl, hx⟩
      obtain ⟨t1, ht1, rfl⟩ := getE hx
      have hip : i < e.2.nee.length := by rw [List.length_map] at hi; omega
      have hq : e.2.nee[i]? = some e.2.nee[i] := List.getElem?_eq_getElem hip
      have ht := p.1.sqT (hts i t1 _ ht1 hq)
      have nx : ∀ H4, Same H3 H4 → ∃ acc, H4 D = some (.lst acc) ∧ acc.length < sizeLine ∧ MapP H1 D (e.2.nee.map fun q => V.bl (g q)) (i + 1) (upd H4 D (.lst (acc ++ [V.bl (g e.2.nee[i])]))) := fun H4 s4 => p.step hD (by rw [List.getElem?_map, hq]; rfl) (by rw [List.length_map]; omega) s4
      have sY := (hY.same s1).same p.1
      refine ⟨rfl, _, rfl, _, rfl, a, st, t1, ss, es, e.2.nee[i], rfl, sY, ht, fun H4 s4 => ⟨_, rfl, _, rfl, ?_⟩⟩
      cases c : metB ss e.2.nee[i] with
      | true =>
        refine ite_no rfl ?_
        have := nx H4 s4
        have eg : g e.2.nee[i] = false := by show (!metB ss _ && _) = false; rw [c]; rfl
        rw [eg] at this
        exact this
      | false =>
        refine ite_yes rfl ?_
        refine ⟨_, rfl, _, rfl, _, rfl, a, st, l, t1, ss, es, ns, e.2.nee[i], rfl, sY.same s4, ((hL.same s1).same p.1).same s4, sub, s4.sqT ht, _, rfl, ?_⟩
        have := nx H4 s4
        have eg : g e.2.nee[i] = !wmB ss ns e.2.nee[i] := by show (!metB ss _ && _) = _; rw [c]; rfl
        rw [eg] at this
        exact this
    · intro H2 p
      obtain ⟨s2, hl2⟩ := p.done (by rw [List.length_map, List.length_map, htl])
      refine ⟨D, e.2.nee.map g, rfl, SqL.of (by rw [hl2, List.map_map]; rfl), ?_⟩
      have k := k H2 (s1.trans s2)
      unfold lackB at k
      rw [hs] at k
      dsimp only at k
      rw [ee] at k
      rw [List.any_map]
      exact k
end
end Half

namespace Half
open PySem PySem.Spec PyProof.Rows L2
/-! ### orders: what has hope -/
abbrev sHo : Stmt := top 27
abbrev sHl : Stmt := top 28
def hopeM (es : List Edn) (ss : List (Str × St3)) : Nat → List Str → List Str
  | 0, ns => ns
  | k + 1, ns => if ns.filter (lackB es ss ns) = [] then ns else hopeM es ss k (ns.filter fun n => !has (ns.filter (lackB es ss ns)) n)
def hopeL (es : List Edn) (ss : List (Str × St3)) : List Str := hopeM es ss (pendL ss).length (pendL ss)
def lossL (es : List Edn) (ss : List (Str × St3)) : List Str := (pendL ss).filter fun n => !has (hopeL es ss) n
section
variable {es : List Edn} {ss : List (Str × St3)}
theorem hope_done {k : Nat} {ns : List Str} (h : ns.filter (lackB es ss ns) = []) : hopeM es ss k ns = ns := by
  cases k with
  | zero => rfl
  | succ k => rw [hopeM, if_pos h]
theorem hope_less {ns : List Str} (h : ns.filter (lackB es ss ns) ≠ []) : (ns.filter fun n => !has (ns.filter (lackB es ss ns)) n).length < ns.length := by
  obtain ⟨x, hx⟩ := List.exists_mem_of_ne_nil _ h
  refine List.length_filter_lt_length_iff_exists.mpr ⟨x, (List.mem_filter.mp hx).1, ?_⟩
  rw [has_iff.mpr hx]
  decide
theorem hope_sub : ∀ (k : Nat) (ns : List Str), (hopeM es ss k ns).Sublist ns
  | 0, ns => List.Sublist.refl _
  | k + 1, ns => by
    rw [hopeM]
    split
    · exact List.Sublist.refl _
    · exact (hope_sub k _).trans List.filter_sublist
theorem pend_in {n : Str} (h : n ∈ pendL ss) : n ∈ ss.map (·.1) ∧ pendB ss n = true := List.mem_filter.mp h
theorem hope_in {n : Str} (h : n ∈ hopeL es ss) : n ∈ pendL ss := (hope_sub _ _).subset h
end
def spNs (K : PySem.W.Frag) (C CT CY : Addr) (f : List Edn → List (Str × St3) → List Str) : Sp := fun vs H Q _ => ∃ (a st : Addr) (ss : List (Str × St3)) (es : Es), vs = [.ref a] ∧ SysOk K C CT CY H a st ss es ∧ Lean es ∧ ∀ p H', Same H H' → H p = none → H' p = some (.lst ((f (es.map (·.2)) ss).map V.str)) → Q (.ref p) H'
theorem strs_nil {l : List Str} : (l.map V.str = []) ↔ l = [] := List.map_eq_nil_iff
section
variable {P : Program} {w : World} {K : PySem.W.Frag} {mg : Str → Option Value} {base : Heap} {C CT CY CN CU : Addr}
abbrev HoN : List Str := ["system", "names", "lacking", "name"]
theorem scHo : FnScope HoN ["system"] (defScope sHo) := ⟨rfl, rfl, rfl, by decide +kernel, rfl, by decide +kernel, by decide +kernel⟩
theorem set_rd {te : TE} {i : Nat} {D : Ends} {σ : L2.St} {H : Hp} (h : te σ H fun x H1 => D.nx (σ.set i (some x)) H1) : tAsg te (gName i) D σ H := h
theorem seq_rd {t u : TS} {D : Ends} {σ : L2.St} {H : Hp} (h : t { D with nx := u D } σ H) : tSeq t u D σ H := h
theorem while_rd {c : TT} {tb : TS} {D : Ends} {σ : L2.St} {H : Hp} (W : Nat → L2.St → Hp → Prop) (h0 : ∃ m, W m σ H) (h : ∀ m σ H, W m σ H → c σ H fun b H1 => if b = true then ∃ N : L2.St → Hp → Prop, (∀ σ' H', N σ' H' → ∃ m', m' < m ∧ W m' σ' H') ∧ tb { D with nx := N, ct := N, bk := D.nx } σ H1 else D.nx σ H1) : tWhile c tb D σ H := ⟨W, h0, h⟩
/-- [name for name in names if lacks(system, name, names)], over a list of pending names -/
theorem lack_rd {H1 : Hp} {a st l : Addr} {ss : List (Str × St3)} {es : Es} {ns : List Str} {σ : L2.St} {Qd : VK} {i0 i2 iN : Nat} (hY : SysOk K C CT CY H1 a st ss es) (hLe : Lean es) (hl : H1 l = some (.lst (ns.map V.str))) (pd : ∀ n ∈ ns, n ∈ pendL ss) (hn40 : ns.length ≤ 40)
    (e1 : σ[i2]? = some (some (.ref l))) (e0 : ∀ n, ((wipe σ [iN]).set iN (some (V.str n)))[i0]? = some (some (.ref a))) (e2 : ∀ n, ((wipe σ [iN]).set iN (some (V.str n)))[i2]? = some (some (.ref l))) (eN : ∀ n, ((wipe σ [iN]).set iN (some (V.str n)))[iN]? = some (some (.str n))) (ew : ∀ n, wipe ((wipe σ [iN]).set iN (some (V.str n))) [iN] = wipe σ [iN])
    (k : ∀ D H', Same H1 H' → H1 D = none → H' D = some (.lst ((ns.filter (lackB (es.map (·.2)) ss ns)).map V.str)) → Qd (.ref D) H') :
    tLc (iList K (tVar i2)) (gName iN) (tTest (tCall (spLk K C CT CY) [] E0 (tCons (tVar i0) (tCons (tVar iN) (tCons (tVar i2) tNil))))) (tVar iN) [iN] σ H1 Qd := by
  refine ⟨_, e1, l, rfl, ⟨_, SqL.of hl⟩, fun D hD => ?_⟩
  refine lc_it (walk_list (xs := ns.map V.str)) (AccP H1 D (filV (lackB (es.map (·.2)) ss ns) V.str ns)) (AccP.zero hD rfl) (fun _ _ _ p => SqL.of (p.1 _ _ hl)) ?_ ?_
  · rintro i x H2 H3 hi p ⟨rfl, hx⟩
    obtain ⟨n, hn, rfl⟩ := getE hx
    obtain ⟨hm, hp⟩ := pend_in (pd n (List.mem_of_getElem? hn))
    obtain ⟨s3, hs⟩ := stOf_some hm
    refine ⟨ew n, _, e0 n, _, eN n, _, e2 n, a, st, l, ss, es, ns, n, s3, rfl, hY.same p.1, hLe, .inl (SqL.of (p.1 _ _ hl)), fun m hm => (pend_in (pd m hm)).1, hs, pend_not_absent hs hp, fun H4 s4 => ⟨_, rfl, ?_⟩⟩
    cases c : lackB (es.map (·.2)) ss ns n with
    | true =>
      refine ite_yes rfl ?_
      exact ⟨_, eN n, p.step hD (filV_yes hn c) (Nat.le_trans (filV_len ..) (by omega)) s4⟩
    | false =>
      refine ite_no rfl ?_
      exact p.skip (filV_no hn c) s4
  · intro H2 p
    refine k D H2 p.1 hD ?_
    have := p.2
    rw [List.length_map] at this
    rw [this]
    unfold filV
    rw [List.take_length]
theorem ok_ho {f : Addr} {fd : FuncData} (F : Fun K "hopeful" "hopeful" sHo f fd) (dP : Def P w K mg base 3 "pending" ["system"] (spPen K C CT CY)) (dK : Def P w K mg base 5 "lacks" ["system", "name", "names"] (spLk K C CT CY)) : FnOk P w K mg base CX0 6 f fd ["system"] (spNs K C CT CY hopeL) := by
  refine F.ok scHo (fun vs H Q E h => ?_) (fun cdv A outer s H vs Q E hr h => ?_)
  · obtain ⟨a, st, ss, es, rfl, _⟩ := h
    rfl
  · obtain ⟨a, st, ss, es, rfl, hY, hLe, k⟩ := h
    have nd := scHo.nd
    have r3 : Room 3 _ := hr.mono (by decide)
    refine ⟨_, pss_cons (ps_set (i := 1) nd rfl (Or.inr rfl) (pe_def dP r3 rfl (pa_cons (pv 0) pa_nil)))
      (pss_cons (ps_set (i := 2) nd rfl (Or.inr rfl) (pe_lc (own := [("name", 3)]) (g := gName 3) (tt := tTest (tCall (spLk K C CT CY) [] E0 (tCons (tVar 0) (tCons (tVar 3) (tCons (tVar 1) tNil))))) (te := tVar 3) rfl nd (pi_list (pv 1)) (blkOk_by (N := HoN) (sc := defScope sHo) (by decide +kernel))
          (fun _ _ _ _ _ => pg_name (i := 3) nd rfl (Or.inl rfl)) (fun _ _ _ _ _ => pts_one (pt_val (pe_def dK hr rfl (pa_cons (pv 0) (pa_cons (pv 3) (pa_cons (pv 1) pa_nil)))))) (fun _ _ _ _ _ => pv 3)))
      (pss_cons (ps_while PassesOwn.never (pt_truth (pv 2) (by intro _; rfl))
        (pss_cons (ps_set (i := 1) nd rfl (Or.inr rfl) (pe_lc (own := [("name", 3)]) (g := gName 3) (tt := tTest (tOp (rIn K true) (tVar 3) (tVar 2))) (te := tVar 3) rfl nd (pi_list (pv 1)) (blkOk_by (N := HoN) (sc := defScope sHo) (by decide +kernel))
          (fun _ _ _ _ _ => pg_name (i := 3) nd rfl (Or.inl rfl)) (fun _ _ _ _ _ => pts_one (pt_cmpR (op_notIn_seq : OpR _ _ (rIn K true)) (pv 3) (pv 2) (by rfl))) (fun _ _ _ _ _ => pv 3)))
        (pss_one (ps_set (i := 2) nd rfl (Or.inr rfl) (pe_lc (own := [("name", 3)]) (g := gName 3) (tt := tTest (tCall (spLk K C CT CY) [] E0 (tCons (tVar 0) (tCons (tVar 3) (tCons (tVar 1) tNil))))) (te := tVar 3) rfl nd (pi_list (pv 1)) (blkOk_by (N := HoN) (sc := defScope sHo) (by decide +kernel))
          (fun _ _ _ _ _ => pg_name (i := 3) nd rfl (Or.inl rfl)) (fun _ _ _ _ _ => pts_one (pt_val (pe_def dK hr rfl (pa_cons (pv 0) (pa_cons (pv 3) (pa_cons (pv 1) pa_nil)))))) (fun _ _ _ _ _ => pv 3))))))
      (pss_one (ps_ret (pv 1))))), ?_⟩
    refine ⟨_, rfl, a, st, ss, es, rfl, hY, fun l1 H1 s1 n1 g1 => ?_⟩
    have p40 : (pendL ss).length ≤ 40 := Nat.le_trans (List.length_filter_le ..) hY.fewn
    refine seq_rd (set_rd (lack_rd (iN := 3) (i0 := 0) (i2 := 1) (hY.same s1) hLe g1 (fun n hn => hn) p40 rfl (fun _ => rfl) (fun _ => rfl) (fun _ => rfl) (fun _ => rfl) (fun l2 H2 s2 n2 g2 => ?_)))
    refine ⟨fun m σ H' => ∃ (la lb : Addr) (ns : List Str) (j : Nat), m = ns.length ∧ Same H H' ∧ H la = none ∧ H' la = some (.lst (ns.map V.str)) ∧ H' lb = some (.lst ((ns.filter (lackB (es.map (·.2)) ss ns)).map V.str)) ∧ ns.length ≤ j ∧ ns.length ≤ 40 ∧ (∀ n ∈ ns, n ∈ pendL ss) ∧ hopeM (es.map (·.2)) ss j ns = hopeL (es.map (·.2)) ss ∧ σ = [some (.ref a), some (.ref la), some (.ref lb), none], ⟨_, l1, l2, pendL ss, (pendL ss).length, rfl, s1.trans s2, n1, s2 _ _ g1, g2, Nat.le_refl _, p40, fun n hn => hn, rfl, rfl⟩, ?_⟩
    rintro m σ H3 ⟨la, lb, ns, j, rfl, s3, na, ga, gb, lj, l40, pd, he, rfl⟩
    refine ⟨_, rfl, _, .inl ⟨_, SqL.of gb, rfl⟩, ?_⟩
    by_cases c : ns.filter (lackB (es.map (·.2)) ss ns) = []
    · refine ite_no (by rw [c]; rfl) ?_
      refine ⟨_, rfl, ?_⟩
      rw [hope_done c] at he
      rw [he] at ga
      exact k la H3 s3 na ga
    · have ne : ((ns.filter (lackB (es.map (·.2)) ss ns)).map V.str) ≠ [] := fun z => c (strs_nil.mp z)
      refine ite_yes (by cases q : (ns.filter (lackB (es.map (·.2)) ss ns)).map V.str with | nil => exact absurd q ne | cons x y => rfl) ?_
      obtain ⟨j, rfl⟩ : ∃ j', j = j' + 1 := by
        cases j with
        | zero =>
          have : ns = [] := List.length_eq_zero_iff.mp (by omega)
          rw [this] at c
          exact absurd rfl c
        | succ j => exact ⟨j, rfl⟩
      rw [hopeM, if_neg c] at he
      have less := hope_less c
      generalize hlk : ns.filter (lackB (es.map (·.2)) ss ns) = lk at he gb less
      refine ⟨fun σ' H' => ∃ m', m' < ns.length ∧ ∃ (la lb : Addr) (ns : List Str) (j : Nat), m' = ns.length ∧ Same H H' ∧ H la = none ∧ H' la = some (.lst (ns.map V.str)) ∧ H' lb = some (.lst ((ns.filter (lackB (es.map (·.2)) ss ns)).map V.str)) ∧ ns.length ≤ j ∧ ns.length ≤ 40 ∧ (∀ n ∈ ns, n ∈ pendL ss) ∧ hopeM (es.map (·.2)) ss j ns = hopeL (es.map (·.2)) ss ∧ σ' = [some (.ref a), some (.ref la), some (.ref lb), none], fun _ _ h => h, ?_⟩
      refine ⟨_, rfl, la, rfl, ⟨_, SqL.of ga⟩, fun D hD => lc_it (walk_list (xs := ns.map V.str)) (AccP H3 D (filV (fun n => !has lk n) V.str ns)) (AccP.zero hD rfl) (fun _ _ _ p => SqL.of (p.1 _ _ ga)) ?_ ?_⟩
      · rintro i x H4 H5 hi p ⟨rfl, hx⟩
        obtain ⟨n, hn, rfl⟩ := getE hx
        refine ⟨rfl, _, rfl, _, rfl, lb, _, rfl, .inl (SqL.of (p.1 _ _ gb)), rfl, flat_strs _, _, rfl, ?_⟩
        rw [if_pos rfl, inV_str]
        cases cc : !has lk n with
        | true =>
          refine ite_yes rfl ?_
          exact ⟨_, rfl, p.step hD (filV_yes hn cc) (Nat.le_trans (filV_len ..) (by omega)) (Same.refl _)⟩
        | false =>
          refine ite_no rfl ?_
          exact p.skip (filV_no hn cc) (Same.refl _)
      · intro H4 p
        have g4 : H4 D = some (.lst ((ns.filter fun n => !has lk n).map V.str)) := by
          have := p.2
          rw [List.length_map] at this
          rw [this]
          unfold filV
          rw [List.take_length]
        have s4 := s3.trans p.1
        have nD : H D = none := by
          cases z : H D with
          | none => rfl
          | some o => rw [s3 _ _ z] at hD; cases hD
        have pd' : ∀ n ∈ ns.filter (fun n => !has lk n), n ∈ pendL ss := fun n hn => pd n (List.mem_filter.mp hn).1
        refine set_rd (lack_rd (iN := 3) (i0 := 0) (i2 := 1) (hY.same s4) hLe g4 pd' (by omega) rfl (fun _ => rfl) (fun _ => rfl) (fun _ => rfl) (fun _ => rfl) (fun l5 H5 s5 n5 g5 => ?_))
        exact ⟨_, less, D, l5, _, j, rfl, s4.trans s5, nD, s5 _ _ g4, g5, by omega, by omega, pd', he, rfl⟩
abbrev HlN : List Str := ["system", "others", "name"]
theorem scHl : FnScope HlN ["system"] (defScope sHl) := ⟨rfl, rfl, rfl, by decide +kernel, rfl, by decide +kernel, by decide +kernel⟩
theorem ok_hl {f : Addr} {fd : FuncData} (F : Fun K "hopeless" "hopeless" sHl f fd) (dP : Def P w K mg base 3 "pending" ["system"] (spPen K C CT CY)) (dH : Def P w K mg base 6 "hopeful" ["system"] (spNs K C CT CY hopeL)) : FnOk P w K mg base CX0 7 f fd ["system"] (spNs K C CT CY lossL) := by
  refine F.ok scHl (fun vs H Q E h => ?_) (fun cdv A outer s H vs Q E hr h => ?_)
  · obtain ⟨a, st, ss, es, rfl, _⟩ := h
    rfl
  · obtain ⟨a, st, ss, es, rfl, hY, hLe, k⟩ := h
    have nd := scHl.nd
    have r3 : Room 3 _ := hr.mono (by decide)
    refine ⟨_, pss_cons (ps_set (i := 1) nd rfl (Or.inr rfl) (pe_def dH hr rfl (pa_cons (pv 0) pa_nil)))
      (pss_one (ps_ret (pe_lc (own := [("name", 2)]) (g := gName 2) (tt := tTest (tOp (rIn K true) (tVar 2) (tVar 1))) (te := tVar 2) rfl nd (pi_list (pe_def dP r3 rfl (pa_cons (pv 0) pa_nil))) (blkOk_by (N := HlN) (sc := defScope sHl) (by decide +kernel))
          (fun _ _ _ _ _ => pg_name (i := 2) nd rfl (Or.inl rfl)) (fun _ _ _ _ _ => pts_one (pt_cmpR (op_notIn_seq : OpR _ _ (rIn K true)) (pv 2) (pv 1) (by rfl))) (fun _ _ _ _ _ => pv 2)))), ?_⟩
    refine ⟨_, rfl, a, st, ss, es, rfl, hY, hLe, fun l1 H1 s1 n1 g1 => ?_⟩
    refine ⟨_, rfl, a, st, ss, es, rfl, hY.same s1, fun l2 H2 s2 n2 g2 => ?_⟩
    have p40 : (pendL ss).length ≤ 40 := Nat.le_trans (List.length_filter_le ..) hY.fewn
    refine ⟨l2, rfl, ⟨_, SqL.of g2⟩, fun D hD => lc_it (walk_list (xs := (pendL ss).map V.str)) (AccP H2 D (filV (fun n => !has (hopeL (es.map (·.2)) ss) n) V.str (pendL ss))) (AccP.zero hD rfl) (fun _ _ _ p => SqL.of (p.1 _ _ g2)) ?_ ?_⟩
    · rintro i x H4 H5 hi p ⟨rfl, hx⟩
      obtain ⟨n, hn, rfl⟩ := getE hx
      refine ⟨rfl, _, rfl, _, rfl, l1, _, rfl, .inl (SqL.of (p.1 _ _ (s2 _ _ g1))), rfl, flat_strs _, _, rfl, ?_⟩
      rw [if_pos rfl, inV_str]
      cases cc : !has (hopeL (es.map (·.2)) ss) n with
      | true =>
        refine ite_yes rfl ?_
        exact ⟨_, rfl, p.step hD (filV_yes hn cc) (Nat.le_trans (filV_len ..) (by omega)) (Same.refl _)⟩
      | false =>
        refine ite_no rfl ?_
        exact p.skip (filV_no hn cc) (Same.refl _)
    · intro H4 p
      have nD : H D = none := by
        cases z : H D with
        | none => rfl
        | some o => rw [s2 _ _ (s1 _ _ z)] at hD; cases hD
      refine k D H4 (s1.trans (s2.trans p.1)) nD ?_
      have := p.2
      rw [List.length_map] at this
      rw [this]
      unfold filV lossL
      rw [List.take_length]
end
end Half

namespace Half
open PySem PySem.Spec PyProof.Rows L2
/-! ### orders: all of them -/
abbrev sAo : Stmt := top 32
def ordersM : Nat → List Str → List (List Str)
  | 0, _ => [[]]
  | m + 1, ns => if ns = [] then [[]] else ns.flatMap fun n => (ordersM m (ns.filter fun x => !decide (x = n))).map (n :: ·)
def OrdAt (K : PySem.W.Frag) (H : Hp) (p : Addr) (o : List Str) : Prop := SqT K H p (o.map V.str)
theorem others_less {ns : List Str} {n : Str} (h : n ∈ ns) : (ns.filter fun x => !decide (x = n)).length < ns.length :=
  List.length_filter_lt_length_iff_exists.mpr ⟨n, h, by rw [decide_eq_true rfl]; decide⟩
theorem flat_len {α β : Type} {f : α → List β} {b : Nat} : ∀ {l : List α}, (∀ x ∈ l, (f x).length ≤ b) → (l.flatMap f).length ≤ l.length * b
  | [], _ => Nat.zero_le _
  | x :: l, h => by
    have ih := flat_len (l := l) fun y hy => h y (.tail _ hy)
    have h1 := h x (.head _)
    rw [List.flatMap_cons, List.length_append, List.length_cons, Nat.succ_mul]
    omega
theorem orders_len : ∀ (m : Nat) (ns : List Str), ns.length ≤ 6 → (ordersM m ns).length ≤ 6 ^ m
  | 0, _, _ => Nat.le_refl _
  | m + 1, ns, h => by
    rw [ordersM]
    split
    · exact Nat.one_le_pow _ _ (by decide)
    · have b : ∀ n ∈ ns, ((ordersM m (ns.filter fun x => !decide (x = n))).map (n :: ·)).length ≤ 6 ^ m := fun n _ => by
        rw [List.length_map]
        exact orders_len m _ (Nat.le_trans (List.length_filter_le ..) h)
      refine Nat.le_trans (flat_len b) ?_
      rw [Nat.pow_succ, Nat.mul_comm]
      exact Nat.mul_le_mul_left _ h
theorem flat_take {α β : Type} {f : α → List β} {l : List α} {i : Nat} {x : α} (h : l[i]? = some x) : (l.take (i + 1)).flatMap f = (l.take i).flatMap f ++ f x := by
  rw [take_next h, List.flatMap_append, List.flatMap_singleton]
def spAo (K : PySem.W.Frag) (m : Nat) : Sp := fun vs H Q _ => ∃ (l : Addr) (ns : List Str), vs = [.ref l] ∧ SqL K H l (ns.map V.str) ∧ ns.length ≤ m ∧ m ≤ 6 ∧
  ∀ H' D ps, Same H H' → H D = none → H' D = some (.lst (ps.map V.ref)) → Paired (OrdAt K H') ps (ordersM m ns) → Q (.ref D) H'
structure AoD (K : PySem.W.Frag) (mg : Str → Option Value) (f : Addr) (fd : FuncData) : Prop where
  F : Fun K "all_orders" "all_orders" sAo f fd
  g : mg "all_orders" = some (.ref f)
  k : PySem.W.keepIn K (.ref f) = true
  b : Binds K fd ["names"] []
abbrev AoN : List Str := ["names", "found", "name", "others", "other", "order"]
theorem scAo : FnScope AoN ["names"] (defScope sAo) := ⟨rfl, rfl, rfl, by decide +kernel, rfl, by decide +kernel, by decide +kernel⟩
theorem pmap {α β γ : Type} {R : α → β → Prop} {S : α → γ → Prop} {f : β → γ} (h : ∀ a b, R a b → S a (f b)) : ∀ {xs : List α} {ys : List β}, Paired R xs ys → Paired S xs (ys.map f)
  | _, _, .nil => .nil
  | _, _, .cons a t => .cons (h _ _ a) (pmap h t)
theorem papp {α β : Type} {R : α → β → Prop} : ∀ {xs : List α} {ys : List β} {xs' : List α} {ys' : List β}, Paired R xs ys → Paired R xs' ys' → Paired R (xs ++ xs') (ys ++ ys')
  | _, _, _, _, .nil, h => h
  | _, _, _, _, .cons a t, h => .cons a (papp t h)
theorem pimp {α β : Type} {R S : α → β → Prop} (h : ∀ a b, R a b → S a b) : ∀ {xs : List α} {ys : List β}, Paired R xs ys → Paired S xs ys
  | _, _, .nil => .nil
  | _, _, .cons a t => .cons (h _ _ a) (pimp h t)
section
variable {P : Program} {w : World} {K : PySem.W.Frag} {mg : Str → Option Value} {base : Heap}
theorem none_lt {H H' : Hp} {D : Addr} (s : Same H H') (h : H' D = none) : H D = none := by
  cases z : H D with
  | none => rfl
  | some o => rw [s _ _ z] at h; cases h
theorem ok_ao {f : Addr} {fd : FuncData} (A0 : AoD K mg f fd) : ∀ m, FnOk P w K mg base CX0 (1 + m) f fd ["names"] (spAo K m)
  | 0 => by
    refine A0.F.ok scAo (fun vs H Q E h => ?_) (fun cdv A outer s H vs Q E hr h => ?_)
    · obtain ⟨l, ns, rfl, _⟩ := h
      rfl
    · obtain ⟨l, ns, rfl, hl, l0, m6, k⟩ := h
      have e : ns = [] := List.length_eq_zero_iff.mp (by omega)
      subst e
      refine ⟨_, pss_cons (ps_if (pt_not (pt_truth (pv 0) (by intro _; rfl))) (pss_one (ps_ret (pe_lst (pa_cons (pe_tup pa_nil) pa_nil)))) pss_nil)
        (pss_cons ps_never (pss_cons ps_never (pss_one ps_never))), ?_⟩
      refine ⟨_, rfl, _, .inl ⟨_, hl, rfl⟩, ?_⟩
      refine ite_yes rfl ?_
      refine ⟨Nat.zero_le _, fun t nt => ⟨one_le, fun D nD => ?_⟩⟩
      have q1 := Same.upd_new (o := .tup []) nt
      have q2 := Same.upd_new (o := .lst [.ref t]) nD
      exact k _ D [t] (q1.trans q2) (none_lt q1 nD) upd_same (.cons (SqT.of (q2 _ _ upd_same)) .nil)
  | m + 1 => by
    have IH := ok_ao A0 m
    refine A0.F.ok scAo (fun vs H Q E h => ?_) (fun cdv A outer s H vs Q E hr h => ?_)
    · obtain ⟨l, ns, rfl, _⟩ := h
      rfl
    · obtain ⟨l, ns, rfl, hl, l0, m6, k⟩ := h
      have nd := scAo.nd
      have rm : Room (1 + m) _ := hr
      refine ⟨_, pss_cons (ps_if (pt_not (pt_truth (pv 0) (by intro _; rfl))) (pss_one (ps_ret (pe_lst (pa_cons (pe_tup pa_nil) pa_nil)))) pss_nil)
        (pss_cons (ps_set (i := 1) nd rfl (Or.inl rfl) (pe_lst pa_nil))
        (pss_cons (ps_for PassesOwn.never rfl (pi_list (pv 0)) (pg_name (i := 2) nd rfl (Or.inr rfl))
          (pss_cons (ps_setLc (i := 3) (own := [("other", 4)]) (g := gName 4) (tt := tTest (tOp rNe (tVar 4) (tVar 2))) (te := tVar 4) rfl nd rfl rfl (sw_true rfl rfl rfl (by decide +kernel)) (pi_list (pv 0)) (blkOk_by (N := AoN) (sc := defScope sAo) (by decide +kernel))
            (fun _ _ _ _ _ => pg_name (i := 4) nd rfl (Or.inl rfl)) (fun _ _ _ _ _ => pts_one (pt_cmpR op_ne (pv 4) (pv 2) (nomark _))) (fun _ _ _ _ _ => pv 4))
          (pss_one (ps_expr (pe_bm PySem.F.plainAttrs_list PySem.F.slot_list_extend PySem.F.type_list_extend mt_extend (pv 1) (pa_cons
            (pe_lc (own := [("order", 5)]) (g := gName 5) (tt := tYes) (te := tTup (tCons (tVar 2) (StX.tStar K (tVar 5) tNil))) rfl nd (pi_list (pe_call IH rm rfl A0.g A0.k A0.b .nil pass0 (pa_cons (pv 3) pa_nil))) (blkOk_by (N := AoN) (sc := defScope sAo) (by decide +kernel))
              (fun _ _ _ _ _ => pg_name (i := 5) nd rfl (Or.inl rfl)) (fun _ _ _ _ _ => pts_nil) (fun _ _ _ _ _ => pe_tup (pa_cons (pv 2) (StX.pa_star (pv 5) pa_nil)))) pa_nil))))))
        (pss_one (ps_ret (pv 1))))), ?_⟩
      refine ⟨_, rfl, _, .inl ⟨_, hl, rfl⟩, ?_⟩
      rw [ordersM] at k
      by_cases c : ns = []
      · rw [if_pos c] at k
        subst c
        refine ite_yes rfl ?_
        refine ⟨Nat.zero_le _, fun t nt => ⟨one_le, fun D nD => ?_⟩⟩
        have q1 := Same.upd_new (o := .tup []) nt
        have q2 := Same.upd_new (o := .lst [.ref t]) nD
        exact k _ D [t] (q1.trans q2) (none_lt q1 nD) upd_same (.cons (SqT.of (q2 _ _ upd_same)) .nil)
      · rw [if_neg c] at k
        refine ite_no (by cases ns with | nil => exact absurd rfl c | cons x y => rfl) ?_
        refine ⟨Nat.zero_le _, fun D nD => ?_⟩
        have s1 := Same.upd_new (o := .lst []) nD
        have g1 : (upd H D (.lst [])) D = some (.lst (([] : List Addr).map V.ref)) := upd_same
        generalize upd H D (.lst []) = H1 at s1 g1 ⊢
        refine ⟨_, rfl, l, rfl, ⟨_, s1.seq hl⟩, ?_⟩
        let G : Str → List (List Str) := fun n => (ordersM m (ns.filter fun x => !decide (x = n))).map (n :: ·)
        have p6 : (6 : Nat) ^ m ≤ 6 ^ 5 := Nat.pow_le_pow_right (by decide) (by omega)
        have gl : ∀ n, (G n).length ≤ 6 ^ m := fun n => by
          show (List.map _ _).length ≤ _
          rw [List.length_map]
          exact orders_len m _ (Nat.le_trans (List.length_filter_le ..) (by omega))
        refine for_it (walk_list (xs := ns.map V.str)) (fun j σ H' => Same H H' ∧ ∃ (ps : List Addr) (x2 x3 : Option V), H' D = some (.lst (ps.map V.ref)) ∧ Paired (OrdAt K H') ps ((ns.take j).flatMap G) ∧ σ = [some (.ref l), some (.ref D), x2, x3, none, none]) ⟨s1, [], none, none, g1, .nil, rfl⟩ (fun j σ H' _ h => h.1.seq hl) ?_ ?_
        · rintro j x σ H2 H3 hj ⟨s2, ps, x2, x3, g2, hp, rfl⟩ ⟨rfl, hx⟩
          obtain ⟨n, hn, rfl⟩ := getE hx
          have nm := List.mem_of_getElem? hn
          have hl2 := s2.seq hl
          refine ⟨_, rfl, l, rfl, ⟨_, hl2⟩, fun D2 hD2 => lc_it (walk_list (xs := ns.map V.str)) (AccP H3 D2 (filV (fun x => !decide (x = n)) V.str ns)) (AccP.zero hD2 rfl) (fun _ _ _ p => p.1.seq hl2) ?_ ?_⟩
          · rintro i x H4 H5 hi p ⟨rfl, hx⟩
            obtain ⟨y, hy, rfl⟩ := getE hx
            refine ⟨rfl, _, rfl, _, rfl, rfl, _, rfl, ?_⟩
            rw [dec_str]
            cases cc : !decide (y = n) with
            | true =>
              refine ite_yes rfl ?_
              exact ⟨_, rfl, p.step hD2 (filV_yes hy cc) (Nat.le_trans (filV_len ..) (by omega)) (Same.refl _)⟩
            | false =>
              refine ite_no rfl ?_
              exact p.skip (filV_no hy cc) (Same.refl _)
          · intro H4 p
            have g4 : H4 D2 = some (.lst ((ns.filter fun x => !decide (x = n)).map V.str)) := by
              have := p.2
              rw [List.length_map] at this
              rw [this]
              unfold filV
              rw [List.take_length]
            have less := others_less nm
            have gD4 := p.1 _ _ g2
            refine ⟨_, rfl, .inl ⟨rfl, _, SqL.of gD4⟩, _, rfl, D2, _, rfl, SqL.of g4, by omega, by omega, fun H5 D5 qs s5 n5 g5 hq => ?_⟩
            refine ⟨D5, rfl, ⟨_, SqL.of g5⟩, fun D6 hD6 => lc_it (walk_list (xs := qs.map V.ref)) (fun i H' => Same H5 H' ∧ ∃ rs : List Addr, H' D6 = some (.lst (rs.map V.ref)) ∧ Paired (OrdAt K H') rs (((ordersM m (ns.filter fun x => !decide (x = n))).take i).map (n :: ·))) ⟨Same.upd_new hD6, [], upd_same, .nil⟩ (fun i H' _ h => SqL.of (h.1 _ _ g5)) ?_ ?_⟩
            · rintro i x H6 H7 hi ⟨s6, rs, g6, hr6⟩ ⟨rfl, hx⟩
              obtain ⟨q, hq1, rfl⟩ := getE hx
              obtain ⟨o, ho, hqo⟩ := paired_get hq hq1
              have hqo6 : SqT K H7 q (o.map V.str) := s6.sqT hqo
              have lo : (o.map V.str).length ≤ 1000 := by
                rw [List.length_map]
                exact orders_item m _ o (by omega) (List.mem_of_getElem? ho)
              refine ⟨rfl, _, rfl, _, rfl, q, _, rfl, .inl hqo6, ?_, fun t nt => ?_⟩
              · show (V.str n :: (o.map V.str ++ [])).length ≤ _
                rw [List.append_nil, List.length_cons, sizeLine_eq]
                omega
              have q7 := Same.upd_new (o := .tup (V.str n :: (o.map V.str ++ []))) nt
              have lrs := Paired.length hr6
              rw [List.length_map, List.length_take] at lrs
              have lim := orders_len m (ns.filter fun x => !decide (x = n)) (by omega)
              refine ⟨rs.map V.ref, q7 _ _ g6, by rw [List.length_map, sizeLine_eq]; omega, ?_, rs ++ [t], by rw [List.map_append]; exact upd_same, ?_⟩
              · exact fun b u z => by rw [upd_ne (ne_of_none z hD6)]; exact q7 _ _ (s6 _ _ z)
              · have kp : Kp K (upd H7 t (.tup (V.str n :: (o.map V.str ++ [])))) (upd (upd H7 t (.tup (V.str n :: (o.map V.str ++ [])))) D6 (.lst (rs.map V.ref ++ [V.ref t]))) := Kp.upd (q7 _ _ g6) (fun _ z => by cases z) (fun _ _ z => by cases z)
                have et : ((ordersM m (ns.filter fun x => !decide (x = n))).take (i + 1)).map (n :: ·) = ((ordersM m (ns.filter fun x => !decide (x = n))).take i).map (n :: ·) ++ [n :: o] := by
                  rw [take_next ho, List.map_append]
                  rfl
                rw [et]
                refine papp (pimp (fun v u h => kp _ _ (q7.sqT h)) hr6) (.cons (kp _ _ (SqT.of ?_)) .nil)
                rw [upd_same, List.append_nil]
                rfl
            · rintro H6 ⟨s6, rs, g6, hr6⟩
              have lqs := Paired.length hq
              rw [List.length_map, lqs, List.take_length] at hr6
              have S5 := p.1.trans (s5.trans s6)
              have gD6 := (s5.trans s6) _ _ gD4
              have lps := Paired.length hp
              have lrs := Paired.length hr6
              rw [List.length_map] at lrs
              have lim := orders_len m (ns.filter fun x => !decide (x = n)) (by omega)
              have lim2 := flat_len (l := ns.take j) (f := G) (b := 6 ^ m) fun y _ => gl y
              have lt : (ns.take j).length ≤ 6 := by rw [List.length_take]; omega
              have lim3 : (ns.take j).length * 6 ^ m ≤ 6 * 6 ^ 5 := Nat.mul_le_mul lt p6
              refine ⟨D, D6, ps.map V.ref, rs.map V.ref, rfl, rfl, gD6, g6, by rw [List.length_map, List.length_map, sizeLine_eq]; omega, ?_⟩
              have kp : Kp K H6 (upd H6 D (.lst (ps.map V.ref ++ rs.map V.ref))) := Kp.upd gD6 (fun _ z => by cases z) (fun _ _ z => by cases z)
              refine ⟨fun b u z => ?_, ps ++ rs, _, _, by rw [List.map_append]; exact upd_same, ?_, rfl⟩
              · rw [upd_ne (ne_of_none z nD)]
                exact S5 _ _ (s2 _ _ z)
              · rw [flat_take hn]
                exact papp (pimp (fun v u h => kp _ _ (S5.sqT h)) hp) (pimp (fun v u h => kp _ _ h) hr6)
        · rintro σ H2 ⟨s2, ps, x2, x3, g2, hp, rfl⟩
          rw [List.length_map, List.take_length] at hp
          exact ⟨_, rfl, k H2 D ps s2 nD g2 hp⟩
where
  orders_item : ∀ (m : Nat) (ns : List Str) (o : List Str), m ≤ 900 → o ∈ ordersM m ns → o.length ≤ 1000 := fun m ns o hm h => Nat.le_trans (go m ns o h) (by omega)
  go : ∀ (m : Nat) (ns : List Str) (o : List Str), o ∈ ordersM m ns → o.length ≤ m
    | 0, _, o, h => by rw [List.mem_singleton.mp h]; exact Nat.le_refl _
    | m + 1, ns, o, h => by
      rw [ordersM] at h
      split at h
      · rw [List.mem_singleton.mp h]
        exact Nat.zero_le _
      · obtain ⟨n, _, h⟩ := List.mem_flatMap.mp h
        obtain ⟨u, hu, rfl⟩ := List.mem_map.mp h
        have := go m _ u hu
        rw [List.length_cons]
        omega
end
end Half

namespace Half
open PySem PySem.Spec PyProof.Rows L2
/-! ### orders: one after another -/
abbrev sSor : Stmt := top 31
def muteB (es : List Edn) (ss : List (Str × St3)) (n : Str) : Bool := match stOf ss n with
  | some s => (match edAt es (n, s.2.1) with
    | some e => !has e.scr "setup"
    | none => false)
  | none => false
def freeL (es : List Edn) (ss : List (Str × St3)) (left done : List Str) : List Str := left.filter fun n => !lackB es ss done n
def muteL (es : List Edn) (ss : List (Str × St3)) (left : List Str) : List Str := left.filter (muteB es ss)
def pickS (a b c : List Str) : Str := (if a = [] then (if b = [] then c else b) else a).headD ""
abbrev Ord : Type := List (Str × Bool)
def orderM (es : List Edn) (ss : List (Str × St3)) : Nat → List Str → Ord → Ord
  | 0, _, o => o
  | k + 1, left, o => if left = [] then o else
    orderM es ss k (left.filter fun n => !decide (n = pickS (freeL es ss left (o.map (·.1))) (muteL es ss left) left)) (o ++ [(pickS (freeL es ss left (o.map (·.1))) (muteL es ss left) left, decide (freeL es ss left (o.map (·.1)) = []))])
def orderL (es : List Edn) (ss : List (Str × St3)) : Ord := orderM es ss (hopeL es ss).length (hopeL es ss) []
theorem order_done {es : List Edn} {ss : List (Str × St3)} {k : Nat} {o : Ord} : orderM es ss k [] o = o := by
  cases k with
  | zero => rfl
  | succ k => rw [orderM, if_pos rfl]
theorem pick_in {a b c : List Str} (ha : ∀ x ∈ a, x ∈ c) (hb : ∀ x ∈ b, x ∈ c) (hc : c ≠ []) : pickS a b c ∈ c := by
  unfold pickS
  have hd : ∀ l : List Str, l ≠ [] → (∀ x ∈ l, x ∈ c) → l.headD "" ∈ c := fun l hl h => by
    cases l with
    | nil => exact absurd rfl hl
    | cons x l => exact h x (.head _)
  split
  · split
    · exact hd c hc fun _ h => h
    · rename_i z; exact hd b z hb
  · rename_i z; exact hd a z ha
def StepAt (K : PySem.W.Frag) (H : Hp) (p : Addr) (x : Str × Bool) : Prop := SqT K H p [.str x.1, .bl x.2]
def spSor (K : PySem.W.Frag) (C CT CY : Addr) : Sp := fun vs H Q _ => ∃ (a st : Addr) (ss : List (Str × St3)) (es : Es), vs = [.ref a] ∧ SysOk K C CT CY H a st ss es ∧ Lean es ∧ ∀ D H' ps, Same H H' → H D = none → H' D = some (.lst (ps.map V.ref)) → Paired (StepAt K H') ps (orderL (es.map (·.2)) ss) → Q (.ref D) H'
abbrev SorN : List Str := ["system", "left", "order", "free", "mute", "done", "chosen", "name", "forced"]
theorem scSor : FnScope SorN ["system"] (defScope sSor) := ⟨rfl, rfl, rfl, by decide +kernel, rfl, by decide +kernel, by decide +kernel⟩
theorem truL {K : PySem.W.Frag} {H : Hp} {l : Addr} {ns : List Str} (h : H l = some (.lst (ns.map V.str))) : TruV K (.ref l) H (!decide (ns = [])) := .inl ⟨_, SqL.of h, by cases ns <;> rfl⟩
theorem acc_all {α : Type} {H1 H2 : Hp} {D : Addr} {p : α → Bool} {g : α → V} {l : List α} {n : Nat} (h : AccP H1 D (filV p g l) n H2) (e : n = l.length) : H2 D = some (.lst ((l.filter p).map g)) := by
  have := h.2
  rw [e] at this
  rw [this]
  unfold filV
  rw [List.take_length]
section
variable {P : Program} {w : World} {K : PySem.W.Frag} {mg : Str → Option Value} {base : Heap} {C CT CY CN CU : Addr}
theorem ok_sor {f : Addr} {fd : FuncData} (F : Fun K "setup_order" "setup_order" sSor f fd) (gL : mg "len" = none) (Y : SyF P w K mg base C CT CY CN CU) (G : EdG P w K mg base C) (dH : Def P w K mg base 6 "hopeful" ["system"] (spNs K C CT CY hopeL)) (dK : Def P w K mg base 5 "lacks" ["system", "name", "names"] (spLk K C CT CY)) (dE : Def P w K mg base 4 "edition_of" ["system", "name"] (spEo K C CT CY)) : FnOk P w K mg base CX0 7 f fd ["system"] (spSor K C CT CY) := by
  refine F.ok scSor (fun vs H Q E h => ?_) (fun cdv A outer s H vs Q E hr h => ?_)
  · obtain ⟨a, st, ss, es, rfl, _⟩ := h
    rfl
  · obtain ⟨a, st, ss, es, rfl, hY, hLe, k⟩ := h
    have nd := scSor.nd
    have r2 : Room 2 _ := hr.mono (by decide)
    have r4 : Room 4 _ := hr.mono (by decide)
    have r5 : Room 5 _ := hr.mono (by decide)
    refine ⟨_, pss_cons (ps_set (i := 1) nd rfl (Or.inl rfl) (pe_def dH hr rfl (pa_cons (pv 0) pa_nil)))
      (pss_cons (ps_set (i := 2) nd rfl (Or.inl rfl) (pe_lst pa_nil))
      (pss_cons (ps_while PassesOwn.never (pt_truth (pv 1) (by intro _; rfl))
        (pss_cons (ps_set (i := 5) nd rfl (Or.inr rfl) (pe_lc (own := [("name", 7), ("forced", 8)]) (g := gTup K 2 (gCons (gName 7) (gCons (gName 8) gNil))) (tt := tYes) (te := tVar 7) rfl nd (pi_list (pv 2)) (blkOk_by (N := SorN) (sc := defScope sSor) (by decide +kernel))
          (fun _ _ _ _ _ => pg_tup rfl (pgs_cons (pg_name (i := 7) nd rfl (Or.inl rfl)) (pgs_cons (pg_name (i := 8) nd rfl (Or.inl rfl)) pgs_nil))) (fun _ _ _ _ _ => pts_nil) (fun _ _ _ _ _ => pv 7)))
        (pss_cons (ps_setLc (i := 3) (own := [("name", 7)]) (g := gName 7) (tt := tNot (tTest (tCall (spLk K C CT CY) [] E0 (tCons (tVar 0) (tCons (tVar 7) (tCons (tVar 5) tNil)))))) (te := tVar 7) rfl nd rfl rfl (sw_true rfl rfl rfl (by decide +kernel)) (pi_list (pv 1)) (blkOk_by (N := SorN) (sc := defScope sSor) (by decide +kernel))
          (fun _ _ _ _ _ => pg_name (i := 7) nd rfl (Or.inl rfl)) (fun _ _ _ _ _ => pts_one (pt_not (pt_val (pe_def dK r5 rfl (pa_cons (pv 0) (pa_cons (pv 7) (pa_cons (pv 5) pa_nil))))))) (fun _ _ _ _ _ => pv 7))
        (pss_cons (ps_setLc (i := 4) (own := [("name", 7)]) (g := gName 7) (tt := tTest (tOp (rIn K true) (tC (.str "setup")) (tProp C (spGet C 2) [] E0 (tCall (spEo K C CT CY) [] E0 (tCons (tVar 0) (tCons (tVar 7) tNil)))))) (te := tVar 7) rfl nd rfl rfl (sw_true rfl rfl rfl (by decide +kernel)) (pi_list (pv 1)) (blkOk_by (N := SorN) (sc := defScope sSor) (by decide +kernel))
          (fun _ _ _ _ _ => pg_name (i := 7) nd rfl (Or.inl rfl)) (fun _ _ _ _ _ => pts_one (pt_cmpR (op_notIn_seq : OpR _ _ (rIn K true)) pe_str (pe_prp G.p2 Y.clE r2 (pe_def dE r4 rfl (pa_cons (pv 0) (pa_cons (pv 7) pa_nil)))) (by rfl))) (fun _ _ _ _ _ => pv 7))
        (pss_cons (ps_set (i := 6) nd rfl (Or.inr rfl) (pe_ix ix_list (pe_orT (pv 3) (pe_orT (pv 4) (pe_one (pv 1)))) pe_int (fun _ _ => rfl)))
        (pss_cons (ps_expr (pe_bm PySem.F.plainAttrs_list PySem.F.slot_list_append PySem.F.type_list_append mt_append (pv 2) (pa_cons (pe_tup (pa_cons (pv 6) (pa_cons (pe_cmpR op_eq (pe_callB call_len_seq (by rfl) gL PySem.boot_len (pa_cons (pv 3) pa_nil)) pe_int (nomark _)) pa_nil))) pa_nil)))
        (pss_one (ps_setLc (i := 1) (own := [("name", 7)]) (g := gName 7) (tt := tTest (tOp rNe (tVar 7) (tVar 6))) (te := tVar 7) rfl nd rfl rfl (sw_true rfl rfl rfl (by decide +kernel)) (pi_list (pv 1)) (blkOk_by (N := SorN) (sc := defScope sSor) (by decide +kernel))
          (fun _ _ _ _ _ => pg_name (i := 7) nd rfl (Or.inl rfl)) (fun _ _ _ _ _ => pts_one (pt_cmpR op_ne (pv 7) (pv 6) (nomark _))) (fun _ _ _ _ _ => pv 7)))))))))
      (pss_one (ps_ret (pv 2))))), ?_⟩
    have p40 : (pendL ss).length ≤ 40 := Nat.le_trans (List.length_filter_le ..) hY.fewn
    have h40 : (hopeL (es.map (·.2)) ss).length ≤ 40 := Nat.le_trans (hope_sub _ _).length_le p40
    refine ⟨_, rfl, a, st, ss, es, rfl, hY, hLe, fun l1 H1 s1 n1 g1 => ?_⟩
    refine ⟨Nat.zero_le _, fun D nD => ?_⟩
    have q2 := Same.upd_new (o := .lst []) nD
    have g2 : (upd H1 D (.lst [])) D = some (.lst (([] : List Addr).map V.ref)) := upd_same
    have gl2 := q2 _ _ g1
    have ne2 : l1 ≠ D := ne_of_none g1 nD
    have nDH := none_lt s1 nD
    have s2 := s1.trans q2
    generalize upd H1 D (.lst []) = H2 at q2 g2 gl2 s2 ⊢
    refine ⟨fun m σ H' => ∃ (lL : Addr) (left : List Str) (ps : List Addr) (o : Ord) (j : Nat) (x3 x4 x5 x6 : Option V), m = left.length ∧ Same H H' ∧ lL ≠ D ∧ H' lL = some (.lst (left.map V.str)) ∧ H' D = some (.lst (ps.map V.ref)) ∧ Paired (StepAt K H') ps o ∧ (∀ n ∈ left, n ∈ pendL ss) ∧ (∀ x ∈ o, x.1 ∈ ss.map (·.1)) ∧ left.length ≤ j ∧ o.length + left.length ≤ 40 ∧ orderM (es.map (·.2)) ss j left o = orderL (es.map (·.2)) ss ∧ σ = [some (.ref a), some (.ref lL), some (.ref D), x3, x4, x5, x6, none, none],
      ⟨_, l1, _, [], [], _, none, none, none, none, rfl, s2, ne2, gl2, g2, .nil, fun n hn => hope_in hn, fun x hx => (nomatch hx), Nat.le_refl _, by show 0 + _ ≤ 40; omega, rfl, rfl⟩, ?_⟩
    rintro m σ H3 ⟨lL, left, ps, o, j, x3, x4, x5, x6, rfl, s3, neD, gL3, gD3, hp, pd, od, lj, l40, eo, rfl⟩
    refine ⟨_, rfl, _, truL gL3, ?_⟩
    by_cases c : left = []
    · refine ite_no (by rw [decide_eq_true c]; rfl) ?_
      rw [c, order_done] at eo
      rw [eo] at hp
      exact ⟨_, rfl, k D H3 ps s3 nDH gD3 hp⟩
    · refine ite_yes (by rw [decide_eq_false c]; rfl) ?_
      obtain ⟨j, rfl⟩ : ∃ j', j = j' + 1 := by
        cases j with
        | zero => exact absurd (List.length_eq_zero_iff.mp (by omega)) c
        | succ j => exact ⟨j, rfl⟩
      rw [orderM, if_neg c] at eo
      refine ⟨fun σ' H' => ∃ m', m' < left.length ∧ ∃ (lL : Addr) (left : List Str) (ps : List Addr) (o : Ord) (j : Nat) (x3 x4 x5 x6 : Option V), m' = left.length ∧ Same H H' ∧ lL ≠ D ∧ H' lL = some (.lst (left.map V.str)) ∧ H' D = some (.lst (ps.map V.ref)) ∧ Paired (StepAt K H') ps o ∧ (∀ n ∈ left, n ∈ pendL ss) ∧ (∀ x ∈ o, x.1 ∈ ss.map (·.1)) ∧ left.length ≤ j ∧ o.length + left.length ≤ 40 ∧ orderM (es.map (·.2)) ss j left o = orderL (es.map (·.2)) ss ∧ σ' = [some (.ref a), some (.ref lL), some (.ref D), x3, x4, x5, x6, none, none], fun _ _ h => h, ?_⟩
      -- done
      have lps := Paired.length hp
      refine ⟨_, rfl, D, rfl, ⟨_, SqL.of gD3⟩, fun D4 hD4 => lc_it (walk_list (xs := ps.map V.ref)) (MapP H3 D4 (o.map fun x => V.str x.1)) (MapP.zero hD4) (fun _ _ _ p => SqL.of (p.1 _ _ gD3)) ?_ ?_⟩
      · rintro i x H4 H5 hi p ⟨rfl, hx⟩
        obtain ⟨q, hq, rfl⟩ := getE hx
        obtain ⟨y, hy, hqy⟩ := paired_get hp hq
        refine ⟨q, _, rfl, p.1.sqT hqy, rfl, _, _, rfl, _, _, rfl, rfl, rfl, ?_⟩
        exact ⟨_, rfl, p.step hD4 (by rw [List.getElem?_map, hy]; rfl) (by rw [List.length_map]; omega) (Same.refl _)⟩
      intro H4 p4
      obtain ⟨s4, g4⟩ := p4.done (by rw [List.length_map, List.length_map, lps])
      have g4 : H4 D4 = some (.lst ((o.map (·.1)).map V.str)) := by rw [g4, List.map_map]; rfl
      have dsub : ∀ n ∈ o.map (·.1), n ∈ ss.map (·.1) := fun n hn => by
        obtain ⟨x, hx, rfl⟩ := List.mem_map.mp hn
        exact od x hx
      have S4 := s3.trans s4
      have gL4 := s4 _ _ gL3
      generalize o.map (·.1) = dn at g4 dsub eo
      -- free
      refine ⟨_, rfl, lL, rfl, ⟨_, SqL.of gL4⟩, fun D5 hD5 => lc_it (walk_list (xs := left.map V.str)) (AccP H4 D5 (filV (fun n => !lackB (es.map (·.2)) ss dn n) V.str left)) (AccP.zero hD5 rfl) (fun _ _ _ p => SqL.of (p.1 _ _ gL4)) ?_ ?_⟩
      · rintro i x H5 H6 hi p ⟨rfl, hx⟩
        obtain ⟨n, hn, rfl⟩ := getE hx
        obtain ⟨hm, hpb⟩ := pend_in (pd n (List.mem_of_getElem? hn))
        obtain ⟨s5, hs5⟩ := stOf_some hm
        refine ⟨rfl, _, rfl, _, rfl, _, rfl, a, st, D4, ss, es, dn, n, s5, rfl, (hY.same S4).same p.1, hLe, .inl (SqL.of (p.1 _ _ g4)), dsub, hs5, pend_not_absent hs5 hpb, fun H7 s7 => ⟨_, rfl, ?_⟩⟩
        cases cc : !lackB (es.map (·.2)) ss dn n with
        | true =>
          refine ite_yes cc ?_
          exact ⟨_, rfl, p.step hD5 (filV_yes hn cc) (Nat.le_trans (filV_len ..) (by omega)) s7⟩
        | false =>
          refine ite_no cc ?_
          exact p.skip (filV_no hn cc) s7
      intro H5 p5
      have g5 : H5 D5 = some (.lst ((freeL (es.map (·.2)) ss left dn).map V.str)) := acc_all p5 (by rw [List.length_map])
      have S5 := S4.trans p5.1
      have gL5 := p5.1 _ _ gL4
      -- mute
      refine ⟨_, rfl, lL, rfl, ⟨_, SqL.of gL5⟩, fun D6 hD6 => lc_it (walk_list (xs := left.map V.str)) (AccP H5 D6 (filV (muteB (es.map (·.2)) ss) V.str left)) (AccP.zero hD6 rfl) (fun _ _ _ p => SqL.of (p.1 _ _ gL5)) ?_ ?_⟩
      · rintro i x H6 H7 hi p ⟨rfl, hx⟩
        obtain ⟨n, hn, rfl⟩ := getE hx
        obtain ⟨hm, hpb⟩ := pend_in (pd n (List.mem_of_getElem? hn))
        obtain ⟨s6, hs6⟩ := stOf_some hm
        refine ⟨rfl, _, rfl, _, rfl, a, st, ss, es, n, s6, rfl, (hY.same S5).same p.1, hs6, pend_not_absent hs6 hpb, fun e he ee H8 s8 => ?_⟩
        refine prp2 ((((hY.ed e he).same S5).same p.1).same s8) fun t ht => ⟨t, _, rfl, .inr ht, rfl, flat_strs _, _, rfl, ?_⟩
        rw [if_pos rfl, inV_str]
        have em : muteB (es.map (·.2)) ss n = !has e.2.scr "setup" := by unfold muteB; rw [hs6]; dsimp only; rw [ee]
        cases cc : !has e.2.scr "setup" with
        | true =>
          refine ite_yes rfl ?_
          exact ⟨_, rfl, p.step hD6 (filV_yes hn (em.trans cc)) (Nat.le_trans (filV_len ..) (by omega)) s8⟩
        | false =>
          refine ite_no rfl ?_
          exact p.skip (filV_no hn (em.trans cc)) s8
      intro H6 p6
      have g6 : H6 D6 = some (.lst ((muteL (es.map (·.2)) ss left).map V.str)) := acc_all p6 (by rw [List.length_map])
      have S6 := S5.trans p6.1
      have gL6 := p6.1 _ _ gL5
      have gf6 := p6.1 _ _ g5
      have gD6 := (s4.trans (p5.1.trans p6.1)) _ _ gD3
      have hp6 := pimp (fun v u h => (s4.trans (p5.1.trans p6.1)).sqT h) hp
      have fs : ∀ x ∈ freeL (es.map (·.2)) ss left dn, x ∈ left := fun x hx => (List.mem_filter.mp hx).1
      have ms : ∀ x ∈ muteL (es.map (·.2)) ss left, x ∈ left := fun x hx => (List.mem_filter.mp hx).1
      have chin := pick_in fs ms c
      -- chosen
      have pick : ∀ Q' : VK, Q' (.str (pickS (freeL (es.map (·.2)) ss left dn) (muteL (es.map (·.2)) ss left) left)) H6 → (tOp (rIxL K) (tOrT K (tVar 3) (tOrT K (tVar 4) (tVar 1))) (tC (.int 0))) [some (.ref a), some (.ref lL), some (.ref D), some (.ref D5), some (.ref D6), some (.ref D4), x6, none, none] H6 Q' := by
        intro Q' q'
        have hd : ∀ (l : List Str) (p : Addr), l ≠ [] → H6 p = some (.lst (l.map V.str)) → Q' (.str (l.headD "")) H6 → rIxL K (.ref p) (.int 0) H6 Q' := fun l p hl hg hq => by
          cases l with
          | nil => exact absurd rfl hl
          | cons y l => exact ⟨p, _, 0, _, rfl, rfl, SqL.of hg, atI_nat (j := 0) rfl, hq⟩
        unfold pickS at q'
        refine ⟨_, rfl, _, truL gf6, ?_⟩
        by_cases c1 : freeL (es.map (·.2)) ss left dn = []
        · rw [if_pos c1] at q'
          refine ite_no (by rw [decide_eq_true c1]; rfl) ?_
          refine ⟨_, rfl, _, truL g6, ?_⟩
          by_cases c2 : muteL (es.map (·.2)) ss left = []
          · rw [if_pos c2] at q'
            refine ite_no (by rw [decide_eq_true c2]; rfl) ?_
            exact ⟨_, rfl, hd left lL c gL6 q'⟩
          · rw [if_neg c2] at q'
            refine ite_yes (by rw [decide_eq_false c2]; rfl) ?_
            exact hd _ D6 c2 g6 q'
        · rw [if_neg c1] at q'
          refine ite_yes (by rw [decide_eq_false c1]; rfl) ?_
          exact hd _ D5 c1 gf6 q'
      refine pick _ ?_
      generalize hch : pickS (freeL (es.map (·.2)) ss left dn) (muteL (es.map (·.2)) ss left) left = ch at chin eo
      -- order.append
      have ef : decide (V.int (((freeL (es.map (·.2)) ss left dn).map V.str).length : Int) = V.int 0) = decide (freeL (es.map (·.2)) ss left dn = []) := by
        rw [L2.dec_int, List.length_map]
        cases freeL (es.map (·.2)) ss left dn with
        | nil => rfl
        | cons y l => rw [decide_eq_false (by simp)]; simp; omega
      refine ⟨_, rfl, .inl ⟨rfl, _, SqL.of gD6⟩, _, rfl, _, rfl, D5, _, rfl, .inl (SqL.of gf6), rfl, two_le, fun t nt => ?_⟩
      have q7 := Same.upd_new (o := .tup [.str ch, .bl (decide (V.int (((freeL (es.map (·.2)) ss left dn).map V.str).length : Int) = V.int 0))]) nt
      have g7 : SqT K (upd H6 t (.tup [.str ch, .bl (decide (V.int (((freeL (es.map (·.2)) ss left dn).map V.str).length : Int) = V.int 0))])) t [.str ch, .bl (decide (freeL (es.map (·.2)) ss left dn = []))] := SqT.of (by rw [upd_same, ef])
      have gD7 := q7 _ _ gD6
      have gL7 := q7 _ _ gL6
      have hp7 := pimp (fun v u h => q7.sqT h) hp6
      have S7 := S6.trans q7
      generalize upd H6 t (.tup [.str ch, .bl (decide (V.int (((freeL (es.map (·.2)) ss left dn).map V.str).length : Int) = V.int 0))]) = H7 at q7 g7 gD7 gL7 hp7 S7 ⊢
      refine ⟨D, _, _, rfl, rfl, gD7, by rw [List.length_map, sizeLine_eq]; omega, ?_⟩
      have kp : Kp K H7 (upd H7 D (.lst (ps.map V.ref ++ [V.ref t]))) := Kp.upd gD7 (fun _ z => by cases z) (fun _ _ z => by cases z)
      have g8 : (upd H7 D (.lst (ps.map V.ref ++ [V.ref t]))) D = some (.lst ((ps ++ [t]).map V.ref)) := by rw [List.map_append]; exact upd_same
      have S8 : Same H (upd H7 D (.lst (ps.map V.ref ++ [V.ref t]))) := fun b u z => by rw [upd_ne (ne_of_none z nDH)]; exact S7 _ _ z
      have gL8 : (upd H7 D (.lst (ps.map V.ref ++ [V.ref t]))) lL = some (.lst (left.map V.str)) := by rw [upd_ne neD]; exact gL7
      have hp8 : Paired (StepAt K (upd H7 D (.lst (ps.map V.ref ++ [V.ref t])))) (ps ++ [t]) (o ++ [(ch, decide (freeL (es.map (·.2)) ss left dn = []))]) := papp (pimp (fun v u h => kp _ _ h) hp7) (.cons (kp _ _ g7) .nil)
      generalize upd H7 D (.lst (ps.map V.ref ++ [V.ref t])) = H8 at g8 S8 gL8 hp8 ⊢
      -- left
      refine ⟨_, rfl, lL, rfl, ⟨_, SqL.of gL8⟩, fun D9 hD9 => lc_it (walk_list (xs := left.map V.str)) (AccP H8 D9 (filV (fun n => !decide (n = ch)) V.str left)) (AccP.zero hD9 rfl) (fun _ _ _ p => SqL.of (p.1 _ _ gL8)) ?_ ?_⟩
      · rintro i x H9 H10 hi p ⟨rfl, hx⟩
        obtain ⟨n, hn, rfl⟩ := getE hx
        refine ⟨rfl, _, rfl, _, rfl, rfl, _, rfl, ?_⟩
        rw [dec_str]
        cases cc : !decide (n = ch) with
        | true =>
          refine ite_yes rfl ?_
          exact ⟨_, rfl, p.step hD9 (filV_yes hn cc) (Nat.le_trans (filV_len ..) (by omega)) (Same.refl _)⟩
        | false =>
          refine ite_no rfl ?_
          exact p.skip (filV_no hn cc) (Same.refl _)
      intro H9 p9
      have g9 : H9 D9 = some (.lst ((left.filter fun n => !decide (n = ch)).map V.str)) := acc_all p9 (by rw [List.length_map])
      have less := others_less chin
      refine ⟨_, less, D9, _, ps ++ [t], _, j, _, _, _, _, rfl, S8.trans p9.1, fun z => ?_, g9, p9.1 _ _ g8, pimp (fun v u h => p9.1.sqT h) hp8, fun n hn => pd n (List.mem_filter.mp hn).1, fun x hx => ?_, by omega, ?_, eo, rfl⟩
      · rw [z, g8] at hD9
        cases hD9
      · rcases List.mem_append.mp hx with q | q
        · exact od x q
        · rw [List.mem_singleton.mp q]
          exact (pend_in (pd ch chin)).1
      · rw [List.length_append]
        show o.length + 1 + _ ≤ 40
        omega
end
end Half

/-! the least of two things, of a list of things: data that are alike; dicts with tuple keys, walked by their pairs -/
namespace L2
open PySem PySem.Spec PyProof.Rows
section
variable {prog : Program} {w : World} {A : Around} {E : Value → Shared → Prop} {s : Shared}
/-- min(a, b): b where it is the less -/
theorem min2_data {a b : Value} {x y : PyData} {as bs : List Addr} {Q : Value → Shared → Prop} (calm : A.handled = none) (ra : Reads s.heap a x as) (rb : Reads s.heap b y bs) (al : PySem.W.AlikeAll [x, y]) (room : A.units + 1 + PyData.depthAll [x, y] < cLine)
    (q : ∀ h' tk, (∀ c o, s.heap.get? c = some o → h'.get? c = some o) → Q (if PySem.W.dataLt y x = true then b else a) { s with heap := h', toks := tk }) : wpAny (model prog w) A (call (.builtin "min") [a, b]) Q E s := by
  have nm : (toString "min" ++ toString ".loop" : String) = "min.loop" := by decide
  refine call_function_tree F.kind_min F.plain_min F.entry_min (F.args_min2 _ _) ?_
  show wpAny _ A.in1 (Builtin.Builtins.bindParams "min" ["key", "default"] 0 ⟨[], []⟩ >>= _) _ _ s
  refine wpAny_bind (wpAny_of_eq (show Builtin.Builtins.bindParams "min" ["key", "default"] 0 ⟨[], []⟩ = pure [none, none] from rfl) ?_)
  show wpAny _ A.in1 (newTuple [a, b] >>= _) _ _ s
  refine wpAny_bind (wpAny_newObj_type ?_)
  have up1 : ∀ c o, s.heap.get? c = some o → (s.heap.push { cls := .type "tuple", data := .seq #[a, b] }).get? c = some o := fun c o e => Heap.get?_push_of_some _ e
  have tup : (s.heap.push { cls := .type "tuple", data := .seq #[a, b] }).IsTuple s.heap.objs.size #[a, b] := ⟨_, Heap.get?_push_size _ rfl, rfl, 0, rfl⟩
  have rd : ReadsAll s.heap (#[a, b] : Array Value).toList [x, y] (as ++ (bs ++ [])) := .cons ra (.cons rb .nil)
  refine wpAny_bind (PySem.W.iter_tupleW (A := A.in1) (s := { s with heap := s.heap.push { cls := .type "tuple", data := .seq #[a, b] } }) calm tup fun s2 e W st hfp hw hk => ?_)
  refine wpAny_bind (wpAny_newObj_type ?_)
  have off : s2.heap.objs.size ∉ [(s.heap.push { cls := .type "tuple", data := .seq #[a, b] }).objs.size, s.heap.objs.size] := fun m => Nat.lt_irrefl _ (hfp _ m)
  rw [nm]
  refine wpAny_pure ⟨plainId_quiet F.plain_min_loop _, codeAny_min_loop_firstH W s.heap (fun c o z => hw c o (up1 c o z)) _ (PySem.W.cmpIn_lt (A := A.in1) rd al room) s2.heap.objs.size off (fresh_in fun c o z => hk c o (up1 c o z)) _ (Nat.succ_pos _) (fun c o z => Heap.get?_push_of_some _ (hk c o (up1 c o z)))
    (W.frame 0 s2 _ s2.toks st (Nat.le_refl _) fun c _ o z => Heap.get?_push_of_some _ z) (Heap.get?_push_size _ rfl) fun v s' hP mv => ?_⟩
  obtain ⟨h', tk, rfl, hk'⟩ := PySem.W.moved_old e rfl (Moved.drop_new (tk := s2.toks) mv (Nat.le_refl _))
  have fin := q h' tk fun c o z => hk' c o (up1 c o z)
  have hv : v = if PySem.W.dataLt y x = true then b else a := by
    have hP : (#[a, b] : Array Value)[argBest (fun i j => PySem.W.dataLt (([x, y] : List PyData).getD i .none) (([x, y] : List PyData).getD j .none)) 1]? = some v := hP
    cases c : PySem.W.dataLt y x with
    | true =>
      have e1 : argBest (fun i j => PySem.W.dataLt (([x, y] : List PyData).getD i .none) (([x, y] : List PyData).getD j .none)) 1 = 1 := by simp [argBest, c]
      rw [e1] at hP
      simpa using hP.symm
    | false =>
      have e1 : argBest (fun i j => PySem.W.dataLt (([x, y] : List PyData).getD i .none) (([x, y] : List PyData).getD j .none)) 1 = 0 := by simp [argBest, c]
      rw [e1] at hP
      simpa using hP.symm
  rw [hv]
  exact fin
end
section
variable {X : Cx}
/-- min(x, y) of data -/
def rMin2 (K : PySem.W.Frag) : List V → Hp → VK → Prop := fun vs H Q => ∃ (x y : V) (dx dy : PyData), vs = [x, y] ∧ Dp K H x dx ∧ Dp K H y dy ∧ PySem.W.AlikeAll [dx, dy] ∧ PyData.depthAll [dx, dy] ≤ 20 ∧ Q (if PySem.W.dataLt dy dx = true then y else x) H
theorem cr_min2 (hc : X.calm = true) (hu : X.A.units + 40 < cLine) : CallR X (.builtin "min") (rMin2 X.K) := by
  rintro pins s σ H vs us Q I r ⟨x, y, dx, dy, rfl, h1, h2, al, dp, q⟩
  cases r with
  | @cons _ u _ us r1 r2 =>
    cases r2 with
    | @cons _ u' _ _ r2 r3 =>
      cases r3
      obtain ⟨as, ra⟩ := Dp.readsAll I _ _ [u, u'] (.cons h1 (.cons h2 .nil)) (.cons r1 (.cons r2 .nil))
      cases ra with
      | cons ra rb =>
        cases rb with
        | cons rb _ =>
          refine min2_data (I.ok.hd hc) ra rb al (by omega) fun h' tk kp => ?_
          cases c : PySem.W.dataLt dy dx with
          | true =>
            rw [c] at q
            exact ⟨y, H, I.kept kp, r2, q⟩
          | false =>
            rw [c] at q
            exact ⟨x, H, I.kept kp, r1, q⟩
theorem minD_mem (d : PyData) (ds : List PyData) : PySem.W.minD d ds ∈ d :: ds := by
  unfold PySem.W.minD
  induction ds generalizing d with
  | nil => exact List.mem_singleton.mpr rfl
  | cons y ys ih =>
    rw [List.foldl_cons]
    have h := ih (if PySem.W.dataLt y d = true then y else d)
    rcases List.mem_cons.mp h with e | e
    · rw [e]
      split
      · exact .tail _ (.head _)
      · exact .head _
    · exact .tail _ (.tail _ e)
theorem vals_back_at : ∀ {xs : List V} {us : List Value} {i : Nat} {u : Value}, Vals xs us → us[i]? = some u → ∃ x, xs[i]? = some x ∧ RelV x u
  | _, _, _, _, .nil, h => by simp at h
  | x :: _, _, 0, _, .cons r _, h => by
    cases h
    exact ⟨x, rfl, r⟩
  | _ :: _, _, i + 1, _, .cons _ t, h => vals_back_at (i := i) t h
/-- min(xs), xs a list of data -/
def rMinD (K : PySem.W.Frag) : List V → Hp → VK → Prop := fun vs H Q => ∃ (a : Addr) (xs : List V) (d : PyData) (ds : List PyData), vs = [.ref a] ∧ SqL K H a xs ∧ DpAll K H xs (d :: ds) ∧ PySem.W.AlikeAll (d :: ds) ∧ PyData.depthAll (d :: ds) ≤ 20 ∧
  ∀ (i : Nat) (x : V), xs[i]? = some x → (d :: ds)[i]? = some (PySem.W.minD d ds) → Q x H
theorem cr_minD (hc : X.calm = true) (hu : X.A.units + 40 < cLine) : CallR X (.builtin "min") (rMinD X.K) := by
  rintro pins s σ H vs us Q I r ⟨a, xs, d, ds, rfl, hs, hd, al, dp, q⟩
  obtain ⟨its, rv, hl, -⟩ := I.list hs
  rw [Vals.ref1 r]
  obtain ⟨as, ra⟩ := Dp.readsAll I _ _ its hd rv
  refine PySem.W.min_list_data (I.ok.hd hc) hl.isList (by rw [List.toList_toArray]; exact ra) al (by omega) fun i v h' tk bs hv rd kp => ?_
  rw [List.getElem?_toArray] at hv
  obtain ⟨bs', r1, lt, mem, _⟩ := PySem.W.readsAll_at ra i v hv
  have e : (d :: ds).getD i .none = PySem.W.minD d ds := by
    exact PySem.W.alike_unique _ _ v bs' bs (al.1 _ mem _ (minD_mem d ds)) (PyProof.Rows.Reads.keeps kp r1) rd
  obtain ⟨x, hx, rx⟩ := vals_back_at rv hv
  refine ⟨x, H, I.kept kp, rx, q i x hx ?_⟩
  rw [← e, List.getD_eq_getElem?_getD, List.getElem?_eq_getElem lt]
  rfl
end
end L2

namespace Half
open PySem PySem.Spec PyProof.Rows L2
/-! ### orders: how many are forced -/
abbrev sFc : Stmt := top 33
abbrev sFf : Stmt := top 34
def forB (es : List Edn) (ss : List (Str × St3)) (o : List Str) (i : Nat) : Bool := lackB es ss (o.take i) (o.getD i "")
def forcedN (es : List Edn) (ss : List (Str × St3)) (o : List Str) : Nat := ((List.range o.length).filter (forB es ss o)).length
def spFc (K : PySem.W.Frag) (C CT CY : Addr) : Sp := fun vs H Q _ => ∃ (a st t : Addr) (ss : List (Str × St3)) (es : Es) (o : List Str), vs = [.ref a, .ref t] ∧ SysOk K C CT CY H a st ss es ∧ Lean es ∧ SqT K H t (o.map V.str) ∧ (∀ n ∈ o, n ∈ pendL ss) ∧ o.length ≤ 100 ∧ ∀ H', Same H H' → Q (.int (forcedN (es.map (·.2)) ss o)) H'
abbrev FcN : List Str := ["system", "order", "at", "name"]
theorem scFc : FnScope FcN ["system", "order"] (defScope sFc) := ⟨rfl, rfl, rfl, by decide +kernel, rfl, by decide +kernel, by decide +kernel⟩
section
variable {P : Program} {w : World} {K : PySem.W.Frag} {mg : Str → Option Value} {base : Heap} {C CT CY CN CU : Addr}
theorem cut_take {xs : List V} {i : Nat} (h : i < xs.length) : cutV xs none (some (i : Int)) = xs.take i := by
  unfold cutV
  rw [HT.sIx_nat, HT.sIx_none, List.drop_zero, Nat.sub_zero, Nat.min_eq_left (Nat.le_of_lt h)]
theorem ok_fc {f : Addr} {fd : FuncData} (F : Fun K "forced_count" "forced_count" sFc f fd) (gL : mg "len" = none) (gE : mg "enumerate" = none) (dK : Def P w K mg base 5 "lacks" ["system", "name", "names"] (spLk K C CT CY)) : FnOk P w K mg base CX0 6 f fd ["system", "order"] (spFc K C CT CY) := by
  refine F.ok scFc (fun vs H Q E h => ?_) (fun cdv A outer s H vs Q E hr h => ?_)
  · obtain ⟨a, st, t, ss, es, o, rfl, _⟩ := h
    rfl
  · obtain ⟨a, st, t, ss, es, o, rfl, hY, hLe, ht, pd, l100, k⟩ := h
    have nd := scFc.nd
    refine ⟨_, pss_one (ps_ret (pe_callB call_len_seq (by rfl) gL PySem.boot_len (pa_cons
      (pe_lc (own := [("at", 2), ("name", 3)]) (g := gTup K 2 (gCons (gName 2) (gCons (gName 3) gNil))) (tt := tTest (tCall (spLk K C CT CY) [] E0 (tCons (tVar 0) (tCons (tVar 3) (tCons (tSl (rSlT K) (tVar 1) tNoPart (tPart (tVar 2))) tNil))))) (te := tVar 3) rfl nd (pi_enumT (by rfl) gE (pa_cons (pv 1) pa_nil)) (blkOk_by (N := FcN) (sc := defScope sFc) (by decide +kernel))
        (fun _ _ _ _ _ => pg_tup rfl (pgs_cons (pg_name (i := 2) nd rfl (Or.inl rfl)) (pgs_cons (pg_name (i := 3) nd rfl (Or.inl rfl)) pgs_nil))) (fun _ _ _ _ _ => pts_one (pt_val (pe_def dK hr rfl (pa_cons (pv 0) (pa_cons (pv 3) (pa_cons (pe_slice sl_tup (pv 1) po_none (po_some (pv 2))) pa_nil)))))) (fun _ _ _ _ _ => pv 3)) pa_nil))), ?_⟩
    have lo : (o.map V.str).length = o.length := List.length_map ..
    refine ⟨_, rfl, t, _, rfl, ht, fun D hD => lc_it (walk_enumT (xs := o.map V.str)) (AccP H D (filV (forB (es.map (·.2)) ss o) (fun i => V.str (o.getD i "")) (List.range o.length))) (AccP.zero hD rfl) (fun _ _ _ p => p.1.sqT ht) ?_ ?_⟩
    · rintro i x H1 H2 hi p hy
      obtain ⟨T, z1, z2, rfl, nT, rfl, e1, e2⟩ := hy
      cases e1
      obtain ⟨n, hn, rfl⟩ := getE e2
      have hi' : i < o.length := by rw [lo] at hi; exact hi
      have hr' : (List.range o.length)[i]? = some i := List.getElem?_range hi'
      have en : o.getD i "" = n := by rw [List.getD_eq_getElem?_getD, hn]; rfl
      have q1 := Same.upd_new (o := .tup [.int (i : Nat), .str n]) nT
      have s1 := p.1.trans q1
      obtain ⟨hm, hpb⟩ := pend_in (pd n (List.mem_of_getElem? hn))
      obtain ⟨s3, hs⟩ := stOf_some hm
      refine ⟨T, _, rfl, SqT.of upd_same, rfl, _, _, rfl, _, _, rfl, rfl, rfl, ?_⟩
      refine ⟨_, rfl, _, rfl, _, rfl, _, rfl, _, rfl, t, _, rfl, s1.sqT ht, fun z => ?_, fun u nu => ?_⟩
      · have := z.2
        rw [HT.sIx_nat, lo] at this
        omega
      rw [cut_take (by rw [lo]; exact hi')]
      have q2 := Same.upd_new (o := .tup ((o.map V.str).take i)) nu
      have s2 := s1.trans q2
      refine ⟨a, st, u, ss, es, o.take i, n, s3, rfl, hY.same s2, hLe, .inr (SqT.of (by rw [upd_same, List.map_take])), fun m hm => (pend_in (pd m (List.mem_of_mem_take hm))).1, hs, pend_not_absent hs hpb, fun H3 s3' => ⟨_, rfl, ?_⟩⟩
      have S : Same H1 H3 := q1.trans (q2.trans s3')
      have ef : forB (es.map (·.2)) ss o i = lackB (es.map (·.2)) ss (o.take i) n := by unfold forB; rw [en]
      cases cc : lackB (es.map (·.2)) ss (o.take i) n with
      | true =>
        refine ite_yes rfl ?_
        have := p.step hD (filV_yes hr' (ef.trans cc)) (Nat.le_trans (filV_len ..) (by rw [List.length_range]; omega)) S
        rw [en] at this
        exact ⟨_, rfl, this⟩
      | false =>
        refine ite_no rfl ?_
        exact p.skip (filV_no hr' (ef.trans cc)) S
    · intro H2 p
      have g := acc_all p (by rw [lo, List.length_range])
      refine ⟨D, _, rfl, .inl (SqL.of g), ?_⟩
      rw [List.length_map]
      exact k H2 p.1
end
end Half

namespace Half
open PySem PySem.Spec PyProof.Rows L2
/-! ### orders: the fewest forced -/
abbrev CO : Type := Int × List Str
def coD (c : CO) : PyData := .tuple [.int c.1, .tuple (c.2.map .str)]
theorem alike_strs : ∀ xs ys : List Str, PySem.W.alikeAll (xs.map PyData.str) (ys.map PyData.str) = true
  | [], _ => by simp [PySem.W.alikeAll]
  | _ :: _, [] => by simp [PySem.W.alikeAll]
  | x :: xs, y :: ys => by
    simp [PySem.W.alikeAll, PySem.W.alike, alike_strs xs ys]
theorem co_alike (a b : CO) : PySem.W.alike (coD a) (coD b) = true := by
  unfold coD
  simp [PySem.W.alike, PySem.W.alikeAll, alike_strs a.2 b.2]
theorem co_all (cs : List CO) : PySem.W.AlikeAll (cs.map coD) := by
  refine ⟨fun x hx y hy => ?_, fun x hx => ?_⟩
  · obtain ⟨a, _, rfl⟩ := List.mem_map.mp hx
    obtain ⟨b, _, rfl⟩ := List.mem_map.mp hy
    exact co_alike a b
  · obtain ⟨a, _, rfl⟩ := List.mem_map.mp hx
    unfold coD
    intro z
    cases z
theorem depth_strs : ∀ xs : List Str, PyData.depthAll (xs.map .str) = 0
  | [] => by simp [PyData.depthAll]
  | x :: xs => by simp [PyData.depthAll, PyData.depth, depth_strs xs]
theorem co_depth (cs : List CO) : PyData.depthAll (cs.map coD) ≤ 3 := by
  induction cs with
  | nil => simp [PyData.depthAll]
  | cons c cs ih =>
    have h : (coD c).depth ≤ 3 := by
      unfold coD
      simp [PyData.depth, PyData.depthAll, depth_strs c.2]
    simp only [List.map_cons, PyData.depthAll]
    omega
theorem co_lt {a b : CO} : (PySem.W.dataLt (coD a) (coD b) = true → a.1 ≤ b.1) ∧ (PySem.W.dataLt (coD a) (coD b) = false → b.1 ≤ a.1) := by
  unfold coD
  rw [PySem.W.dataLt_tuple, PySem.W.dataLt_cons (by simp [PySem.W.alike])]
  by_cases h : a.1 = b.1
  · exact ⟨fun _ => by omega, fun _ => by omega⟩
  · have e : PyData.eqv (.int a.1) (.int b.1) = false := by simp [PyData.eqv, h]
    rw [e, if_neg (by decide), PySem.W.dataLt_int]
    exact ⟨fun z => by have := of_decide_eq_true z; omega, fun z => by have := of_decide_eq_false z; omega⟩
theorem co_min : ∀ (cs : List CO) (c : CO), ∃ m, m ∈ c :: cs ∧ PySem.W.minD (coD c) (cs.map coD) = coD m ∧ ∀ x ∈ c :: cs, m.1 ≤ x.1
  | [], c => ⟨c, List.mem_singleton.mpr rfl, rfl, fun x h => by rw [List.mem_singleton.mp h]; exact Int.le_refl _⟩
  | y :: ys, c => by
    have e : PySem.W.minD (coD c) ((y :: ys).map coD) = PySem.W.minD (coD (if PySem.W.dataLt (coD y) (coD c) = true then y else c)) (ys.map coD) := by
      unfold PySem.W.minD
      rw [List.map_cons, List.foldl_cons]
      split <;> rfl
    have le : (if PySem.W.dataLt (coD y) (coD c) = true then y else c).1 ≤ y.1 ∧ (if PySem.W.dataLt (coD y) (coD c) = true then y else c).1 ≤ c.1 := by
      have := co_lt (a := y) (b := c)
      split
      · rename_i q; exact ⟨Int.le_refl _, this.1 q⟩
      · rename_i q; exact ⟨this.2 (by simpa using q), Int.le_refl _⟩
    obtain ⟨m, h1, h2, h3⟩ := co_min ys (if PySem.W.dataLt (coD y) (coD c) = true then y else c)
    have hm := h3 _ (List.mem_cons_self ..)
    refine ⟨m, ?_, e.trans h2, fun x hx => ?_⟩
    · rcases List.mem_cons.mp h1 with z | z
      · rw [z]
        split
        · exact .tail _ (.head _)
        · exact .head _
      · exact .tail _ (.tail _ z)
    · rcases List.mem_cons.mp hx with z | z
      · rw [z]
        omega
      · rcases List.mem_cons.mp z with z | z
        · rw [z]
          omega
        · exact h3 x (.tail _ z)
theorem strs_inj {a b : List Str} (h : a.map PyData.str = b.map PyData.str) : a = b := by
  induction a generalizing b with
  | nil =>
    cases b with
    | nil => rfl
    | cons y b => cases h
  | cons x a ih =>
    cases b with
    | nil => cases h
    | cons y b =>
      rw [List.map_cons, List.map_cons] at h
      injection h with h1 h2
      injection h1 with h1
      rw [h1, ih h2]
theorem coD_inj {a b : CO} (h : coD a = coD b) : a = b := by
  unfold coD at h
  injection h with h
  injection h with h1 h2
  injection h1 with h1
  injection h2 with h2 _
  injection h2 with h2
  exact Prod.ext h1 (strs_inj h2)
def fnO (es : List Edn) (ss : List (Str × St3)) (o : List Str) : CO := ((forcedN es ss o : Int), o)
def ordersL (es : List Edn) (ss : List (Str × St3)) (m : Nat) : List (List Str) := ordersM m (hopeL es ss)
def spFf (K : PySem.W.Frag) (C CT CY : Addr) (m : Nat) : Sp := fun vs H Q _ => ∃ (a st : Addr) (ss : List (Str × St3)) (es : Es), vs = [.ref a] ∧ SysOk K C CT CY H a st ss es ∧ Lean es ∧ (hopeL (es.map (·.2)) ss).length ≤ m ∧
  ∀ H' t u o, Same H H' → SqT K H' t [.int (forcedN (es.map (·.2)) ss o), .ref u] → SqT K H' u (o.map V.str) → o ∈ ordersL (es.map (·.2)) ss m → (∀ o' ∈ ordersL (es.map (·.2)) ss m, forcedN (es.map (·.2)) ss o ≤ forcedN (es.map (·.2)) ss o') → (∀ o1 os, ordersL (es.map (·.2)) ss m = o1 :: os → PySem.W.minD (coD (fnO (es.map (·.2)) ss o1)) ((os.map (fnO (es.map (·.2)) ss)).map coD) = coD (fnO (es.map (·.2)) ss o)) → Q (.ref t) H'
abbrev FfN : List Str := ["system", "order"]
theorem scFf : FnScope FfN ["system"] (defScope sFf) := ⟨rfl, rfl, rfl, by decide +kernel, rfl, by decide +kernel, by decide +kernel⟩
theorem orders_sub : ∀ (m : Nat) (ns : List Str) (o : List Str), o ∈ ordersM m ns → ∀ n ∈ o, n ∈ ns
  | 0, _, o, h, n, hn => by rw [List.mem_singleton.mp h] at hn; cases hn
  | m + 1, ns, o, h, n, hn => by
    rw [ordersM] at h
    split at h
    · rw [List.mem_singleton.mp h] at hn
      cases hn
    · obtain ⟨x, hx, h⟩ := List.mem_flatMap.mp h
      obtain ⟨u, hu, rfl⟩ := List.mem_map.mp h
      rcases List.mem_cons.mp hn with e | e
      · rw [e]
        exact hx
      · exact (List.mem_filter.mp (orders_sub m _ u hu n e)).1
theorem orders_le : ∀ (m : Nat) (ns : List Str) (o : List Str), o ∈ ordersM m ns → o.length ≤ m
  | 0, _, o, h => by rw [List.mem_singleton.mp h]; exact Nat.le_refl _
  | m + 1, ns, o, h => by
    rw [ordersM] at h
    split at h
    · rw [List.mem_singleton.mp h]
      exact Nat.zero_le _
    · obtain ⟨n, _, h⟩ := List.mem_flatMap.mp h
      obtain ⟨u, hu, rfl⟩ := List.mem_map.mp h
      have := orders_le m _ u hu
      rw [List.length_cons]
      omega
theorem orders_some : ∀ (m : Nat) (ns : List Str), ∃ o, o ∈ ordersM m ns
  | 0, _ => ⟨[], .head _⟩
  | m + 1, ns => by
    rw [ordersM]
    split
    · exact ⟨[], .head _⟩
    · rename_i c
      cases ns with
      | nil => exact absurd rfl c
      | cons n ns =>
        obtain ⟨o, ho⟩ := orders_some m ((n :: ns).filter fun x => !decide (x = n))
        exact ⟨n :: o, List.mem_flatMap.mpr ⟨n, .head _, List.mem_map.mpr ⟨o, ho, rfl⟩⟩⟩
def CoAt (K : PySem.W.Frag) (H : Hp) (p : Addr) (c : CO) : Prop := ∃ u, SqT K H p [.int c.1, .ref u] ∧ SqT K H u (c.2.map V.str)
section
variable {P : Program} {w : World} {K : PySem.W.Frag} {mg : Str → Option Value} {base : Heap} {C CT CY CN CU : Addr}
theorem dpS {H : Hp} : ∀ ns : List Str, DpAll K H (ns.map V.str) (ns.map PyData.str)
  | [] => .nil
  | n :: ns => .cons (.str n) (dpS ns)
theorem CoAt.dp {H : Hp} {p : Addr} {c : CO} (h : CoAt K H p c) : Dp K H (.ref p) (coD c) := by
  obtain ⟨u, h1, h2⟩ := h
  exact .tup h1 (.cons (.int _) (.cons (.tup h2 (dpS c.2)) .nil))
theorem co_dps {H : Hp} : ∀ {ps : List Addr} {cs : List CO}, Paired (CoAt K H) ps cs → DpAll K H (ps.map V.ref) (cs.map coD)
  | _, _, .nil => .nil
  | _, _, .cons h t => .cons h.dp (co_dps t)
theorem ok_ff {f : Addr} {fd : FuncData} {m : Nat} (hm : m ≤ 6) (F : Fun K "fewest_forced" "fewest_forced" sFf f fd) (gM : mg "min" = none) (dH : Def P w K mg base 6 "hopeful" ["system"] (spNs K C CT CY hopeL)) (dO : Def P w K mg base (1 + m) "all_orders" ["names"] (spAo K m)) (dC : Def P w K mg base 6 "forced_count" ["system", "order"] (spFc K C CT CY)) : FnOk P w K mg base CX0 8 f fd ["system"] (spFf K C CT CY m) := by
  refine F.ok scFf (fun vs H Q E h => ?_) (fun cdv A outer s H vs Q E hr h => ?_)
  · obtain ⟨a, st, ss, es, rfl, _⟩ := h
    rfl
  · obtain ⟨a, st, ss, es, rfl, hY, hLe, lm, k⟩ := h
    have nd := scFf.nd
    have r6 : Room 6 _ := hr.mono (by decide)
    have rm : Room (1 + m) _ := hr.mono (by omega)
    have hu2 : (A.deeper (envOfC "fewest_forced" (defScope sFf) s.heap.objs.size f cdv)).units + 40 < cLine := by have := hr.units; omega
    refine ⟨_, pss_one (ps_ret (pe_callB (cr_minD rfl hu2) (by rfl) gM (by decide +kernel) (pa_cons
      (pe_lc (own := [("order", 1)]) (g := gName 1) (tt := tYes) (te := tTup (tCons (tCall (spFc K C CT CY) [] E0 (tCons (tVar 0) (tCons (tVar 1) tNil))) (tCons (tVar 1) tNil))) rfl nd (pi_list (pe_def dO rm rfl (pa_cons (pe_def dH r6 rfl (pa_cons (pv 0) pa_nil)) pa_nil))) (blkOk_by (N := FfN) (sc := defScope sFf) (by decide +kernel))
        (fun _ _ _ _ _ => pg_name (i := 1) nd rfl (Or.inl rfl)) (fun _ _ _ _ _ => pts_nil) (fun _ _ _ _ _ => pe_tup (pa_cons (pe_def dC r6 rfl (pa_cons (pv 0) (pa_cons (pv 1) pa_nil))) (pa_cons (pv 1) pa_nil)))) pa_nil))), ?_⟩
    refine ⟨_, rfl, a, st, ss, es, rfl, hY, hLe, fun l1 H1 s1 n1 g1 => ?_⟩
    refine ⟨l1, _, rfl, SqL.of g1, lm, hm, fun H2 D2 ps s2 n2 g2 hp => ?_⟩
    have S2 := s1.trans s2
    let Fn : List Str → CO := fun o => ((forcedN (es.map (·.2)) ss o : Int), o)
    have lps := Paired.length hp
    have pw := orders_len m (hopeL (es.map (·.2)) ss) (by omega)
    have p6 : (6 : Nat) ^ m ≤ 6 ^ 6 := Nat.pow_le_pow_right (by decide) hm
    refine ⟨D2, rfl, ⟨_, SqL.of g2⟩, fun D hD => lc_it (walk_list (xs := ps.map V.ref)) (fun i H' => Same H2 H' ∧ ∃ qs : List Addr, H' D = some (.lst (qs.map V.ref)) ∧ Paired (CoAt K H') qs (((ordersM m (hopeL (es.map (·.2)) ss)).take i).map Fn)) ⟨Same.upd_new hD, [], upd_same, .nil⟩ (fun i H' _ h => SqL.of (h.1 _ _ g2)) ?_ ?_⟩
    · rintro i x H3 H4 hi ⟨s3, qs, g3, hq⟩ ⟨rfl, hx⟩
      obtain ⟨p, hp1, rfl⟩ := getE hx
      obtain ⟨o, ho, hpo⟩ := paired_get hp hp1
      have om := List.mem_of_getElem? ho
      have S3 := S2.trans s3
      refine ⟨rfl, _, rfl, _, rfl, a, st, p, ss, es, o, rfl, hY.same S3, hLe, s3.sqT hpo, fun n hn => hope_in (orders_sub m _ o om n hn), Nat.le_trans (orders_le m _ o om) (by omega), fun H5 s5 => ?_⟩
      refine ⟨_, rfl, two_le, fun t nt => ?_⟩
      have q6 := Same.upd_new (o := .tup [.int (forcedN (es.map (·.2)) ss o), .ref p]) nt
      have s56 := s5.trans q6
      have lqs := Paired.length hq
      rw [List.length_map, List.length_take] at lqs
      refine ⟨qs.map V.ref, s56 _ _ g3, by rw [List.length_map, sizeLine_eq]; omega, ?_, qs ++ [t], by rw [List.map_append]; exact upd_same, ?_⟩
      · exact fun b u z => by rw [upd_ne (ne_of_none z hD)]; exact s56 _ _ (s3 _ _ z)
      · have kp : Kp K (upd H5 t (.tup [.int (forcedN (es.map (·.2)) ss o), .ref p])) (upd (upd H5 t (.tup [.int (forcedN (es.map (·.2)) ss o), .ref p])) D (.lst (qs.map V.ref ++ [V.ref t]))) := Kp.upd (s56 _ _ g3) (fun _ z => by cases z) (fun _ _ z => by cases z)
        have et : ((ordersM m (hopeL (es.map (·.2)) ss)).take (i + 1)).map Fn = ((ordersM m (hopeL (es.map (·.2)) ss)).take i).map Fn ++ [Fn o] := by
          rw [take_next ho, List.map_append]
          rfl
        rw [et]
        refine papp (pimp (fun v u h => ?_) hq) (.cons ⟨p, kp _ _ (SqT.of upd_same), kp _ _ (s56.sqT (s3.sqT hpo))⟩ .nil)
        obtain ⟨u', h1, h2⟩ := h
        exact ⟨u', kp _ _ (s56.sqT h1), kp _ _ (s56.sqT h2)⟩
    · rintro H3 ⟨s3, qs, g3, hq⟩
      rw [List.length_map, lps, List.take_length] at hq
      obtain ⟨o0, h0⟩ := orders_some m (hopeL (es.map (·.2)) ss)
      generalize hos : ordersM m (hopeL (es.map (·.2)) ss) = os at hq h0
      cases os with
      | nil => cases h0
      | cons o1 os =>
        obtain ⟨mn, m1, m2, m3⟩ := co_min (os.map Fn) (Fn o1)
        have dps := co_dps hq
        refine ⟨D, _, coD (Fn o1), (os.map Fn).map coD, rfl, SqL.of g3, dps, co_all (Fn o1 :: os.map Fn), Nat.le_trans (co_depth (Fn o1 :: os.map Fn)) (by decide), fun i v hv hi => ?_⟩
        obtain ⟨q, hq1, rfl⟩ := getE hv
        obtain ⟨cc, hcc, u, hu1, hu2⟩ := paired_get hq hq1
        have ecc : cc = mn := by
          have e3 : (coD (Fn o1) :: (os.map Fn).map coD)[i]? = some (coD cc) := by
            have : (coD (Fn o1) :: (os.map Fn).map coD) = ((o1 :: os).map Fn).map coD := rfl
            rw [this, List.getElem?_map, hcc]
            rfl
          rw [m2, e3] at hi
          exact coD_inj (Option.some.inj hi)
        have m1' : mn ∈ (o1 :: os).map Fn := m1
        obtain ⟨o, ho, rfl⟩ := List.mem_map.mp m1'
        rw [ecc] at hu1 hu2
        have om : o ∈ ordersL (es.map (·.2)) ss m := by unfold ordersL; rw [hos]; exact ho
        have hmin : ∀ o' ∈ ordersL (es.map (·.2)) ss m, forcedN (es.map (·.2)) ss o ≤ forcedN (es.map (·.2)) ss o' := fun o' h' => by
          unfold ordersL at h'
          rw [hos] at h'
          have := m3 (Fn o') (List.mem_map.mpr ⟨o', h', rfl⟩)
          have this : (forcedN (es.map (·.2)) ss o : Int) ≤ (forcedN (es.map (·.2)) ss o' : Int) := this
          omega
        refine k H3 q u o (S2.trans s3) hu1 hu2 om hmin fun o1' os' e' => ?_
        unfold ordersL at e'
        rw [hos] at e'
        cases e'
        exact m2
end
end Half

namespace Half
open PySem PySem.Spec PyProof.Rows L2
/-! ### orders: what a package needs, near and far -/
abbrev sNb : Stmt := top 29
def needsOf (es : List Edn) (ss : List (Str × St3)) (x : Str) : List (Str × Int) := match stOf ss x with
  | some s => (match edAt es (x, s.2.1) with
    | some e => e.nee
    | none => [])
  | none => []
def freshL (es : List Edn) (ss : List (Str × St3)) (ns f : List Str) (x : Str) : List Str := ((needsOf es ss x).filter fun q => wmB ss ns q && !has f q.1).map (·.1)
def needM (es : List Edn) (ss : List (Str × St3)) (ns : List Str) : Nat → List Str → List Str → List Str
  | 0, _, f => f
  | k + 1, w, f => match w.getLast? with
    | none => f
    | some x => needM es ss ns k (w.dropLast ++ freshL es ss ns f x) (f ++ freshL es ss ns f x)
def needL (es : List Edn) (ss : List (Str × St3)) (ns : List Str) (x : Str) : List Str := needM es ss ns (ns.length + 1) [x] []
/-- each edition's needs have different names -/
def Diff (es : List Edn) : Prop := ∀ e ∈ es, (e.nee.map (·.1)).Nodup
section
variable {es : List Edn} {ss : List (Str × St3)} {ns f : List Str} {x : Str}
theorem need_done {k : Nat} : needM es ss ns k [] f = f := by
  cases k <;> rfl
theorem fresh_in {y : Str} (h : y ∈ freshL es ss ns f x) : y ∈ ns ∧ y ∉ f := by
  obtain ⟨q, hq, rfl⟩ := List.mem_map.mp h
  obtain ⟨_, h2⟩ := List.mem_filter.mp hq
  obtain ⟨h3, h4⟩ := Bool.and_eq_true_iff.mp h2
  unfold wmB at h3
  refine ⟨has_iff.mp (Bool.and_eq_true_iff.mp h3).1, fun z => ?_⟩
  rw [has_iff.mpr z] at h4
  cases h4
theorem needsOf_diff (D : Diff es) : ((needsOf es ss x).map (·.1)).Nodup := by
  unfold needsOf
  split
  · split
    · rename_i e he
      exact D e (List.mem_of_find?_eq_some he)
    · exact List.nodup_nil
  · exact List.nodup_nil
theorem fresh_nd (D : Diff es) : (freshL es ss ns f x).Nodup := (needsOf_diff D (x := x)).sublist (List.Sublist.map _ List.filter_sublist)
theorem fresh_app (D : Diff es) (hf : f.Nodup) : (f ++ freshL es ss ns f x).Nodup := List.nodup_append.mpr ⟨hf, fresh_nd D, fun a ha b hb e => (fresh_in hb).2 (e ▸ ha)⟩
end
def spNb (K : PySem.W.Frag) (C CT CY : Addr) : Sp := fun vs H Q _ => ∃ (a st l : Addr) (ss : List (Str × St3)) (es : Es) (ns : List Str) (x : Str), vs = [.ref a, .ref l, .str x] ∧ SysOk K C CT CY H a st ss es ∧ Lean es ∧ Diff (es.map (·.2)) ∧ H l = some (.lst (ns.map V.str)) ∧ (∀ n ∈ ns, n ∈ pendL ss) ∧ ns.Nodup ∧ ns.length ≤ 40 ∧ x ∈ ns ∧
  ∀ D H', Same H H' → H D = none → H' D = some (.lst ((needL (es.map (·.2)) ss ns x).map V.str)) → Q (.ref D) H'
abbrev NbN : List Str := ["system", "names", "name", "waiting", "needs", "fresh", "found", "need"]
theorem scNb : FnScope NbN ["system", "names", "name"] (defScope sNb) := ⟨rfl, rfl, rfl, by decide +kernel, rfl, by decide +kernel, by decide +kernel⟩
section
variable {P : Program} {w : World} {K : PySem.W.Frag} {mg : Str → Option Value} {base : Heap} {C CT CY CN CU : Addr}
theorem ok_nb {f : Addr} {fd : FuncData} (F : Fun K "needed_by" "needed_by" sNb f fd) (Y : SyF P w K mg base C CT CY CN CU) (dE : Def P w K mg base 4 "edition_of" ["system", "name"] (spEo K C CT CY)) (dW : Def P w K mg base 3 "would_meet" ["system", "names", "need"] (spWm K C CT CY)) : FnOk P w K mg base CX0 5 f fd ["system", "names", "name"] (spNb K C CT CY) := by
  refine F.ok scNb (fun vs H Q E h => ?_) (fun cdv A outer s H vs Q E hr h => ?_)
  · obtain ⟨a, st, l, ss, es, ns, x, rfl, _⟩ := h
    rfl
  · obtain ⟨a, st, l, ss, es, ns, x, rfl, hY, hLe, hD, hl, pd, nnd, n40, xin, k⟩ := h
    have nd := scNb.nd
    have r2 : Room 2 _ := hr.mono (by decide)
    have r3 : Room 3 _ := hr.mono (by decide)
    refine ⟨_, pss_cons (ps_set (i := 6) nd rfl (Or.inr rfl) (pe_lst pa_nil))
      (pss_cons (ps_set (i := 3) nd rfl (Or.inl rfl) (pe_lst (pa_cons (pv 2) pa_nil)))
      (pss_cons (ps_while PassesOwn.never (pt_truth (pv 3) (by intro _; rfl))
        (pss_cons (ps_set (i := 4) nd rfl (Or.inl rfl) (pe_prp Y.p3 Y.clE r2 (pe_def dE hr rfl (pa_cons (pv 0) (pa_cons (pe_bm0 PySem.F.plainAttrs_list PySem.F.slot_list_pop PySem.F.type_list_pop mt_pop (pv 3)) pa_nil)))))
        (pss_cons (ps_setLc (i := 5) (own := [("need", 7)]) (g := gName 7) (tt := tAnd (tTest (tCall (spWm K C CT CY) [] E0 (tCons (tVar 0) (tCons (tVar 1) (tCons (tVar 7) tNil))))) (tTest (tOp (rIn K true) (tOp (rIxT K) (tVar 7) (tC (.int 0))) (tVar 6)))) (te := tOp (rIxT K) (tVar 7) (tC (.int 0))) rfl nd rfl rfl (sw_true rfl rfl rfl (by decide +kernel)) (pi_tup (pv 4)) (blkOk_by (N := NbN) (sc := defScope sNb) (by decide +kernel))
          (fun _ _ _ _ _ => pg_name (i := 7) nd rfl (Or.inl rfl)) (fun _ _ _ _ _ => pts_one (PW.pt (pw_and (pt_val (pe_def dW r3 rfl (pa_cons (pv 0) (pa_cons (pv 1) (pa_cons (pv 7) pa_nil))))) (pw_and1 (pt_cmpR (op_notIn_seq : OpR _ _ (rIn K true)) (pe_ix (ix_tup : IxR _ (rIxT K)) (pv 7) pe_int (fun _ _ => rfl)) (pv 6) (by rfl)))))) (fun _ _ _ _ _ => pe_ix (ix_tup : IxR _ (rIxT K)) (pv 7) pe_int (fun _ _ => rfl)))
        (pss_cons (ps_expr (pe_bm PySem.F.plainAttrs_list PySem.F.slot_list_extend PySem.F.type_list_extend mt_extend (pv 6) (pa_cons (pv 5) pa_nil)))
        (pss_one (ps_expr (pe_bm PySem.F.plainAttrs_list PySem.F.slot_list_extend PySem.F.type_list_extend mt_extend (pv 3) (pa_cons (pv 5) pa_nil))))))))
      (pss_one (ps_ret (pv 6))))), ?_⟩
    refine ⟨Nat.zero_le _, fun DF nF => ⟨_, rfl, one_le, fun DW nW => ?_⟩⟩
    have q1 := Same.upd_new (o := .lst []) nF
    have q2 := Same.upd_new (o := .lst [.str x]) nW
    have s2 := q1.trans q2
    have gF : (upd (upd H DF (.lst [])) DW (.lst [.str x])) DF = some (.lst (([] : List Str).map V.str)) := q2 _ _ upd_same
    have gW : (upd (upd H DF (.lst [])) DW (.lst [.str x])) DW = some (.lst ([x].map V.str)) := upd_same
    have nWH := none_lt q1 nW
    have ne : DF ≠ DW := fun z => by rw [← z, upd_same] at nW; cases nW
    generalize upd (upd H DF (.lst [])) DW (.lst [.str x]) = H2 at s2 gF gW ⊢
    refine ⟨fun m σ H' => ∃ (ws fo : List Str) (j : Nat) (x4 x5 : Option V), m = j ∧ Same H H' ∧ H' DW = some (.lst (ws.map V.str)) ∧ H' DF = some (.lst (fo.map V.str)) ∧ (∀ n ∈ ws, n ∈ ns) ∧ (∀ n ∈ fo, n ∈ ns) ∧ fo.Nodup ∧ ws.length + ns.length ≤ j + fo.length ∧ ws.length ≤ fo.length + 1 ∧ needM (es.map (·.2)) ss ns j ws fo = needL (es.map (·.2)) ss ns x ∧ σ = [some (.ref a), some (.ref l), some (.str x), some (.ref DW), x4, x5, some (.ref DF), none],
      ⟨_, [x], [], ns.length + 1, none, none, rfl, s2, gW, gF, fun n hn => by rw [List.mem_singleton.mp hn]; exact xin, fun n hn => (nomatch hn), List.nodup_nil, by show 1 + _ ≤ _ + 0; omega, by show 1 ≤ 0 + 1; decide, rfl, rfl⟩, ?_⟩
    rintro m σ H3 ⟨ws, fo, j, x4, x5, rfl, s3, gW3, gF3, wsub, fsub, fnd, meas, w41, em, rfl⟩
    have flen : fo.length ≤ ns.length := len_sub fnd fsub
    refine ⟨_, rfl, _, truL gW3, ?_⟩
    by_cases c : ws = []
    · refine ite_no (by rw [decide_eq_true c]; rfl) ?_
      rw [c, need_done] at em
      rw [em] at gF3
      exact ⟨_, rfl, k DF H3 s3 nF gF3⟩
    · refine ite_yes (by rw [decide_eq_false c]; rfl) ?_
      have wpos : 0 < ws.length := List.length_pos_iff.mpr c
      obtain ⟨j, rfl⟩ : ∃ j', m = j' + 1 := ⟨m - 1, by omega⟩
      obtain ⟨y, hy⟩ : ∃ y, ws.getLast? = some y := by
        cases z : ws.getLast? with
        | none => exact absurd (List.getLast?_eq_none_iff.mp z) c
        | some y => exact ⟨y, rfl⟩
      have yin := wsub y (List.mem_of_getLast? hy)
      rw [needM, hy] at em
      dsimp only at em
      have hy' : (ws.map V.str)[(ws.map V.str).length - 1]? = some (.str y) := by
        rw [List.length_map, List.getElem?_map, ← List.getLast?_eq_getElem?, hy]
        rfl
      obtain ⟨hm, hpb⟩ := pend_in (pd y yin)
      obtain ⟨s5, hs5⟩ := stOf_some hm
      have fap := fresh_app (ss := ss) (ns := ns) (x := y) hD fnd
      have fin : ∀ z ∈ freshL (es.map (·.2)) ss ns fo y, z ∈ ns := fun z hz => (fresh_in hz).1
      have alen : (fo ++ freshL (es.map (·.2)) ss ns fo y).length ≤ ns.length := len_sub fap fun z hz => by
        rcases List.mem_append.mp hz with q | q
        · exact fsub z q
        · exact fin z q
      rw [List.length_append] at alen
      refine ⟨fun σ' H' => ∃ m', m' < j + 1 ∧ ∃ (ws fo : List Str) (j : Nat) (x4 x5 : Option V), m' = j ∧ Same H H' ∧ H' DW = some (.lst (ws.map V.str)) ∧ H' DF = some (.lst (fo.map V.str)) ∧ (∀ n ∈ ws, n ∈ ns) ∧ (∀ n ∈ fo, n ∈ ns) ∧ fo.Nodup ∧ ws.length + ns.length ≤ j + fo.length ∧ ws.length ≤ fo.length + 1 ∧ needM (es.map (·.2)) ss ns j ws fo = needL (es.map (·.2)) ss ns x ∧ σ' = [some (.ref a), some (.ref l), some (.str x), some (.ref DW), x4, x5, some (.ref DF), none], fun _ _ h => h, ?_⟩
      refine ⟨_, rfl, _, rfl, .inl ⟨rfl, _, SqL.of gW3⟩, DW, _, _, rfl, rfl, gW3, hy', ?_⟩
      have edl : (ws.map V.str).dropLast = ws.dropLast.map V.str := List.map_dropLast.symm
      have S4 : Same H (upd H3 DW (.lst (ws.map V.str).dropLast)) := fun b u z => by rw [upd_ne (ne_of_none z nWH)]; exact s3 _ _ z
      have gW4 : (upd H3 DW (.lst (ws.map V.str).dropLast)) DW = some (.lst (ws.dropLast.map V.str)) := by rw [upd_same, edl]
      have gF4 : (upd H3 DW (.lst (ws.map V.str).dropLast)) DF = some (.lst (fo.map V.str)) := by rw [upd_ne ne]; exact gF3
      generalize upd H3 DW (.lst (ws.map V.str).dropLast) = H4 at S4 gW4 gF4 ⊢
      refine ⟨a, st, ss, es, y, s5, rfl, hY.same S4, hs5, pend_not_absent hs5 hpb, fun e he ee H5 q5 => ?_⟩
      have S5 := S4.trans q5
      refine prp3 ((hY.ed e he).same S5) fun t hN => ?_
      obtain ⟨ts, hS, htl, hts⟩ := id hN
      have few : e.2.nee.length ≤ 100 := (hLe e he).1
      have eN : needsOf (es.map (·.2)) ss y = e.2.nee := by unfold needsOf; rw [hs5]; dsimp only; rw [ee]
      refine ⟨_, rfl, t, rfl, ⟨_, hS⟩, fun D6 hD6 => lc_it (walk_tup (xs := ts.map V.ref)) (AccP H5 D6 (filV (fun q => wmB ss ns q && !has fo q.1) (fun q => V.str q.1) e.2.nee)) (AccP.zero hD6 rfl) (fun _ _ _ p => p.1.sqT hS) ?_ ?_⟩
      · rintro i xx H6 H7 hi p ⟨rfl, hx⟩
        obtain ⟨t1, ht1, rfl⟩ := getE hx
        have hip : i < e.2.nee.length := by rw [List.length_map] at hi; omega
        have hq : e.2.nee[i]? = some e.2.nee[i] := List.getElem?_eq_getElem hip
        have ht := p.1.sqT (hts i t1 _ ht1 hq)
        have S6 := S5.trans p.1
        refine ⟨rfl, _, rfl, _, rfl, _, rfl, a, st, l, t1, ss, es, ns, e.2.nee[i], rfl, hY.same S6, .inl (SqL.of (S6 _ _ hl)), fun n hn => (pend_in (pd n hn)).1, ht, _, rfl, ?_⟩
        cases c1 : wmB ss ns e.2.nee[i] with
        | false =>
          refine ite_no rfl ?_
          refine ite_no rfl ?_
          exact p.skip (filV_no hq (by rw [c1]; rfl)) (Same.refl _)
        | true =>
          refine ite_yes rfl ?_
          refine ⟨_, rfl, t1, _, 0, _, rfl, rfl, ht, rfl, _, rfl, DF, _, rfl, .inl (SqL.of (p.1 _ _ (q5 _ _ gF4))), rfl, flat_strs _, _, rfl, ?_⟩
          rw [if_pos rfl, inV_str]
          cases c2 : !has fo e.2.nee[i].1 with
          | true =>
            refine ite_yes rfl ?_
            exact ⟨_, rfl, t1, _, 0, _, rfl, rfl, ht, rfl, p.step hD6 (filV_yes hq (by rw [c1, c2]; rfl)) (Nat.le_trans (filV_len ..) (by omega)) (Same.refl _)⟩
          | false =>
            refine ite_no rfl ?_
            exact p.skip (filV_no hq (by rw [c1, c2]; rfl)) (Same.refl _)
      intro H6 p6
      have g6 : H6 D6 = some (.lst ((freshL (es.map (·.2)) ss ns fo y).map V.str)) := by
        rw [acc_all p6 (by rw [List.length_map, htl])]
        unfold freshL
        rw [eN, List.map_map]
        rfl
      have S6 := S5.trans p6.1
      have gF6 := p6.1 _ _ (q5 _ _ gF4)
      have gW6 := p6.1 _ _ (q5 _ _ gW4)
      generalize freshL (es.map (·.2)) ss ns fo y = fr at g6 em fap fin alen
      have nD6 : D6 ≠ DF := fun z => by rw [z, q5 _ _ gF4] at hD6; cases hD6
      have nD6' : D6 ≠ DW := fun z => by rw [z, q5 _ _ gW4] at hD6; cases hD6
      refine ⟨_, rfl, .inl ⟨rfl, _, SqL.of gF6⟩, _, rfl, DF, D6, _, _, rfl, rfl, gF6, g6, by rw [List.length_map, List.length_map, sizeLine_eq]; omega, ?_⟩
      have g7 : (upd H6 DF (.lst (fo.map V.str ++ fr.map V.str))) D6 = some (.lst (fr.map V.str)) := by rw [upd_ne nD6]; exact g6
      have gF7 : (upd H6 DF (.lst (fo.map V.str ++ fr.map V.str))) DF = some (.lst ((fo ++ fr).map V.str)) := by rw [upd_same, List.map_append]
      have gW7 : (upd H6 DF (.lst (fo.map V.str ++ fr.map V.str))) DW = some (.lst (ws.dropLast.map V.str)) := by rw [upd_ne (Ne.symm ne)]; exact gW6
      have S7 : Same H (upd H6 DF (.lst (fo.map V.str ++ fr.map V.str))) := fun b u z => by rw [upd_ne (ne_of_none z nF)]; exact S6 _ _ z
      generalize upd H6 DF (.lst (fo.map V.str ++ fr.map V.str)) = H7 at g7 gF7 gW7 S7 ⊢
      have dl : ws.dropLast.length = ws.length - 1 := List.length_dropLast
      refine ⟨_, rfl, .inl ⟨rfl, _, SqL.of gW7⟩, _, rfl, DW, D6, _, _, rfl, rfl, gW7, g7, by rw [List.length_map, List.length_map, sizeLine_eq]; omega, ?_⟩
      refine ⟨j, by omega, ws.dropLast ++ fr, fo ++ fr, j, _, _, rfl, fun b u z => by rw [upd_ne (ne_of_none z nWH)]; exact S7 _ _ z, by rw [upd_same, List.map_append], by rw [upd_ne ne]; exact gF7, fun n hn => ?_, fun n hn => ?_, fap, ?_, ?_, em, rfl⟩
      · rcases List.mem_append.mp hn with q | q
        · exact wsub n ((List.dropLast_sublist ws).subset q)
        · exact fin n q
      · rcases List.mem_append.mp hn with q | q
        · exact fsub n q
        · exact fin n q
      · rw [List.length_append, List.length_append, dl]
        omega
      · rw [List.length_append, List.length_append, dl]
        omega
end
end Half

/-! min of a list of texts -/
namespace L2
open PySem PySem.Spec PyProof.Rows
def leastS (x : Str) (xs : List Str) : Str := xs.foldl (fun a y => if txLt y a = true then y else a) x
theorem leastS_in : ∀ (xs : List Str) (x : Str), leastS x xs ∈ x :: xs
  | [], x => List.mem_singleton.mpr rfl
  | y :: ys, x => by
    show leastS (if txLt y x = true then y else x) ys ∈ _
    have h := leastS_in ys (if txLt y x = true then y else x)
    rcases List.mem_cons.mp h with e | e
    · rw [e]
      split
      · exact List.mem_cons_of_mem _ (List.mem_cons_self ..)
      · exact List.mem_cons_self ..
    · exact List.mem_cons_of_mem _ (List.mem_cons_of_mem _ e)
theorem ge_tr {a b c : Str} (h1 : txLt b a = false) (h2 : txLt c b = false) : txLt c a = false := by
  cases h : txLt c a
  · rfl
  · cases e : txLt a b
    · have := tx_tot e h1
      rw [this] at h
      exact h.symm.trans h2
    · exact (tx_tr h e).symm.trans h2
theorem leastS_le : ∀ (xs : List Str) (x : Str), ∀ y ∈ x :: xs, txLt y (leastS x xs) = false
  | [], x, y, h => by
    rw [List.mem_singleton.mp h]
    exact tx_irr x
  | z :: zs, x, y, h => by
    have ih := leastS_le zs (if txLt z x = true then z else x)
    have head := ih _ (List.mem_cons_self ..)
    show txLt y (leastS (if txLt z x = true then z else x) zs) = false
    rcases List.mem_cons.mp h with e | e
    · rw [e]
      refine ge_tr head ?_
      split
      · rename_i c; exact tx_as c
      · exact tx_irr x
    · rcases List.mem_cons.mp e with e | e
      · rw [e]
        refine ge_tr head ?_
        split
        · exact tx_irr z
        · rename_i c; exact Bool.eq_false_iff.mpr c
      · exact ih y (List.mem_cons_of_mem _ e)
theorem minD_strs : ∀ (xs : List Str) (x : Str), PySem.W.minD (.str x) (xs.map PyData.str) = .str (leastS x xs)
  | [], x => rfl
  | y :: ys, x => by
    show PySem.W.minD (if PySem.W.dataLt (.str y) (.str x) = true then .str y else .str x) (ys.map PyData.str) = .str (leastS (if txLt y x = true then y else x) ys)
    rw [PySem.W.dataLt_str, ← minD_strs ys]
    unfold txLt
    split <;> rfl
theorem depth_strs : ∀ xs : List Str, PyData.depthAll (xs.map PyData.str) ≤ 1
  | [] => by simp [PyData.depthAll]
  | x :: xs => by
    have := depth_strs xs
    simp only [List.map_cons, PyData.depthAll, PyData.depth]
    omega
theorem dp_strs {K : PySem.W.Frag} {H : Hp} : ∀ xs : List Str, DpAll K H (xs.map V.str) (xs.map PyData.str)
  | [] => .nil
  | x :: xs => .cons (.str x) (dp_strs xs)
def rMinTx (K : PySem.W.Frag) : List V → Hp → VK → Prop := fun vs H Q => ∃ (a : Addr) (xs : List Str), vs = [.ref a] ∧ SqL K H a (xs.map V.str) ∧ xs ≠ [] ∧ ∀ m ∈ xs, (∀ y ∈ xs, txLt y m = false) → Q (.str m) H
theorem cr_minTx {X : Cx} (hc : X.calm = true) (hu : X.A.units + 2 < cLine) : CallR X (.builtin "min") (rMinTx X.K) := by
  rintro pins s σ H vs us Q I r ⟨a, xs, rfl, hs, ne, q⟩
  obtain ⟨its, rv, hl, -⟩ := I.list hs
  rw [Vals.ref1 r]
  cases xs with
  | nil => exact absurd rfl ne
  | cons x xs =>
    obtain ⟨as, ra⟩ := Dp.readsAll I _ _ its (dp_strs (x :: xs)) rv
    have al : PySem.W.AlikeAll ((x :: xs).map PyData.str) := by
      refine ⟨fun u hu v hv => ?_, fun u hu => ?_⟩
      · obtain ⟨p, -, rfl⟩ := List.mem_map.mp hu
        obtain ⟨p', -, rfl⟩ := List.mem_map.mp hv
        simp [PySem.W.alike]
      · obtain ⟨p, -, rfl⟩ := List.mem_map.mp hu
        exact fun z => nomatch z
    refine PySem.W.min_list_data (x := .str x) (xs := xs.map .str) (I.ok.hd hc) hl.isList (by simpa using ra) al (by have := depth_strs (x :: xs); rw [List.map_cons] at this; omega) fun i v h' tk bs hv rd kp => ?_
    rw [minD_strs] at rd
    cases rd
    exact ⟨.str _, H, I.kept kp, ⟨_, rfl⟩, q _ (leastS_in xs x) (leastS_le xs x)⟩
end L2

namespace Half
open PySem PySem.Spec PyProof.Rows L2
/-! ### orders: rings -/
abbrev sRg : Stmt := top 30
def rotL (es : List Edn) (ss : List (Str × St3)) (ns : List Str) (n : Str) : List Str := (needL es ss ns n).filter fun o => !decide (o = n) && has (needL es ss ns o) n
def firB (n : Str) (os : List Str) : Bool := !decide (os = []) && os.all fun o => txLt n o
def ringsL (es : List Edn) (ss : List (Str × St3)) : List (Str × List Str) := ((pendL ss).filter fun n => firB n (rotL es ss (pendL ss) n)).map fun n => (n, rotL es ss (pendL ss) n)
def RingAt (K : PySem.W.Frag) (H : Hp) (p : Addr) (x : Str × List Str) : Prop := ∃ ys : List Str, SqT K H p (V.str x.1 :: ys.map V.str) ∧ ys.Perm x.2 ∧ sortedS ys = true
def spRg (K : PySem.W.Frag) (C CT CY : Addr) : Sp := fun vs H Q _ => ∃ (a st : Addr) (ss : List (Str × St3)) (es : Es), vs = [.ref a] ∧ SysOk K C CT CY H a st ss es ∧ Lean es ∧ Diff (es.map (·.2)) ∧
  ∀ D H' ps, Same H H' → H D = none → H' D = some (.lst (ps.map V.ref)) → Paired (RingAt K H') ps (ringsL (es.map (·.2)) ss) → Q (.ref D) H'
abbrev RgN : List Str := ["system", "names", "name", "needed", "found", "others", "other"]
theorem scRg : FnScope RgN ["system"] (defScope sRg) := ⟨rfl, rfl, rfl, by decide +kernel, rfl, by decide +kernel, by decide +kernel⟩
theorem dc_walk {J : It} {n : Nat} {G : Hp → Prop} {Y : Nat → Hp → V → Hp → Prop} (wk : Walk J n G Y) {g : TG} {tt : TT} {tk tv : TE} {vs : List Nat} {σ : L2.St} {H1 : Hp} {D : Addr} {Qd : Hp → Prop} (Pv : Nat → Hp → Prop) (h0 : Pv 0 (upd H1 D (.dK []))) (hG : ∀ i H, i ≤ n → Pv i H → G H)
    (hs : ∀ i x H H', i < n → Pv i H → Y i H x H' → g x (wipe σ vs) H' fun σ2 H2 => wipe σ2 vs = wipe σ vs ∧ tt σ2 H2 fun b H3 => if b = true then tk σ2 H3 fun y H4 => tv σ2 H4 fun z H5 => ∃ kvs k, y = kV k ∧ H5 D = some (.dK kvs) ∧ kvs.length < sizeLine ∧ Pv (i + 1) (upd H5 D (.dK (putK kvs k z))) else Pv (i + 1) H3) (hd : ∀ H, Pv n H → Qd H) :
    ∃ W : Nat → Nat → Hp → Prop, (∃ m, W 0 m (upd H1 D (.dK []))) ∧ ∀ i m H, W i m H →
      (J.stop i H ∧ Qd H) ∨ (J.go i H ∧ ∃ Nx : Hp → Prop, (∀ H', Nx H' → ∃ m', m' < m ∧ W (i + 1) m' H') ∧ ∀ x H', J.yld i H x H' → g x (wipe σ vs) H' fun σ2 H2 => wipe σ2 vs = wipe σ vs ∧ tt σ2 H2 fun b H3 =>
        if b = true then tk σ2 H3 fun y H4 => tv σ2 H4 fun z H5 => ∃ kvs k, y = kV k ∧ H5 D = some (.dK kvs) ∧ kvs.length < sizeLine ∧ Nx (upd H5 D (.dK (putK kvs k z))) else Nx H3) := by
  refine ⟨fun i m H => m + i = n ∧ Pv i H, ⟨n, rfl, h0⟩, fun i m H h => ?_⟩
  obtain ⟨hm, p⟩ := h
  have gh := hG i H (by omega) p
  by_cases lt : i < n
  · refine .inr ⟨wk.goes i H lt gh, Pv (i + 1), fun H' q => ⟨m - 1, by omega, by omega, q⟩, fun x H' y => hs i x H H' lt p (wk.yields i H x H' lt gh y)⟩
  · have e : i = n := by omega
    subst e
    exact .inl ⟨wk.stops H gh, hd H p⟩
theorem least_in : ∀ (l : List Str), l ≠ [] → ∃ m ∈ l, ∀ y ∈ l, txLt y m = false
  | [], h => absurd rfl h
  | [x], _ => ⟨x, .head _, fun y hy => by rw [List.mem_singleton.mp hy]; exact tx_irr x⟩
  | x :: y :: l, _ => by
    obtain ⟨m, hm, h⟩ := least_in (y :: l) (by simp)
    cases c : txLt x m with
    | true =>
      refine ⟨x, .head _, fun z hz => ?_⟩
      rcases List.mem_cons.mp hz with e | e
      · rw [e]
        exact tx_irr x
      · cases q : txLt z x with
        | false => rfl
        | true =>
          have := tx_tr q c
          rw [h z e] at this
          cases this
    | false =>
      refine ⟨m, .tail _ hm, fun z hz => ?_⟩
      rcases List.mem_cons.mp hz with e | e
      · rw [e]
        exact c
      · exact h z e
theorem fir_min {n m : Str} {os : List Str} (hm : m ∈ os) (h : ∀ y ∈ os, txLt y m = false) : firB n os = txLt n m := by
  have ne : os ≠ [] := fun z => by rw [z] at hm; cases hm
  unfold firB
  rw [decide_eq_false ne, Bool.not_false, Bool.true_and]
  cases c : txLt n m with
  | true =>
    refine List.all_eq_true.mpr fun o ho => ?_
    cases q : txLt n o with
    | true => rfl
    | false =>
      cases r : txLt o n with
      | true =>
        have := tx_tr r c
        rw [h o ho] at this
        cases this
      | false =>
        have e := tx_tot q r
        rw [← e] at ho
        rw [h n ho] at c
        cases c
  | false =>
    refine Bool.eq_false_iff.mpr fun z => ?_
    rw [List.all_eq_true.mp z m hm] at c
    cases c
theorem need_sub {es : List Edn} {ss : List (Str × St3)} {ns : List Str} : ∀ (k : Nat) (ws f : List Str), (∀ y ∈ f, y ∈ ns) → ∀ y ∈ needM es ss ns k ws f, y ∈ ns
  | 0, _, f, h, y, hy => h y hy
  | k + 1, ws, f, h, y, hy => by
    rw [needM] at hy
    cases c : ws.getLast? with
    | none =>
      rw [c] at hy
      exact h y hy
    | some x =>
      rw [c] at hy
      refine need_sub k _ _ (fun z hz => ?_) y hy
      rcases List.mem_append.mp hz with q | q
      · exact h z q
      · exact (fresh_in q).1
theorem need_len {es : List Edn} {ss : List (Str × St3)} {ns : List Str} (D : Diff es) : ∀ (k : Nat) (ws f : List Str), f.Nodup → (needM es ss ns k ws f).Nodup
  | 0, _, f, h => h
  | k + 1, ws, f, h => by
    rw [needM]
    cases c : ws.getLast? with
    | none => exact h
    | some x => exact need_len D k _ _ (fresh_app D h)
section
variable {P : Program} {w : World} {K : PySem.W.Frag} {mg : Str → Option Value} {base : Heap} {C CT CY CN CU : Addr}
theorem ok_rg {f : Addr} {fd : FuncData} (F : Fun K "rings" "rings" sRg f fd) (gM : mg "min" = none) (gS : mg "sorted" = none) (dP : Def P w K mg base 3 "pending" ["system"] (spPen K C CT CY)) (dN : Def P w K mg base 5 "needed_by" ["system", "names", "name"] (spNb K C CT CY)) : FnOk P w K mg base CX0 6 f fd ["system"] (spRg K C CT CY) := by
  refine F.ok scRg (fun vs H Q E h => ?_) (fun cdv A outer s H vs Q E hr h => ?_)
  · obtain ⟨a, st, ss, es, rfl, _⟩ := h
    rfl
  · obtain ⟨a, st, ss, es, rfl, hY, hLe, hD, k⟩ := h
    have nd := scRg.nd
    have r3 : Room 3 _ := hr.mono (by decide)
    have hu : (A.deeper (envOfC "rings" (defScope sRg) s.heap.objs.size f cdv)).units + 1 < cLine := by have := hr.units; omega
    have hu2 : (A.deeper (envOfC "rings" (defScope sRg) s.heap.objs.size f cdv)).units + 2 < cLine := by have := hr.units; omega
    refine ⟨_, pss_cons (ps_set (i := 1) nd rfl (Or.inr rfl) (pe_def dP r3 rfl (pa_cons (pv 0) pa_nil)))
      (pss_cons (ps_set (i := 3) nd rfl (Or.inr rfl) (pe_dc (own := [("name", 2)]) (g := gName 2) (tt := tYes) (tk := tVar 2) (tv := tCall (spNb K C CT CY) [] E0 (tCons (tVar 0) (tCons (tVar 1) (tCons (tVar 2) tNil)))) rfl nd (pi_list (pv 1)) (blkOk_by (N := RgN) (sc := defScope sRg) (by decide +kernel))
        (fun _ _ _ _ _ => pg_name (i := 2) nd rfl (Or.inl rfl)) (fun _ _ _ _ _ => pts_nil) (fun _ _ _ _ _ => pv 2) (fun _ _ _ _ _ => pe_def dN hr rfl (pa_cons (pv 0) (pa_cons (pv 1) (pa_cons (pv 2) pa_nil))))))
      (pss_cons (ps_set (i := 4) nd rfl (Or.inl rfl) (pe_lst pa_nil))
      (pss_cons (ps_for PassesOwn.never rfl (pi_list (pv 1)) (pg_name (i := 2) nd rfl (Or.inr rfl))
        (pss_cons (ps_setLc (i := 5) (own := [("other", 6)]) (g := gName 6) (tt := tAnd (tTest (tOp rNe (tVar 6) (tVar 2))) (tTest (tOp (rIn K false) (tVar 2) (tDGet (tVar 3) (tVar 6))))) (te := tVar 6) rfl nd rfl rfl (sw_true rfl rfl rfl (by decide +kernel)) (pi_list (pe_dget hu (pv 3) (pv 2) (fun _ _ => rfl))) (blkOk_by (N := RgN) (sc := defScope sRg) (by decide +kernel))
          (fun _ _ _ _ _ => pg_name (i := 6) nd rfl (Or.inl rfl)) (fun _ _ _ _ _ => pts_one (PW.pt (pw_and (pt_cmpR op_ne (pv 6) (pv 2) (nomark _)) (pw_and1 (pt_cmpR (op_in_seq : OpR _ _ (rIn K false)) (pv 2) (pe_dget hu (pv 3) (pv 6) (fun _ _ => rfl)) (by rfl)))))) (fun _ _ _ _ _ => pv 6))
        (pss_one (ps_if (PW.pt (pw_and (pt_truth (pv 5) (by intro _; rfl)) (pw_and1 (pt_cmpR op_lt_str (pv 2) (pe_callB (cr_minTx rfl hu2) (by rfl) gM (by decide +kernel) (pa_cons (pv 5) pa_nil)) (nomark _)))))
          (pss_one (ps_expr (pe_bm PySem.F.plainAttrs_list PySem.F.slot_list_append PySem.F.type_list_append mt_append (pv 4) (pa_cons (pe_tup (pa_cons (pv 2) (StX.pa_star (pe_callB cr_sortedS (by rfl) gS (by decide +kernel) (pa_cons (pv 5) pa_nil)) pa_nil))) pa_nil)))) pss_nil))))
      (pss_one (ps_ret (pv 4)))))), ?_⟩
    have p40 : (pendL ss).length ≤ 40 := Nat.le_trans (List.length_filter_le ..) hY.fewn
    have pnd : (pendL ss).Nodup := hY.nm.nd.sublist List.filter_sublist
    refine ⟨_, rfl, a, st, ss, es, rfl, hY, fun l1 H1 s1 n1 g1 => ?_⟩
    generalize hns : pendL ss = ns at g1 p40 pnd
    have pd : ∀ n ∈ ns, n ∈ pendL ss := fun n hn => by rw [hns]; exact hn
    have nlen : ∀ n, (needL (es.map (·.2)) ss ns n).length ≤ 40 := fun n => Nat.le_trans (len_sub (need_len hD _ _ _ List.nodup_nil) (need_sub _ _ _ fun y hy => nomatch hy)) p40
    have nsub : ∀ n, ∀ y ∈ needL (es.map (·.2)) ss ns n, y ∈ ns := fun n => need_sub _ _ _ fun y hy => nomatch hy
    refine ⟨_, rfl, l1, rfl, ⟨_, SqL.of g1⟩, fun DD hDD => dc_walk (walk_list (xs := ns.map V.str)) (fun i H' => Same H1 H' ∧ ∃ kvs, H' DD = some (.dK kvs) ∧ kvs.length ≤ i ∧ ∀ n ∈ ns.take i, ∃ ln, valV kvs (.inr n) = some (.ref ln) ∧ H' ln = some (.lst ((needL (es.map (·.2)) ss ns n).map V.str))) ⟨Same.upd_new hDD, [], upd_same, Nat.le_refl _, fun n hn => by rw [List.take_zero] at hn; cases hn⟩ (fun _ _ _ p => SqL.of (p.1 _ _ g1)) ?_ ?_⟩
    · rintro i x H2 H3 hi ⟨s2, kvs, g2, lk, hv⟩ ⟨rfl, hx⟩
      obtain ⟨n, hn, rfl⟩ := getE hx
      have nin := List.mem_of_getElem? hn
      have S2 := s1.trans s2
      refine ⟨rfl, _, rfl, _, rfl, _, rfl, _, rfl, a, st, l1, ss, es, ns, n, rfl, hY.same S2, hLe, hD, s2 _ _ g1, pd, pnd, p40, nin, fun LN H4 s4 nLN gLN => ?_⟩
      have g4 := s4 _ _ g2
      have ilt : i < 40 := by rw [List.length_map] at hi; omega
      refine ⟨kvs, .inr n, rfl, g4, by rw [sizeLine_eq]; omega, fun b u z => by rw [upd_ne (ne_of_none z hDD)]; exact s4 _ _ (s2 _ _ z), _, upd_same, Nat.le_trans (length_putK kvs _ _) (by omega), fun m hm => ?_⟩
      rw [take_next hn] at hm
      rw [valV_put]
      by_cases e : m = n
      · subst e
        rw [if_pos rfl]
        exact ⟨LN, rfl, by rw [upd_ne (ne_of gLN g4 (by intro z; cases z))]; exact gLN⟩
      · have hm' : m ∈ ns.take i := by
          rcases List.mem_append.mp hm with q | q
          · exact q
          · exact absurd (List.mem_singleton.mp q) e
        obtain ⟨ln, e1, e2⟩ := hv m hm'
        rw [if_neg (fun z => e (Sum.inr.inj z))]
        have e3 := s4 _ _ e2
        exact ⟨ln, e1, by rw [upd_ne (ne_of e3 g4 (by intro z; cases z))]; exact e3⟩
    rintro H2 ⟨s2, kvs, g2, _, hv⟩
    rw [List.length_map, List.take_length] at hv
    have S2 := s1.trans s2
    refine ⟨Nat.zero_le _, fun D nD => ?_⟩
    have q3 := Same.upd_new (o := .lst []) nD
    have g3 : (upd H2 D (.lst [])) D = some (.lst (([] : List Addr).map V.ref)) := upd_same
    have nDH := none_lt S2 nD
    generalize upd H2 D (.lst []) = H3 at q3 g3 ⊢
    refine ⟨_, rfl, l1, rfl, ⟨_, SqL.of (q3 _ _ (s2 _ _ g1))⟩, ?_⟩
    let G : Str → Bool := fun n => firB n (rotL (es.map (·.2)) ss ns n)
    refine for_it (walk_list (xs := ns.map V.str)) (fun j σ H' => Same H2 H' ∧ ∃ (ps : List Addr) (x2 x5 : Option V), H' D = some (.lst (ps.map V.ref)) ∧ Paired (RingAt K H') ps (((ns.take j).filter G).map fun n => (n, rotL (es.map (·.2)) ss ns n)) ∧ σ = [some (.ref a), some (.ref l1), x2, some (.ref DD), some (.ref D), x5, none]) ⟨q3, [], none, none, g3, .nil, rfl⟩ (fun j σ H' _ h => SqL.of (h.1 _ _ (s2 _ _ g1))) ?_ ?_
    · rintro j x σ H4 H5 hj ⟨s4, ps, x2, x5, g4, hp, rfl⟩ ⟨rfl, hx⟩
      obtain ⟨n, hn, rfl⟩ := getE hx
      have nin := List.mem_of_getElem? hn
      obtain ⟨ln, v1, v2⟩ := hv n nin
      have gd4 := s4 _ _ g2
      have gn4 := s4 _ _ v2
      have dg : ∀ {H' : Hp} {m : Str} {lm : Addr}, H' DD = some (.dK kvs) → valV kvs (.inr m) = some (.ref lm) → DGet H' DD (.str m) (some (.ref lm)) := fun h1 h2 => .inl ⟨kvs, .inr _, .inl h1, rfl, h2.symm⟩
      refine ⟨_, rfl, _, rfl, DD, _, rfl, dg gd4 v1, ln, rfl, ⟨_, SqL.of gn4⟩, fun D6 hD6 => lc_it (walk_list (xs := (needL (es.map (·.2)) ss ns n).map V.str)) (AccP H5 D6 (filV (fun o => !decide (o = n) && has (needL (es.map (·.2)) ss ns o) n) V.str (needL (es.map (·.2)) ss ns n))) (AccP.zero hD6 rfl) (fun _ _ _ p => SqL.of (p.1 _ _ gn4)) ?_ ?_⟩
      · rintro i x H6 H7 hi p ⟨rfl, hx⟩
        obtain ⟨o, ho, rfl⟩ := getE hx
        obtain ⟨lo, w1, w2⟩ := hv o (nsub n o (List.mem_of_getElem? ho))
        refine ⟨rfl, _, rfl, _, rfl, rfl, _, rfl, ?_⟩
        rw [dec_str]
        cases c1 : !decide (o = n) with
        | false =>
          refine ite_no rfl ?_
          refine ite_no rfl ?_
          exact p.skip (filV_no ho (by rw [c1]; rfl)) (Same.refl _)
        | true =>
          refine ite_yes rfl ?_
          refine ⟨_, rfl, _, rfl, _, rfl, DD, _, rfl, dg (p.1 _ _ gd4) w1, lo, _, rfl, .inl (SqL.of (p.1 _ _ (s4 _ _ w2))), rfl, flat_strs _, _, rfl, ?_⟩
          cases c2 : has (needL (es.map (·.2)) ss ns o) n with
          | true =>
            refine ite_yes ((inV_str _ _).trans c2) ?_
            exact ⟨_, rfl, p.step hD6 (filV_yes ho (by rw [c1, c2]; rfl)) (Nat.le_trans (filV_len ..) (by have := nlen n; omega)) (Same.refl _)⟩
          | false =>
            refine ite_no ((inV_str _ _).trans c2) ?_
            exact p.skip (filV_no ho (by rw [c1, c2]; rfl)) (Same.refl _)
      intro H6 p6
      have g6 : H6 D6 = some (.lst ((rotL (es.map (·.2)) ss ns n).map V.str)) := acc_all p6 (by rw [List.length_map])
      have rlen : (rotL (es.map (·.2)) ss ns n).length ≤ 40 := Nat.le_trans (List.length_filter_le ..) (nlen n)
      have S6 := s4.trans p6.1
      have hp6 : Paired (RingAt K H6) ps (((ns.take j).filter G).map fun n => (n, rotL (es.map (·.2)) ss ns n)) := pimp (fun v u h => by
        obtain ⟨ys, h1, h2, h3⟩ := h
        exact ⟨ys, p6.1.sqT h1, h2, h3⟩) hp
      have gD6 := p6.1 _ _ g4
      have lps := Paired.length hp
      rw [List.length_map] at lps
      have plen : ps.length ≤ 40 := by
        have := List.length_filter_le G (ns.take j)
        rw [List.length_take] at this
        omega
      have tk : (ns.take (j + 1)).filter G = (ns.take j).filter G ++ (if G n = true then [n] else []) := by
        rw [take_next hn, List.filter_append]
        cases q : G n <;> simp [q]
      refine ⟨_, rfl, _, truL g6, ?_⟩
      by_cases c : rotL (es.map (·.2)) ss ns n = []
      · refine ite_no (by rw [decide_eq_true c]; rfl) ?_
        refine ite_no rfl ?_
        have gn : G n = false := by show firB n _ = false; unfold firB; rw [decide_eq_true c]; rfl
        rw [gn] at tk
        exact ⟨S6, ps, _, _, gD6, by rw [tk, if_neg (by decide), List.append_nil]; exact hp6, rfl⟩
      · refine ite_yes (by rw [decide_eq_false c]; rfl) ?_
        refine ⟨_, rfl, _, rfl, D6, _, rfl, SqL.of g6, c, fun m hm hmin => ?_⟩
        have ef : G n = txLt n m := fir_min hm hmin
        refine ⟨_, _, rfl, rfl, _, rfl, ?_⟩
        cases c3 : txLt n m with
        | false =>
          refine ite_no c3 ?_
          rw [c3] at ef
          rw [ef] at tk
          exact ⟨S6, ps, _, _, gD6, by rw [tk, if_neg (by decide), List.append_nil]; exact hp6, rfl⟩
        | true =>
          refine ite_yes c3 ?_
          rw [c3] at ef
          rw [ef, if_pos rfl] at tk
          refine ⟨_, rfl, .inl ⟨rfl, _, SqL.of gD6⟩, _, rfl, _, rfl, D6, _, rfl, SqL.of g6, by omega, fun ys p8 perm srt n8 => ?_⟩
          have q8 := Same.upd_new (o := .lst (ys.map V.str)) n8
          have ylen : ys.length ≤ 40 := by rw [perm.length_eq]; exact rlen
          refine ⟨p8, _, rfl, .inr (SqL.of upd_same), ?_, fun t nt => ?_⟩
          · show (V.str n :: (ys.map V.str ++ [])).length ≤ _
            rw [List.append_nil, List.length_cons, List.length_map, sizeLine_eq]
            omega
          have q9 := Same.upd_new (o := .tup (V.str n :: (ys.map V.str ++ []))) nt
          have S9 := q8.trans q9
          have gD9 := S9 _ _ gD6
          have gt9 : SqT K (upd (upd H6 p8 (.lst (ys.map V.str))) t (.tup (V.str n :: (ys.map V.str ++ [])))) t (V.str n :: ys.map V.str) := SqT.of (by rw [upd_same, List.append_nil])
          generalize upd (upd H6 p8 (.lst (ys.map V.str))) t (.tup (V.str n :: (ys.map V.str ++ []))) = H9 at S9 gD9 gt9 ⊢
          refine ⟨D, _, _, rfl, rfl, gD9, by rw [List.length_map, sizeLine_eq]; omega, ?_⟩
          have kp : Kp K H9 (upd H9 D (.lst (ps.map V.ref ++ [V.ref t]))) := Kp.upd gD9 (fun _ z => by cases z) (fun _ _ z => by cases z)
          refine ⟨fun b u z => by rw [upd_ne (ne_of_none z nD)]; exact S9 _ _ (S6 _ _ z), ps ++ [t], _, _, by rw [List.map_append]; exact upd_same, ?_, rfl⟩
          rw [tk, List.map_append]
          refine papp (pimp (fun v u h => ?_) hp6) (.cons ⟨ys, kp _ _ gt9, perm, srt⟩ .nil)
          obtain ⟨zs, h1, h2, h3⟩ := h
          exact ⟨zs, kp _ _ (S9.sqT h1), h2, h3⟩
    · rintro σ H4 ⟨s4, ps, x2, x5, g4, hp, rfl⟩
      rw [List.length_map, List.take_length] at hp
      refine ⟨_, rfl, k D H4 ps (S2.trans s4) nDH g4 ?_⟩
      unfold ringsL
      rw [hns]
      exact hp
end
end Half

namespace Half
open PySem PySem.Spec PyProof.Rows L2
/-! ### what orders are like -/
theorem perm_pick {x : Str} : ∀ {l : List Str}, l.Nodup → x ∈ l → (x :: l.filter fun y => !decide (y = x)).Perm l
  | [], _, h => nomatch h
  | y :: l, nd, h => by
    obtain ⟨n1, n2⟩ := List.nodup_cons.mp nd
    by_cases e : y = x
    · subst e
      have : (y :: l).filter (fun z => !decide (z = y)) = l := by
        rw [List.filter_cons, if_neg (by simp)]
        refine List.filter_eq_self.mpr fun z hz => ?_
        rw [decide_eq_false (fun q : z = y => n1 (q ▸ hz))]
        rfl
      rw [this]
    · have hx : x ∈ l := (List.mem_cons.mp h).resolve_left fun q => e q.symm
      have ih := perm_pick n2 hx
      rw [List.filter_cons, if_pos (by rw [decide_eq_false e]; rfl)]
      exact (List.Perm.swap y x _).trans (ih.cons y)
section
variable {es : List Edn} {ss : List (Str × St3)}
theorem pick_left {left dn : List Str} (c : left ≠ []) : pickS (freeL es ss left dn) (muteL es ss left) left ∈ left :=
  pick_in (fun x hx => (List.mem_filter.mp hx).1) (fun x hx => (List.mem_filter.mp hx).1) c
theorem order_perm : ∀ (k : Nat) (left : List Str) (o : Ord), left.Nodup → left.length ≤ k → ((orderM es ss k left o).map (·.1)).Perm (o.map (·.1) ++ left)
  | 0, left, o, _, h => by
    have : left = [] := List.length_eq_zero_iff.mp (by omega)
    rw [this, List.append_nil]
    exact List.Perm.refl _
  | k + 1, left, o, nd, h => by
    rw [orderM]
    by_cases c : left = []
    · rw [if_pos c, c, List.append_nil]
    · rw [if_neg c]
      have hin := pick_left (es := es) (ss := ss) (dn := o.map (·.1)) c
      generalize pickS (freeL es ss left (o.map (·.1))) (muteL es ss left) left = ch at hin
      have less := others_less hin
      refine (order_perm k _ _ (nd.sublist List.filter_sublist) (by omega)).trans ?_
      rw [List.map_append, List.append_assoc]
      exact List.Perm.append_left _ (perm_pick nd hin)
def Flag (es : List Edn) (ss : List (Str × St3)) (o : Ord) : Prop := ∀ i x, o[i]? = some x → x.2 = lackB es ss ((o.take i).map (·.1)) x.1
theorem order_flag : ∀ (k : Nat) (left : List Str) (o : Ord), Flag es ss o → Flag es ss (orderM es ss k left o)
  | 0, _, _, h => h
  | k + 1, left, o, h => by
    rw [orderM]
    by_cases c : left = []
    · rw [if_pos c]
      exact h
    · rw [if_neg c]
      refine order_flag k _ _ fun i x hx => ?_
      rcases Nat.lt_or_ge i o.length with q | q
      · rw [List.getElem?_append_left q] at hx
        rw [h i x hx, List.take_append_of_le_length (Nat.le_of_lt q)]
      · have hin := pick_left (es := es) (ss := ss) (dn := o.map (·.1)) c
        have ei : i = o.length := by
          have := (List.getElem?_eq_some_iff.mp hx).1
          rw [List.length_append] at this
          have l1 : ([(pickS (freeL es ss left (o.map (·.1))) (muteL es ss left) left, decide (freeL es ss left (o.map (·.1)) = []))] : Ord).length = 1 := rfl
          omega
        subst ei
        rw [List.getElem?_append_right (Nat.le_refl _), Nat.sub_self] at hx
        cases hx
        rw [List.take_append_of_le_length (Nat.le_refl _), List.take_length]
        dsimp only
        by_cases f : freeL es ss left (o.map (·.1)) = []
        · rw [decide_eq_true f]
          have := List.filter_eq_nil_iff.mp f _ hin
          cases z : lackB es ss (o.map (·.1)) (pickS (freeL es ss left (o.map (·.1))) (muteL es ss left) left) with
          | true => rfl
          | false => rw [z] at this; exact absurd rfl this
        · rw [decide_eq_false f]
          have hp : pickS (freeL es ss left (o.map (·.1))) (muteL es ss left) left ∈ freeL es ss left (o.map (·.1)) := by
            unfold pickS
            rw [if_neg f]
            cases g : freeL es ss left (o.map (·.1)) with
            | nil => exact absurd g f
            | cons y l => exact .head _
          have := (List.mem_filter.mp hp).2
          cases z : lackB es ss (o.map (·.1)) (pickS (freeL es ss left (o.map (·.1))) (muteL es ss left) left) with
          | false => rfl
          | true => rw [z] at this; cases this
theorem pend_nd (h : (ss.map (·.1)).Nodup) : (pendL ss).Nodup := h.sublist List.filter_sublist
theorem hope_nd (h : (ss.map (·.1)).Nodup) : (hopeL es ss).Nodup := (pend_nd h).sublist (hope_sub _ _)
theorem orderL_perm (h : (ss.map (·.1)).Nodup) : ((orderL es ss).map (·.1)).Perm (hopeL es ss) := order_perm _ _ [] (hope_nd h) (Nat.le_refl _)
theorem orderL_flag : Flag es ss (orderL es ss) := order_flag _ _ [] fun i x hx => by cases hx
/-- the number of the forced -/
theorem range_count (p : Str × Bool → Bool) (d : Str × Bool) (L : Ord) : ((List.range L.length).filter fun i => p (L.getD i d)).length = (L.filter p).length := by
  have e : L = (List.range L.length).map fun i => L.getD i d := by
    refine List.ext_getElem (by rw [List.length_map, List.length_range]) fun i h1 h2 => ?_
    rw [List.getElem_map, List.getElem_range, List.getD_eq_getElem?_getD, List.getElem?_eq_getElem h1]
    rfl
  have e2 : (L.filter p).length = (((List.range L.length).map fun i => L.getD i d).filter p).length := by rw [← e]
  rw [e2, List.filter_map, List.length_map]
  rfl
theorem forced_eq : forcedN es ss ((orderL es ss).map (·.1)) = ((orderL es ss).filter (·.2)).length := by
  have fl := orderL_flag (es := es) (ss := ss)
  generalize orderL es ss = L at fl
  rw [← range_count (·.2) ("", false) L]
  unfold forcedN
  rw [List.length_map]
  congr 1
  refine List.filter_congr fun i hi => ?_
  have lt := List.mem_range.mp hi
  have hx : L[i]? = some L[i] := List.getElem?_eq_getElem lt
  have e1 : L.getD i ("", false) = L[i] := by rw [List.getD_eq_getElem?_getD, hx]; rfl
  have e2 : (L.map (·.1)).getD i ("" : Str) = L[i].1 := by rw [List.getD_eq_getElem?_getD, List.getElem?_map, hx]; rfl
  unfold forB
  rw [e1, fl i _ hx, e2, List.map_take]
/-- all permutations -/
theorem orders_all : ∀ (m : Nat) (ns o : List Str), ns.Nodup → ns.length ≤ m → o.Perm ns → o ∈ ordersM m ns
  | 0, ns, o, _, h, p => by
    have e : o = [] := List.length_eq_zero_iff.mp (by have := p.length_eq; omega)
    rw [e]
    exact .head _
  | m + 1, ns, o, nd, h, p => by
    rw [ordersM]
    by_cases c : ns = []
    · rw [if_pos c]
      rw [c] at p
      rw [p.eq_nil]
      exact .head _
    · rw [if_neg c]
      cases o with
      | nil => exact absurd p.symm.eq_nil c
      | cons n o =>
        have nin : n ∈ ns := p.subset (.head _)
        have less := others_less nin
        have p2 : o.Perm (ns.filter fun x => !decide (x = n)) := (p.trans (perm_pick nd nin).symm).cons_inv
        exact List.mem_flatMap.mpr ⟨n, nin, List.mem_map.mpr ⟨o, orders_all m _ o (nd.sublist List.filter_sublist) (by omega) p2, rfl⟩⟩
theorem orders_perm : ∀ (m : Nat) (ns o : List Str), ns.Nodup → ns.length ≤ m → o ∈ ordersM m ns → o.Perm ns
  | 0, ns, o, _, h, p => by
    have e : ns = [] := List.length_eq_zero_iff.mp (by omega)
    rw [List.mem_singleton.mp p, e]
  | m + 1, ns, o, nd, h, p => by
    rw [ordersM] at p
    by_cases c : ns = []
    · rw [if_pos c] at p
      rw [List.mem_singleton.mp p, c]
    · rw [if_neg c] at p
      obtain ⟨n, nin, hq⟩ := List.mem_flatMap.mp p
      obtain ⟨u, hu, rfl⟩ := List.mem_map.mp hq
      have less := others_less nin
      exact ((orders_perm m _ u (nd.sublist List.filter_sublist) (by omega) hu).cons n).trans (perm_pick nd nin)
/-- what has hope and what has none -/
theorem sub_filter : ∀ {s l : List Str}, s.Sublist l → l.Nodup → s = l.filter fun x => has s x
  | _, _, .slnil, _ => rfl
  | _, _, .cons (l₁ := s) (l₂ := l) a h, nd => by
    obtain ⟨n1, n2⟩ := List.nodup_cons.mp nd
    rw [List.filter_cons, if_neg]
    · exact sub_filter h n2
    · rw [has_no fun z => n1 (h.subset z)]
      decide
  | _, _, .cons₂ (l₁ := s) (l₂ := l) a h, nd => by
    obtain ⟨n1, n2⟩ := List.nodup_cons.mp nd
    rw [List.filter_cons, if_pos (has_iff.mpr (.head _))]
    congr 1
    refine (sub_filter h n2).trans (List.filter_congr fun x hx => ?_)
    have ne : x ≠ a := fun z => n1 (z ▸ hx)
    cases q : has s x with
    | true => exact (has_iff.mpr (.tail _ (has_iff.mp q))).symm
    | false =>
      refine (has_no fun z => ?_).symm
      rcases List.mem_cons.mp z with e | e
      · exact ne e
      · rw [has_iff.mpr e] at q
        cases q
theorem split_perm (h : (ss.map (·.1)).Nodup) : (hopeL es ss ++ lossL es ss).Perm (pendL ss) := by
  have e : hopeL es ss = (pendL ss).filter fun x => has (hopeL es ss) x := sub_filter (hope_sub (es := es) (ss := ss) _ _) (pend_nd h)
  have p := List.filter_append_perm (fun x => has (hopeL es ss) x) (pendL ss)
  rw [← e] at p
  exact p
end
end Half

namespace Half
open PySem PySem.Spec PyProof.Rows L2
/-! ### the later system -/
def rdV (s : St3) : St3 := ("ready", s.2.1, s.2.1)
def rd1 (ss : List (Str × St3)) (n : Str) : List (Str × St3) := match stOf ss n with
  | some s => putS ss n (rdV s)
  | none => ss
def rdy (ss : List (Str × St3)) (d : List Str) : List (Str × St3) := d.foldl rd1 ss
theorem rdy_snoc (ss : List (Str × St3)) (d : List Str) (n : Str) : rdy ss (d ++ [n]) = rd1 (rdy ss d) n := by
  unfold rdy
  rw [List.foldl_append]
  rfl
theorem rd1_at (ss : List (Str × St3)) (n m : Str) : stOf (rd1 ss n) m = if m = n then (stOf ss m).map rdV else stOf ss m := by
  unfold rd1
  cases c : stOf ss n with
  | none =>
    by_cases e : m = n
    · rw [if_pos e, e, c]
      rfl
    · rw [if_neg e]
  | some s =>
    dsimp only
    rw [putS_at]
    by_cases e : m = n
    · rw [if_pos e, if_pos e, e, c]
      rfl
    · rw [if_neg e, if_neg e]
theorem rdy_at : ∀ (d : List Str) (ss : List (Str × St3)) (m : Str), stOf (rdy ss d) m = if has d m = true then (stOf ss m).map rdV else stOf ss m
  | [], ss, m => by
    rw [if_neg (fun z : has [] m = true => nomatch z)]
    rfl
  | n :: d, ss, m => by
    show stOf (rdy (rd1 ss n) d) m = _
    rw [rdy_at d, rd1_at]
    have hc : has (n :: d) m = (decide (n = m) || has d m) := rfl
    rw [hc]
    by_cases e : m = n
    · subst e
      rw [if_pos rfl, decide_eq_true rfl, Bool.true_or, if_pos rfl]
      cases has d m
      · rw [if_neg (by decide)]
      · rw [if_pos rfl]
        cases stOf ss m <;> rfl
    · rw [if_neg e, decide_eq_false fun z => e z.symm, Bool.false_or]
section
variable {es : List Edn} {ss : List (Str × St3)}
theorem met_later (d : List Str) (q : Str × Int) : metB (rdy ss d) q = (metB ss q || wmB ss d q) := by
  unfold metB wmB
  rw [rdy_at]
  cases c : has d q.1 with
  | false =>
    rw [if_neg (by decide), Bool.false_and, Bool.or_false]
  | true =>
    rw [if_pos rfl, Bool.true_and]
    cases stOf ss q.1 with
    | none => rfl
    | some s =>
      show (decide ((rdV s).1 = "ready") && decide (q.2 ≤ s.2.1)) = _
      have r : decide ((rdV s).1 = "ready") = true := decide_eq_true rfl
      rw [r, Bool.true_and]
      dsimp only
      cases decide (s.1 = "ready") <;> cases decide (q.2 ≤ s.2.1) <;> rfl
theorem wm_mono {M N : List Str} {q : Str × Int} (h : ∀ x ∈ M, x ∈ N) (w : wmB ss M q = true) : wmB ss N q = true := by
  unfold wmB at *
  obtain ⟨h1, h2⟩ := Bool.and_eq_true_iff.mp w
  rw [h2, Bool.and_true]
  exact has_iff.mpr (h _ (has_iff.mp h1))
theorem lack_mono {M N : List Str} {n : Str} (h : ∀ x ∈ M, x ∈ N) (w : lackB es ss N n = true) : lackB es ss M n = true := by
  unfold lackB at *
  split at w
  · split at w
    · obtain ⟨q, hq, hw⟩ := List.any_eq_true.mp w
      refine List.any_eq_true.mpr ⟨q, hq, ?_⟩
      obtain ⟨w1, w2⟩ := Bool.and_eq_true_iff.mp hw
      rw [w1, Bool.true_and]
      cases c : wmB ss M q with
      | false => rfl
      | true =>
        rw [wm_mono h c] at w2
        cases w2
    · cases w
  · cases w
theorem lack_same {M N : List Str} {n : Str} (h : ∀ x, x ∈ M ↔ x ∈ N) : lackB es ss M n = lackB es ss N n := by
  cases c : lackB es ss N n with
  | true => exact lack_mono (fun x hx => (h x).mp hx) c
  | false =>
    cases q : lackB es ss M n with
    | false => rfl
    | true =>
      rw [lack_mono (fun x hx => (h x).mpr hx) q] at c
      cases c
theorem hope_out : ∀ (k : Nat) (ns : List Str) (n : Str), n ∈ ns → n ∉ hopeM es ss k ns → lackB es ss (hopeM es ss k ns) n = true
  | 0, ns, n, h, hn => absurd h hn
  | k + 1, ns, n, h, hn => by
    rw [hopeM] at hn ⊢
    by_cases c : ns.filter (lackB es ss ns) = []
    · rw [if_pos c] at hn
      exact absurd h hn
    · rw [if_neg c] at hn ⊢
      cases q : lackB es ss ns n with
      | true => exact lack_mono (fun x hx => (List.mem_filter.mp ((hope_sub _ _).subset hx)).1) q
      | false =>
        refine hope_out k _ n (List.mem_filter.mpr ⟨h, ?_⟩) hn
        rw [has_no fun z => by rw [(List.mem_filter.mp z).2] at q; cases q]
        rfl
theorem hope_keeps : ∀ (k : Nat) (ns : List Str) (n : Str), n ∈ ns → lackB es ss [] n = false → n ∈ hopeM es ss k ns
  | 0, ns, n, h, _ => h
  | k + 1, ns, n, h, hl => by
    rw [hopeM]
    split
    · exact h
    · refine hope_keeps k _ n (List.mem_filter.mpr ⟨h, ?_⟩) hl
      rw [has_no fun z => by
        have := lack_mono (es := es) (ss := ss) (M := []) (fun x hx => nomatch hx) (List.mem_filter.mp z).2
        rw [hl] at this
        cases this]
      rfl
theorem free_same (h : (ss.map (·.1)).Nodup) : freeL es ss (hopeL es ss) [] = (pendL ss).filter fun n => !lackB es ss [] n := by
  have e : hopeL es ss = (pendL ss).filter fun x => has (hopeL es ss) x := sub_filter (hope_sub (es := es) (ss := ss) _ _) (pend_nd h)
  unfold freeL
  rw [e, List.filter_filter]
  refine List.filter_congr fun n hn => ?_
  cases q : lackB es ss [] n with
  | true => rfl
  | false =>
    have hk : n ∈ hopeL es ss := hope_keeps (es := es) (ss := ss) (pendL ss).length (pendL ss) n hn q
    rw [has_iff.mpr hk]
    rfl
theorem order_pre : ∀ (k : Nat) (left : List Str) (o : Ord), ∃ r, orderM es ss k left o = o ++ r
  | 0, _, o => ⟨[], (List.append_nil o).symm⟩
  | k + 1, left, o => by
    rw [orderM]
    split
    · exact ⟨[], (List.append_nil o).symm⟩
    · obtain ⟨r, e⟩ := order_pre k _ _
      rw [e, List.append_assoc]
      exact ⟨_, rfl⟩
theorem order_first (h : (ss.map (·.1)).Nodup) {x : Str} {r : List Str} (e : ((pendL ss).filter fun n => !lackB es ss [] n) = x :: r) : ∃ o, orderL es ss = (x, false) :: o := by
  have f := free_same (es := es) h
  rw [e] at f
  have c : hopeL es ss ≠ [] := fun z => by
    unfold freeL at f
    rw [z] at f
    cases f
  unfold orderL
  cases hk : (hopeL es ss).length with
  | zero => exact absurd (List.length_eq_zero_iff.mp hk) c
  | succ k =>
    rw [orderM, if_neg c]
    have f' : freeL es ss (hopeL es ss) (([] : Ord).map (·.1)) = x :: r := f
    rw [f']
    obtain ⟨o, eo⟩ := order_pre (es := es) (ss := ss) k ((hopeL es ss).filter fun n => !decide (n = pickS (x :: r) (muteL es ss (hopeL es ss)) (hopeL es ss))) ([] ++ [(pickS (x :: r) (muteL es ss (hopeL es ss)) (hopeL es ss), decide (x :: r = []))])
    rw [eo]
    exact ⟨o, rfl⟩
end
end Half

namespace Half
open PySem PySem.Spec PyProof.Rows L2
/-! ### what a package needs, straight or through others -/
def succL (es : List Edn) (ss : List (Str × St3)) (ns : List Str) (a : Str) : List Str := ((needsOf es ss a).filter fun q => wmB ss ns q).map (·.1)
inductive Rch (es : List Edn) (ss : List (Str × St3)) (ns : List Str) : Str → Str → Prop
  | one {a b : Str} : b ∈ succL es ss ns a → Rch es ss ns a b
  | more {a b c : Str} : b ∈ succL es ss ns a → Rch es ss ns b c → Rch es ss ns a c
section
variable {es : List Edn} {ss : List (Str × St3)} {ns : List Str}
theorem Rch.trans {a b c : Str} (h : Rch es ss ns a b) (g : Rch es ss ns b c) : Rch es ss ns a c := by
  induction h with
  | one h => exact .more h g
  | more h _ ih => exact .more h (ih g)
theorem Rch.snoc {a b c : Str} (h : Rch es ss ns a b) (g : c ∈ succL es ss ns b) : Rch es ss ns a c := h.trans (.one g)
theorem succ_in {a b : Str} (h : b ∈ succL es ss ns a) : b ∈ ns := by
  obtain ⟨q, hq, rfl⟩ := List.mem_map.mp h
  have := (List.mem_filter.mp hq).2
  unfold wmB at this
  exact has_iff.mp (Bool.and_eq_true_iff.mp this).1
theorem Rch.inn {a b : Str} (h : Rch es ss ns a b) : b ∈ ns := by
  induction h with
  | one h => exact succ_in h
  | more _ _ ih => exact ih
theorem fresh_iff {f : List Str} {a b : Str} : b ∈ freshL es ss ns f a ↔ b ∈ succL es ss ns a ∧ b ∉ f := by
  unfold freshL succL
  constructor
  · intro h
    obtain ⟨q, hq, rfl⟩ := List.mem_map.mp h
    obtain ⟨h1, h2⟩ := List.mem_filter.mp hq
    obtain ⟨h3, h4⟩ := Bool.and_eq_true_iff.mp h2
    refine ⟨List.mem_map.mpr ⟨q, List.mem_filter.mpr ⟨h1, h3⟩, rfl⟩, fun z => ?_⟩
    rw [has_iff.mpr z] at h4
    cases h4
  · rintro ⟨h, hf⟩
    obtain ⟨q, hq, rfl⟩ := List.mem_map.mp h
    obtain ⟨h1, h2⟩ := List.mem_filter.mp hq
    refine List.mem_map.mpr ⟨q, List.mem_filter.mpr ⟨h1, ?_⟩, rfl⟩
    rw [h2, has_no hf]
    rfl
/-- all that is found can be come to, and all that can be come to is found -/
theorem need_all (D : Diff es) (x0 : Str) : ∀ (k : Nat) (w f : List Str), (∀ n ∈ f, n ∈ ns) → f.Nodup → w.length + ns.length ≤ k + f.length → (∀ b ∈ f, Rch es ss ns x0 b) → (∀ b ∈ w, b = x0 ∨ Rch es ss ns x0 b) → (∀ a, a = x0 ∨ a ∈ f → a ∈ w ∨ ∀ b ∈ succL es ss ns a, b ∈ f) →
    (∀ b ∈ needM es ss ns k w f, Rch es ss ns x0 b) ∧ (∀ a, a = x0 ∨ a ∈ needM es ss ns k w f → ∀ b ∈ succL es ss ns a, b ∈ needM es ss ns k w f) := by
  intro k
  induction k with
  | zero =>
    intro w f fs fn hm h1 h2 h3
    have fl : f.length ≤ ns.length := len_sub fn fs
    have w0 : w = [] := List.length_eq_zero_iff.mp (by omega)
    refine ⟨h1, fun a ha => ?_⟩
    rcases h3 a ha with q | q
    · rw [w0] at q
      cases q
    · exact q
  | succ k ih =>
    intro w f fs fn hm h1 h2 h3
    rw [needM]
    cases hl : w.getLast? with
    | none =>
      have w0 : w = [] := List.getLast?_eq_none_iff.mp hl
      refine ⟨h1, fun a ha => ?_⟩
      rcases h3 a ha with q | q
      · rw [w0] at q
        cases q
      · exact q
    | some x =>
      dsimp only
      have xw := List.mem_of_getLast? hl
      have ew : w = w.dropLast ++ [x] := by
        have hne : w ≠ [] := fun z => by rw [z] at hl; cases hl
        have e := List.dropLast_concat_getLast hne
        rw [List.getLast?_eq_some_getLast hne] at hl
        rw [Option.some.inj hl] at e
        exact e.symm
      have hx := h2 x xw
      have fin : ∀ z ∈ freshL es ss ns f x, z ∈ ns := fun z hz => (fresh_in hz).1
      have frr : ∀ z ∈ freshL es ss ns f x, Rch es ss ns x0 z := fun z hz => by
        have zs := (fresh_iff.mp hz).1
        rcases hx with rfl | q
        · exact .one zs
        · exact q.snoc zs
      have dl : w.dropLast.length = w.length - 1 := List.length_dropLast
      have wp : 0 < w.length := List.length_pos_of_mem xw
      refine ih _ _ (fun n hn => ?_) (fresh_app D fn) ?_ (fun b hb => ?_) (fun b hb => ?_) fun a ha => ?_
      · rcases List.mem_append.mp hn with q | q
        · exact fs n q
        · exact fin n q
      · rw [List.length_append, List.length_append, dl]
        omega
      · rcases List.mem_append.mp hb with q | q
        · exact h1 b q
        · exact frr b q
      · rcases List.mem_append.mp hb with q | q
        · exact h2 b ((List.dropLast_sublist w).subset q)
        · exact .inr (frr b q)
      · have old : a = x0 ∨ a ∈ f → a ∈ w.dropLast ++ freshL es ss ns f x ∨ ∀ b ∈ succL es ss ns a, b ∈ f ++ freshL es ss ns f x := fun ha => by
          rcases h3 a ha with q | q
          · rw [ew] at q
            rcases List.mem_append.mp q with q | q
            · exact .inl (List.mem_append_left _ q)
            · have ax : a = x := List.mem_singleton.mp q
              subst ax
              refine .inr fun b hb => ?_
              by_cases c : b ∈ f
              · exact List.mem_append_left _ c
              · exact List.mem_append_right _ (fresh_iff.mpr ⟨hb, c⟩)
          · exact .inr fun b hb => List.mem_append_left _ (q b hb)
        rcases ha with q | q
        · exact old (.inl q)
        · rcases List.mem_append.mp q with q | q
          · exact old (.inr q)
          · exact .inl (List.mem_append_right _ q)
theorem need_iff (D : Diff es) {x y : Str} : y ∈ needL es ss ns x ↔ Rch es ss ns x y := by
  unfold needL
  obtain ⟨h1, h2⟩ := need_all (ss := ss) (ns := ns) D x (ns.length + 1) [x] [] (fun n h => nomatch h) List.nodup_nil (by show 1 + _ ≤ _ + 0; omega) (fun b h => nomatch h) (fun b h => .inl (List.mem_singleton.mp h)) (fun a ha => by
    rcases ha with q | q
    · exact .inl (List.mem_singleton.mpr q)
    · cases q)
  refine ⟨h1 y, fun h => ?_⟩
  have key : ∀ a b, Rch es ss ns a b → (a = x ∨ a ∈ needM es ss ns (ns.length + 1) [x] []) → b ∈ needM es ss ns (ns.length + 1) [x] [] := fun a b hab => by
    induction hab with
    | one h => exact fun ha => h2 _ ha _ h
    | more h _ ih => exact fun ha => ih (.inr (h2 _ ha _ h))
  exact key x y h (.inl rfl)
theorem rot_iff (D : Diff es) {n o : Str} : o ∈ rotL es ss ns n ↔ o ≠ n ∧ Rch es ss ns n o ∧ Rch es ss ns o n := by
  unfold rotL
  rw [List.mem_filter, need_iff D, Bool.and_eq_true]
  constructor
  · rintro ⟨a, b, c⟩
    refine ⟨fun z => ?_, a, (need_iff D).mp (has_iff.mp c)⟩
    rw [decide_eq_true z] at b
    cases b
  · rintro ⟨a, b, c⟩
    exact ⟨b, by rw [decide_eq_false a]; rfl, has_iff.mpr ((need_iff D).mpr c)⟩
end
end Half

namespace Half
open PySem PySem.Spec PyProof.Rows L2
/-! ### needs through others, step by step; rings -/
def lev (es : List Edn) (ss : List (Str × St3)) (ns : List Str) : Nat → Str → Str → Prop
  | 0, a, b => b ∈ succL es ss ns a
  | k + 1, a, b => lev es ss ns k a b ∨ ∃ c, lev es ss ns k a c ∧ b ∈ succL es ss ns c
section
variable {es : List Edn} {ss : List (Str × St3)} {ns : List Str}
theorem lev_rch : ∀ {k : Nat} {a b : Str}, lev es ss ns k a b → Rch es ss ns a b
  | 0, _, _, h => .one h
  | k + 1, _, _, h => by
    rcases h with h | ⟨c, h, g⟩
    · exact lev_rch h
    · exact (lev_rch h).snoc g
theorem lev_up : ∀ {j k : Nat} {a b : Str}, lev es ss ns k a b → lev es ss ns (k + j) a b
  | 0, _, _, _, h => h
  | j + 1, _, _, _, h => .inl (lev_up (j := j) h)
theorem count_lt {l : List Str} {p q : Str → Bool} (h : ∀ x ∈ l, p x = true → q x = true) {y : Str} (hy : y ∈ l) (hq : q y = true) (hp : p y = false) : (l.filter p).length < (l.filter q).length := by
  have e : l.filter p = (l.filter q).filter p := by
    rw [List.filter_filter]
    refine List.filter_congr fun x hx => ?_
    cases c : p x with
    | true => rw [h x hx c]; rfl
    | false => rfl
  rw [e]
  exact List.length_filter_lt_length_iff_exists.mpr ⟨y, List.mem_filter.mpr ⟨hy, hq⟩, by rw [hp]; decide⟩
open Classical in
theorem lev_full {a b : Str} (h : Rch es ss ns a b) : lev es ss ns ns.length a b := by
  let cnt : Nat → Nat := fun k => (ns.filter fun b => decide (lev es ss ns k a b)).length
  have inn : ∀ {k : Nat} {b : Str}, lev es ss ns k a b → b ∈ ns := fun h => (lev_rch h).inn
  have key : ∀ k, (∃ i, i ≤ k ∧ ∀ b, lev es ss ns (i + 1) a b → lev es ss ns i a b) ∨ k + 1 ≤ cnt k := by
    intro k
    induction k with
    | zero =>
      by_cases c : ∃ b, lev es ss ns 0 a b
      · obtain ⟨b, hb⟩ := c
        exact .inr (List.length_pos_of_mem (a := b) (List.mem_filter.mpr ⟨inn hb, decide_eq_true hb⟩))
      · refine .inl ⟨0, Nat.le_refl _, fun b hb => ?_⟩
        rcases hb with hb | ⟨z, hz, _⟩
        · exact hb
        · exact absurd ⟨z, hz⟩ c
    | succ k ih =>
      rcases ih with ⟨i, hi, st⟩ | hk
      · exact .inl ⟨i, by omega, st⟩
      · by_cases c : ∀ b, lev es ss ns (k + 1) a b → lev es ss ns k a b
        · exact .inl ⟨k, by omega, c⟩
        · obtain ⟨b, hb⟩ := Classical.not_forall.mp c
          obtain ⟨b1, b2⟩ := Classical.not_imp.mp hb
          have := count_lt (l := ns) (p := fun b => decide (lev es ss ns k a b)) (q := fun b => decide (lev es ss ns (k + 1) a b)) (fun x _ hx => decide_eq_true (.inl (of_decide_eq_true hx))) (inn b1) (decide_eq_true b1) (decide_eq_false b2)
          right
          show k + 1 + 1 ≤ (ns.filter fun b => decide (lev es ss ns (k + 1) a b)).length
          have hk' : k + 1 ≤ (ns.filter fun b => decide (lev es ss ns k a b)).length := hk
          omega
  rcases key ns.length with ⟨i, hi, st⟩ | hc
  · have along : ∀ x y, Rch es ss ns x y → lev es ss ns i a x → lev es ss ns i a y := fun x y hxy => by
      induction hxy with
      | one h => exact fun hx => st _ (.inr ⟨_, hx, h⟩)
      | more h _ ih => exact fun hx => ih (st _ (.inr ⟨_, hx, h⟩))
    have start : ∀ {c : Str}, c ∈ succL es ss ns a → lev es ss ns i a c := fun hc => by
      have := lev_up (j := i) (k := 0) (a := a) (b := _) (es := es) (ss := ss) (ns := ns) hc
      rwa [Nat.zero_add] at this
    have fin : lev es ss ns i a b := by
      cases h with
      | one h => exact start h
      | more h g => exact along _ _ g (start h)
    have := lev_up (j := ns.length - i) fin
    rwa [show i + (ns.length - i) = ns.length by omega] at this
  · have : cnt ns.length ≤ ns.length := List.length_filter_le ..
    omega
/-- what is near behind so many rounds -/
structure NearOk (es : List Edn) (ss : List (Str × St3)) (ns : List Str) (k : Nat) (f : Str → List Str) : Prop where
  has : ∀ a ∈ ns, ∀ b, lev es ss ns k a b → b ∈ f a
  only : ∀ a ∈ ns, ∀ b ∈ f a, Rch es ss ns a b
theorem NearOk.full {f : Str → List Str} (h : NearOk es ss ns ns.length f) : ∀ a ∈ ns, ∀ b, b ∈ f a ↔ Rch es ss ns a b := fun a ha b => ⟨h.only a ha b, fun hb => h.has a ha b (lev_full hb)⟩
/-! the rings, by what is near -/
def mutB (f : Str → List Str) (n o : Str) : Bool := has (f n) o && has (f o) n
def ringF (f : Str → List Str) (ns : List Str) (n : Str) : List Str := ns.filter (mutB f n)
def dueF (f : Str → List Str) (ns : List Str) : List Str → List (List Str)
  | l => l.foldl (fun d n => if 1 < (ringF f ns n).length ∧ ringF f ns n ∉ d then d ++ [ringF f ns n] else d) []
theorem due_snoc {f : Str → List Str} {l : List Str} {i : Nat} {n : Str} (h : l[i]? = some n) : dueF f ns (l.take (i + 1)) = if 1 < (ringF f ns n).length ∧ ringF f ns n ∉ dueF f ns (l.take i) then dueF f ns (l.take i) ++ [ringF f ns n] else dueF f ns (l.take i) := by
  rw [take_next h]
  unfold dueF
  rw [List.foldl_append]
  rfl
theorem least_tx : ∀ {l : List Str}, l ≠ [] → ∃ n ∈ l, ∀ y ∈ l, txLt y n = false
  | [], h => absurd rfl h
  | [x], _ => ⟨x, .head _, fun y hy => by rw [List.mem_singleton.mp hy]; exact tx_irr x⟩
  | x :: y :: l, _ => by
    obtain ⟨n, hn, hm⟩ := least_tx (l := y :: l) (by simp)
    cases c : txLt x n with
    | true =>
      refine ⟨x, .head _, fun z hz => ?_⟩
      rcases List.mem_cons.mp hz with q | q
      · rw [q]
        exact tx_irr x
      · cases d : txLt z x with
        | false => rfl
        | true =>
          have := tx_tr d c
          rw [hm z q] at this
          cases this
    | false =>
      refine ⟨n, .tail _ hn, fun z hz => ?_⟩
      rcases List.mem_cons.mp hz with q | q
      · rw [q]
        exact c
      · exact hm z q
theorem mut_iff {f : Str → List Str} (hf : ∀ a ∈ ns, ∀ b, b ∈ f a ↔ Rch es ss ns a b) {n o : Str} (hn : n ∈ ns) (ho : o ∈ ns) : mutB f n o = true ↔ Rch es ss ns n o ∧ Rch es ss ns o n := by
  unfold mutB
  rw [Bool.and_eq_true, has_iff, has_iff, hf n hn, hf o ho]
theorem ring_mem {f : Str → List Str} (hf : ∀ a ∈ ns, ∀ b, b ∈ f a ↔ Rch es ss ns a b) {n o : Str} (hn : n ∈ ns) : o ∈ ringF f ns n ↔ Rch es ss ns n o ∧ Rch es ss ns o n := by
  unfold ringF
  rw [List.mem_filter]
  constructor
  · rintro ⟨h1, h2⟩
    exact (mut_iff hf hn h1).mp h2
  · intro h
    exact ⟨h.1.inn, (mut_iff hf hn h.1.inn).mpr h⟩
theorem ring_same {f : Str → List Str} (hf : ∀ a ∈ ns, ∀ b, b ∈ f a ↔ Rch es ss ns a b) {n m : Str} (hn : n ∈ ns) (hm : m ∈ ringF f ns n) : ringF f ns m = ringF f ns n := by
  obtain ⟨h1, h2⟩ := (ring_mem hf hn).mp hm
  have mn := h1.inn
  unfold ringF
  refine List.filter_congr fun o ho => ?_
  cases c : mutB f n o with
  | true =>
    obtain ⟨g1, g2⟩ := (mut_iff hf hn ho).mp c
    exact (mut_iff hf mn ho).mpr ⟨h2.trans g1, g2.trans h1⟩
  | false =>
    cases d : mutB f m o with
    | false => rfl
    | true =>
      obtain ⟨g1, g2⟩ := (mut_iff hf mn ho).mp d
      rw [(mut_iff hf hn ho).mpr ⟨h1.trans g1, g2.trans h2⟩] at c
      cases c
theorem rot_ring (D : Diff es) {f : Str → List Str} (hf : ∀ a ∈ ns, ∀ b, b ∈ f a ↔ Rch es ss ns a b) {n o : Str} (hn : n ∈ ns) : o ∈ rotL es ss ns n ↔ o ≠ n ∧ o ∈ ringF f ns n := by
  rw [rot_iff D, ring_mem hf hn]
theorem self_ring {f : Str → List Str} (hf : ∀ a ∈ ns, ∀ b, b ∈ f a ↔ Rch es ss ns a b) {n o : Str} (hn : n ∈ ns) (ho : o ∈ ringF f ns n) : n ∈ ringF f ns n := by
  obtain ⟨h1, h2⟩ := (ring_mem hf hn).mp ho
  exact (ring_mem hf hn).mpr ⟨h1.trans h2, h1.trans h2⟩
theorem ring_nd (nd : ns.Nodup) (f : Str → List Str) (n : Str) : (ringF f ns n).Nodup := nd.sublist List.filter_sublist
theorem one_all {l : List Str} {n : Str} (nd : l.Nodup) (h : ∀ x ∈ l, x = n) : l.length ≤ 1 := by
  have := len_sub nd (m := [n]) fun z hz => List.mem_singleton.mpr (h z hz)
  exact this
theorem two_other {l : List Str} {n : Str} (nd : l.Nodup) (h : 1 < l.length) : ∃ o ∈ l, o ≠ n := by
  refine Classical.byContradiction fun z => ?_
  have := one_all (n := n) nd fun x hx => Classical.byContradiction fun q => z ⟨x, hx, q⟩
  omega
theorem ring_many (D : Diff es) {f : Str → List Str} (nd : ns.Nodup) (hf : ∀ a ∈ ns, ∀ b, b ∈ f a ↔ Rch es ss ns a b) {n : Str} (hn : n ∈ ns) : 1 < (ringF f ns n).length ↔ rotL es ss ns n ≠ [] := by
  constructor
  · intro h z
    obtain ⟨o, ho, hne⟩ := two_other (n := n) (ring_nd nd f n) h
    have := (rot_ring D hf hn).mpr ⟨hne, ho⟩
    rw [z] at this
    cases this
  · intro h
    obtain ⟨o, ho⟩ := List.exists_mem_of_ne_nil _ h
    obtain ⟨h1, h2⟩ := (rot_ring D hf hn).mp ho
    have h3 := self_ring hf hn h2
    refine Classical.byContradiction fun z => ?_
    have p : [n, o].length ≤ (ringF f ns n).length := len_sub (List.nodup_cons.mpr ⟨by rw [List.mem_singleton]; exact fun q => h1 q.symm, by simp⟩) fun x hx => by
      rcases List.mem_cons.mp hx with q | q
      · rw [q]; exact h3
      · rw [List.mem_singleton.mp q]; exact h2
    have : [n, o].length = 2 := rfl
    omega
/-- the rings that are due are those of the first ones -/
theorem due_eq (D : Diff es) {f : Str → List Str} (nd : ns.Nodup) (asc : ns.Pairwise txLe) (hf : ∀ a ∈ ns, ∀ b, b ∈ f a ↔ Rch es ss ns a b) : ∀ j, dueF f ns (ns.take j) = ((ns.take j).filter fun n => firB n (rotL es ss ns n)).map (ringF f ns) := by
  intro j
  induction j with
  | zero => rfl
  | succ j ih =>
    cases c : ns[j]? with
    | none =>
      have hl := List.getElem?_eq_none_iff.mp c
      rw [List.take_of_length_le (by omega)]
      rw [List.take_of_length_le hl] at ih
      exact ih
    | some n =>
      have hn := List.mem_of_getElem? c
      have hj := (List.getElem?_eq_some_iff.mp c).1
      rw [due_snoc c, ih, take_next c, List.filter_append, List.map_append]
      have lt : ∀ m ∈ ns.take j, txLe m n ∧ m ≠ n := fun m hm => by
        refine ⟨?_, fun z => nodup_take nd c (z ▸ hm)⟩
        have p := asc
        rw [← List.take_append_drop j ns] at p
        refine (List.pairwise_append.mp p).2.2 m hm n ?_
        rw [List.drop_eq_getElem_cons hj, (List.getElem?_eq_some_iff.mp c).2]
        exact List.mem_cons_self
      by_cases many : 1 < (ringF f ns n).length
      · have rne := (ring_many D nd hf hn).mp many
        cases fb : firB n (rotL es ss ns n) with
        | true =>
          have new : ringF f ns n ∉ ((ns.take j).filter fun n => firB n (rotL es ss ns n)).map (ringF f ns) := fun z => by
            obtain ⟨m, hm, em⟩ := List.mem_map.mp z
            obtain ⟨m1, m2⟩ := List.mem_filter.mp hm
            obtain ⟨m3, m4⟩ := lt m m1
            have mns := List.mem_of_mem_take m1
            have mm : m ∈ ringF f ns m := by
              have : 1 < (ringF f ns m).length := by rw [em]; exact many
              obtain ⟨o, ho⟩ := List.exists_mem_of_length_pos (l := ringF f ns m) (by omega)
              exact self_ring hf mns ho
            rw [em] at mm
            have := (rot_ring D hf hn).mpr ⟨m4, mm⟩
            unfold firB at fb
            have hall := List.all_eq_true.mp (Bool.and_eq_true_iff.mp fb).2 m this
            unfold txLe at m3
            rw [m3] at hall
            cases hall
          rw [if_pos ⟨many, new⟩]
          have : [n].filter (fun n => firB n (rotL es ss ns n)) = [n] := by simp [fb]
          rw [this]
          rfl
        | false =>
          have old : ringF f ns n ∈ ((ns.take j).filter fun n => firB n (rotL es ss ns n)).map (ringF f ns) := by
            have nring : n ∈ ringF f ns n := by
              obtain ⟨o, ho⟩ := List.exists_mem_of_length_pos (l := ringF f ns n) (by omega)
              exact self_ring hf hn ho
            obtain ⟨m, hm, least⟩ := least_tx (l := ringF f ns n) (fun z => by rw [z] at nring; cases nring)
            have mns : m ∈ ns := ((ring_mem hf hn).mp hm).1.inn
            have em := ring_same hf hn hm
            have fm : firB m (rotL es ss ns m) = true := by
              unfold firB
              have many2 : 1 < (ringF f ns m).length := by rw [em]; exact many
              rw [decide_eq_false ((ring_many D nd hf mns).mp many2), Bool.not_false, Bool.true_and]
              refine List.all_eq_true.mpr fun o ho => ?_
              obtain ⟨o1, o2⟩ := (rot_ring D hf mns).mp ho
              rw [em] at o2
              cases q : txLt m o with
              | true => rfl
              | false => exact absurd (tx_tot (least o o2) q) o1
            have mn : m ≠ n := fun z => by rw [z, fb] at fm; cases fm
            have mlt : txLt n m = false := least n nring
            have mtake : m ∈ ns.take j := by
              have e : ns = ns.take j ++ (n :: ns.drop (j + 1)) := by
                conv => lhs; rw [← List.take_append_drop j ns, List.drop_eq_getElem_cons hj, (List.getElem?_eq_some_iff.mp c).2]
              have mns' := mns
              rw [e] at mns'
              rcases List.mem_append.mp mns' with q | q
              · exact q
              · rcases List.mem_cons.mp q with q | q
                · exact absurd q mn
                · have p := asc
                  rw [e] at p
                  have p2 := (List.pairwise_cons.mp (List.pairwise_append.mp p).2.1).1 m q
                  exact absurd (txLe_as _ _ p2 mlt).symm mn
            exact List.mem_map.mpr ⟨m, List.mem_filter.mpr ⟨mtake, fm⟩, em⟩
          rw [if_neg fun z => z.2 old]
          have : [n].filter (fun n => firB n (rotL es ss ns n)) = [] := by simp [fb]
          rw [this]
          exact (List.append_nil _).symm
      · have fb : firB n (rotL es ss ns n) = false := by
          have : rotL es ss ns n = [] := Classical.byContradiction fun z => many ((ring_many D nd hf hn).mpr z)
          unfold firB
          rw [decide_eq_true this]
          rfl
        rw [if_neg fun z => many z.1]
        have : [n].filter (fun n => firB n (rotL es ss ns n)) = [] := by simp [fb]
        rw [this]
        exact (List.append_nil _).symm
/-- a ring that the program tells is the one that is due -/
theorem ring_tells (D : Diff es) {f : Str → List Str} (nd : ns.Nodup) (asc : ns.Pairwise txLe) (hf : ∀ a ∈ ns, ∀ b, b ∈ f a ↔ Rch es ss ns a b) {n : Str} (hn : n ∈ ns) (fb : firB n (rotL es ss ns n) = true) {ys : List Str} (p : ys.Perm (rotL es ss ns n)) (srt : sortedS ys = true) (rnd : (rotL es ss ns n).Nodup) : n :: ys = ringF f ns n := by
  obtain ⟨h1, h2⟩ := Bool.and_eq_true_iff.mp (show (!decide (rotL es ss ns n = []) && (rotL es ss ns n).all fun o => txLt n o) = true from fb)
  have all := List.all_eq_true.mp h2
  have rne : rotL es ss ns n ≠ [] := fun z => by rw [decide_eq_true z] at h1; cases h1
  obtain ⟨o, ho⟩ := List.exists_mem_of_ne_nil _ rne
  have nr := self_ring hf hn ((rot_ring D hf hn).mp ho).2
  have nn : n ∉ ys := fun z => ((rot_ring D hf hn).mp (p.subset z)).1 rfl
  refine sorted_uniq txLe_as ?_ (asc.sublist List.filter_sublist) ?_
  · exact List.pairwise_cons.mpr ⟨fun y hy => tx_as (all y (p.subset hy)), sortedS_pw srt⟩
  · refine same_perm (ring_nd nd f n) (List.nodup_cons.mpr ⟨nn, p.nodup_iff.mpr rnd⟩) fun z => ?_
    rw [List.mem_cons, p.mem_iff, rot_ring D hf hn]
    constructor
    · intro hz
      by_cases c : z = n
      · exact .inl c
      · exact .inr ⟨c, hz⟩
    · rintro (q | q)
      · rw [q]; exact nr
      · exact q.2
theorem need_nd (D : Diff es) : ∀ (k : Nat) (w f : List Str), f.Nodup → (needM es ss ns k w f).Nodup
  | 0, _, _, h => h
  | k + 1, w, f, h => by
    rw [needM]
    split
    · exact h
    · exact need_nd D k _ _ (fresh_app D h)
theorem rot_nd (D : Diff es) (n : Str) : (rotL es ss ns n).Nodup := (need_nd D _ _ _ List.nodup_nil).sublist List.filter_sublist
end
end Half

/-! sorted(xs), xs a list of things that read as data, in the order of the data -/
namespace L2
open PySem PySem.Spec PyProof.Rows
theorem all_refs {β : Type} {g : β → Addr} : ∀ {xs : List β} {us : List Value}, Vals (xs.map fun x => V.ref (g x)) us → PySem.W.EachIs (fun v x => v = Value.ref (g x)) us xs
  | [], _, r => by
    cases r
    exact .nil
  | x :: xs, _, r => by
    cases r with
    | cons r1 r2 => exact .cons r1 (all_refs r2)
theorem refs_vals {β : Type} {g : β → Addr} {us : List Value} {xs : List β} (h : PySem.W.EachIs (fun v x => v = Value.ref (g x)) us xs) : Vals (xs.map fun x => V.ref (g x)) us := by
  induction h with
  | nil => exact .nil
  | cons h _ ih => exact .cons h ih
theorem dps_of {K : PySem.W.Frag} {H : Hp} : ∀ {xs : List (Addr × PyData)}, (∀ x ∈ xs, Dp K H (.ref x.1) x.2) → DpAll K H (xs.map fun x => V.ref x.1) (xs.map fun x => x.2)
  | [], _ => .nil
  | x :: xs, h => .cons (h x (.head _)) (dps_of fun y hy => h y (.tail _ hy))
def rSortRd (K : PySem.W.Frag) : List V → Hp → VK → Prop := fun vs H Q => ∃ (a : Addr) (xs : List (Addr × PyData)), vs = [V.ref a] ∧ SqL K H a (xs.map fun x => V.ref x.1) ∧ (∀ x ∈ xs, Dp K H (.ref x.1) x.2) ∧ PySem.W.AllAlike (xs.map fun x => x.2) ∧ PySem.W.Sortable (xs.map fun x => x.2) ∧ (∀ x ∈ xs, x.2.depth ≤ 20) ∧
  ∀ (ys : List (Addr × PyData)) (p : Addr), ys.Perm xs → (ys.Pairwise fun x y => PySem.W.dataLt y.2 x.2 = false) → H p = none → Q (.ref p) (upd H p (.lst (ys.map fun x => V.ref x.1)))
section
variable {X : Cx}
theorem cr_sortRd (hu : X.A.units + 40 < cLine) : CallR X (.builtin "sorted") (rSortRd X.K) := by
  intro pins s σ H vs us Q I r h
  obtain ⟨a, xs, rfl, hs, hd, hal, hk, dp, q⟩ := h
  obtain ⟨its, rv, hl, hz⟩ := I.list hs
  rw [Vals.ref1 r]
  rw [List.length_map] at hz
  obtain ⟨as, ra⟩ := Dp.readsAll I _ _ its (dps_of hd) rv
  refine PySem.W.sorted_data (R := fun v (x : Addr × PyData) => v = .ref x.1) (enc := fun x : Addr × PyData => x.2) hl.isList (all_refs rv) (PySem.W.readsAll_each (fun x : Addr × PyData => x.2) ra) hal hk hz (fun x hx => ?_) fun out lo eo => ?_
  · have := dp x hx
    show X.A.units + 2 + x.2.depth < cLine
    omega
  have pm := List.mergeSort_perm xs (PySem.W.dataLe false fun x : Addr × PyData => x.2)
  have ⟨n, hn⟩ := sortedAll_at s.heap its (List.toArray out)
  refine ⟨.ref _, upd H _ (.lst ((xs.mergeSort (PySem.W.dataLe false fun x : Addr × PyData => x.2)).map fun x => V.ref x.1)), I.laid (t' := s.toks) (fun _ _ e => sortedAll_old e) (Nat.le_succ _) ⟨by rw [List.length_map, pm.length_eq]; exact hz, _, n, refs_vals (g := fun x : Addr × PyData => x.1) eo, hn⟩, rfl, q _ _ pm ?_ (I.hok.fresh (Nat.le_succ _))⟩
  refine (PySem.W.sort_pairwise (PySem.W.sortLe_total _ false _) _).imp fun {x y} h => ?_
  have h' : PySem.W.dataLe false (fun x : Addr × PyData => x.2) x y = true := h
  rw [PySem.W.dataLe_eq] at h'
  have h2 : (!PySem.W.dataLt y.2 x.2) = true := h'
  cases c : PySem.W.dataLt y.2 x.2 with
  | false => rfl
  | true => rw [c] at h2; cases h2
end
end L2

namespace Half
open PySem PySem.Spec PyProof.Rows L2
theorem dg {H' : Hp} {d : Addr} {kvs : List (Key × V)} {m : Str} {o : Option V} (h1 : H' d = some (.dK kvs)) (h2 : valV kvs (.inr m) = o) : DGet H' d (.str m) o := by
  rw [← h2]
  exact DGet.k (k := .inr _) h1
/-- a dict of lists of names -/
structure NrAt (H : Hp) (d : Addr) (ks : List Str) (f : Str → List Str) : Prop where
  ex : ∃ kvs : List (Key × V), H d = some (.dK kvs) ∧ kvs.map (·.1) = ks.map Sum.inr ∧ ∀ n ∈ ks, ∃ ln, valV kvs (.inr n) = some (.ref ln) ∧ H ln = some (.lst ((f n).map V.str))
theorem NrAt.same {H H' : Hp} {d : Addr} {ks : List Str} {f : Str → List Str} (s : Same H H') (h : NrAt H d ks f) : NrAt H' d ks f := by
  obtain ⟨kvs, h1, h2, h3⟩ := h.ex
  exact ⟨kvs, s _ _ h1, h2, fun n hn => by
    obtain ⟨ln, a, b⟩ := h3 n hn
    exact ⟨ln, a, s _ _ b⟩⟩
theorem NrAt.get {H : Hp} {d : Addr} {ks : List Str} {f : Str → List Str} (h : NrAt H d ks f) {n : Str} (hn : n ∈ ks) : ∃ ln, DGet H d (.str n) (some (.ref ln)) ∧ H ln = some (.lst ((f n).map V.str)) := by
  obtain ⟨kvs, h1, _, h3⟩ := h.ex
  obtain ⟨ln, a, b⟩ := h3 n hn
  exact ⟨ln, dg h1 a, b⟩
def setF (f : Str → List Str) (n : Str) (l : List Str) : Str → List Str := fun a => if a = n then l else f a
theorem NrAt.put {H : Hp} {d p : Addr} {ks : List Str} {f : Str → List Str} (h : NrAt H d ks f) {n : Str} {l : List Str} (few : ks.length ≤ 40) (hp : H p = some (.lst (l.map V.str))) (hk : ks.Nodup) : ∃ H', DPut H d (.str n) (.ref p) H' ∧ (∀ b o, b ≠ d → H b = some o → H' b = some o) ∧ (n ∈ ks → NrAt H' d ks (setF f n l)) ∧ (n ∉ ks → NrAt H' d (ks ++ [n]) (setF f n l)) := by
  obtain ⟨kvs, h1, h2, h3⟩ := h.ex
  have kl : kvs.length = ks.length := by
    have := congrArg List.length h2
    rwa [List.length_map, List.length_map] at this
  have keep : ∀ b o, b ≠ d → H b = some o → (upd H d (.dK (putK kvs (.inr n) (.ref p)))) b = some o := fun b o nb q => by rw [upd_ne nb]; exact q
  have nd : ∀ {b : Addr} {o : HO}, (∀ x, o ≠ .dK x) → H b = some o → b ≠ d := fun ho hb => ne_of hb h1 (ho _)
  have vals : ∀ m, (m ∈ ks ∨ m = n) → ∃ ln, valV (putK kvs (.inr n) (.ref p)) (.inr m) = some (.ref ln) ∧ (upd H d (.dK (putK kvs (.inr n) (.ref p)))) ln = some (.lst ((setF f n l m).map V.str)) := fun m hm => by
    by_cases c : m = n
    · subst c
      refine ⟨p, by rw [valV_put, if_pos rfl], ?_⟩
      unfold setF
      rw [if_pos rfl]
      exact keep _ _ (nd (fun _ z => by cases z) hp) hp
    · obtain ⟨ln, a, b⟩ := h3 m (hm.resolve_right c)
      refine ⟨ln, by rw [valV_put, if_neg (fun z => c (by injection z))]; exact a, ?_⟩
      unfold setF
      rw [if_neg c]
      exact keep _ _ (nd (fun _ z => by cases z) b) b
  refine ⟨_, DPut.k (k := .inr n) h1 (by rw [kl, sizeLine_eq]; omega), keep, fun hn => ?_, fun hn => ?_⟩
  · refine ⟨_, upd_same, ?_, fun m hm => vals m (.inl hm)⟩
    have : (kvs.any fun kv => decide (kv.1 = Sum.inr n)) = true := by
      have : (Sum.inr n : Key) ∈ kvs.map (·.1) := by rw [h2]; exact List.mem_map.mpr ⟨n, hn, rfl⟩
      obtain ⟨q, hq, e⟩ := List.mem_map.mp this
      exact List.any_eq_true.mpr ⟨q, hq, decide_eq_true e⟩
    unfold putK
    rw [if_pos this, List.map_map, ← h2]
    refine List.map_congr_left fun kv _ => ?_
    show (if kv.1 = Sum.inr n then (kv.1, V.ref p) else kv).1 = kv.1
    split <;> rfl
  · have hk' : (Sum.inr n : Key) ∉ kvs.map (·.1) := fun z => by
      rw [h2] at z
      obtain ⟨m, hm, e⟩ := List.mem_map.mp z
      cases e
      exact hn hm
    have e : putK kvs (.inr n) (.ref p) = kvs ++ [(.inr n, .ref p)] := by
      unfold putK
      rw [if_neg]
      intro z
      obtain ⟨q, hq, e⟩ := List.any_eq_true.mp z
      exact hk' (List.mem_map.mpr ⟨q, hq, of_decide_eq_true e⟩)
    refine ⟨_, upd_same, ?_, fun m hm => vals m ?_⟩
    · rw [e, List.map_append, List.map_append, h2]
      rfl
    · rcases List.mem_append.mp hm with q | q
      · exact .inl q
      · exact .inr (List.mem_singleton.mp q)
structure GrowN (es : List Edn) (ss : List (Str × St3)) (ns : List Str) (g g' : Str → List Str) (n : Str) (cs : List Str) : Prop where
  same : ∀ a, a ≠ n → g' a = g a
  keep : ∀ b ∈ g n, b ∈ g' n
  more : ∀ c ∈ cs, ∀ b ∈ succL es ss ns c, b ∈ g' n
  only : ∀ b ∈ g' n, Rch es ss ns n b
  nd : (g' n).Nodup
structure BaseN (es : List Edn) (ss : List (Str × St3)) (ns : List Str) (g : Str → List Str) : Prop where
  base : ∀ a ∈ ns, ∀ b ∈ succL es ss ns a, b ∈ g a
  only : ∀ a ∈ ns, ∀ b ∈ g a, Rch es ss ns a b
  nd : ∀ a ∈ ns, (g a).Nodup
theorem GrowN.base {es : List Edn} {ss : List (Str × St3)} {ns cs : List Str} {g g' : Str → List Str} {n : Str} (h : GrowN es ss ns g g' n cs) (b : BaseN es ss ns g) : BaseN es ss ns g' := by
  refine ⟨fun a ha x hx => ?_, fun a ha x hx => ?_, fun a ha => ?_⟩
  · by_cases c : a = n
    · rw [c] at ha hx ⊢
      exact h.keep x (b.base n ha x hx)
    · rw [h.same a c]
      exact b.base a ha x hx
  · by_cases c : a = n
    · rw [c] at hx ⊢
      exact h.only x hx
    · rw [h.same a c] at hx
      exact b.only a ha x hx
  · by_cases c : a = n
    · rw [c]; exact h.nd
    · rw [h.same a c]
      exact b.nd a ha
theorem strs_tup_eqv : ∀ xs ys : List Str, PyData.eqvAll (xs.map PyData.str) (ys.map PyData.str) = decide (xs = ys)
  | [], [] => by simp [PyData.eqvAll]
  | [], _ :: _ => by simp [PyData.eqvAll]
  | _ :: _, [] => by simp [PyData.eqvAll]
  | x :: xs, y :: ys => by
    have ih := strs_tup_eqv xs ys
    simp only [List.map_cons, PyData.eqvAll, PyData.eqv, ih]
    have e : (x == y) = decide (x = y) := rfl
    rw [e, ← Bool.decide_and]
    exact decide_eq_decide.mpr ⟨fun ⟨a, b⟩ => by rw [a, b], fun h => by injection h with a b; exact ⟨a, b⟩⟩
def ringD (x : List Str) : PyData := .tuple (x.map .str)
theorem ringD_eqv (x y : List Str) : PyData.eqv (ringD x) (ringD y) = decide (x = y) := by
  unfold ringD
  simp only [PyData.eqv]
  exact strs_tup_eqv x y
theorem any_rings (ds : List (List Str)) (x : List Str) : ((ds.map ringD).any fun z => PyData.eqv z (ringD x)) = decide (x ∈ ds) := by
  induction ds with
  | nil => simp
  | cons d ds ih =>
    rw [List.map_cons, List.any_cons, ih, ringD_eqv]
    by_cases c : d = x
    · rw [decide_eq_true c, Bool.true_or]
      exact (decide_eq_true (by rw [c]; exact List.mem_cons_self)).symm
    · rw [decide_eq_false c, Bool.false_or]
      exact decide_eq_decide.mpr ⟨fun h => .tail _ h, fun h => (List.mem_cons.mp h).resolve_left fun z => c z.symm⟩
theorem canLay_strs : ∀ zs : List Str, (∀ z ∈ zs, PyData.strOk z = true) → PyData.canLayAll0 (zs.map PyData.str) = true
  | [], _ => by simp [PyData.canLayAll0]
  | z :: zs, h => by
    have := canLay_strs zs fun u hu => h u (.tail _ hu)
    simp [PyData.canLayAll0, PyData.canLay0, h z (.head _), this]
theorem lay_list : ∀ {ds : List PyData}, (∀ d ∈ ds, PyData.canLay0 d = true ∧ PyData.depth d ≤ 3) → PyData.canLayAll0 ds = true ∧ PyData.depthAll ds ≤ 3
  | [], _ => ⟨by simp [PyData.canLayAll0], by simp [PyData.depthAll]⟩
  | d :: ds, h => by
    obtain ⟨a, b⟩ := h d List.mem_cons_self
    obtain ⟨x, y⟩ := lay_list fun e he => h e (List.mem_cons_of_mem _ he)
    refine ⟨by simp [PyData.canLayAll0, a, x], ?_⟩
    simp only [PyData.depthAll]
    omega
theorem shaped_list {ds : List PyData} (h : ∀ d ∈ ds, PyData.canLay0 d = true ∧ PyData.depth d ≤ 3) : SeqAt.shaped (.list ds) = true := by
  obtain ⟨a, b⟩ := lay_list h
  unfold SeqAt.shaped
  rw [Bool.and_eq_true]
  refine ⟨by simp only [PyData.canLay0]; exact a, decide_eq_true ?_⟩
  simp only [PyData.depth]
  omega
theorem ringD_lay {x : List Str} (h : ∀ z ∈ x, PyData.strOk z = true) : PyData.canLay0 (ringD x) = true ∧ PyData.depth (ringD x) ≤ 3 := by
  refine ⟨by simp [ringD, PyData.canLay0, canLay_strs x h], ?_⟩
  simp [ringD, PyData.depth, depth_strs x]
theorem ringD_shaped {x : List Str} (h : ∀ z ∈ x, PyData.strOk z = true) : SeqAt.shaped (ringD x) = true := by
  obtain ⟨a, b⟩ := ringD_lay h
  unfold SeqAt.shaped
  rw [Bool.and_eq_true]
  exact ⟨a, decide_eq_true (by omega)⟩
theorem rings_shaped {ds : List (List Str)} (h : ∀ x ∈ ds, ∀ z ∈ x, PyData.strOk z = true) : SeqAt.shaped (.list (ds.map ringD)) = true := shaped_list fun d hd => by
  obtain ⟨x, hx, rfl⟩ := List.mem_map.mp hd
  exact ringD_lay (h x hx)
theorem strs_lay {ys : List Str} (h : ∀ x ∈ ys, PyData.strOk x = true) : SeqAt.shaped (.list (ys.map PyData.str)) = true := shaped_list fun d hd => by
  obtain ⟨c, hc, rfl⟩ := List.mem_map.mp hd
  refine ⟨by simp [PyData.canLay0, h c hc], ?_⟩
  simp [PyData.depth]
theorem lay_self {d : PyData} (h : SeqAt.shaped d = true) : PyData.eqv d d = true := SeqAt.eqv_refl _ (Bool.and_eq_true_iff.mp h).1
def RgT (H : Hp) (p : Addr) (x : List Str) : Prop := H p = some (.tup (x.map V.str))
theorem rgt_dp {K : PySem.W.Frag} {H : Hp} : ∀ {ps : List Addr} {ds : List (List Str)}, Paired (RgT H) ps ds → DpAll K H (ps.map V.ref) (ds.map ringD)
  | _, _, .nil => .nil
  | _, _, .cons h t => .cons (.tup (SqT.of h) (dpS _)) (rgt_dp t)
section
variable {es : List Edn} {ss : List (Str × St3)} {ns : List Str}
def stepG (es : List Edn) (ss : List (Str × St3)) (ns : List Str) : List Str := ns.filter fun n => !lackB es ss ns n
def gIt (es : List Edn) (ss : List (Str × St3)) : Nat → List Str → List Str
  | 0, ns => ns
  | k + 1, ns => stepG es ss (gIt es ss k ns)
theorem git_first : ∀ (k : Nat) (ns : List Str), gIt es ss (k + 1) ns = gIt es ss k (stepG es ss ns)
  | 0, _ => rfl
  | k + 1, ns => by
    show stepG es ss (gIt es ss (k + 1) ns) = stepG es ss (gIt es ss k (stepG es ss ns))
    rw [git_first k ns]
theorem git_stable (h : stepG es ss ns = ns) : ∀ k, gIt es ss k ns = ns
  | 0 => rfl
  | k + 1 => by
    show stepG es ss (gIt es ss k ns) = ns
    rw [git_stable h k, h]
theorem hope_git : ∀ (k : Nat) (ns : List Str), hopeM es ss k ns = gIt es ss k ns
  | 0, _ => rfl
  | k + 1, ns => by
    rw [hopeM, git_first]
    by_cases c : ns.filter (lackB es ss ns) = []
    · rw [if_pos c]
      have st : stepG es ss ns = ns := List.filter_eq_self.mpr fun n hn => by
        have := List.filter_eq_nil_iff.mp c n hn
        cases q : lackB es ss ns n with
        | false => rfl
        | true => rw [q] at this; exact absurd rfl this
      rw [st, git_stable st]
    · rw [if_neg c, hope_git k]
      congr 1
      refine List.filter_congr fun n hn => ?_
      cases q : lackB es ss ns n with
      | true => rw [has_iff.mpr (List.mem_filter.mpr ⟨hn, q⟩)]
      | false =>
        rw [has_no fun z => by
          have := (List.mem_filter.mp z).2
          rw [q] at this
          cases this]
theorem git_sub : ∀ (k : Nat) (ns : List Str), (gIt es ss k ns).Sublist ns
  | 0, _ => List.Sublist.refl _
  | k + 1, ns => List.filter_sublist.trans (git_sub k ns)
theorem due_one (D : Diff es) {f : Str → List Str} (nd : ns.Nodup) (h3 : ns.length ≤ 3) (hf : ∀ a ∈ ns, ∀ b, b ∈ f a ↔ Rch es ss ns a b) : ((ns.filter fun n => firB n (rotL es ss ns n)).map (ringF f ns)).length ≤ 1 := by
  rw [List.length_map]
  refine Classical.byContradiction fun hc => ?_
  have fnd : (ns.filter fun n => firB n (rotL es ss ns n)).Nodup := nd.sublist List.filter_sublist
  have many : 1 < (ns.filter fun n => firB n (rotL es ss ns n)).length := by omega
  obtain ⟨n1, h1⟩ := List.exists_mem_of_length_pos (l := ns.filter fun n => firB n (rotL es ss ns n)) (by omega)
  obtain ⟨n2, h2, hne⟩ := two_other (n := n1) fnd many
  obtain ⟨i1, f1⟩ := List.mem_filter.mp h1
  obtain ⟨i2, f2⟩ := List.mem_filter.mp h2
  have big : ∀ n ∈ ns, firB n (rotL es ss ns n) = true → 1 < (ringF f ns n).length := fun n hn fb => (ring_many D nd hf hn).mpr fun z => by
    unfold firB at fb
    rw [decide_eq_true z] at fb
    cases fb
  have b1 := big n1 i1 f1
  have b2 := big n2 i2 f2
  have selfr : ∀ n ∈ ns, 1 < (ringF f ns n).length → n ∈ ringF f ns n := fun n hn h => by
    obtain ⟨o, ho⟩ := List.exists_mem_of_length_pos (l := ringF f ns n) (by omega)
    exact self_ring hf hn ho
  have apart : ∀ z ∈ ringF f ns n1, z ∉ ringF f ns n2 := fun z z1 z2 => by
    have e : ringF f ns n1 = ringF f ns n2 := (ring_same hf i1 z1).symm.trans (ring_same hf i2 z2)
    have m12 : n1 ∈ ringF f ns n2 := e ▸ selfr n1 i1 b1
    have m21 : n2 ∈ ringF f ns n1 := e ▸ selfr n2 i2 b2
    have r12 := (rot_ring D hf i2).mpr ⟨fun q => hne q.symm, m12⟩
    have r21 := (rot_ring D hf i1).mpr ⟨hne, m21⟩
    have a1 := List.all_eq_true.mp (Bool.and_eq_true_iff.mp (show (!decide (rotL es ss ns n1 = []) && (rotL es ss ns n1).all fun o => txLt n1 o) = true from f1)).2 _ r21
    have a2 := List.all_eq_true.mp (Bool.and_eq_true_iff.mp (show (!decide (rotL es ss ns n2 = []) && (rotL es ss ns n2).all fun o => txLt n2 o) = true from f2)).2 _ r12
    rw [tx_as a1] at a2
    cases a2
  have app : (ringF f ns n1 ++ ringF f ns n2).Nodup := List.nodup_append.mpr ⟨ring_nd nd f n1, ring_nd nd f n2, fun a ha b hb e => apart a ha (e ▸ hb)⟩
  have len := len_sub app (m := ns) fun z hz => by
    rcases List.mem_append.mp hz with q | q
    · exact (List.mem_filter.mp q).1
    · exact (List.mem_filter.mp q).1
  rw [List.length_append] at len
  omega
theorem ring_list (D : Diff es) {f : Str → List Str} (nd : ns.Nodup) (asc : ns.Pairwise txLe) (hf : ∀ a ∈ ns, ∀ b, b ∈ f a ↔ Rch es ss ns a b) {K : PySem.W.Frag} {H : Hp} : ∀ {ps : List Addr} {l : List Str}, (∀ n ∈ l, n ∈ ns ∧ firB n (rotL es ss ns n) = true) → Paired (RingAt K H) ps (l.map fun n => (n, rotL es ss ns n)) → Paired (fun p (o : List Str) => SqT K H p (o.map V.str)) ps (l.map (ringF f ns))
  | _, [], _, h => by cases h; exact .nil
  | _, n :: l, hl, h => by
    cases h with
    | cons h t =>
      obtain ⟨h1, h2⟩ := hl n (.head _)
      obtain ⟨ys, a1, a2, a3⟩ := h
      refine .cons ?_ (ring_list D nd asc hf (fun m hm => hl m (.tail _ hm)) t)
      have e := ring_tells D nd asc hf h1 h2 a2 a3 (rot_nd D n)
      show SqT K H _ ((ringF f ns n).map V.str)
      rw [← e]
      exact a1
theorem sq_dp {K : PySem.W.Frag} {H : Hp} : ∀ {ps : List Addr} {ds : List (List Str)}, Paired (fun p (o : List Str) => SqT K H p (o.map V.str)) ps ds → DpAll K H (ps.map V.ref) (ds.map ringD)
  | _, _, .nil => .nil
  | _, _, .cons h t => .cons (.tup h (dpS _)) (sq_dp t)
end
end Half

namespace Half
open PySem PySem.Spec PyProof.Rows L2
/-! ### k75: the drawn editions and states -/
abbrev sRin : Stmt := top 55
abbrev RinN : List Str := ["_law_row", "_law_names", "_law_some", "_law_states", "_law_name", "_law_others", "_law_wants", "_law_has", "_law_version", "_law_other"]
theorem scRin : FnScope RinN ["_law_row"] (defScope sRin) := ⟨rfl, rfl, rfl, by decide +kernel, rfl, by decide +kernel, by decide +kernel⟩
abbrev rBody : List Stmt := forBody (nth (defBody sRin) 1)
theorem pn4_nd : PN4.Nodup := by decide +kernel
theorem put_new {kvs : List (Key × V)} {k : Key} {v : V} (h : k ∉ kvs.map (·.1)) : putK kvs k v = kvs ++ [(k, v)] := by
  unfold putK
  rw [if_neg]
  intro z
  obtain ⟨p, hp, e⟩ := List.any_eq_true.mp z
  exact h (List.mem_map.mpr ⟨p, hp, of_decide_eq_true e⟩)
theorem one_leU : 1 ≤ sizeLine := by decide
def otherL (nm : Str) : List Str := PN4.filter fun o => !decide (o = nm)
theorem other_three {nm : Str} (h : nm ∈ PN4) : (otherL nm).length = 3 := by
  unfold PN4 at h
  simp only [List.mem_cons, List.not_mem_nil, or_false] at h
  rcases h with rfl | rfl | rfl | rfl <;> decide +kernel
theorem other_sub (nm : Str) : (otherL nm).Sublist PN4 := List.filter_sublist
theorem other_no (nm : Str) : nm ∉ otherL nm := fun z => by
  have := (List.mem_filter.mp z).2
  simp at this
theorem cut_all {xs : List V} (h : xs.length ≤ 3) : cutV xs none (some 3) = xs := by
  unfold cutV
  rw [show (some (3 : Int)) = some ((3 : Nat) : Int) from rfl, HT.sIx_nat, HT.sIx_none, List.drop_zero, Nat.sub_zero]
  exact List.take_of_length_le (by omega)
/-- a drawn state of an edition -/
def StOfE (e : Edn) (s : St3) : Prop := s = (("unpacked" : Str), e.ver, (0 : Int)) ∨ s = (("ready" : Str), e.ver, e.ver)
structure RingP (i : Nat) (ls : Es) (ss : List (Str × St3)) : Prop where
  ln : ls.map (fun e => e.2.name) = PN4.take i
  sn : ss.map (·.1) = PN4.take i
  each : ∀ e ∈ ls, GoodE e.2.name e.2.ver (otherL e.2.name) e.2 ∧ 1 ≤ e.2.ver ∧ e.2.ver ≤ 2
  st : ∀ p ∈ ss, ∃ e ∈ ls, e.2.name = p.1 ∧ StOfE e.2 p.2
theorem RingP.snoc {i : Nat} {ls : Es} {ss : List (Str × St3)} (h : RingP i ls ss) {nm : Str} {t : Addr} {e : Edn} {s : St3} (hn : PN4[i]? = some nm) (g : GoodE nm e.ver (otherL nm) e) (v1 : 1 ≤ e.ver) (v2 : e.ver ≤ 2) (hs : StOfE e s) : RingP (i + 1) (ls ++ [(t, e)]) (ss ++ [(nm, s)]) := by
  have en := g.name
  refine ⟨by rw [List.map_append, h.ln, take_next hn]; show _ ++ [e.name] = _; rw [en], by rw [List.map_append, h.sn, take_next hn]; rfl, fun x hx => ?_, fun p hp => ?_⟩
  · rcases List.mem_append.mp hx with q | q
    · exact h.each x q
    · rw [List.mem_singleton.mp q]
      refine ⟨?_, v1, v2⟩
      show GoodE e.name e.ver (otherL e.name) e
      rw [en]
      exact g
  · rcases List.mem_append.mp hp with q | q
    · obtain ⟨x, hx, h1⟩ := h.st p q
      exact ⟨x, List.mem_append_left _ hx, h1⟩
    · rw [List.mem_singleton.mp q]
      exact ⟨(t, e), List.mem_append_right _ List.mem_cons_self, en, hs⟩
def spRin (K : PySem.W.Frag) : Sp := fun vs H Q _ => ∃ (r a : Addr), vs = [.ref r] ∧ Row K H r a ∧
  ∀ (t l d : Addr) (ls : Es) (kvs : List (Key × V)) (ss : List (Str × St3)) H', Dr r a H H' → SqT K H' t [.ref l, .ref d] → LEd K H' l ls → H' d = some (.dK kvs) → SL K H' kvs ss → RingP 4 ls ss → Q (.ref t) H'
section
variable {P : Program} {w : World} {K : PySem.W.Frag} {mg : Str → Option Value} {base : Heap}
theorem ring_tail {f : Addr} {cdv : Value} {A : Around} {outer : List Env} {s : Shared} {H0 : Hp} {E : XK} (dT : Def P w K mg base 1 "_law_taken" ["_law_row", "_law_many"] (spTaken K))
    (hr : Room 1 (A.deeper (envOfC "_law_ringed" (defScope sRin) s.heap.objs.size f cdv))) (nd : RinN.Nodup) :
    ∃ t, PSs (cxOf CX0 P w K mg base RinN "_law_ringed" (defScope sRin) f cdv A outer s H0 E).nox (rBody.drop 3) t ∧ ∀ (D' : Ends) (Hb H : Hp) (r a ln l d p2 p7 : Addr) (i : Nat) (nm : Str) (ps2 : List (Str × Int)) (hs : List Str) (ls : Es) (kvs : List (Key × V)) (ss : List (Str × St3)) (x5 x8 x9 : Option V),
      PN4[i]? = some nm → Row K Hb r a → Dr r a Hb H → Hb l = none → Hb d = none → l ≠ d → LEd K H l ls → H d = some (.dK kvs) → SL K H kvs ss → RingP i ls ss → NeedsAt K H p2 ps2 → SqT K H p7 (hs.map V.str) → hs.Sublist SCR → (ps2.map (·.1)).Sublist (otherL nm) → (∀ p ∈ ps2, 1 ≤ p.2 ∧ p.2 ≤ 2) →
      (∀ (H' : Hp) (ls' : Es) (kvs' : List (Key × V)) (ss' : List (Str × St3)) (x8 : Option V), Dr r a Hb H' → LEd K H' l ls' → H' d = some (.dK kvs') → SL K H' kvs' ss' → RingP (i + 1) ls' ss' → D'.nx [some (.ref r), some (.ref ln), some (.ref l), some (.ref d), some (.str nm), x5, some (.ref p2), some (.ref p7), x8, x9] H') →
      t D' [some (.ref r), some (.ref ln), some (.ref l), some (.ref d), some (.str nm), x5, some (.ref p2), some (.ref p7), x8, x9] H := by
  have r1 := hr
  have hu : (A.deeper (envOfC "_law_ringed" (defScope sRin) s.heap.objs.size f cdv)).units + 1 < cLine := by have := hr.units; omega
  refine ⟨_, pss_cons (ps_expr (pe_bm PySem.F.plainAttrs_list PySem.F.slot_list_append PySem.F.type_list_append mt_append (pv 2) (pa_cons
        (pe_tup (pa_cons (pv 4) (pa_cons (pe_op op_add pe_int (pe_def dT r1 rfl (pa_cons (pv 0) (pa_cons pe_int pa_nil)))) (pa_cons (pv 7) (pa_cons (pv 6) (pa_cons (pe_tup pa_nil) (pa_cons (pe_tup pa_nil) pa_nil))))))) pa_nil)))
    (pss_cons (ps_set (i := 8) nd rfl (Or.inl rfl) (pe_ix (ix_tup : IxR _ (rIxT K)) (pe_ix (ix_list : IxR _ (rIxL K)) (pv 2) (pe_un un_neg pe_int) (fun _ _ => rfl)) pe_int (fun _ _ => rfl)))
    (pss_one (ps_dput hu (pv 3) (pv 4) (pe_ifExp (pt_cmpR op_gt (pe_def dT r1 rfl (pa_cons (pv 0) (pa_cons pe_int pa_nil))) pe_int (nomark _)) (pe_tup (pa_cons pe_str (pa_cons (pv 8) (pa_cons pe_int pa_nil)))) (pe_tup (pa_cons pe_str (pa_cons (pv 8) (pa_cons (pv 8) pa_nil))))) rfl))), ?_⟩
  intro D' Hb H r a ln l d p2 p7 i nm ps2 hs ls kvs ss x5 x8 x9 hnm hRb dB hl hd nld hL gd hS hP n2 s7 hsub hs2 hb2 k
  have R0 := dB.row hRb
  have nlr' := hRb.ne hl
  have ndr := hRb.ne hd
  have il : i < 4 := (List.getElem?_eq_some_iff.mp hnm).1
  have lsl : ls.length ≤ 4 := by
    have a1 := congrArg List.length hP.ln
    rw [List.length_map, List.length_take] at a1
    omega
  refine ⟨_, rfl, .inl ⟨rfl, _, SqL.of hL.at_⟩, _, rfl, _, rfl, r, _, a, rfl, R0, by decide, by decide, fun v o v0 v1 R3 => ⟨_, _, rfl, rfl, _, rfl, _, rfl, Nat.zero_le _, fun p4 np4 => ⟨Nat.zero_le _, fun p5 np5 => ⟨(by show 6 ≤ sizeLine; decide), fun t nt => ?_⟩⟩⟩⟩
  have d3a := Dr.draw R3
  have d3 := dB.trans d3a
  have kp3 := d3a.kp R0
  have L3 := hL.dr R0 nlr' d3a
  have gd3 := d3a.sb _ _ ndr gd
  have S3 := hS.kp kp3
  have n3 := n2.kp kp3
  have s73 := kp3 _ _ s7
  generalize upd H r o = H3 at R3 d3 L3 gd3 S3 n3 s73 np4 np5 nt ⊢
  have q4 := Same.upd_new (o := .tup []) np4
  have q5 := Same.upd_new (o := .tup []) np5
  have q6 := Same.upd_new (o := .tup [.str nm, .int (1 + v), .ref p7, .ref p2, .ref p4, .ref p5]) nt
  let e : Edn := ⟨nm, 1 + v, hs, ps2, [], []⟩
  have ge : GoodE nm e.ver (otherL nm) e := ⟨rfl, rfl, hsub, hs2, fun p hp => ⟨(hb2 p hp).1, by have := (hb2 p hp).2; omega⟩, List.nil_sublist _, fun p hp => (nomatch hp), List.nil_sublist _⟩
  have hT : TupE K (upd (upd (upd H3 p4 (.tup [])) p5 (.tup [])) t (.tup [.str nm, .int (1 + v), .ref p7, .ref p2, .ref p4, .ref p5])) t e := by
    refine ⟨p7, p2, p4, p5, SqT.of upd_same, ⟨q6.sqT (q5.sqT (q4.sqT s73)), ((n3.same q4).same q5).same q6, ⟨[], q6.sqT (q5.sqT (SqT.of upd_same)), rfl, fun i t p h => by simp at h⟩, q6.sqT (SqT.of upd_same)⟩⟩
  have S6 := q4.trans (q5.trans q6)
  have d6 := d3.same S6
  have R6 := R3.same' S6
  have L6 := L3.same S6
  have gd6 := S6 _ _ gd3
  have Sl6 := S3.same S6
  generalize upd (upd (upd H3 p4 (.tup [])) p5 (.tup [])) t (.tup [.str nm, .int (1 + v), .ref p7, .ref p2, .ref p4, .ref p5]) = H6 at hT d6 R6 L6 gd6 Sl6 ⊢
  refine ⟨l, _, _, rfl, rfl, L6.at_, by rw [List.length_map, sizeLine_eq]; omega, ?_⟩
  have L7 := L6.app hT
  have kpl : Kp K H6 (upd H6 l (.lst ((ls.map fun e => V.ref e.1) ++ [.ref t]))) := Kp.upd L6.at_ (fun xs z => by cases z) (fun q xs z => by cases z)
  have d7 := d6.put (o := .lst ((ls.map fun e => V.ref e.1) ++ [.ref t])) hl nlr'
  have gd7 : (upd H6 l (.lst ((ls.map fun e => V.ref e.1) ++ [.ref t]))) d = some (.dK kvs) := by rw [upd_ne (Ne.symm nld)]; exact gd6
  have Sl7 := Sl6.kp kpl
  have hT7 := hT.kp kpl
  have gl7 : (upd H6 l (.lst ((ls.map fun e => V.ref e.1) ++ [.ref t]))) l = some (.lst ((ls.map fun e => V.ref e.1) ++ [.ref t])) := upd_same
  generalize upd H6 l (.lst ((ls.map fun e => V.ref e.1) ++ [.ref t])) = H7 at L7 d7 gd7 Sl7 hT7 gl7 ⊢
  obtain ⟨u1, u2, u3, u4, ht7, _⟩ := hT7
  refine ⟨_, rfl, _, rfl, l, _, _, _, rfl, rfl, SqL.of gl7, atI_last _ _, t, _, 1, _, rfl, rfl, ht7, rfl, ?_⟩
  have R7 := d7.row hRb
  refine ⟨_, rfl, r, _, a, rfl, R7, by decide, by decide, fun u o u0 u1 R8 => ⟨_, _, rfl, rfl, _, rfl, ?_⟩⟩
  have d8a := Dr.draw R8
  have d8 := d7.trans d8a
  have kp8 := d8a.kp R7
  have L8 := L7.dr R7 nlr' d8a
  have gd8 := d8a.sb _ _ ndr gd7
  have Sl8 := Sl7.kp kp8
  generalize upd H7 r o = H8 at R8 d8 L8 gd8 Sl8 ⊢
  have hk : (.inr nm : Key) ∉ kvs.map (·.1) := fun z => by
    rw [hS.keys] at z
    obtain ⟨m, hm, e⟩ := List.mem_map.mp z
    cases e
    rw [hP.sn] at hm
    exact nodup_take pn4_nd hnm hm
  have kl : kvs.length ≤ 40 := by
    have a1 := hS.len
    have a2 := congrArg List.length hP.sn
    rw [List.length_map, List.length_take] at a2
    omega
  have fin : ∀ (st : St3) (t9 : Addr), StOfE e st → H8 t9 = none → ∃ H', DPut (upd H8 t9 (.tup (stV st))) d (.str nm) (.ref t9) H' ∧ D'.nx [some (.ref r), some (.ref ln), some (.ref l), some (.ref d), some (.str nm), x5, some (.ref p2), some (.ref p7), some (.int (1 + v)), x9] H' := fun st t9 hst nt9 => by
    have a9 := Same.upd_new (o := .tup (stV st)) nt9
    have g9 : SqT K (upd H8 t9 (.tup (stV st))) t9 (stV st) := SqT.of upd_same
    have d9 := d8.same a9
    have L9 := L8.same a9
    have gd9 := a9 _ _ gd8
    have Sl9 := Sl8.same a9
    generalize upd H8 t9 (.tup (stV st)) = H9 at g9 d9 L9 gd9 Sl9 ⊢
    have kD : Kp K H9 (upd H9 d (.dK (kvs ++ [(.inr nm, .ref t9)]))) := Kp.upd gd9 (fun xs z => by cases z) (fun q xs z => by cases z)
    refine ⟨upd H9 d (.dK (kvs ++ [(.inr nm, .ref t9)])), by rw [← put_new hk]; exact DPut.k (k := .inr nm) gd9 (by rw [sizeLine_eq]; omega), ?_⟩
    refine k _ (ls ++ [(t, e)]) _ (ss ++ [(nm, st)]) _ (d9.put hd ndr) ⟨by rw [upd_ne nld]; exact L9.at_, fun x hx => (L9.tu x hx).kp kD⟩ upd_same ((Sl9.kp kD).snoc (kD _ _ g9)) (hP.snoc hnm ge (by show 1 ≤ 1 + v; omega) (by show 1 + v ≤ 2; omega) hst)
  cases c : decide ((0 : Int) < u) with
  | true =>
    refine ite_yes rfl ?_
    refine ⟨_, rfl, (by show 3 ≤ sizeLine; decide), fun t9 nt9 => ?_⟩
    obtain ⟨H', e1, e2⟩ := fin ("unpacked", 1 + v, 0) t9 (.inl rfl) nt9
    exact ⟨_, rfl, _, rfl, d, _, rfl, e1, e2⟩
  | false =>
    refine ite_no rfl ?_
    refine ⟨_, rfl, _, rfl, (by show 3 ≤ sizeLine; decide), fun t9 nt9 => ?_⟩
    obtain ⟨H', e1, e2⟩ := fin ("ready", 1 + v, 1 + v) t9 (.inr rfl) nt9
    exact ⟨_, rfl, _, rfl, d, _, rfl, e1, e2⟩
theorem ring_body {f : Addr} {cdv : Value} {A : Around} {outer : List Env} {s : Shared} {H0 : Hp} {E : XK} (gT : mg "tuple" = none) (dT : Def P w K mg base 1 "_law_taken" ["_law_row", "_law_many"] (spTaken K))
    (hr : Room 1 (A.deeper (envOfC "_law_ringed" (defScope sRin) s.heap.objs.size f cdv))) (nd : RinN.Nodup) :
    ∃ t, PSs (cxOf CX0 P w K mg base RinN "_law_ringed" (defScope sRin) f cdv A outer s H0 E).nox rBody t ∧ ∀ (D' : Ends) (Hb H : Hp) (r a ln l d : Addr) (i : Nat) (nm : Str) (ls : Es) (kvs : List (Key × V)) (ss : List (Str × St3)) (x5 x6 x7 x8 x9 : Option V),
      PN4[i]? = some nm → Row K Hb r a → Dr r a Hb H → Hb ln = some (.lst (PN4.map V.str)) → ln ≠ r → Hb l = none → Hb d = none → l ≠ d → LEd K H l ls → H d = some (.dK kvs) → SL K H kvs ss → RingP i ls ss →
      (∀ (H' : Hp) (ls' : Es) (kvs' : List (Key × V)) (ss' : List (Str × St3)) (x5 x6 x7 x8 : Option V), Dr r a Hb H' → LEd K H' l ls' → H' d = some (.dK kvs') → SL K H' kvs' ss' → RingP (i + 1) ls' ss' → D'.nx [some (.ref r), some (.ref ln), some (.ref l), some (.ref d), some (.str nm), x5, x6, x7, x8, x9] H') →
      t D' [some (.ref r), some (.ref ln), some (.ref l), some (.ref d), some (.str nm), x5, x6, x7, x8, x9] H := by
  have r1 := hr
  obtain ⟨tT, hT, rdT⟩ := ring_tail (P := P) (w := w) (K := K) (mg := mg) (base := base) (f := f) (cdv := cdv) (A := A) (outer := outer) (s := s) (H0 := H0) (E := E) dT hr nd
  refine ⟨_, pss_cons (ps_setLc (i := 5) (own := [("_law_other", 9)]) (g := gName 9) (tt := tTest (tOp rNe (tVar 9) (tVar 4))) (te := tVar 9) rfl nd rfl rfl (sw_true rfl rfl rfl (by decide +kernel)) (pi_list (pv 1)) (blkOk_by (N := RinN) (sc := defScope sRin) (by decide +kernel))
      (fun _ _ _ _ _ => pg_name (i := 9) nd rfl (Or.inl rfl)) (fun _ _ _ _ _ => pts_one (pt_cmpR op_ne (pv 9) (pv 4) (nomark _))) (fun _ _ _ _ _ => pv 9))
    (pss_cons (ps_set (i := 6) nd rfl (Or.inl rfl) (pe_callTy call_tuple_of (by rfl) gT (by decide +kernel) (pa_cons (pe_slice sl_list
        (pe_lc (own := [("_law_other", 9)]) (g := gName 9) (tt := tDrawn K 0 3) (te := tTup (tCons (tVar 9) (tCons (tOp (rI0 fun i j => .int (i + j)) (tC (.int 1)) (tCall (spTaken K) [] E0 (tCons (tVar 0) (tCons (tC (.int 2)) tNil)))) tNil))) rfl nd (pi_list (pv 5)) (blkOk_by (N := RinN) (sc := defScope sRin) (by decide +kernel))
          (fun _ _ _ _ _ => pg_name (i := 9) nd rfl (Or.inl rfl)) (fun _ _ _ _ _ => pts_one (pt_cmpR op_eq (pe_def dT r1 rfl (pa_cons (pv 0) (pa_cons pe_int pa_nil))) pe_int (nomark _))) (fun _ _ _ _ _ => pe_tup (pa_cons (pv 9) (pa_cons (pe_op op_add pe_int (pe_def dT r1 rfl (pa_cons (pv 0) (pa_cons pe_int pa_nil)))) pa_nil)))) po_none (po_some pe_int)) pa_nil)))
    (pss_cons (ps_set (i := 7) nd rfl (Or.inl rfl) (pe_ifExp (pt_cmpR op_eq (pe_def dT r1 rfl (pa_cons (pv 0) (pa_cons pe_int pa_nil))) pe_int (nomark _)) (pe_tup (pa_cons pe_str pa_nil)) (pe_tup pa_nil)))
    hT)), ?_⟩
  intro D' Hb H r a ln l d i nm ls kvs ss x5 x6 x7 x8 x9 hnm hRb dB hln nlr hl hd nld hL gd hS hP k
  have R0 := dB.row hRb
  have nlr' := hRb.ne hl
  have ndr := hRb.ne hd
  have hnp : nm ∈ PN4 := List.mem_of_getElem? hnm
  have gln := dB.lst nlr hln
  -- the others
  refine ⟨_, rfl, ln, rfl, ⟨_, SqL.of gln⟩, fun D hD => lc_it walk_strs (AccP H D (filV (fun o => !decide (o = nm)) V.str PN4)) (AccP.zero hD rfl) (fun _ _ _ p => SqL.of (p.1 _ _ gln)) ?_ ?_⟩
  · rintro j x H1 H2 hi p ⟨rfl, hx⟩
    obtain ⟨o, ho, rfl⟩ := getE hx
    refine ⟨rfl, _, rfl, _, rfl, rfl, _, rfl, ?_⟩
    rw [dec_str]
    cases c : !decide (o = nm) with
    | true =>
      refine iteT ⟨_, rfl, ?_⟩
      exact p.step hD (filV_yes ho c) (Nat.le_trans (filV_len ..) (by decide)) (Same.refl _)
    | false =>
      refine iteF ?_
      exact p.skip (filV_no ho c) (Same.refl _)
  intro H1 p1
  have g1 : H1 D = some (.lst ((otherL nm).map V.str)) := acc_all p1 rfl
  have R1 := R0.same' p1.1
  have d1 := dB.same p1.1
  have L1 := hL.same p1.1
  have gd1 := p1.1 _ _ gd
  have S1 := hS.same p1.1
  have nDr := R0.ne hD
  have ol := other_three hnp
  have osub := other_sub nm
  have ono := other_no nm
  -- what it wants
  refine ⟨_, rfl, D, rfl, ⟨_, SqL.of g1⟩, fun D2 hD2 => draw_pairs walk_strs (fun H' d => SqL.of (d.lst nDr g1)) R1 (by omega) (by decide) (by decide) (by decide) (by decide) ⟨fun _ => rfl, fun _ => rfl, fun _ => rfl⟩ hD2 (fun H2 ts2 ps2 d2 hz2 hp2 hs2 hb2 => ?_)⟩
  have pl : ts2.length ≤ 3 := by
    have a1 := hs2.length_le
    rw [List.length_map] at a1
    rw [hp2.1]
    omega
  refine ⟨_, rfl, D2, _, rfl, SqL.of hz2, fun p2a np2a => ?_⟩
  rw [cut_all (by rw [List.length_map]; exact pl)]
  have s2a := Same.upd_new (o := .lst (ts2.map V.ref)) np2a
  have g2a : (upd H2 p2a (.lst (ts2.map V.ref))) p2a = some (.lst (ts2.map V.ref)) := upd_same
  refine ⟨p2a, _, rfl, .inl ⟨SqL.of g2a, fun p2 np2 => ?_⟩⟩
  have s2b := Same.upd_new (o := .tup (ts2.map V.ref)) np2
  have S2 := s2a.trans s2b
  have n2 : NeedsAt K (upd (upd H2 p2a (.lst (ts2.map V.ref))) p2 (.tup (ts2.map V.ref))) p2 ps2 := ⟨ts2, .inl (.inl upd_same), hp2.1, fun i t p a b => S2.sqT (hp2.2 i t p a b)⟩
  have R2 := (d2.row R1).same' S2
  have d2' := d1.trans (d2.same S2)
  have gd2 := S2 _ _ (d2.sb _ _ (fun z => ndr z) gd1)
  have L2' := (L1.dr R1 nlr' d2).same S2
  have Sl2 := (hS.same p1.1).kp ((d2.kp R1).trans S2.kp)
  generalize upd (upd H2 p2a (.lst (ts2.map V.ref))) p2 (.tup (ts2.map V.ref)) = H3 at n2 R2 d2' gd2 L2' Sl2 ⊢
  -- its scripts
  refine ⟨_, rfl, r, _, a, rfl, R2, by decide, by decide, fun v o v0 v1 R3 => ⟨rfl, _, rfl, ?_⟩⟩
  have d3a := Dr.draw R3
  have d3 := d2'.trans d3a
  have n3 := n2.kp (d3a.kp R2)
  have gd3 := d3a.sb _ _ ndr gd2
  have L3 := L2'.dr R2 nlr' d3a
  have Sl3 := Sl2.kp (d3a.kp R2)
  generalize upd H3 r o = H4 at R3 d3 n3 gd3 L3 Sl3 ⊢
  have tail : ∀ (hs : List Str) (p7 : Addr), hs.Sublist SCR → H4 p7 = none → tT D' [some (.ref r), some (.ref ln), some (.ref l), some (.ref d), some (.str nm), some (.ref D), some (.ref p2), some (.ref p7), x8, x9] (upd H4 p7 (.tup (hs.map V.str))) := fun hs p7 hsub np7 => by
    have q7 := Same.upd_new (o := .tup (hs.map V.str)) np7
    exact rdT D' Hb _ r a ln l d p2 p7 i nm ps2 hs ls kvs ss _ _ _ hnm hRb (d3.same q7) hl hd nld (L3.same q7) (q7 _ _ gd3) (Sl3.same q7) hP (n3.same q7) (.inl (.inl upd_same)) hsub hs2 hb2 fun H' ls' kvs' ss' x8 e1 e2 e3 e4 e5 => k H' ls' kvs' ss' _ _ _ _ e1 e2 e3 e4 e5
  by_cases c : v = 0
  · refine ite_yes (by rw [c]; rfl) ?_
    exact ⟨one_leU, fun p7 np7 => tail ["setup"] p7 (by decide) np7⟩
  · refine ite_no (decide_eq_false fun z => c (by injection z)) ?_
    exact ⟨Nat.zero_le _, fun p7 np7 => tail [] p7 (List.nil_sublist _) np7⟩
theorem ok_rin {f : Addr} {fd : FuncData} (F : Fun K "_law_ringed" "_law_ringed" sRin f fd) (gT : mg "tuple" = none) (dT : Def P w K mg base 1 "_law_taken" ["_law_row", "_law_many"] (spTaken K)) : FnOk P w K mg base CX0 2 f fd ["_law_row"] (spRin K) := by
  refine F.ok scRin (fun vs H Q E h => ?_) (fun cdv A outer s H vs Q E hr h => ?_)
  · obtain ⟨r, a, rfl, _⟩ := h
    rfl
  · obtain ⟨r, a, rfl, hR, k⟩ := h
    have nd := scRin.nd
    obtain ⟨tB, hB, rdB⟩ := ring_body (P := P) (w := w) (K := K) (mg := mg) (base := base) (f := f) (cdv := cdv) (A := A) (outer := outer) (s := s) (H0 := H) (E := E) gT dT hr nd
    refine ⟨_, pss_cons (ps_par3 (i := 1) (j := 2) (l := 3) (by rfl) nd rfl rfl rfl (by decide) (by decide) (by decide) rfl rfl rfl (pa_cons (pe_lst (pa_cons pe_str (pa_cons pe_str (pa_cons pe_str (pa_cons pe_str pa_nil))))) (pa_cons (pe_lst pa_nil) (pa_cons pe_dnewK pa_nil))) (by rfl))
      (pss_cons (ps_for PassesOwn.never rfl (pi_list (pv 1)) (pg_name (i := 4) nd rfl (Or.inr rfl)) hB)
      (pss_one (ps_ret (pe_tup (pa_cons (pv 2) (pa_cons (pv 3) pa_nil)))))), ?_⟩
    refine ⟨(by show 4 ≤ sizeLine; decide), fun ln nln => ?_⟩
    have q1 := Same.upd_new (o := .lst (PN4.map V.str)) nln
    have g1 : (upd H ln (.lst (PN4.map V.str))) ln = some (.lst (PN4.map V.str)) := upd_same
    have nlr := hR.ne nln
    have e1 : upd H ln (.lst [.str "app", .str "db", .str "lib", .str "web"]) = upd H ln (.lst (PN4.map V.str)) := rfl
    rw [e1]
    have R1 := hR.same' q1
    have d1 := hR.of q1
    generalize upd H ln (.lst (PN4.map V.str)) = H1 at q1 g1 R1 d1 ⊢
    refine ⟨Nat.zero_le _, fun l nl => fun d nd2 => ⟨_, _, _, rfl, ?_⟩⟩
    have q2 := Same.upd_new (o := .lst []) nl
    have q3 := Same.upd_new (o := .dK []) nd2
    have nld : l ≠ d := ne_of_none upd_same nd2
    have nd1 : H1 d = none := by
      rw [upd_ne (Ne.symm nld)] at nd2
      exact nd2
    have gl3 : (upd (upd H1 l (.lst [])) d (.dK [])) l = some (.lst []) := by rw [upd_ne nld]; exact upd_same
    have gd3 : (upd (upd H1 l (.lst [])) d (.dK [])) d = some (.dK []) := upd_same
    have d3 := R1.of (q2.trans q3)
    generalize upd (upd H1 l (.lst [])) d (.dK []) = H3 at gl3 gd3 d3 ⊢
    have gln3 := d3.lst nlr g1
    refine ⟨_, rfl, ln, rfl, ⟨_, SqL.of gln3⟩, ?_⟩
    refine for_it (walk_list (xs := PN4.map V.str)) (fun i σ H' => ∃ (ls : Es) (kvs : List (Key × V)) (ss : List (Str × St3)) (x4 x5 x6 x7 x8 : Option V), Dr r a H1 H' ∧ LEd K H' l ls ∧ H' d = some (.dK kvs) ∧ SL K H' kvs ss ∧ RingP i ls ss ∧ σ = [some (.ref r), some (.ref ln), some (.ref l), some (.ref d), x4, x5, x6, x7, x8, none]) ?_ ?_ ?_ ?_
    · exact ⟨[], [], [], _, _, _, _, _, d3, ⟨gl3, fun e he => nomatch he⟩, gd3, .nil, ⟨rfl, rfl, fun e he => (nomatch he), fun p hp => (nomatch hp)⟩, rfl⟩
    · rintro i σ H' _ ⟨ls, kvs, ss, x4, x5, x6, x7, x8, h1, _⟩
      exact SqL.of (h1.lst nlr g1)
    · rintro i x σ H4 H5 hi ⟨ls, kvs, ss, x4, x5, x6, x7, x8, h1, h2, h3, h4, h5, rfl⟩ ⟨rfl, hx⟩
      obtain ⟨nm, hnm, rfl⟩ := getE hx
      exact rdB _ H1 _ r a ln l d i nm ls kvs ss _ _ _ _ _ hnm R1 h1 g1 nlr nl nd1 nld h2 h3 h4 h5 fun H' ls' kvs' ss' x5 x6 x7 x8 e1 e2 e3 e4 e5 => ⟨ls', kvs', ss', _, _, _, _, _, e1, e2, e3, e4, e5, rfl⟩
    · rintro σ H4 ⟨ls, kvs, ss, x4, x5, x6, x7, x8, h1, h2, h3, h4, h5, rfl⟩
      refine ⟨_, rfl, _, rfl, two_le, fun t nt => ?_⟩
      have q5 := Same.upd_new (o := .tup [.ref l, .ref d]) nt
      exact k t l d ls kvs ss _ ((d1.trans h1).same q5) (SqT.of upd_same) (h2.same q5) (q5 _ _ h3) (h4.same q5) h5
end
end Half

namespace Half
open PySem PySem.Spec PyProof.Rows L2
/-! ### k75: whether all needs are met; how many are forced -/
abbrev sCan : Stmt := top 56
abbrev sFor : Stmt := top 58
abbrev CanN : List Str := ["_law_some", "_law_states", "_law_done", "_law_name", "_law_wants", "_law_other", "_law_least", "_law_one"]
theorem scCan : FnScope CanN ["_law_some", "_law_states", "_law_done", "_law_name"] (defScope sCan) := ⟨rfl, rfl, rfl, by decide +kernel, rfl, by decide +kernel, by decide +kernel⟩
abbrev ForN : List Str := ["_law_some", "_law_states", "_law_order", "_law_k"]
theorem scFor : FnScope ForN ["_law_some", "_law_states", "_law_order"] (defScope sFor) := ⟨rfl, rfl, rfl, by decide +kernel, rfl, by decide +kernel, by decide +kernel⟩
def okB (ss : List (Str × St3)) (ns : List Str) (q : Str × Int) : Bool := metB ss q || wmB ss ns q
theorem lack_any {es : List Edn} {ss : List (Str × St3)} {ns : List Str} {n : Str} : lackB es ss ns n = (needsOf es ss n).any fun q => !okB ss ns q := by
  unfold lackB needsOf
  cases stOf ss n with
  | none => rfl
  | some s =>
    dsimp only
    cases edAt es (n, s.2.1) with
    | none => rfl
    | some e =>
      dsimp only
      congr 1
      funext q
      unfold okB
      rw [Bool.not_or]
theorem filt_one {α : Type} (f : α → Str) : ∀ {l : List α} {x : α}, (l.map f).Nodup → x ∈ l → l.filter (fun y => decide (f y = f x)) = [x]
  | y :: l, x, h, hx => by
    obtain ⟨h1, h2⟩ := List.nodup_cons.mp (show (f y :: l.map f).Nodup from h)
    rw [List.filter_cons]
    rcases List.mem_cons.mp hx with rfl | q
    · rw [if_pos (decide_eq_true rfl)]
      congr 1
      refine List.filter_eq_nil_iff.mpr fun z hz e => h1 ?_
      exact List.mem_map.mpr ⟨z, hz, of_decide_eq_true e⟩
    · rw [if_neg (fun e => h1 (List.mem_map.mpr ⟨x, q, (of_decide_eq_true e).symm⟩))]
      exact filt_one f h2 q
theorem RingP.edn {ls : Es} {ss : List (Str × St3)} (h : RingP 4 ls ss) {n : Str} (hn : n ∈ PN4) : ∃ x ∈ ls, x.2.name = n ∧ ∃ s, stOf ss n = some s ∧ StOfE x.2 s ∧ needsOf (ls.map (·.2)) ss n = x.2.nee := by
  have snd : (ss.map (·.1)).Nodup := by rw [h.sn]; exact pn4_nd
  have lnd : (ls.map fun e => e.2.name).Nodup := by rw [h.ln]; exact pn4_nd
  have hm : n ∈ ss.map (·.1) := by rw [h.sn]; exact hn
  obtain ⟨s, hs⟩ := stOf_some hm
  obtain ⟨x, hx, en, hst⟩ := h.st _ (stOf_in hs)
  have en : x.2.name = n := en
  refine ⟨x, hx, en, s, hs, hst, ?_⟩
  have ev : s.2.1 = x.2.ver := by rcases hst with e | e <;> rw [show s = _ from e]
  obtain ⟨y, hy, ek, ea⟩ := edAt_some (es := ls) (k := (n, s.2.1)) (by
    rw [keys_eds, List.map_map]
    exact List.mem_map.mpr ⟨x, hx, by show x.2.key = _; rw [ev, ← en]; rfl⟩)
  unfold needsOf
  rw [hs]
  dsimp only
  rw [ea]
  have e1 : y.2.name = x.2.name := by rw [en]; exact congrArg Prod.fst ek
  have f1 := filt_one (fun e : Addr × Edn => e.2.name) lnd hx
  have : y ∈ ls.filter (fun z => decide (z.2.name = x.2.name)) := List.mem_filter.mpr ⟨hy, decide_eq_true e1⟩
  rw [f1] at this
  rw [List.mem_singleton.mp this]
def spCan (K : PySem.W.Frag) : Sp := fun vs H Q _ => ∃ (l d q : Addr) (ls : Es) (kvs : List (Key × V)) (ss : List (Str × St3)) (ns : List Str) (n : Str), vs = [.ref l, .ref d, .ref q, .str n] ∧ LEd K H l ls ∧ H d = some (.dK kvs) ∧ SL K H kvs ss ∧ RingP 4 ls ss ∧ NmAt K H q ns ∧ n ∈ PN4 ∧ ∀ H', Same H H' → Q (.bl (!lackB (ls.map (·.2)) ss ns n)) H'
def spFor (K : PySem.W.Frag) : Sp := fun vs H Q _ => ∃ (l d t : Addr) (ls : Es) (kvs : List (Key × V)) (ss : List (Str × St3)) (o : List Str), vs = [.ref l, .ref d, .ref t] ∧ LEd K H l ls ∧ H d = some (.dK kvs) ∧ SL K H kvs ss ∧ RingP 4 ls ss ∧ SqT K H t (o.map V.str) ∧ (∀ n ∈ o, n ∈ PN4) ∧ o.length ≤ 4 ∧ ∀ H', Same H H' → Q (.int (forcedN (ls.map (·.2)) ss o)) H'
section
variable {P : Program} {w : World} {K : PySem.W.Frag} {mg : Str → Option Value} {base : Heap}
theorem ok_can {f : Addr} {fd : FuncData} (F : Fun K "_law_can" "_law_can" sCan f fd) : FnOk P w K mg base CX0 2 f fd ["_law_some", "_law_states", "_law_done", "_law_name"] (spCan K) := by
  refine F.ok scCan (fun vs H Q E h => ?_) (fun cdv A outer s H vs Q E hr h => ?_)
  · obtain ⟨l, d, q, ls, kvs, ss, ns, n, rfl, _⟩ := h
    rfl
  · obtain ⟨l, d, q, ls, kvs, ss, ns, n, rfl, hL, gd, hS, hP, hq, hn, k⟩ := h
    have nd := scCan.nd
    have hu : (A.deeper (envOfC "_law_can" (defScope sCan) s.heap.objs.size f cdv)).units + 1 < cLine := by have := hr.units; omega
    refine ⟨_, pss_cons (ps_set (i := 4) nd rfl (Or.inl rfl) (pe_ix (ix_list : IxR _ (rIxL K)) (pe_lc (own := [("_law_one", 7)]) (g := gName 7) (tt := tTest (tOp rEq (tOp (rIxT K) (tVar 7) (tC (.int 0))) (tVar 3))) (te := tOp (rIxT K) (tVar 7) (tC (.int 3))) rfl nd (pi_list (pv 0)) (blkOk_by (N := CanN) (sc := defScope sCan) (by decide +kernel))
          (fun _ _ _ _ _ => pg_name (i := 7) nd rfl (Or.inl rfl)) (fun _ _ _ _ _ => pts_one (pt_cmpR op_eq (pe_ix (ix_tup : IxR _ (rIxT K)) (pv 7) pe_int (fun _ _ => rfl)) (pv 3) (nomark _))) (fun _ _ _ _ _ => pe_ix (ix_tup : IxR _ (rIxT K)) (pv 7) pe_int (fun _ _ => rfl))) pe_int (fun _ _ => rfl)))
      (pss_cons (ps_for PassesOwn.never rfl (pi_tup (pv 4)) (pg_tup rfl (pgs_cons (pg_name (i := 5) nd rfl (Or.inl rfl)) (pgs_cons (pg_name (i := 6) nd rfl (Or.inl rfl)) pgs_nil)))
        (pss_cons (ps_if (pt_cmpR op_lt (pe_ix (ix_tup : IxR _ (rIxT K)) (pe_dget hu (pv 1) (pv 5) (fun _ _ => rfl)) pe_int (fun _ _ => rfl)) (pv 6) (nomark _)) (pss_one (ps_ret pe_bl)) pss_nil)
        (pss_one (ps_if (PW.pt (pw_and (pt_cmpR op_ne (pe_ix (ix_tup : IxR _ (rIxT K)) (pe_dget hu (pv 1) (pv 5) (fun _ _ => rfl)) pe_int (fun _ _ => rfl)) pe_str (nomark _)) (pw_and1 (pt_cmpR (op_notIn_seq : OpR _ _ (rIn K true)) (pv 5) (pv 2) (by rfl))))) (pss_one (ps_ret pe_bl)) pss_nil))))
      (pss_one (ps_ret pe_bl))), ?_⟩
    have lnd : (ls.map fun e => e.2.name).Nodup := by rw [hP.ln]; exact pn4_nd
    obtain ⟨x, hx, en, s0, hs0, hst0, hne⟩ := hP.edn hn
    have f1 := filt_one (fun e : Addr × Edn => e.2.name) lnd hx
    rw [en] at f1
    have lsl : ls.length ≤ 4 := by
      have a1 := congrArg List.length hP.ln
      rw [List.length_map, List.length_take] at a1
      omega
    have gl := hL.at_
    refine ⟨_, rfl, l, rfl, ⟨_, SqL.of gl⟩, fun D hD => lc_it (walk_list (xs := ls.map fun e => V.ref e.1)) (fun i H' => Same H H' ∧ ∃ ps : List Addr, H' D = some (.lst (ps.map V.ref)) ∧ Paired (fun p (e : Addr × Edn) => NeedsAt K H' p e.2.nee) ps ((ls.take i).filter fun y => decide (y.2.name = n))) ⟨Same.upd_new hD, [], upd_same, .nil⟩ (fun _ _ _ p => SqL.of (p.1 _ _ gl)) ?_ ?_⟩
    · rintro i v H1 H2 hi ⟨s1, ps, g1, hp⟩ ⟨rfl, hv⟩
      obtain ⟨e, he, rfl⟩ := getE hv
      obtain ⟨u1, u2, u3, u4, ht, hE⟩ := (hL.same s1).tu e (List.mem_of_getElem? he)
      have tk := take_next he
      refine ⟨rfl, _, rfl, e.1, _, 0, _, rfl, rfl, ht, rfl, _, rfl, rfl, _, rfl, ?_⟩
      rw [dec_str]
      cases c : decide (e.2.name = n) with
      | false =>
        refine ite_no rfl ?_
        refine ⟨s1, ps, g1, ?_⟩
        rw [tk, List.filter_append]
        have : [e].filter (fun y => decide (y.2.name = n)) = [] := by simp [of_decide_eq_false c]
        rw [this, List.append_nil]
        exact hp
      | true =>
        refine ite_yes rfl ?_
        have pl := Paired.length hp
        have fl := List.length_filter_le (fun y : Addr × Edn => decide (y.2.name = n)) (ls.take i)
        rw [List.length_take] at fl
        have kD : Kp K H2 (upd H2 D (.lst (ps.map V.ref ++ [V.ref u2]))) := Kp.upd g1 (fun _ z => by cases z) (fun _ _ z => by cases z)
        refine ⟨_, rfl, e.1, _, 3, _, rfl, rfl, ht, rfl, ps.map V.ref, g1, by rw [List.length_map, sizeLine_eq]; omega, fun b u z => by rw [upd_ne (ne_of_none z hD)]; exact s1 _ _ z, ps ++ [u2], by rw [upd_same, List.map_append]; rfl, ?_⟩
        rw [tk, List.filter_append]
        have : [e].filter (fun y => decide (y.2.name = n)) = [e] := by simp [of_decide_eq_true c]
        rw [this]
        exact papp (pimp (fun v u h => h.kp kD) hp) (.cons (hE.needs.kp kD) .nil)
    rintro H1 ⟨s1, ps, g1, hp⟩
    rw [List.length_map, List.take_length, f1] at hp
    cases hp with
    | cons hN h2 =>
    cases h2
    rename_i pw
    refine ⟨D, _, 0, _, rfl, rfl, SqL.of g1, rfl, ?_⟩
    rw [← hne] at hN
    have okn := lack_any (es := ls.map (·.2)) (ss := ss) (ns := ns) (n := n)
    have sub : ∀ z ∈ needsOf (ls.map (·.2)) ss n, z.1 ∈ PN4 := fun z hz => by
      rw [hne] at hz
      exact (other_sub _).subset ((hP.each x hx).1.nee.subset (List.mem_map.mpr ⟨z, hz, rfl⟩))
    generalize needsOf (ls.map (·.2)) ss n = qs at hN okn sub
    obtain ⟨ts, hSq, htl, hts⟩ := hN
    refine ⟨_, rfl, pw, rfl, ⟨_, hSq⟩, ?_⟩
    refine for_it (walk_tup (xs := ts.map V.ref)) (fun i σ H' => Same H1 H' ∧ (∀ z ∈ qs.take i, okB ss ns z = true) ∧ ∃ x5 x6 : Option V, σ = [some (.ref l), some (.ref d), some (.ref q), some (.str n), some (.ref pw), x5, x6, none]) ⟨Same.refl _, fun z hz => by simp at hz, _, _, rfl⟩ (fun _ σ H' _ p => p.1.sqT hSq) ?_ ?_
    · rintro i v σ H2 H3 hi ⟨s2, hok, x5, x6, rfl⟩ ⟨rfl, hv⟩
      obtain ⟨t1, ht1, rfl⟩ := getE hv
      have hip : i < qs.length := by rw [List.length_map] at hi; omega
      have hq1 : qs[i]? = some qs[i] := List.getElem?_eq_getElem hip
      have ht := s2.sqT (hts i t1 _ ht1 hq1)
      have zin : qs[i] ∈ qs := List.getElem_mem hip
      generalize qs[i] = z at hq1 ht zin
      have tk := take_next hq1
      have S2 := s1.trans s2
      obtain ⟨y, hy, eny, s', hs', hst', _⟩ := hP.edn (sub z zin)
      have gd2 := S2 _ _ gd
      have hS2 := hS.same S2
      obtain ⟨t5, e5, g5⟩ : ∃ t, valV kvs (.inr z.1) = some (.ref t) ∧ SqT K H3 t (stV s') := by
        rcases hS2.at z.1 with ⟨_, c⟩ | ⟨t, s'', w1, w2, w3⟩
        · rw [hs'] at c; cases c
        · rw [hs'] at w2
          cases w2
          exact ⟨t, w1, w3⟩
      have eo : okB ss ns z = ((decide (s'.1 = "ready") && decide (z.2 ≤ s'.2.1)) || (has ns z.1 && decide (z.2 ≤ s'.2.1))) := by
        unfold okB metB wmB
        rw [hs']
      have bad : okB ss ns z = false → (!lackB (ls.map (·.2)) ss ns n) = false := fun c => by
        rw [okn]
        have : (qs.any fun q => !okB ss ns q) = true := List.any_eq_true.mpr ⟨z, zin, by rw [c]; rfl⟩
        rw [this]
        rfl
      refine ⟨t1, _, rfl, ht, rfl, _, _, rfl, _, _, rfl, rfl, ?_⟩
      refine ⟨_, rfl, _, rfl, d, _, rfl, dg gd2 e5, t5, _, 1, _, rfl, rfl, g5, rfl, _, rfl, _, _, rfl, rfl, _, rfl, ?_⟩
      by_cases c1 : z.2 ≤ s'.2.1
      · refine ite_no (decide_eq_false (by omega)) ?_
        rw [decide_eq_true c1, Bool.and_true, Bool.and_true] at eo
        refine ⟨_, rfl, _, rfl, d, _, rfl, dg gd2 e5, t5, _, 0, _, rfl, rfl, g5, rfl, rfl, _, rfl, ?_⟩
        rw [dec_str]
        have good : okB ss ns z = true → (∀ u ∈ qs.take (i + 1), okB ss ns u = true) := fun c u hu => by
          rw [tk] at hu
          rcases List.mem_append.mp hu with w | w
          · exact hok u w
          · rw [List.mem_singleton.mp w]; exact c
        cases c2 : decide (s'.1 = "ready") with
        | true =>
          rw [c2, Bool.true_or] at eo
          refine ite_no rfl ?_
          refine ite_no rfl ?_
          exact ⟨s2, good eo, _, _, rfl⟩
        | false =>
          rw [c2, Bool.false_or] at eo
          refine ite_yes rfl ?_
          refine ⟨_, rfl, _, rfl, q, _, rfl, hq.same S2, rfl, flat_strs _, _, rfl, ?_⟩
          rw [if_pos rfl, inV_str]
          cases c3 : has ns z.1 with
          | true =>
            rw [c3] at eo
            refine ite_no rfl ?_
            exact ⟨s2, good eo, _, _, rfl⟩
          | false =>
            rw [c3] at eo
            refine ite_yes rfl ?_
            have := k _ S2
            rw [bad eo] at this
            exact this
      · refine ite_yes (decide_eq_true (by omega)) ?_
        rw [decide_eq_false c1, Bool.and_false, Bool.and_false] at eo
        have := k _ S2
        rw [bad eo] at this
        exact this
    · rintro σ H2 ⟨s2, hok, x5, x6, rfl⟩
      rw [List.length_map, htl, List.take_length] at hok
      have := k _ (s1.trans s2)
      have e : lackB (ls.map (·.2)) ss ns n = false := by
        rw [okn]
        refine List.any_eq_false.mpr fun z hz c => ?_
        rw [hok z hz] at c
        cases c
      rw [e] at this
      exact this
theorem ok_for {f : Addr} {fd : FuncData} (F : Fun K "_law_forced" "_law_forced" sFor f fd) (gL : mg "len" = none) (gR : mg "range" = none) (dC : Def P w K mg base 2 "_law_can" ["_law_some", "_law_states", "_law_done", "_law_name"] (spCan K)) : FnOk P w K mg base CX0 3 f fd ["_law_some", "_law_states", "_law_order"] (spFor K) := by
  refine F.ok scFor (fun vs H Q E h => ?_) (fun cdv A outer s H vs Q E hr h => ?_)
  · obtain ⟨l, d, t, ls, kvs, ss, o, rfl, _⟩ := h
    rfl
  · obtain ⟨l, d, t, ls, kvs, ss, o, rfl, hL, gd, hS, hP, hq, pd, l3, k⟩ := h
    have nd := scFor.nd
    refine ⟨_, pss_one (ps_ret (pe_callB call_len_seq (by rfl) gL PySem.boot_len (pa_cons
      (pe_lc (own := [("_law_k", 3)]) (g := gName 3) (tt := tNot (tTest (tCall (spCan K) [] E0 (tCons (tVar 0) (tCons (tVar 1) (tCons (tSl (rSlT K) (tVar 2) tNoPart (tPart (tVar 3))) (tCons (tOp (rIxT K) (tVar 2) (tVar 3)) tNil))))))) (te := tC (.int 1)) rfl nd
        (pi_range1 (by rfl) gR (pa_cons (pe_callB call_len_seq (by rfl) gL PySem.boot_len (pa_cons (pv 2) pa_nil)) pa_nil)) (blkOk_by (N := ForN) (sc := defScope sFor) (by decide +kernel))
        (fun _ _ _ _ _ => pg_name (i := 3) nd rfl (Or.inl rfl)) (fun _ _ _ _ _ => pts_one (pt_not (pt_val (pe_def dC hr rfl (pa_cons (pv 0) (pa_cons (pv 1) (pa_cons (pe_slice sl_tup (pv 2) po_none (po_some (pv 3))) (pa_cons (pe_ix (ix_tup : IxR _ (rIxT K)) (pv 2) (pv 3) (fun _ _ => rfl)) pa_nil)))))))) (fun _ _ _ _ _ => pe_int)) pa_nil))), ?_⟩
    have lo : (o.map V.str).length = o.length := List.length_map ..
    refine ⟨_, rfl, t, _, rfl, .inr hq, _, rfl, by rw [lo]; omega, by rw [lo]; omega, fun D hD => ?_⟩
    rw [lo]
    have en : ((o.length : Nat) : Int).toNat = o.length := Int.toNat_natCast _
    refine lc_it walk_range (AccP H D (filV (forB (ls.map (·.2)) ss o) (fun i => V.int 1) (List.range o.length))) (AccP.zero hD rfl) (fun _ _ _ _ => trivial) ?_ ?_
    · rintro i x H1 H2 hi p ⟨rfl, rfl⟩
      have hi' : i < o.length := by omega
      obtain ⟨n, hn⟩ : ∃ n, o[i]? = some n := ⟨_, List.getElem?_eq_getElem hi'⟩
      have hr' : (List.range o.length)[i]? = some i := List.getElem?_range hi'
      have gdd : o.getD i "" = n := by rw [List.getD_eq_getElem?_getD, hn]; rfl
      have hq2 := p.1.sqT hq
      have ei : ((0 : Int) + (i : Nat)) = (i : Int) := Int.zero_add _
      have hat : atI (o.map V.str) ((0 : Int) + (i : Nat)) = some (.str n) := by rw [ei]; exact atI_nat (by rw [List.getElem?_map, hn]; rfl)
      refine ⟨rfl, _, rfl, _, rfl, _, rfl, _, rfl, _, rfl, t, _, rfl, hq2, fun z => ?_, fun u nu => ?_⟩
      · have := z.2
        rw [ei, HT.sIx_nat, lo] at this
        omega
      rw [ei, cut_take (by rw [lo]; exact hi')]
      have q2 := Same.upd_new (o := .tup ((o.map V.str).take i)) nu
      have s2 := p.1.trans q2
      refine ⟨_, rfl, _, rfl, t, _, _, _, rfl, rfl, q2.sqT hq2, hat, ?_⟩
      refine ⟨l, d, u, ls, kvs, ss, o.take i, n, rfl, hL.same s2, s2 _ _ gd, hS.same s2, hP, .inr (SqT.of (by rw [upd_same, List.map_take])), pd n (List.mem_of_getElem? hn), fun H3 s3' => ⟨_, rfl, ?_⟩⟩
      have ef : forB (ls.map (·.2)) ss o i = lackB (ls.map (·.2)) ss (o.take i) n := by unfold forB; rw [gdd]
      have S : Same H2 H3 := q2.trans s3'
      cases cc : lackB (ls.map (·.2)) ss (o.take i) n with
      | true =>
        refine ite_yes rfl ?_
        have := p.step hD (filV_yes hr' (ef.trans cc)) (Nat.le_trans (filV_len ..) (by rw [List.length_range]; omega)) S
        exact this
      | false =>
        refine ite_no rfl ?_
        exact p.skip (filV_no hr' (ef.trans cc)) S
    intro H1 p
    have g1 := acc_all p (by rw [en, List.length_range])
    refine ⟨D, _, rfl, .inl (SqL.of g1), ?_⟩
    rw [List.length_map]
    exact k _ p.1
end
end Half

namespace Half
open PySem PySem.Spec PyProof.Rows L2
/-! ### k75: what each package needs, straight or through others -/
abbrev sClo : Stmt := top 57
abbrev CloN : List Str := ["_law_some", "_law_states", "_law_left", "_law_name", "_law_found", "_law_one", "_law_other", "_law_turn", "_law_more", "_law_least"]
theorem scClo : FnScope CloN ["_law_some", "_law_states", "_law_left"] (defScope sClo) := ⟨rfl, rfl, rfl, by decide +kernel, rfl, by decide +kernel, by decide +kernel⟩
abbrev oBody : List Stmt := forBody (nth (defBody sClo) 1)
abbrev uBody : List Stmt := forBody (nth (forBody (nth (defBody sClo) 2)) 0)
abbrev gOL (K : PySem.W.Frag) : TG := gTup K 2 (gCons (gName 6) (gCons (gName 9) gNil))
def oneG (es : List Edn) (ss : List (Str × St3)) (left : List Str) (g : Str → List Str) (n : Str) : Str → List Str := if n ∈ left then setF g n (succL es ss left n) else g
def spClo (K : PySem.W.Frag) : Sp := fun vs H Q _ => ∃ (l d q : Addr) (ls : Es) (kvs : List (Key × V)) (ss : List (Str × St3)) (left : List Str), vs = [.ref l, .ref d, .ref q] ∧ LEd K H l ls ∧ H d = some (.dK kvs) ∧ SL K H kvs ss ∧ RingP 4 ls ss ∧ H q = some (.lst (left.map V.str)) ∧ left.Nodup ∧ (∀ n ∈ left, n ∈ PN4) ∧
  ∀ D f H', Same H H' → NrAt H' D left f → (∀ a ∈ left, ∀ b, b ∈ f a ↔ Rch (ls.map (·.2)) ss left a b) → Q (.ref D) H'
theorem merge_new : ∀ {more acc : List (Key × V)}, ((acc ++ more).map (·.1)).Nodup → mergeK acc more = acc ++ more
  | [], acc, _ => (List.append_nil acc).symm
  | (k, v) :: more, acc, h => by
    have hk : (acc.any fun kv => decide (kv.1 = k)) = false := List.any_eq_false.mpr fun x hx z => by
      have z : x.1 = k := of_decide_eq_true z
      rw [List.map_append, List.map_cons] at h
      exact (List.nodup_append.mp h).2.2 x.1 (List.mem_map.mpr ⟨x, hx, rfl⟩) k List.mem_cons_self z
    have e : putK acc k v = acc ++ [(k, v)] := by
      unfold putK
      rw [hk]
      rfl
    show mergeK (putK acc k v) more = _
    rw [e, merge_new (by rw [List.append_assoc]; exact h), List.append_assoc]
    rfl
section
variable {P : Program} {w : World} {K : PySem.W.Frag} {mg : Str → Option Value} {base : Heap}
theorem clo_one {f : Addr} {cdv : Value} {A : Around} {outer : List Env} {s : Shared} {H0 : Hp} {E : XK}
    (hr : Room 2 (A.deeper (envOfC "_law_closed" (defScope sClo) s.heap.objs.size f cdv))) (nd : CloN.Nodup) :
    ∃ t, PSs (cxOf CX0 P w K mg base CloN "_law_closed" (defScope sClo) f cdv A outer s H0 E).nox oBody t ∧ ∀ (D' : Ends) (Hb H : Hp) (l d q D te : Addr) (ls : Es) (e : Edn) (kvs : List (Key × V)) (ss : List (Str × St3)) (left : List Str) (g : Str → List Str) (x3 x6 x7 x8 x9 : Option V),
      Same Hb H → Hb D = none → TupE K Hb te e → (∀ s, stOf ss e.name = some s → needsOf (ls.map (·.2)) ss e.name = e.nee) → (∃ s, stOf ss e.name = some s) → (∀ z ∈ e.nee, ∃ s, stOf ss z.1 = some s) → e.nee.length ≤ 4 → Hb d = some (.dK kvs) → SL K Hb kvs ss → Hb q = some (.lst (left.map V.str)) → left.Nodup → left.length ≤ 4 → NrAt H D left g →
      (∀ H', Same Hb H' → NrAt H' D left (oneG (ls.map (·.2)) ss left g e.name) → D'.nx [some (.ref l), some (.ref d), some (.ref q), x3, some (.ref D), some (.ref te), x6, x7, x8, x9] H') →
      t D' [some (.ref l), some (.ref d), some (.ref q), x3, some (.ref D), some (.ref te), x6, x7, x8, x9] H := by
  have hu : (A.deeper (envOfC "_law_closed" (defScope sClo) s.heap.objs.size f cdv)).units + 1 < cLine := by have := hr.units; omega
  refine ⟨_, pss_one (ps_if (pt_cmpR (op_in_seq : OpR _ _ (rIn K false)) (pe_ix (ix_tup : IxR _ (rIxT K)) (pv 5) pe_int (fun _ _ => rfl)) (pv 2) (by rfl))
    (pss_one (ps_dput hu (pv 4) (pe_ix (ix_tup : IxR _ (rIxT K)) (pv 5) pe_int (fun _ _ => rfl))
      (pe_lc (own := [("_law_other", 6), ("_law_least", 9)]) (g := gOL K) (tt := tAnd (tTest (tOp (rIn K false) (tVar 6) (tVar 2))) (tTest (tOp (rI0 fun i j => .bl (decide (j ≤ i))) (tOp (rIxT K) (tDGet (tVar 1) (tVar 6)) (tC (.int 1))) (tVar 9)))) (te := tVar 6) rfl nd (pi_tup (pe_ix (ix_tup : IxR _ (rIxT K)) (pv 5) pe_int (fun _ _ => rfl))) (blkOk_by (N := CloN) (sc := defScope sClo) (by decide +kernel))
        (fun _ _ _ _ _ => pg_tup rfl (pgs_cons (pg_name (i := 6) nd rfl (Or.inl rfl)) (pgs_cons (pg_name (i := 9) nd rfl (Or.inl rfl)) pgs_nil)))
        (fun _ _ _ _ _ => pts_one (PW.pt (pw_and (pt_cmpR (op_in_seq : OpR _ _ (rIn K false)) (pv 6) (pv 2) (by rfl)) (pw_and1 (pt_cmpR op_ge (pe_ix (ix_tup : IxR _ (rIxT K)) (pe_dget hu (pv 1) (pv 6) (fun _ _ => rfl)) pe_int (fun _ _ => rfl)) (pv 9) (nomark _)))))) (fun _ _ _ _ _ => pv 6)) rfl)) pss_nil), ?_⟩
  intro D' Hb H l d q D te ls e kvs ss left g x3 x6 x7 x8 x9 sb nD hT hne hse hsn fewn gd hS gq lnd few hN k
  obtain ⟨u1, u2, u3, u4, ht, hE⟩ := hT
  have gq1 := sb _ _ gq
  refine ⟨_, rfl, te, _, 0, _, rfl, rfl, sb.sqT ht, rfl, _, rfl, q, _, rfl, .inl (SqL.of gq1), rfl, flat_strs _, _, rfl, ?_⟩
  rw [if_neg (by decide), inV_str]
  cases c : has left e.name with
  | false =>
    refine ite_no rfl ?_
    have no : e.name ∉ left := fun z => by rw [has_iff.mpr z] at c; cases c
    have : oneG (ls.map (·.2)) ss left g e.name = g := by unfold oneG; rw [if_neg no]
    rw [this] at k
    exact k _ sb hN
  | true =>
    refine ite_yes rfl ?_
    have yes : e.name ∈ left := has_iff.mp c
    have eo : oneG (ls.map (·.2)) ss left g e.name = setF g e.name (succL (ls.map (·.2)) ss left e.name) := by unfold oneG; rw [if_pos yes]
    rw [eo] at k
    obtain ⟨s0, hs0⟩ := hse
    obtain ⟨ts, hSq, htl, hts⟩ := hE.needs
    refine ⟨_, rfl, te, _, 3, _, rfl, rfl, sb.sqT ht, rfl, u2, rfl, ⟨_, sb.sqT hSq⟩, fun DL hDL => lc_it (walk_tup (xs := ts.map V.ref)) (AccP H DL (filV (wmB ss left) (fun z => V.str z.1) e.nee)) (AccP.zero hDL rfl) (fun _ _ _ p => p.1.sqT (sb.sqT hSq)) ?_ ?_⟩
    · rintro i x H1 H2 hi p ⟨rfl, hx⟩
      obtain ⟨t1, ht1, rfl⟩ := getE hx
      have hip : i < e.nee.length := by rw [List.length_map, htl] at hi; exact hi
      have hq : e.nee[i]? = some e.nee[i] := List.getElem?_eq_getElem hip
      have zin : e.nee[i] ∈ e.nee := List.getElem_mem hip
      have S1 := sb.trans p.1
      have ht5 := S1.sqT (hts i t1 _ ht1 hq)
      generalize e.nee[i] = z at hq ht5 zin
      obtain ⟨s', hs'⟩ := hsn z zin
      have em : wmB ss left z = (has left z.1 && decide (z.2 ≤ s'.2.1)) := by
        unfold wmB
        rw [hs']
      refine ⟨t1, _, rfl, ht5, rfl, _, _, rfl, _, _, rfl, rfl, rfl, ?_⟩
      refine ⟨_, rfl, _, rfl, q, _, rfl, .inl (SqL.of (S1 _ _ gq)), rfl, flat_strs _, _, rfl, ?_⟩
      rw [if_neg (by decide), inV_str]
      cases c1 : has left z.1 with
      | false =>
        refine ite_no rfl ?_
        refine ite_no rfl ?_
        exact p.skip (filV_no hq (by rw [em, c1]; rfl)) (Same.refl _)
      | true =>
        refine ite_yes rfl ?_
        obtain ⟨t5, e5, g5⟩ : ∃ t, valV kvs (.inr z.1) = some (.ref t) ∧ SqT K H2 t (stV s') := by
          rcases (hS.same S1).at z.1 with ⟨_, w⟩ | ⟨t, s'', w1, w2, w3⟩
          · rw [hs'] at w; cases w
          · rw [hs'] at w2
            cases w2
            exact ⟨t, w1, w3⟩
        refine ⟨_, rfl, _, rfl, d, _, rfl, dg (S1 _ _ gd) e5, t5, _, 1, _, rfl, rfl, g5, rfl, _, rfl, _, _, rfl, rfl, _, rfl, ?_⟩
        by_cases c2 : z.2 ≤ s'.2.1
        · refine ite_yes (decide_eq_true c2) ?_
          exact ⟨_, rfl, p.step hDL (filV_yes hq (by rw [em, c1, decide_eq_true c2]; rfl)) (Nat.le_trans (filV_len ..) (by omega)) (Same.refl _)⟩
        · refine ite_no (decide_eq_false c2) ?_
          exact p.skip (filV_no hq (by rw [em, c1, decide_eq_false c2]; rfl)) (Same.refl _)
    intro H1 p
    have g1 : H1 DL = some (.lst ((succL (ls.map (·.2)) ss left e.name).map V.str)) := by
      rw [acc_all p (by rw [List.length_map, htl]; rfl)]
      unfold succL
      rw [hne _ hs0, List.map_map]
      rfl
    have S1 := sb.trans p.1
    obtain ⟨H4, e1, e2, e3, e4⟩ := (hN.same p.1).put (n := e.name) (by omega) g1 lnd
    refine ⟨_, rfl, _, rfl, te, _, 0, _, rfl, rfl, S1.sqT ht, rfl, D, H4, rfl, e1, k H4 (fun b o z => e2 b o (ne_of_none z nD) (S1 _ _ z)) (e3 yes)⟩
theorem clo_turn {f : Addr} {cdv : Value} {A : Around} {outer : List Env} {s : Shared} {H0 : Hp} {E : XK} (gLi : mg "list" = none) (gS : mg "sorted" = none) (gSet : mg "set" = none)
    (hr : Room 2 (A.deeper (envOfC "_law_closed" (defScope sClo) s.heap.objs.size f cdv))) (nd : CloN.Nodup) :
    ∃ t, PSs (cxOf CX0 P w K mg base CloN "_law_closed" (defScope sClo) f cdv A outer s H0 E).nox uBody t ∧ ∀ (D' : Ends) (Hb H : Hp) (D : Addr) (es : List Edn) (ss : List (Str × St3)) (left : List Str) (n : Str) (g : Str → List Str) (x0 x1 x2 x5 x6 x7 x8 x9 : Option V),
      Same Hb H → Hb D = none → n ∈ left → left.length ≤ 4 → left.Nodup → NrAt H D left g → BaseN es ss left g →
      (∀ H' g' x6 x8, Same Hb H' → NrAt H' D left g' → GrowN es ss left g g' n (g n) → D'.nx [x0, x1, x2, some (.str n), some (.ref D), x5, x6, x7, x8, x9] H') →
      t D' [x0, x1, x2, some (.str n), some (.ref D), x5, x6, x7, x8, x9] H := by
  have hu : (A.deeper (envOfC "_law_closed" (defScope sClo) s.heap.objs.size f cdv)).units + 1 < cLine := by have := hr.units; omega
  refine ⟨_, pss_cons (ps_set (i := 8) nd rfl (Or.inl rfl) (pe_callTy call_list_of (by rfl) gLi (by decide +kernel) (pa_cons (pe_dget hu (pv 4) (pv 3) (fun _ _ => rfl)) pa_nil)))
    (pss_cons (ps_for PassesOwn.never rfl (pi_list (pe_dget hu (pv 4) (pv 3) (fun _ _ => rfl))) (pg_name (i := 6) nd rfl (Or.inl rfl))
      (pss_one (ps_set (i := 8) nd rfl (Or.inl rfl) (pe_op op_cat (pv 8) (pe_dget hu (pv 4) (pv 6) (fun _ _ => rfl))))))
    (pss_one (ps_dput hu (pv 4) (pv 3) (pe_callB (cr_sortTx rfl : CallR _ _ (rSortTx P w)) (by rfl) gS (by decide +kernel) (pa_cons (pe_callTy (cr_setTx rfl : CallR _ _ (rSetTx K P w)) (by rfl) gSet (by decide +kernel) (pa_cons (pv 8) pa_nil)) pa_nil)) rfl))), ?_⟩
  intro D' Hb H D es ss ns n g x0 x1 x2 x5 x6 x7 x8 x9 sb nd0 hn few nnd hN hB k
  obtain ⟨l0, dg0, gl0⟩ := hN.get hn
  have fl : ∀ a ∈ ns, (g a).length ≤ 4 := fun a ha => Nat.le_trans (len_sub (hB.nd a ha) fun z hz => (hB.only a ha z hz).inn) few
  refine ⟨_, rfl, _, rfl, D, _, rfl, dg0, l0, _, rfl, .inl (SqL.of gl0), fun lc nlc => ?_⟩
  have q1 := Same.upd_new (o := .lst ((g n).map V.str)) nlc
  have glc : (upd H lc (.lst ((g n).map V.str))) lc = some (.lst ((g n).map V.str)) := upd_same
  generalize upd H lc (.lst ((g n).map V.str)) = H1 at q1 glc ⊢
  have hN1 := hN.same q1
  obtain ⟨l1, dg1, gl1⟩ := hN1.get hn
  refine ⟨_, rfl, _, rfl, D, _, rfl, dg1, l1, rfl, ⟨_, SqL.of gl1⟩, ?_⟩
  refine for_it (walk_list (xs := (g n).map V.str)) (fun j σ H' => Same H1 H' ∧ ∃ (lm : Addr) (ms : List Str) (z6 : Option V), H' lm = some (.lst (ms.map V.str)) ∧ ms.length ≤ 4 + 4 * j ∧ (∀ b, b ∈ ms ↔ b ∈ g n ∨ ∃ c ∈ (g n).take j, b ∈ g c) ∧ σ = [x0, x1, x2, some (.str n), some (.ref D), x5, z6, x7, some (.ref lm), x9])
    ⟨Same.refl _, lc, g n, x6, glc, fl n hn, fun b => ⟨.inl, fun h => h.elim id fun ⟨c, hc, _⟩ => by simp at hc⟩, rfl⟩ (fun j σ H' _ h => SqL.of (h.1 _ _ gl1)) ?_ ?_
  · rintro j x σ H2 H3 hj ⟨s2, lm, ms, z6, gm, ml, hm, rfl⟩ ⟨rfl, hx⟩
    obtain ⟨c, hc, rfl⟩ := getE hx
    have cin : c ∈ g n := List.mem_of_getElem? hc
    have cns : c ∈ ns := (hB.only n hn c cin).inn
    obtain ⟨lb, db, gb⟩ := (hN1.same s2).get cns
    have cl := fl c cns
    have hj4 : j < 4 := by
      have := fl n hn
      rw [List.length_map] at hj
      omega
    refine ⟨_, rfl, _, rfl, _, rfl, D, _, rfl, db, lm, lb, _, _, rfl, rfl, gm, gb, by rw [List.length_map, List.length_map, sizeLine_eq]; omega, fun pc npc => ?_⟩
    rw [← List.map_append]
    have q3 := Same.upd_new (o := .lst ((ms ++ g c).map V.str)) npc
    refine ⟨s2.trans q3, pc, ms ++ g c, _, upd_same, by rw [List.length_append]; omega, fun b => ?_, rfl⟩
    rw [List.mem_append, hm b, take_next hc]
    constructor
    · rintro ((h | ⟨u, hu1, hu2⟩) | h)
      · exact .inl h
      · exact .inr ⟨u, List.mem_append_left _ hu1, hu2⟩
      · exact .inr ⟨c, List.mem_append_right _ List.mem_cons_self, h⟩
    · rintro (h | ⟨u, hu1, hu2⟩)
      · exact .inl (.inl h)
      · rcases List.mem_append.mp hu1 with w | w
        · exact .inl (.inr ⟨u, w, hu2⟩)
        · rw [List.mem_singleton.mp w] at hu2
          exact .inr hu2
  rintro σ H2 ⟨s2, lm, ms, z6, gm, ml, hm, rfl⟩
  rw [List.length_map] at ml
  rw [List.length_map, List.take_length] at hm
  have gl4 := fl n hn
  have hN2 := hN1.same s2
  refine ⟨_, rfl, lm, ms, rfl, SqL.of gm, by omega, fun sa l' h1 h2 h3 nsa => ?_⟩
  have q4 := Same.upd_new (o := TxO P w sa l') nsa
  refine ⟨sa, l', rfl, upd_same, by omega, fun ys q hp hs nq => ?_⟩
  have q5 := Same.upd_new (o := .lst (ys.map V.str)) nq
  have S5 := q4.trans q5
  have gy : (upd (upd H2 sa (TxO P w sa l')) q (.lst (ys.map V.str))) q = some (.lst (ys.map V.str)) := upd_same
  generalize upd (upd H2 sa (TxO P w sa l')) q (.lst (ys.map V.str)) = H5 at S5 gy ⊢
  obtain ⟨H6, e1, e2, e3, _⟩ := (hN2.same S5).put (n := n) (by omega) gy nnd
  have ym : ∀ z, z ∈ ys ↔ z ∈ g n ∨ ∃ c ∈ g n, z ∈ g c := fun z => by rw [hp.mem_iff, h2 z, hm z]
  have at_n : setF g n ys n = ys := by unfold setF; rw [if_pos rfl]
  refine ⟨_, rfl, _, rfl, D, H6, rfl, e1, k H6 _ _ _ (fun b o z => e2 b o (ne_of_none z nd0) (S5 _ _ (s2 _ _ (q1 _ _ (sb _ _ z))))) (e3 hn) ⟨fun a ha => ?_, fun b hb => ?_, fun c hc b hb => ?_, fun b hb => ?_, ?_⟩⟩
  · unfold setF
    rw [if_neg ha]
  · rw [at_n]
    exact (ym b).mpr (.inl hb)
  · rw [at_n]
    have cns : c ∈ ns := (hB.only n hn c hc).inn
    exact (ym b).mpr (.inr ⟨c, hc, hB.base c cns b hb⟩)
  · rw [at_n] at hb
    rcases (ym b).mp hb with q | ⟨c, hc, q⟩
    · exact hB.only n hn b q
    · have cns : c ∈ ns := (hB.only n hn c hc).inn
      exact (hB.only n hn c hc).trans (hB.only c cns b q)
  · rw [at_n]
    exact hp.nodup_iff.mpr h1
theorem ok_clo {f : Addr} {fd : FuncData} (F : Fun K "_law_closed" "_law_closed" sClo f fd) (gLi : mg "list" = none) (gS : mg "sorted" = none) (gSet : mg "set" = none) (gD : mg "dict" = none) (gR : mg "range" = none) : FnOk P w K mg base CX0 3 f fd ["_law_some", "_law_states", "_law_left"] (spClo K) := by
  refine F.ok scClo (fun vs H Q E h => ?_) (fun cdv A outer s H vs Q E hr h => ?_)
  · obtain ⟨l, d, q, ls, kvs, ss, left, rfl, _⟩ := h
    rfl
  · obtain ⟨l, d, q, ls, kvs, ss, left, rfl, hL, gd, hS, hP, gq, lnd, lin, k⟩ := h
    have nd := scClo.nd
    obtain ⟨tO, hO, rdO⟩ := clo_one (P := P) (w := w) (K := K) (mg := mg) (base := base) (f := f) (cdv := cdv) (A := A) (outer := outer) (s := s) (H0 := H) (E := E) hr nd
    obtain ⟨tU, hU, rdU⟩ := clo_turn (P := P) (w := w) (K := K) (mg := mg) (base := base) (f := f) (cdv := cdv) (A := A) (outer := outer) (s := s) (H0 := H) (E := E) gLi gS gSet hr nd
    refine ⟨_, pss_cons (ps_set (i := 4) nd rfl (Or.inl rfl) (pe_callTy (call_dictP rfl) (by rfl) gD (by decide +kernel) (pa_cons
        (pe_lc (own := [("_law_name", 3)]) (g := gName 3) (tt := tYes) (te := tTup (tCons (tVar 3) (tCons (tLst tNil) tNil))) rfl nd (pi_list (pv 2)) (blkOk_by (N := CloN) (sc := defScope sClo) (by decide +kernel))
          (fun _ _ _ _ _ => pg_name (i := 3) nd rfl (Or.inl rfl)) (fun _ _ _ _ _ => pts_nil)
          (fun _ _ _ _ _ => pe_tup (pa_cons (pv 3) (pa_cons (pe_lst pa_nil) pa_nil)))) pa_nil)))
      (pss_cons (ps_for PassesOwn.never rfl (pi_list (pv 0)) (pg_name (i := 5) nd rfl (Or.inl rfl)) hO)
      (pss_cons (ps_for PassesOwn.never rfl (pi_range1 (by rfl) gR (pa_cons pe_int pa_nil)) (pg_name (i := 7) nd rfl (Or.inl rfl)) (pss_one (ps_for PassesOwn.never rfl (pi_list (pv 2)) (pg_name (i := 3) nd rfl (Or.inl rfl)) hU)))
      (pss_one (ps_ret (pv 4))))), ?_⟩
    have few : left.length ≤ 4 := len_sub lnd lin
    refine ⟨_, rfl, q, rfl, ⟨_, SqL.of gq⟩, fun DL hDL => ?_⟩
    refine lc_it (walk_list (xs := left.map V.str)) (fun i H' => Same H H' ∧ ∃ (ps : List Addr) (kv2 : List (Key × V)), H' DL = some (.lst (ps.map V.ref)) ∧ Paired (fun p (kv : Key × V) => SqT K H' p [kV kv.1, kv.2]) ps kv2 ∧ kv2.map (·.1) = (left.take i).map Sum.inr ∧ ∀ kv ∈ kv2, ∃ a, kv.2 = .ref a ∧ H' a = some (.lst []) ∧ a ≠ DL)
      ⟨Same.upd_new hDL, [], [], upd_same, .nil, by simp, fun a ha => nomatch ha⟩ (fun _ _ _ p => SqL.of (p.1 _ _ gq)) ?_ ?_
    · rintro i x H1 H2 hi ⟨s1, ps, kv2, g1, hp, hk, ha⟩ ⟨rfl, hx⟩
      obtain ⟨n, hn, rfl⟩ := getE hx
      have il : i < left.length := (List.getElem?_eq_some_iff.mp hn).1
      refine ⟨rfl, _, rfl, Nat.zero_le _, fun pe npe => ⟨two_le, fun pt npt => ?_⟩⟩
      have qe := Same.upd_new (o := .lst []) npe
      have qt := Same.upd_new (o := .tup [.str n, .ref pe]) npt
      have S2 := qe.trans qt
      have gp : (upd (upd H2 pe (.lst [])) pt (.tup [.str n, .ref pe])) pt = some (.tup [.str n, .ref pe]) := upd_same
      have ge : (upd (upd H2 pe (.lst [])) pt (.tup [.str n, .ref pe])) pe = some (.lst []) := qt _ _ upd_same
      have s3 := s1.trans S2
      have g3 := S2 _ _ g1
      have hp3 := pimp (fun v u h => S2.sqT h) hp
      have ha3 : ∀ kv ∈ kv2, ∃ a, kv.2 = .ref a ∧ (upd (upd H2 pe (.lst [])) pt (.tup [.str n, .ref pe])) a = some (.lst []) ∧ a ≠ DL := fun kv h => by
        obtain ⟨a, e1, e2, e3⟩ := ha kv h
        exact ⟨a, e1, S2 _ _ e2, e3⟩
      have npeD : pe ≠ DL := fun z => by rw [z, g1] at npe; cases npe
      generalize upd (upd H2 pe (.lst [])) pt (.tup [.str n, .ref pe]) = H3 at gp ge s3 g3 hp3 ha3 ⊢
      have pl : ps.length = i := by
        rw [Paired.length hp]
        have := congrArg List.length hk
        rw [List.length_map, List.length_map, List.length_take] at this
        omega
      have gpT : SqT K H3 pt [kV (Sum.inr n : Key), .ref pe] := SqT.of gp
      have kD : Kp K H3 (upd H3 DL (.lst (ps.map V.ref ++ [.ref pt]))) := Kp.upd g3 (fun xs z => by cases z) (fun q xs z => by cases z)
      refine ⟨ps.map V.ref, g3, by rw [List.length_map, sizeLine_eq]; omega, fun b u z => by rw [upd_ne (ne_of_none z hDL)]; exact s3 _ _ z, ps ++ [pt], kv2 ++ [(.inr n, .ref pe)], by rw [upd_same, List.map_append]; rfl, papp (pimp (fun v u h => kD _ _ h) hp3) (.cons (kD _ _ gpT) .nil), by rw [List.map_append, hk, take_next hn, List.map_append]; rfl, fun kv hkv => ?_⟩
      rcases List.mem_append.mp hkv with w | w
      · obtain ⟨a, e1, e2, e3⟩ := ha3 kv w
        exact ⟨a, e1, by rw [upd_ne e3]; exact e2, e3⟩
      · rw [List.mem_singleton.mp w]
        exact ⟨pe, rfl, by rw [upd_ne npeD]; exact ge, npeD⟩
    rintro H1 ⟨s1, ps, kv2, g1, hp, hk, ha⟩
    rw [List.length_map, List.take_length] at hk
    refine ⟨DL, ps, kv2, rfl, SqL.of g1, hp, fun D nD => ?_⟩
    have em : mergeK [] kv2 = kv2 := merge_new (by
      rw [List.nil_append, hk]
      exact (List.pairwise_map.mpr (lnd.imp fun h z => h (by injection z))))
    rw [em]
    have s2 := Same.upd_new (o := .dK kv2) nD
    have hN0 : NrAt (upd H1 D (.dK kv2)) D left (fun _ => []) := ⟨kv2, upd_same, hk, fun n hn => by
      have hm : (Sum.inr n : Key) ∈ kv2.map (·.1) := by rw [hk]; exact List.mem_map.mpr ⟨n, hn, rfl⟩
      obtain ⟨kv, h1, h2⟩ := List.mem_map.mp hm
      cases hv : kv2.find? (fun kv => decide (kv.1 = (Sum.inr n : Key))) with
      | none =>
        have := List.find?_eq_none.mp hv kv h1
        exact absurd (decide_eq_true h2) this
      | some w =>
        obtain ⟨a, e1, e2, _⟩ := ha w (List.mem_of_find?_eq_some hv)
        exact ⟨a, by unfold valV; rw [hv]; exact congrArg some e1, s2 _ _ e2⟩⟩
    have nDH := none_lt s1 nD
    have S2 := s1.trans s2
    generalize upd H1 D (.dK kv2) = H2 at hN0 S2 ⊢
    have lsl : ls.length ≤ 4 := by
      have a1 := congrArg List.length hP.ln
      rw [List.length_map, List.length_take] at a1
      omega
    have st_of : ∀ n ∈ PN4, ∃ s, stOf ss n = some s := fun n hn => stOf_some (by rw [hP.sn]; exact hn)
    -- one by one
    refine ⟨_, rfl, l, rfl, ⟨_, SqL.of (S2 _ _ hL.at_)⟩, ?_⟩
    refine for_it (walk_list (xs := ls.map fun e => V.ref e.1)) (fun i σ H' => Same H H' ∧ ∃ (g : Str → List Str) (x5 : Option V), NrAt H' D left g ∧ (∀ e ∈ ls.take i, e.2.name ∈ left → g e.2.name = succL (ls.map (·.2)) ss left e.2.name) ∧ σ = [some (.ref l), some (.ref d), some (.ref q), none, some (.ref D), x5, none, none, none, none])
      ⟨S2, _, _, hN0, fun e he => by simp at he, rfl⟩ (fun i σ H' _ h => SqL.of (h.1 _ _ hL.at_)) ?_ ?_
    · rintro i x σ H3 H4 hi ⟨s3, g, x5, hN, hg, rfl⟩ ⟨rfl, hx⟩
      obtain ⟨e, he, rfl⟩ := getE hx
      have hme := List.mem_of_getElem? he
      have np : e.2.name ∈ PN4 := by
        have : e.2.name ∈ ls.map fun e => e.2.name := List.mem_map.mpr ⟨e, hme, rfl⟩
        rw [hP.ln] at this
        exact this
      obtain ⟨y, hy, en, s0, hs0, _, hne⟩ := hP.edn np
      have lnd2 : (ls.map fun e => e.2.name).Nodup := by rw [hP.ln]; exact pn4_nd
      have ey : y = e := by
        have f1 := filt_one (fun e : Addr × Edn => e.2.name) lnd2 hme
        have : y ∈ ls.filter (fun z => decide (z.2.name = e.2.name)) := List.mem_filter.mpr ⟨hy, decide_eq_true en⟩
        rw [f1] at this
        exact List.mem_singleton.mp this
      subst ey
      have gd1 := (hP.each y hme).1
      have nl := gd1.nee.length_le
      rw [List.length_map, other_three np] at nl
      refine rdO _ H _ l d q D y.1 ls y.2 kvs ss left g _ _ _ _ _ s3 nDH (hL.tu y hme) (fun _ _ => hne) ⟨s0, hs0⟩ (fun z hz => st_of _ ((other_sub _).subset (gd1.nee.subset (List.mem_map.mpr ⟨z, hz, rfl⟩)))) (by omega) gd hS gq lnd few hN fun H5 s5 hN5 => ?_
      refine ⟨s5, _, _, hN5, fun u hu hul => ?_, rfl⟩
      rw [take_next he] at hu
      unfold oneG
      by_cases c : y.2.name ∈ left
      · rw [if_pos c]
        unfold setF
        by_cases c2 : u.2.name = y.2.name
        · rw [if_pos c2, c2]
        · rw [if_neg c2]
          rcases List.mem_append.mp hu with w | w
          · exact hg u w hul
          · exact absurd (by rw [List.mem_singleton.mp w]) c2
      · rw [if_neg c]
        rcases List.mem_append.mp hu with w | w
        · exact hg u w hul
        · rw [List.mem_singleton.mp w] at hul
          exact absurd hul c
    rintro σ H3 ⟨s3, g0, x5, hN3, hg, rfl⟩
    rw [List.length_map, List.take_length] at hg
    have hg0 : ∀ a ∈ left, g0 a = succL (ls.map (·.2)) ss left a := fun a ha => by
      obtain ⟨y, hy, en, _⟩ := hP.edn (lin a ha)
      have := hg y hy (by rw [en]; exact ha)
      rw [en] at this
      exact this
    have base0 : BaseN (ls.map (·.2)) ss left g0 := by
      refine ⟨fun a ha b hb => by rw [hg0 a ha]; exact hb, fun a ha b hb => by rw [hg0 a ha] at hb; exact .one hb, fun a ha => ?_⟩
      rw [hg0 a ha]
      obtain ⟨y, hy, en, _, _, _, hne⟩ := hP.edn (lin a ha)
      unfold succL
      rw [hne]
      refine List.Nodup.sublist (List.Sublist.map _ List.filter_sublist) ?_
      exact (pn4_nd.sublist (other_sub _)).sublist (hP.each y hy).1.nee
    have lev0 : ∀ a ∈ left, ∀ b, lev (ls.map (·.2)) ss left 0 a b → b ∈ g0 a := fun a ha b hb => base0.base a ha b hb
    -- nearer
    refine ⟨4, rfl, by decide, by decide, ?_⟩
    refine for_it walk_range (fun t σ H' => Same H H' ∧ ∃ (g : Str → List Str) (z3 z6 z7 z8 : Option V), NrAt H' D left g ∧ BaseN (ls.map (·.2)) ss left g ∧ (∀ a ∈ left, ∀ b, lev (ls.map (·.2)) ss left t a b → b ∈ g a) ∧ σ = [some (.ref l), some (.ref d), some (.ref q), z3, some (.ref D), x5, z6, z7, z8, none]) ⟨s3, g0, _, _, _, _, hN3, base0, lev0, rfl⟩ (fun _ _ _ _ _ => trivial) ?_ ?_
    · rintro t x σ H4 H5 ht ⟨s4, g, z3, z6, z7, z8, hN4, hB, hlev, rfl⟩ ⟨rfl, rfl⟩
      refine ⟨_, rfl, q, rfl, ⟨_, SqL.of (s4 _ _ gq)⟩, ?_⟩
      refine for_it (walk_list (xs := left.map V.str)) (fun i σ H' => Same H H' ∧ ∃ (g : Str → List Str) (z3 z6 z7 z8 : Option V), NrAt H' D left g ∧ BaseN (ls.map (·.2)) ss left g ∧ (∀ a ∈ left, ∀ b, lev (ls.map (·.2)) ss left t a b → b ∈ g a) ∧ (∀ a ∈ left.take i, ∀ b, lev (ls.map (·.2)) ss left (t + 1) a b → b ∈ g a) ∧ σ = [some (.ref l), some (.ref d), some (.ref q), z3, some (.ref D), x5, z6, z7, z8, none]) ⟨s4, g, _, _, _, _, hN4, hB, hlev, fun a ha => by simp at ha, rfl⟩ (fun j σ H' _ h => SqL.of (h.1 _ _ gq)) ?_ ?_
      · rintro i x σ H6 H7 hi ⟨s6, g, z3, z6, z7, z8, hN6, hB, hlev, hdone, rfl⟩ ⟨rfl, hx⟩
        obtain ⟨n, hn, rfl⟩ := getE hx
        have nin := List.mem_of_getElem? hn
        refine rdU _ H _ D (ls.map (·.2)) ss left n g _ _ _ _ _ _ _ _ s6 nDH nin few lnd hN6 hB fun H8 g' w6 w8 s8 hN8 gr => ?_
        refine ⟨s8, g', _, _, _, _, hN8, gr.base hB, fun a ha b hb => ?_, fun a ha b hb => ?_, rfl⟩
        · by_cases c : a = n
          · rw [c] at hb ⊢
            exact gr.keep b (hlev n nin b hb)
          · rw [gr.same a c]
            exact hlev a ha b hb
        · by_cases c : a = n
          · rw [c] at hb ⊢
            rcases hb with hb | ⟨z, hz, hzb⟩
            · exact gr.keep b (hlev n nin b hb)
            · exact gr.more z (hlev n nin z hz) b hzb
          · rw [gr.same a c]
            rw [take_next hn] at ha
            rcases List.mem_append.mp ha with w | w
            · exact hdone a w b hb
            · exact absurd (List.mem_singleton.mp w) c
      · rintro σ H6 ⟨s6, g, z3, z6, z7, z8, hN6, hB, hlev, hdone, rfl⟩
        rw [List.length_map, List.take_length] at hdone
        exact ⟨s6, g, _, _, _, _, hN6, hB, hdone, rfl⟩
    rintro σ H4 ⟨s4, g, z3, z6, z7, z8, hN4, hB, hlev, rfl⟩
    refine ⟨_, rfl, k D g H4 s4 hN4 fun a ha b => ⟨hB.only a ha b, fun hb => hlev a ha b ?_⟩⟩
    have h1 := lev_up (j := 4 - left.length) (lev_full hb)
    rwa [show left.length + (4 - left.length) = 4 by omega] at h1
end
end Half

namespace Half
open PySem PySem.Spec PyProof.Rows L2
/-! ### k75: orders by lengthening; the least; rings in order -/
def extL (good : List Str) (os : List (List Str)) : List (List Str) := os.flatMap fun o => (good.filter fun x => !has o x).map fun x => o ++ [x]
def extN (good : List Str) : Nat → List (List Str)
  | 0 => [[]]
  | k + 1 => extL good (extN good k)
theorem mem_ext {good : List Str} : ∀ {k : Nat} {o : List Str}, o ∈ extN good k ↔ o.length = k ∧ o.Nodup ∧ ∀ x ∈ o, x ∈ good
  | 0, o => by
    constructor
    · intro h
      rw [List.mem_singleton.mp h]
      exact ⟨rfl, List.nodup_nil, fun x hx => nomatch hx⟩
    · rintro ⟨h, _, _⟩
      rw [List.length_eq_zero_iff.mp h]
      exact List.mem_singleton.mpr rfl
  | k + 1, o => by
    constructor
    · intro h
      obtain ⟨u, hu, h⟩ := List.mem_flatMap.mp h
      obtain ⟨x, hx, rfl⟩ := List.mem_map.mp h
      obtain ⟨x1, x2⟩ := List.mem_filter.mp hx
      obtain ⟨a, b, c⟩ := mem_ext.mp hu
      refine ⟨by rw [List.length_append, a]; rfl, List.nodup_append.mpr ⟨b, by simp, fun y hy z hz e => ?_⟩, fun y hy => ?_⟩
      · rw [List.mem_singleton.mp hz] at e
        rw [e] at hy
        rw [has_iff.mpr hy] at x2
        cases x2
      · rcases List.mem_append.mp hy with q | q
        · exact c y q
        · rw [List.mem_singleton.mp q]; exact x1
    · rintro ⟨a, b, c⟩
      rcases List.eq_nil_or_concat o with q | ⟨u, x, q⟩
      · rw [q] at a; cases a
      · rw [q] at a b c
        rw [q]
        rw [List.concat_eq_append] at a b c ⊢
        obtain ⟨b1, _, b3⟩ := List.nodup_append.mp b
        refine List.mem_flatMap.mpr ⟨u, mem_ext.mpr ⟨by rw [List.length_append] at a; exact Nat.succ.inj a, b1, fun y hy => c y (List.mem_append_left _ hy)⟩, List.mem_map.mpr ⟨x, List.mem_filter.mpr ⟨c x (List.mem_append_right _ List.mem_cons_self), ?_⟩, rfl⟩⟩
        rw [has_no fun z => b3 x z x List.mem_cons_self rfl]
        rfl
theorem ext_perm {good o : List Str} (nd : good.Nodup) : o ∈ extN good good.length ↔ o.Perm good := by
  rw [mem_ext]
  constructor
  · rintro ⟨a, b, c⟩
    refine (same_perm b nd fun z => ⟨c z, fun hz => ?_⟩).symm
    refine Classical.byContradiction fun no => ?_
    have := len_sub (l := z :: o) (m := good) (List.nodup_cons.mpr ⟨no, b⟩) fun y hy => by
      rcases List.mem_cons.mp hy with q | q
      · rw [q]; exact hz
      · exact c y q
    rw [List.length_cons] at this
    omega
  · intro p
    exact ⟨p.length_eq, p.nodup_iff.mpr nd, fun x hx => p.subset hx⟩
theorem ext_len {good : List Str} (h : good.length ≤ 4) : ∀ k, (extN good k).length ≤ 4 ^ k
  | 0 => Nat.le_refl _
  | k + 1 => by
    have ih := ext_len h k
    show ((extN good k).flatMap _).length ≤ _
    refine Nat.le_trans (flat_len (b := 4) fun o _ => ?_) ?_
    · rw [List.length_map]
      exact Nat.le_trans (List.length_filter_le ..) h
    · rw [Nat.pow_succ]
      exact Nat.mul_le_mul_right _ ih
theorem ord_total {α : Type} (k : α → PyData) : PySem.W.TotalLe (PySem.W.dataLe false k) := by
  unfold PySem.W.dataLe
  exact PySem.W.sortLe_total _ false _
theorem le_is {α : Type} (k : α → PyData) (a b : α) : PySem.W.dataLe false k a b = !PySem.W.dataLt (k b) (k a) := rfl
theorem lt_asym {x y : PyData} (h : PySem.W.dataLt x y = true) : PySem.W.dataLt y x = false := by
  have := (ord_total fun d : PyData => d).total x y
  rw [le_is, le_is] at this
  rcases this with q | q
  · simpa using q
  · rw [h] at q; cases q
theorem co_least : ∀ (cs : List CO) (c : CO), ∃ m, m ∈ c :: cs ∧ PySem.W.minD (coD c) (cs.map coD) = coD m ∧ ∀ x ∈ c :: cs, PySem.W.dataLt (coD x) (coD m) = false
  | [], c => ⟨c, List.mem_singleton.mpr rfl, rfl, fun x h => by
      rw [List.mem_singleton.mp h]
      cases q : PySem.W.dataLt (coD c) (coD c) with
      | false => rfl
      | true =>
        have := lt_asym q
        rw [q] at this
        cases this⟩
  | y :: ys, c => by
    have e : PySem.W.minD (coD c) ((y :: ys).map coD) = PySem.W.minD (coD (if PySem.W.dataLt (coD y) (coD c) = true then y else c)) (ys.map coD) := by
      unfold PySem.W.minD
      rw [List.map_cons, List.foldl_cons]
      split <;> rfl
    have T := ord_total coD
    have tr : ∀ {a b m : CO}, PySem.W.dataLt (coD b) (coD m) = false → PySem.W.dataLt (coD a) (coD b) = false → PySem.W.dataLt (coD a) (coD m) = false := fun {a b m} h1 h2 => by
      have := T.trans m b a (by rw [le_is, h1]; rfl) (by rw [le_is, h2]; rfl)
      rw [le_is] at this
      simpa using this
    have self : ∀ a : CO, PySem.W.dataLt (coD a) (coD a) = false := fun a => by
      cases q : PySem.W.dataLt (coD a) (coD a) with
      | false => rfl
      | true =>
        have := lt_asym q
        rw [q] at this
        cases this
    have le : PySem.W.dataLt (coD y) (coD (if PySem.W.dataLt (coD y) (coD c) = true then y else c)) = false ∧ PySem.W.dataLt (coD c) (coD (if PySem.W.dataLt (coD y) (coD c) = true then y else c)) = false := by
      split
      · rename_i q; exact ⟨self y, lt_asym q⟩
      · rename_i q; exact ⟨by simpa using q, self c⟩
    obtain ⟨m, h1, h2, h3⟩ := co_least ys (if PySem.W.dataLt (coD y) (coD c) = true then y else c)
    have hm := h3 _ (List.mem_cons_self ..)
    refine ⟨m, ?_, e.trans h2, fun x hx => ?_⟩
    · rcases List.mem_cons.mp h1 with z | z
      · rw [z]
        split
        · exact .tail _ (.head _)
        · exact .head _
      · exact .tail _ (.tail _ z)
    · rcases List.mem_cons.mp hx with z | z
      · rw [z]
        exact tr hm le.2
      · rcases List.mem_cons.mp z with z | z
        · rw [z]
          exact tr hm le.1
        · exact h3 x (.tail _ z)
theorem str_lt (x y : Str) : PySem.W.dataLt (.str x) (.str y) = txLt x y := PySem.W.dataLt_str x y
theorem strs_anti : ∀ {xs ys : List Str}, xs.length = ys.length → PySem.W.dataLt (ringD xs) (ringD ys) = false → PySem.W.dataLt (ringD ys) (ringD xs) = false → xs = ys
  | [], [], _, _, _ => rfl
  | x :: xs, y :: ys, hl, h1, h2 => by
    have key : ∀ (a b : Str) (as bs : List Str), PySem.W.dataLt (ringD (a :: as)) (ringD (b :: bs)) = if a = b then PySem.W.dataLt (ringD as) (ringD bs) else txLt a b := fun a b as bs => by
      unfold ringD
      rw [PySem.W.dataLt_tuple, PySem.W.dataLt_tuple, List.map_cons, List.map_cons, PySem.W.dataLt_cons (by simp [PySem.W.alike]), str_lt]
      have e : (PyData.eqv (.str a) (.str b) = true) = (a = b) := by simp [PyData.eqv]
      simp only [e]
    rw [key] at h1 h2
    by_cases c : x = y
    · rw [if_pos c] at h1
      rw [if_pos c.symm] at h2
      rw [c, strs_anti (by simpa using hl) h1 h2]
    · rw [if_neg c] at h1
      rw [if_neg (Ne.symm c)] at h2
      exact absurd (tx_tot h1 h2) c
theorem ring_lt {a b : Str} {as bs : List Str} (h : a ≠ b) : PySem.W.dataLt (ringD (a :: as)) (ringD (b :: bs)) = txLt a b := by
  unfold ringD
  rw [PySem.W.dataLt_tuple, List.map_cons, List.map_cons, PySem.W.dataLt_cons (by simp [PySem.W.alike]), str_lt]
  rw [if_neg (by simp [PyData.eqv, h])]
theorem co_anti {a b : CO} (hl : a.2.length = b.2.length) (h1 : PySem.W.dataLt (coD a) (coD b) = false) (h2 : PySem.W.dataLt (coD b) (coD a) = false) : a = b := by
  have key : ∀ a b : CO, PySem.W.dataLt (coD a) (coD b) = if a.1 = b.1 then (if a.2 = b.2 then false else PySem.W.dataLt (ringD a.2) (ringD b.2)) else decide (a.1 < b.1) := fun a b => by
    unfold coD
    rw [PySem.W.dataLt_pair (by simp [PySem.W.alike]) (by simp [PySem.W.alike, alike_strs]), PySem.W.dataLt_int]
    have e : (PyData.eqv (.int a.1) (.int b.1) = true) = (a.1 = b.1) := by simp [PyData.eqv]
    have e2 : (PyData.eqv (.tuple (a.2.map .str)) (.tuple (b.2.map .str)) = true) = (a.2 = b.2) := by
      have := ringD_eqv a.2 b.2
      unfold ringD at this
      rw [this]
      simp
    simp only [e, e2]
    rfl
  rw [key] at h1 h2
  by_cases c : a.1 = b.1
  · rw [if_pos c] at h1
    rw [if_pos c.symm] at h2
    by_cases d : a.2 = b.2
    · exact Prod.ext c d
    · rw [if_neg d] at h1
      rw [if_neg (Ne.symm d)] at h2
      exact absurd (strs_anti hl h1 h2) d
  · rw [if_neg c] at h1
    rw [if_neg (Ne.symm c)] at h2
    have a1 := of_decide_eq_false h1
    have a2 := of_decide_eq_false h2
    omega
/-- the least of the same ones is the same -/
theorem min_same {es : List Edn} {ss : List (Str × St3)} {good : List Str} {o1 o2 : List Str} {l1 l2 : List (List Str)} (h1 : ∀ o, o ∈ o1 :: l1 ↔ o.Perm good) (h2 : ∀ o, o ∈ o2 :: l2 ↔ o.Perm good) :
    PySem.W.minD (coD (fnO es ss o1)) ((l1.map (fnO es ss)).map coD) = PySem.W.minD (coD (fnO es ss o2)) ((l2.map (fnO es ss)).map coD) := by
  obtain ⟨m1, a1, b1, c1⟩ := co_least (l1.map (fnO es ss)) (fnO es ss o1)
  obtain ⟨m2, a2, b2, c2⟩ := co_least (l2.map (fnO es ss)) (fnO es ss o2)
  rw [b1, b2]
  obtain ⟨p1, d1, e1⟩ := List.mem_map.mp (show m1 ∈ (o1 :: l1).map (fnO es ss) from a1)
  obtain ⟨p2, d2, e2⟩ := List.mem_map.mp (show m2 ∈ (o2 :: l2).map (fnO es ss) from a2)
  have q1 := (h1 p1).mp d1
  have q2 := (h2 p2).mp d2
  have i1 : m2 ∈ fnO es ss o1 :: l1.map (fnO es ss) := by
    have : m2 ∈ (o1 :: l1).map (fnO es ss) := List.mem_map.mpr ⟨p2, (h1 p2).mpr q2, e2⟩
    exact this
  have i2 : m1 ∈ fnO es ss o2 :: l2.map (fnO es ss) := by
    have : m1 ∈ (o2 :: l2).map (fnO es ss) := List.mem_map.mpr ⟨p1, (h2 p1).mpr q1, e1⟩
    exact this
  rw [co_anti (a := m1) (b := m2) ?_ (c2 m1 i2) (c1 m2 i1)]
  rw [← e1, ← e2]
  show p1.length = p2.length
  rw [q1.length_eq, q2.length_eq]
section
variable {es : List Edn} {ss : List (Str × St3)} {ns : List Str}
theorem hope_fix : ∀ (k : Nat) (ns : List Str), ns.length ≤ k → ∀ n ∈ hopeM es ss k ns, lackB es ss (hopeM es ss k ns) n = false
  | 0, ns, h, n, hn => by
    have : ns = [] := List.length_eq_zero_iff.mp (by omega)
    rw [hopeM, this] at hn
    cases hn
  | k + 1, ns, h, n, hn => by
    rw [hopeM] at hn ⊢
    by_cases c : ns.filter (lackB es ss ns) = []
    · rw [if_pos c] at hn ⊢
      have := List.filter_eq_nil_iff.mp c n hn
      cases q : lackB es ss ns n with
      | false => rfl
      | true => rw [q] at this; exact absurd rfl this
    · rw [if_neg c] at hn ⊢
      have := hope_less c
      exact hope_fix k _ (by omega) n hn
theorem git_add : ∀ (j k : Nat) (ns : List Str), gIt es ss (k + j) ns = gIt es ss j (gIt es ss k ns)
  | 0, _, _ => rfl
  | j + 1, k, ns => by
    show stepG es ss (gIt es ss (k + j) ns) = stepG es ss (gIt es ss j (gIt es ss k ns))
    rw [git_add j k ns]
theorem git_five (h : (pendL ss).length ≤ 5) : gIt es ss 5 (pendL ss) = hopeL es ss := by
  have e : hopeL es ss = gIt es ss (pendL ss).length (pendL ss) := hope_git _ _
  have st : stepG es ss (hopeL es ss) = hopeL es ss := List.filter_eq_self.mpr fun n hn => by
    rw [show lackB es ss (hopeL es ss) n = false from hope_fix _ _ (Nat.le_refl _) n hn]
    rfl
  rw [show 5 = (pendL ss).length + (5 - (pendL ss).length) by omega, git_add, ← e, git_stable st]
/-- the group of a package, as the law makes it -/
def grpF (f : Str → List Str) (ns : List Str) (n : Str) : List Str := ns.filter fun o => decide (o = n) || mutB f n o
theorem grp_eq {f : Str → List Str} (nd : ns.Nodup) (hf : ∀ a ∈ ns, ∀ b, b ∈ f a ↔ Rch es ss ns a b) {n : Str} (hn : n ∈ ns) (ds : List (List Str)) : (if 1 < (grpF f ns n).length ∧ grpF f ns n ∉ ds then ds ++ [grpF f ns n] else ds) = if 1 < (ringF f ns n).length ∧ ringF f ns n ∉ ds then ds ++ [ringF f ns n] else ds := by
  by_cases c : n ∈ ringF f ns n
  · have e : grpF f ns n = ringF f ns n := List.filter_congr fun o _ => by
      by_cases d : o = n
      · rw [d, decide_eq_true rfl, Bool.true_or]
        exact (List.mem_filter.mp c).2.symm
      · rw [decide_eq_false d, Bool.false_or]
    rw [e]
  · have z : ringF f ns n = [] := by
      cases e : ringF f ns n with
      | nil => rfl
      | cons o t => exact absurd (self_ring hf hn (o := o) (by rw [e]; exact List.mem_cons_self)) c
    have g1 : (grpF f ns n).length ≤ 1 := by
      have gn : (grpF f ns n).Nodup := nd.sublist List.filter_sublist
      refine one_all (n := n) gn fun o ho => ?_
      obtain ⟨h1, h2⟩ := List.mem_filter.mp ho
      by_cases d : o = n
      · exact d
      · rw [decide_eq_false d, Bool.false_or] at h2
        have : o ∈ ringF f ns n := List.mem_filter.mpr ⟨h1, h2⟩
        rw [z] at this
        cases this
    rw [if_neg fun q => by omega, if_neg fun q => by rw [z] at q; exact absurd q.1 (by decide)]
theorem ring_head (D : Diff es) {f : Str → List Str} (asc : ns.Pairwise txLe) (hf : ∀ a ∈ ns, ∀ b, b ∈ f a ↔ Rch es ss ns a b) {n : Str} (hn : n ∈ ns) (fb : firB n (rotL es ss ns n) = true) : ∃ t, ringF f ns n = n :: t := by
  obtain ⟨h1, h2⟩ := Bool.and_eq_true_iff.mp (show (!decide (rotL es ss ns n = []) && (rotL es ss ns n).all fun o => txLt n o) = true from fb)
  have all := List.all_eq_true.mp h2
  have rne : rotL es ss ns n ≠ [] := fun z => by rw [decide_eq_true z] at h1; cases h1
  obtain ⟨o, ho⟩ := List.exists_mem_of_ne_nil _ rne
  have nr := self_ring hf hn ((rot_ring D hf hn).mp ho).2
  have pw : (ringF f ns n).Pairwise txLe := asc.sublist List.filter_sublist
  cases e : ringF f ns n with
  | nil => rw [e] at nr; cases nr
  | cons x t =>
    by_cases c : x = n
    · exact ⟨t, by rw [c]⟩
    · have xr : x ∈ ringF f ns n := by rw [e]; exact List.mem_cons_self
      have lt := all x ((rot_ring D hf hn).mpr ⟨c, xr⟩)
      rw [e] at pw nr
      have nt : n ∈ t := (List.mem_cons.mp nr).resolve_left (Ne.symm c)
      have := (List.pairwise_cons.mp pw).1 n nt
      unfold txLe at this
      rw [lt] at this
      cases this
theorem rings_rise (D : Diff es) {f : Str → List Str} (nd : ns.Nodup) (asc : ns.Pairwise txLe) (hf : ∀ a ∈ ns, ∀ b, b ∈ f a ↔ Rch es ss ns a b) : ((ns.filter fun n => firB n (rotL es ss ns n)).map (ringF f ns)).Pairwise fun x y => PySem.W.dataLt (ringD x) (ringD y) = true := by
  refine List.pairwise_map.mpr ?_
  have p1 : (ns.filter fun n => firB n (rotL es ss ns n)).Pairwise txLe := asc.sublist List.filter_sublist
  have p2 : (ns.filter fun n => firB n (rotL es ss ns n)).Pairwise (· ≠ ·) := nd.sublist List.filter_sublist
  refine List.Pairwise.imp_of_mem (R := fun a b => txLe a b ∧ a ≠ b) (fun {a b} ha hb h => ?_) (p1.and p2)
  obtain ⟨a1, a2⟩ := List.mem_filter.mp ha
  obtain ⟨b1, b2⟩ := List.mem_filter.mp hb
  obtain ⟨t, et⟩ := ring_head D asc hf a1 a2
  obtain ⟨u, eu⟩ := ring_head D asc hf b1 b2
  rw [et, eu, ring_lt h.2]
  cases c : txLt a b with
  | true => rfl
  | false => exact absurd (tx_tot c h.1) h.2
theorem rise_uniq {ds : List (List Str)} {l : List PyData} (hd : ds.Pairwise fun x y => PySem.W.dataLt (ringD x) (ringD y) = true) (p : l.Perm (ds.map ringD)) (hl : l.Pairwise fun x y => PySem.W.dataLt y x = false) : l = ds.map ringD := by
  have hd2 : (ds.map ringD).Pairwise fun x y => PySem.W.dataLt x y = true := List.pairwise_map.mpr hd
  generalize ds.map ringD = M at p hd2
  refine sorted_uniq (le := fun x y => PySem.W.dataLt y x = false ∧ x ∈ M ∧ y ∈ M) (fun x y h1 h2 => ?_) (List.Pairwise.imp_of_mem (fun {a b} ha hb h => ⟨h, p.subset ha, p.subset hb⟩) hl) (List.Pairwise.imp_of_mem (fun {a b} ha hb h => ⟨lt_asym h, ha, hb⟩) hd2) p
  obtain ⟨i, hi⟩ := List.mem_iff_getElem?.mp h1.2.1
  obtain ⟨j, hj⟩ := List.mem_iff_getElem?.mp h1.2.2
  obtain ⟨i1, i2⟩ := List.getElem?_eq_some_iff.mp hi
  obtain ⟨j1, j2⟩ := List.getElem?_eq_some_iff.mp hj
  rcases Nat.lt_trichotomy i j with c | c | c
  · have := List.pairwise_iff_getElem.mp hd2 i j i1 j1 c
    rw [i2, j2, h2.1] at this
    cases this
  · subst c
    rw [← i2, ← j2]
  · have := List.pairwise_iff_getElem.mp hd2 j i j1 i1 c
    rw [i2, j2, h1.1] at this
    cases this
end
end Half

namespace Half
open PySem PySem.Spec PyProof.Rows L2
/-! ### k75: the law, its loops -/
abbrev sLaw : Stmt := top 59
abbrev LawN : List Str := ["_law_script", "_law_row", "_law_some", "_law_states", "_law_system", "_law_name", "_law_left", "_law_leads", "_law_groups", "_law_group", "_law_good", "_law_turn", "_law_orders", "_law_longer", "_law_order", "_law_due", "_law_told", "_law_other", "_law_forced_here"]
theorem scLaw : FnScope LawN ["_law_script"] (defScope sLaw) := ⟨rfl, rfl, rfl, by decide +kernel, rfl, by decide +kernel, by decide +kernel⟩
abbrev gBody : List Stmt := forBody (nth (defBody sLaw) 5)
abbrev lBody : List Stmt := forBody (nth (defBody sLaw) 11)
structure LawAll (P : Program) (w : World) (K : PySem.W.Frag) (mg : Str → Option Value) (base : Heap) (C CT CY CI : Addr) : Prop where
  gL : mg "len" = none
  gR : mg "range" = none
  gLi : mg "list" = none
  gS : mg "sorted" = none
  gT : mg "tuple" = none
  gM : mg "min" = none
  dRin : Def P w K mg base 2 "_law_ringed" ["_law_row"] (spRin K)
  dSto : Def P w K mg base 8 "_law_store" ["_law_some"] (spLsr K C CT)
  dCan : Def P w K mg base 2 "_law_can" ["_law_some", "_law_states", "_law_done", "_law_name"] (spCan K)
  dClo : Def P w K mg base 3 "_law_closed" ["_law_some", "_law_states", "_law_left"] (spClo K)
  dFor : Def P w K mg base 3 "_law_forced" ["_law_some", "_law_states", "_law_order"] (spFor K)
  mkY : MkY P w K mg base CT CY CI
  dPen : Def P w K mg base 3 "pending" ["system"] (spPen K C CT CY)
  dHl : Def P w K mg base 7 "hopeless" ["system"] (spNs K C CT CY lossL)
  dRg : Def P w K mg base 6 "rings" ["system"] (spRg K C CT CY)
  dSo : Def P w K mg base 7 "setup_order" ["system"] (spSor K C CT CY)
  dFf : Def P w K mg base 8 "fewest_forced" ["system"] (spFf K C CT CY 4)
section
variable {P : Program} {w : World} {K : PySem.W.Frag} {mg : Str → Option Value} {base : Heap} {C CT CY CI : Addr}
theorem law_g {f : Addr} {cdv : Value} {A : Around} {outer : List Env} {sh : Shared} {H0 : Hp} {E : XK} (L : LawAll P w K mg base C CT CY CI)
    (hr : Room 9 (A.deeper (envOfC "law" (defScope sLaw) sh.heap.objs.size f cdv))) (nd : LawN.Nodup) :
    ∃ t, PSs (cxOf CX0 P w K mg base LawN "law" (defScope sLaw) f cdv A outer sh H0 E).nox gBody t ∧ ∀ (D' : Ends) (Hb H : Hp) (d ln Du : Addr) (ns : List Str) (n : Str) (g : Str → List Str) (ps : List Addr) (ds : List (List Str)) (x0 x1 x2 x3 x4 x9 x10 x11 x12 x13 x14 x15 x16 x17 x18 : Option V), Same Hb H → Hb Du = none → Hb ln = some (.lst (ns.map V.str)) → NrAt Hb d ns g → n ∈ ns → ns.length ≤ 4 → (∀ x ∈ ns, PyData.strOk x = true) → H Du = some (.lst (ps.map V.ref)) → Paired (RgT H) ps ds → (∀ x ∈ ds, ∀ z ∈ x, PyData.strOk z = true) → ds.length ≤ 4 →
      (∀ H' ps' x9, Same Hb H' → H' Du = some (.lst (ps'.map V.ref)) → Paired (RgT H') ps' (if 1 < (grpF g ns n).length ∧ grpF g ns n ∉ ds then ds ++ [grpF g ns n] else ds) → D'.nx [x0, x1, x2, x3, x4, some (.str n), some (.ref ln), some (.ref d), some (.ref Du), x9, x10, x11, x12, x13, x14, x15, x16, x17, x18] H') →
      t D' [x0, x1, x2, x3, x4, some (.str n), some (.ref ln), some (.ref d), some (.ref Du), x9, x10, x11, x12, x13, x14, x15, x16, x17, x18] H := by
  have hu : (A.deeper (envOfC "law" (defScope sLaw) sh.heap.objs.size f cdv)).units + 1 < cLine := by have := hr.units; omega
  have hu65 : (A.deeper (envOfC "law" (defScope sLaw) sh.heap.objs.size f cdv)).units + 65 < cLine := by have := hr.un; omega
  refine ⟨_, pss_cons (ps_set (i := 9) nd rfl (Or.inl rfl) (pe_callTy call_tuple_of (by rfl) L.gT (by decide +kernel) (pa_cons
      (pe_lc (own := [("_law_other", 17)]) (g := gName 17) (tt := tOr (tTest (tOp rEq (tVar 17) (tVar 5))) (tAnd (tTest (tOp (rIn K false) (tVar 17) (tDGet (tVar 7) (tVar 5)))) (tTest (tOp (rIn K false) (tVar 5) (tDGet (tVar 7) (tVar 17)))))) (te := tVar 17) rfl nd (pi_list (pv 6)) (blkOk_by (N := LawN) (sc := defScope sLaw) (by decide +kernel))
        (fun _ _ _ _ _ => pg_name (i := 17) nd rfl (Or.inl rfl)) (fun _ _ _ _ _ => pts_one (PW.pt (pw_or (pt_cmpR op_eq (pv 17) (pv 5) (nomark _)) (pw_or1 (PW.pt (pw_and (pt_cmpR (op_in_seq : OpR _ _ (rIn K false)) (pv 17) (pe_dget hu (pv 7) (pv 5) (fun _ _ => rfl)) (by rfl)) (pw_and1 (pt_cmpR (op_in_seq : OpR _ _ (rIn K false)) (pv 5) (pe_dget hu (pv 7) (pv 17) (fun _ _ => rfl)) (by rfl))))))))) (fun _ _ _ _ _ => pv 17)) pa_nil)))
    (pss_one (ps_if (PW.pt (pw_and (pt_cmpR op_gt (pe_callB call_len_seq (by rfl) L.gL PySem.boot_len (pa_cons (pv 9) pa_nil)) pe_int (nomark _)) (pw_and1 (pt_cmpR (op_notInD hu65) (pv 9) (pv 8) (by rfl)))))
      (pss_one (ps_expr (pe_bm PySem.F.plainAttrs_list PySem.F.slot_list_append PySem.F.type_list_append mt_append (pv 8) (pa_cons (pv 9) pa_nil)))) pss_nil)), ?_⟩
  intro D' Hb H d ln Du ns n g ps ds x0 x1 x2 x3 x4 x9 x10 x11 x12 x13 x14 x15 x16 x17 x18 sb nDu hlnb hNb hn few tx gU hp dtx dl k
  have hN := hNb.same sb
  have hln := sb _ _ hlnb
  obtain ⟨la, da, ga⟩ := hN.get hn
  have dsame : ∀ {H' : Hp} {y : Str} {la : Addr}, Same H H' → DGet H d (.str y) (some (.ref la)) → DGet H' d (.str y) (some (.ref la)) := fun s h => by
    rcases h with ⟨kvs, kk, h1, h2, h3⟩ | ⟨kvs, kk, b, h1, h2, h3, h4⟩
    · refine .inl ⟨kvs, kk, ?_, h2, h3⟩
      rcases h1 with h1 | ⟨o, h1⟩
      · exact .inl (s _ _ h1)
      · exact .inr ⟨o, s _ _ h1⟩
    · cases h2
  refine ⟨_, rfl, ln, rfl, ⟨_, SqL.of hln⟩, fun D1 hD1 => lc_it (walk_list (xs := ns.map V.str)) (AccP H D1 (filV (fun o => decide (o = n) || mutB g n o) V.str ns)) (AccP.zero hD1 rfl) (fun _ _ _ p => SqL.of (p.1 _ _ hln)) ?_ ?_⟩
  · rintro i x H2 H3 hi p ⟨rfl, hx⟩
    obtain ⟨o, ho, rfl⟩ := getE hx
    obtain ⟨lb, db, gb⟩ := hN.get (List.mem_of_getElem? ho)
    have em : mutB g n o = (has (g n) o && has (g o) n) := rfl
    refine ⟨rfl, _, rfl, _, rfl, rfl, _, rfl, ?_⟩
    rw [dec_str]
    cases c0 : decide (o = n) with
    | true =>
      refine ite_yes rfl ?_
      refine ite_yes rfl ?_
      exact ⟨_, rfl, p.step hD1 (filV_yes ho (by rw [c0]; rfl)) (Nat.le_trans (filV_len ..) (by omega)) (Same.refl _)⟩
    | false =>
      refine ite_no rfl ?_
      refine ⟨_, rfl, _, rfl, _, rfl, d, _, rfl, dsame p.1 da, la, _, rfl, .inl (SqL.of (p.1 _ _ ga)), rfl, flat_strs _, _, rfl, ?_⟩
      rw [if_neg (by decide), inV_str]
      cases c1 : has (g n) o with
      | false =>
        refine ite_no rfl ?_
        refine ite_no rfl ?_
        exact p.skip (filV_no ho (by rw [c0, em, c1]; rfl)) (Same.refl _)
      | true =>
        refine ite_yes rfl ?_
        refine ⟨_, rfl, _, rfl, _, rfl, d, _, rfl, dsame p.1 db, lb, _, rfl, .inl (SqL.of (p.1 _ _ gb)), rfl, flat_strs _, _, rfl, ?_⟩
        rw [if_neg (by decide), inV_str]
        cases c2 : has (g o) n with
        | true =>
          refine ite_yes rfl ?_
          exact ⟨_, rfl, p.step hD1 (filV_yes ho (by rw [c0, em, c1, c2]; rfl)) (Nat.le_trans (filV_len ..) (by omega)) (Same.refl _)⟩
        | false =>
          refine ite_no rfl ?_
          exact p.skip (filV_no ho (by rw [c0, em, c1, c2]; rfl)) (Same.refl _)
  intro H2 p2
  have g2 : H2 D1 = some (.lst ((grpF g ns n).map V.str)) := acc_all p2 (by rw [List.length_map])
  have rtx : ∀ z ∈ grpF g ns n, PyData.strOk z = true := fun z hz => tx z (List.mem_filter.mp hz).1
  have rl : (grpF g ns n).length ≤ 4 := Nat.le_trans (List.length_filter_le ..) few
  generalize grpF g ns n = rg at g2 rtx rl k
  refine ⟨D1, _, rfl, .inl ⟨SqL.of g2, fun tr ntr => ?_⟩⟩
  have q3 := Same.upd_new (o := .tup (rg.map V.str)) ntr
  have g3 : (upd H2 tr (.tup (rg.map V.str))) tr = some (.tup (rg.map V.str)) := upd_same
  have S3 := p2.1.trans q3
  generalize upd H2 tr (.tup (rg.map V.str)) = H3 at g3 S3 ⊢
  have gU3 := S3 _ _ gU
  have hp3 : Paired (RgT H3) ps ds := pimp (fun v u h => S3 _ _ h) hp
  refine ⟨_, rfl, tr, _, rfl, .inr (SqT.of g3), _, _, rfl, rfl, _, rfl, ?_⟩
  rw [List.length_map]
  have skip : ¬ (1 < rg.length ∧ rg ∉ ds) → D'.nx [x0, x1, x2, x3, x4, some (.str n), some (.ref ln), some (.ref d), some (.ref Du), some (.ref tr), x10, x11, x12, x13, x14, x15, x16, x17, x18] H3 := fun h => by
    rw [if_neg h] at k
    exact k H3 ps _ (sb.trans S3) gU3 hp3
  by_cases c1 : 1 < rg.length
  · refine ite_yes (decide_eq_true (by omega)) ?_
    refine ⟨_, rfl, _, rfl, ringD rg, ds.map ringD, .tup (SqT.of g3) (dpS _), .lst (SqL.of gU3) (rgt_dp hp3), ringD_shaped rtx, rings_shaped dtx, _, rfl, ?_⟩
    rw [any_rings]
    by_cases c2 : rg ∈ ds
    · refine ite_no (by rw [decide_eq_true c2]; rfl) ?_
      exact skip fun z => z.2 c2
    · refine ite_yes (by rw [decide_eq_false c2]; rfl) ?_
      rw [if_pos ⟨c1, c2⟩] at k
      have lps := Paired.length hp
      refine ⟨_, rfl, .inl ⟨rfl, _, SqL.of gU3⟩, _, rfl, Du, _, _, rfl, rfl, gU3, by rw [List.length_map, sizeLine_eq]; omega, ?_⟩
      have kp : ∀ {p : Addr} {x : List Str}, RgT H3 p x → RgT (upd H3 Du (.lst (ps.map V.ref ++ [V.ref tr]))) p x := fun {p x} h => by
        show (upd H3 Du _) p = _
        rw [upd_ne (ne_of h gU3 (by intro z; cases z))]
        exact h
      exact k _ (ps ++ [tr]) _ (fun b u z => by rw [upd_ne (ne_of_none z nDu)]; exact S3 _ _ (sb _ _ z)) (by rw [upd_same, List.map_append]; rfl) (papp (pimp (fun v u h => kp h) hp3) (.cons (kp g3) .nil))
  · refine ite_no (decide_eq_false (by omega)) ?_
    refine ite_no rfl ?_
    exact skip fun z => c1 z.1
/-- the orders, one longer -/
theorem law_l {f : Addr} {cdv : Value} {A : Around} {outer : List Env} {sh : Shared} {H0 : Hp} {E : XK} (L : LawAll P w K mg base C CT CY CI)
    (hr : Room 9 (A.deeper (envOfC "law" (defScope sLaw) sh.heap.objs.size f cdv))) (nd : LawN.Nodup) :
    ∃ t, PSs (cxOf CX0 P w K mg base LawN "law" (defScope sLaw) f cdv A outer sh H0 E).nox lBody t ∧ ∀ (D' : Ends) (H : Hp) (lg lo : Addr) (good : List Str) (ps : List Addr) (os : List (List Str)) (x0 x1 x2 x3 x4 x5 x6 x7 x8 x9 x11 x13 x14 x15 x16 x17 x18 : Option V), H lg = some (.lst (good.map V.str)) → good.length ≤ 4 → H lo = some (.lst (ps.map V.ref)) → Paired (OrdAt K H) ps os → os.length ≤ 256 → (∀ o ∈ os, o.length ≤ 4) →
      (∀ H' lo' ps' x13 x14, Same H H' → H' lo' = some (.lst (ps'.map V.ref)) → Paired (OrdAt K H') ps' (extL good os) → D'.nx [x0, x1, x2, x3, x4, x5, x6, x7, x8, x9, some (.ref lg), x11, some (.ref lo'), x13, x14, x15, x16, x17, x18] H') →
      t D' [x0, x1, x2, x3, x4, x5, x6, x7, x8, x9, some (.ref lg), x11, some (.ref lo), x13, x14, x15, x16, x17, x18] H := by
  refine ⟨_, pss_cons (ps_set (i := 13) nd rfl (Or.inl rfl) (pe_lst pa_nil))
    (pss_cons (ps_for PassesOwn.never rfl (pi_list (pv 12)) (pg_name (i := 14) nd rfl (Or.inr rfl))
      (pss_one (ps_set (i := 13) nd rfl (Or.inl rfl) (pe_op op_cat (pv 13)
        (pe_lc (own := [("_law_other", 17)]) (g := gName 17) (tt := tTest (tOp (rIn K true) (tVar 17) (tVar 14))) (te := tOp (rCatA K) (tVar 14) (tTup (tCons (tVar 17) tNil))) rfl nd (pi_list (pv 10)) (blkOk_by (N := LawN) (sc := defScope sLaw) (by decide +kernel))
          (fun _ _ _ _ _ => pg_name (i := 17) nd rfl (Or.inl rfl)) (fun _ _ _ _ _ => pts_one (pt_cmpR (op_notIn_seq : OpR _ _ (rIn K true)) (pv 17) (pv 14) (by rfl))) (fun _ _ _ _ _ => pe_op (op_catA : OpR _ _ (rCatA K)) (pv 14) (pe_tup (pa_cons (pv 17) pa_nil))))))))
    (pss_one (ps_set (i := 12) nd rfl (Or.inl rfl) (pv 13)))), ?_⟩
  intro D' H lg lo good ps os x0 x1 x2 x3 x4 x5 x6 x7 x8 x9 x11 x13 x14 x15 x16 x17 x18 hg few hl hp ol o4 k
  refine ⟨Nat.zero_le _, fun l0 nl0 => ?_⟩
  have q0 := Same.upd_new (o := .lst []) nl0
  have g0 : (upd H l0 (.lst [])) l0 = some (.lst (([] : List Addr).map V.ref)) := upd_same
  generalize upd H l0 (.lst []) = H1 at q0 g0 ⊢
  have lps := Paired.length hp
  refine ⟨_, rfl, lo, rfl, ⟨_, SqL.of (q0 _ _ hl)⟩, ?_⟩
  refine for_it (walk_list (xs := ps.map V.ref)) (fun i σ H' => Same H H' ∧ ∃ (lx : Addr) (qs : List Addr) (z14 : Option V), H' lx = some (.lst (qs.map V.ref)) ∧ Paired (OrdAt K H') qs (extL good (os.take i)) ∧ σ = [x0, x1, x2, x3, x4, x5, x6, x7, x8, x9, some (.ref lg), x11, some (.ref lo), some (.ref lx), z14, x15, x16, x17, x18]) ⟨q0, l0, [], _, g0, .nil, rfl⟩ (fun i σ H' _ h => SqL.of (h.1 _ _ hl)) ?_ ?_
  · rintro i x σ H2 H3 hi ⟨s2, lx, qs, z14, gx, hq, rfl⟩ ⟨rfl, hx⟩
    obtain ⟨p, hp1, rfl⟩ := getE hx
    obtain ⟨o, ho, hpo⟩ := paired_get hp hp1
    have hpo2 := s2.sqT hpo
    have o4' := o4 o (List.mem_of_getElem? ho)
    refine ⟨_, rfl, _, rfl, lg, rfl, ⟨_, SqL.of (s2 _ _ hg)⟩, fun DL hDL => lc_it (walk_list (xs := good.map V.str)) (fun j H' => Same H3 H' ∧ ∃ rs : List Addr, H' DL = some (.lst (rs.map V.ref)) ∧ Paired (OrdAt K H') rs (((good.take j).filter fun x => !has o x).map fun x => o ++ [x])) ⟨Same.upd_new hDL, [], upd_same, .nil⟩ (fun _ _ _ h => SqL.of (h.1 _ _ (s2 _ _ hg))) ?_ ?_⟩
    · rintro j x H4 H5 hj ⟨s4, rs, gr, hr4⟩ ⟨rfl, hx⟩
      obtain ⟨n, hn, rfl⟩ := getE hx
      have tk := take_next hn
      have hpo4 := s4.sqT hpo2
      have rl : rs.length ≤ 4 := by
        rw [Paired.length hr4, List.length_map]
        refine Nat.le_trans (List.length_filter_le ..) ?_
        rw [List.length_take]
        omega
      refine ⟨rfl, _, rfl, _, rfl, p, _, rfl, .inr hpo4, rfl, flat_strs _, _, rfl, ?_⟩
      rw [if_pos rfl, inV_str]
      cases c : !has o n with
      | false =>
        refine ite_no rfl ?_
        refine ⟨s4, rs, gr, ?_⟩
        rw [tk, List.filter_append, List.map_append]
        have : [n].filter (fun x => !has o x) = [] := by simp [c]
        rw [this]
        rw [List.map_nil, List.append_nil]
        exact hr4
      | true =>
        refine ite_yes rfl ?_
        have fin : ∀ (t : Addr) (H6 : Hp), Same H5 H6 → SqT K H6 t ((o ++ [n]).map V.str) → ∃ acc, H6 DL = some (.lst acc) ∧ acc.length < sizeLine ∧ Same H3 (upd H6 DL (.lst (acc ++ [.ref t]))) ∧ ∃ rs : List Addr, (upd H6 DL (.lst (acc ++ [.ref t]))) DL = some (.lst (rs.map V.ref)) ∧ Paired (OrdAt K (upd H6 DL (.lst (acc ++ [.ref t])))) rs (((good.take (j + 1)).filter fun x => !has o x).map fun x => o ++ [x]) := fun t H6 s6 ht => by
          have g6 := s6 _ _ gr
          have kD : Kp K H6 (upd H6 DL (.lst (rs.map V.ref ++ [.ref t]))) := Kp.upd g6 (fun _ z => by cases z) (fun _ _ z => by cases z)
          refine ⟨rs.map V.ref, g6, by rw [List.length_map, sizeLine_eq]; omega, fun b u z => by rw [upd_ne (ne_of_none z hDL)]; exact s6 _ _ (s4 _ _ z), rs ++ [t], by rw [upd_same, List.map_append]; rfl, ?_⟩
          rw [tk, List.filter_append, List.map_append]
          have : [n].filter (fun x => !has o x) = [n] := by simp [c]
          rw [this]
          exact papp (pimp (fun v u h => kD _ _ (s6.sqT h)) hr4) (.cons (kD _ _ ht) .nil)
        refine ⟨_, rfl, _, rfl, one_leU, fun t1 nt1 => ?_⟩
        have q6 := Same.upd_new (o := .tup [.str n]) nt1
        have g6 : SqT K (upd H5 t1 (.tup [.str n])) t1 [.str n] := SqT.of upd_same
        generalize upd H5 t1 (.tup [.str n]) = H6 at q6 g6 ⊢
        refine ⟨p, t1, _, _, rfl, rfl, q6.sqT hpo4, g6, by rw [List.length_map, sizeLine_eq]; show _ + 1 ≤ _; omega, fun z => ?_, fun _ z => (by cases z), fun _ _ t2 nt2 => ?_⟩
        · have : o = [] := List.map_eq_nil_iff.mp z
          refine fin t1 H6 q6 ?_
          rw [this]
          exact g6
        · have q7 := Same.upd_new (o := .tup (o.map V.str ++ [.str n])) nt2
          refine fin t2 _ (q6.trans q7) ?_
          rw [List.map_append]
          exact SqT.of upd_same
    rintro H4 ⟨s4, rs, gr, hr4⟩
    rw [List.length_map, List.take_length] at hr4
    have et : extL good (os.take (i + 1)) = extL good (os.take i) ++ (good.filter fun x => !has o x).map fun x => o ++ [x] := flat_take ho
    have ql : qs.length ≤ 256 * 4 := by
      rw [Paired.length hq]
      unfold extL
      refine Nat.le_trans (flat_len (b := 4) fun o _ => ?_) (Nat.mul_le_mul_right 4 (by rw [List.length_take]; omega))
      rw [List.length_map]
      exact Nat.le_trans (List.length_filter_le ..) few
    have rl : rs.length ≤ 4 := by
      rw [Paired.length hr4, List.length_map]
      exact Nat.le_trans (List.length_filter_le ..) few
    refine ⟨lx, DL, _, _, rfl, rfl, s4 _ _ gx, gr, by rw [List.length_map, List.length_map, sizeLine_eq]; omega, fun pc npc => ?_⟩
    rw [← List.map_append]
    have q5 := Same.upd_new (o := .lst ((qs ++ rs).map V.ref)) npc
    refine ⟨s2.trans (s4.trans q5), pc, qs ++ rs, _, upd_same, ?_, rfl⟩
    rw [et]
    exact papp (pimp (fun v u h => (s4.trans q5).sqT h) hq) (pimp (fun v u h => q5.sqT h) hr4)
  rintro σ H2 ⟨s2, lx, qs, z14, gx, hq, rfl⟩
  rw [List.length_map, lps, List.take_length] at hq
  exact ⟨_, rfl, k H2 lx qs _ _ s2 gx hq⟩
end
end Half

namespace Half
open PySem PySem.Spec PyProof.Rows L2
/-! ### k75: what is drawn is a right store and a right system -/
theorem RingP.keys {ls : Es} {ss : List (Str × St3)} (h : RingP 4 ls ss) : (keysOf ls.eds).map (·.1) = PN4 := by
  rw [keys_eds, List.map_map, List.map_map]
  exact h.ln
theorem RingP.len {ls : Es} {ss : List (Str × St3)} (h : RingP 4 ls ss) : ls.length = 4 := by
  have a1 := congrArg List.length h.ln
  rw [List.length_map] at a1
  exact a1
theorem RingP.inn {ls : Es} {ss : List (Str × St3)} (h : RingP 4 ls ss) {e : Addr × Edn} (he : e ∈ ls) : e.2.name ∈ PN4 := by
  have : e.2.name ∈ ls.map fun e => e.2.name := List.mem_map.mpr ⟨e, he, rfl⟩
  rw [h.ln] at this
  exact this
theorem RingP.right {ls : Es} {ss : List (Str × St3)} (h : RingP 4 ls ss) : ∀ e ∈ ls, e.2.ed.Small ∧ e.2.ed.wrong = none := fun e he => by
  obtain ⟨g, v1, v2⟩ := h.each e he
  exact g.right (h.inn he) v1 (by omega) (other_sub _) (other_no _)
theorem RingP.wr {ls : Es} {ss : List (Str × St3)} (h : RingP 4 ls ss) : wrongAt (keysOf ls.eds) = none := by
  have kn : (keysOf ls.eds).Nodup := by
    have : ((keysOf ls.eds).map (·.1)).Nodup := by rw [h.keys]; exact pn4_nd
    exact List.Pairwise.of_map _ (fun a b q z => q (by rw [z])) this
  have kl : (keysOf ls.eds).length = 4 := by rw [keys_eds, List.length_map, List.length_map]; exact h.len
  have km : ∀ k ∈ keysOf ls.eds, k.1 ∈ PN4 := fun k hk => by rw [← h.keys]; exact List.mem_map.mpr ⟨k, hk, rfl⟩
  unfold wrongAt
  have ne : (keysOf ls.eds).isEmpty = false := by
    cases c : keysOf ls.eds with
    | nil => rw [c] at kl; cases kl
    | cons _ _ => rfl
  rw [ne, if_neg (by decide)]
  refine List.find?_eq_none.mpr fun i hi => ?_
  have hi := List.mem_range.mp hi
  have e := List.getElem?_eq_getElem hi
  have a1 := has_no (nodup_take kn e)
  have a2 : nd (((keysOf ls.eds).take (i + 1)).map (·.1)) ≤ 4 := by
    have := len_sub (dset_nodup (((keysOf ls.eds).take (i + 1)).map (·.1))) (m := PN4) fun z hz => by
      obtain ⟨k, hk, rfl⟩ := List.mem_map.mp ((mem_dset _ _).mp hz)
      exact km k (List.mem_of_mem_take hk)
    exact this
  unfold badB
  rw [e]
  dsimp only
  rw [a1, decide_eq_false (by omega), decide_eq_false (by omega)]
  decide
theorem pn4_asc : PN4.Pairwise txLe := by
  have : PN4.Pairwise fun x y => txLt x y = true := by decide +kernel
  exact this.imp fun h => tx_as h
theorem RingP.nm {ls : Es} {ss : List (Str × St3)} (h : RingP 4 ls ss) : IsNm (keysOf ls.eds) (ss.map (·.1)) := by
  have e : ss.map (·.1) = PN4 := h.sn
  rw [e]
  exact ⟨pn4_nd, pn4_asc, fun x => by rw [h.keys]⟩
theorem RingP.ok {ls : Es} {ss : List (Str × St3)} (h : RingP 4 ls ss) : ∀ p ∈ ss, isState (keysOf ls.eds) p.1 p.2 = true := fun p hp => by
  obtain ⟨e, he, en, hs⟩ := h.st p hp
  have hk : (p.1, e.2.ver) ∈ keysOf ls.eds := by
    rw [keys_eds, List.map_map]
    exact List.mem_map.mpr ⟨e, he, by rw [← en]; rfl⟩
  rcases hs with q | q
  · rw [q]
    exact state_ok (st := "unpacked") (dn := 0) hk (by decide) (by decide) (.inl rfl)
  · rw [q]
    exact state_ok (st := "ready") (dn := 0) hk (by decide) (by decide) (.inl rfl)
theorem RingP.bad {ls : Es} {ss : List (Str × St3)} (h : RingP 4 ls ss) : ∀ n ∈ ss.map (·.1), badP (keysOf ls.eds) ss n = false := fun n hn => by
  obtain ⟨s, hs⟩ := stOf_some hn
  have a := (h.nm.mem n).mp hn
  have b := h.ok _ (stOf_in hs)
  unfold badP
  rw [has_iff.mpr a, hs]
  show (false || !isState (keysOf ls.eds) n s) = false
  rw [b]
  rfl
theorem RingP.pend {ls : Es} {ss : List (Str × St3)} (h : RingP 4 ls ss) {n : Str} {s : St3} (hs : stOf ss n = some s) : pendB ss n = decide (s.1 = "unpacked") := by
  obtain ⟨e, he, en, q⟩ := h.st _ (stOf_in hs)
  unfold pendB
  rw [hs]
  dsimp only
  rcases q with q | q
  · rw [show s = _ from q]
    show has PEND "unpacked" = decide (("unpacked" : Str) = "unpacked")
    decide
  · rw [show s = _ from q]
    show has PEND "ready" = decide (("ready" : Str) = "unpacked")
    decide
theorem RingP.diff {ls : Es} {ss : List (Str × St3)} (h : RingP 4 ls ss) : Diff (ls.map (·.2)) := fun e he => by
  obtain ⟨x, hx, rfl⟩ := List.mem_map.mp he
  exact (pn4_nd.sublist (other_sub _)).sublist (h.each x hx).1.nee
theorem RingP.lean {ls es : Es} {ss : List (Str × St3)} (h : RingP 4 ls ss) (em : es.map (·.2) = ls.map (·.2)) : Lean es := fun e he => by
  have : e.2 ∈ ls.map (·.2) := by rw [← em]; exact List.mem_map.mpr ⟨e, he, rfl⟩
  obtain ⟨x, hx, ex⟩ := List.mem_map.mp this
  have g := (h.each x hx).1
  rw [← ex]
  have a := g.nee.length_le
  have b := g.fir.length_le
  have c := (other_sub x.2.name).length_le
  rw [List.length_map] at a b
  have : PN4.length = 4 := rfl
  omega
theorem keys_same2 {ls es : Es} (em : es.map (·.2) = ls.map (·.2)) : keysOf es.eds = keysOf ls.eds := by rw [keys_eds, keys_eds, em]
theorem co_shaped {c : CO} (h : ∀ x ∈ c.2, PyData.strOk x = true) : SeqAt.shaped (coD c) = true := by
  have ok : ∀ zs : List Str, (∀ z ∈ zs, PyData.strOk z = true) → PyData.canLayAll0 (zs.map PyData.str) = true := fun zs => by
    induction zs with
    | nil => intro _; simp [PyData.canLayAll0]
    | cons z zs ih =>
      intro hz
      have := ih fun u hu => hz u (.tail _ hu)
      simp [PyData.canLayAll0, PyData.canLay0, hz z (.head _), this]
  have := ok c.2 h
  unfold SeqAt.shaped coD
  rw [Bool.and_eq_true]
  refine ⟨by simp [PyData.canLay0, PyData.canLayAll0, this], decide_eq_true ?_⟩
  simp [PyData.depth, PyData.depthAll, depth_strs c.2]
abbrev gNH (K : PySem.W.Frag) : TG := gTup K 2 (gCons (gName 5) (gCons (gName 18) gNil))
section
variable {P : Program} {w : World} {K : PySem.W.Frag} {mg : Str → Option Value} {base : Heap} {C CT CY CI : Addr}
theorem law_b {f : Addr} {cdv : Value} {A : Around} {outer : List Env} {sh : Shared} {H0 : Hp} {E : XK} (L : LawAll P w K mg base C CT CY CI)
    (hr : Room 9 (A.deeper (envOfC "law" (defScope sLaw) sh.heap.objs.size f cdv))) (nd : LawN.Nodup) :
    ∃ t, PSs (cxOf CX0 P w K mg base LawN "law" (defScope sLaw) f cdv A outer sh H0 E).nox ((defBody sLaw).drop 6) t ∧ ∀ (D' : Ends) (H : Hp) (y st l d lL lU : Addr) (ls es : Es) (kvs : List (Key × V)) (ss : List (Str × St3)) (g : Str → List Str) (ps : List Addr) (x0 x1 x5 x7 x9 : Option V), SysOk K C CT CY H y st ss es → es.map (·.2) = ls.map (·.2) → LEd K H l ls → H d = some (.dK kvs) → SL K H kvs ss → RingP 4 ls ss → H lL = some (.lst ((pendL ss).map V.str)) → (∀ a ∈ pendL ss, ∀ b, b ∈ g a ↔ Rch (ls.map (·.2)) ss (pendL ss) a b) →
      H lU = some (.lst (ps.map V.ref)) → Paired (RgT H) ps (((pendL ss).filter fun n => firB n (rotL (ls.map (·.2)) ss (pendL ss) n)).map (ringF g (pendL ss))) → (∀ H', D'.rt (.bl true) H') →
      t D' [x0, x1, some (.ref l), some (.ref d), some (.ref y), x5, some (.ref lL), x7, some (.ref lU), x9, none, none, none, none, none, none, none, none, none] H := by
  have r2 : Room 2 _ := hr.mono (by decide)
  have r3 : Room 3 _ := hr.mono (by decide)
  have r6 : Room 6 _ := hr.mono (by decide)
  have r7 : Room 7 _ := hr.mono (by decide)
  have r8 : Room 8 _ := hr.mono (by decide)
  have hu2 : (A.deeper (envOfC "law" (defScope sLaw) sh.heap.objs.size f cdv)).units + 40 < cLine := by have := hr.units; omega
  obtain ⟨tL, hL1, rdL⟩ := law_l (f := f) (cdv := cdv) (A := A) (outer := outer) (sh := sh) (H0 := H0) (E := E) L hr nd
  refine ⟨_, pss_cons (ps_if (PW.pt (pw_or (pt_cmpR (op_neD hr.units) (pe_def L.dPen r3 rfl (pa_cons (pv 4) pa_nil)) (pv 6) (nomark _)) (pw_or1 (pt_cmpR (op_neD hr.units) (pe_def L.dRg r6 rfl (pa_cons (pv 4) pa_nil)) (pe_callB (cr_sortRd hu2 : CallR _ _ (rSortRd K)) (by rfl) L.gS (by decide +kernel) (pa_cons (pv 8) pa_nil)) (nomark _))))) (pss_one (ps_ret pe_bl)) pss_nil)
    (pss_cons (ps_set (i := 10) nd rfl (Or.inr rfl) (pe_callTy call_list_of (by rfl) L.gLi (by decide +kernel) (pa_cons (pv 6) pa_nil)))
    (pss_cons (ps_for PassesOwn.never rfl (pi_range1 (by rfl) L.gR (pa_cons pe_int pa_nil)) (pg_name (i := 11) nd rfl (Or.inl rfl))
      (pss_one (ps_set (i := 10) nd rfl (Or.inr rfl) (pe_lc (own := [("_law_name", 5)]) (g := gName 5) (tt := tTest (tCall (spCan K) [] E0 (tCons (tVar 2) (tCons (tVar 3) (tCons (tVar 10) (tCons (tVar 5) tNil)))))) (te := tVar 5) rfl nd (pi_list (pv 10)) (blkOk_by (N := LawN) (sc := defScope sLaw) (by decide +kernel))
        (fun _ _ _ _ _ => pg_name (i := 5) nd rfl (Or.inl rfl)) (fun _ _ _ _ _ => pts_one (pt_val (pe_def L.dCan r2 rfl (pa_cons (pv 2) (pa_cons (pv 3) (pa_cons (pv 10) (pa_cons (pv 5) pa_nil))))))) (fun _ _ _ _ _ => pv 5)))))
    (pss_cons (ps_if (pt_cmpR (op_neD hr.units) (pe_def L.dHl r7 rfl (pa_cons (pv 4) pa_nil))
        (pe_lc (own := [("_law_name", 5)]) (g := gName 5) (tt := tTest (tOp (rIn K true) (tVar 5) (tVar 10))) (te := tVar 5) rfl nd (pi_list (pv 6)) (blkOk_by (N := LawN) (sc := defScope sLaw) (by decide +kernel))
          (fun _ _ _ _ _ => pg_name (i := 5) nd rfl (Or.inl rfl)) (fun _ _ _ _ _ => pts_one (pt_cmpR (op_notIn_seq : OpR _ _ (rIn K true)) (pv 5) (pv 10) (by rfl))) (fun _ _ _ _ _ => pv 5)) (nomark _)) (pss_one (ps_ret pe_bl)) pss_nil)
    (pss_cons (ps_set (i := 12) nd rfl (Or.inl rfl) (pe_lst (pa_cons (pe_tup pa_nil) pa_nil)))
    (pss_cons (ps_for PassesOwn.never rfl (pi_list (pv 10)) (pg_name (i := 5) nd rfl (Or.inr rfl)) hL1)
    (pss_cons (ps_set (i := 15) nd rfl (Or.inl rfl) (pe_callB (cr_minD rfl hu2 : CallR _ _ (rMinD K)) (by rfl) L.gM (by decide +kernel) (pa_cons
        (pe_lc (own := [("_law_order", 14)]) (g := gName 14) (tt := tYes) (te := tTup (tCons (tCall (spFor K) [] E0 (tCons (tVar 2) (tCons (tVar 3) (tCons (tVar 14) tNil)))) (tCons (tVar 14) tNil))) rfl nd (pi_list (pv 12)) (blkOk_by (N := LawN) (sc := defScope sLaw) (by decide +kernel))
          (fun _ _ _ _ _ => pg_name (i := 14) nd rfl (Or.inl rfl)) (fun _ _ _ _ _ => pts_nil) (fun _ _ _ _ _ => pe_tup (pa_cons (pe_def L.dFor r3 rfl (pa_cons (pv 2) (pa_cons (pv 3) (pa_cons (pv 14) pa_nil)))) (pa_cons (pv 14) pa_nil)))) pa_nil)))
    (pss_cons (ps_if (pt_cmpR (op_neD hr.units) (pe_def L.dFf r8 rfl (pa_cons (pv 4) pa_nil)) (pv 15) (nomark _)) (pss_one (ps_ret pe_bl)) pss_nil)
    (pss_cons (ps_set (i := 16) nd rfl (Or.inl rfl) (pe_def L.dSo r7 rfl (pa_cons (pv 4) pa_nil)))
    (pss_one (ps_ret (pe_and (pe_cmpR (op_eqD hr.units) (pe_callB cr_sortedS (by rfl) L.gS (by decide +kernel) (pa_cons
        (pe_lc (own := [("_law_name", 5), ("_law_forced_here", 18)]) (g := gNH K) (tt := tYes) (te := tVar 5) rfl nd (pi_list (pv 16)) (blkOk_by (N := LawN) (sc := defScope sLaw) (by decide +kernel))
          (fun _ _ _ _ _ => pg_tup rfl (pgs_cons (pg_name (i := 5) nd rfl (Or.inl rfl)) (pgs_cons (pg_name (i := 18) nd rfl (Or.inl rfl)) pgs_nil))) (fun _ _ _ _ _ => pts_nil) (fun _ _ _ _ _ => pv 5)) pa_nil)) (pv 10) (nomark _))
      (pe_one (pe_cmpR op_ge (pe_callB call_len_seq (by rfl) L.gL PySem.boot_len (pa_cons
        (pe_lc (own := [("_law_name", 5), ("_law_forced_here", 18)]) (g := gNH K) (tt := tTest (tVar 18)) (te := tC (.int 1)) rfl nd (pi_list (pv 16)) (blkOk_by (N := LawN) (sc := defScope sLaw) (by decide +kernel))
          (fun _ _ _ _ _ => pg_tup rfl (pgs_cons (pg_name (i := 5) nd rfl (Or.inl rfl)) (pgs_cons (pg_name (i := 18) nd rfl (Or.inl rfl)) pgs_nil))) (fun _ _ _ _ _ => pts_one (pt_val (pv 18))) (fun _ _ _ _ _ => pe_int)) pa_nil)) (pe_ix (ix_tup : IxR _ (rIxT K)) (pv 15) pe_int (fun _ _ => rfl)) (nomark _)))))))))))))), ?_⟩
  intro D' H y st l d lL lU ls es kvs ss g ps x0 x1 x5 x7 x9 hY em hL gd hS hP gN hf gU hp k
  have lean := hP.lean em
  have diff := hP.diff
  have snd : (ss.map (·.1)).Nodup := by rw [show ss.map (·.1) = PN4 from hP.sn]; exact pn4_nd
  have p4 : ∀ x ∈ pendL ss, x ∈ PN4 := fun x hx => by
    have := (pend_in hx).1
    rw [show ss.map (·.1) = PN4 from hP.sn] at this
    exact this
  have ptx : ∀ x ∈ pendL ss, PyData.strOk x = true := fun x hx => (pn4_ok x (p4 x hx)).1
  have pnd : (pendL ss).Nodup := snd.sublist List.filter_sublist
  have pl4 : (pendL ss).length ≤ 4 := len_sub pnd p4
  have pasc : (pendL ss).Pairwise txLe := hP.nm.asc.sublist List.filter_sublist
  have htx : ∀ x ∈ hopeL (es.map (·.2)) ss, PyData.strOk x = true := fun x hx => ptx x (hope_in hx)
  have ltx : ∀ x ∈ lossL (es.map (·.2)) ss, PyData.strOk x = true := fun x hx => ptx x (List.mem_filter.mp hx).1
  -- pending, rings
  refine ⟨_, rfl, y, st, ss, es, rfl, hY, fun lp H1 s1 nlp glp => ?_⟩
  refine ⟨_, rfl, _, _, .lst (SqL.of glp) (dpS _), .lst (SqL.of (s1 _ _ gN)) (dpS _), strs_lay ptx, strs_lay ptx, _, rfl, ?_⟩
  refine ite_no (congrArg not (lay_self (strs_lay ptx))) ?_
  have diff2 : Diff (es.map (·.2)) := by rw [em]; exact diff
  refine ⟨_, rfl, y, st, ss, es, rfl, hY.same s1, lean, diff2, fun DR H2 qs s2 nR gR hR => ?_⟩
  have S2 := s1.trans s2
  have hR0 : Paired (RingAt K H2) qs (((pendL ss).filter fun n => firB n (rotL (ls.map (·.2)) ss (pendL ss) n)).map fun n => (n, rotL (ls.map (·.2)) ss (pendL ss) n)) := by
    have := hR
    unfold ringsL at this
    rw [em] at this
    exact this
  have hR2 := ring_list diff pnd pasc hf (l := (pendL ss).filter fun n => firB n (rotL (ls.map (·.2)) ss (pendL ss) n)) (fun n hn => List.mem_filter.mp hn) hR0
  have rise := rings_rise diff pnd pasc hf
  have dtx : ∀ x ∈ ((pendL ss).filter fun n => firB n (rotL (ls.map (·.2)) ss (pendL ss) n)).map (ringF g (pendL ss)), ∀ z ∈ x, PyData.strOk z = true := fun x hx z hz => by
    obtain ⟨m, _, rfl⟩ := List.mem_map.mp hx
    exact ptx z (List.mem_filter.mp hz).1
  have dne : ∀ x ∈ ((pendL ss).filter fun n => firB n (rotL (ls.map (·.2)) ss (pendL ss) n)).map (ringF g (pendL ss)), x ≠ [] := fun x hx z => by
    obtain ⟨m, hm, rfl⟩ := List.mem_map.mp hx
    obtain ⟨m1, m2⟩ := List.mem_filter.mp hm
    obtain ⟨t, et⟩ := ring_head diff pasc hf m1 m2
    rw [et] at z
    cases z
  have gU2 := S2 _ _ gU
  have hp2 : Paired (RgT H2) ps (((pendL ss).filter fun n => firB n (rotL (ls.map (·.2)) ss (pendL ss) n)).map (ringF g (pendL ss))) := pimp (fun v u h => S2 _ _ h) hp
  generalize ((pendL ss).filter fun n => firB n (rotL (ls.map (·.2)) ss (pendL ss) n)).map (ringF g (pendL ss)) = ds at hR2 rise dtx dne hp2 hp
  -- the groups, sorted
  have lpd : ps.length = (ds.map ringD).length := by rw [Paired.length hp2, List.length_map]
  have z1 : (ps.zip (ds.map ringD)).map (fun x => x.1) = ps := List.map_fst_zip (by omega)
  have z2 : (ps.zip (ds.map ringD)).map (fun x => x.2) = ds.map ringD := List.map_snd_zip (by omega)
  have zr : (ps.zip (ds.map ringD)).map (fun x => V.ref x.1) = ps.map V.ref := by
    conv => rhs; rw [← z1, List.map_map]
    rfl
  refine ⟨_, rfl, lU, ps.zip (ds.map ringD), rfl, SqL.of (by rw [zr]; exact gU2), fun x hx => ?_, ?_, ?_, fun x hx => ?_, fun ys p3 perm pw n3 => ?_⟩
  · obtain ⟨i, hi⟩ := List.mem_iff_getElem?.mp hx
    rw [List.getElem?_zip_eq_some] at hi
    obtain ⟨i1, i2⟩ := hi
    obtain ⟨o, ho, hpo⟩ := paired_get hp2 i1
    rw [List.getElem?_map, ho] at i2
    rw [← Option.some.inj i2]
    exact .tup (SqT.of hpo) (dpS _)
  · rw [z2]
    intro a ha b hb
    obtain ⟨u, _, rfl⟩ := List.mem_map.mp ha
    obtain ⟨v, _, rfl⟩ := List.mem_map.mp hb
    unfold ringD
    simp [PySem.W.alike, alike_strs]
  · rw [z2]
    refine .inl fun dd hd => ?_
    obtain ⟨u, hu, rfl⟩ := List.mem_map.mp hd
    cases u with
    | nil => exact absurd rfl (dne [] hu)
    | cons a as => exact ⟨_, _, rfl⟩
  · have : x.2 ∈ ds.map ringD := by rw [← z2]; exact List.mem_map.mpr ⟨x, hx, rfl⟩
    obtain ⟨u, hu, e⟩ := List.mem_map.mp this
    rw [← e]
    exact Nat.le_trans (ringD_lay (dtx u hu)).2 (by decide)
  have q3 := Same.upd_new (o := .lst (ys.map fun x => V.ref x.1)) n3
  have ey : ys.map (fun x => x.2) = ds.map ringD := rise_uniq rise (by rw [← z2]; exact perm.map _) (List.pairwise_map.mpr pw)
  have hdy : ∀ x ∈ ys, Dp K (upd H2 p3 (.lst (ys.map fun x => V.ref x.1))) (.ref x.1) x.2 := fun x hx => by
    have hx2 := perm.subset hx
    obtain ⟨i, hi⟩ := List.mem_iff_getElem?.mp hx2
    rw [List.getElem?_zip_eq_some] at hi
    obtain ⟨i1, i2⟩ := hi
    obtain ⟨o, ho, hpo⟩ := paired_get hp2 i1
    rw [List.getElem?_map, ho] at i2
    rw [← Option.some.inj i2]
    exact .tup (SqT.of (q3 _ _ hpo)) (dpS _)
  have dpy := dps_of hdy
  rw [ey] at dpy
  refine ⟨_, _, .lst (SqL.of (q3 _ _ gR)) (sq_dp (pimp (fun v u h => q3.sqT h) hR2)), .lst (SqL.of upd_same) dpy, rings_shaped dtx, rings_shaped dtx, _, rfl, ?_⟩
  refine ite_no (congrArg not (lay_self (rings_shaped dtx))) ?_
  have S3 := S2.trans q3
  generalize upd H2 p3 (.lst (ys.map fun x => V.ref x.1)) = H3 at S3
  clear hp2 hR hR0 hR2 dpy hdy
  -- what is good
  have gN3 := S3 _ _ gN
  refine ⟨_, rfl, lL, _, rfl, .inl (SqL.of gN3), fun lG nL => ?_⟩
  have b1 := Same.upd_new (o := .lst ((pendL ss).map V.str)) nL
  have g1 : (upd H3 lG (.lst ((pendL ss).map V.str))) lG = some (.lst ((pendL ss).map V.str)) := upd_same
  generalize upd H3 lG (.lst ((pendL ss).map V.str)) = H4 at b1 g1 ⊢
  have S4 := S3.trans b1
  refine ⟨5, rfl, by decide, by decide, ?_⟩
  refine for_it walk_range (fun j σ H' => Same H H' ∧ ∃ (lg : Addr) (z11 : Option V), H' lg = some (.lst ((gIt (ls.map (·.2)) ss j (pendL ss)).map V.str)) ∧ σ = [x0, x1, some (.ref l), some (.ref d), some (.ref y), x5, some (.ref lL), x7, some (.ref lU), x9, some (.ref lg), z11, none, none, none, none, none, none, none]) ⟨S4, lG, none, g1, rfl⟩ (fun _ _ _ _ _ => trivial) ?_ ?_
  · rintro j x σ H5 H6 hj ⟨s5, lg, z11, gg, rfl⟩ ⟨rfl, rfl⟩
    have sub := git_sub (es := ls.map (·.2)) (ss := ss) j (pendL ss)
    have eg : gIt (ls.map (·.2)) ss (j + 1) (pendL ss) = (gIt (ls.map (·.2)) ss j (pendL ss)).filter fun n => !lackB (ls.map (·.2)) ss (gIt (ls.map (·.2)) ss j (pendL ss)) n := rfl
    generalize hgs : gIt (ls.map (·.2)) ss j (pendL ss) = gs at gg sub eg
    have gl : gs.length ≤ 4 := Nat.le_trans sub.length_le pl4
    refine ⟨_, rfl, lg, rfl, ⟨_, SqL.of gg⟩, fun D2 hD2 => lc_it (walk_list (xs := gs.map V.str)) (AccP H6 D2 (filV (fun n => !lackB (ls.map (·.2)) ss gs n) V.str gs)) (AccP.zero hD2 rfl) (fun _ _ _ p => SqL.of (p.1 _ _ gg)) ?_ ?_⟩
    · rintro i x H7 H8 hi p ⟨rfl, hx⟩
      obtain ⟨n, hn, rfl⟩ := getE hx
      have S8 := s5.trans p.1
      refine ⟨rfl, _, rfl, _, rfl, _, rfl, _, rfl, l, d, lg, ls, kvs, ss, gs, n, rfl, hL.same S8, S8 _ _ gd, hS.same S8, hP, .inl (SqL.of (p.1 _ _ gg)), p4 n (sub.subset (List.mem_of_getElem? hn)), fun H9 s9 => ⟨_, rfl, ?_⟩⟩
      cases cc : !lackB (ls.map (·.2)) ss gs n with
      | true =>
        refine ite_yes rfl ?_
        exact ⟨_, rfl, p.step hD2 (filV_yes hn cc) (Nat.le_trans (filV_len ..) (by omega)) s9⟩
      | false =>
        refine ite_no rfl ?_
        exact p.skip (filV_no hn cc) s9
    · intro H7 p7
      have g7 := acc_all p7 (by rw [List.length_map])
      rw [← eg] at g7
      exact ⟨s5.trans p7.1, D2, _, g7, rfl⟩
  rintro σ H5 ⟨s5, lg, z11, gg, rfl⟩
  have gg : H5 lg = some (.lst ((gIt (ls.map (·.2)) ss 5 (pendL ss)).map V.str)) := gg
  rw [git_five (by omega)] at gg
  have emh : hopeL (es.map (·.2)) ss = hopeL (ls.map (·.2)) ss := by rw [em]
  have eml : lossL (es.map (·.2)) ss = lossL (ls.map (·.2)) ss := by rw [em]
  rw [emh] at htx
  rw [eml] at ltx
  -- hopeless
  have hY5 := hY.same s5
  refine ⟨_, rfl, y, st, ss, es, rfl, hY5, lean, fun lh H6 s6 nlh glh => ?_⟩
  rw [eml] at glh
  have S6 := s5.trans s6
  have gN6 := S6 _ _ gN
  have gg6 := s6 _ _ gg
  refine ⟨_, rfl, lL, rfl, ⟨_, SqL.of gN6⟩, fun D2 hD2 => lc_it (walk_list (xs := (pendL ss).map V.str)) (AccP H6 D2 (filV (fun n => !has (hopeL (ls.map (·.2)) ss) n) V.str (pendL ss))) (AccP.zero hD2 rfl) (fun _ _ _ p => SqL.of (p.1 _ _ gN6)) ?_ ?_⟩
  · rintro i x H12 H13 hi p ⟨rfl, hx⟩
    obtain ⟨n, hn, rfl⟩ := getE hx
    refine ⟨rfl, _, rfl, _, rfl, lg, _, rfl, .inl (SqL.of (p.1 _ _ gg6)), rfl, flat_strs _, _, rfl, ?_⟩
    rw [if_pos rfl, inV_str]
    cases cc : !has (hopeL (ls.map (·.2)) ss) n with
    | true =>
      refine ite_yes rfl ?_
      exact ⟨_, rfl, p.step hD2 (filV_yes hn cc) (Nat.le_trans (filV_len ..) (by omega)) (Same.refl _)⟩
    | false =>
      refine ite_no rfl ?_
      exact p.skip (filV_no hn cc) (Same.refl _)
  intro H7 p7
  have g7 : H7 D2 = some (.lst ((lossL (ls.map (·.2)) ss).map V.str)) := acc_all p7 (by rw [List.length_map])
  refine ⟨_, _, .lst (SqL.of (p7.1 _ _ glh)) (dpS _), .lst (SqL.of g7) (dpS _), strs_lay ltx, strs_lay ltx, _, rfl, ?_⟩
  refine ite_no (congrArg not (lay_self (strs_lay ltx))) ?_
  have S7 := S6.trans p7.1
  have gg7 := p7.1 _ _ gg6
  -- the orders
  have hnd := hope_nd (es := ls.map (·.2)) snd
  have h4 : (hopeL (ls.map (·.2)) ss).length ≤ 4 := len_sub hnd fun z hz => p4 z (hope_in hz)
  have hp4 : ∀ n ∈ hopeL (ls.map (·.2)) ss, n ∈ PN4 := fun n hn => p4 n (hope_in hn)
  refine ⟨Nat.zero_le _, fun te nte => ⟨one_leU, fun l0 nl0 => ?_⟩⟩
  have qe := Same.upd_new (o := .tup []) nte
  have q0 := Same.upd_new (o := .lst [.ref te]) nl0
  have g0 : (upd (upd H7 te (.tup [])) l0 (.lst [.ref te])) l0 = some (.lst ([te].map V.ref)) := upd_same
  have gte : OrdAt K (upd (upd H7 te (.tup [])) l0 (.lst [.ref te])) te [] := q0.sqT (SqT.of upd_same)
  have S8 := S7.trans (qe.trans q0)
  have gg8 := (qe.trans q0) _ _ gg7
  generalize upd (upd H7 te (.tup [])) l0 (.lst [.ref te]) = H8 at g0 gte S8 gg8 ⊢
  refine ⟨_, rfl, lg, rfl, ⟨_, SqL.of gg8⟩, ?_⟩
  refine for_it (walk_list (xs := (hopeL (ls.map (·.2)) ss).map V.str)) (fun j σ H' => Same H8 H' ∧ ∃ (lo : Addr) (qs : List Addr) (z5 z13 z14 : Option V), H' lo = some (.lst (qs.map V.ref)) ∧ Paired (OrdAt K H') qs (extN (hopeL (ls.map (·.2)) ss) j) ∧ σ = [x0, x1, some (.ref l), some (.ref d), some (.ref y), z5, some (.ref lL), x7, some (.ref lU), x9, some (.ref lg), z11, some (.ref lo), z13, z14, none, none, none, none]) ⟨Same.refl _, l0, [te], _, _, _, g0, .cons gte .nil, rfl⟩ (fun j σ H' _ h => SqL.of (h.1 _ _ gg8)) ?_ ?_
  · rintro j x σ H9 H10 hj ⟨s9, lo, qs, z5, z13, z14, go, hq, rfl⟩ ⟨rfl, hx⟩
    obtain ⟨n, hn, rfl⟩ := getE hx
    have j4 : j < 4 := by rw [List.length_map] at hj; omega
    have el : (extN (hopeL (ls.map (·.2)) ss) j).length ≤ 256 := Nat.le_trans (ext_len h4 j) (Nat.le_trans (Nat.pow_le_pow_right (by decide) (by omega : j ≤ 4)) (by decide))
    refine rdL _ _ lg lo (hopeL (ls.map (·.2)) ss) qs (extN (hopeL (ls.map (·.2)) ss) j) _ _ _ _ _ _ _ _ _ _ _ _ _ _ _ _ _ (s9 _ _ gg8) h4 go hq el (fun o ho => by have := (mem_ext.mp ho).1; omega) fun H11 lo' qs' z13 z14 s11 go' hq' => ?_
    exact ⟨s9.trans s11, lo', qs', _, _, _, go', hq', rfl⟩
  rintro σ H9 ⟨s9, lo, qs, z5, z13, z14, go, hq, rfl⟩
  rw [List.length_map] at hq
  have S9 := S8.trans s9
  have gg9 := s9 _ _ gg8
  have lqs := Paired.length hq
  have eperm : ∀ o, o ∈ extN (hopeL (ls.map (·.2)) ss) (hopeL (ls.map (·.2)) ss).length ↔ o.Perm (hopeL (ls.map (·.2)) ss) := fun o => ext_perm hnd
  have el : (extN (hopeL (ls.map (·.2)) ss) (hopeL (ls.map (·.2)) ss).length).length ≤ 256 := Nat.le_trans (ext_len h4 _) (Nat.le_trans (Nat.pow_le_pow_right (by decide) h4) (by decide))
  generalize hos : extN (hopeL (ls.map (·.2)) ss) (hopeL (ls.map (·.2)) ss).length = os at hq lqs eperm el
  -- the fewest forced, by the law
  refine ⟨_, rfl, lo, rfl, ⟨_, SqL.of go⟩, fun D hD => lc_it (walk_list (xs := qs.map V.ref)) (fun i H' => Same H9 H' ∧ ∃ rs : List Addr, H' D = some (.lst (rs.map V.ref)) ∧ Paired (CoAt K H') rs ((os.take i).map (fnO (ls.map (·.2)) ss))) ⟨Same.upd_new hD, [], upd_same, .nil⟩ (fun i H' _ h => SqL.of (h.1 _ _ go)) ?_ ?_⟩
  · rintro i x H10 H11 hi ⟨s10, rs, g10, hr10⟩ ⟨rfl, hx⟩
    obtain ⟨p, hp1, rfl⟩ := getE hx
    obtain ⟨o, ho, hpo⟩ := paired_get hq hp1
    have om := (eperm o).mp (List.mem_of_getElem? ho)
    have S10 := S9.trans s10
    refine ⟨rfl, _, rfl, _, rfl, _, rfl, l, d, p, ls, kvs, ss, o, rfl, hL.same S10, S10 _ _ gd, hS.same S10, hP, s10.sqT hpo, fun n hn => hp4 n (om.subset hn), by rw [om.length_eq]; exact h4, fun H12 s12 => ?_⟩
    refine ⟨_, rfl, two_le, fun t nt => ?_⟩
    have q6 := Same.upd_new (o := .tup [.int (forcedN (ls.map (·.2)) ss o), .ref p]) nt
    have s56 := s12.trans q6
    have lrs := Paired.length hr10
    rw [List.length_map, List.length_take] at lrs
    refine ⟨rs.map V.ref, s56 _ _ g10, by rw [List.length_map, sizeLine_eq]; omega, ?_, rs ++ [t], by rw [List.map_append]; exact upd_same, ?_⟩
    · exact fun b u z => by rw [upd_ne (ne_of_none z hD)]; exact s56 _ _ (s10 _ _ z)
    · have kp : Kp K (upd H12 t (.tup [.int (forcedN (ls.map (·.2)) ss o), .ref p])) (upd (upd H12 t (.tup [.int (forcedN (ls.map (·.2)) ss o), .ref p])) D (.lst (rs.map V.ref ++ [V.ref t]))) := Kp.upd (s56 _ _ g10) (fun _ z => by cases z) (fun _ _ z => by cases z)
      have et : (os.take (i + 1)).map (fnO (ls.map (·.2)) ss) = (os.take i).map (fnO (ls.map (·.2)) ss) ++ [fnO (ls.map (·.2)) ss o] := by
        rw [take_next ho, List.map_append]
        rfl
      rw [et]
      refine papp (pimp (fun v u h => ?_) hr10) (.cons ⟨p, kp _ _ (SqT.of upd_same), kp _ _ (s56.sqT (s10.sqT hpo))⟩ .nil)
      obtain ⟨u', h1, h2⟩ := h
      exact ⟨u', kp _ _ (s56.sqT h1), kp _ _ (s56.sqT h2)⟩
  rintro H10 ⟨s10, rs, g10, hr10⟩
  rw [List.length_map, lqs, List.take_length] at hr10
  have S10 := S9.trans s10
  cases os with
  | nil =>
    have := (eperm (hopeL (ls.map (·.2)) ss)).mpr (List.Perm.refl _)
    cases this
  | cons oa os =>
  have dps : DpAll K H10 (rs.map V.ref) (coD (fnO (ls.map (·.2)) ss oa) :: (os.map (fnO (ls.map (·.2)) ss)).map coD) := co_dps hr10
  have cal : PySem.W.AlikeAll (coD (fnO (ls.map (·.2)) ss oa) :: (os.map (fnO (ls.map (·.2)) ss)).map coD) := co_all (_ :: List.map _ os)
  have cdp : PyData.depthAll (coD (fnO (ls.map (·.2)) ss oa) :: (os.map (fnO (ls.map (·.2)) ss)).map coD) ≤ 20 := Nat.le_trans (co_depth (_ :: List.map _ os)) (by decide)
  refine ⟨D, _, _, _, rfl, SqL.of g10, dps, cal, cdp, fun i v hv hi => ?_⟩
  obtain ⟨q, hq1, rfl⟩ := getE hv
  obtain ⟨cc, hcc, hcq⟩ := paired_get hr10 hq1
  have ecc : coD cc = PySem.W.minD (coD (fnO (ls.map (·.2)) ss oa)) ((os.map (fnO (ls.map (·.2)) ss)).map coD) := by
    have e3 : (coD (fnO (ls.map (·.2)) ss oa) :: (os.map (fnO (ls.map (·.2)) ss)).map coD)[i]? = some (coD cc) := by
      have : (coD (fnO (ls.map (·.2)) ss oa) :: (os.map (fnO (ls.map (·.2)) ss)).map coD) = ((oa :: os).map (fnO (ls.map (·.2)) ss)).map coD := rfl
      rw [this, List.getElem?_map, hcc]
      rfl
    rw [e3] at hi
    exact Option.some.inj hi
  -- by the program
  have hY10 := hY.same S10
  refine ⟨_, rfl, y, st, ss, es, rfl, hY10, lean, by rw [emh]; exact h4, fun H11 t1 u1 o1 s11 ht1 hu1 oi1 min1 mn1 => ?_⟩
  unfold ordersL at oi1 min1 mn1
  rw [em] at ht1 oi1 min1 mn1
  have pall : ∀ o, o ∈ ordersM 4 (hopeL (ls.map (·.2)) ss) ↔ o.Perm (hopeL (ls.map (·.2)) ss) := fun o => ⟨orders_perm 4 _ _ hnd h4, orders_all 4 _ _ hnd h4⟩
  have ec1 : cc = fnO (ls.map (·.2)) ss o1 := by
    refine coD_inj (ecc.trans ?_)
    cases hom : ordersM 4 (hopeL (ls.map (·.2)) ss) with
    | nil => rw [hom] at oi1; cases oi1
    | cons ob om =>
      rw [← mn1 ob om hom]
      refine min_same eperm fun o => ?_
      rw [← hom]
      exact pall o
  subst ec1
  have operm1 := (pall o1).mp oi1
  have o1tx : ∀ x ∈ (fnO (ls.map (·.2)) ss o1).2, PyData.strOk x = true := fun x hx => htx x (operm1.subset hx)
  have hc1 : CoAt K H11 t1 (fnO (ls.map (·.2)) ss o1) := ⟨u1, ht1, hu1⟩
  have hcq11 : CoAt K H11 q (fnO (ls.map (·.2)) ss o1) := by
    obtain ⟨u, a1, a2⟩ := hcq
    exact ⟨u, s11.sqT a1, s11.sqT a2⟩
  refine ⟨_, rfl, _, _, hc1.dp, hcq11.dp, co_shaped o1tx, co_shaped o1tx, _, rfl, ?_⟩
  refine ite_no (congrArg not (lay_self (co_shaped o1tx))) ?_
  have S11 := S10.trans s11
  -- what is told
  refine ⟨_, rfl, y, st, ss, es, rfl, hY.same S11, lean, fun DO H12 ps2 s12 nDO gDO hp2 => ?_⟩
  rw [em] at hp2
  have S12 := S11.trans s12
  have lp2 := Paired.length hp2
  have operm := orderL_perm (es := ls.map (·.2)) snd
  have olen : (orderL (ls.map (·.2)) ss).length ≤ 4 := by
    have := operm.length_eq
    rw [List.length_map] at this
    omega
  have gg12 := s12 _ _ (s11 _ _ (s10 _ _ gg9))
  have hcq12 : CoAt K H12 q (fnO (ls.map (·.2)) ss o1) := by
    obtain ⟨u, a1, a2⟩ := hcq11
    exact ⟨u, s12.sqT a1, s12.sqT a2⟩
  have fe := forced_eq (es := ls.map (·.2)) (ss := ss)
  have oin := (pall _).mpr operm
  generalize orderL (ls.map (·.2)) ss = O at hp2 lp2 operm olen fe oin
  refine ⟨_, rfl, DO, rfl, ⟨_, SqL.of gDO⟩, fun D4 hD4 => lc_it (walk_list (xs := ps2.map V.ref)) (MapP H12 D4 (O.map fun x => V.str x.1)) (MapP.zero hD4) (fun _ _ _ p => SqL.of (p.1 _ _ gDO)) ?_ ?_⟩
  · rintro i x H13 H14 hi p ⟨rfl, hx⟩
    obtain ⟨u, hu, rfl⟩ := getE hx
    obtain ⟨z, hz, hqz⟩ := paired_get hp2 hu
    refine ⟨u, _, rfl, p.1.sqT hqz, rfl, _, _, rfl, _, _, rfl, rfl, rfl, ?_⟩
    exact ⟨_, rfl, p.step hD4 (by rw [List.getElem?_map, hz]; rfl) (by rw [List.length_map]; omega) (Same.refl _)⟩
  intro H13 p13
  obtain ⟨s13, g13⟩ := p13.done (by rw [List.length_map, List.length_map, lp2])
  have e13 : (O.map fun x => V.str x.1) = (O.map (·.1)).map V.str := by rw [List.map_map]; rfl
  rw [e13] at g13
  refine ⟨D4, _, rfl, SqL.of g13, by rw [List.length_map]; omega, fun zs p14 pz sz n14 => ?_⟩
  have ez : zs = hopeL (ls.map (·.2)) ss := sorted_uniq txLe_as (sortedS_pw sz) (pasc.sublist (hope_sub _ _)) (pz.trans operm)
  subst ez
  have q14 := Same.upd_new (o := .lst ((hopeL (ls.map (·.2)) ss).map V.str)) n14
  refine ⟨_, rfl, _, _, .lst (SqL.of upd_same) (dpS _), .lst (SqL.of (q14 _ _ (s13 _ _ gg12))) (dpS _), strs_lay htx, strs_lay htx, _, rfl, ?_⟩
  refine ite_yes (lay_self (strs_lay htx)) ?_
  have s1314 := s13.trans q14
  generalize upd H13 p14 (.lst ((hopeL (ls.map (·.2)) ss).map V.str)) = H14 at s1314 ⊢
  have gDO14 := s1314 _ _ gDO
  have hp14 : Paired (StepAt K H14) ps2 O := pimp (fun v u h => s1314.sqT h) hp2
  refine ⟨_, rfl, DO, rfl, ⟨_, SqL.of gDO14⟩, fun D15 hD15 => lc_it (walk_list (xs := ps2.map V.ref)) (fun i H' => Same H14 H' ∧ ∃ vs : List V, H' D15 = some (.lst vs) ∧ vs.length = ((O.take i).filter (·.2)).length) ⟨Same.upd_new hD15, [], upd_same, rfl⟩ (fun _ _ _ p => SqL.of (p.1 _ _ gDO14)) ?_ ?_⟩
  · rintro i x H15 H16 hi ⟨s15, vs, gv, lv⟩ ⟨rfl, hx⟩
    obtain ⟨u, hu, rfl⟩ := getE hx
    obtain ⟨z, hz, hqz⟩ := paired_get hp14 hu
    have tk := take_next hz
    refine ⟨u, _, rfl, s15.sqT hqz, rfl, _, _, rfl, _, _, rfl, rfl, rfl, ⟨_, rfl, _, rfl, ?_⟩⟩
    cases cz : z.2 with
    | true =>
      refine ite_yes rfl ?_
      refine ⟨vs, gv, ?_, fun b u zz => by rw [upd_ne (ne_of_none zz hD15)]; exact s15 _ _ zz, vs ++ [.int 1], upd_same, ?_⟩
      · have a1 := List.length_filter_le (fun x : Str × Bool => x.2) (O.take i)
        rw [List.length_take] at a1
        rw [lv, sizeLine_eq]
        omega
      · rw [tk, List.filter_append, List.length_append, List.length_append, lv]
        simp [cz]
    | false =>
      refine ite_no rfl ?_
      refine ⟨s15, vs, gv, ?_⟩
      rw [tk, List.filter_append, List.length_append, lv]
      simp [cz]
  rintro H15 ⟨s15, vs, gv, lv⟩
  rw [List.length_map, lp2, List.take_length] at lv
  refine ⟨D15, _, rfl, .inl (SqL.of gv), ?_⟩
  obtain ⟨u2, hb1, hb2⟩ := hcq12
  refine ⟨_, rfl, q, _, 0, _, rfl, rfl, s15.sqT (s1314.sqT hb1), rfl, _, _, rfl, rfl, ?_⟩
  have ge : (fnO (ls.map (·.2)) ss o1).1 ≤ (vs.length : Int) := by
    have a1 := min1 _ oin
    rw [fe] at a1
    have a2 : (fnO (ls.map (·.2)) ss o1).1 = ((forcedN (ls.map (·.2)) ss o1 : Nat) : Int) := rfl
    rw [a2, lv]
    omega
  have fin : D'.rt (.bl (decide ((fnO (ls.map (·.2)) ss o1).1 ≤ (vs.length : Int)))) H15 := by
    rw [decide_eq_true ge]
    exact k _
  exact fin
end
end Half

namespace Half
open PySem PySem.Spec PyProof.Rows L2
/-! ### k75: the law -/
def spLaw (K : PySem.W.Frag) : Sp := fun vs H Q _ => ∃ (a : Addr) (ns : List Int), vs = [.ref a] ∧ SqL K H a (ns.map V.int) ∧ ns.length ≤ 63 ∧ ∀ H', Q (.bl true) H'
section
variable {P : Program} {w : World} {K : PySem.W.Frag} {mg : Str → Option Value} {base : Heap} {C CT CY CI : Addr}
theorem law_a {f : Addr} {cdv : Value} {A : Around} {outer : List Env} {sh : Shared} {H0 : Hp} {E : XK} (L : LawAll P w K mg base C CT CY CI)
    (hr : Room 9 (A.deeper (envOfC "law" (defScope sLaw) sh.heap.objs.size f cdv))) (nd : LawN.Nodup) :
    ∃ t, PSs (cxOf CX0 P w K mg base LawN "law" (defScope sLaw) f cdv A outer sh H0 E).nox (defBody sLaw) t ∧ ∀ (D' : Ends) (H : Hp) (a : Addr) (ns : List Int), SqL K H a (ns.map V.int) → ns.length ≤ 63 → (∀ H', D'.rt (.bl true) H') → t D' (L2.start LawN [.ref a]) H := by
  have r2 : Room 2 _ := hr.mono (by decide)
  have r3 : Room 3 _ := hr.mono (by decide)
  have r5 : Room 5 _ := hr.mono (by decide)
  have r8 : Room 8 _ := hr.mono (by decide)
  have hu : (A.deeper (envOfC "law" (defScope sLaw) sh.heap.objs.size f cdv)).units + 1 < cLine := by have := hr.units; omega
  obtain ⟨tG, hG, rdG⟩ := law_g (f := f) (cdv := cdv) (A := A) (outer := outer) (sh := sh) (H0 := H0) (E := E) L hr nd
  obtain ⟨tB, hB, rdB⟩ := law_b (f := f) (cdv := cdv) (A := A) (outer := outer) (sh := sh) (H0 := H0) (E := E) L hr nd
  refine ⟨_, pss_cons (ps_set (i := 1) nd rfl (Or.inl rfl) (pe_lst (pa_cons (pv 0) (pa_cons pe_int (pa_cons pe_int (pa_cons pe_int pa_nil))))))
    (pss_cons (ps_asg (pe_def L.dRin r2 rfl (pa_cons (pv 1) pa_nil)) (pg_tup rfl (pgs_cons (pg_name (i := 2) nd rfl (Or.inr rfl)) (pgs_cons (pg_name (i := 3) nd rfl (Or.inr rfl)) pgs_nil))))
    (pss_cons (ps_set (i := 4) nd rfl (Or.inl rfl) (pe_mkY L.mkY r5 rfl passL (pa_cons (pe_def L.dSto r8 rfl (pa_cons (pv 2) pa_nil)) (pa_cons (pv 3) pa_nil))))
    (pss_cons (ps_lock (ps_set (i := 6) nd rfl (Or.inl rfl) (pe_callB cr_sortedS (by rfl) L.gS (by decide +kernel) (pa_cons
      (pe_lc (own := [("_law_name", 5)]) (g := gName 5) (tt := tTest (tOp rEq (tOp (rIxT K) (tDGet (tVar 3) (tVar 5)) (tC (.int 0))) (tC (.str "unpacked")))) (te := tVar 5) rfl nd (pi_keys (pv 3)) (blkOk_by (N := LawN) (sc := defScope sLaw) (by decide +kernel))
        (fun _ _ _ _ _ => pg_name (i := 5) nd rfl (Or.inl rfl)) (fun _ _ _ _ _ => pts_one (pt_cmpR op_eq (pe_ix (ix_tup : IxR _ (rIxT K)) (pe_dget hu (pv 3) (pv 5) (fun _ _ => rfl)) pe_int (fun _ _ => rfl)) pe_str (nomark _))) (fun _ _ _ _ _ => pv 5)) pa_nil))))
    (pss_cons (ps_asg (pe_tup (pa_cons (pe_def L.dClo r3 rfl (pa_cons (pv 2) (pa_cons (pv 3) (pa_cons (pv 6) pa_nil)))) (pa_cons (pe_lst pa_nil) pa_nil))) (pg_tup rfl (pgs_cons (pg_name (i := 7) nd rfl (Or.inr rfl)) (pgs_cons (pg_name (i := 8) nd rfl (Or.inl rfl)) pgs_nil))))
    (pss_cons (ps_for PassesOwn.never rfl (pi_list (pv 6)) (pg_name (i := 5) nd rfl (Or.inr rfl)) hG) hB))))), ?_⟩
  intro D' H a ns hS0 hlen k
  refine ⟨_, rfl, (by show 4 ≤ sizeLine; decide), fun r nr => ?_⟩
  have s1 := Same.upd_new (o := .lst [.ref a, .int 0, .int 0, .int 0]) nr
  have R1 : Row K (upd H r (.lst [.ref a, .int 0, .int 0, .int 0])) r a := ⟨ns, 0, 0, 0, upd_same, s1.seq hS0, hlen, Int.le_refl 0⟩
  generalize upd H r (.lst [.ref a, .int 0, .int 0, .int 0]) = H1 at R1 ⊢
  -- what is drawn
  refine ⟨_, rfl, r, a, rfl, R1, fun t l d ls kvs ss H2 d2 ht hL gd hS hP => ⟨t, _, rfl, ht, rfl, _, _, rfl, _, _, rfl, rfl, ?_⟩⟩
  refine ⟨_, rfl, l, ls, rfl, hL, by rw [hP.len]; decide, hP.right, hP.wr, fun st es H3 em s3 hO hX => ⟨_, rfl, fun y dy ny ndy nyy => mkY_read ny ndy hO (by have := congrArg List.length em; rw [List.length_map, List.length_map, hP.len] at this; unfold Es.eds; rw [List.length_map]; omega) (s3 _ _ gd) (hS.same s3) (by have := congrArg List.length hP.sn; rw [List.length_map] at this; rw [this]; decide) (fun _ nms H4 hnm s4 hy => ?_) (fun n a1 a2 a3 => by rw [keys_same2 em, hP.bad n a1] at a2; cases a2)⟩⟩
  have S4 := s3.trans s4
  have enm : nms = ss.map (·.1) := by
    rw [keys_same2 em] at hnm
    exact hnm.uniq hP.nm
  have snd : (ss.map (·.1)).Nodup := hP.nm.nd
  have hY : SysOk K C CT CY H4 y st ss es := by
    refine ⟨?_, hO.same s4, fun e he => (hX e he).same s4, by rw [keys_same2 em]; exact hP.nm, by rw [keys_same2 em]; exact hP.ok, ?_⟩
    · rw [enm, allOf_self snd] at hy
      exact hy
    · have := congrArg List.length em
      rw [List.length_map, List.length_map, hP.len] at this
      omega
  have gd4 := S4 _ _ gd
  have hS4 := hS.same S4
  have hL4 := hL.same S4
  -- what is left
  refine ⟨d, _, gd4, trivial, fun od => ?_⟩
  have kpL : Kp K H4 (upd H4 d (.frz od (.dK kvs))) := Kp.upd gd4 (fun xs z => by cases z) (fun q xs z => by cases z)
  have gL : (upd H4 d (.frz od (.dK kvs))) d = some (.frz od (.dK kvs)) := upd_same
  have hSL := hS4.kp kpL
  have back : ∀ H', Same (upd H4 d (.frz od (.dK kvs))) H' → Same H4 (upd H' d (.dK kvs)) := fun H' S a o q => by
    by_cases c : a = d
    · rw [c, gd4] at q
      rw [c, upd_same]
      exact q
    · rw [upd_ne c]
      exact S _ _ (by rw [upd_ne c]; exact q)
  generalize upd H4 d (.frz od (.dK kvs)) = HL at gL hSL back ⊢
  refine ⟨_, rfl, d, od, rfl, .inl ⟨kvs, gL, fun D3 nD3 => lc_it (walk_keys (kvs := kvs)) (AccP HL D3 (filV (pendB ss) V.str (ss.map (·.1)))) (AccP.zero nD3 rfl) (fun i H' _ h => h.1 _ _ gL) ?_ ?_⟩⟩
  · rintro i x H5 H6 hi p ⟨rfl, k0, v0, hkv, rfl⟩
    have hk := hSL.keys
    obtain ⟨n, hn, ek⟩ : ∃ n, (ss.map (·.1))[i]? = some n ∧ k0 = Sum.inr n := by
      have e1 : (kvs.map (·.1))[i]? = some k0 := by rw [List.getElem?_map, hkv]; rfl
      rw [hk, List.getElem?_map] at e1
      obtain ⟨n, h1, h2⟩ := Option.map_eq_some_iff.mp e1
      exact ⟨n, h1, h2.symm⟩
    subst ek
    obtain ⟨s', hs'⟩ := stOf_some (List.mem_of_getElem? hn)
    obtain ⟨t5, e5, g5⟩ : ∃ t, valV kvs (.inr n) = some (.ref t) ∧ SqT K H6 t (stV s') := by
      rcases (hSL.same p.1).at n with ⟨_, w⟩ | ⟨t, s'', w1, w2, w3⟩
      · rw [hs'] at w; cases w
      · rw [hs'] at w2
        cases w2
        exact ⟨t, w1, w3⟩
    have dg5 : DGet H6 d (kV (Sum.inr n : Key)) (some (.ref t5)) := .inl ⟨kvs, .inr n, .inr ⟨od, p.1 _ _ gL⟩, rfl, e5.symm⟩
    refine ⟨rfl, _, rfl, _, rfl, d, _, rfl, dg5, t5, _, 0, _, rfl, rfl, g5, rfl, rfl, _, rfl, ?_⟩
    rw [dec_str, ← hP.pend hs']
    have kl : (ss.map (·.1)).length ≤ 40 := by rw [show ss.map (·.1) = PN4 from hP.sn]; decide
    cases c : pendB ss n with
    | true =>
      refine ite_yes rfl ?_
      exact ⟨_, rfl, p.step nD3 (filV_yes hn c) (Nat.le_trans (filV_len ..) (by omega)) (Same.refl _)⟩
    | false =>
      refine ite_no rfl ?_
      exact p.skip (filV_no hn c) (Same.refl _)
  intro H5 p5
  have g5 : H5 D3 = some (.lst ((pendL ss).map V.str)) := acc_all p5 (by rw [hSL.len, List.length_map])
  have diff := hP.diff
  have p4 : ∀ x ∈ pendL ss, x ∈ PN4 := fun x hx => by
    have := (pend_in hx).1
    rw [show ss.map (·.1) = PN4 from hP.sn] at this
    exact this
  have ptx : ∀ x ∈ pendL ss, PyData.strOk x = true := fun x hx => (pn4_ok x (p4 x hx)).1
  have pnd : (pendL ss).Nodup := snd.sublist List.filter_sublist
  have pl4 : (pendL ss).length ≤ 4 := len_sub pnd p4
  have pasc : (pendL ss).Pairwise txLe := hP.nm.asc.sublist List.filter_sublist
  refine ⟨D3, _, rfl, SqL.of g5, by omega, fun zs p6 pz sz n6 => ?_⟩
  have ez : zs = pendL ss := sorted_uniq txLe_as (sortedS_pw sz) pasc pz
  subst ez
  have q6 := Same.upd_new (o := .lst ((pendL ss).map V.str)) n6
  have S6 := p5.1.trans q6
  refine ⟨S6 _ _ gL, ?_⟩
  have n6d : p6 ≠ d := fun z => by rw [z, p5.1 _ _ gL] at n6; cases n6
  have S7 := back _ S6
  have gN : (upd (upd H5 p6 (.lst ((pendL ss).map V.str))) d (.dK kvs)) p6 = some (.lst ((pendL ss).map V.str)) := by rw [upd_ne n6d]; exact upd_same
  generalize upd (upd H5 p6 (.lst ((pendL ss).map V.str))) d (.dK kvs) = H7 at S7 gN ⊢
  -- what each needs
  refine ⟨_, rfl, _, rfl, _, rfl, l, d, p6, ls, kvs, ss, pendL ss, rfl, hL4.same S7, S7 _ _ gd4, hS4.same S7, hP, gN, pnd, p4, fun Dc gF H8 s8 hN hf => ⟨Nat.zero_le _, fun lU nU => ⟨two_le, fun tt ntt => ⟨tt, _, rfl, SqT.of upd_same, rfl, _, _, rfl, _, _, rfl, rfl, ?_⟩⟩⟩⟩
  have qa := Same.upd_new (o := .lst []) nU
  have qb := Same.upd_new (o := .tup [.ref Dc, .ref lU]) ntt
  have gU0 : (upd (upd H8 lU (.lst [])) tt (.tup [.ref Dc, .ref lU])) lU = some (.lst (([] : List Addr).map V.ref)) := qb _ _ upd_same
  have Sab := qa.trans qb
  generalize upd (upd H8 lU (.lst [])) tt (.tup [.ref Dc, .ref lU]) = H9 at gU0 Sab ⊢
  have gN8 := s8 _ _ gN
  have dtx : ∀ j, ∀ x ∈ dueF gF (pendL ss) ((pendL ss).take j), ∀ z ∈ x, PyData.strOk z = true := fun j x hx z hz => by
    rw [due_eq diff pnd pasc hf] at hx
    obtain ⟨m, _, rfl⟩ := List.mem_map.mp hx
    exact ptx z (List.mem_filter.mp hz).1
  have dln : ∀ j, (dueF gF (pendL ss) ((pendL ss).take j)).length ≤ 4 := fun j => by
    rw [due_eq diff pnd pasc hf, List.length_map]
    have := List.length_filter_le (fun n => firB n (rotL (ls.map (·.2)) ss (pendL ss) n)) ((pendL ss).take j)
    rw [List.length_take] at this
    omega
  refine ⟨_, rfl, p6, rfl, ⟨_, SqL.of (Sab _ _ gN8)⟩, ?_⟩
  refine for_it (walk_list (xs := (pendL ss).map V.str)) (fun j σ H' => Same H8 H' ∧ ∃ (ps : List Addr) (z5 z9 : Option V), H' lU = some (.lst (ps.map V.ref)) ∧ Paired (RgT H') ps (dueF gF (pendL ss) ((pendL ss).take j)) ∧ σ = [some (.ref a), some (.ref r), some (.ref l), some (.ref d), some (.ref y), z5, some (.ref p6), some (.ref Dc), some (.ref lU), z9, none, none, none, none, none, none, none, none, none]) ⟨Sab, [], none, none, gU0, .nil, rfl⟩ (fun j σ H' _ h => SqL.of (h.1 _ _ gN8)) ?_ ?_
  · rintro j x σ H10 H11 hj ⟨s10, ps, z5, z9, gU, hp, rfl⟩ ⟨rfl, hx⟩
    obtain ⟨n, hn, rfl⟩ := getE hx
    have nin := List.mem_of_getElem? hn
    refine rdG _ H8 _ Dc p6 lU (pendL ss) n gF ps _ _ _ _ _ _ _ _ _ _ _ _ _ _ _ _ s10 nU gN8 hN nin pl4 ptx gU hp (dtx j) (dln j) fun H12 ps' z9' s12 gU' hp' => ?_
    rw [grp_eq pnd hf nin, ← due_snoc hn] at hp'
    exact ⟨s12, ps', _, _, gU', hp', rfl⟩
  rintro σ H10 ⟨s10, ps, z5, z9, gU, hp, rfl⟩
  rw [List.length_map, due_eq diff pnd pasc hf, List.take_length] at hp
  have S10 := S7.trans (s8.trans s10)
  exact rdB _ H10 y st l d p6 lU ls es kvs ss gF ps _ _ _ _ _ (hY.same S10) em (hL4.same S10) (S10 _ _ gd4) (hS4.same S10) hP (s10 _ _ gN8) hf gU hp k
theorem ok_law {f c : Addr} {oc kV doc pm ct : Value} {od an : Option Addr} {osl : Array (Option Value)} (lk : K.lookup f = some ⟨oc, od, .func (PySem.W.fnOf "law" "law" (defArgs sLaw) (defBody sLaw) (defScope sLaw) .none kV doc pm an (.ref c) ct), osl⟩) (hcd : PySem.W.codeIn K (.ref c) "law" = true)
    (L : LawAll P w K mg base C CT CY CI) :
    FnOk P w K mg base CX0 10 f (PySem.W.fnOf "law" "law" (defArgs sLaw) (defBody sLaw) (defScope sLaw) .none kV doc pm an (.ref c) ct) ["_law_script"] (spLaw K) := by
  refine fn_of lk hcd scLaw (fun vs H Q E h => ?_) (fun A outer s H vs Q E hr h => ?_)
  · obtain ⟨a, ns, rfl, _⟩ := h
    rfl
  · obtain ⟨a, ns, rfl, hS, hlen, k⟩ := h
    obtain ⟨tA, hA, rdA⟩ := law_a (f := f) (cdv := .ref c) (A := A) (outer := outer) (sh := s) (H0 := H) (E := E) L hr scLaw.nd
    exact ⟨tA, hA.nox, rdA _ H a ns hS hlen k⟩
end
end Half

namespace Half
open PySem PySem.Spec PyProof.Rows L2 LamX
theorem all_mk {l : PySem.W.OpenLaw} {w : World} {K : PySem.W.Frag} {h : Heap} {mg : Str → Option Value} {fa : Addr} (X : K.In h) (G : h.Ns mainGlobals mg) (hfa : mg "law" = some (.ref fa))
    {f_word : Addr} {oc_word kV_word dc_word pm_word cd_word ct_word : Value} {od_word an_word : Option Addr} {sl_word : Array (Option Value)}
    {f_numb : Addr} {oc_numb kV_numb dc_numb pm_numb cd_numb ct_numb : Value} {od_numb an_numb : Option Addr} {sl_numb : Array (Option Value)}
    {f_asc : Addr} {oc_asc kV_asc dc_asc pm_asc cd_asc ct_asc : Value} {od_asc an_asc : Option Addr} {sl_asc : Array (Option Value)}
    {f_vers : Addr} {oc_vers kV_vers dc_vers pm_vers cd_vers ct_vers : Value} {od_vers an_vers : Option Addr} {sl_vers : Array (Option Value)}
    {f_scri : Addr} {oc_scri kV_scri dc_scri pm_scri cd_scri ct_scri : Value} {od_scri an_scri : Option Addr} {sl_scri : Array (Option Value)}
    {f_othe : Addr} {oc_othe kV_othe dc_othe pm_othe cd_othe ct_othe : Value} {od_othe an_othe : Option Addr} {sl_othe : Array (Option Value)}
    {f_pair : Addr} {oc_pair kV_pair dc_pair pm_pair cd_pair ct_pair : Value} {od_pair an_pair : Option Addr} {sl_pair : Array (Option Value)}
    {f_need : Addr} {oc_need kV_need dc_need pm_need cd_need ct_need : Value} {od_need an_need : Option Addr} {sl_need : Array (Option Value)}
    {f_wron : Addr} {oc_wron kV_wron dc_wron pm_wron cd_wron ct_wron : Value} {od_wron an_wron : Option Addr} {sl_wron : Array (Option Value)}
    {f_wi : Addr} {oc_wi kV_wi dc_wi pm_wi cd_wi ct_wi : Value} {od_wi an_wi : Option Addr} {sl_wi : Array (Option Value)}
    {f_vn : Addr} {oc_vn kV_vn dc_vn pm_vn cd_vn ct_vn : Value} {od_vn an_vn : Option Addr} {sl_vn : Array (Option Value)}
    {f_take : Addr} {oc_take kV_take dc_take pm_take cd_take ct_take : Value} {od_take an_take : Option Addr} {sl_take : Array (Option Value)}
    {f_ist : Addr} {oc_ist kV_ist dc_ist pm_ist cd_ist ct_ist : Value} {od_ist an_ist : Option Addr} {sl_ist : Array (Option Value)}
    {f_wp : Addr} {oc_wp kV_wp dc_wp pm_wp cd_wp ct_wp : Value} {od_wp an_wp : Option Addr} {sl_wp : Array (Option Value)}
    {f_eo : Addr} {oc_eo kV_eo dc_eo pm_eo cd_eo ct_eo : Value} {od_eo an_eo : Option Addr} {sl_eo : Array (Option Value)}
    {f_met : Addr} {oc_met kV_met dc_met pm_met cd_met ct_met : Value} {od_met an_met : Option Addr} {sl_met : Array (Option Value)}
    {f_pen : Addr} {oc_pen kV_pen dc_pen pm_pen cd_pen ct_pen : Value} {od_pen an_pen : Option Addr} {sl_pen : Array (Option Value)}
    {f_wm : Addr} {oc_wm kV_wm dc_wm pm_wm cd_wm ct_wm : Value} {od_wm an_wm : Option Addr} {sl_wm : Array (Option Value)}
    {f_lk : Addr} {oc_lk kV_lk dc_lk pm_lk cd_lk ct_lk : Value} {od_lk an_lk : Option Addr} {sl_lk : Array (Option Value)}
    {f_ho : Addr} {oc_ho kV_ho dc_ho pm_ho cd_ho ct_ho : Value} {od_ho an_ho : Option Addr} {sl_ho : Array (Option Value)}
    {f_hl : Addr} {oc_hl kV_hl dc_hl pm_hl cd_hl ct_hl : Value} {od_hl an_hl : Option Addr} {sl_hl : Array (Option Value)}
    {f_sor : Addr} {oc_sor kV_sor dc_sor pm_sor cd_sor ct_sor : Value} {od_sor an_sor : Option Addr} {sl_sor : Array (Option Value)}
    {f_ao : Addr} {oc_ao kV_ao dc_ao pm_ao cd_ao ct_ao : Value} {od_ao an_ao : Option Addr} {sl_ao : Array (Option Value)}
    {f_fc : Addr} {oc_fc kV_fc dc_fc pm_fc cd_fc ct_fc : Value} {od_fc an_fc : Option Addr} {sl_fc : Array (Option Value)}
    {f_ff : Addr} {oc_ff kV_ff dc_ff pm_ff cd_ff ct_ff : Value} {od_ff an_ff : Option Addr} {sl_ff : Array (Option Value)}
    {f_nb : Addr} {oc_nb kV_nb dc_nb pm_nb cd_nb ct_nb : Value} {od_nb an_nb : Option Addr} {sl_nb : Array (Option Value)}
    {f_rg : Addr} {oc_rg kV_rg dc_rg pm_rg cd_rg ct_rg : Value} {od_rg an_rg : Option Addr} {sl_rg : Array (Option Value)}
    {f_lsr : Addr} {oc_lsr kV_lsr dc_lsr pm_lsr cd_lsr ct_lsr : Value} {od_lsr an_lsr : Option Addr} {sl_lsr : Array (Option Value)}
    {f_rin : Addr} {oc_rin kV_rin dc_rin pm_rin cd_rin ct_rin : Value} {od_rin an_rin : Option Addr} {sl_rin : Array (Option Value)}
    {f_can : Addr} {oc_can kV_can dc_can pm_can cd_can ct_can : Value} {od_can an_can : Option Addr} {sl_can : Array (Option Value)}
    {f_clo : Addr} {oc_clo kV_clo dc_clo pm_clo cd_clo ct_clo : Value} {od_clo an_clo : Option Addr} {sl_clo : Array (Option Value)}
    {f_for : Addr} {oc_for kV_for dc_for pm_for cd_for ct_for : Value} {od_for an_for : Option Addr} {sl_for : Array (Option Value)}
    {f_law cLaw : Addr} {oc_law kV_law dc_law pm_law ct_law : Value} {od_law an_law : Option Addr} {sl_law : Array (Option Value)}
    {C : Addr}
    {CT : Addr}
    {CY : Addr}
    {c0 : Addr}
    {c1 : Addr}
    {c2 : Addr}
    {c4 : Addr}
    {c5 : Addr}
    {nmc0 qc0 : Str} {Nc0 : Addr} {bsc0 bmc0 : List Value} {snc0 : List Str} {subc0 : List Value} {abc0 : Bool} {colc0 : Option Bool} {ddc0 : Option Addr} {k0c0 k1c0 k2c0 k3c0 k5c0 : Option Value}
    {f_ie : Addr}
    {oc_ie kV_ie dc_ie pm_ie ct_ie : Value} {od_ie an_ie : Option Addr} {cdI_ie ccI_ie : Addr} {sl_ie : Array (Option Value)} {cclI_ie : Value} {cddI_ie : Option Addr} {vsI_ie : Array Value} {ccsI_ie : Array (Option Value)} {fileI_ie : Str} {tfI_ie : Tok} {clI_ie : Value} {cldI_ie : Option Addr} {cslI_ie : Array (Option Value)}
    {nmc1 qc1 : Str} {Nc1 : Addr} {bsc1 bmc1 : List Value} {snc1 : List Str} {subc1 : List Value} {abc1 : Bool} {colc1 : Option Bool} {ddc1 : Option Addr} {k0c1 k1c1 k2c1 k3c1 k5c1 : Option Value}
    {f_is : Addr}
    {oc_is kV_is dc_is pm_is ct_is : Value} {od_is an_is : Option Addr} {cdI_is ccI_is : Addr} {sl_is : Array (Option Value)} {cclI_is : Value} {cddI_is : Option Addr} {vsI_is : Array Value} {ccsI_is : Array (Option Value)} {fileI_is : Str} {tfI_is : Tok} {clI_is : Value} {cldI_is : Option Addr} {cslI_is : Array (Option Value)}
    {nmc2 qc2 : Str} {Nc2 : Addr} {bsc2 bmc2 : List Value} {snc2 : List Str} {subc2 : List Value} {abc2 : Bool} {colc2 : Option Bool} {ddc2 : Option Addr} {k0c2 k1c2 k2c2 k3c2 k5c2 : Option Value}
    {f_iy : Addr}
    {oc_iy kV_iy dc_iy pm_iy ct_iy : Value} {od_iy an_iy : Option Addr} {cdI_iy ccI_iy : Addr} {sl_iy : Array (Option Value)} {cclI_iy : Value} {cddI_iy : Option Addr} {vsI_iy : Array Value} {ccsI_iy : Array (Option Value)} {fileI_iy : Str} {tfI_iy : Tok} {clI_iy : Value} {cldI_iy : Option Addr} {cslI_iy : Array (Option Value)}
    {tLet : Tok} {aS : Addr}
    {t_lon : Tok}
    {t_lv : Tok}
    {t_mv : Tok}
    {t_me : Tok}
    {t_mn : Tok}
    {f_ei kD : Addr} {oc_ei dc_ei pm_ei cd_ei ct_ei : Value} {od_ei an_ei : Option Addr} {sl_ei : Array (Option Value)}
    {z1 z2 z3 : Addr}
    {ddS dd1 dd2 dd3 : Option Addr} {q0 q1 q2 q3 : Tok} {nS n1 n2 n3 : Nat} {slS sl1 sl2 sl3 : Array (Option Value)}
    {p_g0 : Addr} {rest_g0 : List Value}
    {f_g0 : Addr} {oc_g0 kV_g0 dc_g0 pm_g0 cd_g0 ct_g0 : Value} {od_g0 an_g0 : Option Addr} {sl_g0 : Array (Option Value)}
    {p_g1 : Addr} {rest_g1 : List Value}
    {f_g1 : Addr} {oc_g1 kV_g1 dc_g1 pm_g1 cd_g1 ct_g1 : Value} {od_g1 an_g1 : Option Addr} {sl_g1 : Array (Option Value)}
    {p_g2 : Addr} {rest_g2 : List Value}
    {f_g2 : Addr} {oc_g2 kV_g2 dc_g2 pm_g2 cd_g2 ct_g2 : Value} {od_g2 an_g2 : Option Addr} {sl_g2 : Array (Option Value)}
    {p_g3 : Addr} {rest_g3 : List Value}
    {f_g3 : Addr} {oc_g3 kV_g3 dc_g3 pm_g3 cd_g3 ct_g3 : Value} {od_g3 an_g3 : Option Addr} {sl_g3 : Array (Option Value)}
    {p_g4 : Addr} {rest_g4 : List Value}
    {f_g4 : Addr} {oc_g4 kV_g4 dc_g4 pm_g4 cd_g4 ct_g4 : Value} {od_g4 an_g4 : Option Addr} {sl_g4 : Array (Option Value)}
    {p_g5 : Addr} {rest_g5 : List Value}
    {f_g5 : Addr} {oc_g5 kV_g5 dc_g5 pm_g5 cd_g5 ct_g5 : Value} {od_g5 an_g5 : Option Addr} {sl_g5 : Array (Option Value)}
    {f_eq : Addr} {oc_eq kV_eq dc_eq pm_eq cd_eq ct_eq : Value} {od_eq an_eq : Option Addr} {sl_eq : Array (Option Value)}
    {nmC qC : Str} {NC : Addr} {bsC : List Value} {hdC : Bool} {snC : List Str} {subC : List Value} {abC : Bool} {colC : Option Bool} {ddC : Option Addr} {k0C k1C k2C k3C k5C : Option Value} {newC : String}
    {f_si : Addr} {oc_si kV_si dc_si pm_si cd_si ct_si : Value} {od_si an_si : Option Addr} {sl_si : Array (Option Value)}
    {p_sn : Addr} {rest_sn : List Value}
    {f_sn : Addr} {oc_sn kV_sn dc_sn pm_sn cd_sn ct_sn : Value} {od_sn an_sn : Option Addr} {sl_sn : Array (Option Value)}
    {f_sv : Addr} {oc_sv kV_sv dc_sv pm_sv cd_sv ct_sv : Value} {od_sv an_sv : Option Addr} {sl_sv : Array (Option Value)}
    {f_sl : Addr} {oc_sl kV_sl dc_sl pm_sl cd_sl ct_sl : Value} {od_sl an_sl : Option Addr} {sl_sl : Array (Option Value)}
    {f_sh : Addr} {oc_sh kV_sh dc_sh pm_sh cd_sh ct_sh : Value} {od_sh an_sh : Option Addr} {sl_sh : Array (Option Value)}
    {f_sg : Addr} {oc_sg kV_sg dc_sg pm_sg cd_sg ct_sg : Value} {od_sg an_sg : Option Addr} {sl_sg : Array (Option Value)}
    {f_yi : Addr} {oc_yi kV_yi dc_yi pm_yi cd_yi ct_yi : Value} {od_yi an_yi : Option Addr} {sl_yi : Array (Option Value)}
    {p_ys : Addr} {rest_ys : List Value}
    {f_ys : Addr} {oc_ys kV_ys dc_ys pm_ys cd_ys ct_ys : Value} {od_ys an_ys : Option Addr} {sl_ys : Array (Option Value)}
    {p_yt : Addr} {rest_yt : List Value}
    {f_yt : Addr} {oc_yt kV_yt dc_yt pm_yt cd_yt ct_yt : Value} {od_yt an_yt : Option Addr} {sl_yt : Array (Option Value)}
    {f_yg : Addr} {oc_yg kV_yg dc_yg pm_yg cd_yg ct_yg : Value} {od_yg an_yg : Option Addr} {sl_yg : Array (Option Value)}
    {aA : Addr} {ddA : Option Addr} {b0 b1 b2 : Tok} {nA : Nat} {slA : Array (Option Value)}
    {aZ : Addr} {ddZ : Option Addr} {e0 e1 e2 e3 e4 e5 : Tok} {nZ : Nat} {slZ : Array (Option Value)}
    {aPn : Addr} {ddPn : Option Addr} {w0 w1 : Tok} {nPn : Nat} {slPn : Array (Option Value)}
    (n_int : PySem.W.nsIn K mainGlobals "int" = some none)
    (n_len : PySem.W.nsIn K mainGlobals "len" = some none)
    (n_isinstance : PySem.W.nsIn K mainGlobals "isinstance" = some none)
    (n_str : PySem.W.nsIn K mainGlobals "str" = some none)
    (n_bool : PySem.W.nsIn K mainGlobals "bool" = some none)
    (n_tuple : PySem.W.nsIn K mainGlobals "tuple" = some none)
    (n_all : PySem.W.nsIn K mainGlobals "all" = some none)
    (n_range : PySem.W.nsIn K mainGlobals "range" = some none)
    (n_ValueError : PySem.W.nsIn K mainGlobals "ValueError" = some none)
    (n_super : PySem.W.nsIn K mainGlobals "super" = some none)
    (n_set : PySem.W.nsIn K mainGlobals "set" = some none)
    (n_sorted : PySem.W.nsIn K mainGlobals "sorted" = some none)
    (n_list : PySem.W.nsIn K mainGlobals "list" = some none)
    (n_enumerate : PySem.W.nsIn K mainGlobals "enumerate" = some none)
    (n_dict : PySem.W.nsIn K mainGlobals "dict" = some none)
    (n_any : PySem.W.nsIn K mainGlobals "any" = some none)
    (n_min : PySem.W.nsIn K mainGlobals "min" = some none)
    (a_word : PySem.W.nsIn K mainGlobals "is_word" = some (some (.ref f_word)))
    (l_word : K.lookup f_word = some ⟨oc_word, od_word, .func (PySem.W.fnOf "is_word" "is_word" (defArgs sWord) (defBody sWord) (defScope sWord) .none kV_word dc_word pm_word an_word cd_word ct_word), sl_word⟩)
    (c_word : PySem.W.codeIn K cd_word "is_word" = true)
    (k_word : PySem.W.keepIn K (.ref f_word) = true)
    (a_numb : PySem.W.nsIn K mainGlobals "is_number" = some (some (.ref f_numb)))
    (l_numb : K.lookup f_numb = some ⟨oc_numb, od_numb, .func (PySem.W.fnOf "is_number" "is_number" (defArgs sNumber) (defBody sNumber) (defScope sNumber) .none kV_numb dc_numb pm_numb an_numb cd_numb ct_numb), sl_numb⟩)
    (c_numb : PySem.W.codeIn K cd_numb "is_number" = true)
    (k_numb : PySem.W.keepIn K (.ref f_numb) = true)
    (a_asc : PySem.W.nsIn K mainGlobals "ascends" = some (some (.ref f_asc)))
    (l_asc : K.lookup f_asc = some ⟨oc_asc, od_asc, .func (PySem.W.fnOf "ascends" "ascends" (defArgs sAscends) (defBody sAscends) (defScope sAscends) .none kV_asc dc_asc pm_asc an_asc cd_asc ct_asc), sl_asc⟩)
    (c_asc : PySem.W.codeIn K cd_asc "ascends" = true)
    (k_asc : PySem.W.keepIn K (.ref f_asc) = true)
    (a_vers : PySem.W.nsIn K mainGlobals "is_version" = some (some (.ref f_vers)))
    (l_vers : K.lookup f_vers = some ⟨oc_vers, od_vers, .func (PySem.W.fnOf "is_version" "is_version" (defArgs sVersion) (defBody sVersion) (defScope sVersion) .none kV_vers dc_vers pm_vers an_vers cd_vers ct_vers), sl_vers⟩)
    (c_vers : PySem.W.codeIn K cd_vers "is_version" = true)
    (k_vers : PySem.W.keepIn K (.ref f_vers) = true)
    (a_scri : PySem.W.nsIn K mainGlobals "are_scripts" = some (some (.ref f_scri)))
    (l_scri : K.lookup f_scri = some ⟨oc_scri, od_scri, .func (PySem.W.fnOf "are_scripts" "are_scripts" (defArgs sScripts) (defBody sScripts) (defScope sScripts) .none kV_scri dc_scri pm_scri an_scri cd_scri ct_scri), sl_scri⟩)
    (c_scri : PySem.W.codeIn K cd_scri "are_scripts" = true)
    (k_scri : PySem.W.keepIn K (.ref f_scri) = true)
    (a_othe : PySem.W.nsIn K mainGlobals "are_other_names" = some (some (.ref f_othe)))
    (l_othe : K.lookup f_othe = some ⟨oc_othe, od_othe, .func (PySem.W.fnOf "are_other_names" "are_other_names" (defArgs sOthers) (defBody sOthers) (defScope sOthers) .none kV_othe dc_othe pm_othe an_othe cd_othe ct_othe), sl_othe⟩)
    (c_othe : PySem.W.codeIn K cd_othe "are_other_names" = true)
    (k_othe : PySem.W.keepIn K (.ref f_othe) = true)
    (a_pair : PySem.W.nsIn K mainGlobals "is_pair_with_version" = some (some (.ref f_pair)))
    (l_pair : K.lookup f_pair = some ⟨oc_pair, od_pair, .func (PySem.W.fnOf "is_pair_with_version" "is_pair_with_version" (defArgs sPair) (defBody sPair) (defScope sPair) .none kV_pair dc_pair pm_pair an_pair cd_pair ct_pair), sl_pair⟩)
    (c_pair : PySem.W.codeIn K cd_pair "is_pair_with_version" = true)
    (k_pair : PySem.W.keepIn K (.ref f_pair) = true)
    (a_need : PySem.W.nsIn K mainGlobals "are_needs" = some (some (.ref f_need)))
    (l_need : K.lookup f_need = some ⟨oc_need, od_need, .func (PySem.W.fnOf "are_needs" "are_needs" (defArgs sNeeds) (defBody sNeeds) (defScope sNeeds) .none kV_need dc_need pm_need an_need cd_need ct_need), sl_need⟩)
    (c_need : PySem.W.codeIn K cd_need "are_needs" = true)
    (k_need : PySem.W.keepIn K (.ref f_need) = true)
    (a_wron : PySem.W.nsIn K mainGlobals "wrong_part" = some (some (.ref f_wron)))
    (l_wron : K.lookup f_wron = some ⟨oc_wron, od_wron, .func (PySem.W.fnOf "wrong_part" "wrong_part" (defArgs sWrong) (defBody sWrong) (defScope sWrong) .none kV_wron dc_wron pm_wron an_wron cd_wron ct_wron), sl_wron⟩)
    (c_wron : PySem.W.codeIn K cd_wron "wrong_part" = true)
    (k_wron : PySem.W.keepIn K (.ref f_wron) = true)
    (a_wi : PySem.W.nsIn K mainGlobals "wrong_index" = some (some (.ref f_wi)))
    (l_wi : K.lookup f_wi = some ⟨oc_wi, od_wi, .func (PySem.W.fnOf "wrong_index" "wrong_index" (defArgs sWi) (defBody sWi) (defScope sWi) .none kV_wi dc_wi pm_wi an_wi cd_wi ct_wi), sl_wi⟩)
    (c_wi : PySem.W.codeIn K cd_wi "wrong_index" = true)
    (k_wi : PySem.W.keepIn K (.ref f_wi) = true)
    (a_vn : PySem.W.nsIn K mainGlobals "versions_by_name" = some (some (.ref f_vn)))
    (l_vn : K.lookup f_vn = some ⟨oc_vn, od_vn, .func (PySem.W.fnOf "versions_by_name" "versions_by_name" (defArgs sVn) (defBody sVn) (defScope sVn) .none kV_vn dc_vn pm_vn an_vn cd_vn ct_vn), sl_vn⟩)
    (c_vn : PySem.W.codeIn K cd_vn "versions_by_name" = true)
    (k_vn : PySem.W.keepIn K (.ref f_vn) = true)
    (a_take : PySem.W.nsIn K mainGlobals "_law_taken" = some (some (.ref f_take)))
    (l_take : K.lookup f_take = some ⟨oc_take, od_take, .func (PySem.W.fnOf "_law_taken" "_law_taken" (defArgs sTaken) (defBody sTaken) (defScope sTaken) .none kV_take dc_take pm_take an_take cd_take ct_take), sl_take⟩)
    (c_take : PySem.W.codeIn K cd_take "_law_taken" = true)
    (k_take : PySem.W.keepIn K (.ref f_take) = true)
    (a_ist : PySem.W.nsIn K mainGlobals "is_state" = some (some (.ref f_ist)))
    (l_ist : K.lookup f_ist = some ⟨oc_ist, od_ist, .func (PySem.W.fnOf "is_state" "is_state" (defArgs sIst) (defBody sIst) (defScope sIst) .none kV_ist dc_ist pm_ist an_ist cd_ist ct_ist), sl_ist⟩)
    (c_ist : PySem.W.codeIn K cd_ist "is_state" = true)
    (k_ist : PySem.W.keepIn K (.ref f_ist) = true)
    (a_wp : PySem.W.nsIn K mainGlobals "wrong_package" = some (some (.ref f_wp)))
    (l_wp : K.lookup f_wp = some ⟨oc_wp, od_wp, .func (PySem.W.fnOf "wrong_package" "wrong_package" (defArgs sWp) (defBody sWp) (defScope sWp) .none kV_wp dc_wp pm_wp an_wp cd_wp ct_wp), sl_wp⟩)
    (c_wp : PySem.W.codeIn K cd_wp "wrong_package" = true)
    (k_wp : PySem.W.keepIn K (.ref f_wp) = true)
    (a_eo : PySem.W.nsIn K mainGlobals "edition_of" = some (some (.ref f_eo)))
    (l_eo : K.lookup f_eo = some ⟨oc_eo, od_eo, .func (PySem.W.fnOf "edition_of" "edition_of" (defArgs sEo) (defBody sEo) (defScope sEo) .none kV_eo dc_eo pm_eo an_eo cd_eo ct_eo), sl_eo⟩)
    (c_eo : PySem.W.codeIn K cd_eo "edition_of" = true)
    (k_eo : PySem.W.keepIn K (.ref f_eo) = true)
    (a_met : PySem.W.nsIn K mainGlobals "is_met" = some (some (.ref f_met)))
    (l_met : K.lookup f_met = some ⟨oc_met, od_met, .func (PySem.W.fnOf "is_met" "is_met" (defArgs sMet) (defBody sMet) (defScope sMet) .none kV_met dc_met pm_met an_met cd_met ct_met), sl_met⟩)
    (c_met : PySem.W.codeIn K cd_met "is_met" = true)
    (k_met : PySem.W.keepIn K (.ref f_met) = true)
    (a_pen : PySem.W.nsIn K mainGlobals "pending" = some (some (.ref f_pen)))
    (l_pen : K.lookup f_pen = some ⟨oc_pen, od_pen, .func (PySem.W.fnOf "pending" "pending" (defArgs sPen) (defBody sPen) (defScope sPen) .none kV_pen dc_pen pm_pen an_pen cd_pen ct_pen), sl_pen⟩)
    (c_pen : PySem.W.codeIn K cd_pen "pending" = true)
    (k_pen : PySem.W.keepIn K (.ref f_pen) = true)
    (a_wm : PySem.W.nsIn K mainGlobals "would_meet" = some (some (.ref f_wm)))
    (l_wm : K.lookup f_wm = some ⟨oc_wm, od_wm, .func (PySem.W.fnOf "would_meet" "would_meet" (defArgs sWm) (defBody sWm) (defScope sWm) .none kV_wm dc_wm pm_wm an_wm cd_wm ct_wm), sl_wm⟩)
    (c_wm : PySem.W.codeIn K cd_wm "would_meet" = true)
    (k_wm : PySem.W.keepIn K (.ref f_wm) = true)
    (a_lk : PySem.W.nsIn K mainGlobals "lacks" = some (some (.ref f_lk)))
    (l_lk : K.lookup f_lk = some ⟨oc_lk, od_lk, .func (PySem.W.fnOf "lacks" "lacks" (defArgs sLk) (defBody sLk) (defScope sLk) .none kV_lk dc_lk pm_lk an_lk cd_lk ct_lk), sl_lk⟩)
    (c_lk : PySem.W.codeIn K cd_lk "lacks" = true)
    (k_lk : PySem.W.keepIn K (.ref f_lk) = true)
    (a_ho : PySem.W.nsIn K mainGlobals "hopeful" = some (some (.ref f_ho)))
    (l_ho : K.lookup f_ho = some ⟨oc_ho, od_ho, .func (PySem.W.fnOf "hopeful" "hopeful" (defArgs sHo) (defBody sHo) (defScope sHo) .none kV_ho dc_ho pm_ho an_ho cd_ho ct_ho), sl_ho⟩)
    (c_ho : PySem.W.codeIn K cd_ho "hopeful" = true)
    (k_ho : PySem.W.keepIn K (.ref f_ho) = true)
    (a_hl : PySem.W.nsIn K mainGlobals "hopeless" = some (some (.ref f_hl)))
    (l_hl : K.lookup f_hl = some ⟨oc_hl, od_hl, .func (PySem.W.fnOf "hopeless" "hopeless" (defArgs sHl) (defBody sHl) (defScope sHl) .none kV_hl dc_hl pm_hl an_hl cd_hl ct_hl), sl_hl⟩)
    (c_hl : PySem.W.codeIn K cd_hl "hopeless" = true)
    (k_hl : PySem.W.keepIn K (.ref f_hl) = true)
    (a_sor : PySem.W.nsIn K mainGlobals "setup_order" = some (some (.ref f_sor)))
    (l_sor : K.lookup f_sor = some ⟨oc_sor, od_sor, .func (PySem.W.fnOf "setup_order" "setup_order" (defArgs sSor) (defBody sSor) (defScope sSor) .none kV_sor dc_sor pm_sor an_sor cd_sor ct_sor), sl_sor⟩)
    (c_sor : PySem.W.codeIn K cd_sor "setup_order" = true)
    (k_sor : PySem.W.keepIn K (.ref f_sor) = true)
    (a_ao : PySem.W.nsIn K mainGlobals "all_orders" = some (some (.ref f_ao)))
    (l_ao : K.lookup f_ao = some ⟨oc_ao, od_ao, .func (PySem.W.fnOf "all_orders" "all_orders" (defArgs sAo) (defBody sAo) (defScope sAo) .none kV_ao dc_ao pm_ao an_ao cd_ao ct_ao), sl_ao⟩)
    (c_ao : PySem.W.codeIn K cd_ao "all_orders" = true)
    (k_ao : PySem.W.keepIn K (.ref f_ao) = true)
    (a_fc : PySem.W.nsIn K mainGlobals "forced_count" = some (some (.ref f_fc)))
    (l_fc : K.lookup f_fc = some ⟨oc_fc, od_fc, .func (PySem.W.fnOf "forced_count" "forced_count" (defArgs sFc) (defBody sFc) (defScope sFc) .none kV_fc dc_fc pm_fc an_fc cd_fc ct_fc), sl_fc⟩)
    (c_fc : PySem.W.codeIn K cd_fc "forced_count" = true)
    (k_fc : PySem.W.keepIn K (.ref f_fc) = true)
    (a_ff : PySem.W.nsIn K mainGlobals "fewest_forced" = some (some (.ref f_ff)))
    (l_ff : K.lookup f_ff = some ⟨oc_ff, od_ff, .func (PySem.W.fnOf "fewest_forced" "fewest_forced" (defArgs sFf) (defBody sFf) (defScope sFf) .none kV_ff dc_ff pm_ff an_ff cd_ff ct_ff), sl_ff⟩)
    (c_ff : PySem.W.codeIn K cd_ff "fewest_forced" = true)
    (k_ff : PySem.W.keepIn K (.ref f_ff) = true)
    (a_nb : PySem.W.nsIn K mainGlobals "needed_by" = some (some (.ref f_nb)))
    (l_nb : K.lookup f_nb = some ⟨oc_nb, od_nb, .func (PySem.W.fnOf "needed_by" "needed_by" (defArgs sNb) (defBody sNb) (defScope sNb) .none kV_nb dc_nb pm_nb an_nb cd_nb ct_nb), sl_nb⟩)
    (c_nb : PySem.W.codeIn K cd_nb "needed_by" = true)
    (k_nb : PySem.W.keepIn K (.ref f_nb) = true)
    (a_rg : PySem.W.nsIn K mainGlobals "rings" = some (some (.ref f_rg)))
    (l_rg : K.lookup f_rg = some ⟨oc_rg, od_rg, .func (PySem.W.fnOf "rings" "rings" (defArgs sRg) (defBody sRg) (defScope sRg) .none kV_rg dc_rg pm_rg an_rg cd_rg ct_rg), sl_rg⟩)
    (c_rg : PySem.W.codeIn K cd_rg "rings" = true)
    (k_rg : PySem.W.keepIn K (.ref f_rg) = true)
    (a_lsr : PySem.W.nsIn K mainGlobals "_law_store" = some (some (.ref f_lsr)))
    (l_lsr : K.lookup f_lsr = some ⟨oc_lsr, od_lsr, .func (PySem.W.fnOf "_law_store" "_law_store" (defArgs sLsr) (defBody sLsr) (defScope sLsr) .none kV_lsr dc_lsr pm_lsr an_lsr cd_lsr ct_lsr), sl_lsr⟩)
    (c_lsr : PySem.W.codeIn K cd_lsr "_law_store" = true)
    (k_lsr : PySem.W.keepIn K (.ref f_lsr) = true)
    (a_rin : PySem.W.nsIn K mainGlobals "_law_ringed" = some (some (.ref f_rin)))
    (l_rin : K.lookup f_rin = some ⟨oc_rin, od_rin, .func (PySem.W.fnOf "_law_ringed" "_law_ringed" (defArgs sRin) (defBody sRin) (defScope sRin) .none kV_rin dc_rin pm_rin an_rin cd_rin ct_rin), sl_rin⟩)
    (c_rin : PySem.W.codeIn K cd_rin "_law_ringed" = true)
    (k_rin : PySem.W.keepIn K (.ref f_rin) = true)
    (a_can : PySem.W.nsIn K mainGlobals "_law_can" = some (some (.ref f_can)))
    (l_can : K.lookup f_can = some ⟨oc_can, od_can, .func (PySem.W.fnOf "_law_can" "_law_can" (defArgs sCan) (defBody sCan) (defScope sCan) .none kV_can dc_can pm_can an_can cd_can ct_can), sl_can⟩)
    (c_can : PySem.W.codeIn K cd_can "_law_can" = true)
    (k_can : PySem.W.keepIn K (.ref f_can) = true)
    (a_clo : PySem.W.nsIn K mainGlobals "_law_closed" = some (some (.ref f_clo)))
    (l_clo : K.lookup f_clo = some ⟨oc_clo, od_clo, .func (PySem.W.fnOf "_law_closed" "_law_closed" (defArgs sClo) (defBody sClo) (defScope sClo) .none kV_clo dc_clo pm_clo an_clo cd_clo ct_clo), sl_clo⟩)
    (c_clo : PySem.W.codeIn K cd_clo "_law_closed" = true)
    (k_clo : PySem.W.keepIn K (.ref f_clo) = true)
    (a_for : PySem.W.nsIn K mainGlobals "_law_forced" = some (some (.ref f_for)))
    (l_for : K.lookup f_for = some ⟨oc_for, od_for, .func (PySem.W.fnOf "_law_forced" "_law_forced" (defArgs sFor) (defBody sFor) (defScope sFor) .none kV_for dc_for pm_for an_for cd_for ct_for), sl_for⟩)
    (c_for : PySem.W.codeIn K cd_for "_law_forced" = true)
    (k_for : PySem.W.keepIn K (.ref f_for) = true)
    (a_law : PySem.W.nsIn K mainGlobals "law" = some (some (.ref f_law)))
    (l_law : K.lookup f_law = some ⟨oc_law, od_law, .func (PySem.W.fnOf "law" "law" (defArgs sLaw) (defBody sLaw) (defScope sLaw) .none kV_law dc_law pm_law an_law (.ref cLaw) ct_law), sl_law⟩)
    (c_law : PySem.W.codeIn K (.ref cLaw) "law" = true)
    (k_law : PySem.W.keepIn K (.ref f_law) = true)
    (g_C : PySem.W.nsIn K mainGlobals "Edition" = some (some (.ref C)))
    (g_CT : PySem.W.nsIn K mainGlobals "Store" = some (some (.ref CT)))
    (g_CY : PySem.W.nsIn K mainGlobals "System" = some (some (.ref CY)))
    (pg_C : PySem.W.plainGet K C Str.empty = true)
    (hd_C : PySem.W.hasDictIn K C = true)
    (po_C : PySem.W.plainOver K C = true)
    (sa_C : PySem.W.findIn K (.ref C) "__setattr__" = some (some (.builtin "object.__setattr__")))
    (ha_C : PySem.W.findIn K (.ref C) "__class__" = some (some (.builtin "object.__class__")))
    (hm_C : PySem.W.mroIn K C (.type "object") = some true)
    (ki_C : PySem.W.kitOne K (.ref C) (.ref C) = some true)
    (hn : PySem.W.specialIn K (.builtin "object.__class__") "__get__" = some (some (.builtin "getset_descriptor.__get__")))
    (ht : PySem.W.takesIn K (.builtin "object.__class__") = some true)
    (pg_CT : PySem.W.plainGet K CT Str.empty = true)
    (hd_CT : PySem.W.hasDictIn K CT = true)
    (po_CT : PySem.W.plainOver K CT = true)
    (sa_CT : PySem.W.findIn K (.ref CT) "__setattr__" = some (some (.builtin "object.__setattr__")))
    (ha_CT : PySem.W.findIn K (.ref CT) "__class__" = some (some (.builtin "object.__class__")))
    (hm_CT : PySem.W.mroIn K CT (.type "object") = some true)
    (ki_CT : PySem.W.kitOne K (.ref CT) (.ref CT) = some true)
    (pg_CY : PySem.W.plainGet K CY Str.empty = true)
    (hd_CY : PySem.W.hasDictIn K CY = true)
    (po_CY : PySem.W.plainOver K CY = true)
    (sa_CY : PySem.W.findIn K (.ref CY) "__setattr__" = some (some (.builtin "object.__setattr__")))
    (ha_CY : PySem.W.findIn K (.ref CY) "__class__" = some (some (.builtin "object.__class__")))
    (hm_CY : PySem.W.mroIn K CY (.type "object") = some true)
    (ki_CY : PySem.W.kitOne K (.ref CY) (.ref CY) = some true)
    (g_c0 : PySem.W.nsIn K mainGlobals "InvalidEdition" = some (some (.ref c0)))
    (g_c1 : PySem.W.nsIn K mainGlobals "InvalidStore" = some (some (.ref c1)))
    (g_c2 : PySem.W.nsIn K mainGlobals "InvalidSystem" = some (some (.ref c2)))
    (g_c4 : PySem.W.nsIn K mainGlobals "UnknownEdition" = some (some (.ref c4)))
    (g_c5 : PySem.W.nsIn K mainGlobals "UnknownName" = some (some (.ref c5)))
    (ex_c0 : PySem.W.subIn K (.ref c0) (.type "BaseException") = some true)
    (nf_c0 : PySem.W.findIn K (.ref c0) "part" = some none)
    (ex_c1 : PySem.W.subIn K (.ref c1) (.type "BaseException") = some true)
    (nf_c1 : PySem.W.findIn K (.ref c1) "index" = some none)
    (ex_c2 : PySem.W.subIn K (.ref c2) (.type "BaseException") = some true)
    (nf_c2 : PySem.W.findIn K (.ref c2) "package" = some none)
    (ocl_c0 : K.lookup c0 = some (excClassObj nmc0 qc0 c0 Nc0 bsc0 bmc0 true snc0 subc0 abc0 colc0 ddc0 k0c0 k1c0 k2c0 k3c0 k5c0 "ValueError.__new__"))
    (ove_c0 : PySem.HandSPX.refsVE bmc0 = true)
    (osa_c0 : PySem.W.findIn K (.ref c0) "__setattr__" = some (some (.builtin "object.__setattr__")))
    (oty_c0 : PySem.W.typeIn K (.ref c0) = some (.type "type"))
    (okc_c0 : PySem.W.keepIn K (.ref c0) = true)
    (osb_c0 : PySem.W.mroIn K c0 (.ref c0) = some true)
    (osu_c0 : PySem.W.ks_superIn K c0 c0 "__init__" = some (some (.builtin "ValueError.__init__")))
    (osv_c0 : PySem.W.subIn K (.ref c0) (.type "ValueError") = some true)
    (o_op : PySem.W.nsIn K cStatics "thirdparty.any" = some none)
    (o_top : (l.prog.main.scope.names.lookup ("super" : Str)).isSome = false)
    (a_ie : PySem.W.findIn K (.ref c0) "__init__" = some (some (.ref f_ie)))
    (y_ie : PySem.W.typeIn K (.ref f_ie) = some (.type "function"))
    (l_ie : K.lookup f_ie = some ⟨oc_ie, od_ie, .func (PySem.W.ksFn "__init__" "InvalidEdition.__init__" (defArgs sIe) (defBody sIe) (defScope sIe) .none kV_ie dc_ie pm_ie an_ie (.ref cdI_ie) ct_ie ccI_ie), sl_ie⟩)
    (c_ie : PySem.W.codeIn K (.ref cdI_ie) "InvalidEdition.__init__" = true)
    (e_ie : K.lookup cdI_ie = some ⟨cclI_ie, cddI_ie, .fields vsI_ie, ccsI_ie⟩)
    (f2_ie : vsI_ie[2]? = some (.str fileI_ie tfI_ie))
    (fl_ie : ((l.prog.main.file : Str) == fileI_ie) = true)
    (ce_ie : K.lookup ccI_ie = some ⟨clI_ie, cldI_ie, .cell (some (.ref c0)), cslI_ie⟩)
    (ocl_c1 : K.lookup c1 = some (excClassObj nmc1 qc1 c1 Nc1 bsc1 bmc1 true snc1 subc1 abc1 colc1 ddc1 k0c1 k1c1 k2c1 k3c1 k5c1 "ValueError.__new__"))
    (ove_c1 : PySem.HandSPX.refsVE bmc1 = true)
    (osa_c1 : PySem.W.findIn K (.ref c1) "__setattr__" = some (some (.builtin "object.__setattr__")))
    (oty_c1 : PySem.W.typeIn K (.ref c1) = some (.type "type"))
    (okc_c1 : PySem.W.keepIn K (.ref c1) = true)
    (osb_c1 : PySem.W.mroIn K c1 (.ref c1) = some true)
    (osu_c1 : PySem.W.ks_superIn K c1 c1 "__init__" = some (some (.builtin "ValueError.__init__")))
    (osv_c1 : PySem.W.subIn K (.ref c1) (.type "ValueError") = some true)
    (a_is : PySem.W.findIn K (.ref c1) "__init__" = some (some (.ref f_is)))
    (y_is : PySem.W.typeIn K (.ref f_is) = some (.type "function"))
    (l_is : K.lookup f_is = some ⟨oc_is, od_is, .func (PySem.W.ksFn "__init__" "InvalidStore.__init__" (defArgs sIs) (defBody sIs) (defScope sIs) .none kV_is dc_is pm_is an_is (.ref cdI_is) ct_is ccI_is), sl_is⟩)
    (c_is : PySem.W.codeIn K (.ref cdI_is) "InvalidStore.__init__" = true)
    (e_is : K.lookup cdI_is = some ⟨cclI_is, cddI_is, .fields vsI_is, ccsI_is⟩)
    (f2_is : vsI_is[2]? = some (.str fileI_is tfI_is))
    (fl_is : ((l.prog.main.file : Str) == fileI_is) = true)
    (ce_is : K.lookup ccI_is = some ⟨clI_is, cldI_is, .cell (some (.ref c1)), cslI_is⟩)
    (ocl_c2 : K.lookup c2 = some (excClassObj nmc2 qc2 c2 Nc2 bsc2 bmc2 true snc2 subc2 abc2 colc2 ddc2 k0c2 k1c2 k2c2 k3c2 k5c2 "ValueError.__new__"))
    (ove_c2 : PySem.HandSPX.refsVE bmc2 = true)
    (osa_c2 : PySem.W.findIn K (.ref c2) "__setattr__" = some (some (.builtin "object.__setattr__")))
    (oty_c2 : PySem.W.typeIn K (.ref c2) = some (.type "type"))
    (okc_c2 : PySem.W.keepIn K (.ref c2) = true)
    (osb_c2 : PySem.W.mroIn K c2 (.ref c2) = some true)
    (osu_c2 : PySem.W.ks_superIn K c2 c2 "__init__" = some (some (.builtin "ValueError.__init__")))
    (osv_c2 : PySem.W.subIn K (.ref c2) (.type "ValueError") = some true)
    (a_iy : PySem.W.findIn K (.ref c2) "__init__" = some (some (.ref f_iy)))
    (y_iy : PySem.W.typeIn K (.ref f_iy) = some (.type "function"))
    (l_iy : K.lookup f_iy = some ⟨oc_iy, od_iy, .func (PySem.W.ksFn "__init__" "InvalidSystem.__init__" (defArgs sIy) (defBody sIy) (defScope sIy) .none kV_iy dc_iy pm_iy an_iy (.ref cdI_iy) ct_iy ccI_iy), sl_iy⟩)
    (c_iy : PySem.W.codeIn K (.ref cdI_iy) "InvalidSystem.__init__" = true)
    (e_iy : K.lookup cdI_iy = some ⟨cclI_iy, cddI_iy, .fields vsI_iy, ccsI_iy⟩)
    (f2_iy : vsI_iy[2]? = some (.str fileI_iy tfI_iy))
    (fl_iy : ((l.prog.main.file : Str) == fileI_iy) = true)
    (ce_iy : K.lookup ccI_iy = some ⟨clI_iy, cldI_iy, .cell (some (.ref c2)), cslI_iy⟩)
    (exi_c4 : PySem.W.excIn K c4 [.type "ValueError", .type "Exception", .type "BaseException", .type "object"] "ValueError.__new__" = true)
    (ekc_c4 : PySem.W.keepIn K (.ref c4) = true)
    (eb_c4 : PySem.W.subIn K (.ref c4) (.type "BaseException") = some true)
    (et_c4 : PySem.W.typeIn K (.ref c4) = some (.type "type"))
    (exi_c5 : PySem.W.excIn K c5 [.type "ValueError", .type "Exception", .type "BaseException", .type "object"] "ValueError.__new__" = true)
    (ekc_c5 : PySem.W.keepIn K (.ref c5) = true)
    (eb_c5 : PySem.W.subIn K (.ref c5) (.type "BaseException") = some true)
    (et_c5 : PySem.W.typeIn K (.ref c5) = some (.type "type"))
    (v_let : PySem.W.nsIn K mainGlobals "LETTERS" = some (some (.str LET tLet)))
    (v_lon : PySem.W.nsIn K mainGlobals "LONGEST_WORD" = some (some (.int 8 t_lon)))
    (v_lv : PySem.W.nsIn K mainGlobals "LEAST_VERSION" = some (some (.int 1 t_lv)))
    (v_mv : PySem.W.nsIn K mainGlobals "MOST_VERSION" = some (some (.int 99 t_mv)))
    (v_me : PySem.W.nsIn K mainGlobals "MOST_EDITIONS" = some (some (.int 12 t_me)))
    (v_mn : PySem.W.nsIn K mainGlobals "MOST_NAMES" = some (some (.int 4 t_mn)))
    (v_scr : PySem.W.nsIn K mainGlobals "SCRIPTS" = some (some (.ref aS)))
    (a_ei : PySem.W.findIn K (.ref C) "__init__" = some (some (.ref f_ei)))
    (l_ei : K.lookup f_ei = some ⟨oc_ei, od_ei, .func (PySem.W.fnOf "__init__" "Edition.__init__" (defArgs sEi) (defBody sEi) (defScope sEi) .none (.ref kD) dc_ei pm_ei an_ei cd_ei ct_ei), sl_ei⟩)
    (c_ei : PySem.W.codeIn K cd_ei "Edition.__init__" = true)
    (k_ei : PySem.W.keepIn K (.ref f_ei) = true)
    (i_ei : PySem.W.isFn K (.ref f_ei) = true)
    (mk_C : PySem.W.makesIn K C = true)
    (kc_C : PySem.W.keepIn K (.ref C) = true)
    (d_scripts : PySem.W.nsIn K kD "scripts" = some (some (.ref aS)))
    (d_needs : PySem.W.nsIn K kD "needs" = some (some (.ref z1)))
    (d_first : PySem.W.nsIn K kD "first" = some (some (.ref z2)))
    (d_against : PySem.W.nsIn K kD "against" = some (some (.ref z3)))
    (t_S : K.lookup aS = some ⟨.type "tuple", ddS, .seq #[.str "clean" q0, .str "enter" q1, .str "leave" q2, .str "setup" q3] nS, slS⟩)
    (t_1 : K.lookup z1 = some ⟨.type "tuple", dd1, .seq #[] n1, sl1⟩)
    (t_2 : K.lookup z2 = some ⟨.type "tuple", dd2, .seq #[] n2, sl2⟩)
    (t_3 : K.lookup z3 = some ⟨.type "tuple", dd3, .seq #[] n3, sl3⟩)
    (na_C_parts : PySem.W.findIn K (.ref C) "parts" = some none)
    (pa_g0 : PySem.W.findIn K (.ref C) "name" = some (some (.ref p_g0)))
    (pg_g0 : PySem.W.specialIn K (.ref p_g0) "__get__" = some (some (.builtin "property.__get__")))
    (pt_g0 : PySem.W.takesIn K (.ref p_g0) = some true)
    (pr_g0 : PySem.W.recIn K p_g0 "property" = some (.ref f_g0 :: rest_g0))
    (l_g0 : K.lookup f_g0 = some ⟨oc_g0, od_g0, .func (PySem.W.fnOf "name" "Edition.name" (defArgs (sGet 0)) (defBody (sGet 0)) (defScope (sGet 0)) .none kV_g0 dc_g0 pm_g0 an_g0 cd_g0 ct_g0), sl_g0⟩)
    (c_g0 : PySem.W.codeIn K cd_g0 "Edition.name" = true)
    (k_g0 : PySem.W.keepIn K (.ref f_g0) = true)
    (pa_g1 : PySem.W.findIn K (.ref C) "version" = some (some (.ref p_g1)))
    (pg_g1 : PySem.W.specialIn K (.ref p_g1) "__get__" = some (some (.builtin "property.__get__")))
    (pt_g1 : PySem.W.takesIn K (.ref p_g1) = some true)
    (pr_g1 : PySem.W.recIn K p_g1 "property" = some (.ref f_g1 :: rest_g1))
    (l_g1 : K.lookup f_g1 = some ⟨oc_g1, od_g1, .func (PySem.W.fnOf "version" "Edition.version" (defArgs (sGet 1)) (defBody (sGet 1)) (defScope (sGet 1)) .none kV_g1 dc_g1 pm_g1 an_g1 cd_g1 ct_g1), sl_g1⟩)
    (c_g1 : PySem.W.codeIn K cd_g1 "Edition.version" = true)
    (k_g1 : PySem.W.keepIn K (.ref f_g1) = true)
    (pa_g2 : PySem.W.findIn K (.ref C) "scripts" = some (some (.ref p_g2)))
    (pg_g2 : PySem.W.specialIn K (.ref p_g2) "__get__" = some (some (.builtin "property.__get__")))
    (pt_g2 : PySem.W.takesIn K (.ref p_g2) = some true)
    (pr_g2 : PySem.W.recIn K p_g2 "property" = some (.ref f_g2 :: rest_g2))
    (l_g2 : K.lookup f_g2 = some ⟨oc_g2, od_g2, .func (PySem.W.fnOf "scripts" "Edition.scripts" (defArgs (sGet 2)) (defBody (sGet 2)) (defScope (sGet 2)) .none kV_g2 dc_g2 pm_g2 an_g2 cd_g2 ct_g2), sl_g2⟩)
    (c_g2 : PySem.W.codeIn K cd_g2 "Edition.scripts" = true)
    (k_g2 : PySem.W.keepIn K (.ref f_g2) = true)
    (pa_g3 : PySem.W.findIn K (.ref C) "needs" = some (some (.ref p_g3)))
    (pg_g3 : PySem.W.specialIn K (.ref p_g3) "__get__" = some (some (.builtin "property.__get__")))
    (pt_g3 : PySem.W.takesIn K (.ref p_g3) = some true)
    (pr_g3 : PySem.W.recIn K p_g3 "property" = some (.ref f_g3 :: rest_g3))
    (l_g3 : K.lookup f_g3 = some ⟨oc_g3, od_g3, .func (PySem.W.fnOf "needs" "Edition.needs" (defArgs (sGet 3)) (defBody (sGet 3)) (defScope (sGet 3)) .none kV_g3 dc_g3 pm_g3 an_g3 cd_g3 ct_g3), sl_g3⟩)
    (c_g3 : PySem.W.codeIn K cd_g3 "Edition.needs" = true)
    (k_g3 : PySem.W.keepIn K (.ref f_g3) = true)
    (pa_g4 : PySem.W.findIn K (.ref C) "first" = some (some (.ref p_g4)))
    (pg_g4 : PySem.W.specialIn K (.ref p_g4) "__get__" = some (some (.builtin "property.__get__")))
    (pt_g4 : PySem.W.takesIn K (.ref p_g4) = some true)
    (pr_g4 : PySem.W.recIn K p_g4 "property" = some (.ref f_g4 :: rest_g4))
    (l_g4 : K.lookup f_g4 = some ⟨oc_g4, od_g4, .func (PySem.W.fnOf "first" "Edition.first" (defArgs (sGet 4)) (defBody (sGet 4)) (defScope (sGet 4)) .none kV_g4 dc_g4 pm_g4 an_g4 cd_g4 ct_g4), sl_g4⟩)
    (c_g4 : PySem.W.codeIn K cd_g4 "Edition.first" = true)
    (k_g4 : PySem.W.keepIn K (.ref f_g4) = true)
    (pa_g5 : PySem.W.findIn K (.ref C) "against" = some (some (.ref p_g5)))
    (pg_g5 : PySem.W.specialIn K (.ref p_g5) "__get__" = some (some (.builtin "property.__get__")))
    (pt_g5 : PySem.W.takesIn K (.ref p_g5) = some true)
    (pr_g5 : PySem.W.recIn K p_g5 "property" = some (.ref f_g5 :: rest_g5))
    (l_g5 : K.lookup f_g5 = some ⟨oc_g5, od_g5, .func (PySem.W.fnOf "against" "Edition.against" (defArgs (sGet 5)) (defBody (sGet 5)) (defScope (sGet 5)) .none kV_g5 dc_g5 pm_g5 an_g5 cd_g5 ct_g5), sl_g5⟩)
    (c_g5 : PySem.W.codeIn K cd_g5 "Edition.against" = true)
    (k_g5 : PySem.W.keepIn K (.ref f_g5) = true)
    (a_eq : PySem.W.findIn K (.ref C) "__eq__" = some (some (.ref f_eq)))
    (l_eq : K.lookup f_eq = some ⟨oc_eq, od_eq, .func (PySem.W.fnOf "__eq__" "Edition.__eq__" (defArgs sEq) (defBody sEq) (defScope sEq) .none kV_eq dc_eq pm_eq an_eq cd_eq ct_eq), sl_eq⟩)
    (c_eq : PySem.W.codeIn K cd_eq "Edition.__eq__" = true)
    (k_eq : PySem.W.keepIn K (.ref f_eq) = true)
    (i_eq : PySem.W.isFn K (.ref f_eq) = true)
    (x_C : K.lookup C = some (excClassObj nmC qC C NC bsC [.type "object"] hdC snC subC abC colC ddC k0C k1C k2C k3C k5C newC))
    (xq_C : PySem.W.nsIn K NC "__eq__" = some (some (.ref f_eq)))
    (xn_C : PySem.W.nsIn K NC "__ne__" = some none)
    (xo_C : PySem.W.nsOkIn K NC = true)
    (na_CT_table : PySem.W.findIn K (.ref CT) "table" = some none)
    (na_CT_numbers : PySem.W.findIn K (.ref CT) "numbers" = some none)
    (a_si : PySem.W.findIn K (.ref CT) "__init__" = some (some (.ref f_si)))
    (l_si : K.lookup f_si = some ⟨oc_si, od_si, .func (PySem.W.fnOf "__init__" "Store.__init__" (defArgs (sSt 0)) (defBody (sSt 0)) (defScope (sSt 0)) .none kV_si dc_si pm_si an_si cd_si ct_si), sl_si⟩)
    (c_si : PySem.W.codeIn K cd_si "Store.__init__" = true)
    (k_si : PySem.W.keepIn K (.ref f_si) = true)
    (i_si : PySem.W.isFn K (.ref f_si) = true)
    (mk_CT : PySem.W.makesIn K CT = true)
    (kc_CT : PySem.W.keepIn K (.ref CT) = true)
    (pa_sn : PySem.W.findIn K (.ref CT) "names" = some (some (.ref p_sn)))
    (pg_sn : PySem.W.specialIn K (.ref p_sn) "__get__" = some (some (.builtin "property.__get__")))
    (pt_sn : PySem.W.takesIn K (.ref p_sn) = some true)
    (pr_sn : PySem.W.recIn K p_sn "property" = some (.ref f_sn :: rest_sn))
    (l_sn : K.lookup f_sn = some ⟨oc_sn, od_sn, .func (PySem.W.fnOf "names" "Store.names" (defArgs (sSt 1)) (defBody (sSt 1)) (defScope (sSt 1)) .none kV_sn dc_sn pm_sn an_sn cd_sn ct_sn), sl_sn⟩)
    (c_sn : PySem.W.codeIn K cd_sn "Store.names" = true)
    (k_sn : PySem.W.keepIn K (.ref f_sn) = true)
    (a_sv : PySem.W.findIn K (.ref CT) "versions" = some (some (.ref f_sv)))
    (l_sv : K.lookup f_sv = some ⟨oc_sv, od_sv, .func (PySem.W.fnOf "versions" "Store.versions" (defArgs (sSt 2)) (defBody (sSt 2)) (defScope (sSt 2)) .none kV_sv dc_sv pm_sv an_sv cd_sv ct_sv), sl_sv⟩)
    (c_sv : PySem.W.codeIn K cd_sv "Store.versions" = true)
    (k_sv : PySem.W.keepIn K (.ref f_sv) = true)
    (i_sv : PySem.W.isFn K (.ref f_sv) = true)
    (a_sl : PySem.W.findIn K (.ref CT) "__len__" = some (some (.ref f_sl)))
    (l_sl : K.lookup f_sl = some ⟨oc_sl, od_sl, .func (PySem.W.fnOf "__len__" "Store.__len__" (defArgs (sSt 3)) (defBody (sSt 3)) (defScope (sSt 3)) .none kV_sl dc_sl pm_sl an_sl cd_sl ct_sl), sl_sl⟩)
    (c_sl : PySem.W.codeIn K cd_sl "Store.__len__" = true)
    (k_sl : PySem.W.keepIn K (.ref f_sl) = true)
    (i_sl : PySem.W.isFn K (.ref f_sl) = true)
    (a_sh : PySem.W.findIn K (.ref CT) "__contains__" = some (some (.ref f_sh)))
    (l_sh : K.lookup f_sh = some ⟨oc_sh, od_sh, .func (PySem.W.fnOf "__contains__" "Store.__contains__" (defArgs (sSt 4)) (defBody (sSt 4)) (defScope (sSt 4)) .none kV_sh dc_sh pm_sh an_sh cd_sh ct_sh), sl_sh⟩)
    (c_sh : PySem.W.codeIn K cd_sh "Store.__contains__" = true)
    (k_sh : PySem.W.keepIn K (.ref f_sh) = true)
    (i_sh : PySem.W.isFn K (.ref f_sh) = true)
    (a_sg : PySem.W.findIn K (.ref CT) "__getitem__" = some (some (.ref f_sg)))
    (l_sg : K.lookup f_sg = some ⟨oc_sg, od_sg, .func (PySem.W.fnOf "__getitem__" "Store.__getitem__" (defArgs (sSt 5)) (defBody (sSt 5)) (defScope (sSt 5)) .none kV_sg dc_sg pm_sg an_sg cd_sg ct_sg), sl_sg⟩)
    (c_sg : PySem.W.codeIn K cd_sg "Store.__getitem__" = true)
    (k_sg : PySem.W.keepIn K (.ref f_sg) = true)
    (i_sg : PySem.W.isFn K (.ref f_sg) = true)
    (fn_sg : PySem.W.fnIn K f_sg = true)
    (na_CY_held_store : PySem.W.findIn K (.ref CY) "held_store" = some none)
    (na_CY_held_states : PySem.W.findIn K (.ref CY) "held_states" = some none)
    (a_yi : PySem.W.findIn K (.ref CY) "__init__" = some (some (.ref f_yi)))
    (l_yi : K.lookup f_yi = some ⟨oc_yi, od_yi, .func (PySem.W.fnOf "__init__" "System.__init__" (defArgs (sSy 0)) (defBody (sSy 0)) (defScope (sSy 0)) .none kV_yi dc_yi pm_yi an_yi cd_yi ct_yi), sl_yi⟩)
    (c_yi : PySem.W.codeIn K cd_yi "System.__init__" = true)
    (k_yi : PySem.W.keepIn K (.ref f_yi) = true)
    (i_yi : PySem.W.isFn K (.ref f_yi) = true)
    (mk_CY : PySem.W.makesIn K CY = true)
    (kc_CY : PySem.W.keepIn K (.ref CY) = true)
    (pa_ys : PySem.W.findIn K (.ref CY) "store" = some (some (.ref p_ys)))
    (pg_ys : PySem.W.specialIn K (.ref p_ys) "__get__" = some (some (.builtin "property.__get__")))
    (pt_ys : PySem.W.takesIn K (.ref p_ys) = some true)
    (pr_ys : PySem.W.recIn K p_ys "property" = some (.ref f_ys :: rest_ys))
    (l_ys : K.lookup f_ys = some ⟨oc_ys, od_ys, .func (PySem.W.fnOf "store" "System.store" (defArgs (sSy 1)) (defBody (sSy 1)) (defScope (sSy 1)) .none kV_ys dc_ys pm_ys an_ys cd_ys ct_ys), sl_ys⟩)
    (c_ys : PySem.W.codeIn K cd_ys "System.store" = true)
    (k_ys : PySem.W.keepIn K (.ref f_ys) = true)
    (pa_yt : PySem.W.findIn K (.ref CY) "states" = some (some (.ref p_yt)))
    (pg_yt : PySem.W.specialIn K (.ref p_yt) "__get__" = some (some (.builtin "property.__get__")))
    (pt_yt : PySem.W.takesIn K (.ref p_yt) = some true)
    (pr_yt : PySem.W.recIn K p_yt "property" = some (.ref f_yt :: rest_yt))
    (l_yt : K.lookup f_yt = some ⟨oc_yt, od_yt, .func (PySem.W.fnOf "states" "System.states" (defArgs (sSy 2)) (defBody (sSy 2)) (defScope (sSy 2)) .none kV_yt dc_yt pm_yt an_yt cd_yt ct_yt), sl_yt⟩)
    (c_yt : PySem.W.codeIn K cd_yt "System.states" = true)
    (k_yt : PySem.W.keepIn K (.ref f_yt) = true)
    (a_yg : PySem.W.findIn K (.ref CY) "__getitem__" = some (some (.ref f_yg)))
    (l_yg : K.lookup f_yg = some ⟨oc_yg, od_yg, .func (PySem.W.fnOf "__getitem__" "System.__getitem__" (defArgs (sSy 4)) (defBody (sSy 4)) (defScope (sSy 4)) .none kV_yg dc_yg pm_yg an_yg cd_yg ct_yg), sl_yg⟩)
    (c_yg : PySem.W.codeIn K cd_yg "System.__getitem__" = true)
    (k_yg : PySem.W.keepIn K (.ref f_yg) = true)
    (i_yg : PySem.W.isFn K (.ref f_yg) = true)
    (fn_yg : PySem.W.fnIn K f_yg = true)
    (v_sta : PySem.W.nsIn K mainGlobals "STATUSES" = some (some (.ref aZ)))
    (t_Z : K.lookup aZ = some ⟨.type "tuple", ddZ, .seq #[.str "absent" e0, .str "failed" e1, .str "half" e2, .str "left" e3, .str "ready" e4, .str "unpacked" e5] nZ, slZ⟩)
    (v_abs : PySem.W.nsIn K mainGlobals "ABSENT" = some (some (.ref aA)))
    (t_A : K.lookup aA = some ⟨.type "tuple", ddA, .seq #[.str "absent" b0, .int 0 b1, .int 0 b2] nA, slA⟩)
    (v_pen : PySem.W.nsIn K mainGlobals "PENDING" = some (some (.ref aPn)))
    (t_Pn : K.lookup aPn = some ⟨.type "tuple", ddPn, .seq #[.str "failed" w0, .str "unpacked" w1] nPn, slPn⟩)
    : LawAtS l w K CX0 10 63 "_law_script" mg fa h := by
  have e := hfa.symm.trans (PySem.W.mg_of X G a_law)
  cases e
  have none_ : ∀ {x : Str}, PySem.W.nsIn K mainGlobals x = some none → mg x = none := fun h => PySem.W.mg_none_of X G h
  have F_word := fun_mk (st := sWord) l_word c_word k_word
  have B_word := F_word.binds (ps := ["text"]) fun _ _ _ _ _ _ us hl => match us, hl with | [_], _ => rfl
  have F_numb := fun_mk (st := sNumber) l_numb c_numb k_numb
  have B_numb := F_numb.binds (ps := ["value", "least", "most"]) fun _ _ _ _ _ _ us hl => match us, hl with | [_, _, _], _ => rfl
  have F_asc := fun_mk (st := sAscends) l_asc c_asc k_asc
  have B_asc := F_asc.binds (ps := ["values"]) fun _ _ _ _ _ _ us hl => match us, hl with | [_], _ => rfl
  have F_vers := fun_mk (st := sVersion) l_vers c_vers k_vers
  have B_vers := F_vers.binds (ps := ["value"]) fun _ _ _ _ _ _ us hl => match us, hl with | [_], _ => rfl
  have F_scri := fun_mk (st := sScripts) l_scri c_scri k_scri
  have B_scri := F_scri.binds (ps := ["values"]) fun _ _ _ _ _ _ us hl => match us, hl with | [_], _ => rfl
  have F_othe := fun_mk (st := sOthers) l_othe c_othe k_othe
  have B_othe := F_othe.binds (ps := ["values", "name"]) fun _ _ _ _ _ _ us hl => match us, hl with | [_, _], _ => rfl
  have F_pair := fun_mk (st := sPair) l_pair c_pair k_pair
  have B_pair := F_pair.binds (ps := ["value"]) fun _ _ _ _ _ _ us hl => match us, hl with | [_], _ => rfl
  have F_need := fun_mk (st := sNeeds) l_need c_need k_need
  have B_need := F_need.binds (ps := ["values", "name"]) fun _ _ _ _ _ _ us hl => match us, hl with | [_, _], _ => rfl
  have F_wron := fun_mk (st := sWrong) l_wron c_wron k_wron
  have B_wron := F_wron.binds (ps := ["name", "version", "scripts", "needs", "first", "against"]) fun _ _ _ _ _ _ us hl => match us, hl with | [_, _, _, _, _, _], _ => rfl
  have F_wi := fun_mk (st := sWi) l_wi c_wi k_wi
  have B_wi := F_wi.binds (ps := ["editions"]) fun _ _ _ _ _ _ us hl => match us, hl with | [_], _ => rfl
  have F_vn := fun_mk (st := sVn) l_vn c_vn k_vn
  have B_vn := F_vn.binds (ps := ["keys"]) fun _ _ _ _ _ _ us hl => match us, hl with | [_], _ => rfl
  have F_take := fun_mk (st := sTaken) l_take c_take k_take
  have B_take := F_take.binds (ps := ["_law_row", "_law_many"]) fun _ _ _ _ _ _ us hl => match us, hl with | [_, _], _ => rfl
  have F_ist := fun_mk (st := sIst) l_ist c_ist k_ist
  have B_ist := F_ist.binds (ps := ["store", "name", "state"]) fun _ _ _ _ _ _ us hl => match us, hl with | [_, _, _], _ => rfl
  have F_wp := fun_mk (st := sWp) l_wp c_wp k_wp
  have B_wp := F_wp.binds (ps := ["store", "states"]) fun _ _ _ _ _ _ us hl => match us, hl with | [_, _], _ => rfl
  have F_eo := fun_mk (st := sEo) l_eo c_eo k_eo
  have B_eo := F_eo.binds (ps := ["system", "name"]) fun _ _ _ _ _ _ us hl => match us, hl with | [_, _], _ => rfl
  have F_met := fun_mk (st := sMet) l_met c_met k_met
  have B_met := F_met.binds (ps := ["system", "need"]) fun _ _ _ _ _ _ us hl => match us, hl with | [_, _], _ => rfl
  have F_pen := fun_mk (st := sPen) l_pen c_pen k_pen
  have B_pen := F_pen.binds (ps := ["system"]) fun _ _ _ _ _ _ us hl => match us, hl with | [_], _ => rfl
  have F_wm := fun_mk (st := sWm) l_wm c_wm k_wm
  have B_wm := F_wm.binds (ps := ["system", "names", "need"]) fun _ _ _ _ _ _ us hl => match us, hl with | [_, _, _], _ => rfl
  have F_lk := fun_mk (st := sLk) l_lk c_lk k_lk
  have B_lk := F_lk.binds (ps := ["system", "name", "names"]) fun _ _ _ _ _ _ us hl => match us, hl with | [_, _, _], _ => rfl
  have F_ho := fun_mk (st := sHo) l_ho c_ho k_ho
  have B_ho := F_ho.binds (ps := ["system"]) fun _ _ _ _ _ _ us hl => match us, hl with | [_], _ => rfl
  have F_hl := fun_mk (st := sHl) l_hl c_hl k_hl
  have B_hl := F_hl.binds (ps := ["system"]) fun _ _ _ _ _ _ us hl => match us, hl with | [_], _ => rfl
  have F_sor := fun_mk (st := sSor) l_sor c_sor k_sor
  have B_sor := F_sor.binds (ps := ["system"]) fun _ _ _ _ _ _ us hl => match us, hl with | [_], _ => rfl
  have F_ao := fun_mk (st := sAo) l_ao c_ao k_ao
  have B_ao := F_ao.binds (ps := ["names"]) fun _ _ _ _ _ _ us hl => match us, hl with | [_], _ => rfl
  have F_fc := fun_mk (st := sFc) l_fc c_fc k_fc
  have B_fc := F_fc.binds (ps := ["system", "order"]) fun _ _ _ _ _ _ us hl => match us, hl with | [_, _], _ => rfl
  have F_ff := fun_mk (st := sFf) l_ff c_ff k_ff
  have B_ff := F_ff.binds (ps := ["system"]) fun _ _ _ _ _ _ us hl => match us, hl with | [_], _ => rfl
  have F_nb := fun_mk (st := sNb) l_nb c_nb k_nb
  have B_nb := F_nb.binds (ps := ["system", "names", "name"]) fun _ _ _ _ _ _ us hl => match us, hl with | [_, _, _], _ => rfl
  have F_rg := fun_mk (st := sRg) l_rg c_rg k_rg
  have B_rg := F_rg.binds (ps := ["system"]) fun _ _ _ _ _ _ us hl => match us, hl with | [_], _ => rfl
  have F_lsr := fun_mk (st := sLsr) l_lsr c_lsr k_lsr
  have B_lsr := F_lsr.binds (ps := ["_law_some"]) fun _ _ _ _ _ _ us hl => match us, hl with | [_], _ => rfl
  have F_rin := fun_mk (st := sRin) l_rin c_rin k_rin
  have B_rin := F_rin.binds (ps := ["_law_row"]) fun _ _ _ _ _ _ us hl => match us, hl with | [_], _ => rfl
  have F_can := fun_mk (st := sCan) l_can c_can k_can
  have B_can := F_can.binds (ps := ["_law_some", "_law_states", "_law_done", "_law_name"]) fun _ _ _ _ _ _ us hl => match us, hl with | [_, _, _, _], _ => rfl
  have F_clo := fun_mk (st := sClo) l_clo c_clo k_clo
  have B_clo := F_clo.binds (ps := ["_law_some", "_law_states", "_law_left"]) fun _ _ _ _ _ _ us hl => match us, hl with | [_, _, _], _ => rfl
  have F_for := fun_mk (st := sFor) l_for c_for k_for
  have B_for := F_for.binds (ps := ["_law_some", "_law_states", "_law_order"]) fun _ _ _ _ _ _ us hl => match us, hl with | [_, _, _], _ => rfl
  have cl_C : Cls K C := ⟨pg_C, hd_C, po_C, sa_C⟩
  have cl_CT : Cls K CT := ⟨pg_CT, hd_CT, po_CT, sa_CT⟩
  have cl_CY : Cls K CY := ⟨pg_CY, hd_CY, po_CY, sa_CY⟩
  have OX_c0 : OexC K c0 := ⟨⟨_, _, _, _, _, _, _, _, _, _, _, _, _, _, _, ocl_c0, ove_c0⟩, osa_c0, ex_c0, oty_c0, okc_c0⟩
  have SP_c0 : SupC l.prog K mg c0 := ⟨OX_c0, osb_c0, osu_c0, osv_c0, o_op, none_ n_super, o_top⟩
  have ER_ie : ErrFn l.prog K c0 "InvalidEdition.__init__" sIe f_ie _ := ⟨⟨_, _, _, _, _, _, _, _, _, _, _, _, _, _, _, _, _, _, _, rfl, l_ie, c_ie, e_ie, f2_ie, fl_ie, ce_ie⟩⟩
  have OX_c1 : OexC K c1 := ⟨⟨_, _, _, _, _, _, _, _, _, _, _, _, _, _, _, ocl_c1, ove_c1⟩, osa_c1, ex_c1, oty_c1, okc_c1⟩
  have SP_c1 : SupC l.prog K mg c1 := ⟨OX_c1, osb_c1, osu_c1, osv_c1, o_op, none_ n_super, o_top⟩
  have ER_is : ErrFn l.prog K c1 "InvalidStore.__init__" sIs f_is _ := ⟨⟨_, _, _, _, _, _, _, _, _, _, _, _, _, _, _, _, _, _, _, rfl, l_is, c_is, e_is, f2_is, fl_is, ce_is⟩⟩
  have OX_c2 : OexC K c2 := ⟨⟨_, _, _, _, _, _, _, _, _, _, _, _, _, _, _, ocl_c2, ove_c2⟩, osa_c2, ex_c2, oty_c2, okc_c2⟩
  have SP_c2 : SupC l.prog K mg c2 := ⟨OX_c2, osb_c2, osu_c2, osv_c2, o_op, none_ n_super, o_top⟩
  have ER_iy : ErrFn l.prog K c2 "InvalidSystem.__init__" sIy f_iy _ := ⟨⟨_, _, _, _, _, _, _, _, _, _, _, _, _, _, _, _, _, _, _, rfl, l_iy, c_iy, e_iy, f2_iy, fl_iy, ce_iy⟩⟩
  have EC_c4 : ErrC K mg "UnknownEdition" c4 := ⟨PySem.W.mg_of X G g_c4, exi_c4, ekc_c4, eb_c4, et_c4⟩
  have EC_c5 : ErrC K mg "UnknownName" c5 := ⟨PySem.W.mg_of X G g_c5, exi_c5, ekc_c5, eb_c5, et_c5⟩
  have F_g0 := fun_mk (st := (sGet 0)) l_g0 c_g0 k_g0
  have B_g0 := F_g0.binds (ps := ["self"]) fun _ _ _ _ _ _ us hl => match us, hl with | [_], _ => rfl
  have P_g0 : PropOf K C "name" p_g0 f_g0 := ⟨pa_g0, pg_g0, pt_g0, ⟨_, pr_g0⟩⟩
  have F_g1 := fun_mk (st := (sGet 1)) l_g1 c_g1 k_g1
  have B_g1 := F_g1.binds (ps := ["self"]) fun _ _ _ _ _ _ us hl => match us, hl with | [_], _ => rfl
  have P_g1 : PropOf K C "version" p_g1 f_g1 := ⟨pa_g1, pg_g1, pt_g1, ⟨_, pr_g1⟩⟩
  have F_g2 := fun_mk (st := (sGet 2)) l_g2 c_g2 k_g2
  have B_g2 := F_g2.binds (ps := ["self"]) fun _ _ _ _ _ _ us hl => match us, hl with | [_], _ => rfl
  have P_g2 : PropOf K C "scripts" p_g2 f_g2 := ⟨pa_g2, pg_g2, pt_g2, ⟨_, pr_g2⟩⟩
  have F_g3 := fun_mk (st := (sGet 3)) l_g3 c_g3 k_g3
  have B_g3 := F_g3.binds (ps := ["self"]) fun _ _ _ _ _ _ us hl => match us, hl with | [_], _ => rfl
  have P_g3 : PropOf K C "needs" p_g3 f_g3 := ⟨pa_g3, pg_g3, pt_g3, ⟨_, pr_g3⟩⟩
  have F_g4 := fun_mk (st := (sGet 4)) l_g4 c_g4 k_g4
  have B_g4 := F_g4.binds (ps := ["self"]) fun _ _ _ _ _ _ us hl => match us, hl with | [_], _ => rfl
  have P_g4 : PropOf K C "first" p_g4 f_g4 := ⟨pa_g4, pg_g4, pt_g4, ⟨_, pr_g4⟩⟩
  have F_g5 := fun_mk (st := (sGet 5)) l_g5 c_g5 k_g5
  have B_g5 := F_g5.binds (ps := ["self"]) fun _ _ _ _ _ _ us hl => match us, hl with | [_], _ => rfl
  have P_g5 : PropOf K C "against" p_g5 f_g5 := ⟨pa_g5, pg_g5, pt_g5, ⟨_, pr_g5⟩⟩
  have F_eq := fun_mk (st := sEq) l_eq c_eq k_eq
  have B_eq := F_eq.binds (ps := ["self", "other"]) fun _ _ _ _ _ _ us hl => match us, hl with | [_, _], _ => rfl
  have OE_C : OwnEqC K C f_eq := ⟨⟨_, _, _, _, _, _, _, _, _, _, _, _, _, _, _, _, x_C, xq_C, xn_C, xo_C⟩, a_eq, i_eq⟩
  have F_si := fun_mk (st := (sSt 0)) l_si c_si k_si
  have B_si := F_si.binds (ps := ["self", "editions"]) fun _ _ _ _ _ _ us hl => match us, hl with | [_, _], _ => rfl
  have F_sn := fun_mk (st := (sSt 1)) l_sn c_sn k_sn
  have B_sn := F_sn.binds (ps := ["self"]) fun _ _ _ _ _ _ us hl => match us, hl with | [_], _ => rfl
  have P_sn : PropOf K CT "names" p_sn f_sn := ⟨pa_sn, pg_sn, pt_sn, ⟨_, pr_sn⟩⟩
  have F_sv := fun_mk (st := (sSt 2)) l_sv c_sv k_sv
  have B_sv := F_sv.binds (ps := ["self", "name"]) fun _ _ _ _ _ _ us hl => match us, hl with | [_, _], _ => rfl
  have F_sl := fun_mk (st := (sSt 3)) l_sl c_sl k_sl
  have B_sl := F_sl.binds (ps := ["self"]) fun _ _ _ _ _ _ us hl => match us, hl with | [_], _ => rfl
  have F_sh := fun_mk (st := (sSt 4)) l_sh c_sh k_sh
  have B_sh := F_sh.binds (ps := ["self", "x"]) fun _ _ _ _ _ _ us hl => match us, hl with | [_, _], _ => rfl
  have F_sg := fun_mk (st := (sSt 5)) l_sg c_sg k_sg
  have B_sg := F_sg.binds (ps := ["self", "at"]) fun _ _ _ _ _ _ us hl => match us, hl with | [_, _], _ => rfl
  have F_yi := fun_mk (st := (sSy 0)) l_yi c_yi k_yi
  have B_yi := F_yi.binds (ps := ["self", "store", "states"]) fun _ _ _ _ _ _ us hl => match us, hl with | [_, _, _], _ => rfl
  have F_ys := fun_mk (st := (sSy 1)) l_ys c_ys k_ys
  have B_ys := F_ys.binds (ps := ["self"]) fun _ _ _ _ _ _ us hl => match us, hl with | [_], _ => rfl
  have P_ys : PropOf K CY "store" p_ys f_ys := ⟨pa_ys, pg_ys, pt_ys, ⟨_, pr_ys⟩⟩
  have F_yt := fun_mk (st := (sSy 2)) l_yt c_yt k_yt
  have B_yt := F_yt.binds (ps := ["self"]) fun _ _ _ _ _ _ us hl => match us, hl with | [_], _ => rfl
  have P_yt : PropOf K CY "states" p_yt f_yt := ⟨pa_yt, pg_yt, pt_yt, ⟨_, pr_yt⟩⟩
  have F_yg := fun_mk (st := (sSy 4)) l_yg c_yg k_yg
  have B_yg := F_yg.binds (ps := ["self", "at"]) fun _ _ _ _ _ _ us hl => match us, hl with | [_, _], _ => rfl
  have tPn : ∀ H, SqT K H aPn (PEND.map V.str) := fun H => .inr ⟨_, _, _, t_Pn, rfl, rfl, (by decide : 2 ≤ sizeLine), .cons ⟨_, rfl⟩ (.cons ⟨_, rfl⟩ .nil)⟩
  have tS : ∀ H, SqT K H aS (SCR.map V.str) := fun H => .inr ⟨_, _, _, t_S, rfl, rfl, (by decide : 4 ≤ sizeLine), .cons ⟨_, rfl⟩ (.cons ⟨_, rfl⟩ (.cons ⟨_, rfl⟩ (.cons ⟨_, rfl⟩ .nil)))⟩
  have t1 : ∀ H, SqT K H z1 [] := fun H => .inr ⟨_, _, _, t_1, rfl, rfl, by decide, .nil⟩
  have t2 : ∀ H, SqT K H z2 [] := fun H => .inr ⟨_, _, _, t_2, rfl, rfl, by decide, .nil⟩
  have t3 : ∀ H, SqT K H z3 [] := fun H => .inr ⟨_, _, _, t_3, rfl, rfl, by decide, .nil⟩
  have tZ : ∀ H, SqT K H aZ (STA.map V.str) := fun H => .inr ⟨_, _, _, t_Z, rfl, rfl, (by decide : 6 ≤ sizeLine), .cons ⟨_, rfl⟩ (.cons ⟨_, rfl⟩ (.cons ⟨_, rfl⟩ (.cons ⟨_, rfl⟩ (.cons ⟨_, rfl⟩ (.cons ⟨_, rfl⟩ .nil)))))⟩
  have tA : ∀ H, SqT K H aA (stV AB) := fun H => .inr ⟨_, _, _, t_A, rfl, rfl, (by decide : 3 ≤ sizeLine), .cons ⟨_, rfl⟩ (.cons ⟨_, rfl⟩ (.cons ⟨_, rfl⟩ .nil))⟩
  have TD0 : TxtD mg := ⟨none_ n_int, none_ n_len⟩
  have TC : TxtC K mg 0 0 0 0 0 0 0 := ⟨TD0, none_ n_isinstance, none_ n_str, none_ n_bool, none_ n_tuple, none_ n_all, none_ n_range, ⟨_, PySem.W.mg_of X G v_let⟩, ⟨_, PySem.W.mg_of X G v_lon⟩⟩
  have TE0 : TxtE K mg := ⟨TD0, none_ n_isinstance, none_ n_str, none_ n_bool, none_ n_tuple, none_ n_all, none_ n_range, ⟨_, PySem.W.mg_of X G v_lv⟩, ⟨_, PySem.W.mg_of X G v_mv⟩, ⟨_, PySem.W.mg_of X G v_scr, tS⟩⟩
  have TJ : TxtJ mg := ⟨none_ n_sorted, none_ n_tuple, none_ n_set, none_ n_range, none_ n_dict, none_ n_len⟩
  have TA : TxtA K mg CY c5 := ⟨cl_CY, na_CY_held_store, na_CY_held_states, none_ n_dict, none_ n_isinstance, PySem.W.mg_of X G g_CY, EC_c5, ha_CY, hn, ht, hm_CY, ki_CY⟩
  have TG : TxtG l.prog K mg C c0 f_ie _ := ⟨cl_C, na_C_parts, PySem.W.mg_of X G g_C, PySem.W.mg_of X G g_c0, SP_c0, nf_c0, a_ie, y_ie, ER_ie, Binds.all fun us hl => match us, hl with | [_, _], _ => rfl⟩
  have TI : TxtI K mg C := ⟨cl_C, na_C_parts, PySem.W.mg_of X G g_C, none_ n_isinstance, ha_C, hn, ht, hm_C, ki_C⟩
  have TT : TxtT K mg CT c5 c4 := ⟨cl_CT, na_CT_table, na_CT_numbers, none_ n_tuple, none_ n_len, none_ n_isinstance, none_ n_bool, PySem.W.mg_of X G g_CT, EC_c5, EC_c4, ha_CT, hn, ht, hm_CT, ki_CT⟩
  have FE : FunD K "__init__" "Edition.__init__" (defArgs sEi) (defBody sEi) (defScope sEi) [] [("scripts", .ref aS), ("needs", .ref z1), ("first", .ref z2), ("against", .ref z3)] f_ei _ :=
    ⟨⟨_, _, _, _, _, _, _, _, _, _, rfl, l_ei, c_ei, .inl ⟨rfl, rfl⟩, .inr ⟨kD, rfl, fun q hq => by
      simp only [List.mem_cons, List.not_mem_nil, or_false] at hq
      rcases hq with rfl | rfl | rfl | rfl
      · exact ⟨_, d_scripts, rfl⟩
      · exact ⟨_, d_needs, rfl⟩
      · exact ⟨_, d_first, rfl⟩
      · exact ⟨_, d_against, rfl⟩⟩⟩, k_ei⟩
  refine ⟨PySem.W.fnOf "law" "law" (defArgs sLaw) (defBody sLaw) (defScope sLaw) .none kV_law dc_law pm_law an_law (.ref cLaw) ct_law, [], spLaw K, fun p hp => (nomatch hp), fun p hp => (nomatch hp), fun p hp => (nomatch hp), fun s v => .of_eq rfl, fun H a ns hl _ hT hS => ⟨a, ns, rfl, hS, hl, fun _ => rfl⟩, fun base KB GB TB => ?_⟩
  · have dN : Def l.prog w K mg base 1 "is_number" _ spNumber := ⟨_, _, ok_number F_numb TE0, PySem.W.mg_of X G a_numb, k_numb, B_numb⟩
    have dV : Def l.prog w K mg base 2 "is_version" _ spVersion := ⟨_, _, ok_version F_vers TE0 dN, PySem.W.mg_of X G a_vers, k_vers, B_vers⟩
    have dA : Def l.prog w K mg base 1 "ascends" _ (spAsc K) := ⟨_, _, ok_asc F_asc TE0, PySem.W.mg_of X G a_asc, k_asc, B_asc⟩
    have dW : Def l.prog w K mg base 1 "is_word" _ spWord := ⟨_, _, ok_word F_word TC, PySem.W.mg_of X G a_word, k_word, B_word⟩
    have dS : Def l.prog w K mg base 2 "are_scripts" _ (spScripts K) := ⟨_, _, ok_scripts F_scri TE0 dA, PySem.W.mg_of X G a_scri, k_scri, B_scri⟩
    have dO : Def l.prog w K mg base 2 "are_other_names" _ (spOthers K) := ⟨_, _, ok_others F_othe TE0 dA dW, PySem.W.mg_of X G a_othe, k_othe, B_othe⟩
    have dPr : Def l.prog w K mg base 3 "is_pair_with_version" _ (spPair K) := ⟨_, _, ok_pair F_pair TE0 dV, PySem.W.mg_of X G a_pair, k_pair, B_pair⟩
    have dNe : Def l.prog w K mg base 4 "are_needs" _ (spNeeds K) := ⟨_, _, ok_needs F_need TE0 dPr dO, PySem.W.mg_of X G a_need, k_need, B_need⟩
    have dWr : Def l.prog w K mg base 5 "wrong_part" _ (spWrong K) := ⟨_, _, ok_wrong F_wron TE0 ⟨dW, dV, dS, dNe, dO⟩, PySem.W.mg_of X G a_wron, k_wron, B_wron⟩
    have EI : EdF l.prog w K mg base C c0 f_ei _ aS z1 z2 z3 := ⟨ok_ei FE TG dWr, FE, ⟨mk_C, a_ei, i_ei, kc_C⟩, PySem.W.mg_of X G g_C, tS, t1, t2, t3⟩
    have eqF : EqF l.prog w K mg base C := ⟨_, _, ok_eq F_eq TI, OE_C, B_eq⟩
    have D : EdAll l.prog w K mg base C c0 := ⟨⟨_, _, _, _, _, _, EI⟩, eqF, cl_C, ⟨_, _, _, P_g0, ok_get (by decide) F_g0 cl_C na_C_parts, B_g0⟩, ⟨_, _, _, P_g1, ok_get (by decide) F_g1 cl_C na_C_parts, B_g1⟩, ⟨_, _, _, P_g2, ok_get (by decide) F_g2 cl_C na_C_parts, B_g2⟩, ⟨_, _, _, P_g3, ok_get (by decide) F_g3 cl_C na_C_parts, B_g3⟩, ⟨_, _, _, P_g4, ok_get (by decide) F_g4 cl_C na_C_parts, B_g4⟩, ⟨_, _, _, P_g5, ok_get (by decide) F_g5 cl_C na_C_parts, B_g5⟩⟩
    have dT : Def l.prog w K mg base 1 "_law_taken" _ (spTaken K) := ⟨_, _, ok_taken F_take TD0, PySem.W.mg_of X G a_take, k_take, B_take⟩
    have TW : TxtW l.prog w K mg base C := ⟨none_ n_set, none_ n_len, none_ n_enumerate, ⟨_, PySem.W.mg_of X G v_me⟩, ⟨_, PySem.W.mg_of X G v_mn⟩, D.p0, D.p1, cl_C⟩
    have dWi : Def l.prog w K mg base 3 "wrong_index" _ (spWi K C) := ⟨_, _, ok_wi F_wi TW, PySem.W.mg_of X G a_wi, k_wi, B_wi⟩
    have dVn : Def l.prog w K mg base 1 "versions_by_name" _ (spVn K) := ⟨_, _, ok_vn F_vn (none_ n_sorted), PySem.W.mg_of X G a_vn, k_vn, B_vn⟩
    have TS : TxtS l.prog w K mg base C CT c1 f_is _ := ⟨cl_CT, na_CT_table, na_CT_numbers, none_ n_list, PySem.W.mg_of X G g_c1, SP_c1, nf_c1, a_is, y_is, ER_is, (Binds.all fun us hl => match us, hl with | [_, _], _ => rfl), D.p0, D.p1, cl_C, dWi, dVn⟩
    have FH := ok_has (P := l.prog) (w := w) (base := base) F_sh TT
    have HF : HasF l.prog w K mg base CT := ⟨_, _, ⟨a_sh, i_sh⟩, FH, B_sh⟩
    have NF : NamF l.prog w K mg base CT := ⟨cl_CT, ⟨_, _, _, P_sn, ok_names F_sn TT, B_sn⟩⟩
    have TY : TxtY l.prog w K mg base CT := ⟨none_ n_isinstance, none_ n_tuple, none_ n_len, none_ n_sorted, ⟨_, PySem.W.mg_of X G v_abs, tA⟩, dN, HF, ⟨_, PySem.W.mg_of X G v_sta, tZ⟩⟩
    have dIst : Def l.prog w K mg base 2 "is_state" _ (spIst K CT) := ⟨_, _, ok_ist F_ist TY, PySem.W.mg_of X G a_ist, k_ist, B_ist⟩
    have dWp : Def l.prog w K mg base 3 "wrong_package" _ (spWp K CT) := ⟨_, _, ok_wp F_wp TY NF dIst, PySem.W.mg_of X G a_wp, k_wp, B_wp⟩
    have TZ : TxtZ l.prog w K mg base CT CY c2 f_iy _ := ⟨TY, NF, cl_CY, na_CY_held_store, na_CY_held_states, PySem.W.mg_of X G g_c2, SP_c2, nf_c2, a_iy, y_iy, ER_iy, (Binds.all fun us hl => match us, hl with | [_, _], _ => rfl), dWp⟩
    have MY : MkY l.prog w K mg base CT CY c2 := ⟨_, _, ok_yi F_yi TZ, ⟨mk_CY, a_yi, i_yi, kc_CY⟩, B_yi, PySem.W.mg_of X G g_CY⟩
    have SY : SyF l.prog w K mg base C CT CY c5 c4 := ⟨cl_CY, cl_C, NF, ⟨_, _, _, P_ys, ok_ys F_ys TA, B_ys⟩, ⟨_, _, ⟨a_yg, i_yg⟩, fn_yg, ok_yg F_yg TA, B_yg⟩, ⟨_, _, ⟨a_sg, i_sg⟩, fn_sg, ok_item F_sg TT FH ⟨a_sh, i_sh⟩ B_sh, B_sg⟩, D.p0, D.p3, D.p5⟩
    have MS : MkSt l.prog w K mg base C CT c1 := ⟨⟨_, _, ⟨mk_CT, a_si, i_si, kc_CT⟩, ok_si F_si TS, B_si⟩, PySem.W.mg_of X G g_CT⟩
    have dEo : Def l.prog w K mg base 4 "edition_of" _ (spEo K C CT CY) := ⟨_, _, ok_eo F_eo SY, PySem.W.mg_of X G a_eo, k_eo, B_eo⟩
    have dMet : Def l.prog w K mg base 3 "is_met" _ (spMet K C CT CY) := ⟨_, _, ok_met F_met SY, PySem.W.mg_of X G a_met, k_met, B_met⟩
    have EG : EdG l.prog w K mg base C := ⟨D.p1, D.p2, D.p4⟩
    have TO : TxtO K mg := ⟨⟨_, PySem.W.mg_of X G v_pen, tPn⟩, none_ n_any⟩
    have dPen : Def l.prog w K mg base 3 "pending" _ (spPen K C CT CY) := ⟨_, _, ok_pen F_pen TO SY, PySem.W.mg_of X G a_pen, k_pen, B_pen⟩
    have dWm : Def l.prog w K mg base 3 "would_meet" _ (spWm K C CT CY) := ⟨_, _, ok_wm F_wm SY, PySem.W.mg_of X G a_wm, k_wm, B_wm⟩
    have dLk : Def l.prog w K mg base 5 "lacks" _ (spLk K C CT CY) := ⟨_, _, ok_lk F_lk TO SY dEo dMet dWm, PySem.W.mg_of X G a_lk, k_lk, B_lk⟩
    have dHo : Def l.prog w K mg base 6 "hopeful" _ (spNs K C CT CY hopeL) := ⟨_, _, ok_ho F_ho dPen dLk, PySem.W.mg_of X G a_ho, k_ho, B_ho⟩
    have dHl : Def l.prog w K mg base 7 "hopeless" _ (spNs K C CT CY lossL) := ⟨_, _, ok_hl F_hl dPen dHo, PySem.W.mg_of X G a_hl, k_hl, B_hl⟩
    have dSor : Def l.prog w K mg base 7 "setup_order" _ (spSor K C CT CY) := ⟨_, _, ok_sor F_sor (none_ n_len) SY EG dHo dLk dEo, PySem.W.mg_of X G a_sor, k_sor, B_sor⟩
    have dAo : Def l.prog w K mg base (1 + 4) "all_orders" _ (spAo K 4) := ⟨_, _, ok_ao ⟨F_ao, PySem.W.mg_of X G a_ao, k_ao, B_ao⟩ 4, PySem.W.mg_of X G a_ao, k_ao, B_ao⟩
    have dFc : Def l.prog w K mg base 6 "forced_count" _ (spFc K C CT CY) := ⟨_, _, ok_fc F_fc (none_ n_len) (none_ n_enumerate) dLk, PySem.W.mg_of X G a_fc, k_fc, B_fc⟩
    have dFf : Def l.prog w K mg base 8 "fewest_forced" _ (spFf K C CT CY 4) := ⟨_, _, ok_ff (m := 4) (by decide) F_ff (none_ n_min) dHo dAo dFc, PySem.W.mg_of X G a_ff, k_ff, B_ff⟩
    have dNb : Def l.prog w K mg base 5 "needed_by" _ (spNb K C CT CY) := ⟨_, _, ok_nb F_nb SY dEo dWm, PySem.W.mg_of X G a_nb, k_nb, B_nb⟩
    have dRg : Def l.prog w K mg base 6 "rings" _ (spRg K C CT CY) := ⟨_, _, ok_rg F_rg (none_ n_min) (none_ n_sorted) dPen dNb, PySem.W.mg_of X G a_rg, k_rg, B_rg⟩
    have dLsr : Def l.prog w K mg base 8 "_law_store" _ (spLsr K C CT) := ⟨_, _, ok_lsr F_lsr TJ EI MS, PySem.W.mg_of X G a_lsr, k_lsr, B_lsr⟩
    have dRin : Def l.prog w K mg base 2 "_law_ringed" _ (spRin K) := ⟨_, _, ok_rin F_rin (none_ n_tuple) dT, PySem.W.mg_of X G a_rin, k_rin, B_rin⟩
    have dCan : Def l.prog w K mg base 2 "_law_can" _ (spCan K) := ⟨_, _, ok_can F_can, PySem.W.mg_of X G a_can, k_can, B_can⟩
    have dClo : Def l.prog w K mg base 3 "_law_closed" _ (spClo K) := ⟨_, _, ok_clo F_clo (none_ n_list) (none_ n_sorted) (none_ n_set) (none_ n_dict) (none_ n_range), PySem.W.mg_of X G a_clo, k_clo, B_clo⟩
    have dFor : Def l.prog w K mg base 3 "_law_forced" _ (spFor K) := ⟨_, _, ok_for F_for (none_ n_len) (none_ n_range) dCan, PySem.W.mg_of X G a_for, k_for, B_for⟩
    exact ok_law l_law c_law ⟨none_ n_len, none_ n_range, none_ n_list, none_ n_sorted, none_ n_tuple, none_ n_min, dRin, dLsr, dCan, dClo, dFor, MY, dPen, dHl, dRg, dSor, dFf⟩
end Half

open PySem PySem.W PyProof.Rows
set_option maxRecDepth 100000 in
set_option maxHeartbeats 0 in
theorem PySem.Challenge.cw_halfsetup_k75_whole_four_packages_in_rin_holds : PySem.Challenge.rw_halfsetup_k75_whole_four_packages_in_rin.Holds := by
  w_on; o_law; k_head; (case hw => w_witness2)
  k_fill
  refine LamX.walk_ofTs (l := PySem.Challenge.rw_halfsetup_k75_whole_four_packages_in_rin) (n := 63) (k := 10) (x := "_law_script") (CX := fun _ => L2.CX0) rfl (by decide) rfl ⟨rfl, by decide, by decide⟩ (fun w h Y => PySem.W.kIn_of Y) ?F (fun _ _ _ _ _ z => z)
  case F =>
    intro w mg fa h Y KX G hmg
    refine' Half.all_mk KX G hmg ?n_int ?n_len ?n_isinstance ?n_str ?n_bool ?n_tuple ?n_all ?n_range ?n_ValueError ?n_super ?n_set ?n_sorted ?n_list ?n_enumerate ?n_dict ?n_any ?n_min ?a_word ?l_word ?c_word ?k_word ?a_numb ?l_numb ?c_numb ?k_numb ?a_asc ?l_asc ?c_asc ?k_asc ?a_vers ?l_vers ?c_vers ?k_vers ?a_scri ?l_scri ?c_scri ?k_scri ?a_othe ?l_othe ?c_othe ?k_othe ?a_pair ?l_pair ?c_pair ?k_pair ?a_need ?l_need ?c_need ?k_need ?a_wron ?l_wron ?c_wron ?k_wron ?a_wi ?l_wi ?c_wi ?k_wi ?a_vn ?l_vn ?c_vn ?k_vn ?a_take ?l_take ?c_take ?k_take ?a_ist ?l_ist ?c_ist ?k_ist ?a_wp ?l_wp ?c_wp ?k_wp ?a_eo ?l_eo ?c_eo ?k_eo ?a_met ?l_met ?c_met ?k_met ?a_pen ?l_pen ?c_pen ?k_pen ?a_wm ?l_wm ?c_wm ?k_wm ?a_lk ?l_lk ?c_lk ?k_lk ?a_ho ?l_ho ?c_ho ?k_ho ?a_hl ?l_hl ?c_hl ?k_hl ?a_sor ?l_sor ?c_sor ?k_sor ?a_ao ?l_ao ?c_ao ?k_ao ?a_fc ?l_fc ?c_fc ?k_fc ?a_ff ?l_ff ?c_ff ?k_ff ?a_nb ?l_nb ?c_nb ?k_nb ?a_rg ?l_rg ?c_rg ?k_rg ?a_lsr ?l_lsr ?c_lsr ?k_lsr ?a_rin ?l_rin ?c_rin ?k_rin ?a_can ?l_can ?c_can ?k_can ?a_clo ?l_clo ?c_clo ?k_clo ?a_for ?l_for ?c_for ?k_for ?a_law ?l_law ?c_law ?k_law ?g_C ?g_CT ?g_CY ?pg_C ?hd_C ?po_C ?sa_C ?ha_C ?hm_C ?ki_C ?hn ?ht ?pg_CT ?hd_CT ?po_CT ?sa_CT ?ha_CT ?hm_CT ?ki_CT ?pg_CY ?hd_CY ?po_CY ?sa_CY ?ha_CY ?hm_CY ?ki_CY ?g_c0 ?g_c1 ?g_c2 ?g_c4 ?g_c5 ?ex_c0 ?nf_c0 ?ex_c1 ?nf_c1 ?ex_c2 ?nf_c2 ?ocl_c0 ?ove_c0 ?osa_c0 ?oty_c0 ?okc_c0 ?osb_c0 ?osu_c0 ?osv_c0 ?o_op ?o_top ?a_ie ?y_ie ?l_ie ?c_ie ?e_ie ?f2_ie ?fl_ie ?ce_ie ?ocl_c1 ?ove_c1 ?osa_c1 ?oty_c1 ?okc_c1 ?osb_c1 ?osu_c1 ?osv_c1 ?a_is ?y_is ?l_is ?c_is ?e_is ?f2_is ?fl_is ?ce_is ?ocl_c2 ?ove_c2 ?osa_c2 ?oty_c2 ?okc_c2 ?osb_c2 ?osu_c2 ?osv_c2 ?a_iy ?y_iy ?l_iy ?c_iy ?e_iy ?f2_iy ?fl_iy ?ce_iy ?exi_c4 ?ekc_c4 ?eb_c4 ?et_c4 ?exi_c5 ?ekc_c5 ?eb_c5 ?et_c5 ?v_let ?v_lon ?v_lv ?v_mv ?v_me ?v_mn ?v_scr ?a_ei ?l_ei ?c_ei ?k_ei ?i_ei ?mk_C ?kc_C ?d_scripts ?d_needs ?d_first ?d_against ?t_S ?t_1 ?t_2 ?t_3 ?na_C_parts ?pa_g0 ?pg_g0 ?pt_g0 ?pr_g0 ?l_g0 ?c_g0 ?k_g0 ?pa_g1 ?pg_g1 ?pt_g1 ?pr_g1 ?l_g1 ?c_g1 ?k_g1 ?pa_g2 ?pg_g2 ?pt_g2 ?pr_g2 ?l_g2 ?c_g2 ?k_g2 ?pa_g3 ?pg_g3 ?pt_g3 ?pr_g3 ?l_g3 ?c_g3 ?k_g3 ?pa_g4 ?pg_g4 ?pt_g4 ?pr_g4 ?l_g4 ?c_g4 ?k_g4 ?pa_g5 ?pg_g5 ?pt_g5 ?pr_g5 ?l_g5 ?c_g5 ?k_g5 ?a_eq ?l_eq ?c_eq ?k_eq ?i_eq ?x_C ?xq_C ?xn_C ?xo_C ?na_CT_table ?na_CT_numbers ?a_si ?l_si ?c_si ?k_si ?i_si ?mk_CT ?kc_CT ?pa_sn ?pg_sn ?pt_sn ?pr_sn ?l_sn ?c_sn ?k_sn ?a_sv ?l_sv ?c_sv ?k_sv ?i_sv ?a_sl ?l_sl ?c_sl ?k_sl ?i_sl ?a_sh ?l_sh ?c_sh ?k_sh ?i_sh ?a_sg ?l_sg ?c_sg ?k_sg ?i_sg ?fn_sg ?na_CY_held_store ?na_CY_held_states ?a_yi ?l_yi ?c_yi ?k_yi ?i_yi ?mk_CY ?kc_CY ?pa_ys ?pg_ys ?pt_ys ?pr_ys ?l_ys ?c_ys ?k_ys ?pa_yt ?pg_yt ?pt_yt ?pr_yt ?l_yt ?c_yt ?k_yt ?a_yg ?l_yg ?c_yg ?k_yg ?i_yg ?fn_yg ?v_sta ?t_Z ?v_abs ?t_A ?v_pen ?t_Pn
    (case n_int => k_is)
    (case n_len => k_is)
    (case n_isinstance => k_is)
    (case n_str => k_is)
    (case n_bool => k_is)
    (case n_tuple => k_is)
    (case n_all => k_is)
    (case n_range => k_is)
    (case n_ValueError => k_is)
    (case n_super => k_is)
    (case n_set => k_is)
    (case n_sorted => k_is)
    (case n_list => k_is)
    (case n_enumerate => k_is)
    (case n_dict => k_is)
    (case n_any => k_is)
    (case n_min => k_is)
    (case a_word => k_is)
    (case l_word => k_is)
    (case c_word => k_is)
    (case k_word => k_is)
    (case a_numb => k_is)
    (case l_numb => k_is)
    (case c_numb => k_is)
    (case k_numb => k_is)
    (case a_asc => k_is)
    (case l_asc => k_is)
    (case c_asc => k_is)
    (case k_asc => k_is)
    (case a_vers => k_is)
    (case l_vers => k_is)
    (case c_vers => k_is)
    (case k_vers => k_is)
    (case a_scri => k_is)
    (case l_scri => k_is)
    (case c_scri => k_is)
    (case k_scri => k_is)
    (case a_othe => k_is)
    (case l_othe => k_is)
    (case c_othe => k_is)
    (case k_othe => k_is)
    (case a_pair => k_is)
    (case l_pair => k_is)
    (case c_pair => k_is)
    (case k_pair => k_is)
    (case a_need => k_is)
    (case l_need => k_is)
    (case c_need => k_is)
    (case k_need => k_is)
    (case a_wron => k_is)
    (case l_wron => k_is)
    (case c_wron => k_is)
    (case k_wron => k_is)
    (case a_wi => k_is)
    (case l_wi => k_is)
    (case c_wi => k_is)
    (case k_wi => k_is)
    (case a_vn => k_is)
    (case l_vn => k_is)
    (case c_vn => k_is)
    (case k_vn => k_is)
    (case a_take => k_is)
    (case l_take => k_is)
    (case c_take => k_is)
    (case k_take => k_is)
    (case a_ist => k_is)
    (case l_ist => k_is)
    (case c_ist => k_is)
    (case k_ist => k_is)
    (case a_wp => k_is)
    (case l_wp => k_is)
    (case c_wp => k_is)
    (case k_wp => k_is)
    (case a_eo => k_is)
    (case l_eo => k_is)
    (case c_eo => k_is)
    (case k_eo => k_is)
    (case a_met => k_is)
    (case l_met => k_is)
    (case c_met => k_is)
    (case k_met => k_is)
    (case a_pen => k_is)
    (case l_pen => k_is)
    (case c_pen => k_is)
    (case k_pen => k_is)
    (case a_wm => k_is)
    (case l_wm => k_is)
    (case c_wm => k_is)
    (case k_wm => k_is)
    (case a_lk => k_is)
    (case l_lk => k_is)
    (case c_lk => k_is)
    (case k_lk => k_is)
    (case a_ho => k_is)
    (case l_ho => k_is)
    (case c_ho => k_is)
    (case k_ho => k_is)
    (case a_hl => k_is)
    (case l_hl => k_is)
    (case c_hl => k_is)
    (case k_hl => k_is)
    (case a_sor => k_is)
    (case l_sor => k_is)
    (case c_sor => k_is)
    (case k_sor => k_is)
    (case a_ao => k_is)
    (case l_ao => k_is)
    (case c_ao => k_is)
    (case k_ao => k_is)
    (case a_fc => k_is)
    (case l_fc => k_is)
    (case c_fc => k_is)
    (case k_fc => k_is)
    (case a_ff => k_is)
    (case l_ff => k_is)
    (case c_ff => k_is)
    (case k_ff => k_is)
    (case a_nb => k_is)
    (case l_nb => k_is)
    (case c_nb => k_is)
    (case k_nb => k_is)
    (case a_rg => k_is)
    (case l_rg => k_is)
    (case c_rg => k_is)
    (case k_rg => k_is)
    (case a_lsr => k_is)
    (case l_lsr => k_is)
    (case c_lsr => k_is)
    (case k_lsr => k_is)
    (case a_rin => k_is)
    (case l_rin => k_is)
    (case c_rin => k_is)
    (case k_rin => k_is)
    (case a_can => k_is)
    (case l_can => k_is)
    (case c_can => k_is)
    (case k_can => k_is)
    (case a_clo => k_is)
    (case l_clo => k_is)
    (case c_clo => k_is)
    (case k_clo => k_is)
    (case a_for => k_is)
    (case l_for => k_is)
    (case c_for => k_is)
    (case k_for => k_is)
    (case a_law => k_is)
    (case l_law => k_is)
    (case c_law => k_is)
    (case k_law => k_is)
    (case g_C => k_is)
    (case g_CT => k_is)
    (case g_CY => k_is)
    (case pg_C => k_is)
    (case hd_C => k_is)
    (case po_C => k_is)
    (case sa_C => k_is)
    (case ha_C => k_is)
    (case hm_C => k_is)
    (case ki_C => kit_is)
    (case hn => k_is)
    (case ht => k_is)
    (case pg_CT => k_is)
    (case hd_CT => k_is)
    (case po_CT => k_is)
    (case sa_CT => k_is)
    (case ha_CT => k_is)
    (case hm_CT => k_is)
    (case ki_CT => kit_is)
    (case pg_CY => k_is)
    (case hd_CY => k_is)
    (case po_CY => k_is)
    (case sa_CY => k_is)
    (case ha_CY => k_is)
    (case hm_CY => k_is)
    (case ki_CY => kit_is)
    (case g_c0 => k_is)
    (case g_c1 => k_is)
    (case g_c2 => k_is)
    (case g_c4 => k_is)
    (case g_c5 => k_is)
    (case ex_c0 => k_is)
    (case nf_c0 => k_is)
    (case ex_c1 => k_is)
    (case nf_c1 => k_is)
    (case ex_c2 => k_is)
    (case nf_c2 => k_is)
    (case ocl_c0 => k_is)
    (case ove_c0 => decide +kernel)
    (case osa_c0 => k_is)
    (case oty_c0 => k_is)
    (case okc_c0 => k_is)
    (case osb_c0 => k_is)
    (case osu_c0 => ks_is)
    (case osv_c0 => k_is)
    (case o_op => k_is)
    (case o_top => decide +kernel)
    (case a_ie => k_is)
    (case y_ie => k_is)
    (case l_ie => k_is)
    (case c_ie => k_is)
    (case e_ie => k_is)
    (case f2_ie => rfl)
    (case fl_ie => decide +kernel)
    (case ce_ie => k_is)
    (case ocl_c1 => k_is)
    (case ove_c1 => decide +kernel)
    (case osa_c1 => k_is)
    (case oty_c1 => k_is)
    (case okc_c1 => k_is)
    (case osb_c1 => k_is)
    (case osu_c1 => ks_is)
    (case osv_c1 => k_is)
    (case a_is => k_is)
    (case y_is => k_is)
    (case l_is => k_is)
    (case c_is => k_is)
    (case e_is => k_is)
    (case f2_is => rfl)
    (case fl_is => decide +kernel)
    (case ce_is => k_is)
    (case ocl_c2 => k_is)
    (case ove_c2 => decide +kernel)
    (case osa_c2 => k_is)
    (case oty_c2 => k_is)
    (case okc_c2 => k_is)
    (case osb_c2 => k_is)
    (case osu_c2 => ks_is)
    (case osv_c2 => k_is)
    (case a_iy => k_is)
    (case y_iy => k_is)
    (case l_iy => k_is)
    (case c_iy => k_is)
    (case e_iy => k_is)
    (case f2_iy => rfl)
    (case fl_iy => decide +kernel)
    (case ce_iy => k_is)
    (case exi_c4 => kernel_rfl)
    (case ekc_c4 => k_is)
    (case eb_c4 => k_is)
    (case et_c4 => k_is)
    (case exi_c5 => kernel_rfl)
    (case ekc_c5 => k_is)
    (case eb_c5 => k_is)
    (case et_c5 => k_is)
    (case v_let => k_is)
    (case v_lon => k_is)
    (case v_lv => k_is)
    (case v_mv => k_is)
    (case v_me => k_is)
    (case v_mn => k_is)
    (case v_scr => k_is)
    (case a_ei => k_is)
    (case l_ei => k_is)
    (case c_ei => k_is)
    (case k_ei => k_is)
    (case i_ei => k_is)
    (case mk_C => k_is)
    (case kc_C => k_is)
    (case d_scripts => k_is)
    (case d_needs => k_is)
    (case d_first => k_is)
    (case d_against => k_is)
    (case t_S => k_is)
    (case t_1 => k_is)
    (case t_2 => k_is)
    (case t_3 => k_is)
    (case na_C_parts => k_is)
    (case pa_g0 => k_is)
    (case pg_g0 => k_is)
    (case pt_g0 => k_is)
    (case pr_g0 => k_is)
    (case l_g0 => k_is)
    (case c_g0 => k_is)
    (case k_g0 => k_is)
    (case pa_g1 => k_is)
    (case pg_g1 => k_is)
    (case pt_g1 => k_is)
    (case pr_g1 => k_is)
    (case l_g1 => k_is)
    (case c_g1 => k_is)
    (case k_g1 => k_is)
    (case pa_g2 => k_is)
    (case pg_g2 => k_is)
    (case pt_g2 => k_is)
    (case pr_g2 => k_is)
    (case l_g2 => k_is)
    (case c_g2 => k_is)
    (case k_g2 => k_is)
    (case pa_g3 => k_is)
    (case pg_g3 => k_is)
    (case pt_g3 => k_is)
    (case pr_g3 => k_is)
    (case l_g3 => k_is)
    (case c_g3 => k_is)
    (case k_g3 => k_is)
    (case pa_g4 => k_is)
    (case pg_g4 => k_is)
    (case pt_g4 => k_is)
    (case pr_g4 => k_is)
    (case l_g4 => k_is)
    (case c_g4 => k_is)
    (case k_g4 => k_is)
    (case pa_g5 => k_is)
    (case pg_g5 => k_is)
    (case pt_g5 => k_is)
    (case pr_g5 => k_is)
    (case l_g5 => k_is)
    (case c_g5 => k_is)
    (case k_g5 => k_is)
    (case a_eq => k_is)
    (case l_eq => k_is)
    (case c_eq => k_is)
    (case k_eq => k_is)
    (case i_eq => k_is)
    (case x_C => k_is)
    (case xq_C => k_is)
    (case xn_C => k_is)
    (case xo_C => kernel_rfl)
    (case na_CT_table => k_is)
    (case na_CT_numbers => k_is)
    (case a_si => k_is)
    (case l_si => k_is)
    (case c_si => k_is)
    (case k_si => k_is)
    (case i_si => k_is)
    (case mk_CT => k_is)
    (case kc_CT => k_is)
    (case pa_sn => k_is)
    (case pg_sn => k_is)
    (case pt_sn => k_is)
    (case pr_sn => k_is)
    (case l_sn => k_is)
    (case c_sn => k_is)
    (case k_sn => k_is)
    (case a_sv => k_is)
    (case l_sv => k_is)
    (case c_sv => k_is)
    (case k_sv => k_is)
    (case i_sv => k_is)
    (case a_sl => k_is)
    (case l_sl => k_is)
    (case c_sl => k_is)
    (case k_sl => k_is)
    (case i_sl => k_is)
    (case a_sh => k_is)
    (case l_sh => k_is)
    (case c_sh => k_is)
    (case k_sh => k_is)
    (case i_sh => k_is)
    (case a_sg => k_is)
    (case l_sg => k_is)
    (case c_sg => k_is)
    (case k_sg => k_is)
    (case i_sg => k_is)
    (case fn_sg => k_is)
    (case na_CY_held_store => k_is)
    (case na_CY_held_states => k_is)
    (case a_yi => k_is)
    (case l_yi => k_is)
    (case c_yi => k_is)
    (case k_yi => k_is)
    (case i_yi => k_is)
    (case mk_CY => k_is)
    (case kc_CY => k_is)
    (case pa_ys => k_is)
    (case pg_ys => k_is)
    (case pt_ys => k_is)
    (case pr_ys => k_is)
    (case l_ys => k_is)
    (case c_ys => k_is)
    (case k_ys => k_is)
    (case pa_yt => k_is)
    (case pg_yt => k_is)
    (case pt_yt => k_is)
    (case pr_yt => k_is)
    (case l_yt => k_is)
    (case c_yt => k_is)
    (case k_yt => k_is)
    (case a_yg => k_is)
    (case l_yg => k_is)
    (case c_yg => k_is)
    (case k_yg => k_is)
    (case i_yg => k_is)
    (case fn_yg => k_is)
    (case v_sta => k_is)
    (case t_Z => k_is)
    (case v_abs => k_is)
    (case t_A => k_is)
    (case v_pen => k_is)
    (case t_Pn => k_is)
