import PyProof.Rows.All
import Wide.All
import OpenK.AllK
import Wide.FinOn
import KE.KExcSuper
import HandS.ForMost
import HandS.ForExc
import HandS.ExcInit
import PyProof.InstNe
import KE.KExcIs
import HandS.ExcIs
import HandS.SetFor
import HandS.IsInst
import HandS.Walk
import HandS.FStr
import HandS.More
import HandS.Codes
import HandS.Conv
import HandS.Defaults
import HandS.MakeKwOnly
import HandS.Property
import HandS.TupSets
import HandS.SetKeys
import HandS.SetTxt0
import HandS.Strs
import PyProof.Rows.SortShellAny
import HandS.SortRule
import HandS.SortOrd
import HandS.DictComp
import KE.GoesMore
import KE.KEqDict
import HandS.Lambda
import KE.KDflt
import HandS.Style
import HandS.TupAny
import HandS.Star
import KE.KRevSl
import HandS.ExcField
import HandS.TupLen
import HandS.RaiseMore
import HandS.ExcOwn
import HandS.FStrTup
import KE.DataMinMax
import KE.KDictWalk
import HandS.Iter
import HandS.Deep
import HandS.SetBool
import KE.SortData
import PyProof.Transfer
import KE.KDictSum
import HandS.TupMul
import HandS.DictTup
import PyProof.NeKinds
import HandS.List
import HandS.EndTab
import KE.KNestM
import KE.RegKIsAll
import KE.OsRunLaw
import HandS.Head2
import PySem.Challenge.RW_halfsetup_k31_layouts_rejected
set_option Elab.async false
set_option linter.all false
set_option maxRecDepth 100000
set_option maxHeartbeats 8000000
/-! a def (the own __init__ of an exception class) whose first statement is super().__init__(e) -/
namespace L2
open PySem PySem.Spec PyProof.Rows
theorem zip_rev_lookup : ∀ {ps : List Str} {us : List Value} {i : Nat} {y : Str} {u : Value}, ps.Nodup → ps[i]? = some y → us[i]? = some u → (ps.zip us).reverse.lookup y = some u
  | [], _, i, _, _, _, h, _ => by simp at h
  | p :: ps, [], i, _, _, _, _, h => by simp at h
  | p :: ps, u0 :: us, 0, y, u, nd, h1, h2 => by
    have e1 : p = y := by simpa using h1
    have e2 : u0 = u := by simpa using h2
    subst e1 e2
    have hp : p ∉ ps := (List.nodup_cons.mp nd).1
    have q : ((ps.zip us).reverse).lookup p = none := by
      rw [List.lookup_eq_none_iff]
      intro z hz
      have n : p ≠ z.1 := fun e' => hp (by rw [e']; exact (List.of_mem_zip (List.mem_reverse.mp hz)).1)
      simpa using n
    rw [List.zip_cons_cons, List.reverse_cons, List.lookup_append, q]
    simp [List.lookup]
  | p :: ps, u0 :: us, i + 1, y, u, nd, h1, h2 => by
    have ih := zip_rev_lookup (ps := ps) (us := us) (i := i) (y := y) (u := u) (List.nodup_cons.mp nd).2 (by simpa using h1) (by simpa using h2)
    rw [List.zip_cons_cons, List.reverse_cons, List.lookup_append, ih]
    rfl
/-- what a slot holds at the start is an argument -/
theorem start_val {N : List Str} {vs : List V} {i : Nat} {v : V} (h : (start N vs)[i]? = some (some v)) : vs[i]? = some v := by
  rcases Nat.lt_or_ge i vs.length with lt | ge
  · rw [show start N vs = vs.map some ++ List.replicate (N.length - vs.length) none from rfl, List.getElem?_append_left (by rwa [List.length_map]), List.getElem?_map, List.getElem?_eq_getElem lt] at h
    rw [List.getElem?_eq_getElem lt]
    exact Option.some.inj h
  · rw [show start N vs = vs.map some ++ List.replicate (N.length - vs.length) none from rfl, List.getElem?_append_right (by rwa [List.length_map])] at h
    exact nomatch (List.mem_replicate.mp (List.mem_of_getElem? h)).2
structure SupScope (N P : List Str) (sc : Scope) : Prop where
  kind : sc.kind = .function
  co : sc.isCoroutine = false
  gen : sc.isGenerator = false
  nd : N.Nodup
  pre : N.take P.length = P
  par : ∀ x ∈ P, sc.names.lookup x = some .local
  nocell : ∀ y ∈ sc.names, y.2 ≠ .cell
  free : ∀ y ∈ sc.names, y.2 = .free → y.1 = ("__class__" : Str)
  hs : sc.names.lookup ("super" : Str) = some .globalImplicit
  hc : sc.names.lookup ("__class__" : Str) = some .free
def cxSup (CX : CXT) (P : Program) (w : World) (K : PySem.W.Frag) (mg : Str → Option Value) (base : Heap) (N : List Str) (qual : Str) (scope : Scope) (f : Addr) (cd : Value) (cc : Addr) (A : Around) (outer : List Env) (s : Shared) (H : Hp) (E : XK) : Cx where
  prog := P
  w := w
  K := K
  mg := mg
  base := base
  A := A.deeper (PySem.W.ksEnv qual scope s.heap.objs.size f cd cc)
  N := N
  s_0 := s
  H_0 := H
  env := PySem.W.ksEnv qual scope s.heap.objs.size f cd cc
  outer := outer
  stack := PySem.W.ksEnv qual scope s.heap.objs.size f cd cc :: outer
  ex := []
  calm := true
  fn := fun _ => false
  pn := []
  xe := fun e s' => wpAny (model P w) (A.deeper (PySem.W.ksEnv qual scope s.heap.objs.size f cd cc)) (leaving (PySem.W.ksEnv qual scope s.heap.objs.size f cd cc) e) (fun _ s'' => CX outer H s E e s'') (fun e' s'' => CX outer H s E e' s'') s'
theorem inv_startS {CX : CXT} {P : Program} {w : World} {K : PySem.W.Frag} {mg : Str → Option Value} {base : Heap} {N ps : List Str} {qual : Str} {scope : Scope} {f cc : Addr} {cd : Value} {A : Around} {outer : List Env} {s : Shared} {H : Hp} {E : XK} {us : List Value} {vs : List V} {h₀ : Heap} {tk : Nat}
    {oc : Obj} {cv : Option Value} (S : SupScope N ps scope) (hd : A.handled = none) (e0 : Env0 P w K mg base A outer s H) (hl : vs.length = ps.length) (r : Vals vs us) (hcell : K.lookup cc = some oc) (hcd : oc.data = .cell cv)
    (hns : h₀.Ns s.heap.objs.size (fun x => (ps.zip us).reverse.lookup x)) (kp : ∀ b o, s.heap.get? b = some o → h₀.get? b = some o) :
    Inv (cxSup CX P w K mg base N qual scope f cd cc A outer s H E) [] (start N vs) H { s with heap := h₀, toks := tk } := by
  have hpl : ps.length ≤ N.length := by have := congrArg List.length S.pre; rw [List.length_take] at this; omega
  have noA : ∀ b : Addr, b ∉ (cxSup CX P w K mg base N qual scope f cd cc A outer s H E).ex := fun b z => absurd (show b ∈ ([] : List Addr) from z) (by simp)
  have hb := e0.bs cc oc (e0.mod.kin _ _ hcell)
  have lk : ∀ {y : Str} {c : Addr}, ([(("__class__" : Str), cc)] : List (Str × Addr)).lookup y = some c → y = ("__class__" : Str) ∧ c = cc := fun {y c} e => by
    simp only [List.lookup] at e
    split at e
    · rename_i q
      exact ⟨by simpa using q, (Option.some.inj e).symm⟩
    · cases e
  refine ⟨⟨e0.mod, S.kind, rfl, rfl, Nat.le_refl _, fun y z c h1 h2 => ?_, fun y hy => ?_, fun y c z _ => ?_, fun _ => hd, Around.frames_deeper e0.frames, .inr ⟨rfl, rfl⟩, fun b z => absurd z (noA b), e0.bs, e0.bsz, fun b _ _ => noA b, fun b z => absurd z (noA b), e0.funs, e0.frf⟩,
    rfl, e0.bare, Un.kept kp, ⟨_, hns, fun i y v h1 h2 h3 => ?_⟩, fun y c h => ?_, e0.hok.fresh (Nat.le_refl _), fun y c h => ?_, fun p hp => absurd (show p ∈ ([] : List (Addr × Obj)) from hp) (by simp), e0.hok.kept kp, ?_⟩
  · exact (lk h1).1.trans (lk h2).1.symm
  · have hy : scope.names.lookup y = some .cell ∨ scope.names.lookup y = some .free := hy
    rcases hy with hy | hy
    · exact absurd rfl (S.nocell _ (PySem.mem_of_lookup hy))
    · have e := S.free _ (PySem.mem_of_lookup hy) rfl
      have e : y = ("__class__" : Str) := e
      subst e
      exact ⟨cc, by show ([(("__class__" : Str), cc)] : List (Str × Addr)).lookup _ = _; simp [List.lookup]⟩
  · have z : false = true := z
    cases z
  · have ha := start_val h2
    have hi := (List.getElem?_eq_some_iff.mp ha).1
    obtain ⟨u, hu, rv⟩ := r.get ha
    have hp : ps[i]? = some y := by rw [← S.pre, List.getElem?_take_of_lt (by omega)]; exact h1
    have ndP : ps.Nodup := by rw [← S.pre]; exact S.nd.sublist (List.take_sublist _ _)
    exact ⟨u, rv, .inl ⟨S.par y (List.mem_of_getElem? hp), zip_rev_lookup ndP hp hu⟩⟩
  · have e := (lk h).2
    subst e
    exact ⟨cv, oc, kp _ _ hb.1, hcd⟩
  · have e := (lk h).2
    subst e
    exact hb.2
  · unfold start
    show _ = N.length
    rw [List.length_append, List.length_map, List.length_replicate]
    omega
/-- the built-in __init__, bound to the exception at a, called -/
theorem call_mw {P : Program} {w : World} {A : Around} {E : Value → Shared → Prop} {h : Heap} {g : Array GenState} {d : Drawn} {t : Nat} {os : OsState} {nm q : Str} {C N : Addr} {bs bm : List Value} {hdct : Bool} {sn : List Str} {sub : List Value} {ab : Bool} {col : Option Bool} {dd : Option Addr} {k0 k1 k2 k3 k5 : Option Value}
    {u e t0 : Addr} {rest : List Value} {Q : Value → Shared → Prop}
    (hC : h.get? C = some (excClassObj nm q C N bs bm hdct sn sub ab col dd k0 k1 k2 k3 k5 "ValueError.__new__")) (he : h.get? e = some (HandSPX.excO C t0)) (hu : h.get? u = some (PySem.W.kxs_mw "ValueError.__init__" e)) (hz : rest.length ≤ sizeLine)
    (hq : ∀ h' t1, (∀ b o, b ≠ e → h.get? b = some o → h'.get? b = some o) → h'.get? e = some (HandSPX.excO C t1) → Q .none ⟨h', g, d, t, os⟩) :
    wpAny (model P w) A (call (.ref u) rest) Q E ⟨h, g, d, t, os⟩ := by
  have FB := F.excBase_ValueError
  refine wpAny_call (codeAny_of_tree ?_); show wpAny _ A.in1 (callAny (.ref u) ⟨rest, []⟩) _ _ _
  simp only [callAny]; refine wpAny_bind (wpAny_load hu ?_)
  simp only [PySem.W.kxs_mw, show (Value.type "method-wrapper" == Value.type "method" || Value.type "method-wrapper" == Value.type "builtin_function_or_method" || Value.type "method-wrapper" == Value.type "method-wrapper") = true by decide, if_true]
  refine PySem.W.KFB.if_so (by decide) (wpAny_bind (PySem.W.check_bound_init FB.toExcCallFacts hC he rfl (wpAny_bind (wpAny_pure (wpAny_pure ⟨plainId_quiet FB.init.plain _, codeAny_builtin FB.initEntry ?_⟩)))))
  exact PySem.W.exc_init_tree (cls := .ref C) (t0 := t0) (dv := none) (c2 := .none) (c3 := .none) (b4 := .bool false) he hz fun h' k hx _ => hq h' h.objs.size k hx
/-- what the written part says besides, for super() in the __init__ of the class at D -/
structure SupC (P : Program) (K : PySem.W.Frag) (mg : Str → Option Value) (D : Addr) : Prop where
  oex : OexC K D
  sub : PySem.W.mroIn K D (.ref D) = some true
  sup : PySem.W.ks_superIn K D D "__init__" = some (some (.builtin "ValueError.__init__"))
  ve : PySem.W.subIn K (.ref D) (.type "ValueError") = some true
  op : PySem.W.nsIn K cStatics "thirdparty.any" = some none
  mgs : mg "super" = none
  top : (P.main.scope.names.lookup ("super" : Str)).isSome = false
theorem fn_sup {CX : CXT} {P : Program} {w : World} {K : PySem.W.Frag} {mg : Str → Option Value} {base : Heap} {k : Nat} {f cc D cda : Addr} {name qual : Str} {params : Arguments} {body rest : List Stmt} {scope : Scope} {dV kV doc pm ct oc : Value} {an od : Option Addr}
    {osl : Array (Option Value)} {N ps : List Str} {sp : Sp} {e : Expr} {p0 p1 p2 p3 p4 : Pos} {pl : Sem Bool} {ar : Arg} {vsc : Array Value} {file : Str} {tf : Tok} {ccl : Value} {cdd : Option Addr} {ccs : Array (Option Value)} {cl : Value} {cld : Option Addr} {csl : Array (Option Value)}
    (lk : K.lookup f = some ⟨oc, od, .func (PySem.W.ksFn name qual params body scope dV kV doc pm an (.ref cda) ct cc), osl⟩) (hcd : PySem.W.codeIn K (.ref cda) qual = true) (S : SupScope N ps scope)
    (hb : body = .Expr (.Call (.Attribute (.Call (.Name "super" p0) [] [] p1) "__init__" p2) [e] [] p3) p4 :: rest)
    (hp : (params.posonlyargs ++ params.args).head? = some ar) (hps : ps[0]? = some ar.arg)
    (hcode : K.lookup cda = some ⟨ccl, cdd, .fields vsc, ccs⟩) (hvs : vsc[2]? = some (.str file tf)) (hfile : ((P.main.file : Str) == file) = true)
    (hcell : K.lookup cc = some ⟨cl, cld, .cell (some (.ref D)), csl⟩) (T : SupC P K mg D)
    (len : ∀ vs H Q E, sp vs H Q E → vs.length = ps.length)
    (he : ∀ L : Addr, starEach [e] (PySem.W.ksEnv qual scope L f (.ref cda) cc) = [(false, eval e (PySem.W.ksEnv qual scope L f (.ref cda) cc))])
    (hsw : ∀ L : Addr, swapsWith (.Call (.Attribute (.Call (.Name "super" p0) [] [] p1) "__init__" p2) [e] [] p3) none p4.line (PySem.W.ksEnv qual scope L f (.ref cda) cc) = pure false)
    (hev : ∀ L : Addr, eval (.Call (.Attribute (.Call (.Name "super" p0) [] [] p1) "__init__" p2) [e] [] p3) (PySem.W.ksEnv qual scope L f (.ref cda) cc) = (do
      let ov ← attributeBase (.Call (.Name "super" p0) [] [] p1) "__init__" (PySem.W.ksEnv qual scope L f (.ref cda) cc) (eval (.Call (.Name "super" p0) [] [] p1) (PySem.W.ksEnv qual scope L f (.ref cda) cc))
      standAt p2.atName
      let (fn, first) ← holding [ov] (getMethod ov "__init__" pl)
      callWith p3 fn first (backTo p3 (starEach [e] (PySem.W.ksEnv qual scope L f (.ref cda) cc))) []))
    (hbody : ∀ (A : Around) (outer : List Env) (s : Shared) (H : Hp) (vs : List V) (Q : VK) (E : XK), Room k (A.deeper (PySem.W.ksEnv qual scope s.heap.objs.size f (.ref cda) cc)) → sp vs H Q E →
      ∃ (a : Addr) (ta : TA) (t : TS), vs[0]? = some (.ref a) ∧ H a = some (exo a D none) ∧ PA (cxSup CX P w K mg base N qual scope f (.ref cda) cc A outer s H E) [e] ta ∧ PSs (cxSup CX P w K mg base N qual scope f (.ref cda) cc A outer s H E) rest t ∧
        ta (start N vs) H fun ws H1 => ws.length ≤ 1000 ∧ H1 a = some (exo a D none) ∧ t { nx := fun _ H' => Q .non H', rt := Q } (start N vs) H1) :
    FnOk P w K mg base CX (k + 1) f (PySem.W.ksFn name qual params body scope dV kV doc pm an (.ref cda) ct cc) ps sp := by
  refine ⟨len, fun A outer s H args us vs Q E hr e0 hbd r hsp => ?_⟩
  have hl := len _ _ _ _ hsp
  have KX : K.In s.heap := e0.mod.kin.keeps fun b o e => (e0.bs b o e).1
  have lim : s.heap.NoLimit := e0.mod.nolimit.keeps fun b o e => (e0.bs b o e).1
  obtain ⟨a, ta, t, hv0, ha, hpa, hpss, hq⟩ := hbody A outer s H vs Q E (hr.deeper _) hsp
  subst hb
  refine ks_codeAny_call_defAt (fd := PySem.W.ksFn name qual params _ scope dV kV doc pm an (.ref cda) ct cc) (binds := ps.zip us) hr.depth (KX _ _ lk) rfl lim (PySem.W.codeRec_of KX hcd) rfl hbd S.nocell (fun y hy => S.par _ (List.of_mem_zip hy).1) (fun h₀ hns kp => ?_) S.co S.gen S.kind
  have I := inv_startS (CX := CX) (E := E) (qual := qual) (f := f) (cd := .ref cda) (tk := s.toks + (ps.zip us).length) S hr.hd e0 hl r hcell rfl hns kp
  obtain ⟨u0, hu0, ru0⟩ := r.get hv0
  obtain rfl : u0 = Value.ref a := ru0
  have ndP : ps.Nodup := by rw [← S.pre]; exact S.nd.sublist (List.take_sublist _ _)
  have hself := zip_rev_lookup ndP hps hu0
  have KX0 : K.In h₀ := KX.keeps kp
  obtain ⟨nm, q, N', bs, bm, sn, sub, ab, col, dd, k0, k1, k2, k3, k5, hC, hbm⟩ := T.oex.cls
  have hcl : PySem.W.clsIn K D = some { name := nm, bases := bs, mro := .ref D :: bm, ns := N', qualname := q, hasDict := true, slotNames := sn, subclasses := sub, abstract := ab, collection := col, hasDel := false } := by unfold PySem.W.clsIn; rw [hC] <;> rfl
  obtain ⟨t1, ho⟩ := exo_at I.hok ha
  obtain ⟨mb, hmb, hbl⟩ := e0.mod.blt
  have bk : ∀ b o, base.get? b = some o → h₀.get? b = some o := fun b o e => kp b o (e0.bs b o e).1
  refine ks_wpAt_execs_cons (ks_wpAt_Expr_any (ks_wpAt_MethodCall (env := PySem.W.ksEnv qual scope s.heap.objs.size f (.ref cda) cc) ?_ (hev _)) I.quiet (hsw _))
  refine ks_wpAt_super_base (env := PySem.W.ksEnv qual scope s.heap.objs.size f (.ref cda) cc) S.hs S.hc (by decide) rfl (KX0 _ _ lk) rfl hp rfl (KX0 _ _ hcode) rfl hvs hfile T.top ?_
  refine PySem.W.ks_loadName_global S.kind S.hs (Calls.loadGlobal_builtin (e0.mod.glob.keeps bk) T.mgs (hmb.keeps bk) ((hbl _ (by decide)).trans (show bootBuiltins "super" = some (.type "super") by decide +kernel)) ⟨rfl, ?_⟩)
  refine wpAny_loadName_free S.kind S.hc rfl ⟨_, KX0 _ _ hcell, rfl⟩ ?_
  refine wpAny_loadName_local S.kind (S.par _ (List.mem_of_getElem? hps)) hns hself ?_
  refine ks_wpAny_isType_cls (KX0 _ _ hC) rfl ⟨rfl, ?_⟩
  obtain ⟨hs0, g, d, tk, os⟩ := s
  refine ks_wpAny_call_super (KX0 _ _ hC) rfl ho rfl (fun c z => by cases z) (PySem.W.looks_mroIn KX0 T.sub) (fun h1 e1 kp1 => ?_)
  have hsup := T.sup
  unfold PySem.W.ks_superIn at hsup
  rw [hcl] at hsup
  have KX1 : K.In h1 := KX0.keeps kp1
  have ho1 := kp1 _ _ ho
  have aD : a ≠ D := fun z => by
    rw [z] at ho1
    have := ho1.symm.trans (KX1 _ _ hC)
    cases this
  refine PySem.W.kxs_getMethod PySem.W.kxs_ValueError e1 (PySem.W.looks_opaque KX1 T.op) (fun A Q E s k q => wpAny_bind ((PySem.W.looks_clsIn KX1 hcl) A _ E s k (wpAny_pure q))) rfl KX1 hsup
    (PySem.W.InstAt.type (od := none) ⟨ho1, rfl, rfl, trivial⟩ |>.andThen (PySem.W.looks_subIn KX1 T.ve)) aD (by decide) ?_
  have kp2 : ∀ b o, h₀.get? b = some o → (h1.push (PySem.W.kxs_mw "ValueError.__init__" a)).get? b = some o := fun b o e => Heap.get?_push_of_some _ (kp1 b o e)
  have I2 := (I.kept (t' := tk + (ps.zip us).length + 1) kp2).pins_of (pins' := [(h1.objs.size, PySem.W.kxs_mw "ValueError.__init__" a)]) fun p hp => by
    have e : p = (h1.objs.size, PySem.W.kxs_mw "ValueError.__init__" a) := by simpa using hp
    subst e
    have big : h₀.objs.size ≤ h1.objs.size := by
      refine Nat.le_of_lt (Nat.lt_of_le_of_lt ?_ (Heap.lt_size e1))
      exact Nat.le_refl _
    refine ⟨Heap.get?_push_at rfl rfl, I.hok.fresh big, ?_, I.nofs big, fun v z => by cases z⟩
    exact Nat.ne_of_gt (Nat.lt_of_lt_of_le I.lt big)
  refine PySem.W.kxs_callWith (i := "ValueError.__init__") (x := a) (by rw [he _]; rfl) ?_
  rw [he _]
  refine Calls.evalArgs_plain ?_
  have hrun := hpa.run p3 _ _ (start N vs) H _ I2 hq
  have he' : starEach [e] (cxSup CX P w K mg base N qual scope f (.ref cda) cc A outer ⟨hs0, g, d, tk, os⟩ H E).env = _ := he _
  rw [he'] at hrun
  refine thn hrun fun ws s2 ⟨vs2, H1, I3, r3, hlen, ha1, ht⟩ => ?_
  obtain ⟨hu, _⟩ := I3.pin (h1.objs.size, PySem.W.kxs_mw "ValueError.__init__" a) (by simp)
  refine ⟨hu, ?_⟩
  obtain ⟨t2, ho2⟩ := exo_at I3.hok ha1
  obtain ⟨hp2, g2, d2, tk2, os2⟩ := s2
  refine call_mw (I3.kIn _ _ hC) ho2 hu (by rw [List.nil_append, ← Paired.length r3, sizeLine_eq]; omega) fun h' t3 k' hx => ?_
  have J0 := I3.write (t' := tk2) (x := a) (e := a) (o := exo a D none) (by rw [ha1]; exact True.intro) (.inl rfl) k' ⟨_, hx⟩ (exo_ok hx)
  have eu : upd H1 a (exo a D none) = H1 := by
    funext b
    by_cases hb : b = a
    · rw [hb, upd_same, ha1]
    · rw [upd_ne hb]
  rw [eu] at J0
  refine wpAt_of_wpAny (wpAny_mono (hpss.run _ _ (start N vs) H1 _ J0 ht) (fun fl s' hs => ?_) fun e s' hs => hs)
  have fin : ∀ {σ' : St} {H' : Hp} {v : V} {u : Value}, Inv (cxSup CX P w K mg base N qual scope f (.ref cda) cc A outer ⟨hs0, g, d, tk, os⟩ H E) [(h1.objs.size, PySem.W.kxs_mw "ValueError.__init__" a)] σ' H' s' → RelV v u → Q v H' → CE outer P w H ⟨hs0, g, d, tk, os⟩ Q u s' :=
    fun {σ' H' v u} J rv q => ⟨v, H', J.os, J.bare, J.base, J.hok, rv, q⟩
  match fl, hs with
  | .ret _, ⟨_, _, _, J, rv, q⟩ => exact fin J rv q
  | .next, ⟨_, _, J, q⟩ => exact fin (v := .non) J rfl q
  | .brk, ⟨_, _, _, q⟩ => exact q.elim
  | .cont, ⟨_, _, _, q⟩ => exact q.elim
end L2

namespace L2
open PySem PySem.Spec PyProof.Rows
/-! ### isinstance of a caught error, with or without a dict of its own -/
def rIsX (K : PySem.W.Frag) (a : Addr) (cls : Value) (d : Option Addr) : List V → Hp → VK → Prop := fun xs H Q => ∃ (c : V) (cv : Value) (b : Bool) (D : Addr), xs = [.ref a, c] ∧ (∀ u, RelV c u → u = cv) ∧ cls = .ref D ∧ ExcC K D ∧ PySem.W.kitOne K (.ref D) cv = some b ∧
  (d = none ∨ ∃ dd fs, d = some dd ∧ H dd = some (.xd fs)) ∧ Q (.bl b) H
theorem call_isX {X : Cx} {a : Addr} {oe : Obj} {cls : Value} {d : Option Addr} {pn : List (Addr × Obj)} (hz : Zc cls d oe) (hf : ∃ vs, oe.data = .fields vs) : CallR (X.suite a ((a, oe) :: pn)) (.builtin "isinstance") (rIsX X.K a cls d) := by
  intro pins s σ H xs us Q I r h
  obtain ⟨c, cv, b, D, rfl, hcv, rfl, C, e, hd, q⟩ := h
  cases r with
  | cons rx rr =>
    cases rr with
    | cons rt rr =>
      cases rr
      cases rx
      have ec := hcv _ rt
      subst ec
      obtain ⟨hget, _⟩ := I.pin (a, oe) (List.mem_append.mpr (.inl List.mem_cons_self))
      obtain ⟨vs, hv⟩ := hf
      have J : ∃ od, PySem.W.InstAt s.heap a oe D od := by
        rcases hd with hd | ⟨dd, fs, hd, hxd⟩
        · exact ⟨none, hget, hz.1, by unfold PySem.W.notCls; rw [hv] <;> rfl, by rw [hz.2, hd]; trivial⟩
        · obtain ⟨mA, hns, _⟩ := (show ObjOk X.prog X.w H s.heap dd (.xd fs) from I.hok dd _ hxd)
          obtain ⟨od, ho, _⟩ := lookIn_ns hns
          exact ⟨some od, hget, hz.1, by unfold PySem.W.notCls; rw [hv] <;> rfl, by rw [hz.2, hd]; exact ho⟩
      obtain ⟨od, J⟩ := J
      have hcl : (PySem.W.clsIn X.K D).isSome = true := by
        obtain ⟨cd, hc, _⟩ := PySem.W.any_some C.hd
        rw [hc]
        rfl
      exact PySem.W.kia_one (PySem.W.kitx_exc hcl C.hg C.hk C.hs C.ha C.hn C.ht C.hm) I.kIn J e (fun z => nomatch z) fun tk => ⟨.bl b, H, I.kept (t' := tk) fun _ _ z => z, rfl, q⟩
/-! ### xs.count(True), a list of True and False -/
def eqb (v : Value) : Bool := match v with
  | .bool b => b
  | _ => false
theorem eqb_all {A : Around} {s : Shared} : ∀ {us : List Value} {bs : List Bool}, Vals (bs.map V.bl) us → (∀ y ∈ us, SeqAt.EqAt A s y (.bool true) (eqb y)) ∧ us.countP eqb = bs.count true
  | _, [], h => by
    cases h
    refine ⟨fun y hy => ?_, rfl⟩; cases hy
  | _, b :: bs, h => by
    cases h with
    | @cons _ u _ us r t =>
      obtain ⟨h1, h2⟩ := eqb_all (A := A) (s := s) t
      obtain rfl : u = Value.bool b := r
      refine ⟨fun y hy => ?_, ?_⟩
      · rcases List.mem_cons.mp hy with e | e
        · rw [e]
          have z := eqAt_V (A := A) (s := s) (y := .bl b) (x := .bl true) (u := .bool b) (v := .bool true) rfl rfl rfl rfl
          have e2 : eqV (.bl b) (.bl true) = eqb (.bool b) := by cases b <;> decide
          rw [e2] at z
          exact z
        · exact h1 y e
      · rw [List.countP_cons, List.count_cons, h2]
        cases b <;> rfl
def rCntB (K : PySem.W.Frag) : V → List V → Hp → VK → Prop := fun x xs H Q => ∃ (p : Addr) (bs : List Bool), x = .ref p ∧ xs = [.bl true] ∧ SqL K H p (bs.map V.bl) ∧ Q (.int (bs.count true : Nat)) H
theorem mt_countB {X : Cx} : MtR X "list.count" (rCntB X.K) := by
  intro pins s σ H x xs v us Q I rx rxs h
  obtain ⟨p, bs, rfl, rfl, hS, q⟩ := h
  cases rx
  obtain ⟨u, rfl, ru⟩ := rxs.one
  obtain rfl : u = Value.bool true := ru
  obtain ⟨its, r, ⟨⟨cls, dd, data, sl⟩, n, ho, hc, hdn, hd⟩, z⟩ := I.list hS
  simp only at hc hd
  subst hc hd
  refine call_meets PySem.F.slot_list_count ⟨_, ho, rfl⟩ PySem.F.entry_list_count (PySem.F.args_list_count_2 _ _) (SeqAt.list_countAt p its.toArray n dd sl (.bool true) eqb) ⟨ho, fun y hy => (eqb_all r).1 y (by simpa using hy), ?_⟩
  have ec : its.toArray.toList.countP eqb = bs.count true := (eqb_all (A := X.A) (s := s) r).2
  refine ⟨.int (bs.count true : Nat), H, I.tok _, ⟨s.toks, congrArg (fun n : Nat => Value.int (n : Int) s.toks) ec⟩, q⟩
/-! ### == and != of two instances of a class with its own __eq__, whatever it answers -/
theorem ns_someX {K : PySem.W.Frag} {h : Heap} {N : Addr} {m : Str → Option Value} {n : Str} {v : Value} (X : K.In h) (G : h.Ns N m) (e : PySem.W.nsIn K N n = some (some v)) : m n = some v := by
  obtain ⟨o, es, ep, ho, hd, _, hf⟩ := G
  unfold PySem.W.nsIn at e; split at e
  · rename_i c d es' n' sl q
    have z := X _ _ q; rw [ho] at z; cases z; cases hd
    split at e
    · rename_i ent he
      rw [← hf]; unfold nsFind findBy; rw [← Array.find?_toList, he]
      simpa using e
    · split at e <;> cases e
  · cases e
structure OwnEqC (K : PySem.W.Frag) (C f : Addr) : Prop where
  cls : ∃ nm q N bs hd sn sub ab col dd k0 k1 k2 k3 k5 newId, K.lookup C = some (excClassObj nm q C N bs [.type "object"] hd sn sub ab col dd k0 k1 k2 k3 k5 newId) ∧ PySem.W.nsIn K N "__eq__" = some (some (.ref f)) ∧ PySem.W.nsIn K N "__ne__" = some none ∧ PySem.W.nsOkIn K N = true
  fi : PySem.W.findIn K (.ref C) "__eq__" = some (some (.ref f))
  fn : PySem.W.isFn K (.ref f) = true
def rEqO (C : Addr) (sp : Sp) (fl : Bool → Bool) : R2 := fun x y H Q => ∃ a b dx dy fs gs, x = .ref a ∧ y = .ref b ∧ H a = some (.ins C dx fs) ∧ H b = some (.ins C dy gs) ∧ sp [.ref a, .ref b] H (fun v H' => ∃ r, v = .bl r ∧ Q (.bl (fl r)) H') E0
section
variable {X : Cx} {C f : Addr} {fd : FuncData} {ps : List Str} {sp : Sp} {k : Nat}
theorem call_eqO (F : FnOk X.prog X.w X.K X.mg X.base CX0 k f fd ps sp) (hb : Binds X.K fd ps []) {A : Around} (hr : Room k A) (hA : A.frames = X.A.frames) {pins : List (Addr × Obj)} {s : Shared} {σ : St} {H : Hp} {a b : Addr} {Q : VK} {E : Value → Shared → Prop} (I : Inv X pins σ H s) (hsp : sp [.ref a, .ref b] H Q E0) :
    wpAny (model X.prog X.w) A (call (.ref f) [.ref a, .ref b]) (EP X pins σ Q) E s := by
  have e0 : Env0 X.prog X.w X.K X.mg X.base A X.stack s H := by
    have e := I.env0
    exact ⟨by rw [hA]; exact e.frames, e.mod, e.bs, e.bsz, e.funs, e.frf, e.hok, e.bare⟩
  have hl := F.len _ _ _ _ hsp
  have r2 : Vals [V.ref a, V.ref b] [Value.ref a, Value.ref b] := .cons rfl (.cons rfl .nil)
  have hbd := hb s [.ref a, .ref b] I.kIn (by simpa using hl)
  rw [List.append_nil] at hbd
  refine wpAny_call (codeAny_mono (F.run A X.stack s H ⟨[.ref a, .ref b], []⟩ [.ref a, .ref b] [.ref a, .ref b] _ E0 hr e0 hbd r2 hsp) fun r s' hq => ?_)
  cases r with
  | error e => exact (show False from hq).elim
  | ok fl =>
    cases fl with
    | ret w => exact I.after hq
    | next => exact False.elim hq
    | brk => exact False.elim hq
    | cont => exact False.elim hq
theorem op_eqO (F : FnOk X.prog X.w X.K X.mg X.base CX0 k f fd ps sp) (T : OwnEqC X.K C f) (hb : Binds X.K fd ps []) (hr : Room k X.A) : OpR X (compareOp .Eq) (rEqO C sp id) := by
  intro pins s σ H x y v u Q I rx ry hq
  obtain ⟨a, b, dx, dy, fs, gs, rfl, rfl, ha, hb', hsp⟩ := hq
  cases rx
  cases ry
  obtain ⟨mA, J, _⟩ := ins_get I.hok ha
  obtain ⟨mB, J', _⟩ := ins_get I.hok hb'
  obtain ⟨od, J, _⟩ := J.look
  obtain ⟨od', J', _⟩ := J'.look
  obtain ⟨m, hF⟩ := I.fr
  show wpAny (model X.prog X.w) X.A (richCompare .Eq (.ref a) (.ref b)) (EP X pins σ Q) X.xe s
  refine PySem.W.cmp_K (op := .Eq) (tb := .ref C) hr.units0 hF I.ok.mod.kin J J'.type (by simp [PySem.W.notFirst]) T.fi T.fn ?_
  refine thn (call_eqO F hb hr rfl I hsp) fun w s' hw => ?_
  obtain ⟨z, H', I', rz, r, rfl, q⟩ := hw
  obtain rfl : w = Value.bool r := rz
  exact ⟨.bl r, H', I', rfl, q⟩
theorem op_neO (F : FnOk X.prog X.w X.K X.mg X.base CX0 k f fd ps sp) (T : OwnEqC X.K C f) (hb : Binds X.K fd ps []) (hr : Room (k + 1) X.A) : OpR X (compareOp .NotEq) (rEqO C sp not) := by
  intro pins s σ H x y v u Q I rx ry hq
  obtain ⟨a, b, dx, dy, fs, gs, rfl, rfl, ha, hb', hsp⟩ := hq
  cases rx
  cases ry
  obtain ⟨mA, J, _⟩ := ins_get I.hok ha
  obtain ⟨mB, J', _⟩ := ins_get I.hok hb'
  obtain ⟨od, J, _⟩ := J.look
  obtain ⟨od', J', _⟩ := J'.look
  obtain ⟨nm, q, N, bs, hd, sn, sub, ab, col, dd, k0, k1, k2, k3, k5, newId, hC, he, hn, hok⟩ := T.cls
  have KX := I.kIn
  obtain ⟨of, hof, hofc⟩ : ∃ of, s.heap.get? f = some of ∧ of.cls = .type "function" := by
    have z := T.fn
    unfold PySem.W.isFn at z
    cases e : X.K.lookup f with
    | none => simp [PySem.W.typeIn, e] at z
    | some of => exact ⟨of, KX _ _ e, by simpa [PySem.W.typeIn, e] using z⟩
  have hN := Heap.Ns.of_isNs (PySem.W.isNs_of_in KX hok)
  have h1 := ns_someX KX hN he
  have h2 := PySem.W.ns_none_of KX hN hn
  obtain ⟨hp, g, d, t, os⟩ := s
  refine compareOp_ne_ownEq (C := C) (f := f) PySem.F.cmp_object ⟨_, of, nm, q, N, bs, hd, sn, sub, ab, col, dd, k0, k1, k2, k3, k5, newId, _, _, J.at_, J.cls, KX _ _ hC, hN, h1, hof, hofc, PySem.F.mro_object, PySem.F.cmp_object.eq.lookup, h2⟩ J'.at_ J'.cls (hu_of hr) ?_
  refine thn (call_eqO F hb hr.in1 rfl I hsp) fun w s' hw => ?_
  obtain ⟨z, H', I', rz, r, rfl, q⟩ := hw
  obtain rfl : w = Value.bool r := rz
  exact ⟨r, rfl, .bl (!r), H', I', rfl, q⟩
end
end L2

namespace Half
open PySem PySem.Spec PyProof.Rows L2
def top (i : Nat) : Stmt := PySem.Challenge.pw_halfsetup_k31_layouts_rejected.main.body.getD i (.Pass ⟨0, 0, 0, 0⟩)
abbrev sTaken : Stmt := top 39
/-- the row of draws: the script, how many of its cells were read, the seed, what is left of a great cell -/
def Row (K : PySem.W.Frag) (H : Hp) (r a : Addr) : Prop := ∃ (ns : List Int) (i g l : Int), H r = some (.lst [.ref a, .int i, .int g, .int l]) ∧ SqL K H a (ns.map V.int) ∧ ns.length ≤ 63 ∧ 0 ≤ i
/-- a draw: some number below the bound; the row alone is changed -/
def spTaken (K : PySem.W.Frag) : Sp := fun vs H Q _ => ∃ (r : Addr) (m : Int) (a : Addr), vs = [.ref r, .int m] ∧ Row K H r a ∧ 0 < m ∧ m < 1073741824 ∧
  ∀ (v : Int) (o : HO), 0 ≤ v → v < m → Row K (upd H r o) r a → Q (.int v) (upd H r o)
theorem seqNe {K : PySem.W.Frag} {H : Hp} {r a : Addr} {o : HO} {xs : List V} (h : SqL K H a xs) (n : r ≠ a) : SqL K (upd H r o) a xs := by
  rcases h with (h | ⟨q, h⟩) | h
  · exact .inl (.inl (by rw [upd_ne (Ne.symm n)]; exact h))
  · exact .inl (.inr ⟨q, by rw [upd_ne (Ne.symm n)]; exact h⟩)
  · exact .inr h
theorem Row.seq {K : PySem.W.Frag} {H : Hp} {r a b : Addr} {o : HO} {ns : List Int} {l : List V} (hr : H r = some (.lst (.ref b :: l))) (h : SqL K H a (ns.map V.int)) : SqL K (upd H r o) a (ns.map V.int) := by
  have z : HO.lst (ns.map V.int) ≠ HO.lst (.ref b :: l) := fun z => by
    have z' : ns.map V.int = .ref b :: l := by injection z
    cases ns with
    | nil => cases z'
    | cons n ns => cases z'
  rcases h with (h | ⟨q, h⟩) | h
  · exact .inl (.inl (by rw [upd_ne (ne_of h hr z)]; exact h))
  · exact .inl (.inr ⟨q, by rw [upd_ne (ne_of h hr (fun w => by cases w))]; exact h⟩)
  · exact .inr h
structure TxtD (mg : Str → Option Value) : Prop where
  int : mg "int" = none
  len : mg "len" = none
section
variable {P : Program} {w : World} {K : PySem.W.Frag} {mg : Str → Option Value} {base : Heap}
theorem scTaken : FnScope ["_law_row", "_law_many", "_law_found", "_law_cell"] ["_law_row", "_law_many"] (defScope sTaken) := ⟨rfl, rfl, rfl, by decide +kernel, rfl, by decide +kernel, by decide +kernel⟩
theorem ok_taken {f : Addr} {fd : FuncData} (F : Fun K "_law_taken" "_law_taken" sTaken f fd) (T : TxtD mg) : FnOk P w K mg base CX0 1 f fd ["_law_row", "_law_many"] (spTaken K) := by
  refine F.ok scTaken (fun vs H Q E h => ?_) (fun cdv A outer s H vs Q E hr h => ?_)
  · obtain ⟨r, m, a, rfl, _⟩ := h
    rfl
  · obtain ⟨r, m, a, rfl, ⟨ns, i, g, l, hR, hS, hlen, hi⟩, hm0, hm1, k⟩ := h
    have nd := scTaken.nd
    refine ⟨_, pss_cons (ps_if (pt_cmpR op_gt (pe_ix ix_list (pv 0) pe_int (fun _ _ => rfl)) pe_int (nomark _))
        (pss_cons (ps_set (i := 2) nd rfl (Or.inl rfl) (pe_op op_mod (pe_callTy call_int1 (by rfl) T.int (by decide +kernel) (pa_cons (pe_ix ix_list (pv 0) pe_int (fun _ _ => rfl)) pa_nil)) (pv 1)))
        (pss_cons (ps_asg (pe_op op_fdiv (pe_ix ix_list (pv 0) pe_int (fun _ _ => rfl)) (pv 1)) (pg_sub (pv 0) pe_int set_list))
        (pss_one (ps_ret (pv 2))))) pss_nil)
      (pss_cons (ps_asg (pe_op op_add (pe_ix ix_list (pv 0) pe_int (fun _ _ => rfl)) pe_int) (pg_sub (pv 0) pe_int set_list))
      (pss_cons (ps_if (pt_cmpR op_gt (pe_ix ix_list (pv 0) pe_int (fun _ _ => rfl)) (pe_callB call_len_seq (by rfl) T.len PySem.boot_len (pa_cons (pe_ix ix_list (pv 0) pe_int (fun _ _ => rfl)) pa_nil)) (nomark _))
        (pss_cons (ps_asg (pe_op op_mod (pe_callTy call_int1 (by rfl) T.int (by decide +kernel) (pa_cons (pe_op op_add (pe_op op_mul (pe_ix ix_list (pv 0) pe_int (fun _ _ => rfl)) pe_int) pe_int) pa_nil)) pe_int) (pg_sub (pv 0) pe_int set_list))
        (pss_one (ps_ret (pe_op op_mod (pe_callTy call_int1 (by rfl) T.int (by decide +kernel) (pa_cons (pe_op op_fdiv (pe_ix ix_list (pv 0) pe_int (fun _ _ => rfl)) pe_int) pa_nil)) (pv 1))))) pss_nil)
      (pss_cons (ps_set (i := 3) nd rfl (Or.inl rfl) (pe_ix ix_list (pe_ix ix_list (pv 0) pe_int (fun _ _ => rfl)) (pe_op op_sub (pe_ix ix_list (pv 0) pe_int (fun _ _ => rfl)) pe_int) (fun _ _ => rfl)))
      (pss_cons (ps_asg (pe_op op_mod (pe_callTy call_int1 (by rfl) T.int (by decide +kernel) (pa_cons (pe_op op_add (pe_op op_add (pe_op op_mul (pe_ix ix_list (pv 0) pe_int (fun _ _ => rfl)) pe_int) (pv 3)) pe_int) pa_nil)) pe_int) (pg_sub (pv 0) pe_int set_list))
      (pss_cons (ps_if (pt_cmpR op_ge (pv 3) (pe_op op_pow pe_int pe_int) (nomark _)) (pss_one (ps_asg (pe_op op_fdiv (pv 3) (pv 1)) (pg_sub (pv 0) pe_int set_list))) pss_nil)
      (pss_one (ps_ret (pe_op op_mod (pe_callTy call_int1 (by rfl) T.int (by decide +kernel) (pa_cons (pv 3) pa_nil)) (pv 1))))))))), ?_⟩
    have mk : ∀ (i' g' l' : Int), 0 ≤ i' → ∀ o, o = HO.lst [.ref a, .int i', .int g', .int l'] → Row K (upd H r o) r a := fun i' g' l' h o e => ⟨ns, i', g', l', by rw [upd_same, e], Row.seq hR hS, hlen, h⟩
    refine ⟨_, rfl, r, _, _, _, rfl, rfl, SqL.of hR, rfl, _, _, rfl, rfl, _, rfl, ?_⟩
    refine ite2 (fun c => ?_) (fun c => ?_)
    · refine ⟨_, rfl, r, _, _, _, rfl, rfl, SqL.of hR, rfl, .inl ⟨_, rfl, _, rfl, _, _, rfl, rfl, hm0, ?_⟩⟩
      refine ⟨_, rfl, r, _, _, _, rfl, rfl, SqL.of hR, rfl, _, rfl, _, _, rfl, rfl, ⟨hm0, hm1⟩, _, rfl, r, _, _, _, rfl, rfl, hR, rfl, ?_⟩
      refine ⟨_, rfl, ?_⟩
      exact k _ _ (Int.emod_nonneg _ (by omega)) (Int.emod_lt_of_pos _ hm0) (mk i g (l / m) hi _ rfl)
    · refine ⟨_, rfl, r, _, _, _, rfl, rfl, SqL.of hR, rfl, _, _, rfl, rfl, _, rfl, r, _, _, _, rfl, rfl, hR, rfl, ?_⟩
      have hR1 : ∀ o : HO, (upd H r o) r = some o := fun o => upd_same
      refine ⟨_, rfl, r, _, _, _, rfl, rfl, SqL.of (hR1 _), rfl, _, rfl, r, _, _, _, rfl, rfl, SqL.of (hR1 _), rfl, a, _, rfl, .inl (Row.seq hR hS), _, _, rfl, rfl, _, rfl, ?_⟩
      refine ite2 (fun c2 => ?_) (fun c2 => ?_)
      · refine ⟨_, rfl, r, _, _, _, rfl, rfl, SqL.of (hR1 _), rfl, _, _, rfl, rfl, .inr ⟨by decide, by decide⟩, _, _, rfl, rfl, .inl ⟨_, rfl, _, _, rfl, rfl, (by show (0 : Int) < 2147483647; decide), _, rfl, r, _, _, _, rfl, rfl, hR1 _, rfl, ?_⟩⟩
        rw [upd_upd]
        refine ⟨_, rfl, r, _, _, _, rfl, rfl, SqL.of (hR1 _), rfl, _, _, rfl, rfl, ⟨by decide, by decide⟩, .inl ⟨_, rfl, _, rfl, _, _, rfl, rfl, hm0, ?_⟩⟩
        exact k _ _ (Int.emod_nonneg _ (by omega)) (Int.emod_lt_of_pos _ hm0) (mk (i + 1) _ l (by omega) _ rfl)
      · have c3 : ¬ ((ns.map V.int).length : Int) < i + 1 := fun z => c2 (decide_eq_true z)
        rw [List.length_map] at c3
        have hin : i.toNat < ns.length := by omega
        have hat : atI (ns.map V.int) ((i + 1) - 1) = some (V.int ns[i.toNat]) := by
          have e : (i + 1) - 1 = ((i.toNat : Nat) : Int) := by omega
          rw [e]
          refine atI_nat ?_
          rw [List.getElem?_map, List.getElem?_eq_getElem hin]
          rfl
        refine ⟨_, rfl, r, _, _, _, rfl, rfl, SqL.of (hR1 _), rfl, _, rfl, r, _, _, _, rfl, rfl, SqL.of (hR1 _), rfl, _, _, rfl, rfl, a, _, _, _, rfl, rfl, Row.seq hR hS, hat, ?_⟩
        refine ⟨_, rfl, r, _, _, _, rfl, rfl, SqL.of (hR1 _), rfl, _, _, rfl, rfl, .inr ⟨by decide, by decide⟩, _, rfl, _, _, rfl, rfl, _, _, rfl, rfl, .inl ⟨_, rfl, _, _, rfl, rfl, (by show (0 : Int) < 2147483647; decide), _, rfl, r, _, _, _, rfl, rfl, hR1 _, rfl, ?_⟩⟩
        rw [upd_upd]
        refine ⟨_, rfl, _, _, rfl, rfl, ⟨by decide, by decide, by decide⟩, _, _, rfl, rfl, _, rfl, ?_⟩
        refine ite2 (fun c4 => ?_) (fun c4 => ?_)
        · refine ⟨_, rfl, _, rfl, _, _, rfl, rfl, ⟨hm0, hm1⟩, _, rfl, r, _, _, _, rfl, rfl, hR1 _, rfl, ?_⟩
          rw [upd_upd]
          refine ⟨_, rfl, .inl ⟨_, rfl, _, rfl, _, _, rfl, rfl, hm0, ?_⟩⟩
          exact k _ _ (Int.emod_nonneg _ (by omega)) (Int.emod_lt_of_pos _ hm0) (mk (i + 1) _ _ (by omega) _ rfl)
        · refine ⟨_, rfl, .inl ⟨_, rfl, _, rfl, _, _, rfl, rfl, hm0, ?_⟩⟩
          exact k _ _ (Int.emod_nonneg _ (by omega)) (Int.emod_lt_of_pos _ hm0) (mk (i + 1) _ _ (by omega) _ rfl)
end
end Half

namespace Half
open PySem PySem.Spec PyProof.Rows L2
abbrev sWord : Stmt := top 3
abbrev sNumber : Stmt := top 4
abbrev sAscends : Stmt := top 5
abbrev sVersion : Stmt := top 17
abbrev sScripts : Stmt := top 18
abbrev sOthers : Stmt := top 19
abbrev sPair : Stmt := top 20
abbrev sNeeds : Stmt := top 21
/-! comprehensions that make one item of each -/
def MapP (H1 : Hp) (D : Addr) (ys : List V) : Nat → Hp → Prop := fun i H => Same H1 H ∧ H D = some (.lst (ys.take i))
theorem MapP.zero {H1 : Hp} {D : Addr} {ys : List V} (hD : H1 D = none) : MapP H1 D ys 0 (upd H1 D (.lst [])) :=
  ⟨fun b o e => by rw [upd_ne (ne_of_none e hD)]; exact e, upd_same⟩
theorem MapP.step {H1 H H4 : Hp} {D : Addr} {ys : List V} {i : Nat} {y : V} (p : MapP H1 D ys i H) (hD : H1 D = none) (hy : ys[i]? = some y) (hl : ys.length ≤ 1000) (e : Same H H4) :
    ∃ acc, H4 D = some (.lst acc) ∧ acc.length < sizeLine ∧ MapP H1 D ys (i + 1) (upd H4 D (.lst (acc ++ [y]))) := by
  refine ⟨_, e _ _ p.2, small1000 (by rw [List.length_take]; omega), fun b o q => ?_, ?_⟩
  · rw [upd_ne (ne_of_none q hD)]
    exact e _ _ (p.1 b o q)
  · rw [upd_same, List.take_add_one, hy]
    rfl
theorem MapP.done {H1 H : Hp} {D : Addr} {ys : List V} {n : Nat} (p : MapP H1 D ys n H) (hn : n = ys.length) : Same H1 H ∧ H D = some (.lst ys) := by
  refine ⟨p.1, ?_⟩
  rw [p.2, hn, List.take_length]
theorem iteNT {c A B : Prop} [Decidable c] (hc : ¬ c) (h : A) : if (!decide c) = true then A else B := by
  rw [decide_eq_false hc]
  exact iteT h
/-! the mirror -/
def LET : Str := "abcdefghijklmnopqrstuvwxyz"
def isWord (z : Str) : Bool := decide (1 ≤ (z.length : Int)) && decide ((z.length : Int) ≤ 8) && z.cps.toList.all fun c => decide (c ∈ LET.cps.toList)
/-- what the top says -/
structure TxtC (K : PySem.W.Frag) (mg : Str → Option Value) (fW fN fA fV fO fP : Addr) (tS : Addr) : Prop where
  d : TxtD mg
  isi : mg "isinstance" = none
  str : mg "str" = none
  boo : mg "bool" = none
  tup : mg "tuple" = none
  all : mg "all" = none
  ran : mg "range" = none
  lets : ∃ t, mg "LETTERS" = some (.str LET t)
  lon : ∃ t, mg "LONGEST_WORD" = some (.int 8 t)
section
variable {P : Program} {w : World} {K : PySem.W.Frag} {mg : Str → Option Value} {base : Heap} {fW fN fA fV fO fP tS : Addr}
def spWord : Sp := fun vs H Q _ => ∃ z : Str, vs = [.str z] ∧ z.length ≤ 1000 ∧ ∀ H', Same H H' → Q (.bl (isWord z)) H'
theorem scWord : FnScope ["text", "letter"] ["text"] (defScope sWord) := ⟨rfl, rfl, rfl, by decide +kernel, rfl, by decide +kernel, by decide +kernel⟩
theorem ok_word {f : Addr} {fd : FuncData} (F : Fun K "is_word" "is_word" sWord f fd) (T : TxtC K mg fW fN fA fV fO fP tS) : FnOk P w K mg base CX0 1 f fd ["text"] spWord := by
  refine F.ok scWord (fun vs H Q E h => ?_) (fun cdv A outer s H vs Q E hr h => ?_)
  · obtain ⟨z, rfl, _⟩ := h
    rfl
  · obtain ⟨z, rfl, hz, k⟩ := h
    obtain ⟨tl, gl⟩ := T.lets
    obtain ⟨t8, g8⟩ := T.lon
    have nd := scWord.nd
    refine ⟨_, pss_cons (ps_if (PW.pt (pw_or (pt_not (pt_val (pe_callB call_isi (by rfl) T.isi (by decide +kernel) (pa_cons (pv 0) (pa_cons (pe_bltn (v := .ty "str") (by rfl) T.str (by decide +kernel) rfl) pa_nil)))))
        (pw_or1 (pt_not (pt_chain op_le op_le pe_int (pe_callB call_len_str (by rfl) T.d.len PySem.boot_len (pa_cons (pv 0) pa_nil)) (pe_glob (v := .int 8) rfl g8 ⟨_, rfl⟩))))))
        (pss_one (ps_ret pe_bl)) pss_nil)
      (pss_one (ps_ret (pe_callB (cr_all rfl) (by rfl) T.all (by decide +kernel) (pa_cons
        (pe_lc (own := [("letter", 1)]) (g := gName 1) (tt := tYes) rfl nd (pi_str (pv 0)) (blkOk_by (N := ["text", "letter"]) (sc := defScope sWord) (by decide +kernel))
          (fun _ _ _ _ _ => pg_name (i := 1) nd rfl (Or.inl rfl)) (fun _ _ _ _ _ => pts_nil)
          (fun _ _ _ _ _ => pe_cmpR op_in_sign (pv 1) (pe_glob (v := .str LET) rfl gl ⟨_, rfl⟩) rfl)) pa_nil)))), ?_⟩
    refine ⟨_, rfl, _, _, _, _, _, rfl, .ty _, .base (.str _), kit_ty (r := true) (by decide +kernel), _, rfl, iteF ?_⟩
    refine ⟨_, rfl, _, rfl, Nat.le_trans hz (by decide), _, _, rfl, rfl, _, rfl, ?_⟩
    have bad : isWord z = false → Q (.bl false) H := fun e => by
      have q := k H (Same.refl H)
      rw [e] at q
      exact q
    refine ite2 (fun c1 => ?_) (fun c1 => ?_)
    · refine ⟨_, _, rfl, rfl, _, rfl, ?_⟩
      by_cases c2 : (z.length : Int) ≤ 8
      · refine iteNS c2 ?_
        refine ⟨_, rfl, z, rfl, fun D hD => lc_it walk_str (MapP H D (z.cps.toList.map fun c => V.bl (decide (c ∈ LET.cps.toList)))) (MapP.zero hD) (fun _ _ _ _ => trivial) ?_ ?_⟩
        · rintro i x H1 H2 hi p ⟨rfl, c, hc, rfl⟩
          refine ⟨rfl, _, rfl, c, _, rfl, rfl, ?_⟩
          refine p.step hD ?_ (by rw [List.length_map, Array.length_toList]; exact hz) (Same.refl _)
          rw [List.getElem?_map, Array.getElem?_toList, hc]
          rfl
        · intro H2 p
          obtain ⟨s2, hl⟩ := p.done (by rw [List.length_map, Array.length_toList])
          refine ⟨D, z.cps.toList.map fun c => decide (c ∈ LET.cps.toList), rfl, SqL.of (by rw [hl, List.map_map]; rfl), ?_⟩
          have e : isWord z = (z.cps.toList.map fun c => decide (c ∈ LET.cps.toList)).all id := by
            unfold isWord
            rw [c1, decide_eq_true c2, List.all_map]
            rfl
          rw [← e]
          exact k H2 s2
      · refine iteNT c2 ?_
        exact bad (by unfold isWord; rw [decide_eq_false c2, Bool.and_false, Bool.false_and])
    · have c1' : decide (1 ≤ (z.length : Int)) = false := by simpa using c1
      refine ⟨_, rfl, iteT ?_⟩
      exact bad (by unfold isWord; rw [c1', Bool.false_and, Bool.false_and])
end
end Half

namespace Half
open PySem PySem.Spec PyProof.Rows L2
/-! ### a def that is known by its promise -/
structure Def (P : Program) (w : World) (K : PySem.W.Frag) (mg : Str → Option Value) (base : Heap) (k : Nat) (x : Str) (ps : List Str) (sp : Sp) : Prop where
  ex : ∃ f fd, FnOk P w K mg base CX0 k f fd ps sp ∧ mg x = some (.ref f) ∧ PySem.W.keepIn K (.ref f) = true ∧ Binds K fd ps []
theorem pe_def {X : Cx} {k : Nat} {x : Str} {ps : List Str} {sp : Sp} {e : Expr} {es : List Expr} {t : TA} {p pos : Pos} (D : Def X.prog X.w X.K X.mg X.base k x ps sp) (hr : Room k X.A) (hg : Gl X x) (ha : PA X (e :: es) t)
    (hdb : (x == ("__debug__" : Str)) = false := by decide) (he : starEach (e :: es) X.env = (false, eval e X.env) :: starEach es X.env := by rfl) (hpl : (backTo pos (starEach es X.env)).any (·.1) = false := by rfl) :
    PE X (.Call (.Name x p) (e :: es) [] pos) (tCall sp [] E0 t) := by
  obtain ⟨f, fd, F, hm, hk, hb⟩ := D.ex
  exact pe_call F hr hg hm hk hb .nil pass0 ha hdb he hpl
theorem _root_.L2.Same.sqT {K : PySem.W.Frag} {H H' : Hp} {a : Addr} {xs : List V} (e : Same H H') (h : SqT K H a xs) : SqT K H' a xs := by
  rcases h with (h | ⟨o, h⟩) | h
  · exact .inl (.inl (e _ _ h))
  · exact .inl (.inr ⟨o, e _ _ h⟩)
  · exact .inr h
theorem tyT {K : PySem.W.Frag} {H : Hp} {a : Addr} {xs : List V} (h : SqT K H a xs) : TyX K H (.ref a) (.type "tuple") := by
  rcases h with (h | ⟨o, h⟩) | ⟨o, its, n, h1, h2, _⟩
  · exact .base (.tup h)
  · exact .fTuple h
  · exact .kTuple h1 h2
theorem _root_.L2.Same.upd_new {H : Hp} {p : Addr} {o : HO} (h : H p = none) : Same H (upd H p o) := fun b u e => by rw [upd_ne (ne_of_none e h)]; exact e
/-! ### the mirror -/
def inR (v : V) (lo hi : Int) : Bool := match v with
  | .int n => decide (lo ≤ n) && decide (n ≤ hi)
  | _ => false
def strLt (a b : Str) : Bool := decide (a.cps.toList < b.cps.toList)
def ascS (ss : List Str) : Bool := (List.range (ss.length - 1)).all fun i => strLt (ss.getD i "") (ss.getD (i + 1) "")
def SCR : List Str := ["clean", "enter", "leave", "setup"]
def areScripts (ss : List Str) : Bool := (ss.all fun z => inV (.str z) (SCR.map V.str)) && ascS ss
def areOthers (ss : List Str) (nm : Str) : Bool := (ss.all fun z => isWord z && !decide (V.str z = V.str nm)) && ascS ss
def areNeeds (ps : List (Str × Int)) (nm : Str) : Bool := (ps.all fun p => inR (.int p.2) 1 99) && areOthers (ps.map (·.1)) nm
/-- needs: a tuple of pairs -/
def NeedsAt (K : PySem.W.Frag) (H : Hp) (a : Addr) (ps : List (Str × Int)) : Prop := ∃ ts : List Addr, SqT K H a (ts.map V.ref) ∧ ts.length = ps.length ∧ ∀ (i : Nat) t p, ts[i]? = some t → ps[i]? = some p → SqT K H t [.str p.1, .int p.2]
theorem NeedsAt.same {K : PySem.W.Frag} {H H' : Hp} {a : Addr} {ps : List (Str × Int)} (e : Same H H') (h : NeedsAt K H a ps) : NeedsAt K H' a ps := by
  obtain ⟨ts, h1, h2, h3⟩ := h
  exact ⟨ts, e.sqT h1, h2, fun i t p q r => e.sqT (h3 i t p q r)⟩
/-! ### promises -/
def spNumber : Sp := fun vs H Q _ => ∃ (v : V) (lo hi : Int), vs = [v, .int lo, .int hi] ∧ ((∃ n, v = .int n) ∨ ∃ b, v = .bl b) ∧ Q (.bl (inR v lo hi)) H
def spVersion : Sp := fun vs H Q _ => ∃ v : V, vs = [v] ∧ ((∃ n, v = .int n) ∨ ∃ b, v = .bl b) ∧ Q (.bl (inR v 1 99)) H
def spAsc (K : PySem.W.Frag) : Sp := fun vs H Q _ => ∃ (a : Addr) (ss : List Str), vs = [.ref a] ∧ SqT K H a (ss.map V.str) ∧ ss.length ≤ 100 ∧ ∀ H', Same H H' → Q (.bl (ascS ss)) H'
def spScripts (K : PySem.W.Frag) : Sp := fun vs H Q _ => ∃ (a : Addr) (ss : List Str), vs = [.ref a] ∧ SqT K H a (ss.map V.str) ∧ ss.length ≤ 100 ∧ ∀ H', Same H H' → Q (.bl (areScripts ss)) H'
def spOthers (K : PySem.W.Frag) : Sp := fun vs H Q _ => ∃ (a : Addr) (ss : List Str) (nm : Str), vs = [.ref a, .str nm] ∧ SqT K H a (ss.map V.str) ∧ ss.length ≤ 100 ∧ (∀ z ∈ ss, z.length ≤ 1000) ∧ ∀ H', Same H H' → Q (.bl (areOthers ss nm)) H'
def spPair (K : PySem.W.Frag) : Sp := fun vs H Q _ => ∃ (t : Addr) (n : Str) (v : Int), vs = [.ref t] ∧ SqT K H t [.str n, .int v] ∧ Q (.bl (inR (.int v) 1 99)) H
def spNeeds (K : PySem.W.Frag) : Sp := fun vs H Q _ => ∃ (a : Addr) (ps : List (Str × Int)) (nm : Str), vs = [.ref a, .str nm] ∧ NeedsAt K H a ps ∧ ps.length ≤ 100 ∧ (∀ p ∈ ps, p.1.length ≤ 1000) ∧ ∀ H', Same H H' → Q (.bl (areNeeds ps nm)) H'
structure TxtE (K : PySem.W.Frag) (mg : Str → Option Value) : Prop where
  d : TxtD mg
  isi : mg "isinstance" = none
  str : mg "str" = none
  boo : mg "bool" = none
  tup : mg "tuple" = none
  all : mg "all" = none
  ran : mg "range" = none
  lv : ∃ t, mg "LEAST_VERSION" = some (.int 1 t)
  mv : ∃ t, mg "MOST_VERSION" = some (.int 99 t)
  scr : ∃ a, mg "SCRIPTS" = some (.ref a) ∧ ∀ H, SqT K H a (SCR.map V.str)
section
variable {P : Program} {w : World} {K : PySem.W.Frag} {mg : Str → Option Value} {base : Heap}
theorem scNumber : FnScope ["value", "least", "most"] ["value", "least", "most"] (defScope sNumber) := ⟨rfl, rfl, rfl, by decide +kernel, rfl, by decide +kernel, by decide +kernel⟩
theorem ok_number {f : Addr} {fd : FuncData} (F : Fun K "is_number" "is_number" sNumber f fd) (T : TxtE K mg) : FnOk P w K mg base CX0 1 f fd ["value", "least", "most"] spNumber := by
  refine F.ok scNumber (fun vs H Q E h => ?_) (fun cdv A outer s H vs Q E hr h => ?_)
  · obtain ⟨v, lo, hi, rfl, _⟩ := h
    rfl
  · obtain ⟨v, lo, hi, rfl, hv, k⟩ := h
    refine ⟨_, pss_cons (ps_if (PW.pt (pw_or (pt_val (pe_callB call_isi (by rfl) T.isi (by decide +kernel) (pa_cons (pv 0) (pa_cons (pe_bltn (v := .ty "bool") (by rfl) T.boo (by decide +kernel) rfl) pa_nil))))
        (pw_or1 (pt_not (pt_val (pe_callB call_isi (by rfl) T.isi (by decide +kernel) (pa_cons (pv 0) (pa_cons (pe_bltn (v := .ty "int") (by rfl) T.d.int (by decide +kernel) rfl) pa_nil))))))))
        (pss_one (ps_ret pe_bl)) pss_nil)
      (pss_one (ps_ret (pe_chain op_le op_le (pv 1) (pv 0) (pv 2)))), ?_⟩
    rcases hv with ⟨n, rfl⟩ | ⟨b, rfl⟩
    · refine ⟨_, rfl, _, _, _, _, _, rfl, .ty _, .base (.int _), kit_ty (r := false) (by decide +kernel), _, rfl, ?_⟩
      refine iteF ?_
      refine ⟨_, rfl, _, _, _, _, _, rfl, .ty _, .base (.int _), kit_ty (r := true) (by decide +kernel), _, rfl, ?_⟩
      refine iteF ?_
      refine ⟨_, rfl, _, rfl, _, _, rfl, rfl, _, rfl, ?_⟩
      refine ite2 (fun c => ?_) (fun c => ?_)
      · refine ⟨_, rfl, _, _, rfl, rfl, ?_⟩
        have e : inR (.int n) lo hi = decide (n ≤ hi) := by show (decide (lo ≤ n) && decide (n ≤ hi)) = _; rw [c, Bool.true_and]
        rw [e] at k
        exact k
      · have c' : decide (lo ≤ n) = false := by simpa using c
        have e : inR (.int n) lo hi = false := by show (decide (lo ≤ n) && decide (n ≤ hi)) = _; rw [c', Bool.false_and]
        rw [e] at k
        exact k
    · refine ⟨_, rfl, _, _, _, _, _, rfl, .ty _, .base (.bl _), kit_ty (r := true) (by decide +kernel), _, rfl, ?_⟩
      exact k
theorem scVersion : FnScope ["value"] ["value"] (defScope sVersion) := ⟨rfl, rfl, rfl, by decide +kernel, rfl, by decide +kernel, by decide +kernel⟩
theorem ok_version {f : Addr} {fd : FuncData} (F : Fun K "is_version" "is_version" sVersion f fd) (T : TxtE K mg) (dN : Def P w K mg base 1 "is_number" ["value", "least", "most"] spNumber) : FnOk P w K mg base CX0 2 f fd ["value"] spVersion := by
  refine F.ok scVersion (fun vs H Q E h => ?_) (fun cdv A outer s H vs Q E hr h => ?_)
  · obtain ⟨v, rfl, _⟩ := h
    rfl
  · obtain ⟨v, rfl, hv, k⟩ := h
    obtain ⟨t1, g1⟩ := T.lv
    obtain ⟨t2, g2⟩ := T.mv
    refine ⟨_, pss_one (ps_ret (pe_def dN hr rfl (pa_cons (pv 0) (pa_cons (pe_glob (v := .int 1) rfl g1 ⟨_, rfl⟩) (pa_cons (pe_glob (v := .int 99) rfl g2 ⟨_, rfl⟩) pa_nil))))), ?_⟩
    exact ⟨_, rfl, v, 1, 99, rfl, hv, k⟩
theorem scAsc : FnScope ["values", "at"] ["values"] (defScope sAscends) := ⟨rfl, rfl, rfl, by decide +kernel, rfl, by decide +kernel, by decide +kernel⟩
theorem ok_asc {f : Addr} {fd : FuncData} (F : Fun K "ascends" "ascends" sAscends f fd) (T : TxtE K mg) : FnOk P w K mg base CX0 1 f fd ["values"] (spAsc K) := by
  refine F.ok scAsc (fun vs H Q E h => ?_) (fun cdv A outer s H vs Q E hr h => ?_)
  · obtain ⟨a, ss, rfl, _⟩ := h
    rfl
  · obtain ⟨a, ss, rfl, hS, hl, k⟩ := h
    have nd := scAsc.nd
    refine ⟨_, pss_one (ps_ret (pe_callB (cr_all rfl) (by rfl) T.all (by decide +kernel) (pa_cons
        (pe_lc (own := [("at", 1)]) (g := gName 1) (tt := tYes) rfl nd (pi_range2 (by rfl) T.ran (pa_cons pe_int (pa_cons (pe_callB call_len_seq (by rfl) T.d.len PySem.boot_len (pa_cons (pv 0) pa_nil)) pa_nil))) (blkOk_by (N := ["values", "at"]) (sc := defScope sAscends) (by decide +kernel))
          (fun _ _ _ _ _ => pg_name (i := 1) nd rfl (Or.inl rfl)) (fun _ _ _ _ _ => pts_nil)
          (fun _ _ _ _ _ => pe_cmpR op_lt_str (pe_ix (ix_tup : IxR _ (rIxT K)) (pv 0) (pe_op op_sub (pv 1) pe_int) (fun _ _ => rfl)) (pe_ix (ix_tup : IxR _ (rIxT K)) (pv 0) (pv 1) (fun _ _ => rfl)) (nomark _))) pa_nil))), ?_⟩
    have hlm : (ss.map V.str).length = ss.length := List.length_map ..
    have hn : (((ss.map V.str).length : Int) - 1).toNat = ss.length - 1 := by omega
    refine ⟨_, rfl, a, _, rfl, .inr hS, 1, _, rfl, ⟨by decide, by decide, by omega, by omega⟩, ?_⟩
    rw [hn]
    refine fun D hD => lc_it walk_range (MapP H D ((List.range (ss.length - 1)).map fun i => V.bl (strLt (ss.getD i "") (ss.getD (i + 1) "")))) (MapP.zero hD) (fun _ _ _ _ => trivial) ?_ ?_
    · rintro i x H1 H2 hi p ⟨rfl, rfl⟩
      have e1 : atI (ss.map V.str) ((1 + (i : Int)) - 1) = some (V.str (ss.getD i "")) := by
        have e : (1 + (i : Int)) - 1 = ((i : Nat) : Int) := by omega
        rw [e]
        refine atI_nat ?_
        rw [List.getElem?_map, List.getD_eq_getElem?_getD, List.getElem?_eq_getElem (by omega)]
        rfl
      have e2 : atI (ss.map V.str) (1 + (i : Int)) = some (V.str (ss.getD (i + 1) "")) := by
        have e : (1 + (i : Int)) = ((i + 1 : Nat) : Int) := by omega
        rw [e]
        refine atI_nat ?_
        rw [List.getElem?_map, List.getD_eq_getElem?_getD, List.getElem?_eq_getElem (by omega)]
        rfl
      refine ⟨rfl, _, rfl, _, rfl, _, _, rfl, rfl, a, _, _, _, rfl, rfl, p.1.sqT hS, e1, _, rfl, _, rfl, a, _, _, _, rfl, rfl, p.1.sqT hS, e2, _, _, rfl, rfl, ?_⟩
      refine p.step hD ?_ (by rw [List.length_map, List.length_range]; omega) (Same.refl _)
      rw [List.getElem?_map, List.getElem?_range hi]
      rfl
    · intro H2 p
      obtain ⟨s2, hl2⟩ := p.done (by rw [List.length_map, List.length_range])
      refine ⟨D, (List.range (ss.length - 1)).map fun i => strLt (ss.getD i "") (ss.getD (i + 1) ""), rfl, SqL.of (by rw [hl2, List.map_map]; rfl), ?_⟩
      have e : ascS ss = ((List.range (ss.length - 1)).map fun i => strLt (ss.getD i "") (ss.getD (i + 1) "")).all id := by
        rw [List.all_map]
        rfl
      rw [← e]
      exact k H2 s2
end
end Half

namespace Half
open PySem PySem.Spec PyProof.Rows L2
theorem all_map_bl {α : Type} (l : List α) (f : α → Bool) : (l.map f).all id = l.all f := by rw [List.all_map]; rfl
theorem flat_strs (l : List Str) : (l.map V.str).all flatV = true := by
  rw [List.all_map, List.all_eq_true]
  intro x _
  rfl
theorem getE {α : Type} {l : List α} {i : Nat} {β : Type} {f : α → β} {y : β} (h : (l.map f)[i]? = some y) : ∃ a, l[i]? = some a ∧ y = f a := by
  rw [List.getElem?_map] at h
  cases e : l[i]? with
  | none => rw [e] at h; cases h
  | some a => rw [e] at h; exact ⟨a, rfl, (Option.some.inj h).symm⟩
section
variable {P : Program} {w : World} {K : PySem.W.Frag} {mg : Str → Option Value} {base : Heap}
theorem scScripts : FnScope ["values", "value"] ["values"] (defScope sScripts) := ⟨rfl, rfl, rfl, by decide +kernel, rfl, by decide +kernel, by decide +kernel⟩
theorem ok_scripts {f : Addr} {fd : FuncData} (F : Fun K "are_scripts" "are_scripts" sScripts f fd) (T : TxtE K mg) (dA : Def P w K mg base 1 "ascends" ["values"] (spAsc K)) : FnOk P w K mg base CX0 2 f fd ["values"] (spScripts K) := by
  refine F.ok scScripts (fun vs H Q E h => ?_) (fun cdv A outer s H vs Q E hr h => ?_)
  · obtain ⟨a, ss, rfl, _⟩ := h
    rfl
  · obtain ⟨a, ss, rfl, hS, hl, k⟩ := h
    have nd := scScripts.nd
    obtain ⟨aS, gS, hSC⟩ := T.scr
    refine ⟨_, pss_cons (ps_if (pt_not (pt_val (pe_callB call_isi (by rfl) T.isi (by decide +kernel) (pa_cons (pv 0) (pa_cons (pe_bltn (v := .ty "tuple") (by rfl) T.tup (by decide +kernel) rfl) pa_nil)))))
        (pss_one (ps_ret pe_bl)) pss_nil)
      (pss_one (ps_ret (pe_and (pe_callB (cr_all rfl) (by rfl) T.all (by decide +kernel) (pa_cons
        (pe_lc (own := [("value", 1)]) (g := gName 1) (tt := tYes) rfl nd (pi_tup (pv 0)) (blkOk_by (N := ["values", "value"]) (sc := defScope sScripts) (by decide +kernel))
          (fun _ _ _ _ _ => pg_name (i := 1) nd rfl (Or.inl rfl)) (fun _ _ _ _ _ => pts_nil)
          (fun _ _ _ _ _ => pe_cmpR (op_in_seq : OpR _ _ (rIn K false)) (pv 1) (pe_glob (v := .ref aS) rfl gS rfl) (by rfl))) pa_nil))
        (pe_one (pe_def dA hr rfl (pa_cons (pv 0) pa_nil)))))), ?_⟩
    refine ⟨_, rfl, _, _, _, _, _, rfl, .ty _, tyT hS, kit_ty (r := true) (by decide +kernel), _, rfl, ?_⟩
    refine iteF ?_
    refine ⟨_, rfl, a, rfl, ⟨_, hS⟩, fun D hD => lc_it (walk_tup (xs := ss.map V.str)) (MapP H D (ss.map fun z => V.bl (inV (.str z) (SCR.map V.str)))) (MapP.zero hD) (fun _ _ _ p => p.1.sqT hS) ?_ ?_⟩
    · rintro i x H1 H2 hi p ⟨rfl, hx⟩
      obtain ⟨z, hz, rfl⟩ := getE hx
      refine ⟨rfl, _, rfl, aS, _, rfl, .inr (hSC _), rfl, flat_strs _, ?_⟩
      refine p.step hD ?_ (by rw [List.length_map]; omega) (Same.refl _)
      rw [List.getElem?_map, hz]
      rfl
    · intro H2 p
      obtain ⟨s2, hl2⟩ := p.done (by rw [List.length_map, List.length_map])
      refine ⟨D, ss.map fun z => inV (.str z) (SCR.map V.str), rfl, SqL.of (by rw [hl2, List.map_map]; rfl), _, rfl, ?_⟩
      rw [all_map_bl]
      refine ite2 (fun c => ?_) (fun c => ?_)
      · refine ⟨_, rfl, a, ss, rfl, s2.sqT hS, hl, fun H3 s3 => ?_⟩
        have e : areScripts ss = ascS ss := by unfold areScripts; rw [c, Bool.true_and]
        rw [← e]
        exact k H3 (s2.trans s3)
      · have c' : (ss.all fun z => inV (.str z) (SCR.map V.str)) = false := by simpa using c
        have e : areScripts ss = false := by unfold areScripts; rw [c', Bool.false_and]
        rw [← e]
        exact k H2 s2
theorem scOthers : FnScope ["values", "name", "value"] ["values", "name"] (defScope sOthers) := ⟨rfl, rfl, rfl, by decide +kernel, rfl, by decide +kernel, by decide +kernel⟩
theorem ok_others {f : Addr} {fd : FuncData} (F : Fun K "are_other_names" "are_other_names" sOthers f fd) (T : TxtE K mg) (dA : Def P w K mg base 1 "ascends" ["values"] (spAsc K)) (dW : Def P w K mg base 1 "is_word" ["text"] spWord) : FnOk P w K mg base CX0 2 f fd ["values", "name"] (spOthers K) := by
  refine F.ok scOthers (fun vs H Q E h => ?_) (fun cdv A outer s H vs Q E hr h => ?_)
  · obtain ⟨a, ss, nm, rfl, _⟩ := h
    rfl
  · obtain ⟨a, ss, nm, rfl, hS, hl, hw, k⟩ := h
    have nd := scOthers.nd
    refine ⟨_, pss_cons (ps_if (pt_not (pt_val (pe_callB call_isi (by rfl) T.isi (by decide +kernel) (pa_cons (pv 0) (pa_cons (pe_bltn (v := .ty "tuple") (by rfl) T.tup (by decide +kernel) rfl) pa_nil)))))
        (pss_one (ps_ret pe_bl)) pss_nil)
      (pss_one (ps_ret (pe_and (pe_callB (cr_all rfl) (by rfl) T.all (by decide +kernel) (pa_cons
        (pe_lc (own := [("value", 2)]) (g := gName 2) (tt := tYes) rfl nd (pi_tup (pv 0)) (blkOk_by (N := ["values", "name", "value"]) (sc := defScope sOthers) (by decide +kernel))
          (fun _ _ _ _ _ => pg_name (i := 2) nd rfl (Or.inl rfl)) (fun _ _ _ _ _ => pts_nil)
          (fun _ _ _ _ _ => pe_and (pe_def dW hr rfl (pa_cons (pv 2) pa_nil)) (pe_one (pe_cmpR op_ne (pv 2) (pv 1) (nomark _))))) pa_nil))
        (pe_one (pe_def dA hr rfl (pa_cons (pv 0) pa_nil)))))), ?_⟩
    refine ⟨_, rfl, _, _, _, _, _, rfl, .ty _, tyT hS, kit_ty (r := true) (by decide +kernel), _, rfl, ?_⟩
    refine iteF ?_
    refine ⟨_, rfl, a, rfl, ⟨_, hS⟩, fun D hD => lc_it (walk_tup (xs := ss.map V.str)) (MapP H D (ss.map fun z => V.bl (isWord z && !decide (V.str z = V.str nm)))) (MapP.zero hD) (fun _ _ _ p => p.1.sqT hS) ?_ ?_⟩
    · rintro i x H1 H2 hi p ⟨rfl, hx⟩
      obtain ⟨z, hz, rfl⟩ := getE hx
      refine ⟨rfl, _, rfl, z, rfl, hw z (List.mem_of_getElem? hz), fun H3 s3 => ⟨_, rfl, ?_⟩⟩
      have fin : ∀ b, b = (isWord z && !decide (V.str z = V.str nm)) → ∃ acc, H3 D = some (.lst acc) ∧ acc.length < sizeLine ∧ MapP H D (ss.map fun z => V.bl (isWord z && !decide (V.str z = V.str nm))) (i + 1) (upd H3 D (.lst (acc ++ [V.bl b]))) := fun b e => by
        refine p.step hD ?_ (by rw [List.length_map]; omega) s3
        rw [List.getElem?_map, hz, e]
        rfl
      refine ite2 (fun c => ?_) (fun c => ?_)
      · refine ⟨_, rfl, _, rfl, rfl, ?_⟩
        exact fin _ (by rw [c, Bool.true_and])
      · have c' : isWord z = false := by simpa using c
        exact fin _ (by rw [c', Bool.false_and])
    · intro H2 p
      obtain ⟨s2, hl2⟩ := p.done (by rw [List.length_map, List.length_map])
      refine ⟨D, ss.map fun z => (isWord z && !decide (V.str z = V.str nm)), rfl, SqL.of (by rw [hl2, List.map_map]; rfl), _, rfl, ?_⟩
      rw [all_map_bl]
      refine ite2 (fun c => ?_) (fun c => ?_)
      · refine ⟨_, rfl, a, ss, rfl, s2.sqT hS, hl, fun H3 s3 => ?_⟩
        have e : areOthers ss nm = ascS ss := by unfold areOthers; rw [c, Bool.true_and]
        rw [← e]
        exact k H3 (s2.trans s3)
      · have c' : (ss.all fun z => (isWord z && !decide (V.str z = V.str nm))) = false := by simpa using c
        have e : areOthers ss nm = false := by unfold areOthers; rw [c', Bool.false_and]
        rw [← e]
        exact k H2 s2
theorem scPair : FnScope ["value"] ["value"] (defScope sPair) := ⟨rfl, rfl, rfl, by decide +kernel, rfl, by decide +kernel, by decide +kernel⟩
theorem ok_pair {f : Addr} {fd : FuncData} (F : Fun K "is_pair_with_version" "is_pair_with_version" sPair f fd) (T : TxtE K mg) (dV : Def P w K mg base 2 "is_version" ["value"] spVersion) : FnOk P w K mg base CX0 3 f fd ["value"] (spPair K) := by
  refine F.ok scPair (fun vs H Q E h => ?_) (fun cdv A outer s H vs Q E hr h => ?_)
  · obtain ⟨t, n, v, rfl, _⟩ := h
    rfl
  · obtain ⟨t, n, v, rfl, hS, k⟩ := h
    refine ⟨_, pss_one (ps_ret (pe_and (pe_callB call_isi (by rfl) T.isi (by decide +kernel) (pa_cons (pv 0) (pa_cons (pe_bltn (v := .ty "tuple") (by rfl) T.tup (by decide +kernel) rfl) pa_nil)))
      (pe_and (pe_cmpR op_eq (pe_callB call_len_seq (by rfl) T.d.len PySem.boot_len (pa_cons (pv 0) pa_nil)) pe_int (nomark _))
        (pe_one (pe_def dV hr rfl (pa_cons (pe_ix ix_tup (pv 0) pe_int (fun _ _ => rfl)) pa_nil)))))), ?_⟩
    refine ⟨_, rfl, _, _, _, _, _, rfl, .ty _, tyT hS, kit_ty (r := true) (by decide +kernel), _, rfl, ?_⟩
    refine iteT ?_
    refine ⟨_, rfl, t, _, rfl, .inr hS, rfl, true, rfl, ?_⟩
    refine iteT ?_
    exact ⟨_, rfl, t, _, _, _, rfl, rfl, hS, rfl, _, rfl, .inl ⟨_, rfl⟩, k⟩
theorem scNeeds : FnScope ["values", "name", "value"] ["values", "name"] (defScope sNeeds) := ⟨rfl, rfl, rfl, by decide +kernel, rfl, by decide +kernel, by decide +kernel⟩
theorem ok_needs {f : Addr} {fd : FuncData} (F : Fun K "are_needs" "are_needs" sNeeds f fd) (T : TxtE K mg) (dP : Def P w K mg base 3 "is_pair_with_version" ["value"] (spPair K)) (dO : Def P w K mg base 2 "are_other_names" ["values", "name"] (spOthers K)) : FnOk P w K mg base CX0 4 f fd ["values", "name"] (spNeeds K) := by
  refine F.ok scNeeds (fun vs H Q E h => ?_) (fun cdv A outer s H vs Q E hr h => ?_)
  · obtain ⟨a, ps, nm, rfl, _⟩ := h
    rfl
  · obtain ⟨a, ps, nm, rfl, hN, hl, hw, k⟩ := h
    have nd := scNeeds.nd
    obtain ⟨ts, hS, htl, hts⟩ := id hN
    refine ⟨_, pss_cons (ps_if (PW.pt (pw_or (pt_not (pt_val (pe_callB call_isi (by rfl) T.isi (by decide +kernel) (pa_cons (pv 0) (pa_cons (pe_bltn (v := .ty "tuple") (by rfl) T.tup (by decide +kernel) rfl) pa_nil)))))
        (pw_or1 (pt_not (pt_val (pe_callB (cr_all rfl) (by rfl) T.all (by decide +kernel) (pa_cons
          (pe_lc (own := [("value", 2)]) (g := gName 2) (tt := tYes) rfl nd (pi_tup (pv 0)) (blkOk_by (N := ["values", "name", "value"]) (sc := defScope sNeeds) (by decide +kernel))
            (fun _ _ _ _ _ => pg_name (i := 2) nd rfl (Or.inl rfl)) (fun _ _ _ _ _ => pts_nil)
            (fun _ _ _ _ _ => pe_def dP hr rfl (pa_cons (pv 2) pa_nil))) pa_nil)))))))
        (pss_one (ps_ret pe_bl)) pss_nil)
      (pss_one (ps_ret (pe_def dO (hr.mono (by decide)) rfl (pa_cons (pe_callTy call_tuple_of (by rfl) T.tup (by decide +kernel) (pa_cons
          (pe_lc (own := [("value", 2)]) (g := gName 2) (tt := tYes) rfl nd (pi_tup (pv 0)) (blkOk_by (N := ["values", "name", "value"]) (sc := defScope sNeeds) (by decide +kernel))
            (fun _ _ _ _ _ => pg_name (i := 2) nd rfl (Or.inl rfl)) (fun _ _ _ _ _ => pts_nil)
            (fun _ _ _ _ _ => pe_ix (ix_tup : IxR _ (rIxT K)) (pv 2) pe_int (fun _ _ => rfl))) pa_nil)) (pa_cons (pv 1) pa_nil))))), ?_⟩
    refine ⟨_, rfl, _, _, _, _, _, rfl, .ty _, tyT hS, kit_ty (r := true) (by decide +kernel), _, rfl, ?_⟩
    refine iteF ?_
    refine ⟨_, rfl, a, rfl, ⟨_, hS⟩, fun D hD => lc_it (walk_tup (xs := ts.map V.ref)) (MapP H D (ps.map fun p => V.bl (inR (.int p.2) 1 99))) (MapP.zero hD) (fun _ _ _ p => p.1.sqT hS) ?_ ?_⟩
    · rintro i x H1 H2 hi p ⟨rfl, hx⟩
      obtain ⟨t, ht, rfl⟩ := getE hx
      have hip : i < ps.length := by rw [List.length_map] at hi; omega
      refine ⟨rfl, _, rfl, t, _, _, rfl, p.1.sqT (hts i t _ ht (List.getElem?_eq_getElem hip)), ?_⟩
      refine p.step hD ?_ (by rw [List.length_map]; omega) (Same.refl _)
      rw [List.getElem?_map, List.getElem?_eq_getElem hip]
      rfl
    · intro H2 p
      obtain ⟨s2, hl2⟩ := p.done (by rw [List.length_map, List.length_map, htl])
      refine ⟨D, ps.map fun p => inR (.int p.2) 1 99, rfl, SqL.of (by rw [hl2, List.map_map]; rfl), _, rfl, ?_⟩
      rw [all_map_bl]
      cases c : (ps.all fun p => inR (.int p.2) 1 99) with
      | false =>
        refine iteT ?_
        have e : areNeeds ps nm = false := by unfold areNeeds; rw [c, Bool.false_and]
        have q := k H2 s2
        rw [e] at q
        exact q
      | true =>
        refine iteF ?_
        refine ⟨_, rfl, a, rfl, ⟨_, s2.sqT hS⟩, fun D2 hD2 => lc_it (walk_tup (xs := ts.map V.ref)) (MapP H2 D2 (ps.map fun p => V.str p.1)) (MapP.zero hD2) (fun _ _ _ p => (s2.trans p.1).sqT hS) ?_ ?_⟩
        · rintro i x H3 H4 hi p2 ⟨rfl, hx⟩
          obtain ⟨t, ht, rfl⟩ := getE hx
          have hip : i < ps.length := by rw [List.length_map] at hi; omega
          refine ⟨rfl, _, rfl, t, _, _, _, rfl, rfl, (s2.trans p2.1).sqT (hts i t _ ht (List.getElem?_eq_getElem hip)), rfl, ?_⟩
          refine p2.step hD2 ?_ (by rw [List.length_map]; omega) (Same.refl _)
          rw [List.getElem?_map, List.getElem?_eq_getElem hip]
          rfl
        · intro H3 p2
          obtain ⟨s3, hl3⟩ := p2.done (by rw [List.length_map, List.length_map, htl])
          refine ⟨D2, _, rfl, .inl ⟨SqL.of hl3, fun tp htp => ⟨_, rfl, tp, ps.map (·.1), nm, rfl, .inl (.inl ?_), ?_, ?_, fun H5 s5 => ?_⟩⟩⟩
          · rw [upd_same, List.map_map]
            rfl
          · rw [List.length_map]
            exact hl
          · intro z hz
            obtain ⟨p, hp, rfl⟩ := List.mem_map.mp hz
            exact hw p hp
          · have e : areNeeds ps nm = areOthers (ps.map (·.1)) nm := by unfold areNeeds; rw [c, Bool.true_and]
            rw [← e]
            exact k H5 (s2.trans (s3.trans ((Same.upd_new htp).trans s5)))
end
end Half

namespace Half
open PySem PySem.Spec PyProof.Rows L2
abbrev sWrong : Stmt := top 22
/-- an edition's parameters -/
structure Ed where
  name : Str
  version : V
  scripts : List Str
  needs : List (Str × Int)
  first : List (Str × Int)
  against : List Str
def Ed.checks (e : Ed) : List (Str × Bool) := [("name", isWord e.name), ("version", inR e.version 1 99), ("scripts", areScripts e.scripts), ("needs", areNeeds e.needs e.name), ("first", areNeeds e.first e.name), ("against", areOthers e.against e.name)]
def Ed.wrong (e : Ed) : Option Str := (e.checks.find? fun q => !q.2).map (·.1)
def optV : Option Str → V
  | none => .non
  | some x => .str x
/-- sizes that no check is beyond -/
structure Ed.Small (e : Ed) : Prop where
  name : e.name.length ≤ 1000
  version : (∃ n, e.version = .int n) ∨ ∃ b, e.version = .bl b
  scripts : e.scripts.length ≤ 100
  needs : e.needs.length ≤ 100 ∧ ∀ p ∈ e.needs, p.1.length ≤ 1000
  first : e.first.length ≤ 100 ∧ ∀ p ∈ e.first, p.1.length ≤ 1000
  against : e.against.length ≤ 100 ∧ ∀ z ∈ e.against, z.length ≤ 1000
/-- its six values -/
structure EdAt (K : PySem.W.Frag) (H : Hp) (e : Ed) (s n f g : Addr) : Prop where
  scripts : SqT K H s (e.scripts.map V.str)
  needs : NeedsAt K H n e.needs
  first : NeedsAt K H f e.first
  against : SqT K H g (e.against.map V.str)
theorem EdAt.same {K : PySem.W.Frag} {H H' : Hp} {e : Ed} {s n f g : Addr} (S : Same H H') (h : EdAt K H e s n f g) : EdAt K H' e s n f g :=
  ⟨S.sqT h.scripts, h.needs.same S, h.first.same S, S.sqT h.against⟩
theorem find_first {l : List (Str × Bool)} {i : Nat} {p : Str × Bool} (h : ∀ j q, j < i → l[j]? = some q → q.2 = true) (hi : l[i]? = some p) (hp : p.2 = false) : l.find? (fun q => !q.2) = some p := by
  induction l generalizing i with
  | nil => simp at hi
  | cons a l ih =>
    cases i with
    | zero =>
      have e : a = p := by simpa using hi
      subst e
      simp [hp]
    | succ i =>
      have ha : a.2 = true := h 0 a (Nat.succ_pos _) rfl
      rw [List.find?_cons_of_neg (by simp [ha])]
      exact ih (i := i) (fun j q hj e => h (j + 1) q (Nat.succ_lt_succ hj) (by simpa using e)) (by simpa using hi)
theorem find_none {l : List (Str × Bool)} (h : ∀ j q, j < l.length → l[j]? = some q → q.2 = true) : l.find? (fun q => !q.2) = none := by
  rw [List.find?_eq_none]
  intro q hq
  obtain ⟨j, hj, e⟩ := List.mem_iff_getElem.mp hq
  have := h j q hj (by rw [List.getElem?_eq_getElem hj, e])
  simp [this]
def spWrong (K : PySem.W.Frag) : Sp := fun vs H Q _ => ∃ (e : Ed) (s n f g : Addr), vs = [.str e.name, e.version, .ref s, .ref n, .ref f, .ref g] ∧ EdAt K H e s n f g ∧ e.Small ∧ ∀ H', Same H H' → Q (optV e.wrong) H'
structure Checks (P : Program) (w : World) (K : PySem.W.Frag) (mg : Str → Option Value) (base : Heap) : Prop where
  wo : Def P w K mg base 1 "is_word" ["text"] spWord
  ve : Def P w K mg base 2 "is_version" ["value"] spVersion
  sc : Def P w K mg base 2 "are_scripts" ["values"] (spScripts K)
  ne : Def P w K mg base 4 "are_needs" ["values", "name"] (spNeeds K)
  ot : Def P w K mg base 2 "are_other_names" ["values", "name"] (spOthers K)
section
variable {P : Program} {w : World} {K : PySem.W.Frag} {mg : Str → Option Value} {base : Heap}
theorem scWrong : FnScope ["name", "version", "scripts", "needs", "first", "against", "checked", "part", "right"] ["name", "version", "scripts", "needs", "first", "against"] (defScope sWrong) := ⟨rfl, rfl, rfl, by decide +kernel, rfl, by decide +kernel, by decide +kernel⟩
theorem two_le : 2 ≤ sizeLine := by decide
theorem ok_wrong {f : Addr} {fd : FuncData} (F : Fun K "wrong_part" "wrong_part" sWrong f fd) (T : TxtE K mg) (C : Checks P w K mg base) : FnOk P w K mg base CX0 5 f fd ["name", "version", "scripts", "needs", "first", "against"] (spWrong K) := by
  refine F.ok scWrong (fun vs H Q E h => ?_) (fun cdv A outer s H vs Q E hr h => ?_)
  · obtain ⟨e, s, n, f, g, rfl, _⟩ := h
    rfl
  · obtain ⟨e, as, an, af, ag, rfl, hE, hz, k⟩ := h
    have nd := scWrong.nd
    have r1 : Room 1 _ := hr.mono (by decide)
    have r2 : Room 2 _ := hr.mono (by decide)
    refine ⟨_, pss_cons (ps_set (i := 6) nd rfl (Or.inl rfl) (pe_tup
        (pa_cons (pe_tup (pa_cons pe_str (pa_cons (pe_def C.wo r1 rfl (pa_cons (pv 0) pa_nil)) pa_nil)))
        (pa_cons (pe_tup (pa_cons pe_str (pa_cons (pe_def C.ve r2 rfl (pa_cons (pv 1) pa_nil)) pa_nil)))
        (pa_cons (pe_tup (pa_cons pe_str (pa_cons (pe_def C.sc r2 rfl (pa_cons (pv 2) pa_nil)) pa_nil)))
        (pa_cons (pe_tup (pa_cons pe_str (pa_cons (pe_def C.ne hr rfl (pa_cons (pv 3) (pa_cons (pv 0) pa_nil))) pa_nil)))
        (pa_cons (pe_tup (pa_cons pe_str (pa_cons (pe_def C.ne hr rfl (pa_cons (pv 4) (pa_cons (pv 0) pa_nil))) pa_nil)))
        (pa_cons (pe_tup (pa_cons pe_str (pa_cons (pe_def C.ot r2 rfl (pa_cons (pv 5) (pa_cons (pv 0) pa_nil))) pa_nil))) pa_nil))))))))
      (pss_cons (ps_for PassesOwn.never rfl (pi_tup (pv 6)) (pg_tup rfl (pgs_cons (pg_name (i := 7) nd rfl (Or.inl rfl)) (pgs_cons (pg_name (i := 8) nd rfl (Or.inl rfl)) pgs_nil)))
        (pss_one (ps_if (pt_not (pt_val (pv 8))) (pss_one (ps_ret (pv 7))) pss_nil)))
      (pss_one (ps_ret pe_non))), ?_⟩
    refine ⟨_, rfl, e.name, rfl, hz.name, fun H1 s1 => ⟨two_le, fun t1 n1 => ?_⟩⟩
    refine ⟨_, rfl, e.version, rfl, hz.version, two_le, fun t2 n2 => ?_⟩
    have s2 := (s1.trans (Same.upd_new (o := .tup [.str "name", .bl (isWord e.name)]) n1)).trans (Same.upd_new (o := .tup [.str "version", .bl (inR e.version 1 99)]) n2)
    refine ⟨_, rfl, as, _, rfl, s2.sqT hE.scripts, hz.scripts, fun H3 s3 => ⟨two_le, fun t3 n3 => ?_⟩⟩
    have s3' := (s2.trans s3).trans (Same.upd_new (o := .tup [.str "scripts", .bl (areScripts e.scripts)]) n3)
    refine ⟨_, rfl, _, rfl, an, _, _, rfl, hE.needs.same s3', hz.needs.1, hz.needs.2, fun H4 s4 => ⟨two_le, fun t4 n4 => ?_⟩⟩
    have s4' := (s3'.trans s4).trans (Same.upd_new (o := .tup [.str "needs", .bl (areNeeds e.needs e.name)]) n4)
    refine ⟨_, rfl, _, rfl, af, _, _, rfl, hE.first.same s4', hz.first.1, hz.first.2, fun H5 s5 => ⟨two_le, fun t5 n5 => ?_⟩⟩
    have s5' := (s4'.trans s5).trans (Same.upd_new (o := .tup [.str "first", .bl (areNeeds e.first e.name)]) n5)
    refine ⟨_, rfl, _, rfl, ag, _, _, rfl, s5'.sqT hE.against, hz.against.1, hz.against.2, fun H6 s6 => ⟨two_le, fun t6 n6 => ⟨(by show 6 ≤ sizeLine; decide), fun TT nT => ?_⟩⟩⟩
    have z6 := Same.upd_new (o := .tup [.str "against", .bl (areOthers e.against e.name)]) n6
    have zT := Same.upd_new (o := .tup [.ref t1, .ref t2, .ref t3, .ref t4, .ref t5, .ref t6]) nT
    have zz := z6.trans zT
    have z5 := ((Same.upd_new (o := .tup [.str "first", .bl (areNeeds e.first e.name)]) n5).trans s6).trans zz
    have z4 := ((Same.upd_new (o := .tup [.str "needs", .bl (areNeeds e.needs e.name)]) n4).trans s5).trans z5
    have z3 := ((Same.upd_new (o := .tup [.str "scripts", .bl (areScripts e.scripts)]) n3).trans s4).trans z4
    have z2 := ((Same.upd_new (o := .tup [.str "version", .bl (inR e.version 1 99)]) n2).trans s3).trans z3
    have z1 := (Same.upd_new (o := .tup [.str "name", .bl (isWord e.name)]) n1).trans z2
    have hAll := (s5'.trans s6).trans zz
    generalize hHF : upd (upd H6 t6 _) TT _ = HF at *
    have hts : ∀ (i : Nat) x p, ([t1, t2, t3, t4, t5, t6] : List Addr)[i]? = some x → e.checks[i]? = some p → SqT K HF x [.str p.1, .bl p.2] := by
      have a1 : HF t1 = _ := z2 _ _ upd_same
      have a2 : HF t2 = _ := z3 _ _ (s3 _ _ upd_same)
      have a3 : HF t3 = _ := z4 _ _ (s4 _ _ upd_same)
      have a4 : HF t4 = _ := z5 _ _ (s5 _ _ upd_same)
      have a5 : HF t5 = _ := zz _ _ (s6 _ _ upd_same)
      have a6 : HF t6 = _ := zT _ _ upd_same
      intro i x p hx hp
      match i with
      | 0 => cases hx; cases hp; exact .inl (.inl a1)
      | 1 => cases hx; cases hp; exact .inl (.inl a2)
      | 2 => cases hx; cases hp; exact .inl (.inl a3)
      | 3 => cases hx; cases hp; exact .inl (.inl a4)
      | 4 => cases hx; cases hp; exact .inl (.inl a5)
      | 5 => cases hx; cases hp; exact .inl (.inl a6)
      | i + 6 => simp at hx
    have hTT : SqT K HF TT ([t1, t2, t3, t4, t5, t6].map V.ref) := .inl (.inl (by rw [← hHF]; exact upd_same))
    refine ⟨_, rfl, TT, rfl, ⟨_, hTT⟩, for_it (walk_tup (xs := [t1, t2, t3, t4, t5, t6].map V.ref)) (fun i σ H' => H' = HF ∧ (∃ v7 v8, σ = [some (.str e.name), some e.version, some (.ref as), some (.ref an), some (.ref af), some (.ref ag), some (.ref TT), v7, v8]) ∧ ∀ j q, j < i → e.checks[j]? = some q → q.2 = true)
      ⟨rfl, ⟨none, none, rfl⟩, fun j q hj => absurd hj (Nat.not_lt_zero _)⟩ (fun i σ H' _ h => by rw [h.1]; exact hTT) ?_ ?_⟩
    · rintro i x σ H' H'' hi ⟨rfl, ⟨v7, v8, rfl⟩, hbef⟩ ⟨rfl, hx⟩
      obtain ⟨t, ht, rfl⟩ := getE hx
      have hip : i < e.checks.length := hi
      have hp := List.getElem?_eq_getElem hip
      refine ⟨t, _, rfl, hts i t _ ht hp, rfl, _, _, rfl, _, _, rfl, rfl, ?_⟩
      refine ⟨_, rfl, _, rfl, ?_⟩
      cases c : e.checks[i].2 with
      | false =>
        refine iteT ?_
        refine ⟨_, rfl, ?_⟩
        have e1 : e.wrong = some e.checks[i].1 := by
          unfold Ed.wrong
          rw [find_first hbef hp c]
          rfl
        have q := k H'' hAll
        rw [e1] at q
        exact q
      | true =>
        refine iteF ?_
        refine ⟨rfl, ⟨_, _, rfl⟩, fun j q hj hq => ?_⟩
        by_cases hji : j = i
        · subst hji
          rw [hp] at hq
          rw [← Option.some.inj hq]
          exact c
        · exact hbef j q (by omega) hq
    · rintro σ H' ⟨rfl, _, hbef⟩
      have e1 : e.wrong = none := by
        unfold Ed.wrong
        rw [find_none fun j q hj hq => hbef j q hj hq]
        rfl
      have q := k H' hAll
      rw [e1] at q
      exact q
end
end Half

namespace Half
open PySem PySem.Spec PyProof.Rows L2
abbrev sIe : Stmt := inClass (top 8) 0
/-- what stands of an error class with its own __init__ (one parameter, super().__init__(..), one field fl) -/
def spErr (C : Addr) (fl : Str) : Sp := fun vs H Q _ => ∃ (a : Addr) (p : Str), vs = [.ref a, .str p] ∧ H a = some (exo a C none) ∧ p.length ≤ 1000 ∧
  ∀ dx, H dx = none → dx ≠ a → Q .non (upd (upd H dx (exd dx [(fl, .str p)])) a (exo a C (some dx)))
/-- the __init__ at f as the top has made it -/
structure ErrFn (P : Program) (K : PySem.W.Frag) (C : Addr) (qual : Str) (st : Stmt) (f : Addr) (fd : FuncData) : Prop where
  ex : ∃ (oc : Value) (od : Option Addr) (kV doc pm : Value) (an : Option Addr) (cda cc : Addr) (ct : Value) (osl : Array (Option Value)) (ccl : Value) (cdd : Option Addr) (vsc : Array Value) (ccs : Array (Option Value)) (file : Str) (tf : Tok) (cl : Value) (cld : Option Addr) (csl : Array (Option Value)),
    fd = PySem.W.ksFn "__init__" qual (defArgs st) (defBody st) (defScope st) .none kV doc pm an (.ref cda) ct cc ∧ K.lookup f = some ⟨oc, od, .func fd, osl⟩ ∧ PySem.W.codeIn K (.ref cda) qual = true ∧
    K.lookup cda = some ⟨ccl, cdd, .fields vsc, ccs⟩ ∧ vsc[2]? = some (.str file tf) ∧ ((P.main.file : Str) == file) = true ∧ K.lookup cc = some ⟨cl, cld, .cell (some (.ref C)), csl⟩
theorem scIe : SupScope ["self", "part"] ["self", "part"] (defScope sIe) := ⟨rfl, rfl, rfl, by decide +kernel, rfl, by decide +kernel, by decide +kernel, by decide +kernel, rfl, rfl⟩
theorem app_len (a b : Str) : (a ++ b).length = a.length + b.length := by
  show (a.cps ++ b.cps).size = _
  rw [Array.size_append]
  rfl
section
variable {P : Program} {w : World} {K : PySem.W.Frag} {mg : Str → Option Value} {base : Heap}
theorem ok_ie {C f : Addr} {fd : FuncData} (F : ErrFn P K C "InvalidEdition.__init__" sIe f fd) (T : SupC P K mg C) (nF : PySem.W.findIn K (.ref C) "part" = some none) : FnOk P w K mg base CX0 1 f fd ["self", "part"] (spErr C "part") := by
  obtain ⟨oc, od, kV, doc, pm, an, cda, cc, ct, osl, ccl, cdd, vsc, ccs, file, tf, cl, cld, csl, rfl, lk, hcd, hcode, hvs, hfile, hcell⟩ := F.ex
  refine fn_sup (N := ["self", "part"]) lk hcd scIe rfl rfl rfl hcode hvs hfile hcell T (fun vs H Q E h => ?_) (fun _ => rfl) (fun _ => rfl) (fun _ => rfl) (fun A outer s H vs Q E hr h => ?_)
  · obtain ⟨a, p, rfl, _⟩ := h
    rfl
  · obtain ⟨a, p, rfl, ha, hp, k⟩ := h
    refine ⟨a, _, _, rfl, ha, pa_cons (pe_joined (.cons pe_str (.cons (pe_fmt (pv 1)) (.cons pe_str .nil)))) pa_nil, pss_one (ps_ost (pv 0) (pv 1)), ?_⟩
    have l1 : ∀ x y : Str, x.length ≤ 100 → y.length ≤ 1200 → (x ++ y).length ≤ sizeLine := fun x y hx hy => by rw [app_len, sizeLine_eq]; omega
    refine ⟨_, rfl, (by decide), _, rfl, .inl ⟨p, rfl, Nat.le_trans hp (by decide), p, rfl, ?_, _, rfl, ?_, ?_⟩⟩
    · rw [app_len, app_len, sizeLine_eq]
      have : ("this cannot be the " : Str).length = 19 := by decide
      have e0 : (Str.empty).length = 0 := by decide
      omega
    · rw [app_len, app_len, app_len, sizeLine_eq]
      have : ("this cannot be the " : Str).length = 19 := by decide
      have : (" of an edition" : Str).length = 14 := by decide
      have e0 : (Str.empty).length = 0 := by decide
      omega
    · refine ⟨by show 1 ≤ 1000; decide, ha, ?_⟩
      refine ⟨_, rfl, _, rfl, a, C, rfl, T.oex, nF, .inl ⟨ha, fun dx h1 h2 => k dx h1 h2⟩⟩
end
end Half

namespace Half
open PySem PySem.Spec PyProof.Rows L2
abbrev sEi : Stmt := inClass (top 23) 0
abbrev sGet (i : Nat) : Stmt := inClass (top 23) (i + 1)
abbrev sEq : Stmt := inClass (top 23) 7
/-- all but the object at x stands as it stood -/
def SameBut (x : Addr) (H H' : Hp) : Prop := ∀ b o, b ≠ x → H b = some o → H' b = some o
/-- an edition at a -/
structure EdObj (K : PySem.W.Frag) (H : Hp) (C : Addr) (a : Addr) (e : Ed) (s n f g : Addr) : Prop where
  ob : ∃ dx p, H a = some (.ins C dx [("parts", .ref p)]) ∧ H p = some (.tup [.str e.name, e.version, .ref s, .ref n, .ref f, .ref g])
  at_ : EdAt K H e s n f g
theorem EdObj.same {K : PySem.W.Frag} {H H' : Hp} {C a : Addr} {e : Ed} {s n f g : Addr} (S : Same H H') (h : EdObj K H C a e s n f g) : EdObj K H' C a e s n f g := by
  obtain ⟨⟨dx, p, h1, h2⟩, h3⟩ := h
  exact ⟨⟨dx, p, S _ _ h1, S _ _ h2⟩, h3.same S⟩
def EiNames : List Str := ["self", "name", "version", "scripts", "needs", "first", "against"]
def spEi (K : PySem.W.Frag) (C CE : Addr) : Sp := fun vs H Q E => ∃ (x dx : Addr) (e : Ed) (s n f g : Addr), vs = [.ref x, .str e.name, e.version, .ref s, .ref n, .ref f, .ref g] ∧ H x = some (.ins C dx []) ∧ EdAt K H e s n f g ∧ e.Small ∧
  (e.wrong = none → ∀ H', SameBut x H H' → EdObj K H' C x e s n f g → Q .non H') ∧
  (∀ p, e.wrong = some p → ∀ H' d, Same H H' → H' d = some (.xd [("part", .str p)]) → E (.ref CE) (some d) H')
structure TxtG (P : Program) (K : PySem.W.Frag) (mg : Str → Option Value) (C CE fI : Addr) (fdI : FuncData) : Prop where
  cl : Cls K C
  nP : NoAttr K C "parts"
  mgC : mg "Edition" = some (.ref C)
  mgE : mg "InvalidEdition" = some (.ref CE)
  sup : SupC P K mg CE
  nF : PySem.W.findIn K (.ref CE) "part" = some none
  iC : PySem.W.findIn K (.ref CE) "__init__" = some (some (.ref fI))
  tI : PySem.W.typeIn K (.ref fI) = some (.type "function")
  er : ErrFn P K CE "InvalidEdition.__init__" sIe fI fdI
  bI : Binds K fdI ["self", "part"] []
section
variable {P : Program} {w : World} {K : PySem.W.Frag} {mg : Str → Option Value} {base : Heap} {C CE fI : Addr} {fdI : FuncData}
theorem scEi : FnScope ["self", "name", "version", "scripts", "needs", "first", "against", "part"] ["self", "name", "version", "scripts", "needs", "first", "against"] (defScope sEi) := ⟨rfl, rfl, rfl, by decide +kernel, rfl, by decide +kernel, by decide +kernel⟩
theorem wrong_small (e : Ed) {p : Str} (h : e.wrong = some p) : p.length ≤ 1000 := by
  unfold Ed.wrong at h
  cases q : e.checks.find? (fun q => !q.2) with
  | none => rw [q] at h; cases h
  | some r =>
    rw [q] at h
    have hp : r.1 = p := by simpa using h
    have hm := List.mem_of_find?_eq_some q
    rw [← hp]
    unfold Ed.checks at hm
    simp only [List.mem_cons, List.not_mem_nil, or_false] at hm
    rcases hm with rfl | rfl | rfl | rfl | rfl | rfl <;> (dsimp only; decide)
theorem ok_ei {f : Addr} {fd : FuncData} {kws : List (Str × V)} (F : FunD K "__init__" "Edition.__init__" (defArgs sEi) (defBody sEi) (defScope sEi) [] kws f fd) (T : TxtG P K mg C CE fI fdI) (dW : Def P w K mg base 5 "wrong_part" ["name", "version", "scripts", "needs", "first", "against"] (spWrong K)) :
    FnOk P w K mg base (L2.CX P w) 6 f fd ["self", "name", "version", "scripts", "needs", "first", "against"] (spEi K C CE) := by
  refine F.ok scEi (fun vs H Q E h => ?_) (fun cdv A outer s H vs Q E hr h => ?_)
  · obtain ⟨x, dx, e, s, n, f, g, rfl, _⟩ := h
    rfl
  · obtain ⟨x, dx, e, as, an, af, ag, rfl, hx, hE, hz, kOk, kBad⟩ := h
    have nd := scEi.nd
    have FI : FnOk P w K mg base CX0 1 fI fdI ["self", "part"] (spErr CE "part") := ok_ie T.er T.sup T.nF
    refine ⟨_, pss_cons (ps_set (i := 7) nd rfl (Or.inl rfl) (pe_def dW hr rfl (pa_cons (pv 1) (pa_cons (pv 2) (pa_cons (pv 3) (pa_cons (pv 4) (pa_cons (pv 5) (pa_cons (pv 6) pa_nil))))))))
      (pss_cons (ps_if (pt_cmp (pc_notN (pv 7))) (pss_one (ps_raise rfl (takes_of rfl rfl rfl rfl) (pmk_oex T.sup.oex T.iC T.tI FI (hr.mono (by decide)) T.bI .nil (fun _ _ _ _ _ _ _ h => h.elim) rfl T.mgE (pa_cons (pv 7) pa_nil)))) pss_nil)
      (pss_one (ps_fld (pv 0) (pe_tup (pa_cons (pv 1) (pa_cons (pv 2) (pa_cons (pv 3) (pa_cons (pv 4) (pa_cons (pv 5) (pa_cons (pv 6) pa_nil))))))) rfl))), ?_⟩
    refine ⟨_, rfl, _, rfl, _, rfl, _, rfl, _, rfl, _, rfl, e, as, an, af, ag, rfl, hE, hz, fun H1 s1 => ?_⟩
    cases hw : e.wrong with
    | some p =>
      refine ⟨_, rfl, true, rfl, ?_⟩
      refine iteT ?_
      refine ⟨_, rfl, (by show 1 ≤ 1000; decide), fun a ha => ⟨a, p, rfl, upd_same, wrong_small e hw, fun d hd1 hd2 => ⟨rfl, d, [("part", .str p)], upd_same, ?_, ?_, ?_⟩⟩⟩
      · rw [upd_ne hd2, upd_same]
      · rw [upd_ne hd2] at hd1
        exact hd1
      · rw [upd_ne hd2] at hd1
        refine kBad p hw _ d (fun b o q => ?_) upd_same
        have q1 := s1 b o q
        have nb : b ≠ d := ne_of_none q1 hd1
        have na : b ≠ a := ne_of_none q1 ha
        rw [upd_ne nb, del_ne na, upd_ne na, upd_ne nb, upd_ne na]
        exact q1
    | none =>
      refine ⟨_, rfl, false, rfl, ?_⟩
      refine iteF ?_
      refine ⟨_, rfl, _, rfl, _, rfl, _, rfl, _, rfl, _, rfl, (by show 6 ≤ sizeLine; decide), fun p hp => ?_⟩
      have nx : x ≠ p := ne_of_none (s1 _ _ hx) hp
      refine ⟨_, rfl, x, C, dx, [], rfl, (by rw [upd_ne nx]; exact s1 _ _ hx), T.cl, T.nP, (by show 0 < 1000; decide), ?_⟩
      have sb : SameBut x H (upd (upd H1 p (.tup [.str e.name, e.version, .ref as, .ref an, .ref af, .ref ag])) x (.ins C dx (putF "parts" (.ref p) []))) := fun b o hb q => by
        rw [upd_ne hb, upd_ne (ne_of_none (s1 _ _ q) hp)]
        exact s1 _ _ q
      refine kOk hw _ sb ⟨⟨dx, p, upd_same, by rw [upd_ne (Ne.symm nx), upd_same]⟩, ?_⟩
      have hE1 : EdAt K (upd H1 p (.tup [.str e.name, e.version, .ref as, .ref an, .ref af, .ref ag])) e as an af ag := hE.same (s1.trans (Same.upd_new hp))
      have tr : ∀ {a xs}, SqT K (upd H1 p (.tup [.str e.name, e.version, .ref as, .ref an, .ref af, .ref ag])) a xs → SqT K (upd (upd H1 p (.tup [.str e.name, e.version, .ref as, .ref an, .ref af, .ref ag])) x (.ins C dx (putF "parts" (.ref p) []))) a xs := fun {a xs} h => by
        have hxx : (upd H1 p (.tup [.str e.name, e.version, .ref as, .ref an, .ref af, .ref ag])) x = some (.ins C dx []) := by rw [upd_ne nx]; exact s1 _ _ hx
        rcases h with (h | ⟨o, h⟩) | h
        · exact .inl (.inl (by rw [upd_ne (ne_of h hxx (by intro z; cases z))]; exact h))
        · exact .inl (.inr ⟨o, by rw [upd_ne (ne_of h hxx (by intro z; cases z))]; exact h⟩)
        · exact .inr h
      have trN : ∀ {a ps}, NeedsAt K (upd H1 p (.tup [.str e.name, e.version, .ref as, .ref an, .ref af, .ref ag])) a ps → NeedsAt K (upd (upd H1 p (.tup [.str e.name, e.version, .ref as, .ref an, .ref af, .ref ag])) x (.ins C dx (putF "parts" (.ref p) []))) a ps := fun {a ps} h => by
        obtain ⟨ts, h1, h2, h3⟩ := h
        exact ⟨ts, tr h1, h2, fun i t p q r => tr (h3 i t p q r)⟩
      exact ⟨tr hE1.scripts, trN hE1.needs, trN hE1.first, tr hE1.against⟩
end
end Half

namespace Half
open PySem PySem.Spec PyProof.Rows L2
/-! ### the six properties -/
def spGet (C : Addr) (i : Nat) : Sp := fun vs H Q _ => ∃ (a dx p : Addr) (xs : List V) (v : V), vs = [.ref a] ∧ H a = some (.ins C dx [("parts", .ref p)]) ∧ H p = some (.tup xs) ∧ xs[i]? = some v ∧ Q v H
section
variable {P : Program} {w : World} {K : PySem.W.Frag} {mg : Str → Option Value} {base : Heap} {C : Addr}
theorem scGet {i : Nat} (h : i < 6) : FnScope ["self"] ["self"] (defScope (sGet i)) := by
  match i, h with
  | 0, _ => exact ⟨rfl, rfl, rfl, by decide +kernel, rfl, by decide +kernel, by decide +kernel⟩
  | 1, _ => exact ⟨rfl, rfl, rfl, by decide +kernel, rfl, by decide +kernel, by decide +kernel⟩
  | 2, _ => exact ⟨rfl, rfl, rfl, by decide +kernel, rfl, by decide +kernel, by decide +kernel⟩
  | 3, _ => exact ⟨rfl, rfl, rfl, by decide +kernel, rfl, by decide +kernel, by decide +kernel⟩
  | 4, _ => exact ⟨rfl, rfl, rfl, by decide +kernel, rfl, by decide +kernel, by decide +kernel⟩
  | 5, _ => exact ⟨rfl, rfl, rfl, by decide +kernel, rfl, by decide +kernel, by decide +kernel⟩
theorem getBody {i : Nat} (h : i < 6) : ∃ p1 p2 p3 p4 p5 : Pos, ∃ j, defBody (sGet i) = [.Return (some (.Subscript (.Attribute (.Name "self" p1) "parts" p2) (.Constant (.int i) j p3) p4)) p5] := by
  match i, h with
  | 0, _ => exact ⟨_, _, _, _, _, _, rfl⟩
  | 1, _ => exact ⟨_, _, _, _, _, _, rfl⟩
  | 2, _ => exact ⟨_, _, _, _, _, _, rfl⟩
  | 3, _ => exact ⟨_, _, _, _, _, _, rfl⟩
  | 4, _ => exact ⟨_, _, _, _, _, _, rfl⟩
  | 5, _ => exact ⟨_, _, _, _, _, _, rfl⟩
theorem ok_get {f : Addr} {fd : FuncData} {x qual : Str} {i : Nat} (hi : i < 6) (F : Fun K x qual (sGet i) f fd) (cl : Cls K C) (nP : NoAttr K C "parts") : FnOk P w K mg base CX0 1 f fd ["self"] (spGet C i) := by
  refine F.ok (scGet hi) (fun vs H Q E h => ?_) (fun cdv A outer s H vs Q E hr h => ?_)
  · obtain ⟨a, dx, p, xs, v, rfl, _⟩ := h
    rfl
  · obtain ⟨a, dx, p, xs, v, rfl, ha, hp, hv, k⟩ := h
    obtain ⟨p1, p2, p3, p4, p5, j, hb⟩ := getBody hi
    rw [hb]
    have hvis : Vis (defScope (sGet i)) "self" := ((scGet hi).par "self" (List.Mem.head _)).elim (fun z => .inl z) (fun z => .inr (.inl z))
    refine ⟨_, pss_one (ps_ret (pe_ix ix_tup (pe_fld (pe_var (i := 0) rfl hvis) rfl) pe_int (fun _ _ => rfl))), ?_⟩
    exact ⟨_, rfl, a, C, dx, _, _, rfl, ha, cl, nP, rfl, p, xs, _, v, rfl, rfl, .inl (.inl hp), atI_nat hv, k⟩
/-! ### == -/
def pairD (p : Str × Int) : PyData := .tuple [.str p.1, .int p.2]
def verD : V → PyData
  | .int n => .int n
  | .bl b => .bool b
  | _ => .none
def Ed.data (e : Ed) : PyData := .tuple [.str e.name, verD e.version, .tuple (e.scripts.map PyData.str), .tuple (e.needs.map pairD), .tuple (e.first.map pairD), .tuple (e.against.map PyData.str)]
theorem dpStrs {H : Hp} : ∀ l : List Str, DpAll K H (l.map V.str) (l.map PyData.str)
  | [] => .nil
  | x :: l => .cons (.str x) (dpStrs l)
theorem dpPairs {H : Hp} : ∀ (ts : List Addr) (ps : List (Str × Int)), ts.length = ps.length → (∀ (i : Nat) t p, ts[i]? = some t → ps[i]? = some p → SqT K H t [.str p.1, .int p.2]) → DpAll K H (ts.map V.ref) (ps.map pairD)
  | [], [], _, _ => .nil
  | t :: ts, p :: ps, hl, h => .cons (.tup (h 0 t p rfl rfl) (.cons (.str _) (.cons (.int _) .nil))) (dpPairs ts ps (by simpa using hl) fun i t' p' h1 h2 => h (i + 1) t' p' (by simpa using h1) (by simpa using h2))
  | [], _ :: _, hl, _ => by simp at hl
  | _ :: _, [], hl, _ => by simp at hl
theorem NeedsAt.dp {H : Hp} {a : Addr} {ps : List (Str × Int)} (h : NeedsAt K H a ps) : Dp K H (.ref a) (.tuple (ps.map pairD)) := by
  obtain ⟨ts, h1, h2, h3⟩ := h
  exact .tup h1 (dpPairs ts ps h2 h3)
theorem verDp {H : Hp} {v : V} (h : (∃ n, v = .int n) ∨ ∃ b, v = .bl b) : Dp K H v (verD v) := by
  rcases h with ⟨n, rfl⟩ | ⟨b, rfl⟩
  · exact .int n
  · exact .bl b
theorem EdObj.dp {H : Hp} {p s n f g : Addr} {e : Ed} (hp : H p = some (.tup [.str e.name, e.version, .ref s, .ref n, .ref f, .ref g])) (hE : EdAt K H e s n f g) (hv : (∃ n, e.version = .int n) ∨ ∃ b, e.version = .bl b) : Dp K H (.ref p) e.data :=
  .tup (.inl (.inl hp)) (.cons (.str _) (.cons (verDp hv) (.cons (.tup hE.scripts (dpStrs _)) (.cons hE.needs.dp (.cons hE.first.dp (.cons (.tup hE.against (dpStrs _)) .nil))))))
/-- an edition's promise of ==: what the data say -/
def EdIs (K : PySem.W.Frag) (H : Hp) (C a : Addr) (e : Ed) : Prop := (∃ s n f g, EdObj K H C a e s n f g) ∧ ((∃ n, e.version = .int n) ∨ ∃ b, e.version = .bl b) ∧ SeqAt.shaped e.data = true
theorem EdIs.same {H H' : Hp} {a : Addr} {e : Ed} (S : Same H H') (h : EdIs K H C a e) : EdIs K H' C a e := by
  obtain ⟨⟨s, n, f, g, h1⟩, h2⟩ := h
  exact ⟨⟨s, n, f, g, h1.same S⟩, h2⟩
def spEq (K : PySem.W.Frag) (C : Addr) : Sp := fun vs H Q _ => ∃ (a b : Addr) (e e' : Ed), vs = [.ref a, .ref b] ∧ EdIs K H C a e ∧ EdIs K H C b e' ∧ Q (.bl (PyData.eqv e.data e'.data)) H
structure TxtI (K : PySem.W.Frag) (mg : Str → Option Value) (C : Addr) : Prop where
  cl : Cls K C
  nP : NoAttr K C "parts"
  mgC : mg "Edition" = some (.ref C)
  isi : mg "isinstance" = none
  ha : PySem.W.findIn K (.ref C) "__class__" = some (some (.builtin "object.__class__"))
  hn : PySem.W.specialIn K (.builtin "object.__class__") "__get__" = some (some (.builtin "getset_descriptor.__get__"))
  ht : PySem.W.takesIn K (.builtin "object.__class__") = some true
  hm : PySem.W.mroIn K C (.type "object") = some true
  ki : PySem.W.kitOne K (.ref C) (.ref C) = some true
theorem scEq : FnScope ["self", "other"] ["self", "other"] (defScope sEq) := ⟨rfl, rfl, rfl, by decide +kernel, rfl, by decide +kernel, by decide +kernel⟩
theorem ok_eq {f : Addr} {fd : FuncData} (F : Fun K "__eq__" "Edition.__eq__" sEq f fd) (T : TxtI K mg C) : FnOk P w K mg base CX0 1 f fd ["self", "other"] (spEq K C) := by
  refine F.ok scEq (fun vs H Q E h => ?_) (fun cdv A outer s H vs Q E hr h => ?_)
  · obtain ⟨a, b, e, e', rfl, _⟩ := h
    rfl
  · obtain ⟨a, b, e, e', rfl, ⟨⟨s1, n1, f1, g1, ⟨dx, p, ha, hp⟩, hE⟩, hv, hs⟩, ⟨⟨s2, n2, f2, g2, ⟨dy, q, hb, hq⟩, hE'⟩, hv', hs'⟩, k⟩ := h
    refine ⟨_, pss_one (ps_ret (pe_and (pe_callB call_isi (by rfl) T.isi (by decide +kernel) (pa_cons (pv 1) (pa_cons (pe_glob (v := .ref C) rfl T.mgC rfl) pa_nil)))
      (pe_one (pe_cmpR (op_eqD hr.units) (pe_fld (pv 0) rfl) (pe_fld (pv 1) rfl) (nomark _))))), ?_⟩
    refine ⟨_, rfl, _, _, _, _, _, rfl, .own C, .base (.ins hb T.cl T.ha T.hn T.ht T.hm), T.ki, _, rfl, ?_⟩
    refine iteT ?_
    refine ⟨_, rfl, a, C, dx, _, _, rfl, ha, T.cl, T.nP, rfl, _, rfl, b, C, dy, _, _, rfl, hb, T.cl, T.nP, rfl, _, _, EdObj.dp hp hE hv, EdObj.dp hq hE' hv', hs, hs', k⟩
end
end Half

/-! sets whose items are tuples of ints and texts: s.add(t), t in s -/
namespace L2
open PySem PySem.Spec PyProof.Rows
abbrev kh (P : Program) (w : World) (k : List Key) : Int := tupleKeyHash (mixKind P w) k
abbrev TupK (P : Program) (w : World) (h : Heap) (k : List Key) (a : Addr) : Prop := IsTupleKey (mixKind P w) h k a
section
variable {P : Program} {w : World} {A : Around} {E : Value → Shared → Prop} {s : Shared}
def flatKey (v : Value) : Prop := (∃ i t, v = Value.int i t) ∨ ∃ x t, v = Value.str x t
theorem items_flat {k : List Key} {vs : List Value} (h : ItemsAre (mixKind P w) k vs) : ∀ v ∈ vs, flatKey v := by
  induction h with
  | nil => exact fun v hv => nomatch hv
  | @cons c u ks us one _ more =>
    intro v hv
    rcases List.mem_cons.mp hv with rfl | hv
    · rcases keyIs_shape (k := c) (v := v) one with ⟨i, t, _, e⟩ | ⟨x, t, _, e⟩
      · exact .inl ⟨i, t, e⟩
      · exact .inr ⟨x, t, e⟩
    · exact more v hv
theorem cls_flat {n : Nat} {v : Value} (h : flatKey v) : ofAClassStatement n v = pure false := by
  rcases h with ⟨i, t, rfl⟩ | ⟨x, t, rfl⟩ <;> cases n <;> rfl
theorem val_flat {n : Nat} {v : Value} (h : flatKey v) : ∃ b, hashByValue n v = pure b := by
  rcases h with ⟨i, t, rfl⟩ | ⟨x, t, rfl⟩
  · exact ⟨true, by cases n <;> rfl⟩
  · exact ⟨false, by cases n <;> rfl⟩
theorem cls_tup {k : List Key} {b : Addr} {Q : Bool → Shared → Prop} (T : TupK P w s.heap k b) (q : Q false s) : wpAny (model P w) A (ofAClassStatement 8 (.ref b)) Q E s := by
  have ty := T.typeIs
  obtain ⟨o, its, n, go, _, gd, gi⟩ := T
  unfold ofAClassStatement
  refine wpAny_bind (wpAny_typeOf ty ?_)
  dsimp only
  simp only [show (("tuple" : String) == "tuple") = true by decide, if_true, Bool.not_true, Bool.false_eq_true, if_false]
  first
    | refine wpAny_bind (wpAny_pure ?_)
    | skip
  try simp only [Bool.not_true, Bool.false_eq_true, if_false]
  show wpAny _ _ (seqItems? (.ref b) >>= _) _ _ s
  refine wpAny_bind (wpAny_seqItems go gd ?_)
  dsimp only
  refine wpAny_bind ?_
  show wpAny _ _ (forIn its _ _) _ _ s
  rw [← Array.forIn_toList]
  refine wpAny_forIn_list _ (fun rest r s' => r.1 = none ∧ s' = s ∧ ∀ v ∈ rest, flatKey v) _ ?_ ?_ _ _ ⟨rfl, rfl, items_flat gi⟩
  · rintro v rest r z ⟨hr, rfl, hall⟩
    rw [cls_flat (hall v List.mem_cons_self)]
    refine wpAny_bind (wpAny_pure ?_)
    simp only [Bool.false_eq_true, if_false]
    exact wpAny_pure ⟨rfl, rfl, fun u hu' => hall u (.tail _ hu')⟩
  · rintro ⟨r1, r2⟩ z ⟨hr, rfl, _⟩
    simp only at hr
    subst hr
    exact wpAny_pure q
theorem val_tup {k : List Key} {b : Addr} {Q : Bool → Shared → Prop} (T : TupK P w s.heap k b) (q : ∀ c, Q c s) : wpAny (model P w) A (hashByValue 8 (.ref b)) Q E s := by
  have ty := T.typeIs
  obtain ⟨o, its, n, go, _, gd, gi⟩ := T
  unfold hashByValue
  refine wpAny_bind (wpAny_specialOf ty F.slot_tuple_hash.lookup ?_)
  show wpAny _ _ (seqItems? (.ref b) >>= _) _ _ s
  refine wpAny_bind (wpAny_seqItems go gd ?_)
  refine wpAny_bind ?_
  show wpAny _ _ (forIn its _ _) _ _ s
  rw [← Array.forIn_toList]
  refine wpAny_forIn_list _ (fun rest r s' => (∀ c, r.1 = some c → c = false) ∧ s' = s ∧ ∀ v ∈ rest, flatKey v) _ ?_ ?_ _ _ ⟨(fun c h => nomatch h), rfl, items_flat gi⟩
  · rintro v rest r z ⟨hr, rfl, hall⟩
    obtain ⟨c, e⟩ := val_flat (n := 7) (hall v List.mem_cons_self)
    rw [e]
    refine wpAny_bind (wpAny_pure ?_)
    cases c
    · simp only [Bool.not_false, if_true]
      exact wpAny_pure (wpAny_pure (q false))
    · simp only [Bool.not_true, Bool.false_eq_true, if_false]
      exact wpAny_pure ⟨(fun c h => nomatch h), rfl, fun u hu' => hall u (.tail _ hu')⟩
  · rintro ⟨r1, r2⟩ z ⟨hr, rfl, _⟩
    cases r1 with
    | none => exact wpAny_pure (q true)
    | some c => exact wpAny_pure (q c)
theorem unseen {k : List Key} {b : Addr} {Q : Bool → Shared → Prop} (T : TupK P w s.heap k b) {ys : List Value} (hy : ∀ y ∈ ys, ∃ k' c, y = Value.ref c ∧ TupK P w s.heap k' c) (q : Q false s) :
    wpAny (model P w) A (searchCouldBeSeen (.ref b) ys) Q E s := by
  unfold searchCouldBeSeen
  refine wpAny_bind ?_
  refine wpAny_forIn_list _ (fun rest r s' => r.1 = none ∧ s' = s ∧ ∀ y ∈ rest, ∃ k' c, y = Value.ref c ∧ TupK P w s.heap k' c) _ ?_ ?_ _ _ ⟨rfl, rfl, hy⟩
  · rintro v rest r z ⟨hr, rfl, hall⟩
    obtain ⟨k', c, rfl, hc⟩ := hall v List.mem_cons_self
    have more : ∀ y ∈ rest, ∃ k' c, y = Value.ref c ∧ TupK P w z.heap k' c := fun u m => hall u (.tail _ m)
    dsimp only
    by_cases hv : (b == c || (carriedByValue (.ref b) && carriedByValue (.ref c))) = true
    · exact wp_if_pos hv (wpAny_pure ⟨rfl, rfl, more⟩)
    · refine wp_if_neg hv (wpAny_bind (wpAny_eqIsQuiet_tuple T ?_))
      simp only [Bool.not_true, Bool.false_eq_true, if_false]
      refine wpAny_bind (wpAny_eqIsQuiet_tuple hc ?_)
      simp only [Bool.not_true, Bool.false_eq_true, if_false]
      refine wpAny_bind (cls_tup T ?_)
      simp only [Bool.false_eq_true, if_false]
      refine wpAny_bind (cls_tup hc ?_)
      simp only [Bool.false_eq_true, if_false]
      exact wpAny_pure ⟨rfl, rfl, more⟩
  · rintro ⟨r1, r2⟩ z ⟨hr, rfl, _⟩
    simp only at hr
    subst hr
    exact wpAny_pure q
/-! the table of such a set -/
def ents (P : Program) (w : World) (L : List (Addr × List Key)) : List (Int × Value) := L.map fun p => (kh P w p.2, Value.ref p.1)
structure SetTK (P : Program) (w : World) (h : Heap) (a : Addr) (L : List (Addr × List Key)) (es : Array (Int × Value)) (ep : Nat) (t : SetTable) : Prop where
  ob : ∃ o, h.get? a = some o ∧ o.ExactSet ∧ o.data = .set es ep t
  row : es.toList = ents P w L
  tab : TabOk t (L.map fun p => kh P w p.2)
  one : (L.map (·.2)).Nodup
  room : L.length * 5 < t.mask * 3
  few : L.length < 64
  led : w.params.followText "set-order" = true ∨ t.led = true
variable {a : Addr} {L : List (Addr × List Key)} {es : Array (Int × Value)} {ep : Nat} {t : SetTable} {h : Heap}
theorem ents_len (e : es.toList = ents P w L) : es.size = L.length := by
  have z := congrArg List.length e
  unfold ents at z
  rwa [Array.length_toList, List.length_map] at z
theorem fit_of (n : es.size = L.length) (z : t.place.size = L.length) (d : t.dummies = #[]) (r : L.length ≤ t.mask) : t.fits es.size = true := by
  unfold SetTable.fits SetTable.fill
  rw [d, Bool.and_eq_true, beq_iff_eq, decide_eq_true_eq]
  exact ⟨z.trans n.symm, by show t.place.size + 0 ≤ t.mask; omega⟩
theorem SetTK.psz (R : SetTK P w h a L es ep t) : t.place.size = L.length := by
  have z := R.tab.sz
  rwa [List.length_map] at z
theorem SetTK.fit (R : SetTK P w h a L es ep t) : t.fits es.size = true := fit_of (ents_len R.row) R.psz R.tab.dm (by have := R.room; omega)
theorem SetTK.at (R : SetTK P w h a L es ep t) {i : Nat} {p : Addr × List Key} (m : L[i]? = some p) : es[i]? = some (kh P w p.2, Value.ref p.1) := by
  rw [← Array.getElem?_toList, R.row]
  unfold ents
  rw [List.getElem?_map, m] <;> rfl
theorem SetTK.odd (R : SetTK P w h a L es ep t) : ¬ t.gaveWay = true := by
  unfold SetTable.gaveWay
  rw [mask_odd R.tab.mok] <;> decide
/-- the c-th probe of the key -/
abbrev prb (P : Program) (w : World) (t : SetTable) (k : List Key) (c : Nat) : SetTable.Probe := nth t.mask (runAt t.mask (SetTable.bits (kh P w k) % (t.mask + 1)) (SetTable.bits (kh P w k))) c
theorem nth_dummy (m : Nat) : ∀ (n : Nat) (p : SetTable.Probe), p.dummy = none → (nth m p n).dummy = none
  | 0, _, e => e
  | n + 1, p, e => nth_dummy m n (adv m p) (by unfold adv; split <;> exact e)
/-- a search for a key, in a table that has its first free place at the K-th step -/
theorem look_from {ad : Bool} (R : SetTK P w s.heap a L es ep t) (TT : ∀ p ∈ L, TupK P w s.heap p.2 p.1) {x : Addr} {k : List Key} (hx : TupK P w s.heap k x) (hu : A.units < cLine) {K : Nat} (hKf : K < 10 * SetTable.turns t.mask)
    (free : way t.mask (kh P w k) K ∉ t.place.toList) (busy : ∀ c, c < K → way t.mask (kh P w k) c ∈ t.place.toList) {Q : SetFound → Shared → Prop}
    (yes : ∀ r, (ad = false → r.isSome = true) → k ∈ L.map (·.2) → Q (.there r) s) (no : k ∉ L.map (·.2) → Q (.free (way t.mask (kh P w k) K) false) s) :
    ∀ (f c : Nat) (stand : Option SetTable.Probe), stand.getD (t.probeStart (kh P w k)) = prb P w t k c → c ≤ K → K - c < f →
      (∀ (i : Nat) p, L[i]? = some p → p.2 = k → ∃ c', c ≤ c' ∧ c' < K ∧ t.place.toList[i]? = some (way t.mask (kh P w k) c')) →
      wpAny (model P w) A (setSearchFrom a (.ref x) (kh P w k) ad f stand) Q E s
  | 0, c, stand, _, _, hf, _ => absurd hf (Nat.not_lt_zero _)
  | f + 1, c, stand, hst, hc, hf, hre => by
    obtain ⟨o, go, gx, gd⟩ := R.ob
    rw [setSearchFrom_succ]
    refine wpAny_bind (wpAny_setState_of go gd R.fit ?_)
    dsimp only
    refine wp_if_neg R.odd ?_
    first
      | refine wpAny_bind (wpAny_pure ?_)
      | skip
    have nod : (prb P w t k c).dummy = none := nth_dummy t.mask c _ rfl
    have sh : ∀ q, nth t.mask (prb P w t k c) q = prb P w t k (c + q) := fun q => (nth_add t.mask c _ q).symm
    have e1 : ∀ q, (nth t.mask (prb P w t k c) q).j = way t.mask (kh P w k) (c + q) := fun q => congrArg SetTable.Probe.j (sh q)
    have spec := go_spec t R.tab.ris R.tab.dm (fun i => (es[i]?.map (·.1)).getD 0) (kh P w k) (10 * SetTable.turns t.mask) (K - c) _ nod (by omega)
      (fun q hq => by rw [e1]; exact busy (c + q) (by omega)) (by rw [e1, show c + (K - c) = K by omega]; exact free)
    have hsh : ∀ (i : Nat) p, L[i]? = some p → (fun i => (es[i]?.map (·.1)).getD 0) i = kh P w p.2 := fun i p hp => by
      show (es[i]?.map (·.1)).getD 0 = _
      rw [R.at hp] <;> rfl
    rcases spec with ⟨q, i, hq, hi, hh, hno, hpr⟩ | ⟨hno, hpr⟩
    · have met : t.probe (fun i => (es[i]?.map (·.1)).getD 0) (kh P w k) (stand.getD (t.probeStart (kh P w k))) = some (.candidate (way t.mask (kh P w k) (c + q)) i (prb P w t k (c + (q + 1)))) := by
        rw [hst, ← e1, ← sh]
        exact hpr
      rw [met]
      dsimp only
      rw [e1] at hi
      have hil : i < L.length := by
        have h1 := (List.getElem?_eq_some_iff.mp hi).1
        rw [Array.length_toList, R.psz] at h1
        exact h1
      have hp : L[i]? = some L[i] := List.getElem?_eq_getElem hil
      generalize L[i] = p at hp
      have hm : p ∈ L := List.mem_of_getElem? hp
      have live : t.slot (way t.mask (kh P w k) (c + q)) = .live i := slot_live R.tab.ris hi
      have rest : wpAny (model P w) A (searchRest a (.ref x) (kh P w k) ad f es t (way t.mask (kh P w k) (c + q)) i (prb P w t k (c + (q + 1)))) Q E s := by
        unfold searchRest
        rw [R.at hp]
        dsimp only
        refine wpAny_bind (wpAny_holding (wpAny_eqBool_tuple hu (TT p hm) hx ?_))
        refine wpAny_bind (wpAny_setState_of go gd R.fit ?_)
        dsimp only
        by_cases both : (ad && decide (p.2 = k)) = true
        · refine wp_if_pos both (wpAny_pure (yes none (fun z => ?_) ?_))
          · rw [z] at both; exact nomatch both
          · exact List.mem_map.mpr ⟨p, hm, of_decide_eq_true (Bool.and_eq_true _ _ ▸ both).2⟩
        · refine wp_if_neg both ?_
          first
            | refine wpAny_bind (wpAny_pure ?_)
            | skip
          rw [sameMem]
          dsimp only
          simp only [if_true, live, R.at hp]
          refine wpAny_bind (wpAny_isSame_ref_self (wpAny_bind (wpAny_pure ?_)))
          simp only [if_true]
          by_cases same : p.2 = k
          · exact wp_if_pos (by simp [same]) (wpAny_pure (yes (some i) (fun _ => rfl) (List.mem_map.mpr ⟨p, hm, same⟩)))
          · refine wp_if_neg (by simp [same]) ?_
            refine look_from R TT hx hu hKf free busy yes no f (c + (q + 1)) _ rfl (by omega) (by omega) fun i0 p0 h0 hk0 => ?_
            obtain ⟨c', a1, a2, a3⟩ := hre i0 p0 h0 hk0
            refine ⟨c', ?_, a2, a3⟩
            rcases Nat.lt_trichotomy c' (c + q) with z | z | z
            · exact (hno (c' - c) i0 (by omega) (by rw [e1, show c + (c' - c) = c' by omega]; exact a3) ((hsh i0 p0 h0).trans (congrArg (kh P w) hk0))).elim
            · rw [z] at a3
              have s0 := live.symm.trans (slot_live R.tab.ris a3)
              injection s0 with s0
              rw [← s0, hp] at h0
              exact absurd ((congrArg Prod.snd (Option.some.inj h0)).trans hk0) same
            · omega
      by_cases hl : t.led = true
      · refine wp_if_neg (by simp [hl]) ?_
        first
          | exact rest
          | exact wpAny_bind (wpAny_pure rest)
      · refine wp_if_pos (by simp [hl]) (wpAny_bind (unseen hx (fun y hy => ?_) ?_))
        · obtain ⟨e, he, ee⟩ := List.mem_map.mp hy
          have he1 : e ∈ es ∧ e.1 = kh P w k := by simpa using he
          have he2 : e ∈ es.toList := by simpa using he1.1
          rw [R.row] at he2
          obtain ⟨p2, hp2, e2⟩ := List.mem_map.mp he2
          exact ⟨p2.2, p2.1, by rw [← ee, ← e2], TT p2 hp2⟩
        · refine wp_if_neg (by decide) ?_
          first
            | exact rest
            | exact wpAny_bind (wpAny_pure rest)
    · have met : t.probe (fun i => (es[i]?.map (·.1)).getD 0) (kh P w k) (stand.getD (t.probeStart (kh P w k))) = some (.empty (way t.mask (kh P w k) K) none) := by
        have e2 : way t.mask (kh P w k) K = (nth t.mask (prb P w t k c) (K - c)).j := by rw [e1, show c + (K - c) = K by omega]
        rw [hst, e2]
        exact hpr
      rw [met]
      dsimp only
      refine wpAny_pure (no fun hm => ?_)
      obtain ⟨p0, h0, hk0⟩ := List.mem_map.mp hm
      obtain ⟨i0, hi0, e0⟩ := List.getElem_of_mem h0
      have h00 : L[i0]? = some p0 := by rw [List.getElem?_eq_getElem hi0, e0]
      obtain ⟨c', a1, a2, a3⟩ := hre i0 p0 h00 hk0
      exact hno (c' - c) i0 (by omega) (by rw [e1, show c + (c' - c) = c' by omega]; exact a3) ((hsh i0 p0 h00).trans (congrArg (kh P w) hk0))
theorem look_at {ad : Bool} (R : SetTK P w s.heap a L es ep t) (TT : ∀ p ∈ L, TupK P w s.heap p.2 p.1) {x : Addr} {k : List Key} (hx : TupK P w s.heap k x) (hu : A.units < cLine) {Q : SetFound → Shared → Prop}
    (yes : ∀ r, (ad = false → r.isSome = true) → k ∈ L.map (·.2) → Q (.there r) s)
    (no : ∀ K, k ∉ L.map (·.2) → way t.mask (kh P w k) K ∉ t.place.toList → (∀ c, c < K → way t.mask (kh P w k) c ∈ t.place.toList) → Q (.free (way t.mask (kh P w k) K) false) s) :
    wpAny (model P w) A (setSearch a (.ref x) (kh P w k) ad) Q E s := by
  have hroom := R.room
  obtain ⟨K, hKf, free, busy⟩ := R.tab.first (by rw [List.length_map]; omega) (kh P w k)
  have small : 10 * SetTable.turns t.mask ≤ 1420 := by
    unfold SetTable.turns
    rcases R.tab.mok with e | e | e <;> omega
  unfold setSearch
  refine look_from R TT hx hu hKf free busy yes (fun hn => no K hn free busy) 100000 0 none rfl (Nat.zero_le _) (by omega) fun i p hp hk => ?_
  have hil : i < t.place.toList.length := by
    rw [Array.length_toList, R.psz]
    exact (List.getElem?_eq_some_iff.mp hp).1
  have hj := List.getElem?_eq_getElem hil
  obtain ⟨c, hc, e⟩ := R.tab.before free (by rw [List.getElem?_map, hp, ← hk] <;> rfl) hj
  exact ⟨c, Nat.zero_le _, hc, by rw [hj, e]⟩
/-! adding -/
theorem tup_same {h h' : Heap} {k : List Key} {a b : Addr} {o : Obj} {es : Array (Int × Value)} {ep : Nat} {t : SetTable} (T : TupK P w h k b) (ho : h.get? a = some o) (hd : o.data = .set es ep t) (sb : Heap.SameBut a h h') : TupK P w h' k b := by
  obtain ⟨z, its, n, go, gc, gd, gi⟩ := T
  have ne : b ≠ a := by
    rintro rfl
    obtain rfl : z = o := Option.some.inj (go.symm.trans ho)
    rw [hd] at gd
    exact nomatch gd
  exact ⟨z, its, n, (sb.2 b ne).trans go, gc, gd, gi⟩
theorem ents_put (L : List (Addr × List Key)) (p : Nat) (x : Addr) (k : List Key) : ents P w (L.take p ++ (x, k) :: L.drop p) = (ents P w L).take p ++ (kh P w k, Value.ref x) :: (ents P w L).drop p := by
  unfold ents
  rw [List.map_append, List.map_cons, List.map_take, List.map_drop]
theorem pick_all {α : Type} (L : List α) : (List.range L.length).filterMap (fun i => L[i]?) = L := by
  have key : ∀ n, n ≤ L.length → (List.range n).filterMap (fun i => L[i]?) = L.take n := by
    intro n
    induction n with
    | zero => exact fun _ => rfl
    | succ n more =>
      intro hn
      rw [List.range_succ, List.filterMap_append, more (Nat.le_of_succ_le hn), List.take_succ, List.getElem?_eq_getElem hn, List.filterMap_cons_some (List.getElem?_eq_getElem hn)] <;> rfl
  rw [key _ (Nat.le_refl _), List.take_length]
theorem ents_order (L : List (Addr × List Key)) (es : Array (Int × Value)) (order : Array Nat) (hr : es.toList = ents P w L) (hp : order.toList.Perm (List.range L.length)) :
    ∃ L2, (order.filterMap (es[·]?)).toList = ents P w L2 ∧ L2.Perm L ∧ (L2.map fun p => kh P w p.2) = order.toList.map fun i => (es.map (·.1)).getD i 0 := by
  have sz := ents_len hr
  have ent : ∀ i (h : i < L.length), es[i]? = some (kh P w (L[i]).2, Value.ref (L[i]).1) := fun i h => by
    rw [← Array.getElem?_toList, hr]
    unfold ents
    rw [List.getElem?_map, List.getElem?_eq_getElem h] <;> rfl
  have key : ∀ l : List Nat, (∀ i ∈ l, i < L.length) → l.filterMap (fun i => es[i]?) = ents P w (l.filterMap (fun i => L[i]?)) ∧ ((l.filterMap (fun i => L[i]?)).map fun p => kh P w p.2) = l.map fun i => (es.map (·.1)).getD i 0 := by
    intro l
    induction l with
    | nil => exact fun _ => ⟨rfl, rfl⟩
    | cons i l more =>
      intro hl
      have hi := hl i List.mem_cons_self
      obtain ⟨e1, e2⟩ := more fun j hj => hl j (.tail _ hj)
      have e4 : (es.map (·.1)).getD i 0 = kh P w (L[i]).2 := by
        have e5 : (es.map (·.1))[i]? = some (kh P w (L[i]).2) := by rw [Array.getElem?_map, ent i hi] <;> rfl
        simp [Array.getD_eq_getD_getElem?, e5]
      rw [List.filterMap_cons_some (List.getElem?_eq_getElem hi), List.filterMap_cons_some (ent i hi), e1, List.map_cons, List.map_cons, e2, e4]
      exact ⟨rfl, rfl⟩
  obtain ⟨e1, e2⟩ := key order.toList fun i hi => List.mem_range.mp (hp.mem_iff.mp hi)
  refine ⟨_, by first | (rw [Array.toList_filterMap]; exact e1) | simpa using e1, ?_, e2⟩
  have h1 := hp.filterMap (fun i => L[i]?)
  rwa [pick_all] at h1
theorem relay_key {o : Obj} (ho : s.heap.get? a = some o) (hex : o.ExactSet) (hd : o.data = .set es ep t) (row : es.toList = ents P w L) (psz : t.place.size = L.length) (hdm : t.dummies = #[]) (hfl : L.length ≤ t.mask)
    (one : (L.map (·.2)).Nodup) (few : L.length < 64) (ld : w.params.followText "set-order" = true ∨ t.led = true) {wanted M : Nat} (hw : SetTable.sizeAbove wanted - 1 = M) (hM : MaskOk M) (hw2 : SetTable.sizeAbove wanted ≤ 128) (hn : L.length * 5 < M * 3) {Q : Unit → Shared → Prop}
    (q : ∀ h' L' es' ep' t', Heap.SameBut a s.heap h' → SetTK P w h' a L' es' ep' t' → L'.Perm L → Q () { s with heap := h' }) : wpAny (model P w) A (setRelay a wanted) Q E s := by
  have sz := ents_len row
  obtain ⟨t', order, e, hp, T, em, el, _, ed⟩ := relaid_ok t (hs := es.map (·.1)) (wanted := wanted) hw hM (by rw [Array.size_map, sz]; omega)
  rw [Array.size_map, sz] at hp
  obtain ⟨L2, r1, r2, r3⟩ := ents_order L es order row hp
  rw [← r3] at T
  have hs2 : (order.filterMap (es[·]?)).size = es.size := by rw [ents_len r1, r2.length_eq, sz]
  rw [setRelay_eq]
  refine wpAny_bind (wpAny_setState_of ho hd (fit_of sz psz hdm hfl) ?_)
  dsimp only
  refine wp_if_neg (by rw [sizeLine_eq]; omega) ?_
  first
    | refine wpAny_bind (wpAny_pure ?_)
    | skip
  rw [e]
  dsimp only
  refine wpAny_bind (wp_if_neg (by rw [hs2]; simp) ?_)
  first
    | refine wpAny_bind (wpAny_pure (wpAny_pure ?_))
    | refine wpAny_pure ?_
  dsimp only
  refine wpAny_storeSet_of ho hd ?_ (by rw [hs2, sz, sizeLine_eq]; omega)
  refine q _ L2 (order.filterMap (es[·]?)) (ep + 1) t' (Heap.SameBut.update ..) ⟨⟨_, store_at ho hd, ⟨hex.1, hex.2.1, hex.2.2⟩, rfl⟩, r1, T, (r2.map (·.2)).nodup_iff.mpr one, ?_, by rw [r2.length_eq]; exact few, by rw [el]; exact ld⟩ r2
  rw [r2.length_eq, em]
  exact hn
theorem add_key (R : SetTK P w s.heap a L es ep t) (TT : ∀ p ∈ L, TupK P w s.heap p.2 p.1) {x : Addr} {k : List Key} (hx : TupK P w s.heap k x) (hu : A.units < cLine) (hfew : L.length + 1 < 64) {Q : Bool → Shared → Prop}
    (q : ∀ b h' L' es' ep' t', Heap.SameBut a s.heap h' → SetTK P w h' a L' es' ep' t' → (k ∈ L.map (·.2) → L' = L) → (k ∉ L.map (·.2) → L'.Perm ((x, k) :: L)) → Q b { s with heap := h' }) :
    wpAny (model P w) A (setAddHashed a (.ref x) (kh P w k)) Q E s := by
  obtain ⟨o, go, gx, gd⟩ := R.ob
  have sz := ents_len R.row
  have room := R.room
  unfold setAddHashed
  refine wpAny_holding ?_
  rw [show (100000 : Nat) = 99999 + 1 from rfl, setAddHashedIn_succ]
  refine wpAny_bind (wpAny_setState_of go gd R.fit ?_)
  dsimp only
  refine wp_if_neg (by simp [byScan, Value.scannable]) ?_
  first
    | refine wpAny_bind (wpAny_pure ?_)
    | skip
  refine wpAny_bind (look_at R TT hx hu (fun r _ hm => ?_) fun K hm free busy => ?_)
  · exact wpAny_pure (q false s.heap L es ep t (Heap.SameBut.refl a s.heap) R (fun _ => rfl) fun z => absurd hm z)
  · dsimp only
    refine wpAny_bind (wpAny_setState_of go gd R.fit ?_)
    dsimp only
    obtain ⟨q1, q2, q3, q4, q5, q6, q7, q8, q9⟩ := R.tab.put free busy
    generalize t.put (way t.mask (kh P w k) K) = pt at q1 q3 q4 q5 q6 q7 q8 q9 ⊢
    obtain ⟨t1, p⟩ := pt
    dsimp only at q1 q3 q4 q5 q6 q7 q8 q9 ⊢
    subst q1
    have ins : (SetTable.insertAt es (SetTable.below t.place (way t.mask (kh P w k) K)) (kh P w k, Value.ref x)).toList = ents P w (L.take (SetTable.below t.place (way t.mask (kh P w k) K)) ++ (x, k) :: L.drop (SetTable.below t.place (way t.mask (kh P w k) K))) := by
      rw [SetTable.toList_insertAt, ents_put, R.row]
    generalize SetTable.below t.place (way t.mask (kh P w k) K) = p at q2 q3 ins ⊢
    have pm := put_perm L p (x, k)
    have hhs : (L.take p ++ (x, k) :: L.drop p).map (fun p => kh P w p.2) = (L.map fun p => kh P w p.2).take p ++ kh P w k :: (L.map fun p => kh P w p.2).drop p := by
      rw [List.map_append, List.map_cons, List.map_take, List.map_drop]
    rw [← hhs] at q3
    generalize L.take p ++ (x, k) :: L.drop p = L1 at pm q3 ins hhs
    have len1 : L1.length = L.length + 1 := pm.length_eq
    have one1 : (L1.map (·.2)).Nodup := (pm.map (·.2)).nodup_iff.mpr (by rw [List.map_cons]; exact List.nodup_cons.mpr ⟨hm, R.one⟩)
    have hes := (ents_len ins).trans len1
    generalize SetTable.insertAt es p (kh P w k, Value.ref x) = es1 at ins hes ⊢
    have body : ∀ t2 : SetTable, t2 = t1 ∨ t2 = { t1 with plain := false } → wpAny (model P w) A (do
        storeSet a es1 t2
        if !false && t2.tooFull then setRelay a (SetTable.grown (es.size + 1))
        return true) Q E s := fun t2 ht2 => by
      have q32 : TabOk t2 (L1.map fun p => kh P w p.2) := by
        rcases ht2 with rfl | rfl
        · exact q3
        · exact ⟨q3.ris, q3.dm, q3.sz, q3.mok, q3.bd, q3.reach⟩
      have q42 : t2.mask = t.mask := by rcases ht2 with rfl | rfl <;> exact q4
      have ld2 : w.params.followText "set-order" = true ∨ t2.led = true := by
        have e : t2.led = t.led := by rcases ht2 with rfl | rfl <;> exact q5
        rw [e]
        exact R.led
      have full : t2.tooFull = t1.tooFull := by rcases ht2 with rfl | rfl <;> rfl
      refine wpAny_bind (wpAny_storeSet_of go gd ?_ (by rw [hes, sizeLine_eq]; omega))
      have sb : Heap.SameBut a s.heap (s.heap.update a (Obj.putSet es1 t2)) := Heap.SameBut.update ..
      have ho1 := store_at (es' := es1) (t' := t2) go gd
      generalize s.heap.update a (Obj.putSet es1 t2) = h1 at sb ho1 ⊢
      have psz2 : t2.place.size = L1.length := by
        have z := q32.sz
        rwa [List.length_map] at z
      have say : t1.tooFull = decide ((L.length + 1) * 5 ≥ t1.mask * 3) := by
        unfold SetTable.tooFull
        rw [q9, List.length_map]
      by_cases hf : t2.tooFull = true
      · first
          | (refine wpAny_bind ?_; refine wp_if_pos (by simp [hf]) ?_)
          | (refine wp_if_pos (by simp [hf]) ?_; refine wpAny_bind ?_)
        have big : (L.length + 1) * 5 ≥ t.mask * 3 := by
          rw [full, say, decide_eq_true_eq, q4] at hf
          exact hf
        rw [sz]
        have two : (t.mask = 7 ∧ L.length = 4) ∨ (t.mask = 31 ∧ L.length = 18) := by
          rcases R.tab.mok with e | e | e
          · exact .inl ⟨e, by rw [e] at big room; omega⟩
          · exact .inr ⟨e, by rw [e] at big room; omega⟩
          · rw [e] at big; omega
        have go2 : ∀ M, SetTable.sizeAbove (SetTable.grown (L.length + 1)) - 1 = M → MaskOk M → SetTable.sizeAbove (SetTable.grown (L.length + 1)) ≤ 128 → (L.length + 1) * 5 < M * 3 →
            wpAny (model P w) A (setRelay a (SetTable.grown (L.length + 1))) (fun _ s' => wpAny (model P w) A (pure true) Q E s') E { s with heap := h1 } := fun M b1 b2 b3 b4 =>
          relay_key (s := { s with heap := h1 }) ho1 ⟨gx.1, gx.2.1, gx.2.2⟩ rfl ins psz2 q32.dm (by rw [len1, q42]; rcases two with ⟨e, e2⟩ | ⟨e, e2⟩ <;> omega) one1 (by rw [len1]; exact hfew) ld2 b1 b2 b3 (by rw [len1]; exact b4)
            fun h2 L2 es2 ep2 t2 sb2 R2 pm2 => wpAny_pure (q true h2 L2 es2 ep2 t2 (sb.trans sb2) R2 (fun z => absurd z hm) fun _ => pm2.trans pm)
        rcases two with ⟨_, e2⟩ | ⟨_, e2⟩
        · exact go2 31 (by rw [e2, size_20]) (.inr (.inl rfl)) (by rw [e2, size_20]; decide) (by omega)
        · exact go2 127 (by rw [e2, size_76]) (.inr (.inr rfl)) (by rw [e2, size_76]; decide) (by omega)
      · first
          | refine wp_if_neg (by simp [hf]) ?_
          | (refine wpAny_bind ?_; refine wp_if_neg (by simp [hf]) ?_; refine wpAny_pure ?_)
        refine wpAny_pure (q true h1 L1 es1 (ep + 1) t2 sb ⟨⟨_, ho1, ⟨gx.1, gx.2.1, gx.2.2⟩, rfl⟩, ins, q32, one1, ?_, by rw [len1]; exact hfew, ld2⟩ (fun z => absurd z hm) fun _ => pm)
        rw [full, say, decide_eq_true_eq, q4] at hf
        rw [len1, q42]
        omega
    by_cases hp1 : t1.plain = true
    · first
        | (refine wpAny_bind ?_; refine wp_if_pos hp1 ?_; refine val_tup hx fun c => ?_)
        | refine wp_if_pos hp1 (wpAny_bind (val_tup hx fun c => ?_))
      cases c
      · exact body _ (.inr rfl)
      · exact body _ (.inl rfl)
    · first
        | (refine wpAny_bind ?_; refine wp_if_neg hp1 ?_; refine wpAny_pure ?_)
        | refine wp_if_neg hp1 (wpAny_bind (wpAny_pure ?_))
      exact body _ (.inl rfl)
end
end L2

namespace L2
open PySem PySem.Spec PyProof.Rows
/-- the set at a: tuples of ints and texts, each with its address -/
def TsO (P : Program) (w : World) (a : Addr) (L : List (Addr × List Key)) : HO := .ext fun h => ∃ es ep t, SetTK P w h a L es ep t
/-- its tuples stand where they stood -/
def TupsIn (H : Hp) (L : List (Addr × List Key)) : Prop := ∀ p ∈ L, H p.1 = some (.tup (p.2.map kV))
/-- the key is among them -/
def hasK (L : List (Addr × List Key)) (k : List Key) : Bool := L.any fun p => decide (p.2 = k)
theorem hasK_iff {L : List (Addr × List Key)} {k : List Key} : hasK L k = true ↔ k ∈ L.map (·.2) := by simp [hasK]
theorem hasK_no {L : List (Addr × List Key)} {k : List Key} (h : k ∉ L.map (·.2)) : hasK L k = false := by
  cases e : hasK L k
  · rfl
  · exact absurd (hasK_iff.mp e) h
section
variable {X : Cx} {P : Program} {w : World}
theorem setTK_move {h h' : Heap} {a : Addr} {L : List (Addr × List Key)} {es : Array (Int × Value)} {ep : Nat} {t : SetTable} (R : SetTK P w h a L es ep t) (k : ∀ o, h.get? a = some o → h'.get? a = some o) : SetTK P w h' a L es ep t := by
  obtain ⟨o, go, r⟩ := R.ob
  exact ⟨⟨o, k o go, r⟩, R.row, R.tab, R.one, R.room, R.few, R.led⟩
theorem tsO_new {H : Hp} {h : Heap} {a : Addr} {L : List (Addr × List Key)} {es : Array (Int × Value)} {ep : Nat} {t : SetTable} (R : SetTK P w h a L es ep t) : ObjOk P w H h a (TsO P w a L) := by
  have ⟨o, go, _⟩ := R.ob
  exact ⟨⟨es, ep, t, R⟩, ⟨o, go⟩, fun h1 h2 ⟨e1, p1, t1, p⟩ k => ⟨e1, p1, t1, setTK_move p k⟩⟩
theorem tsO_get {pins : List (Addr × Obj)} {σ : St} {H : Hp} {s : Shared} {a : Addr} {L : List (Addr × List Key)} (I : Inv X pins σ H s) (ha : H a = some (TsO X.prog X.w a L)) : ∃ es ep t, SetTK X.prog X.w s.heap a L es ep t := (I.hok a _ ha).1
theorem setTK_type {s : Shared} {a : Addr} {L : List (Addr × List Key)} {es : Array (Int × Value)} {ep : Nat} {t : SetTable} (R : SetTK P w s.heap a L es ep t) : s.TypeIs (.ref a) "set" := by
  obtain ⟨o, go, gx, _⟩ := R.ob
  exact ⟨o, go, gx.1⟩
/-- set(), that tuples will be put into -/
def rSet0T (P : Program) (w : World) : List V → Hp → VK → Prop := fun xs H Q => xs = [] ∧ ∀ p, H p = none → Q (.ref p) (upd H p (TsO P w p []))
theorem setTK_nil {h : Heap} {a : Addr} (ho : h.get? a = some { cls := .type "set", dict := none, data := .set #[] 0 (.fresh 0 0 (!w.params.followText "set-order")) }) : SetTK P w h a [] #[] 0 (.fresh 0 0 (!w.params.followText "set-order")) :=
  ⟨⟨_, ho, ⟨rfl, rfl, rfl⟩, rfl⟩, rfl, ⟨.nil, rfl, rfl, .inl rfl, (fun x hx => nomatch hx), fun i h j hi => by simp at hi⟩, .nil, by show 0 * 5 < 7 * 3; decide, by show 0 < 64; decide, by show _ ∨ (!w.params.followText "set-order") = true; cases w.params.followText "set-order" <;> simp⟩
theorem cr_set0T : CallR X (.type "set") (rSet0T X.prog X.w) := by
  intro pins s σ H xs us Q I r h
  obtain ⟨rfl, q⟩ := h
  cases r
  refine setR_new fun _ => ?_
  refine ⟨.ref _, upd H s.heap.objs.size (TsO X.prog X.w s.heap.objs.size []), I.laid (t' := s.toks) (fun b u e => Heap.get?_push_of_some _ e) (Nat.le_refl _) (tsO_new (setTK_nil (Heap.get?_push_size _ rfl))), rfl, q _ (I.hok.fresh (Nat.le_refl _))⟩
theorem tupK_of {pins : List (Addr × Obj)} {σ : St} {H : Hp} {s : Shared} {b : Addr} {k : List Key} (I : Inv X pins σ H s) (e : H b = some (.tup (k.map kV))) : TupK X.prog X.w s.heap k b := key_of I.hok e
/-- s.add(t) -/
def rSAddT (P : Program) (w : World) : V → List V → Hp → VK → Prop := fun x xs H Q => ∃ (a b : Addr) (k : List Key) (L : List (Addr × List Key)), x = V.ref a ∧ xs = [.ref b] ∧ H b = some (.tup (k.map kV)) ∧ H a = some (TsO P w a L) ∧ TupsIn H L ∧ L.length + 1 < 64 ∧
  (k ∈ L.map (·.2) → Q .non (upd H a (TsO P w a L))) ∧ (k ∉ L.map (·.2) → ∀ L', L'.Perm ((b, k) :: L) → Q .non (upd H a (TsO P w a L')))
theorem mt_saddT (hu : X.A.units + 1 < cLine) : MtR X "set.add" (rSAddT X.prog X.w) := by
  intro pins s σ H x xs v us Q I rx rxs h
  obtain ⟨a, b, k, L, rfl, rfl, hb, ha, hL, room, q1, q2⟩ := h
  cases rx
  obtain ⟨u, rfl, ru⟩ := rxs.one
  cases ru
  obtain ⟨es, ep, t, R⟩ := tsO_get I ha
  have T := tupK_of I hb
  refine wpAny_call_entry F.slot_set_add (setTK_type R) F.entry_set_add ?_ (F.args_set_add_2 _ _)
  simp only [Builtin.«set.add», Builtin.Frozenset.oneOther, Builtin.Frozenset.addrOf, setAdd, List.isEmpty_nil, bind_assoc]
  refine wpAny_bind (wpAny_pure (wpAny_bind (wpAny_pure (wpAny_bind (wpAny_holding (wpAny_bind (wpAny_pyHash_tuple (A := X.A.in1) hu T ?_)))))))
  refine add_key (s := { s with toks := s.toks + (k.length + 1) }) R (fun p hp => tupK_of (s := s) I (hL p hp)) T (by exact hu) room fun c h' L' es' ep' t' sb R' y n => ?_
  show wpAny _ _ (ret Value.none) _ _ _
  refine wpAny_pure ⟨_, rfl, ?_⟩
  have he : ∃ u, h'.get? a = some u := by
    have ⟨o, go, _⟩ := R'.ob
    exact ⟨o, go⟩
  refine ⟨.non, upd H a (TsO X.prog X.w a L'), I.write (e := a) (t' := s.toks + (k.length + 1)) (by rw [ha]; trivial) (.inl rfl) (fun b u hb hu => (sb.2 b hb).trans hu) he (tsO_new R'), rfl, ?_⟩
  by_cases m : k ∈ L.map (·.2)
  · rw [y m]; exact q1 m
  · exact q2 m L' (n m)
def tSAddT (P : Program) (w : World) (to : TE) (t : TA) : TE := fun σ H Q => to σ H fun x H1 => (∃ a L, x = V.ref a ∧ H1 a = some (TsO P w a L)) ∧ t σ H1 fun xs H2 => rSAddT P w x xs H2 Q
theorem pe_saddT {o e : Expr} {es : List Expr} {to : TE} {t : TA} {apos cpos : Pos} (hu : X.A.units + 1 < cLine) (ho : PE X o to) (ha : PA X (e :: es) t)
    (h1 : attributeBase o "add" X.env (eval o X.env) = eval o X.env := by rfl)
    (h2 : ((backTo cpos (starEach (e :: es) X.env)).all (fun x => !x.1) && (backToKw cpos (keywordEach [] X.env)).all (fun x => x.1.isSome) && decide ((e :: es).length + ([] : List Keyword).length + (if ([] : List Keyword).isEmpty then 0 else 1) < 30)) = true := by rfl)
    (h3 : (apos.endLine == cpos.line) = true := by rfl) (h4 : starEach (e :: es) X.env = (false, eval e X.env) :: starEach es X.env := by rfl) (h5 : (backTo cpos (starEach es X.env)).any (·.1) = false := by rfl) :
    PE X (.Call (.Attribute o "add" apos) (e :: es) [] cpos) (tSAddT X.prog X.w to t) := by
  refine ⟨fun pins s σ H Q I h => ?_⟩
  refine wpAny_Call_method_late h1 h2 h3 rfl (thn (ho.run pins s σ H _ I h) fun v s1 ⟨x, H1, I1, r1, ty, q1⟩ => ?_)
  obtain ⟨a, L, rfl, hka⟩ := ty
  obtain ⟨ee, ep, tt, R⟩ := tsO_get I1 hka
  cases r1
  refine ⟨"set", "set.add", F.plainAttrs_set, F.slot_set_add, F.type_set_add, setTK_type R, (fun b e => ?_), ?_⟩
  · injection e with e
    subst e
    have ⟨o, go, gx, _⟩ := R.ob
    exact ⟨o, go, gx.2.1⟩
  have hA := ha.run cpos pins s1 σ H1 _ I1 q1
  rw [h4] at hA ⊢
  refine Calls.callWith_builtin (by show (false || (backTo cpos (starEach es X.env)).any (·.1)) = false; rw [h5] <;> rfl) (Calls.evalArgs_plain ?_)
  exact thn hA fun us s2 ⟨vs, H2, I2, r2, q2⟩ => mt_saddT hu pins s2 σ H2 (.ref a) vs (.ref a) us Q I2 rfl r2 q2
/-- t in s -/
def rSInT (P : Program) (w : World) : V → V → Hp → VK → Prop := fun x y H Q => ∃ (a b : Addr) (k : List Key) (L : List (Addr × List Key)), x = .ref b ∧ y = .ref a ∧ H b = some (.tup (k.map kV)) ∧ H a = some (TsO P w a L) ∧ TupsIn H L ∧ Q (.bl (hasK L k)) H
theorem find_key {A : Around} {E : Value → Shared → Prop} {s : Shared} {a : Addr} {L : List (Addr × List Key)} {es : Array (Int × Value)} {ep : Nat} {t : SetTable} (R : SetTK P w s.heap a L es ep t) (TT : ∀ p ∈ L, TupK P w s.heap p.2 p.1) {x : Addr} {k : List Key} (hx : TupK P w s.heap k x) (hu : A.units < cLine) {Q : Option Nat → Shared → Prop}
    (q : ∀ r : Option Nat, r.isSome = hasK L k → Q r s) : wpAny (model P w) A (setFind a (.ref x) (kh P w k)) Q E s := by
  obtain ⟨o, go, gx, gd⟩ := R.ob
  unfold setFind setFindIn
  refine wpAny_bind (wpAny_setState_of go gd R.fit ?_)
  dsimp only
  refine wp_if_neg (by simp [byScan, Value.scannable]) ?_
  first
    | refine wpAny_bind (wpAny_pure ?_)
    | skip
  refine wpAny_bind (look_at (ad := false) R TT hx hu (fun r hr m => ?_) fun K m _ _ => ?_)
  · exact wpAny_pure (q r (by rw [hr rfl, hasK_iff.mpr m]))
  · exact wpAny_pure (q none (by rw [hasK_no m] <;> rfl))
/-- x in s, s a set: the set's own __contains__ is asked -/
theorem set_asked {A : Around} {E : Value → Shared → Prop} {s : Shared} {a b : Addr} {Q : Bool → Shared → Prop} (ty : s.TypeIs (.ref a) "set") (h : ∀ X, wpAny (model P w) A.in1 (setContains a (.ref b)) Q X s) : wpAny (model P w) A (contains (.ref a) (.ref b)) Q E s := by
  have own : ¬ (some (Value.builtin "set.__contains__") == some Value.none) = true := by rw [beq_builtin_none]; exact Bool.false_ne_true
  refine wpAny_holding ?_
  refine wpAny_bind (wpAny_specialOf ty F.slot_set_contains.lookup ?_)
  refine wp_if_neg own (wpAny_bind (wpAny_callSpecialUnlessNone?_slot (name := Str.ofString "__contains__") ty F.slot_set_contains (wpAny_call_entry F.slot_set_contains ty entry_set_contains ?_ (F.args_set_contains_2 _ _))))
  simp only [Builtin.«frozenset.__contains__», Builtin.Frozenset.oneOther, Builtin.Frozenset.addrOf, Builtin.Frozenset.withSetAsKey, List.isEmpty_nil, bind_assoc]
  exact wpAny_bind (wpAny_pure (wpAny_bind (wpAny_pure (wpAny_bind (wpAny_tryCatch (wpAny_mono (h _) (fun r z q => wpAny_pure ⟨_, rfl, wpAny_truthy_bool q⟩) fun _ _ q => q))))))
theorem or_sinT (hu : X.A.units + 1 < cLine) : OpR X (compareOp .In) (rSInT X.prog X.w) := by
  intro pins s σ H x y v u Q I rx ry h
  obtain ⟨a, b, k, L, rfl, rfl, hb, ha, hL, q⟩ := h
  cases rx
  cases ry
  obtain ⟨es, ep, t, R⟩ := tsO_get I ha
  have T := tupK_of I hb
  have ty := setTK_type R
  refine wpAny_bind (set_asked ty fun _ => wpAny_holding (wpAny_bind (wpAny_pyHash_tuple (A := X.A.in1) hu T ?_)))
  refine wpAny_bind (find_key (s := { s with toks := s.toks + (k.length + 1) }) R (fun p hp => tupK_of (s := s) I (hL p hp)) T (by exact hu) fun r hr => ?_)
  exact wpAny_pure (wpAny_pure ⟨.bl (hasK L k), H, I.tok _, by rw [hr]; rfl, q⟩)
/-- len(s), a set of ints and texts -/
def rLenSK (P : Program) (w : World) : List V → Hp → VK → Prop := fun xs H Q => ∃ (a : Addr) (S : Key → Bool) (n : Nat), xs = [.ref a] ∧ H a = some (SetK P w a S n) ∧ Q (.int n) H
theorem call_lenSK : CallR X (.builtin "len") (rLenSK X.prog X.w) := by
  intro pins s σ H xs us Q I r h
  obtain ⟨a, S, n, rfl, ha, q⟩ := h
  rw [Vals.ref1 r]
  obtain ⟨o, es, ep, t, ho, hex, hd, _, _, hb, hf, hn⟩ := setK_get I ha
  have hb' : es.size < 4096 := hb
  refine call_len_set ho hex hd hf (by omega) ⟨.int n, H, I.tok _, ⟨_, by rw [hn]⟩, q⟩
end
end L2

/-! set(l) of a list: the shell, and the loop that puts the items in -/
namespace L2
open PySem PySem.Froz PyProof.Rows PySem.Spec
section
variable {P : Program} {w : World} {A : Around} {E : Value → Shared → Prop} {s : Shared}
/-- the set that set() begins with -/
def bareSet (w : World) : Obj := { cls := .type "set", dict := none, data := .set #[] 0 (.fresh 0 0 (!w.params.followText "set-order")) }
/-- set(l): what the loop that puts the items in makes of the bare set is the set -/
theorem set_made {l : Addr} {xs : Array Value} {Q : Value → Shared → Prop} (Gd : Heap → Prop) (hl : s.heap.IsList l xs) (hh : A.handled = none)
    (loop : ∀ B : Around, B.handled = none → codeAny (model P w) B (.builtin "set.update.loop" ⟨[.ref s.heap.objs.size, .ref (s.heap.objs.size + 1)], []⟩)
      (fun r z => r = .ok (.ret .none) ∧ ∃ h' tk, z = { s with heap := h', toks := tk } ∧ Gd h' ∧ ∀ b o, s.heap.get? b = some o → h'.get? b = some o)
      { s with heap := (s.heap.push (bareSet w)).push { cls := .type "list_iterator", data := .fields #[.ref l, .int 0 0] } })
    (q : ∀ h' tk, Gd h' → (∀ b o, s.heap.get? b = some o → h'.get? b = some o) → Q (.ref s.heap.objs.size) { s with heap := h', toks := tk }) : wpAny (model P w) A (call (.type "set") [.ref l]) Q E s := by
  obtain ⟨c, tl, hmro⟩ := F.called_set.mro
  have f1 := F.called_set.made
  have f2 := F.called_set.sub
  have f3 := F.called_set.notType
  have f4 := F.called_set.canCreate
  have f5 := F.typeCall_set_1 (.ref l)
  refine wpAny_call (codeAny_of_tree (?_ : wpAny _ _ (callAny (.type "set") _) _ _ _))
  refine wpAny_pure ⟨Code.quiet_builtin _ (by decide +kernel), codeAny_builtin F.entry_type_call ?_⟩
  rw [Around.under_plain (weight_type_call_type "set" [.ref l] []) rfl]
  repeat (any_goals (first | assumption | wp_step))
  refine codeAny_mono (code_set_led1 (.ref l) (E := E) (Q₁ := fun v z => v = .ref s.heap.objs.size ∧ z = { s with heap := s.heap.push (bareSet w) }) ⟨rfl, rfl⟩) fun r z hr => ?_
  match r, hr with
  | .error e, hr => exact hr
  | .ok .next, hr => exact hr.elim
  | .ok .brk, hr => exact hr.elim
  | .ok .cont, hr => exact hr.elim
  | .ok (.ret v), hr =>
    obtain ⟨rfl, rfl⟩ := hr
    have own : (s.heap.push (bareSet w)).get? s.heap.objs.size = some (bareSet w) := Heap.get?_push_size _ rfl
    have ty : Shared.TypeIs { s with heap := s.heap.push (bareSet w) } (.ref s.heap.objs.size) "set" := ⟨_, own, rfl⟩
    have f6 := F.called_set.init.lookup
    have f7 := F.called_set.init.bind (.ref s.heap.objs.size)
    repeat (any_goals (first | assumption | wp_step))
    refine codeAny_mono (codeAny_call_builtin (R := wants (fun v z => v = .none ∧ ∃ h' tk, z = { s with heap := h', toks := tk } ∧ Gd h' ∧ ∀ b o, s.heap.get? b = some o → h'.get? b = some o) E) F.called_set.init.plain F.entry_set_init (check_set_init_1 ty ?init)) fun r2 z2 hr2 => ?_
    case init =>
      obtain ⟨⟨cl, dc, dt, sl⟩, g, gc, n, gd⟩ := hl
      simp only at gc gd
      subst gc gd
      have g1 : (s.heap.push (bareSet w)).get? l = some ⟨.type "list", dc, .seq xs n, sl⟩ := Heap.get?_push_of_some _ g
      have li : (s.heap.push (bareSet w)).IsList l xs := ⟨_, g1, rfl, n, rfl⟩
      have k1 := F.sub_list_set
      have k2 := F.sub_list_frozenset
      have k3 : (Value.type "list" == Value.type "dict") = false := by decide
      unfold Builtin.«set.__init__» noKeywords Builtin.Frozenset.updateFrom
      generalize hi : pyIter = PI
      wp_walk
      subst hi
      refine wpAny_pyIter_list li (wpAny_bind (wpAny_runValue ?_))
      have lo := loop A.in1.in1 (by simp [hh])
      rw [Heap.size_push]
      refine codeAny_mono lo fun r3 z3 h3 => ?_
      obtain ⟨rfl, h', tk, rfl, gd, keep⟩ := h3
      exact wpAny_pure (wpAny_pure ⟨rfl, h', tk, rfl, gd, keep⟩)
    match r2, hr2 with
    | .error e, hr2 => exact hr2
    | .ok .next, hr2 => exact hr2.elim
    | .ok .brk, hr2 => exact hr2.elim
    | .ok .cont, hr2 => exact hr2.elim
    | .ok (.ret v), hr2 =>
      obtain ⟨rfl, h', tk, rfl, gd, keep⟩ := hr2
      repeat (any_goals (first | assumption | wp_step))
      exact q h' tk gd keep
/-- the loop over a list: J tells what the set at S is behind i items -/
theorem fill_list {S I l : Addr} {items : Array Value} (J : Nat → Heap → Prop) (calm : A.handled = none) (apart : S ≠ I ∧ S ≠ l ∧ l ≠ I) (stay : ∀ i h h', (∀ o, h.get? S = some o → h'.get? S = some o) → J i h → J i h')
    (add : ∀ i x (z : Shared) (Q : Bool → Shared → Prop) (X : Value → Shared → Prop), items[i]? = some x → J i z.heap → (∀ b h', Heap.SameBut S z.heap h' → J (i + 1) h' → Q b { z with heap := h', toks := z.toks + 1 }) → wpAny (model P w) A.in1 (setAdd S x) Q X z) :
    ∀ (n i : Nat) (z : Shared), n + i = items.size → z.heap.IsListIter I l i → z.heap.IsList l items → J i z.heap → codeAny (model P w) A (.builtin "set.update.loop" ⟨[.ref S, .ref I], []⟩)
      (fun r y => r = .ok (.ret .none) ∧ ∃ h' tk, y = { z with heap := h', toks := tk } ∧ J items.size h' ∧ ∀ b o, b ≠ S → b ≠ I → z.heap.get? b = some o → h'.get? b = some o) z := by
  intro n
  induction n with
  | zero =>
    intro i z en it li j
    obtain rfl : i = items.size := by omega
    exact codeAny_builtin F.entry_set_update_loop ((Around.under_plainId F.plain_set_update_loop _).symm ▸ wpAny_bind (wpAny_pyNext_list_end calm it li (Array.getElem?_eq_none (Nat.le_refl _)) fun h' ext => wpAny_pure ⟨rfl, h', z.toks, rfl, stay _ _ _ (fun o e => ext S o apart.1 e) j, fun b o _ bI e => ext b o bI e⟩))
  | succ n more =>
    intro i z en it li j
    have lt : i < items.size := by omega
    refine codeAny_builtin F.entry_set_update_loop ((Around.under_plainId F.plain_set_update_loop _).symm ▸ wpAny_bind (wpAny_pyNext_list_item it li (Array.getElem?_eq_getElem lt) fun h1 it1 sb1 => ?_))
    refine wpAny_bind (wpAny_holding (add i _ { z with heap := h1 } _ _ (Array.getElem?_eq_getElem lt) (stay _ _ _ (fun o e => (sb1.2 S apart.1).trans e) j) fun b h2 sb2 j2 => wpAny_pure ⟨plainId_quiet F.plain_set_update_loop _, ?_⟩))
    have li1 : h1.IsList l items := li.at fun o e => (sb1.2 l apart.2.2).trans e
    refine codeAny_mono (more (i + 1) { z with heap := h2, toks := z.toks + 1 } (by omega) (it1.at fun o e => (sb2.2 I (Ne.symm apart.1)).trans e) (li1.at fun o e => (sb2.2 l (Ne.symm apart.2.1)).trans e) j2) ?_
    rintro r y ⟨rfl, h', tk, rfl, jn, far⟩
    exact ⟨rfl, h', tk, rfl, jn, fun b o bS bI e => far b o bS bI ((sb2.2 b bS).trans ((sb1.2 b bI).trans e))⟩
end
end L2

/-! sets of texts, made of a list; sorted of them -/
namespace L2
open PySem PySem.Spec PyProof.Rows PySem.Froz
/-- the payload of a set of the texts l -/
structure TxS (P : Program) (w : World) (D : SD) (l : List Str) : Prop where
  ok : TxOk P w D l
  one : l.Nodup
  ris : Ris D.2.2.place.toList
  led : w.params.followText "set-order" = true ∨ D.2.2.led = true
section
variable {P : Program} {w : World} {A : Around} {E : Value → Shared → Prop} {s : Shared}
theorem add_tab (D : SD) (h : Int) (v : Value) (r : Ris D.2.2.place.toList) : Ris (addTx h v D).2.2.place.toList ∧ (addTx h v D).2.2.led = D.2.2.led := by
  obtain ⟨es, ep, t⟩ := D
  have a1 := layNew_ris t es h v r
  have a2 := layNew_led t es h v
  unfold addTx
  dsimp only
  generalize layNew t es h v = L at a1 a2
  obtain ⟨es1, t1, wd, gv⟩ := L
  dsimp only at a1 a2 ⊢
  have b1 : Ris (if t1.plain = true then { t1 with plain := false } else t1).place.toList := by split <;> exact a1
  have b2 : (if t1.plain = true then { t1 with plain := false } else t1).led = t.led := by split <;> exact a2
  generalize (if t1.plain = true then { t1 with plain := false } else t1) = t2 at b1 b2
  unfold tailTx
  split
  · exact ⟨relayAll_ris _ _ _, (relayAll_led _ _ _).trans b2⟩
  · exact ⟨b1, b2⟩
theorem TxS.more {D : SD} {l : List Str} (R : TxS P w D l) {k : Str} (u : Tok) (hk : k ∉ l) : TxS P w (addTx (hashStr w k) (.str k u) D) (k :: l) := by
  obtain ⟨a, b⟩ := add_tab D (hashStr w k) (.str k u) R.ris
  exact ⟨add_ok u R.ok, List.nodup_cons.mpr ⟨hk, R.one⟩, a, by rw [b]; exact R.led⟩
/-- adding a text that is there -/
theorem add_there {a : Addr} {D : SD} {l : List Str} {k : Str} {u : Tok} {Q : Bool → Shared → Prop} (ho : s.heap.get? a = some (sObj "set" D)) (F : TxOk P w D l) (hk : k ∈ l) (hb : l.length < scanBound) (q : Q false s) :
    wpAny (model P w) A (setAddHashed a (.str k u) (hashStr w k)) Q E s := by
  obtain ⟨es, ep, t⟩ := D
  have gd : (sObj "set" (es, ep, t)).data = .set es ep t := rfl
  have gf : t.fits es.size = true := F.fit
  have gel : ElemsOf (strKind P w) es.toList := F.el
  have gsz : es.size = l.length := F.sz
  have gk : (strKind P w).is k (.str k u) = true := is_str k u
  obtain ⟨j, hj⟩ : ∃ j, List.findIdx? (fun e => (strKind P w).is k e.2) es.toList = some j := by
    cases hr : List.findIdx? (fun e => (strKind P w).is k e.2) es.toList with
    | some j => exact ⟨j, rfl⟩
    | none =>
      obtain ⟨e, he, z⟩ := (F.mem k).mp hk
      have z' := List.findIdx?_eq_none_iff.mp hr e he
      rw [z] at z'
      exact nomatch z'
  unfold setAddHashed setAddHashedIn
  refine wpAny_holding (wpAny_bind (wpAny_setState_of ho gd gf ?_))
  dsimp only
  rw [byScan_of rfl (by omega) gel]
  simp only [↓reduceIte]
  unfold setAddByScan
  refine wpAny_bind (wpAny_bind (wpAny_rule ?_))
  refine wpAny_bind (wpAny_setScan_of (knd := strKind P w) (k := k) gk ho gd gf gel ?_)
  rw [hj]
  dsimp only
  exact wpAny_pure (wpAny_pure q)
/-- a text is put in, be it there or not -/
theorem add_text {S : Addr} {D : SD} {l : List Str} {x : Str} {u : Tok} {Q : Bool → Shared → Prop} (at_ : s.heap.get? S = some (sObj "set" D)) (T : TxS P w D l) (few : l.length + 1 < scanBound)
    (q : ∀ b h' D' l', Heap.SameBut S s.heap h' → h'.get? S = some (sObj "set" D') → TxS P w D' l' → l'.length ≤ l.length + 1 → (∀ z, z ∈ l' ↔ z = x ∨ z ∈ l) → Q b { s with heap := h', toks := s.toks + 1 }) :
    wpAny (model P w) A (setAdd S (.str x u)) Q E s := by
  refine wpAny_holding (wpAny_bind ((strKind P w).pyHash (is_str x u) ?_))
  by_cases there : x ∈ l
  · refine add_there (s := { s with toks := s.toks + 1 }) at_ T.ok there (by omega) (q _ s.heap D l (Heap.SameBut.refl S _) at_ T (by omega) fun z => ⟨.inr, ?_⟩)
    rintro (rfl | h)
    · exact there
    · exact h
  · exact add_x (s := { s with toks := s.toks + 1 }) at_ T.ok there few (q _ _ _ (x :: l) (Heap.SameBut.update ..) (get_upd _ at_ rfl) (T.more u there) (Nat.le_refl _) fun z => List.mem_cons)
/-- set(xs), xs a list of texts -/
theorem set_texts {l : Addr} {items : Array Value} (xs : List Str) {Q : Value → Shared → Prop} (hh : A.handled = none) (hl : s.heap.IsList l items) (hit : StrsAre items.toList xs) (few : xs.length < 64)
    (q : ∀ (h' : Heap) (tk : Nat) D ys, h'.get? s.heap.objs.size = some (sObj "set" D) → TxS P w D ys → ys.length ≤ xs.length → (∀ z, z ∈ ys ↔ z ∈ xs) → (∀ b o, s.heap.get? b = some o → h'.get? b = some o) → Q (.ref s.heap.objs.size) { s with heap := h', toks := tk }) :
    wpAny (model P w) A (call (.type "set") [.ref l]) Q E s := by
  have size : items.size = xs.length := by rw [← Array.length_toList]; exact hit.length
  have low : l < s.heap.objs.size := let ⟨_, g, _⟩ := hl; Heap.lt_size g
  have led : w.params.followText "set-order" = true ∨ (!w.params.followText "set-order") = true := by cases w.params.followText "set-order" <;> simp
  refine set_made (fun h' => ∃ D ys, h'.get? s.heap.objs.size = some (sObj "set" D) ∧ TxS P w D ys ∧ ys.length ≤ items.size ∧ ∀ z, z ∈ ys ↔ z ∈ xs.take items.size) hl hh (fun B hB => ?_) fun h' tk ⟨D, ys, g, T, le, mem⟩ keep => ?_
  · have top : ((s.heap.push (bareSet w)).push { cls := .type "list_iterator", data := .fields #[.ref l, .int 0 0] }).get? (s.heap.objs.size + 1) = some { cls := .type "list_iterator", data := .fields #[.ref l, .int 0 0] } := by
      rw [← Heap.size_push s.heap (bareSet w)]
      exact Heap.get?_push_size _ rfl
    refine codeAny_mono (fill_list (A := B) (fun i h => ∃ D ys, h.get? s.heap.objs.size = some (sObj "set" D) ∧ TxS P w D ys ∧ ys.length ≤ i ∧ ∀ z, z ∈ ys ↔ z ∈ xs.take i) hB ⟨Nat.ne_of_lt (Nat.lt_succ_self _), Nat.ne_of_gt low, Nat.ne_of_lt (Nat.lt_succ_of_lt low)⟩
      (fun i h h' k ⟨D, ys, g, r⟩ => ⟨D, ys, k _ g, r⟩) (fun i x z Q' X hx ⟨D, ys, g, T, le, mem⟩ k => ?_) items.size 0 _ rfl ⟨_, top, rfl, rfl⟩ ((hl.push _).push _) ?_) ?_
    · have lt : i < xs.length := by rw [← size]; exact (Array.getElem?_eq_some_iff.mp hx).1
      obtain ⟨t, e⟩ := SS.strs_at hit i x (by rw [Array.getElem?_toList]; exact hx)
      have e' : x = .str xs[i] t := by rw [e, List.getD_eq_getElem?_getD, List.getElem?_eq_getElem lt] <;> rfl
      rw [e']
      refine add_text g T (by unfold scanBound; omega) fun b h' D' l' sb g' T' le' mem' => k b h' sb ⟨D', l', g', T', by omega, fun z => ?_⟩
      rw [mem', mem, take_next (List.getElem?_eq_getElem lt), List.mem_append, List.mem_singleton, or_comm]
    · exact ⟨(#[], 0, .fresh 0 0 (!w.params.followText "set-order")), [], Heap.get?_push_of_some _ (Heap.get?_push_size _ rfl), ⟨TxOk.nil rfl, .nil, .nil, led⟩, Nat.le_refl _, fun z => by rw [List.take_zero]⟩
    · rintro r y ⟨rfl, h', tk, rfl, J, far⟩
      exact ⟨rfl, h', tk, rfl, J, fun b o e => far b o (Nat.ne_of_lt (Heap.lt_size e)) (Nat.ne_of_lt (Nat.lt_succ_of_lt (Heap.lt_size e))) (Heap.get?_push_of_some _ (Heap.get?_push_of_some _ e))⟩
  · refine q h' tk D ys g T (by rw [← size]; exact le) (fun z => ?_) keep
    rw [mem, size, List.take_length]
end
end L2

namespace L2
open PySem PySem.Spec PyProof.Rows PySem.Froz
/-- a set of the texts l -/
def TxO (P : Program) (w : World) (a : Addr) (l : List Str) : HO := .ext fun h => ∃ D, h.get? a = some (sObj "set" D) ∧ TxS P w D l
section
variable {X : Cx} {P : Program} {w : World} {A : Around} {E : Value → Shared → Prop} {s : Shared}
theorem txO_new {H : Hp} {h : Heap} {a : Addr} {l : List Str} {D : SD} (g : h.get? a = some (sObj "set" D)) (T : TxS P w D l) : ObjOk P w H h a (TxO P w a l) :=
  ⟨⟨D, g, T⟩, ⟨_, g⟩, fun h1 h2 ⟨D', g', T'⟩ k => ⟨D', k _ g', T'⟩⟩
/-- set(xs), xs a list of texts -/
def rSetTx (K : PySem.W.Frag) (P : Program) (w : World) : List V → Hp → VK → Prop := fun vs H Q => ∃ (p : Addr) (xs : List Str), vs = [.ref p] ∧ SqL K H p (xs.map V.str) ∧ xs.length < 64 ∧
  ∀ (a : Addr) (l : List Str), l.Nodup → (∀ z, z ∈ l ↔ z ∈ xs) → l.length ≤ xs.length → H a = none → Q (.ref a) (upd H a (TxO P w a l))
theorem cr_setTx (hc : X.calm = true) : CallR X (.type "set") (rSetTx X.K X.prog X.w) := by
  intro pins s σ H vs us Q I r h
  obtain ⟨p, xs, rfl, hs, few, q⟩ := h
  obtain ⟨its, rv, hl, _⟩ := I.list hs
  rw [Vals.ref1 r]
  refine set_texts xs (I.ok.hd hc) hl.isList (by simpa using rv.strs) few fun h' tk D ys g T hlen hm keep => ?_
  exact ⟨.ref _, upd H s.heap.objs.size (TxO X.prog X.w s.heap.objs.size ys), I.laid (t' := tk) (fun b u e => keep b u e) (Nat.le_refl _) (txO_new g T), rfl, q _ ys T.one hm hlen (I.hok.fresh (Nat.le_refl _))⟩
theorem texts_of {D : SD} {l : List Str} (T : TxOk P w D l) : ∃ ss, StrsAre (D.1.toList.map (·.2)) ss ∧ (∀ z, z ∈ ss ↔ z ∈ l) ∧ ss.length = l.length := by
  have key : ∀ es : List (Int × Value), ElemsOf (strKind P w) es → ∃ ss, StrsAre (es.map (·.2)) ss ∧ (∀ z, z ∈ ss ↔ ∃ e ∈ es, (strKind P w).is z e.2 = true) ∧ ss.length = es.length := by
    intro es
    induction es with
    | nil => exact fun _ => ⟨[], .nil, fun z => by simp, rfl⟩
    | cons e es more =>
      intro h
      obtain ⟨ss, h1, h2, h3⟩ := more h.tail
      obtain ⟨⟨k, hk, _⟩, _⟩ := h.head
      obtain ⟨t, et⟩ := Value.isStrOf_shape (x := k) (v := e.2) hk
      refine ⟨k :: ss, by rw [List.map_cons, et]; exact .cons k t h1, fun z => ?_, by rw [List.length_cons, List.length_cons, h3]⟩
      rw [List.mem_cons, h2 z]
      constructor
      · rintro (rfl | ⟨f, hf, q⟩)
        · exact ⟨e, List.mem_cons_self, hk⟩
        · exact ⟨f, .tail _ hf, q⟩
      · rintro ⟨f, hf, q⟩
        rcases List.mem_cons.mp hf with rfl | hf
        · exact .inl ((strKind P w).inj f.2 z k q hk)
        · exact .inr ⟨f, hf, q⟩
  obtain ⟨ss, h1, h2, h3⟩ := key D.1.toList T.el
  exact ⟨ss, h1, fun z => (h2 z).trans (T.mem z).symm, by rw [h3, Array.length_toList, T.sz]⟩
/-- as many different ones as there are: one order of the others -/
theorem perm_of_len {α : Type} [DecidableEq α] : ∀ {l m : List α}, l.Nodup → (∀ z, z ∈ l → z ∈ m) → m.length ≤ l.length → m.Perm l
  | [], [], _, _, _ => .nil
  | [], _ :: _, _, _, h => absurd h (by simp)
  | x :: l, m, hn, hs, hle => by
    have hx := hs x List.mem_cons_self
    obtain ⟨n1, n2⟩ := List.nodup_cons.mp hn
    have hm := List.perm_cons_erase hx
    have hlen := hm.length_eq
    rw [List.length_cons] at hlen hle
    refine hm.trans (.cons x (perm_of_len n2 (fun z hz => ?_) (by omega)))
    have hne : z ≠ x := fun e => n1 (e ▸ hz)
    exact (List.mem_erase_of_ne hne).mpr (hs z (.tail _ hz))
/-- sorted(s), s a set of texts -/
def rSortTx (P : Program) (w : World) : List V → Hp → VK → Prop := fun vs H Q => ∃ (a : Addr) (l : List Str), vs = [.ref a] ∧ H a = some (TxO P w a l) ∧ l.length < 64 ∧
  ∀ (ys : List Str) (p : Addr), ys.Perm l → sortedS ys = true → H p = none → Q (.ref p) (upd H p (.lst (ys.map V.str)))
theorem cr_sortTx (hc : X.calm = true) : CallR X (.builtin "sorted") (rSortTx X.prog X.w) := by
  intro pins s σ H vs us Q I r h
  obtain ⟨a, l, rfl, ha, few, q⟩ := h
  obtain ⟨D, g, T⟩ : ∃ D, s.heap.get? a = some (sObj "set" D) ∧ TxS X.prog X.w D l := (I.hok a _ ha).1
  rw [Vals.ref1 r]
  obtain ⟨es, ep, t⟩ := D
  have sz : es.size = l.length := T.ok.sz
  obtain ⟨ss, s1, s2, s3⟩ := texts_of T.ok
  refine Calls.call_function_entry kind_sorted plain_sorted entry_sorted (args_sorted1 _) ?_
  unfold Builtin.«sorted»
  refine wpAny_bind (m := checkCount "sorted" 1 1 _) (wpAny_pure ?_)
  refine wpAny_bind (collect_set (A := X.A.in1) (I.ok.hd hc) ⟨_, g, rfl, rfl⟩ T.ok.fit (by show es.size < 4096; omega) T.ris T.led fun z vs keep hz g1 o1 pm => ?_)
  have vlen : vs.length = l.length := by rw [pm.length_eq, List.length_map, Array.length_toList, sz]
  obtain ⟨ss', p1, p2⟩ : ∃ ss', StrsAre vs ss' ∧ ss'.Perm ss := by
    refine ⟨vs.map strOf, strsAre_map vs fun v hv => s1.all _ (pm.mem_iff.mp hv), ?_⟩
    have e := pm.map strOf
    rwa [s1.strs] at e
  have pl : ss.Perm l := perm_of_len T.one (fun z hz => (s2 z).mpr hz) (Nat.le_of_eq s3)
  refine wpAny_bind (wpAny_newList ?_ (by rw [vlen, sizeLine_eq]; omega))
  have hoL : (z.heap.push (seqObj "list" vs.toArray 0)).get? z.heap.objs.size = some (seqObj "list" vs.toArray 0) := Heap.get?_push_size _ rfl
  refine wpAny_bind (wpAny_holding (wpAny_call_entry slot_list_sort ⟨_, hoL, rfl⟩ entry_list_sort (list_sort_treeKAny strKind_oneLt hoL p1.keysOf (fun v₁ v₂ rest e => keyKind_strs (by rw [← e]; exact p1)) (by rw [vlen, sizeLine_eq]; omega) fun st' a1 a2 => ⟨_, rfl, ?_⟩) (args_list_sort _)))
  obtain ⟨ys, b1, b2, b3⟩ := sorted_out_str p1 a1 a2
  obtain ⟨c, hcn⟩ := sortedHeap_at (vs := vs) (out := (arrOf st').map (·.2)) hoL
  refine wpAny_pure ⟨_, rfl, ?_⟩
  generalize (arrOf st').map (·.2) = out at b1 hcn ⊢
  have perm : ys.Perm l := b2.trans (p2.trans pl)
  have hlen : (ys.map V.str).length ≤ sizeLine := by rw [List.length_map, perm.length_eq, sizeLine_eq]; omega
  have hn : H z.heap.objs.size = none := I.hok.fresh hz
  have keep2 : ∀ b u, s.heap.get? b = some u → (sortedHeap (z.heap.push (seqObj "list" vs.toArray 0)) z.heap.objs.size vs out).get? b = some u := fun b u e => by
    have k := keep b u e
    have hlt := Heap.lt_size k
    rw [sortedHeap_old (Nat.ne_of_lt hlt) (by rw [size_push']; exact Nat.lt_succ_of_lt hlt)]
    exact Heap.get?_push_of_some _ k
  obtain ⟨zh, zg, zd, zt, zo⟩ := z
  dsimp only at *
  subst g1 o1
  refine ⟨.ref zh.objs.size, upd H zh.objs.size (.lst (ys.map V.str)), ?_, rfl, q ys _ perm b3 hn⟩
  exact I.call (ch := []) (d' := zd) (t' := zt) (Un.laid keep2 hz hn) (I.hok.laid (o := .lst (ys.map V.str)) keep2 hz ⟨hlen, out.toList, c, vals_of_strs b1, hcn⟩) I.bare (fun _ z => nomatch z)
end
end L2

/-! sorted(xs), xs a list of pairs of a text and an int -/
namespace L2
open PySem PySem.Spec PyProof.Rows
def txLt (x y : Str) : Bool := decide (x.cps.toList < y.cps.toList)
theorem tx_irr (x : Str) : txLt x x = false := PyProof.Rows.strKind.irrefl x.cps.toList
theorem tx_tr {x y z : Str} (h1 : txLt x y = true) (h2 : txLt y z = true) : txLt x z = true := PyProof.Rows.strKind.trans x.cps.toList y.cps.toList z.cps.toList h1 h2
theorem str_ext {x y : Str} (h : x.cps.toList = y.cps.toList) : x = y := by
  cases x; cases y
  congr 1
  exact Array.toList_inj.mp h
theorem tx_tot {x y : Str} (h1 : txLt x y = false) (h2 : txLt y x = false) : x = y := str_ext (PyProof.Rows.strKind.total x.cps.toList y.cps.toList h1 h2)
theorem tx_as {x y : Str} (h : txLt x y = true) : txLt y x = false := by
  cases e : txLt y x
  · rfl
  · have z := tx_tr h e
    rw [tx_irr] at z
    exact nomatch z
/-- x before y: by the text, then by the number -/
def pLt (p q : Str × Int) : Bool := if p.1 = q.1 then decide (p.2 < q.2) else txLt p.1 q.1
theorem pLt_iff {p q : Str × Int} : pLt p q = true ↔ txLt p.1 q.1 = true ∨ (p.1 = q.1 ∧ p.2 < q.2) := by
  unfold pLt
  by_cases e : p.1 = q.1
  · rw [if_pos e, decide_eq_true_eq, e, tx_irr]
    simp
  · rw [if_neg e]
    simp [e]
theorem pLt_as {p q : Str × Int} (h : pLt p q = true) : pLt q p = false := by
  cases e : pLt q p
  · rfl
  · rcases pLt_iff.mp h with a | ⟨a, b⟩ <;> rcases pLt_iff.mp e with c | ⟨c, d⟩
    · rw [tx_as a] at c; exact nomatch c
    · rw [c, tx_irr] at a; exact nomatch a
    · rw [a, tx_irr] at c; exact nomatch c
    · omega
theorem pLt_no {p q : Str × Int} (h : pLt p q = false) : txLt q.1 p.1 = true ∨ (q.1 = p.1 ∧ q.2 ≤ p.2) := by
  unfold pLt at h
  by_cases e : p.1 = q.1
  · rw [if_pos e] at h
    exact .inr ⟨e.symm, Int.not_lt.mp (of_decide_eq_false h)⟩
  · rw [if_neg e] at h
    cases c : txLt q.1 p.1
    · exact absurd (tx_tot h c) e
    · exact .inl rfl
theorem pLt_ge {p q : Str × Int} (h : txLt q.1 p.1 = true ∨ (q.1 = p.1 ∧ q.2 ≤ p.2)) : pLt p q = false := by
  cases e : pLt p q
  · rfl
  · rcases pLt_iff.mp e with a | ⟨a, b⟩ <;> rcases h with c | ⟨c, d⟩
    · rw [tx_as a] at c; exact nomatch c
    · rw [c, tx_irr] at a; exact nomatch a
    · rw [a, tx_irr] at c; exact nomatch c
    · omega
theorem pLt_swo {α : Type} (k : α → Str × Int) : SrtO.Swo fun x y => pLt (k x) (k y) := by
  refine ⟨fun x y h => pLt_as h, fun x y z h1 h2 => pLt_ge ?_⟩
  rcases pLt_no h1 with a | ⟨a, b⟩ <;> rcases pLt_no h2 with c | ⟨c, d⟩
  · exact .inl (tx_tr a c)
  · exact .inl (by rw [← c]; exact a)
  · exact .inl (by rw [a]; exact c)
  · exact .inr ⟨a.trans c, Int.le_trans b d⟩
def PairTI (h : Heap) (v : Value) (x : Str) (y : Int) : Prop := ∃ a o t u n, v = .ref a ∧ h.get? a = some o ∧ o.cls = .type "tuple" ∧ o.data = .seq #[.str x t, .int y u] n
section
variable {prog : Program} {w : World} {A : Around} {E : Value → Shared → Prop} {s : Shared}
theorem pairTI_firsts {h : Heap} : ∀ {vs : List Value}, (∀ v ∈ vs, ∃ x y, PairTI h v x y) → ∃ fs : List Value, PySem.W.KatTups h vs fs ∧ fs.length = vs.length ∧ ∀ f ∈ fs, ∃ x t, f = Value.str x t
  | [], _ => ⟨[], .nil, rfl, fun _ hm => nomatch hm⟩
  | v :: vs, hp => by
    obtain ⟨fs, h1, h2, h3⟩ := pairTI_firsts (vs := vs) fun v' hm => hp v' (.tail _ hm)
    obtain ⟨x, y, a, o, t, u, n, e, ho, hc, hd⟩ := hp v List.mem_cons_self
    subst e
    exact ⟨.str x t :: fs, PySem.W.KatTups.cons ho hc hd rfl h1, congrArg (· + 1) h2, fun f hm => (List.mem_cons.mp hm).elim (fun z => ⟨x, t, z⟩) (h3 f)⟩
theorem pairTI_cmp {vs : List Value} {k : Value → Str × Int} (hp : ∀ v ∈ vs, PairTI s.heap v (k v).1 (k v).2) : SrtO.Cmp prog w A s (tuples' true) (fun p => p.1 ∈ vs) (SrtO.lt2 fun v u => pLt (k v) (k u)) := by
  rintro ⟨v, v0⟩ ⟨v', v0'⟩ m m'
  have goal : ∀ (P1 P2 : Str × Int), PairTI s.heap v P1.1 P1.2 → PairTI s.heap v' P2.1 P2.2 → wpAny (model prog w) A (keyLt' (tuples' true) v v') (fun r s' => s' = s ∧ r = pLt P1 P2) (fun _ _ => False) s := by
    rintro ⟨x, y⟩ ⟨x', y'⟩ ⟨a, o, t, u, n, rfl, ho, -, hd⟩ ⟨a', o', t', u', n', rfl, ho', -, hd'⟩
    refine PySem.W.kat_lt ho hd ho' hd' (PySem.W.kat_cons (SeqAt.EqAt.str_str x t x' t' prog w _ _ (PySem.W.kat_go (fun same => ?_) fun less => ?_)))
    · obtain rfl : x = x' := by simpa using same
      refine PySem.W.kat_yes (PySem.W.kat_cons (SeqAt.EqAt.int_int y u y' u' prog w _ _ (PySem.W.kat_go (fun same2 => ?_) fun _ => PySem.W.kat_no (PySem.W.kat_one _ _ (PyProof.Rows.lt_int ⟨rfl, (if_pos rfl).symm⟩)))))
      obtain rfl : y = y' := by simpa using same2
      refine PySem.W.kat_yes (PySem.W.kat_nil ⟨rfl, ?_⟩)
      rw [pLt, if_pos rfl, decide_eq_false (Int.lt_irrefl y)]
      rfl
    · have diff : ¬ x = x' := by simpa using less
      exact PySem.W.kat_no (PyProof.Rows.strKind_oneLt _ _ _ _ _ _ _ x.cps.toList x'.cps.toList rfl rfl ⟨rfl, (if_neg diff).symm⟩)
  exact goal (k v) (k v') (hp v m) (hp v' m')
theorem pairTI_sortable {a : Addr} {vs : List Value} {k : Value → Str × Int} (h0 : 0 < vs.length) (hp : ∀ v ∈ vs, PairTI s.heap v (k v).1 (k v).2) (ha : ∀ o, s.heap.get? a = some o → o.cls ≠ .type "tuple") : SrtO.SortableO prog w A s a vs fun v u => pLt (k v) (k u) := by
  intro h' keep
  have hp' : ∀ v ∈ vs, PairTI h' v (k v).1 (k v).2 := fun v hm => by
    obtain ⟨b, o, t, u, n, e, ho, hc, hd⟩ := hp v hm
    exact ⟨b, o, t, u, n, e, keep b o (fun z => by subst z; exact ha o ho hc) ho, hc, hd⟩
  obtain ⟨fs, h1, h2, h3⟩ := pairTI_firsts fun v hm => ⟨_, _, hp' v hm⟩
  refine ⟨tuples' true, fun Q E hq => ?_, pairTI_cmp hp'⟩
  refine PySem.W.kat_kind (T := .type "str") h1 (by omega) (fun f hm => ?_) (by rfl) ?_
  · obtain ⟨x, t, rfl⟩ := h3 f hm
    exact PySem.W.Looks.now
  · rw [show (Value.type "str" != Value.type "tuple") = true by first | decide +kernel | rfl | decide]
    exact hq
end
def rSortTI (K : PySem.W.Frag) : List V → Hp → VK → Prop := fun vs H Q => ∃ (a : Addr) (xs : List V) (k : V → Str × Int), vs = [V.ref a] ∧ SqL K H a xs ∧ (∀ x ∈ xs, ∃ t, x = V.ref t ∧ H t = some (.tup [.str (k x).1, .int (k x).2])) ∧
  ∀ ys p, ys.Pairwise (fun x y => pLt (k y) (k x) = false) → ys.Perm xs → H p = none → Q (.ref p) (upd H p (.lst ys))
section
variable {X : Cx}
theorem cr_sortTI : CallR X (.builtin "sorted") (rSortTI X.K) := by
  intro pins s σ H vs us Q I r h
  obtain ⟨a, xs, k, rfl, hs, hx, q⟩ := h
  obtain ⟨its, rv, hl, hz⟩ := I.list hs
  rw [Vals.ref1 r]
  obtain ⟨e1, e2⟩ := refs_back rv fun x m => by
    obtain ⟨t, e, _⟩ := hx x m
    exact ⟨t, e⟩
  have hp : ∀ v ∈ its, PairTI s.heap v (k (backV v)).1 (k (backV v)).2 := fun v hv => by
    obtain ⟨t, rfl⟩ := e2 v hv
    obtain ⟨t', e, ht⟩ := hx (.ref t) (by rw [e1]; exact List.mem_map.mpr ⟨_, hv, rfl⟩)
    cases e
    obtain ⟨_, its2, r2, o, ho, hc, n, hd⟩ := I.hok _ _ ht
    obtain ⟨u1, u2, rfl, ri, rj⟩ := vals2 r2
    obtain ⟨t1, rfl⟩ := ri
    obtain ⟨t2, rfl⟩ := rj
    exact ⟨t, o, t1, t2, n, rfl, ho, hc, hd⟩
  refine SrtO.sorted_ord (pLt_swo fun u => k (backV u)) hl.isList (by rw [← rv.length]; exact hz) (fun h2 h₁ a ha kk => ?_) fun out h1 h2 => ?_
  · refine pairTI_sortable (k := fun u => k (backV u)) (s := { s with heap := h₁ }) (by omega) (fun v hm => ?_) fun o e => ?_
    · obtain ⟨b, o, t, u, n, e, ho, hc, hd⟩ := hp v hm
      exact ⟨b, o, t, u, n, e, (kk b o ho).2, hc, hd⟩
    · cases (e.symm.trans ha : some o = some (seqObj "list" its.toArray 0))
      exact fun c => absurd (Value.type.inj c) (by decide)
  · have same : (out.map backV).Perm xs := e1 ▸ h2.perm.map backV
    have ⟨n, hn⟩ := sortedAll_at s.heap its out.toArray
    exact ⟨.ref _, upd H _ (.lst (out.map backV)), I.laid (t' := s.toks) (fun _ _ e => sortedAll_old e) (Nat.le_succ _) ⟨same.length_eq ▸ hz, out, n, vals_back fun u hu => e2 u (h2.perm.mem_iff.mp hu), hn⟩, rfl, q _ _ (List.pairwise_map.mpr h1) same (I.hok.fresh (Nat.le_succ _))⟩
end
end L2

/-! {k: v for x in xs} of any keys that a dict can have: ints and texts, or tuples of them -/
namespace L2
open PySem PySem.Spec PyProof.Rows
/-- an entry put in, as a display or a comprehension does it -/
theorem dput_any {X : Cx} {pins : List (Addr × Obj)} {σ : St} {H H' : Hp} {s : Shared} {A : Around} {E : Value → Shared → Prop} {D : Addr} {y v : V} {u r : Value} {Q : Unit → Shared → Prop} (hu : A.units + 1 < cLine) (I : Inv X pins σ H s) (g : DPut H D y v H') (ry : RelV y u) (rv : RelV v r)
    (q : ∀ z, Inv X pins σ H' z → Q () z) : wpAny (model X.prog X.w) A (dictSet D u r) Q E s := by
  rcases g with ⟨kvs, k, e, rfl, l, rfl⟩ | ⟨kvs, k, b, e, rfl, eb, l, rfl⟩
  · obtain ⟨z, hd, vs, rel, dd⟩ := dk_of I.hok e
    have sml : (putK kvs k v).length ≤ sizeLine := Nat.le_trans (length_putK kvs k v) l
    refine wpAny_dictSet_pairs (hsz := by rw [← rel.length]; exact z) (kV_is ry) dd fun h' dd' hs => q _ ?_
    exact d_write I (by rw [e]; exact True.intro) hs (let ⟨q, _, _, hq, _⟩ := dd'; ⟨q, hq⟩) (dk_new sml hd (rel.put k rv) dd')
  · cases (show u = Value.ref b from ry)
    obtain ⟨z, hd, xs, rel, dd⟩ := dt_of I.hok e
    have sml : (putK kvs k v).length ≤ sizeLine := Nat.le_trans (length_putK kvs k v) l
    refine wpAny_dictSet_heap (hsz := by rw [← Paired.length rel]; exact z) (show A.units < cLine by omega) (key_of I.hok eb) dd fun h' dd' hs => q _ ?_
    obtain ⟨o, es, ep, hq, h2, h3, h4, _, h5⟩ := dd'
    refine d_write I (by rw [e]; exact True.intro) hs ⟨o, hq⟩ ⟨sml, hd, _, (rel.put k eb rv).keeps fun c ys ec => ?_, o, es, ep, hq, h2, h3, h4, h5⟩
    rw [upd_ne (ne_of ec e (fun z => nomatch z))]
    exact ec
/-- the dict that is begun with -/
inductive Bare : HO → Prop
  | k : Bare (.dK [])
  | t : Bare (.dT [])
theorem bare_ok {P : Program} {w : World} {H : Hp} {o : HO} (b : Bare o) (h : Heap) (hb : sysModules < h.objs.size) : ObjOk P w H (h.push { cls := .type "dict", data := .dict #[] }) h.objs.size o := by
  cases b
  · exact dk_empty h hb
  · exact dt_empty h hb
section
variable {X : Cx}
def tDcG (o : HO) (wi : TI) (g : TG) (tt : TT) (tk tv : TE) (vs : List Nat) : TE := fun σ H Q => wi σ H fun J H1 => ∀ D, H1 D = none → ∃ W : Nat → Nat → Hp → Prop, (∃ m, W 0 m (upd H1 D o)) ∧ ∀ i m H, W i m H →
  (J.stop i H ∧ Q (.ref D) H) ∨ (J.go i H ∧ ∃ Nx : Hp → Prop, (∀ H', Nx H' → ∃ m', m' < m ∧ W (i + 1) m' H') ∧ ∀ x H', J.yld i H x H' → g x (wipe σ vs) H' fun σ2 H2 => wipe σ2 vs = wipe σ vs ∧ tt σ2 H2 fun b H3 =>
    if b = true then tk σ2 H3 fun y H4 => tv σ2 H4 fun z H5 => ∃ H6, DPut H5 D y z H6 ∧ Nx H6 else Nx H3)
abbrev InBlk (X : Cx) (scope : Scope) (T : Cx → Prop) : Prop := ∀ (s : Shared) (H : Hp) (C : Addr) (cl : List (Str × Addr)) (fp : List Addr), T (X.blk s H scope (compEnvC scope cl C X.env) fp)
theorem pe_dcG {o : HO} {kx vx tg iter : Expr} {ifs : List Expr} {scope : Scope} {own : List (Str × Nat)} {pos : Pos} {wi : TI} {g : TG} {tt : TT} {tk tv : TE} (bo : Bare o) (hu : X.A.units + 1 < cLine) (hc : X.calm = true) (hN : X.N.Nodup) (hi : PI X tg iter wi) (ok : BlkOk X.N X.env.scope scope own)
    (hg : InBlk X scope fun B => PG B tg g) (ht : InBlk X scope fun B => PTs B ifs tt) (hk : InBlk X scope fun B => PE B kx tk) (he : InBlk X scope fun B => PE B vx tv) (hs : ∀ x, foldedSetIterable iter X.env x = pure x := by intro _; rfl) :
    PE X (.DictComp kx vx [⟨tg, iter, ifs, 0⟩] scope pos) (tDcG o wi g tt tk tv (own.map (·.2))) := by
  refine ⟨fun pins s σ H Q I h => ?_⟩
  rw [arm_eval_DictComp]
  have frees : ∀ y ∈ scope.names, y.2 = .free → ∃ c, X.env.cells.lookup y.1 = some c := fun y hy e => (ok.free y hy e).elim (fun k => I.ok.has _ (.inl k)) fun k => I.ok.has _ (.inr k)
  refine wpAny_comprehension_free (use := none) rfl hs (closure_ok frees) ok.kind (fun y hy e => by rw [ok.uniq y hy, e]) (thn (hi.run pins s σ H _ I h) fun xv s1 hx => thn hx fun itv s2 h2 => ?_)
  obtain ⟨it, fp, tn, J, H2, rfl, I2, T, st2, f2, q⟩ := h2
  refine wpAny_newObj_type (newEnv_comp ?_)
  generalize hD : s2.heap.objs.size = D
  have new : H2 D = none := I2.hok.fresh (Nat.le_of_eq hD)
  obtain ⟨W, ⟨m0, w0⟩, turn⟩ := q D new
  generalize es3 : ({ s2 with heap := s2.heap.push { cls := .type "dict", data := .dict #[] } } : Shared) = s3
  have h3 : s3.heap = s2.heap.push { cls := .type "dict", data := .dict #[] } := by rw [← es3]
  have I3 : Inv X pins σ (upd H2 D o) s3 := by
    rw [← es3]
    refine I2.laid (t' := s2.toks) (fun b u e => Heap.get?_push_of_some _ e) (Nat.le_of_eq hD) ?_
    rw [← hD]
    exact bare_ok bo s2.heap I2.big
  have low : ∀ b ∈ fp, b < s2.heap.objs.size := fun b hb => by
    obtain ⟨u, e, _⟩ := T.obj _ _ st2 b hb
    exact Heap.lt_size e
  have f3 : ∀ b ∈ fp, FpOk X pins (upd H2 D o) b ∧ b < s3.heap.objs.size := fun b hb => by
    refine ⟨⟨?_, (f2 b hb).2⟩, by rw [h3, Heap.size_push]; exact Nat.lt_succ_of_lt (low b hb)⟩
    rw [upd_ne (by rw [← hD]; exact Nat.ne_of_lt (low b hb))]
    exact (f2 b hb).1
  have st3 : tn 0 s3.heap := T.keep _ _ _ st2 fun b _ u e => by rw [h3]; exact Heap.get?_push_of_some _ e
  have I4 := block_start I3 ok hN f3
  have pg := hg s3 (upd H2 D o) s3.heap.objs.size (cellsFrom (s3.heap.objs.size + 1) scope.names (cloFrom X.env.cells scope.names [])) fp
  have pt := ht s3 (upd H2 D o) s3.heap.objs.size (cellsFrom (s3.heap.objs.size + 1) scope.names (cloFrom X.env.cells scope.names [])) fp
  have pk := hk s3 (upd H2 D o) s3.heap.objs.size (cellsFrom (s3.heap.objs.size + 1) scope.names (cloFrom X.env.cells scope.names [])) fp
  have pe := he s3 (upd H2 D o) s3.heap.objs.size (cellsFrom (s3.heap.objs.size + 1) scope.names (cloFrom X.env.cells scope.names [])) fp
  have nfp : ∀ b ∈ fp, (upd H2 D o) b = none := fun b hb => (f3 b hb).1.1
  show codeAny _ _ (.compStart (.DictComp kx vx [⟨tg, iter, ifs, 0⟩] scope pos) 0 (.ref it) (.ref D) (compEnvC scope (cellsFrom (s3.heap.objs.size + 1) scope.names (cloFrom X.env.cells scope.names [])) s3.heap.objs.size X.env)) (compPost (model X.prog X.w) X.A X.xe none _ (.ref D) s3.heap.objs.size) { s3 with heap := pushCells (s3.heap.push { cls := .type "dict", data := .dict #[] }) scope.names }
  generalize ece : compEnvC scope (cellsFrom (s3.heap.objs.size + 1) scope.names (cloFrom X.env.cells scope.names [])) s3.heap.objs.size X.env = ce at I4 pg pt pk pe ⊢
  have loc : ce.locals = s3.heap.objs.size := by subst ece; rfl
  generalize upd H2 D o = H3 at I3 I4 pg pt pk pe w0 nfp f3
  generalize es4 : ({ s3 with heap := pushCells (s3.heap.push { cls := .type "dict", data := .dict #[] }) scope.names } : Shared) = s4 at I4 ⊢
  have st4 : tn 0 s4.heap := T.keep _ _ _ st3 fun b _ u e => by rw [← es4]; exact pushCells_keeps _ _ _ _ (Heap.get?_push_of_some _ e)
  have quiet : ∀ {σ' : St} {H' : Hp} {z : Shared}, Inv (X.blk s3 H3 scope ce fp) [] σ' H' z → (∀ b ∈ fp, H' b = none) → ∀ b ∈ fp, FpOk (X.blk s3 H3 scope ce fp) [] H' b := fun {σ' H' z} I' hn b hb =>
    ⟨hn b hb, (I'.ok.exf b hb).1, I'.ok.exfs b hb, .inl hb, fun x c e => (I'.ok.exf b hb).2 x c e, fun p hp => absurd (show p ∈ ([] : List (Addr × Obj)) ++ [] from hp) (by simp)⟩
  have loop : codeAny (model X.prog X.w) X.A (.compLoop (.DictComp kx vx [⟨tg, iter, ifs, 0⟩] scope pos) 0 (.ref it) (.ref D) ce) (compPost (model X.prog X.w) X.A X.xe none (EP X pins σ Q) (.ref D) s3.heap.objs.size) s4 := by
    refine compLoop_anyD (fun n z => ∃ i H', Inv (X.blk s3 H3 scope ce fp) [] (wipe σ (own.map (·.2))) H' z ∧ tn i z.heap ∧ (∀ b ∈ fp, H' b = none) ∧ W i n H') ?_ m0 ⟨0, H3, I4, st4, nfp, w0⟩
    rintro n s5 ⟨i, H5, I5, st5, n5, w5⟩
    rcases turn i n H5 w5 with ⟨stop, qq⟩ | ⟨go, Nx, hNx, step⟩
    · refine thnF (T.done (X.blk s3 H3 scope ce fp) rfl rfl rfl hc i [] s5 _ H5 (fun _ _ => False) I5 (quiet I5 n5) st5 stop) fun r s6 ⟨hr, I6⟩ => ?_
      subst hr
      have I7 : Inv X pins σ H5 s6 := I3.call' (ch := fp) I6.os I6.base I6.hok I6.bare fun b hb => ⟨(f3 b hb).1.2.2.2.1, (f3 b hb).1.2.1, (f3 b hb).1.2.2.2.2.1, (f3 b hb).1.2.2.2.2.2⟩
      have nC : H5 s3.heap.objs.size = none := by
        have z : H5 ce.locals = none := I6.free
        rwa [loc] at z
      obtain ⟨m, hn, _⟩ := I6.loc
      have hn : s6.heap.Ns ce.locals m := hn
      rw [loc] at hn
      refine ⟨m, hn, fun h'' sb => ?_⟩
      obtain ⟨f0, f1, f2, f3, f4, f5⟩ := I3.fpOk (Nat.le_refl _) nC
      exact ⟨.ref D, H5, I7.turned (t' := s6.toks) (fun b u hb e => (sb.2 b hb).trans e) f0 f1 f3 f4 f5, rfl, qq⟩
    · refine thnF (T.item (X.blk s3 H3 scope ce fp) rfl rfl rfl hc i [] s5 _ H5 (fun _ _ => False) I5 (quiet I5 n5) st5 go) fun r s6 ⟨u, hr, h6⟩ => ?_
      subst hr
      refine thnF h6 fun _ s7 ⟨x, H7, I7, r7, y7, st7, n7⟩ => ?_
      refine thnF (pg.run _ s7 _ H7 x u _ (I7.pinned (quiet I7 n7) (T.obj _ _ st7)) r7 (step x H7 y7)) fun _ s8 ⟨σ8, H8, I8, hw8, q8⟩ => ?_
      refine thnF (pt.run _ s8 σ8 H8 _ I8 q8) fun b s9 ⟨H9, I9, q9⟩ => ?_
      have fin : ∀ {z : Shared} {H' : Hp}, Inv (X.blk s3 H3 scope ce fp) ([] ++ pinsAt fp s7.heap) σ8 H' z → Nx H' → ∃ m, m < n ∧ ∃ i H', Inv (X.blk s3 H3 scope ce fp) [] (wipe σ (own.map (·.2))) H' z ∧ tn i z.heap ∧ (∀ b ∈ fp, H' b = none) ∧ W i m H' := fun {z H'} I' nx => by
        obtain ⟨m', hm, w'⟩ := hNx H' nx
        have pin' : ∀ b ∈ fp, ∀ u, s7.heap.get? b = some u → z.heap.get? b = some u ∧ H' b = none := fun b hb u e =>
          let k := I'.pin (b, u) (List.mem_append_right _ (List.mem_append_right _ (mem_pinsAt hb e)))
          ⟨k.1, k.2.1⟩
        refine ⟨m', hm, i + 1, H', (I'.unpinned (pins := [])).weak (by rw [← hw8, wipe_length]) (fun j v e => ?_), T.keep _ _ _ st7 fun b hb u e => (pin' b hb u e).1, fun b hb => ?_, w'⟩
        · rw [← hw8] at e
          exact (wipe_some e).1
        · obtain ⟨u, e, _⟩ := T.obj _ _ st7 b hb
          exact (pin' b hb u e).2
      cases b with
      | false =>
        simp only [Bool.false_eq_true, if_false] at q9 ⊢
        exact fin I9 q9
      | true =>
        simp only [if_true] at q9 ⊢
        refine thnF (pk.run _ s9 σ8 H9 _ I9 q9) fun z s10 ⟨yk, H10, I10, r10, q10⟩ => ?_
        refine thnF (pe.run _ s10 σ8 H10 _ I10 q10) fun z2 s11 ⟨yv, H11, I11, r11, H12, put, nx⟩ => ?_
        exact dput_any (X := X.blk s3 H3 scope ce fp) hu I11 put r10 r11 fun s12 I12 => fin I12 nx
  exact codeAny_compStart_dict loop (T.self X.A 0 _ _ _ st4 loop)
/-- the turns, by an invariant -/
theorem dcG_it {J : It} {n : Nat} {G : Hp → Prop} {Y : Nat → Hp → V → Hp → Prop} (w : Walk J n G Y) {o : HO} {g : TG} {tt : TT} {tk tv : TE} {vs : List Nat} {σ : St} {H1 : Hp} {D : Addr} {Qd : Hp → Prop} (Pv : Nat → Hp → Prop) (h0 : Pv 0 (upd H1 D o)) (hG : ∀ i H, i ≤ n → Pv i H → G H)
    (hs : ∀ i x H H', i < n → Pv i H → Y i H x H' → g x (wipe σ vs) H' fun σ2 H2 => wipe σ2 vs = wipe σ vs ∧ tt σ2 H2 fun b H3 =>
      if b = true then tk σ2 H3 fun y H4 => tv σ2 H4 fun z H5 => ∃ H6, DPut H5 D y z H6 ∧ Pv (i + 1) H6 else Pv (i + 1) H3) (hd : ∀ H, Pv n H → Qd H) :
    ∃ W : Nat → Nat → Hp → Prop, (∃ m, W 0 m (upd H1 D o)) ∧ ∀ i m H, W i m H →
      (J.stop i H ∧ Qd H) ∨ (J.go i H ∧ ∃ Nx : Hp → Prop, (∀ H', Nx H' → ∃ m', m' < m ∧ W (i + 1) m' H') ∧ ∀ x H', J.yld i H x H' → g x (wipe σ vs) H' fun σ2 H2 => wipe σ2 vs = wipe σ vs ∧ tt σ2 H2 fun b H3 =>
        if b = true then tk σ2 H3 fun y H4 => tv σ2 H4 fun z H5 => ∃ H6, DPut H5 D y z H6 ∧ Nx H6 else Nx H3) := by
  refine ⟨fun i m H => m = n - i ∧ i ≤ n ∧ Pv i H, ⟨n, by simp, Nat.zero_le _, h0⟩, ?_⟩
  rintro i m H ⟨rfl, hi, p⟩
  have q := hG i H hi p
  rcases Nat.lt_or_ge i n with hlt | hge
  · exact .inr ⟨w.goes i H hlt q, Pv (i + 1), fun H' p' => ⟨n - (i + 1), by omega, rfl, hlt, p'⟩, fun x H' y => hs i x H H' hlt p (w.yields i H x H' hlt q y)⟩
  · obtain rfl : i = n := Nat.le_antisymm hi hge
    exact .inl ⟨w.stops H q, hd H p⟩
end
end L2

/-! for i, x in enumerate(t), t a tuple: the library's Begins and Draws of a tuple, put together -/
namespace L2
open PySem PyProof.Rows PySem.Spec
/-- a new enumerate over the iterator at j -/
abbrev enObj (j : Addr) : Obj := { cls := .type "enumerate", data := .fields #[.none, .bool false, .ref j, rawInt 0, .none, .none] }
theorem enum_one {v : Value} {o : Obj} {G : Heap → Prop} (B : Begins v o G) : Meets (Builtin.«enumerate.__new__» ⟨[.type "enumerate", v], []⟩) fun _ R s =>
    G s.heap ∧ R (.ok (.ret (.ref (s.heap.push o).objs.size))) { s with heap := (s.heap.push o).push (enObj s.heap.objs.size) } :=
  .of_wp fun P w _ R ⟨h, gs, dr, tk, os⟩ ⟨g, q⟩ => by
    have sub0 := sub_enumerate
    have goes : ∀ {A' : Around} {E' : Value → Shared → Prop} {Q' : Value → Shared → Prop}, Q' (.ref h.objs.size) ⟨h.push o, gs, dr, tk, os⟩ → wpAny (model P w) A' (pyIter v) Q' E' ⟨h, gs, dr, tk, os⟩ := fun z => B.iter P w _ _ _ _ g z
    wp_walk using goes
    refine wpAny_stack_any fun _ => wpAny_pure ?_
    split
    all_goals first
      | (rename_i c _ _ _ _ _; cases (c == Value.type "enumerate") <;> (wp_walk using goes; exact ⟨_, rfl, q⟩))
      | (wp_walk using goes; exact ⟨_, rfl, q⟩)
theorem enum_call {P : Program} {w : World} {A : Around} {E : Value → Shared → Prop} {s : Shared} {v : Value} {o : Obj} {G : Heap → Prop} {Q : Value → Shared → Prop} (B : Begins v o G) (g : G s.heap)
    (q : ∀ n h', n = s.heap.objs.size → IsEnum h' (n + 1) n 0 .none → h'.get? n = some o → (∀ b u, s.heap.get? b = some u → h'.get? b = some u) → Q (.ref (n + 1)) { s with heap := h' }) :
    wpAny (model P w) A (call (.type "enumerate") [v]) Q E s := by
  have up : ∀ (b : Addr) (u : Obj), (s.heap.push o).get? b = some u → ((s.heap.push o).push (enObj s.heap.objs.size)).get? b = some u := fun b u e => Heap.get?_push_of_some _ e
  have top := Heap.get?_push_size (s.heap.push o) (o := enObj s.heap.objs.size) rfl
  refine callType_new F.called_enumerate (by decide) (F.typeCall_enumerate_1 _) (F.newCall_enumerate_1 _) (fun c => F.args_object_init_2 c _) F.entry_enumerate_new (enum_one B) ⟨g, ?_⟩
  rw [Heap.size_push] at top
  rw [show (s.heap.push o).objs.size = s.heap.objs.size + 1 from Heap.size_push ..]
  exact ⟨⟨_, top, rfl⟩, q _ _ rfl top (up _ _ (Heap.get?_push_size _ B.free)) fun b u e => up b u (Heap.get?_push_of_some _ e)⟩
/-- the tuple at a, each item in a new pair -/
def Itq (K : PySem.W.Frag) (a : Addr) : It :=
  ⟨fun i H => ∃ (xs : List V) (x : V), SqT K H a xs ∧ xs[i]? = some x, fun i H v H' => ∃ T x, v = .ref T ∧ H T = none ∧ H' = upd H T (.tup [.int (i : Nat), x]) ∧ ∀ xs, SqT K H a xs → xs[i]? = some x, fun i H => ∃ xs : List V, SqT K H a xs ∧ xs.length ≤ i⟩
/-- enumerate at e, its iterator at j, the tuple at a: i items are drawn -/
structure EnT (a e j : Addr) (i : Nat) (h : Heap) : Prop where
  en : ∃ old, IsEnum h e j ((i : Nat) : Int) old
  it : h.IsTupleIter j a i
  ne : e ≠ j
theorem EnT.apart {a e j : Addr} {i : Nat} {h : Heap} {xs : Array Value} (T : EnT a e j i h) (p : h.IsTuple a xs) : a ≠ j ∧ a ≠ e := by
  obtain ⟨o, ho, hc, -⟩ := p
  obtain ⟨u, hu, hk, -⟩ := T.it
  obtain ⟨old, he⟩ := T.en
  refine ⟨fun z => ?_, fun z => ?_⟩
  · rw [← z, ho] at hu
    rw [← Option.some.inj hu, hc] at hk
    exact absurd (Value.type.inj hk) (by decide)
  · have y : h.get? e = some _ := he
    rw [← z, ho] at y
    rw [Option.some.inj y] at hc
    exact absurd (Value.type.inj hc) (by decide)
theorem turn_enumT {P : Program} {w : World} {K : PySem.W.Frag} {elts : List Expr} {kk : Nat} {tpos : Pos} (a e j : Addr) : Turn P w K (.Tuple elts kk tpos) (Itq K a) [e, j] e (EnT a e j) where
  mem := List.mem_cons_self ..
  obj i h T b hb := by
    rcases List.mem_cons.mp hb with z | z
    · rw [z]
      exact ⟨_, T.en.choose_spec, fun _ y => nomatch y⟩
    · rw [List.mem_singleton.mp z]
      obtain ⟨o, ho, -, hd⟩ := T.it
      exact ⟨o, ho, fun _ y => nomatch (hd.symm.trans y)⟩
  keep _ _ _ T k := ⟨T.en.imp fun _ y => k e (List.mem_cons_self ..) _ y, T.it.at fun o y => k j (List.mem_cons_of_mem _ (List.mem_cons_self ..)) o y, T.ne⟩
  item := by
    rintro X rfl rfl rfl calm i pins s σ H E I fp T ⟨xs, x, hq, hx⟩
    obtain ⟨us, rel, isT, -⟩ := I.tuple hq
    obtain ⟨u, hu, ru⟩ := rel.get hx
    obtain ⟨aj, ae⟩ := T.apart isT
    obtain ⟨old, en⟩ := T.en
    have lt : i < us.toArray.size := by rw [List.size_toArray]; exact (List.getElem?_eq_some_iff.mp hu).1
    have low : ∀ b ∈ [e, j], b < s.heap.objs.size := fun b hb => by
      rcases List.mem_cons.mp hb with z | z
      · rw [z]; exact Heap.lt_size en
      · rw [List.mem_singleton.mp z]; exact Heap.lt_size T.it.choose_spec.1
    have out : e ∉ [j, a] := fun z => by
      rcases List.mem_cons.mp z with z | z
      · exact T.ne z
      · exact ae (List.mem_singleton.mp z).symm
    refine wpAny_pyNext_enum_itemD (Draws.tuple (A := X.A.in1) (I.ok.hd calm) j a aj us.toArray) en ⟨T.it, isT⟩ lt T.ne out fun y h1 tk hy eo T1 pr _ kp => ⟨_, rfl, wpAny_letOwnedTupleGo_enum (s := { s with heap := h1, toks := tk + 1 }) eo fun h2 e2 sb => ?_⟩
    have ey : y = u := Option.some.inj (hy.symm.trans (by rw [List.getElem?_toArray]; exact hu))
    rw [ey] at pr e2
    have far : ∀ b, b ∉ [e, j] → b ≠ e ∧ b ≠ j := fun b hb => ⟨fun z => hb (by rw [z]; exact List.mem_cons_self ..), fun z => hb (by rw [z]; exact List.mem_cons_of_mem _ (List.mem_cons_self ..))⟩
    have keeps : ∀ b o, b ∉ [e, j] → s.heap.get? b = some o → h2.get? b = some o := fun b o hb y => (sb.2 b (far b hb).1).trans (kp b o (far b hb).1 (far b hb).2 y)
    have at2 := (sb.2 _ (Nat.ne_of_gt (low e (List.mem_cons_self ..)))).trans pr
    have ok2 : ObjOk X.prog X.w (upd H s.heap.objs.size (.tup [.int (i : Nat), x])) h2 s.heap.objs.size (.tup [.int (i : Nat), x]) := ⟨(by decide : 2 ≤ sizeLine), [_, u], .cons ⟨tk, rfl⟩ (.cons ru .nil), _, at2, rfl, _, rfl⟩
    exact ⟨.ref s.heap.objs.size, _, I.turnedNew keeps fp (Nat.le_refl _) ok2, rfl, ⟨_, x, rfl, I.hok.fresh (Nat.le_refl _), rfl, fun zs hz => I.tuple_inj hz hq ▸ hx⟩,
      ⟨⟨u, by rw [show ((i + 1 : Nat) : Int) = (i : Int) + 1 from rfl]; exact e2⟩, T1.1.at fun o z => (sb.2 j (Ne.symm T.ne)).trans z, T.ne⟩, fun b hb => (upd_ne (Nat.ne_of_lt (low b hb))).trans (fp b hb).1⟩
  done := by
    rintro X rfl rfl rfl calm i pins s σ H E I fp T ⟨xs, hq, hl⟩
    obtain ⟨us, rel, isT, -⟩ := I.tuple hq
    obtain ⟨old, en⟩ := T.en
    obtain ⟨n1, n2, -, n3, n4, n5⟩ := fp j (List.mem_cons_of_mem _ (List.mem_cons_self ..))
    have D : Draws X.prog X.w X.A.in1 j [j, a] i (fun _ _ => False) (fun n h => n = i ∧ h.IsTupleIter j a i ∧ h.IsTuple a us.toArray) :=
      ⟨fun _ _ st => ⟨_, st.2.1.choose_spec.1⟩, fun _ _ _ st k => ⟨st.1, st.2.1.at fun o z => k j (List.mem_cons_self ..) o z, st.2.2.at fun o z => k a (List.mem_cons_of_mem _ (List.mem_cons_self ..)) o z⟩,
        fun n _ _ _ lt st _ => absurd st.1 (Nat.ne_of_lt lt), fun _ _ _ st k => wpAny_nextOf_tuple_end (I.ok.hd calm) st.2.1 st.2.2 (by rw [List.getElem?_toArray, List.getElem?_eq_none]; rw [← rel.length]; exact hl) k⟩
    exact wpAny_pyNext_enum_endD D en ⟨rfl, T.it, isT⟩ fun h1 k => ⟨rfl, I.turned (t' := s.toks) k n1 n2 n3 n4 n5⟩
  self _ _ _ _ _ T q := wpAny_pyIter_enum T.en.choose_spec q
def iEnumT (K : PySem.W.Frag) (ta : TA) : TI := fun σ H R => ta σ H fun vs H1 => ∃ a xs, vs = [.ref a] ∧ SqT K H1 a xs ∧ R (Itq K a) H1
theorem pi_enumT {X : Cx} {e : Expr} {ta : TA} {p pos tpos : Pos} {elts : List Expr} {kk : Nat} (hg : Gl X "enumerate") (hm : X.mg "enumerate" = none) (ha : PA X [e] ta) (hs : starEach [e] X.env = [(false, eval e X.env)] := by rfl) :
    PI X (.Tuple elts kk tpos) (.Call (.Name "enumerate" p) [e] [] pos) (iEnumT X.K ta) where
  run pins s σ H R I h := by
    refine Call_ (ld_blt I hg hm boot_enumerate (PyProof.Rows.callWith_type1 (thn (ha.run pos pins s σ H _ I h) ?_) hs rfl))
    rintro us s1 ⟨vs, H1, I1, rel, a, xs, rfl, hq, k⟩
    rw [Vals.ref1 rel]
    obtain ⟨its, -, isT, -⟩ := I1.tuple hq
    refine enum_call (begins_tuple a its.toArray) isT fun n h' hn en it0 kp => wpAny_pyIter_enum en ⟨n + 1, [n + 1, n], EnT a (n + 1) n, Itq X.K a, H1, rfl, I1.kept (t' := s1.toks) kp, turn_enumT a (n + 1) n, ⟨⟨_, en⟩, ⟨_, it0, rfl, rfl⟩, Nat.succ_ne_self n⟩, ?_, k⟩
    intro b hb
    have le : s1.heap.objs.size ≤ b := by
      rcases List.mem_cons.mp hb with z | z
      · rw [z, ← hn]; exact Nat.le_succ _
      · rw [List.mem_singleton.mp z, hn]; exact Nat.le_refl _
    exact I1.fpOk le (I1.hok.fresh le)
theorem walk_enumT {K : PySem.W.Frag} {a : Addr} {xs : List V} : Walk (Itq K a) xs.length (fun H => SqT K H a xs) (YPair (fun i => some (.int (i : Nat))) (fun i => xs[i]?)) where
  goes i H lt g := ⟨xs, xs[i], g, List.getElem?_eq_getElem lt⟩
  stops H g := ⟨xs, g, Nat.le_refl _⟩
  yields i H x H' lt g y := let ⟨T, z, e, n, e', h⟩ := y; ⟨T, .int (i : Nat), z, e, n, e', rfl, h xs g⟩
end L2

/-! tuple(d), d a dict of ints and texts -/
namespace L2
open PySem PySem.Spec PyProof.Rows
section
variable {prog : Program} {w : World} {A : Around} {E : Value → Shared → Prop} {s : Shared} {T : String} {r d : Addr} {n : Nat} {P : Nat → Value → Prop} {OK : Heap → Prop}
theorem collect_src {Q : List Value → Shared → Prop} (K : PySem.W.KdlSrc prog w T r d n P OK) (hh : A.handled = none) (hok : OK s.heap) (hn : n ≤ sizeLine)
    (q : ∀ (h' : Heap) (tk : Nat) (acc : Array Value), (∀ b o, s.heap.get? b = some o → h'.get? b = some o) → ItemsOf P acc n → Q acc.toList { s with heap := h', toks := tk }) : wpAny (model prog w) A (collect (.ref r)) Q E s := by
  have lt := K.there _ hok
  unfold collect
  refine wpAny_bind (wpAny_runValue (codeAny_builtin F.entry_proto_collect ?_))
  rw [Around.under_plainId F.plain_proto_collect _]
  show wpAny _ A.in1 (newList [] >>= fun l => again (.builtin "list.__iadd__" ⟨[l, .ref r], []⟩)) _ _ s
  refine wpAny_bind (wpAny_newObj_type (wpAny_pure ⟨plainId_quiet F.plain_list_iadd _, codeAny_builtin F.entry_list_iadd ?_⟩))
  rw [Around.under_plainId F.plain_list_iadd _]
  show wpAny _ A.in1 (Builtin.List.listExtendWith (.ref s.heap.objs.size) (.ref r) (.ref s.heap.objs.size)) _ _ _
  have gS : (s.heap.push { cls := .type "list", data := .seq ([] : List Value).toArray }).get? s.heap.objs.size = some { cls := .type "list", data := .seq #[] 0 } := Heap.get?_push_size _ rfl
  have go := PySem.W.kdl_extend (A := A) (R := fun rr z => rr = .ok (.ret (.ref s.heap.objs.size)) ∧ ∃ (h' : Heap) (tk : Nat) (acc : Array Value) (c' : Nat), z = { s with heap := h', toks := tk } ∧
      (∀ b o, s.heap.get? b = some o → h'.get? b = some o) ∧ h'.get? s.heap.objs.size = some { cls := .type "list", dict := none, data := .seq acc c', slots := #[] } ∧ ItemsOf P acc n)
    (s := { s with heap := s.heap.push { cls := .type "list", data := .seq ([] : List Value).toArray } }) K hh (K.keep _ _ hok fun b _ o e => Heap.get?_push_of_some _ e) s.heap.objs.size (Nat.ne_of_gt lt.1) (Nat.ne_of_gt lt.2) (.ref s.heap.objs.size) 0 gS
    (fun h' tk acc c' hk e hi => ⟨rfl, h', tk, acc, c', rfl, fun b o y => hk b o (Nat.ne_of_lt (Heap.lt_size y)) (Heap.get?_push_of_some _ y), e, hi⟩) hn
  refine wpAny_mono go (fun fin z x => ?_) fun e z x => absurd x.1 (by simp)
  cases fin with
  | done f =>
    obtain ⟨e, h', tk, acc, c', rfl, hk, hS', hi⟩ := x
    cases e
    show wpAny _ A (load s.heap.objs.size >>= _) _ _ _
    exact wpAny_bind (wpAny_load hS' (wpAny_pure (q h' tk acc hk hi)))
  | again c =>
    refine ⟨x.1, codeAny_mono x.2 fun rr y hr' => ?_⟩
    obtain ⟨rfl, h', tk, acc, c', rfl, hk, hS', hi⟩ := hr'
    show wpAny _ A (load s.heap.objs.size >>= _) _ _ _
    exact wpAny_bind (wpAny_load hS' (wpAny_pure (q h' tk acc hk hi)))
theorem tuple_src {Q : Value → Shared → Prop} (K : PySem.W.KdlSrc prog w T r d n P OK) (hh : A.handled = none) (hok : OK s.heap) (hn : n ≤ sizeLine)
    (q : ∀ (h' : Heap) (tk : Nat) (acc : Array Value), (∀ b o, s.heap.get? b = some o → h'.get? b = some o) → ItemsOf P acc n → Q (.ref h'.objs.size) { s with heap := h'.push { cls := .type "tuple", data := .seq acc }, toks := tk }) :
    wpAny (model prog w) A (call (.type "tuple") [.ref r]) Q E s := by
  refine callType_codes (Q₁ := fun obj s₁ => s₁.TypeIs obj "tuple" ∧ Q obj s₁) F.called_tuple (F.typeCall_tuple_1 _) F.entry_object_init (codeAny_of_tree ?_) fun obj s₁ h₁ => ⟨h₁.1, F.args_object_init_2 obj _, object_init_meets F.called_tuple.init.lookup F.called_tuple.made (by decide) prog w A.in1 _ s₁ ⟨h₁.1, rfl, h₁.2⟩⟩
  show wpAny _ A.in1.in1 (do checkBuiltinCall "tuple.__new__" ⟨[.type "tuple", .ref r], []⟩; again (.builtin "tuple.__new__" ⟨[.type "tuple", .ref r], []⟩)) _ _ s
  refine wpAny_bind (wpAny_of_eq (F.newCall_tuple_1 _) (wpAny_pure ⟨plainId_quiet F.plain_tuple_new _, codeAny_builtin F.entry_tuple_new ?_⟩))
  rw [Around.under_plainId F.plain_tuple_new _]
  have hsub := sub_tuple_self
  have hinit := init_tuple_lookup
  have hmh := madeHere_tuple
  have ty : s.TypeIs (.ref r) T := K.type s hok
  have nt := K.notTuple
  have nl := K.notList
  have hh2 : A.in1.in1.handled = none := hh
  wp_walk using wpAny_typeOf ty, collect_src (A := A.in1.in1) K hh2 hok hn
  intro h' tk acc hk hacc
  show wpAny _ _ (Builtin.Tuple.tupleExact acc.toList.toArray >>= fun v => ret v) _ _ _
  unfold Builtin.Tuple.tupleExact
  rw [Array.toArray_toList]
  refine wpAny_bind (wpAny_newObj_type (wpAny_pure ?_) (by show acc.size ≤ sizeLine; rw [hacc.1]; exact hn))
  exact ⟨⟨_, Heap.get?_push_size _ rfl, rfl⟩, q h' tk acc hk hacc⟩
end
theorem dk_items {P : Program} {w : World} {kvs : List (Key × V)} {vs : List (Key × Value)} {acc : Array Value} (rk : KV kvs vs) (ia : ItemsOf (fun i v => ∃ k x, vs[i]? = some (k, x) ∧ (mixKind P w).is k v = true) acc vs.length) : Vals (kvs.map fun kv => kV kv.1) acc.toList := by
  refine vals_of_at (by rw [List.length_map]; exact (Paired.length rk).trans (ia.1.symm.trans Array.length_toList.symm)) fun j x u h1 h2 => ?_
  obtain ⟨k, y, hky, hi⟩ := ia.2 j u (by rw [← Array.getElem?_toList]; exact h2)
  have e1 : (kvs.map (·.1))[j]? = some k := by rw [KV.keys rk, List.getElem?_map, hky] <;> rfl
  rw [show (kvs.map fun kv => kV kv.1) = (kvs.map (·.1)).map kV by rw [List.map_map] <;> rfl, List.getElem?_map, e1] at h1
  cases h1
  exact keyIs_rel hi
def rTupD : List V → Hp → VK → Prop := fun xs H Q => ∃ p kvs, xs = [.ref p] ∧ H p = some (.dK kvs) ∧ ∀ q, H q = none → Q (.ref q) (upd H q (.tup (kvs.map fun kv => kV kv.1)))
theorem call_tuple_dK {X : Cx} (hc : X.calm = true) : CallR X (.type "tuple") rTupD := by
  intro pins s σ H xs us Q I r h
  obtain ⟨p, kvs, rfl, hk, q⟩ := h
  rw [Vals.ref1 r]
  obtain ⟨z, lo, vs, rk, hd⟩ := (show ObjOk X.prog X.w H s.heap p (.dK kvs) from I.hok p _ hk)
  obtain ⟨ep, hat⟩ := hd.dictAt
  have hl : kvs.length = vs.length := Paired.length rk
  refine tuple_src (PySem.W.kdl_dict (knd := mixKind X.prog X.w) (kvs := vs) (ep := ep) lo) (I.ok.hd hc) hat (by rw [← hl]; exact z) fun h' tk acc keep ia => ?_
  have I1 : Inv X pins σ H { s with heap := h', toks := tk } := I.kept (t' := tk) keep
  refine ⟨.ref h'.objs.size, upd H h'.objs.size (.tup (kvs.map fun kv => kV kv.1)), I1.laid (t' := tk) (fun b o e => Heap.get?_push_of_some _ e) (Nat.le_refl _) (show ObjOk X.prog X.w _ _ _ (.tup (kvs.map fun kv => kV kv.1)) from ⟨?_, acc.toList, dk_items rk ia, by rw [Array.toArray_toList]; exact IsTup.new _ _⟩), rfl, q _ (I1.hok.fresh (Nat.le_refl _))⟩
  rw [List.length_map]
  exact z
end L2

/-! len(o), k in o, o[k] by own __len__, __contains__, __getitem__ -/
namespace L2
open PySem PySem.Spec PyProof.Rows
section
variable {X : Cx} {CX : CXT} {C f : Addr} {fd : FuncData} {ps : List Str} {sp : Sp} {k : Nat} {E : XK}
theorem call_ownA (F : FnOk X.prog X.w X.K X.mg X.base CX k f fd ps sp) (hb : Binds X.K fd ps []) {A : Around} (hr : Room k A) (hA : A.frames = X.A.frames) (hx : Passes CX X E) {pins : List (Addr × Obj)} {s : Shared} {σ : St} {H : Hp} {us : List Value} {vs : List V} {Q : VK}
    (I : Inv X pins σ H s) (r : Vals vs us) (h : sp vs H Q E) : wpAny (model X.prog X.w) A (call (.ref f) us) (EP X pins σ Q) X.xe s := by
  have e := I.env0
  have e0 : Env0 X.prog X.w X.K X.mg X.base A X.stack s H := ⟨by rw [hA]; exact e.frames, e.mod, e.bs, e.bsz, e.funs, e.frf, e.hok, e.bare⟩
  have hl : us.length = ps.length := by rw [← r.length]; exact F.len _ _ _ _ h
  have hbd := hb s us I.kIn (by simpa using hl)
  rw [List.append_nil] at hbd
  refine wpAny_call (codeAny_mono (F.run A X.stack s H ⟨us, []⟩ us vs Q E hr e0 hbd r h) fun r z hq => ?_)
  cases r with
  | error e => exact hx pins σ H s e z I hq
  | ok fl =>
    cases fl with
    | ret w => exact I.after hq
    | next => exact False.elim hq
    | brk => exact False.elim hq
    | cont => exact False.elim hq
/-- an own special method -/
structure OwnSp (K : PySem.W.Frag) (C f : Addr) (name : Str) : Prop where
  fi : PySem.W.findIn K (.ref C) name = some (some (.ref f))
  fn : PySem.W.isFn K (.ref f) = true
def rInO (C : Addr) (sp : Sp) (E : XK) (fl : Bool → Bool) : R2 := fun x y H Q => ∃ a dx fs, y = .ref a ∧ H a = some (.ins C dx fs) ∧ sp [.ref a, x] H (fun v H' => ∃ r, v = .bl r ∧ Q (.bl (fl r)) H') E
theorem has_own (F : FnOk X.prog X.w X.K X.mg X.base CX k f fd ps sp) (T : OwnSp X.K C f "__contains__") (hb : Binds X.K fd ps []) (hr : Room k X.A) (hx : Passes CX X E) {pins : List (Addr × Obj)} {s : Shared} {σ : St} {H : Hp} {a dx : Addr} {fs : List (Str × V)} {x : V} {v : Value} {Q : Bool → Shared → Prop} {R : Bool → Hp → Prop} (I : Inv X pins σ H s) (rx : RelV x v) (ha : H a = some (.ins C dx fs))
    (h : sp [.ref a, x] H (fun v H' => ∃ r, v = .bl r ∧ R r H') E) (q : ∀ r z H', Inv X pins σ H' z → R r H' → Q r z) : wpAny (model X.prog X.w) X.A (contains (.ref a) v) Q X.xe s := by
  obtain ⟨mA, J, _⟩ := ins_get I.hok ha
  obtain ⟨od, J, _⟩ := J.look
  have KX := I.kIn
  have sp : PySem.W.Looks (model X.prog X.w) s.heap (specialOf (.ref a) "__contains__") (some (.ref f)) := J.type.andThen (PySem.W.looks_findIn KX T.fi)
  unfold contains
  refine wpAny_holding ?_
  rw [show stdlibNamesSay? (.ref a) v = none by rfl]
  dsimp only
  refine wpAny_bind (sp.here ?_)
  refine wp_if_neg (by rw [show ((some (Value.ref f) : Option Value) == some Value.none) = false by rfl]; exact Bool.false_ne_true) ?_
  first
    | refine wpAny_bind ?_
    | refine wpAny_bind (wpAny_pure (wpAny_bind ?_))
  unfold callSpecialUnlessNone?
  refine wpAny_bind (sp.here (wpAny_holding (wpAny_bind ((PySem.W.bind_fn KX _ (beq_iff_eq.mp T.fn)).here ?_))))
  dsimp only
  refine wp_if_neg (by rw [show (Value.ref f == Value.none) = false by rfl]; exact Bool.false_ne_true) ?_
  first
    | refine wpAny_bind ?_
    | refine wpAny_bind (wpAny_pure (wpAny_bind ?_))
  refine thn (call_ownA F hb hr rfl hx I (.cons (show RelV (.ref a) (.ref a) from rfl) (.cons rx .nil)) h) fun w z hw => ?_
  obtain ⟨y, H', I', ry, r, rfl, qq⟩ := hw
  obtain rfl : w = Value.bool r := ry
  exact wpAny_pure (wpAny_truthy_bool (q r z H' I' qq))
theorem op_inO (F : FnOk X.prog X.w X.K X.mg X.base CX k f fd ps sp) (T : OwnSp X.K C f "__contains__") (hb : Binds X.K fd ps []) (hr : Room k X.A) (hx : Passes CX X E) : OpR X (compareOp .In) (rInO C sp E id) := by
  intro pins s σ H x y v u Q I rx ry h
  obtain ⟨a, dx, fs, rfl, ha, h⟩ := h
  cases ry
  show wpAny _ _ (do return Value.bool (← contains (.ref a) v)) _ _ s
  exact wpAny_bind (has_own (R := fun r H' => Q (.bl r) H') F T hb hr hx I rx ha h fun r z H' I' q => wpAny_pure ⟨.bl r, H', I', rfl, q⟩)
theorem op_notinO (F : FnOk X.prog X.w X.K X.mg X.base CX k f fd ps sp) (T : OwnSp X.K C f "__contains__") (hb : Binds X.K fd ps []) (hr : Room k X.A) (hx : Passes CX X E) : OpR X (compareOp .NotIn) (rInO C sp E not) := by
  intro pins s σ H x y v u Q I rx ry h
  obtain ⟨a, dx, fs, rfl, ha, h⟩ := h
  cases ry
  show wpAny _ _ (do return Value.bool (!(← contains (.ref a) v))) _ _ s
  exact wpAny_bind (has_own (R := fun r H' => Q (.bl (!r)) H') F T hb hr hx I rx ha h fun r z H' I' q => wpAny_pure ⟨.bl (!r), H', I', rfl, q⟩)
/-- len(o) -/
def rLenO (C : Addr) (sp : Sp) (E : XK) : List V → Hp → VK → Prop := fun xs H Q => ∃ a dx fs, xs = [.ref a] ∧ H a = some (.ins C dx fs) ∧ sp [.ref a] H (fun v H' => ∃ n : Nat, v = .int n ∧ n < 2 ^ 62 ∧ Q (.int n) H') E
theorem call_lenO (F : FnOk X.prog X.w X.K X.mg X.base CX k f fd ps sp) (T : OwnSp X.K C f "__len__") (hb : Binds X.K fd ps []) (hr : Room k X.A.in1) (hx : Passes CX X E) : CallR X (.builtin "len") (rLenO C sp E) := by
  intro pins s σ H xs us Q I r h
  obtain ⟨a, dx, fs, rfl, ha, h⟩ := h
  rw [Vals.ref1 r]
  obtain ⟨mA, J, _⟩ := ins_get I.hok ha
  obtain ⟨od, J, _⟩ := J.look
  refine Calls.call_function_entry kind_len plain_len entry_len (args_len1 _) ?_
  unfold Builtin.«len»
  refine wpAny_bind (m := oneArg "len" _) (wpAny_pure ?_)
  refine wpAny_bind (m := callSpecial? (.ref a) (Str.ofString "__len__")) (PySem.W.special_fn (name := Str.ofString "__len__") I.kIn J T.fi (beq_iff_eq.mp T.fn) ?_)
  refine thn (call_ownA (A := X.A.in1) F hb hr rfl hx I (.cons (show RelV (.ref a) (.ref a) from rfl) .nil) h) fun w z hw => ?_
  obtain ⟨y, H', I', ry, n, rfl, hn, q⟩ := hw
  obtain ⟨t, rfl⟩ := ry
  dsimp only
  refine wpAny_bind (wpAny_holding (wpAny_pure ?_))
  refine wpAny_bind (wpAny_letGo ?_)
  have h1 : ¬ ((n : Int) < 0) := by omega
  have h2 : ¬ ((n : Int) ≥ 2 ^ 63) := by omega
  refine wp_if_neg h1 ?_
  first
    | refine wp_if_neg h2 ?_
    | refine wpAny_bind (wpAny_pure (wp_if_neg h2 ?_))
  first
    | exact wpAny_bind (wpAny_mkInt (wpAny_pure ⟨_, rfl, .int n, H', I'.tok _, ⟨_, rfl⟩, q⟩))
    | exact wpAny_bind (wpAny_pure (wpAny_bind (wpAny_mkInt (wpAny_pure ⟨_, rfl, .int n, H', I'.tok _, ⟨_, rfl⟩, q⟩))))
/-- o[k] -/
def rIxO (C : Addr) (sp : Sp) (E : XK) : R2 := fun x y H Q => ∃ a dx fs, x = .ref a ∧ H a = some (.ins C dx fs) ∧ sp [.ref a, y] H Q E
theorem pe_ixO {a b : Expr} {ta tb : TE} {pos : Pos} (F : FnOk X.prog X.w X.K X.mg X.base CX k f fd ps sp) (T : OwnSp X.K C f "__getitem__") (hf : PySem.W.fnIn X.K f = true) (hb : Binds X.K fd ps []) (hr : Room k X.A.in1) (hx : Passes CX X E) (ha : PE X a ta) (hbb : PE X b tb)
    (hs : ∀ o i, subscripted b true o i = runValue (.builtin "lifetime.subscript" ⟨[o, i], []⟩) := by intro _ _; rfl) : PE X (.Subscript a b pos) (tOp (rIxO C sp E) ta tb) := by
  refine ⟨fun pins s σ H Q I h => ?_⟩
  refine Subscript_ (binT ha hbb I h fun v u s2 x y H2 I2 rx ry q => ?_)
  obtain ⟨p, dx, fs, rfl, hp, q⟩ := q
  cases rx
  obtain ⟨mA, J, _⟩ := ins_get I2.hok hp
  obtain ⟨od, J, _⟩ := J.look
  obtain ⟨m, hF⟩ := I2.fr
  exact PySem.W.sub_K hF I2.ok.mod.kin J T.fi hf T.fn (call_ownA (A := X.A.in1) F hb hr rfl hx I2 (.cons (show RelV (.ref p) (.ref p) from rfl) (.cons ry .nil)) q) (hs _ _)
end
end L2

/-! == of two dicts with tuple keys that hold the very same objects, or that are of unlike lengths -/
namespace L2
open PySem PySem.Spec PyProof.Rows
section
variable {prog : Program} {w : World} {K : Type} [DecidableEq K] {knd : HeapKind prog w K} {A : Around} {E : Value → Shared → Prop} {s : Shared}
theorem same_objs {nm : String} {a b : Addr} {xa xb : List (K × Addr × Value)} {Q : Bool → Shared → Prop} (hu : knd.room A) (ha : (a == sysModules) = false) (hb : (b == sysModules) = false) (da : s.heap.DictOfH knd a xa) (db : s.heap.DictOfH knd b xb)
    (hits : xa.length = xb.length → ∀ x ∈ xa, ∃ q r, x.2.2 = .ref r ∧ (x.1, q, Value.ref r) ∈ xb) (q : Q (decide (xa.length = xb.length)) s) : wpAny (model prog w) A (Builtin.Dict.samePairs nm a b) Q E s := by
  obtain ⟨oa, ea, pa, goa, _, gda, hea, hia, hna⟩ := da
  obtain ⟨ob, eb, pb, gob, _, gdb, heb, hib, hnb⟩ := db
  have sa : ea.size = xa.length := size_of_entries hea
  have sb : eb.size = xb.length := size_of_entries heb
  unfold Builtin.Dict.samePairs Builtin.Dict.showsAll
  rw [if_neg (show ¬ (a == sysModules) = true by rw [ha]; exact Bool.false_ne_true), if_neg (show ¬ (b == sysModules) = true by rw [hb]; exact Bool.false_ne_true)]
  refine wpAny_bind (wpAny_pure (wpAny_bind (wpAny_pure ?_)))
  refine wpAny_bind (wpAny_dictEntries goa gda ?_)
  dsimp only
  refine wpAny_bind (wpAny_dictEntries gob gdb ?_)
  by_cases hsz : xa.length = xb.length
  case neg =>
    rw [decide_eq_false hsz] at q
    refine wp_if_pos (by rw [sa, sb]; simpa using hsz) ?_
    exact wpAny_bind (wpAny_rule (wpAny_pure q))
  case pos =>
    rw [decide_eq_true hsz] at q
    have hits := hits hsz
    refine wp_if_neg (by rw [sa, sb, hsz]; simp) ?_
    first
      | refine wpAny_bind (wpAny_dictEpoch goa gda ?_)
      | refine wpAny_bind (wpAny_pure (wpAny_bind (wpAny_dictEpoch goa gda ?_)))
    refine wpAny_bind ?_
    rw [Std.Legacy.Range.forIn_eq_forIn_range']
    simp only [Std.Legacy.Range.size, Nat.sub_zero, Nat.add_sub_cancel, Nat.div_one]
    refine wpAny_forIn_list _ (fun rest r z => z = s ∧ r = (none, ()) ∧ ∀ i ∈ rest, i < xa.length) _ ?_ ?_ _ _ ⟨rfl, rfl, fun i hi => ?_⟩
    · rintro i rest r z ⟨rfl, rfl, hall⟩
      have hlt := hall i List.mem_cons_self
      have hx : xa[i]? = some xa[i] := List.getElem?_eq_getElem hlt
      have hm : xa[i] ∈ xa := List.getElem_mem hlt
      generalize xa[i] = x at hx hm
      obtain ⟨k, p, v⟩ := x
      obtain ⟨y, t, e, hy⟩ := hits _ hm
      dsimp only at e hy
      subst e
      refine wpAny_bind (wpAny_dictEntries goa gda ?_)
      rw [entry_at hea i, hx]
      show wpAny _ _ (holding [Value.ref p, Value.ref t] _ >>= _) _ _ _
      obtain ⟨j, hj, ej⟩ := List.getElem_of_mem hy
      have hjj : xb[j]? = some (k, y, Value.ref t) := by rw [List.getElem?_eq_getElem hj, ej]
      refine wpAny_bind (wpAny_holding (wpAny_bind (wpAny_dictFind_heap hu (hia _ hm) gob gdb heb hib hnb (fun no => absurd hjj (no j _)) fun j' pq hj' => ?_)))
      obtain rfl : j' = j := idxH_unique hnb hj' hjj
      refine wpAny_bind (wpAny_dictEntries gob gdb ?_)
      rw [entry_at heb j', hjj]
      refine wpAny_holding ?_
      show wpAny _ _ (eqBool (.ref t) (.ref t)) _ _ _
      unfold eqBool
      refine wpAny_holding (wp_if_pos (by simp) (wpAny_bind (wpAny_rule (wpAny_pure ?_))))
      simp only [Bool.not_true, Bool.false_eq_true, if_false]
      first
        | refine wpAny_bind (wpAny_dictEpoch goa gda ?_)
        | refine wpAny_bind (wpAny_pure (wpAny_bind (wpAny_dictEpoch goa gda ?_)))
      refine wp_if_neg (by simp) ?_
      first
        | exact wpAny_pure ⟨rfl, rfl, fun i hi => hall i (.tail _ hi)⟩
        | exact wpAny_bind (wpAny_pure (wpAny_pure ⟨rfl, rfl, fun i hi => hall i (.tail _ hi)⟩))
    · rintro r z ⟨rfl, rfl, _⟩
      exact wpAny_pure q
    · rw [sa] at hi
      have := List.mem_range'.mp hi
      omega
theorem eq_objs {a b : Addr} {xa xb : List (K × Addr × Value)} {Q : Value → Shared → Prop} (hu : knd.room A.in1) (hu2 : A.units < cLine) (ha : (a == sysModules) = false) (hb : (b == sysModules) = false) (da : s.heap.DictOfH knd a xa) (db : s.heap.DictOfH knd b xb)
    (hits : xa.length = xb.length → ∀ x ∈ xa, ∃ q r, x.2.2 = .ref r ∧ (x.1, q, Value.ref r) ∈ xb) (q : Q (.bool (decide (xa.length = xb.length))) s) : wpAny (model prog w) A (compareOp .Eq (.ref a) (.ref b)) Q E s := by
  have ta : s.TypeIs (.ref a) "dict" := let ⟨o, _, _, ho, hx, _⟩ := da; ⟨o, ho, hx.1⟩
  have tb : s.TypeIs (.ref b) "dict" := let ⟨o, _, _, ho, hx, _⟩ := db; ⟨o, ho, hx.1⟩
  refine wpAny_richCompare_same_room (op := .Eq) ta tb PySem.F.slot_dict_eq (wpAny_call_entry PySem.F.slot_dict_eq ta PySem.F.entry_dict_eq ?_ (PySem.F.args_dict_eq_2 _ _)) hu2
  show wpAny _ _ (Builtin.Dict.dictSlotArgs "__eq__" ⟨[.ref a, .ref b], []⟩ >>= _) _ _ s
  refine wpAny_bind ?_
  unfold Builtin.Dict.dictSlotArgs
  refine wpAny_bind (wpAny_notOrdered_dict ta ?_)
  show wpAny _ _ (pure (Value.ref a, Value.ref b)) _ _ s
  refine wpAny_pure (wpAny_bind (wpAny_isInstance (T := "dict") tb PySem.F.sub_dict_dict ?_))
  simp only [Bool.not_true, Bool.false_eq_true, if_false]
  refine wpAny_bind (wpAny_pure (wpAny_bind (wpAny_pure ?_)))
  refine wpAny_bind (same_objs hu ha hb da db hits ?_)
  refine wpAny_pure ⟨_, rfl, (fun x => nomatch x), ?_⟩
  simpa using q
end
theorem kt_hits {H : Hp} {ls : List (List Key × V)} {xb : List (List Key × Addr × Value)} (rb : KT H ls xb) : ∀ {ks : List (List Key × V)} {xa : List (List Key × Addr × Value)}, KT H ks xa → (∀ p ∈ ks, ∃ r, p.2 = .ref r ∧ valV ls p.1 = some (.ref r)) → ∀ x ∈ xa, ∃ q r, x.2.2 = Value.ref r ∧ (x.1, q, Value.ref r) ∈ xb := by
  intro ks xa ra
  induction ra with
  | nil => exact fun _ x hx => nomatch hx
  | @cons p x ks xa h _ more =>
    intro hp y hy
    rcases List.mem_cons.mp hy with rfl | hy
    · obtain ⟨r, e, hv⟩ := hp p List.mem_cons_self
      obtain ⟨e1, _, e3⟩ := h
      rw [e] at e3
      have ev : y.2.2 = Value.ref r := e3
      have z := rb.val p.1
      rw [hv] at z
      cases hk : atKey xb p.1 with
      | none => rw [hk] at z; exact (show False from z).elim
      | some m =>
        rw [hk] at z
        have z : m.2 = Value.ref r := z
        refine ⟨m.1, r, ev, ?_⟩
        unfold atKey at hk
        obtain ⟨t, ht, et⟩ := Option.map_eq_some_iff.mp hk
        have h1 := List.mem_of_find?_eq_some ht
        have h2 : t.1 = p.1 := by simpa using List.find?_some ht
        rw [show (y.1, m.1, Value.ref r) = t by rw [← e1, ← h2, ← et, ← z, ← et]]
        exact h1
    · exact more (fun q hq => hp q (.tail _ hq)) y hy
/-- d == e -/
def rEqT : R2 := fun x y H Q => ∃ a b ks ls, x = .ref a ∧ y = .ref b ∧ H a = some (.dT ks) ∧ H b = some (.dT ls) ∧ (ks.length = ls.length → ∀ p ∈ ks, ∃ r, p.2 = .ref r ∧ valV ls p.1 = some (.ref r)) ∧ Q (.bl (decide (ks.length = ls.length))) H
theorem op_eqT {X : Cx} (hu : X.A.units + 1 < cLine) : OpR X (compareOp .Eq) rEqT := by
  intro pins s σ H x y v u Q I rx ry h
  obtain ⟨a, b, ks, ls, rfl, rfl, ha, hb, hits, q⟩ := h
  cases rx
  cases ry
  obtain ⟨_, ya, xa, ra, da⟩ := dt_of I.hok ha
  obtain ⟨_, yb, xb, rb, db⟩ := dt_of I.hok hb
  have la : ks.length = xa.length := Paired.length ra
  have lb : ls.length = xb.length := Paired.length rb
  refine eq_objs (show X.A.in1.units < cLine from hu) (by omega) ya yb da db (fun e => kt_hits rb ra (hits (by omega))) ⟨.bl (decide (ks.length = ls.length)), H, I, ?_, q⟩
  rw [la, lb]
  rfl
end L2

/-! x(lambda a=e: body): a lambda with one default that it does not read -/
namespace LamX
open L2 PySem PyProof.Rows PySem.Spec
/-- the lambda's name in the tables of code, and what it holds of the names around it -/
abbrev lq (X : Cx) : Str := X.env.qual ++ "<lambda>"
abbrev lclo (X : Cx) (scope : Scope) : List (Str × Addr) := cloFrom X.env.cells scope.names []
/-- the lambda at f, its code at c, the tuple of its default u at D; nobody holds f and D -/
structure LamAt (X : Cx) (H : Hp) (h : Heap) (params : Arguments) (body : Expr) (scope : Scope) (u : Value) (f c D : Addr) : Prop where
  fn : ∃ doc pm ct, h.get? f = some (PySem.W.kdv_obj "<lambda>" (lq X) params (.expr body) scope (lclo X scope) (.ref D) doc pm c ct)
  tup : h.get? D = some (PySem.W.kdv_tup [u])
  off : ∀ b, b = f ∨ b = D → H b = none ∧ b ∉ frs X.stack
/-- a table of codes with one row more -/
def grown (H : Hp) (P : Addr) (ps : Array Value) (pos : Pos) (c : Addr) (q : Str) : Hp := upd (upd H P (.tbl (ps ++ #[rawInt pos.line, rawInt pos.col, .ref c]))) c (CodeO c q)
section
variable {T : List (Addr × Str)} {H : Hp} {P c : Addr} {ps : Array Value} {pos : Pos} {q : Str}
theorem grown_ext (hP : H P = some (.tbl ps)) (new : H c = none) : ExtN H (grown H P ps pos c q) := by
  intro b o hb nt
  have b1 : b ≠ c := ne_of_none hb new
  have b2 : b ≠ P := by
    intro z
    rw [z] at hb
    exact nt ps (Option.some.inj (hb.symm.trans hP))
  exact (upd_ne b1).trans ((upd_ne b2).trans hb)
theorem grown_tabs (hT : Tabs T H) (hP : H P = some (.tbl ps)) (ok : TriplesOk ps.toList) (one : ∀ p ∈ T, p.1 = P → p.2 = q) (new : H c = none) : Tabs T (grown H P ps pos c q) := by
  intro p hp
  obtain ⟨rs, at0, ok0, codes⟩ := hT p hp
  have old : ∀ {d : Addr}, H d = some (CodeO d p.2) → grown H P ps pos c q d = some (CodeO d p.2) := fun h => grown_ext hP new _ _ h codeO_ne
  by_cases same : p.1 = P
  · have er : rs = ps := by
      rw [same, hP] at at0
      injection at0 with z
      injection z with z
      exact z.symm
    subst er
    have el : (rs ++ #[rawInt pos.line, rawInt pos.col, Value.ref c]).toList = rs.toList ++ [rawInt pos.line, rawInt pos.col, .ref c] := Array.toList_append
    refine ⟨_, ?_, by rw [el]; exact PySem.TriplesOk_snoc _ _ _ _ ok, ?_⟩
    · rw [same]
      exact (upd_ne (ne_of_none hP new)).trans upd_same
    · intro p' cv found
      rw [el] at found
      refine (among_app _ ok found).elim (fun z => ?_) fun z => ⟨c, z, by rw [one p hp same]; exact upd_same⟩
      obtain ⟨d, e, k⟩ := codes p' cv z
      exact ⟨d, e, old k⟩
  · refine ⟨rs, (upd_ne (ne_of_none at0 new)).trans ((upd_ne same).trans at0), ok0, fun p' cv found => ?_⟩
    obtain ⟨d, e, k⟩ := codes p' cv found
    exact ⟨d, e, old k⟩
end
section
variable {X : Cx} {pins : List (Addr × Obj)} {σ : L2.St} {H : Hp} {s : Shared}
/-- a new address is nobody's and no frame -/
theorem new_off (I : Inv X pins σ H s) {b : Addr} (le : s.heap.objs.size ≤ b) : H b = none ∧ b ∉ frs X.stack := by
  refine ⟨I.hok.fresh le, fun z => ?_⟩
  cases List.mem_cons.mp (I.stkSub b z) with
  | inl e => exact absurd I.lt (by rw [← e]; exact Nat.not_lt_of_le le)
  | inr e => exact I.nofs le e
theorem lam_made {T : List (Addr × Str)} {c P : Addr} {params : Arguments} {body : Expr} {scope : Scope} {pos : Pos} {E : Value → Shared → Prop} {Q : Value → Shared → Prop} {u : Value} (I : Inv X pins σ H s) (TB : TabB X.base X.mg c P) (code : X.env.code = .ref c)
    (mem : (P, lq X) ∈ T) (one : ∀ p ∈ T, p.1 = P → p.2 = lq X) (hT : Tabs T H) (frees : ∀ y ∈ scope.names, y.2 = .free → ∃ c, X.env.cells.lookup y.1 = some c) (kw : params.kwonlyargs = [])
    (q : ∀ f d D H1 s1, Inv X pins σ H1 s1 → ExtN H H1 → Tabs T H1 → H1 d = some (CodeO d (lq X)) → LamAt X H1 s1.heap params body scope u f d D → Q (.ref f) s1) :
    wpAny (model X.prog X.w) X.A (makeFunction "<lambda>" (lq X) params (.expr body) scope X.env [u] [] [] pos pos.line) Q E s := by
  rw [makeFunction_eq]
  simp only [kw, List.zip_nil_left, List.filterMap_nil, List.isEmpty_nil, List.isEmpty_cons, Bool.false_eq_true, if_false, if_true, pure_bind]
  have I0 : Inv X pins σ H { s with heap := s.heap.push (PySem.W.kdv_tup [u]), toks := s.toks } := I.kept fun _ _ e => Heap.get?_push_of_some _ e
  have hD : (s.heap.push (PySem.W.kdv_tup [u])).get? s.heap.objs.size = some (PySem.W.kdv_tup [u]) := Heap.get?_push_size _ rfl
  have oD := new_off I (Nat.le_refl s.heap.objs.size)
  refine wpAny_bind (wpAny_newTextTuple ?_)
  have sz0 : s.heap.objs.size < (s.heap.push (PySem.W.kdv_tup [u])).objs.size := Heap.lt_size hD
  show wpAny _ _ _ _ _ { s with heap := s.heap.push (PySem.W.kdv_tup [u]), toks := s.toks }
  generalize hz : ({ s with heap := s.heap.push (PySem.W.kdv_tup [u]), toks := s.toks } : Shared) = z at I0
  have ez : z.heap = s.heap.push (PySem.W.kdv_tup [u]) := by rw [← hz]
  rw [← ez] at hD sz0
  generalize s.heap.objs.size = D at hD oD sz0
  obtain ⟨ps, hP, ok, codes⟩ := hT _ mem
  have gP : z.heap.get? P = some (PySem.W.tabObj ps) := I0.hok P _ hP
  have main := I0.mod.glob.keeps I0.bk
  have code0 := TB.code.keeps I0.bk
  have bts := TB.bm.keeps I0.bk
  cases found : codeAmong pos ps.toList with
  | some cv =>
    obtain ⟨d, rfl, hd⟩ := codes pos cv found
    refine PySem.W.kdv_makeTailHit (closure_ok frees) I0.ok.glob main code code0 gP ok found bts fun ct doc h' tk kp le => ?_
    have up : ∀ b o, z.heap.get? b = some o → (h'.push (PySem.W.kdv_obj "<lambda>" (lq X) params (.expr body) scope (lclo X scope) (.ref D) doc ((X.mg "__name__").getD .none) d ct)).get? b = some o := fun b o e => Heap.get?_push_of_some _ (kp b o e)
    refine q _ d D H _ (I0.kept up) (ExtN.refl H) hT hd ⟨⟨doc, _, ct, Heap.get?_push_size _ rfl⟩, up _ _ hD, fun b hb => ?_⟩
    rcases hb with rfl | rfl
    · exact new_off I0 le
    · exact oD
  | none =>
    refine PySem.W.kdv_makeTail (closure_ok frees) I0.ok.glob main code code0 gP ok found TB.gP bts fun d ct doc h' tk ext ge lt rec tab => ?_
    obtain ⟨d', oc, vs, t, e, r1, r2, r3⟩ := rec
    injection e with e
    subst e
    have nd := I0.hok.fresh ge
    have nP : D ≠ P := fun y => by
      rw [y, hP] at oD
      exact nomatch oD.1
    have lay := inv_table (h' := h'.push (PySem.W.kdv_obj "<lambda>" (lq X) params (.expr body) scope (lclo X scope) (.ref D) doc ((X.mg "__name__").getD .none) d ct)) (t' := tk) I0 hP (fun b o nb e => Heap.get?_push_of_some _ (ext b o nb e)) (Heap.get?_push_of_some _ tab) ge ⟨oc, vs, t, Heap.get?_push_of_some _ r1, r2, r3⟩
    have big := Nat.le_trans ge (Nat.le_of_lt lt)
    refine q _ d D (grown H P ps pos d (lq X)) _ lay (grown_ext hP nd) (grown_tabs hT hP ok one nd) upd_same ⟨⟨doc, _, ct, Heap.get?_push_size _ rfl⟩, Heap.get?_push_of_some _ (ext D _ nP hD), fun b hb => ?_⟩
    rcases hb with rfl | rfl
    · exact ⟨(upd_ne (Nat.ne_of_gt lt)).trans ((upd_ne (Nat.ne_of_gt (Nat.lt_of_lt_of_le (Heap.lt_size gP) big))).trans (I0.hok.fresh big)), (new_off I0 big).2⟩
    · exact ⟨(upd_ne (Nat.ne_of_lt (Nat.lt_of_lt_of_le sz0 ge))).trans ((upd_ne nP).trans oD.1), oD.2⟩
/-- one parameter a that the def around does not have, no other own names -/
structure LamD (N : List Str) (a : Str) (sc scope : Scope) : Prop where
  fun_ : scope.kind = .function ∧ scope.isCoroutine = false ∧ scope.isGenerator = false
  own : ∀ y ∈ scope.names, y.2 ≠ .cell ∧ (y.2 = .local → y.1 = a)
  held : ∀ y ∈ scope.names, y.2 = .free → (sc.names.lookup y.1 = some .cell ∨ sc.names.lookup y.1 = some .free)
  par : scope.names.lookup a = some .local
  out : a ∉ N
def lamDB (N : List Str) (a : Str) (sc scope : Scope) : Bool :=
  decide (scope.kind = .function) && !scope.isCoroutine && !scope.isGenerator && (scope.names.all fun y => !decide (y.2 = .cell) && (!decide (y.2 = .local) || y.1 == a) && (!decide (y.2 = .free) || decide (sc.names.lookup y.1 = some .cell) || decide (sc.names.lookup y.1 = some .free))) && decide (scope.names.lookup a = some .local) && !N.any (· == a)
theorem lamD_by {N : List Str} {a : Str} {sc scope : Scope} (h : lamDB N a sc scope = true) : LamD N a sc scope := by
  unfold lamDB at h
  simp only [Bool.and_eq_true, Bool.or_eq_true, Bool.not_eq_true', decide_eq_true_eq, decide_eq_false_iff_not, List.all_eq_true, beq_iff_eq] at h
  obtain ⟨⟨⟨⟨⟨h1, h2⟩, h3⟩, h4⟩, h5⟩, h6⟩ := h
  refine ⟨⟨h1, h2, h3⟩, fun y hy => ⟨(h4 y hy).1.1, fun e => (h4 y hy).1.2.resolve_left fun k => k e⟩, fun y hy e => ?_, h5, fun hm => ?_⟩
  · exact (or_assoc.mp (h4 y hy).2).resolve_left fun k => k e
  · have h7 : (N.any fun x => x == a) = true := List.any_eq_true.mpr ⟨a, hm, beq_self_eq_true a⟩
    exact nomatch h7.symm.trans h6
theorem LamD.has {N : List Str} {a : Str} {scope : Scope} (L : LamD N a X.env.scope scope) (ok : X.Ok) : ∀ y ∈ scope.names, y.2 = .free → ∃ c, X.env.cells.lookup y.1 = some c := fun y hy e => ok.has _ (L.held y hy e)
/-- a cell that the lambda holds is the cell around it, and each free name has one -/
theorem LamD.cell {N : List Str} {a : Str} {scope : Scope} (L : LamD N a X.env.scope scope) (ok : X.Ok) {y : Str} {c : Addr} (h : (lclo X scope).lookup y = some c) : X.env.cells.lookup y = some c := by
  rcases cloFrom_mem (PySem.mem_of_lookup h) with z | ⟨m, e⟩
  · exact nomatch z
  · have ⟨c1, h1⟩ := L.has ok _ m rfl
    rw [e, show X.env.cells.lookup y = some c1 from h1]
    rfl
theorem clo_has {scope : Scope} {y : Str} (h : scope.names.lookup y = some .free) : ∃ c, (lclo X scope).lookup y = some c := mem_lookup (cloFrom_has (acc := []) (PySem.mem_of_lookup h))
/-- the context of the body, when the call has laid its frame -/
theorem lam_entered {HZ : Hp} {s1 : Shared} {a : Str} {m : Str → Option Value} {A : Around} {outer : List Env} {E : XK} {scope : Scope} {f c : Addr} {h1 : Heap} {tk : Nat} (I : Inv X pins σ H s) (L : LamD X.N a X.env.scope scope) (e0 : Env0 X.prog X.w X.K X.mg X.base A outer s1 HZ) (calm : A.handled = none)
    (un : Un (frs X.stack) [] H HZ s.heap s1.heap) (ns : h1.Ns s1.heap.objs.size m) (kp : ∀ b o, s1.heap.get? b = some o → h1.get? b = some o) : Inv (lamCx X A outer s1 HZ E scope f c) [] σ HZ { s1 with heap := h1, toks := tk } := by
  have none_ : ∀ {b : Addr}, b ∉ ([] : List Addr) := fun z => nomatch z
  have through : ∀ {d : Addr} {v : Option Value}, H d = none → s.heap.IsCell d v → h1.IsCell d v := by
    rintro d v n ⟨o, ho, hd⟩
    obtain ⟨sl, ho'⟩ := un.any ho n none_
    exact ⟨_, kp _ _ ho', hd⟩
  have okL : (lamCx X A outer s1 HZ E scope f c).Ok :=
    { mod := e0.mod, kind := L.fun_.1, glob := rfl, blt := rfl, above := Nat.le_refl _, inj := fun x y d h1 h2 => I.ok.inj x y d (L.cell I.ok h1) (L.cell I.ok h2),
      has := fun x hx => (show scope.names.lookup x = some .cell ∨ scope.names.lookup x = some .free from hx).elim (fun z => absurd rfl (L.own _ (PySem.mem_of_lookup z)).1) clo_has,
      cab := fun _ _ z => (nomatch z), hd := fun _ => calm, frames := Around.frames_deeper e0.frames, stk := .inr ⟨rfl, rfl⟩, exf := fun _ z => absurd z none_, bs := e0.bs, bsz := e0.bsz, noex := fun _ _ _ => none_, exfs := fun _ z => absurd z none_, funs := e0.funs, frf := e0.frf }
  refine { ok := okL, os := rfl, bare := e0.bare, base := Un.kept kp, loc := ⟨_, ns, fun i y v hy hv vis => ?_⟩, cell := fun y d h => ?_, free := e0.hok.fresh (Nat.le_refl _), freeC := fun y d h => ?_, pin := fun p hp => (nomatch hp), hok := e0.hok.kept kp, len := I.len }
  · have vis : Vis scope y := vis
    have hy : X.N[i]? = some y := hy
    rcases vis with k | k | k
    · have ea : y = a := (L.own _ (PySem.mem_of_lookup k)).2 rfl
      exact absurd (List.mem_of_getElem? (ea ▸ hy)) L.out
    · exact absurd rfl (L.own _ (PySem.mem_of_lookup k)).1
    · have up := L.held _ (PySem.mem_of_lookup k) rfl
      obtain ⟨m0, -, look⟩ := I.loc
      obtain ⟨r, hr, at0⟩ := look i y v hy hv (.inr up)
      obtain ⟨d, hd⟩ := clo_has (X := X) k
      have hd0 := L.cell I.ok hd
      refine ⟨r, hr, .inr ⟨.inr k, d, hd, ?_⟩⟩
      rcases at0 with ⟨loc, -⟩ | ⟨-, d1, h2, isc⟩
      · have loc : X.env.scope.names.lookup y = some .local := loc
        rcases up with z | z <;> exact nomatch loc.symm.trans z
      · obtain rfl : d = d1 := Option.some.inj (hd0.symm.trans h2)
        exact through (I.freeC y d hd0) isc
  · have hd := L.cell I.ok h
    exact (I.cell y d hd).imp fun v z => through (I.freeC y d hd) z
  · have hd := L.cell I.ok h
    obtain ⟨v, o, ho, -⟩ := I.cell y d hd
    exact un.free d o ho (I.freeC y d hd) none_
/-- what a call ends in is the value of the call's expression -/
theorem call_ends {CX : CXT} {E : XK} {Q : VK} {Y : Cx} {pinsY : List (Addr × Obj)} {τ : L2.St} {G : Hp} {z : Shared} {v : Value} {us : List Value} (J : Inv Y pinsY τ G z) (pass : Passes CX Y E)
    (run : codeAny (model Y.prog Y.w) Y.A (.call v ⟨us, []⟩) (CR CX Y.stack Y.prog Y.w G z Q E) z) : wpAny (model Y.prog Y.w) Y.A (call v us) (EP Y pinsY τ Q) Y.xe z := by
  refine wpAny_call (codeAny_mono run ?_)
  rintro (e | fl) z' k
  · exact pass pinsY τ G z e z' J k
  · cases fl with
    | ret r => exact J.after k
    | _ => exact k.elim
/-- the lambda called with nothing, in the def that got it -/
theorem pe_actD {CXg : CXT} {Eg : XK} {Ng : List Str} {qg : Str} {sg : Scope} {g f c D : Addr} {cdg u : Value} {params : Arguments} {body : Expr} {scope : Scope} {k i : Nat} {a par : Str} {pn : List (Addr × Obj)} {xe : Value → Shared → Prop} {W : WX} {E : XK} {tb : TE} {p1 p2 : Pos} {Y : Cx}
    (eY : Y = (cxOf CXg X.prog X.w X.K X.mg X.base Ng qg sg g cdg X.A X.stack s H Eg).tr pn xe) (I : Inv X pins σ H s) (L : LamD X.N par X.env.scope scope) (F : LamAt X H s.heap params body scope u f c D)
    (binds : ∀ doc pm ct, ∃ k, bindArgs (PySem.W.kdv_fn "<lambda>" (lq X) params (.expr body) scope (lclo X scope) (.ref D) doc pm (.ref c) ct) ⟨[], []⟩ = seqItems? (.ref D) >>= k ∧ k (some #[u]) = pure [(par, u)])
    (tk : Takes Y W) (up : ∀ cls d τ G, E cls d G → W cls d τ G) (room : Room (k + 1) (X.A.deeper (envOfC qg sg s.heap.objs.size g cdg)))
    (hb : ∀ A outer s H, Room k (A.deeper (lamEnv X scope s.heap.objs.size f c)) → PE (lamCx X A outer s H E scope f c) body tb)
    (hN : Ng[i]? = some a) (vis : Vis sg a) (hd : (a == ("__debug__" : Str)) = false) (hcd : (a == ("__classdict__" : Str)) = false) :
    PE Y (.Call (.Name a p1) [] [] p2) fun τ G Q => τ[i]? = some (some (.ref f)) ∧ G c = some (CodeO c (lq X)) ∧ tb σ G Q := by
  subst eY
  constructor
  rintro pinsY sY τ G Q J ⟨at0, cod, rd⟩
  refine wpAny_Call_Name_kw (thn ((pe_var (pos := p1) hN vis hd hcd).run pinsY sY τ G (fun v G' => v = .ref f ∧ G' = G) J ⟨_, at0, rfl, rfl⟩) ?_)
  rintro y s1 ⟨v, G1, J1, rel, rfl, rfl⟩
  obtain rfl : y = Value.ref f := rel
  obtain ⟨doc, pm, ct, hf⟩ := F.fn
  have un : Un (frs X.stack) [] H G1 s.heap s1.heap := J1.base
  have hf1 := un.keep f _ hf (F.off f (.inl rfl)).1 (F.off f (.inl rfl)).2 (fun z => nomatch z)
  have hD1 := un.keep D _ F.tup (F.off D (.inr rfl)).1 (F.off D (.inr rfl)).2 (fun z => nomatch z)
  obtain ⟨⟨oc, vs, t, k1, k2, k3⟩, -, -⟩ := J1.hok c _ cod
  refine PySem.W.callWith_F0 ⟨_, _, _, _, hf1⟩ ?_
  refine call_ends (us := []) J1 (passes_call tk up) (PySem.W.kla_callFunE room.depth hf1 rfl L.fun_.2.1 L.fun_.2.2 rfl ⟨c, oc, vs, t, rfl, k1, k2, k3⟩ ?_)
  obtain ⟨kk, b1, b2⟩ := binds doc pm ct
  rw [b1]
  refine wpAny_bind (wpAny_seqItems hD1 rfl ?_)
  rw [show [u].toArray = #[u] from rfl, b2]
  refine wpAny_pure (wpAny_newFunctionEnv (fun y hy => (L.own y hy).1) (fun y hy => List.mem_singleton.mp hy ▸ L.par) (fun h1 ns sb => ⟨J1.nolimit.fresh _ sb, ?_⟩) L.fun_.1)
  have ent := lam_entered (E := E) (f := f) (c := c) (tk := s1.toks + [(par, u)].length) I L J1.env0 room.hd un ns fun b o e => sb.extBut b o (Nat.ne_of_lt (Heap.lt_size e)) (Heap.get?_push_of_some _ e)
  exact PySem.W.kla_codeExpr (wpAny_mono ((hb _ _ s1 G1 (room.deeper _)).run [] _ _ G1 Q ent rd) (fun _ _ ⟨w', G2, J2, rv, fin⟩ => ⟨w', G2, J2.os, J2.bare, J2.base, J2.hok, rv, fin⟩) fun _ _ z => z)
/-- x(lambda par=e: body) -/
theorem pe_lamcallD {T : List (Addr × Str)} {TT : (XK → Hp → VK → Prop) → Hp → VK → Prop} {x a par : Str} {g c P : Addr} {k : Nat} {pg : Arguments} {bg : List Stmt} {sg : Scope} {dV kV doc pm cdv ct oc : Value} {an od : Option Addr} {osl : Array (Option Value)} {Ng : List Str}
    {params : Arguments} {body e : Expr} {scope : Scope} {t : XK → TE} {p lpos pos : Pos} {n : Int} (hg : Gl X x) (hm : X.mg x = some (.ref g)) (hk : PySem.W.keepIn X.K (.ref g) = true)
    (lk : X.K.lookup g = some ⟨oc, od, .func (PySem.W.fnOf x x pg bg sg dV kV doc pm an cdv ct), osl⟩) (cg : PySem.W.codeIn X.K cdv x = true) (bs : L2.Binds X.K (PySem.W.fnOf x x pg bg sg dV kV doc pm an cdv ct) [a] []) (Sg : FnScope Ng [a] sg) (hNg : Ng[0]? = some a) (vis : Vis sg a)
    (hG : GivesTo X Ng x sg g cdv bg a (lq X) TT) (TB : TabB X.base X.mg c P) (code : X.env.code = .ref c) (mem : (P, lq X) ∈ T) (one : ∀ p ∈ T, p.1 = P → p.2 = lq X) (room : Room (k + 2) X.A) (L : LamD X.N par X.env.scope scope) (he : PE X e (tC (.int n))) (dfs : defaultsOf params X.env = ([eval e X.env], [])) (kw : params.kwonlyargs = [])
    (binds : ∀ (q : Str) (cl : List (Str × Addr)) (pm cv ctv u : Value) (D : Addr) (doc : Value), ∃ k, bindArgs (PySem.W.kdv_fn "<lambda>" q params (.expr body) scope cl (.ref D) doc pm cv ctv) ⟨[], []⟩ = seqItems? (.ref D) >>= k ∧ k (some #[u]) = pure [(par, u)])
    (hb : ∀ (A : Around) (outer : List Env) (s : Shared) (H : Hp) (E : XK) (f c : Addr), Room k (A.deeper (lamEnv X scope s.heap.objs.size f c)) → PE (lamCx X A outer s H E scope f c) body (t E))
    (h1 : (x == ("__debug__" : Str)) = false := by decide) (h2 : (a == ("__debug__" : Str)) = false := by decide) (h3 : (a == ("__classdict__" : Str)) = false := by decide) : PE X (.Call (.Name x p) [.Lambda params body scope lpos] [] pos) (tLam T TT t) where
  run pins s σ H Q I := by
    rintro ⟨tabs, give⟩
    have arm : wpAny (model X.prog X.w) X.A (eval (.Lambda params body scope lpos) X.env) (fun v s1 => ∃ f d D H1, v = .ref f ∧ Inv X pins σ H1 s1 ∧ ExtN H H1 ∧ Tabs T H1 ∧ H1 d = some (CodeO d (lq X)) ∧ ∃ u, LamAt X H1 s1.heap params body scope u f d D) X.xe s := by
      rw [arm_eval_Lambda, dfs]
      refine wpAny_bind (wpAny_bind (thn (he.run pins s σ H (fun _ G => G = H) I rfl) ?_))
      rintro u s0 ⟨_, _, I0, -, rfl⟩
      refine wpAny_bind (wpAny_holding (wpAny_pure (wpAny_pure (wpAny_bind (wpAny_holding (wpAny_pure ?_))))))
      exact lam_made I0 TB code mem one tabs (L.has I0.ok) kw fun f d D H1 s1 I1 ext tabs1 cod F => ⟨f, d, D, H1, rfl, I1, ext, tabs1, cod, u, F⟩
    refine wpAny_Call_Name_kw (ld_glob I hg hm (PySem.W.callWith_K (h₀ := X.base) I.ok.mod.kin hk ?_ (by rfl) (by rfl)) h1)
    show wpAny _ _ (spliced ((false, eval (.Lambda params body scope lpos) X.env) :: backTo pos (starEach [] X.env))) _ _ s
    refine Calls.spliced_cons (thn arm ?_)
    rintro v s1 ⟨f, d, D, H1, rfl, I1, ext, tabs1, cod, u, F⟩
    refine Calls.spliced_nil ⟨I1.kIn, call_ends (CX := C8.CX0) (E := C8.E0) I1 pass0 (run_ofS (N := Ng) (ps := [a]) (us := [.ref f]) (vs := [.ref f]) lk cg Sg room I1.env0 (bs s1 [.ref f] I1.kIn rfl) (.cons rfl .nil) rfl fun room1 => ?_)⟩
    obtain ⟨t1, ps1, rd1⟩ := hG f d s1 H1 Q (fun E G Q' => t E σ G Q') (fun W pn xe E p1 p2 tk up => pe_actD rfl I1 L F (fun doc pm ct => binds _ _ pm _ ct u D doc) tk up room1 (fun A outer s H r => hb A outer s H E f d r) hNg vis h2 h3) cod (give H1 ext tabs1)
    exact ⟨t1, ps1.nox, rd1⟩
end
end LamX

/-! t[::-1], t a tuple -/
namespace L2
open PySem PySem.Spec PyProof.Rows
section
variable {prog : Program} {w : World} {A : Around} {E : Value → Shared → Prop} {s : Shared}
theorem adjust_back (n : Nat) : Builtin.Slice.sliceAdjust none none (-1) (n : Int) = ((n : Int) - 1, -1) := by
  unfold Builtin.Slice.sliceAdjust
  simp
theorem places_back (n : Nat) : Builtin.Slice.slicePlaces ((n : Int) - 1) (-1) (-1) = n := by
  unfold Builtin.Slice.slicePlaces
  simp only [show ¬ ((-1 : Int) > 0) by decide, if_false, show (- -1 : Int) = 1 by decide, Int.ediv_one]
  split <;> omega
theorem pick_back (xs : Array Value) : ((List.range xs.size).filterMap fun (k : Nat) => xs[(((xs.size : Int) - 1) + (k : Int) * -1).toNat]?).toArray = xs.toList.reverse.toArray := by
  rw [← PySem.W.krv_pick]
  unfold slicePick
  rw [PySem.W.krv_bounds]
  show _ = ((sliceRange ((xs.size : Int) - 1) (-1) (-1)).filterMap (xs[·]?)).toArray
  rw [PySem.W.krv_sliceRange, List.filterMap_map]
  have same : ∀ l : List Nat, (∀ k ∈ l, k < xs.size) → l.filterMap (fun (k : Nat) => xs[(((xs.size : Int) - 1) + (k : Int) * -1).toNat]?) = l.filterMap ((fun x => xs[x]?) ∘ fun k => xs.size - 1 - k) := by
    intro l
    induction l with
    | nil => exact fun _ => rfl
    | cons k l more =>
      intro h
      have hk := h k List.mem_cons_self
      rw [List.filterMap_cons, List.filterMap_cons, more fun j hj => h j (.tail _ hj), show (((xs.size : Int) - 1) + (k : Int) * -1).toNat = xs.size - 1 - k by omega]
      rfl
  rw [same _ fun k hk => List.mem_range.mp hk]
theorem getItem_tuple_back {t sl : Addr} {items : Array Value} {vl vu vs : Value} {Q : Value → Shared → Prop} (ht : IsTup s.heap t items) (hs : s.heap.IsSliceOf sl vl vu vs) (pl : IsPart vl none) (pu : IsPart vu none) (ps : IsPart vs (some (-1)))
    (h : Q (.ref s.heap.objs.size) { s with heap := s.heap.push { cls := .type "tuple", data := .seq items.toList.reverse.toArray } }) (hsz : items.size ≤ sizeLine) : wpAny (model prog w) A (getItem (.ref t) (.ref sl)) Q E s := by
  have fit : sizeOk (.seq items.toList.reverse.toArray) := by
    show items.toList.reverse.toArray.size ≤ sizeLine
    rwa [List.size_toArray, List.length_reverse, Array.length_toList]
  obtain ⟨os, gos, gcs, gds⟩ := id hs
  have tys : s.TypeIs (.ref sl) "slice" := ⟨os, gos, gcs⟩
  unfold getItem
  try with_reducible refine wpAny_holding ?_
  first | refine wpAny_bind (wpAny_pure ?_) | skip
  refine wpAny_bind (wpAny_sequenceKey ht.typeIs (by decide) ?_)
  refine wpAny_bind (wpAny_callSpecial?_slot (name := Str.ofString "__getitem__") ht.typeIs PyProof.Rows.slot_tuple_getitem (wpAny_call_entry PyProof.Rows.slot_tuple_getitem ht.typeIs entry_tuple_getitem ?_ (args_tuple_getitem _ _)))
  show wpAny _ _ (Builtin.Tuple.tupleItemsOf (.ref t) >>= _) _ _ s
  refine wpAny_bind (tupleItemsOf_ ht (wpAny_bind (wpAny_typeOf tys ?_)))
  rw [if_pos (by decide)]
  refine wpAny_bind (m := Builtin.Slice.sliceApplied (.ref sl) (pure ((items.size : Nat) : Int))) ?_
  unfold Builtin.Slice.sliceApplied Builtin.Slice.sliceFields
  refine wpAny_bind (wpAny_bind (wpAny_field gos gds (x := vl) rfl (wpAny_bind (wpAny_field gos gds (x := vu) rfl (wpAny_bind (wpAny_field gos gds (x := vs) rfl (wpAny_pure ?_)))))))
  refine wpAny_bind (HT.slicePart_ ps ?_)
  refine wp_if_neg (by decide) ?_
  refine wpAny_bind (HT.slicePart_ pl (wpAny_bind (HT.slicePart_ pu (wpAny_bind (wpAny_pure ?_)))))
  show wpAny _ _ (match Builtin.Slice.sliceAdjust none none (-1) (items.size : Int) with | (lo, hi) => pure (lo, (-1 : Int), Builtin.Slice.slicePlaces lo hi (-1))) _ _ s
  rw [adjust_back]
  show wpAny _ _ (pure ((items.size : Int) - 1, (-1 : Int), Builtin.Slice.slicePlaces ((items.size : Int) - 1) (-1) (-1))) _ _ s
  rw [places_back]
  refine wpAny_pure ?_
  dsimp only
  refine wp_if_neg (by simp) ?_
  rw [pick_back]
  first
    | exact wpAny_bind (m := Builtin.Tuple.tupleExact _) (wpAny_newObj_type (wpAny_pure ⟨_, rfl, wpAny_pure h⟩) fit)
    | exact wpAny_bind (m := Builtin.Tuple.tupleExact _) (wpAny_newObj_type (wpAny_bind (wpAny_pure (wpAny_pure ⟨_, rfl, wpAny_pure h⟩))) fit)
    | exact wpAny_bind (wpAny_bind (m := Builtin.Tuple.tupleExact _) (wpAny_newObj_type (wpAny_pure (wpAny_pure ⟨_, rfl, wpAny_pure h⟩)) fit))
    | exact wpAny_bind (wpAny_bind (m := Builtin.Tuple.tupleExact _) (wpAny_newObj_type (wpAny_pure ⟨_, rfl, wpAny_pure h⟩) fit))
end
section
variable {X : Cx}
def tRevT (K : PySem.W.Frag) (te : TE) : TE := fun σ H Q => te σ H fun x H1 => ∃ a xs, x = .ref a ∧ SqT K H1 a xs ∧ ∀ p, H1 p = none → Q (.ref p) (upd H1 p (.tup xs.reverse))
theorem pe_revT {e : Expr} {te : TE} {k : Nat} {p1 p2 p3 pos : Pos} (he : PE X e te) : PE X (.Subscript e (.Slice none none (some (.UnaryOp .USub (.Constant (.int 1) k p1) p2)) p3) pos) (tRevT X.K te) := by
  refine ⟨fun pins s σ H Q I h => ?_⟩
  refine Subscript_ (thn (he.run pins s σ H _ I h) fun v s1 ⟨x, H1, I1, r1, q1⟩ => ?_)
  obtain ⟨a, xs, rfl, hx, q⟩ := q1
  cases r1
  have back : PO X (some (.UnaryOp .USub (.Constant (.int 1) k p1) p2)) (tPart (tUn (rU fun i => .int (-i)) (tC (.int 1)))) := po_some (pe_un un_neg pe_int)
  refine wpAny_Slice (thn (po_none.run pins s1 σ H1 (fun o H2 => o = none ∧ H2 = H1) I1 ⟨rfl, rfl⟩) fun vl s2 ⟨l, H2, I2, pl, el, e2⟩ => ?_)
  subst el e2
  refine thn (po_none.run pins s2 σ H2 (fun o H3 => o = none ∧ H3 = H2) I2 ⟨rfl, rfl⟩) fun vu s3 ⟨u, H3, I3, pu, eu, e3⟩ => ?_
  subst eu e3
  refine thn (back.run pins s3 σ H3 (fun o H4 => o = some (-1) ∧ H4 = H3) I3 ⟨1, rfl, -1, rfl, rfl, rfl⟩) fun vs s4 ⟨o, H4, I4, ps, eo, e4⟩ => ?_
  subst eo e4
  have I5 : Inv X pins σ H4 { s4 with heap := s4.heap.push { cls := .type "slice", data := .fields #[vl, vu, vs] } } := I4.kept (t' := s4.toks) fun b ob q => Heap.get?_push_of_some _ q
  obtain ⟨its, r, ht, hz⟩ := I5.tuple hx
  show wpAny (model X.prog X.w) X.A (subscriptTail e (.Slice none none (some (.UnaryOp .USub (.Constant (.int 1) k p1) p2)) p3) (.ref a) (.ref s4.heap.objs.size)) (EP X pins σ Q) X.xe { s4 with heap := s4.heap.push { cls := .type "slice", data := .fields #[vl, vu, vs] } }
  refine tail_any (ops := [.ref a, .ref s4.heap.objs.size]) ht.typeIs PyProof.Rows.slot_tuple_getitem.lookup ?_ (by with_unfolding_all rfl)
  have hlen := r.length
  refine getItem_tuple_back ht (Heap.IsSliceOf.new _ vl vu vs) pl pu ps ?_ (by rw [List.size_toArray]; omega)
  refine ⟨.ref _, _, I5.laid (t' := s4.toks) (o := .tup xs.reverse) (fun b ob q => Heap.get?_push_of_some _ q) (Nat.le_refl _) ?_, rfl, q _ (I5.hok.fresh (Nat.le_refl _))⟩
  exact ⟨by rw [List.length_reverse]; exact hz, _, r.reverse, IsTup.new _ _⟩
end
end L2

namespace Half
open PySem PySem.Spec PyProof.Rows L2
/-! ### data of texts, numbers and tuples -/
mutual
inductive TD (K : PySem.W.Frag) (H : Hp) : V → PyData → Prop
  | bl (b : Bool) : TD K H (.bl b) (.bool b)
  | int (i : Int) : TD K H (.int i) (.int i)
  | str (x : Str) : TD K H (.str x) (.str x)
  | tup {a : Addr} {xs : List V} {ds : List PyData} : SqT K H a xs → TDAll K H xs ds → TD K H (.ref a) (.tuple ds)
inductive TDAll (K : PySem.W.Frag) (H : Hp) : List V → List PyData → Prop
  | nil : TDAll K H [] []
  | cons {v : V} {vs : List V} {d : PyData} {ds : List PyData} : TD K H v d → TDAll K H vs ds → TDAll K H (v :: vs) (d :: ds)
end
/-- every tuple stands -/
def Kp (K : PySem.W.Frag) (H H' : Hp) : Prop := ∀ a xs, SqT K H a xs → SqT K H' a xs
theorem _root_.L2.Same.kp {K : PySem.W.Frag} {H H' : Hp} (s : Same H H') : Kp K H H' := fun _ _ h => s.sqT h
theorem Kp.refl {K : PySem.W.Frag} {H : Hp} : Kp K H H := fun _ _ h => h
theorem Kp.trans {K : PySem.W.Frag} {H H1 H2 : Hp} (a : Kp K H H1) (b : Kp K H1 H2) : Kp K H H2 := fun _ _ h => b _ _ (a _ _ h)
theorem Kp.upd {K : PySem.W.Frag} {H : Hp} {p : Addr} {o u : HO} (hp : H p = some o) (h1 : ∀ xs, o ≠ .tup xs) (h2 : ∀ q xs, o ≠ .frz q (.tup xs)) : Kp K H (L2.upd H p u) := fun a xs h => by
  rcases h with (h | ⟨q, h⟩) | h
  · exact .inl (.inl (by rw [upd_ne (ne_of h hp (fun z => h1 _ z.symm))]; exact h))
  · exact .inl (.inr ⟨q, by rw [upd_ne (ne_of h hp (fun z => h2 _ _ z.symm))]; exact h⟩)
  · exact .inr h
mutual
theorem TD.kp {K : PySem.W.Frag} {H H' : Hp} (k : Kp K H H') : ∀ {v : V} {d : PyData}, TD K H v d → TD K H' v d
  | _, _, .bl b => .bl b
  | _, _, .int i => .int i
  | _, _, .str x => .str x
  | _, _, .tup h hs => .tup (k _ _ h) (TDAll.kp k hs)
theorem TDAll.kp {K : PySem.W.Frag} {H H' : Hp} (k : Kp K H H') : ∀ {vs : List V} {ds : List PyData}, TDAll K H vs ds → TDAll K H' vs ds
  | _, _, .nil => .nil
  | _, _, .cons h hs => .cons (TD.kp k h) (TDAll.kp k hs)
end
mutual
theorem TD.dp {K : PySem.W.Frag} {H : Hp} : ∀ {v : V} {d : PyData}, TD K H v d → Dp K H v d
  | _, _, .bl b => .bl b
  | _, _, .int i => .int i
  | _, _, .str x => .str x
  | _, _, .tup h hs => .tup h (TDAll.dp hs)
theorem TDAll.dp {K : PySem.W.Frag} {H : Hp} : ∀ {vs : List V} {ds : List PyData}, TDAll K H vs ds → DpAll K H vs ds
  | _, _, .nil => .nil
  | _, _, .cons h hs => .cons (TD.dp h) (TDAll.dp hs)
end
theorem TDAll.len {K : PySem.W.Frag} {H : Hp} : ∀ {vs : List V} {ds : List PyData}, TDAll K H vs ds → vs.length = ds.length
  | _, _, .nil => rfl
  | _, _, .cons _ hs => congrArg Nat.succ hs.len
theorem TDAll.strs {K : PySem.W.Frag} {H : Hp} : ∀ {vs : List V} {ss : List Str}, TDAll K H vs (ss.map PyData.str) → vs = ss.map V.str
  | _, [], h => by cases h; rfl
  | _, z :: ss, h => by
    cases h with
    | cons h hs =>
      cases h
      rw [TDAll.strs hs]
      rfl
theorem TDAll.pairs {K : PySem.W.Frag} {H : Hp} : ∀ {vs : List V} {ps : List (Str × Int)}, TDAll K H vs (ps.map pairD) → ∃ ts : List Addr, vs = ts.map V.ref ∧ ts.length = ps.length ∧ ∀ (i : Nat) t p, ts[i]? = some t → ps[i]? = some p → SqT K H t [.str p.1, .int p.2]
  | _, [], h => by cases h; exact ⟨[], rfl, rfl, fun i t p h _ => by simp at h⟩
  | _, q :: ps, h => by
    cases h with
    | cons h hs =>
      obtain ⟨ts, rfl, hl, ht⟩ := TDAll.pairs hs
      cases h with
      | @tup a xs ds hq hd =>
        cases hd with
        | cons h1 hd =>
          cases hd with
          | cons h2 hd =>
            cases hd
            cases h1
            cases h2
            refine ⟨a :: ts, rfl, by simp [hl], fun i t p e1 e2 => ?_⟩
            cases i with
            | zero =>
              have z1 : a = t := by simpa using e1
              have z2 : q = p := by simpa using e2
              subst z1 z2
              exact hq
            | succ i => exact ht i t p (by simpa using e1) (by simpa using e2)
theorem TD.strs {K : PySem.W.Frag} {H : Hp} {v : V} {ss : List Str} (h : TD K H v (.tuple (ss.map PyData.str))) : ∃ a, v = .ref a ∧ SqT K H a (ss.map V.str) := by
  cases h with
  | tup hq hd =>
    rw [hd.strs] at hq
    exact ⟨_, rfl, hq⟩
theorem TD.needs {K : PySem.W.Frag} {H : Hp} {v : V} {ps : List (Str × Int)} (h : TD K H v (.tuple (ps.map pairD))) : ∃ a, v = .ref a ∧ NeedsAt K H a ps := by
  cases h with
  | tup hq hd =>
    obtain ⟨ts, rfl, hl, ht⟩ := hd.pairs
    exact ⟨_, rfl, ts, hq, hl, ht⟩
/-! ### displays of written data -/
def Y (K : PySem.W.Frag) (t : TE) (d : PyData) : Prop := ∀ σ H Q, (∀ v H', Same H H' → TD K H' v d → Q v H') → t σ H Q
def YA (K : PySem.W.Frag) (t : TA) (ds : List PyData) : Prop := ∀ σ H Q, (∀ vs H', Same H H' → TDAll K H' vs ds → Q vs H') → t σ H Q
section
variable {K : PySem.W.Frag}
theorem Y.str {z : Str} : Y K (tC (.str z)) (.str z) := fun _ H _ h => h _ H (Same.refl H) (.str z)
theorem Y.int {i : Int} : Y K (tC (.int i)) (.int i) := fun _ H _ h => h _ H (Same.refl H) (.int i)
theorem Y.bl {b : Bool} : Y K (tC (.bl b)) (.bool b) := fun _ H _ h => h _ H (Same.refl H) (.bl b)
theorem YA.nil : YA K tNil [] := fun _ H _ h => h _ H (Same.refl H) .nil
theorem YA.cons {t : TE} {ts : TA} {d : PyData} {ds : List PyData} (a : Y K t d) (b : YA K ts ds) : YA K (tCons t ts) (d :: ds) := fun σ H Q h =>
  a σ H _ fun v H1 s1 t1 => b σ H1 _ fun vs H2 s2 t2 => h (v :: vs) H2 (s1.trans s2) (.cons (t1.kp s2.kp) t2)
theorem Y.tup {ta : TA} {ds : List PyData} (a : YA K ta ds) (hl : ds.length ≤ 100 := by simp) : Y K (tTup ta) (.tuple ds) := fun σ H Q h =>
  a σ H _ fun vs H1 s1 t1 => ⟨by rw [t1.len, sizeLine_eq]; omega, fun p hp => h (.ref p) _ (s1.trans (Same.upd_new hp)) (.tup (.inl (.inl upd_same)) (t1.kp (Same.upd_new hp).kp))⟩
end
/-! ### d[k] = v as a target -/
theorem set_dict {X : Cx} (hu : X.A.units + 1 < cLine) : PSet X (fun o i v H Q => ∃ a H4, o = .ref a ∧ DPut H a i v H4 ∧ Q H4) := by
  intro pins s σ H o i v ov iv u Q I ro ri rv h
  obtain ⟨a, H4, rfl, g, q⟩ := h
  cases ro
  exact d_setItem hu I g ri rv fun s4 I4 => ⟨H4, I4, q⟩
end Half

namespace Half
open PySem PySem.Spec PyProof.Rows L2
abbrev EiPs : List Str := ["self", "name", "version", "scripts", "needs", "first", "against"]
/-- Edition's __init__ as the top has made it, with its defaults -/
structure EdF (P : Program) (w : World) (K : PySem.W.Frag) (mg : Str → Option Value) (base : Heap) (C CE : Addr) (f : Addr) (fd : FuncData) (aS z1 z2 z3 : Addr) : Prop where
  ok : FnOk P w K mg base (L2.CX P w) 6 f fd EiPs (spEi K C CE)
  fn : FunD K "__init__" "Edition.__init__" (defArgs sEi) (defBody sEi) (defScope sEi) [] [("scripts", .ref aS), ("needs", .ref z1), ("first", .ref z2), ("against", .ref z3)] f fd
  make : Mk K C f
  mgC : mg "Edition" = some (.ref C)
  tS : ∀ H, SqT K H aS (SCR.map V.str)
  t1 : ∀ H, SqT K H z1 []
  t2 : ∀ H, SqT K H z2 []
  t3 : ∀ H, SqT K H z3 []
section
variable {P : Program} {w : World} {K : PySem.W.Frag} {mg : Str → Option Value} {base : Heap} {C CE : Addr} {f : Addr} {fd : FuncData} {aS z1 z2 z3 : Addr}
theorem EdF.kb4 (D : EdF P w K mg base C CE f fd aS z1 z2 z3) : ∃ g, KBn K fd EiPs 3 ["scripts", "needs", "first", "against"] g (fun vs zs => vs ++ zs) := by
  obtain ⟨mv, h⟩ := D.fn.kbinds0 (ps := EiPs) 3 ["scripts", "needs", "first", "against"] [] (fun us _ ws => us ++ ws) (by simp) (fun q h => by cases h) (fun r1 _ r3 => r1.append r3)
    (fun D doc pm an cdv ct us mv ws h1 h2 h3 => match us, ws, h1, h3 with | [_, _, _], [_, _, _, _], _, _ => rfl)
  exact ⟨_, h⟩
theorem EdF.kb1 (D : EdF P w K mg base C CE f fd aS z1 z2 z3) : ∃ g, KBn K fd EiPs 3 ["scripts"] g (fun vs zs => vs ++ zs ++ [.ref z1, .ref z2, .ref z3]) := by
  obtain ⟨mv, h⟩ := D.fn.kbinds0 (ps := EiPs) 3 ["scripts"] [("needs", .ref z1), ("first", .ref z2), ("against", .ref z3)] (fun us mv ws => us ++ ws ++ mv) (by simp) (fun q h => List.mem_cons_of_mem _ h) (fun r1 r2 r3 => (r1.append r3).append r2)
    (fun D doc pm an cdv ct us mv ws h1 h2 h3 => match us, mv, ws, h1, h2, h3 with | [_, _, _], [_, _, _], [_], _, _, _ => ⟨_, _, _, _, _, _, rfl, rfl, _, _, _, _, _, _, rfl, rfl, _, _, _, _, _, _, rfl, rfl, rfl⟩)
  exact ⟨_, h⟩
theorem EdF.b0 (D : EdF P w K mg base C CE f fd aS z1 z2 z3) : ∃ ds, Vals [.ref aS, .ref z1, .ref z2, .ref z3] ds ∧ Binds K fd EiPs ds :=
  D.fn.binds0 (ps := EiPs) 3 (by simp) rfl (fun D doc pm an cdv ct us ks h1 h2 => match us, ks, h1, h2 with | [_, _, _], [_, _, _, _], _, _ => ⟨_, _, _, _, _, _, rfl, rfl, _, _, _, _, _, _, rfl, rfl, _, _, _, _, _, _, rfl, rfl, _, _, _, _, _, _, rfl, rfl, rfl⟩)
end
end Half

namespace Half
open PySem PySem.Spec PyProof.Rows L2
/-- a property -/
structure Prp (P : Program) (w : World) (K : PySem.W.Frag) (mg : Str → Option Value) (base : Heap) (C : Addr) (x : Str) (i : Nat) : Prop where
  ex : ∃ p g fd, PropOf K C x p g ∧ FnOk P w K mg base CX0 1 g fd ["self"] (spGet C i) ∧ Binds K fd ["self"] []
theorem pe_prp {X : Cx} {C : Addr} {x : Str} {i : Nat} {e : Expr} {pos : Pos} {ta : TE} (D : Prp X.prog X.w X.K X.mg X.base C x i) (cl : Cls X.K C) (hr : Room 2 X.A) (he : PE X e ta) (hab : attributeBase e x X.env (eval e X.env) = eval e X.env := by rfl) :
    PE X (.Attribute e x pos) (tProp C (spGet C i) [] E0 ta) := by
  obtain ⟨p, g, fd, h1, h2, h3⟩ := D.ex
  exact pe_prop he cl h1 h2 hr h3 .nil pass0 hab
/-- == of editions -/
structure EqF (P : Program) (w : World) (K : PySem.W.Frag) (mg : Str → Option Value) (base : Heap) (C : Addr) : Prop where
  ex : ∃ f fd, FnOk P w K mg base CX0 1 f fd ["self", "other"] (spEq K C) ∧ OwnEqC K C f ∧ Binds K fd ["self", "other"] []
theorem op_eqE {X : Cx} {C : Addr} (D : EqF X.prog X.w X.K X.mg X.base C) (hr : Room 2 X.A) : OpR X (compareOp .Eq) (rEqO C (spEq X.K C) id) := by
  obtain ⟨f, fd, h1, h2, h3⟩ := D.ex
  exact op_eqO h1 h2 h3 (hr.mono (by decide))
theorem op_neE {X : Cx} {C : Addr} (D : EqF X.prog X.w X.K X.mg X.base C) (hr : Room 2 X.A) : OpR X (compareOp .NotEq) (rEqO C (spEq X.K C) not) := by
  obtain ⟨f, fd, h1, h2, h3⟩ := D.ex
  exact op_neO h1 h2 h3 hr
/-- all that the law asks of Edition -/
structure EdAll (P : Program) (w : World) (K : PySem.W.Frag) (mg : Str → Option Value) (base : Heap) (C CE : Addr) : Prop where
  ei : ∃ f fd aS z1 z2 z3, EdF P w K mg base C CE f fd aS z1 z2 z3
  eq : EqF P w K mg base C
  cl : Cls K C
  p0 : Prp P w K mg base C "name" 0
  p1 : Prp P w K mg base C "version" 1
  p2 : Prp P w K mg base C "scripts" 2
  p3 : Prp P w K mg base C "needs" 3
  p4 : Prp P w K mg base C "first" 4
  p5 : Prp P w K mg base C "against" 5
theorem EdIs.ins {K : PySem.W.Frag} {H : Hp} {C a : Addr} {e : Ed} (h : EdIs K H C a e) : ∃ dx fs, H a = some (.ins C dx fs) := by
  obtain ⟨⟨s, n, f, g, ⟨dx, p, h1, h2⟩, h3⟩, _⟩ := h
  exact ⟨dx, _, h1⟩
/-- how a == b of editions is read -/
theorem eqO_read {K : PySem.W.Frag} {H : Hp} {C a b : Addr} {e e' : Ed} {fl : Bool → Bool} {Q : VK} (h1 : EdIs K H C a e) (h2 : EdIs K H C b e') (q : Q (.bl (fl (PyData.eqv e.data e'.data))) H) : rEqO C (spEq K C) fl (.ref a) (.ref b) H Q := by
  obtain ⟨dx, fs, ha⟩ := h1.ins
  obtain ⟨dy, gs, hb⟩ := h2.ins
  exact ⟨a, b, dx, dy, fs, gs, rfl, rfl, ha, hb, a, b, e, e', rfl, h1, h2, _, rfl, q⟩
/-- an edition with nothing but its name and version -/
def edP (nm : Str) (v : Int) : Ed := ⟨nm, .int v, SCR, [], [], []⟩
theorem edP_ok {nm : Str} {v : Int} (h1 : isWord nm = true) (h2 : 1 ≤ v) (h3 : v ≤ 99) : (edP nm v).wrong = none := by
  have a1 : inR (.int v) 1 99 = true := by show (decide (1 ≤ v) && decide (v ≤ 99)) = true; rw [decide_eq_true h2, decide_eq_true h3]; rfl
  have a2 : areScripts SCR = true := by decide +kernel
  have a3 : areNeeds [] nm = true := by rfl
  have a4 : areOthers [] nm = true := by rfl
  unfold Ed.wrong Ed.checks edP
  simp only [h1, a1, a2, a3, a4]
  rfl
theorem edP_small {nm : Str} {v : Int} (h : nm.length ≤ 1000) : (edP nm v).Small := ⟨h, .inl ⟨v, rfl⟩, (by decide : SCR.length ≤ 100), ⟨Nat.zero_le _, fun p hp => by cases hp⟩, ⟨Nat.zero_le _, fun p hp => by cases hp⟩, ⟨Nat.zero_le _, fun p hp => by cases hp⟩⟩
theorem NeedsAt.nil {K : PySem.W.Frag} {H : Hp} {a : Addr} (h : SqT K H a []) : NeedsAt K H a [] := ⟨[], h, rfl, fun i t p h _ => by simp at h⟩
theorem ite_no {b : Bool} {A B : Prop} (hb : b = false) (h : B) : if b = true then A else B := by
  rw [hb]
  exact iteF h
theorem ite_yes {b : Bool} {A B : Prop} (hb : b = true) (h : A) : if b = true then A else B := by
  rw [hb]
  exact iteT h
/-- an edition is made that has nothing wrong -/
theorem mk_read {K : PySem.W.Frag} {H : Hp} {C CE x dx s n f g : Addr} {e : Ed} {Q : Hp → Prop} {E : XK} (nx : H x = none) (ndx : H dx = none) (hE : EdAt K H e s n f g) (sm : e.Small) (hw : e.wrong = none) (k : ∀ H', Same H H' → EdObj K H' C x e s n f g → Q H') :
    spEi K C CE [.ref x, .str e.name, e.version, .ref s, .ref n, .ref f, .ref g] (upd (upd H dx (.own x)) x (.ins C dx [])) (fun v H3 => v = .non ∧ Q H3) E := by
  have sx : Same H (upd (upd H dx (.own x)) x (.ins C dx [])) := fun b o q => by
    rw [upd_ne (ne_of_none q nx), upd_ne (ne_of_none q ndx)]
    exact q
  refine ⟨x, dx, e, s, n, f, g, rfl, upd_same, hE.same sx, sm, fun _ H' sb ho => ⟨rfl, k H' (fun b o q => sb _ _ (ne_of_none q nx) (sx _ _ q)) ho⟩, fun p hp => ?_⟩
  rw [hw] at hp
  cases hp
theorem edP_is {K : PySem.W.Frag} {H : Hp} {C a s n f g : Addr} {nm : Str} {v : Int} (h : EdObj K H C a (edP nm v) s n f g) (hs : PyData.strOk nm = true) : EdIs K H C a (edP nm v) := by
  refine ⟨⟨s, n, f, g, h⟩, .inl ⟨v, rfl⟩, ?_⟩
  have a1 : PyData.strOk "clean" = true := by decide +kernel
  have a2 : PyData.strOk "enter" = true := by decide +kernel
  have a3 : PyData.strOk "leave" = true := by decide +kernel
  have a4 : PyData.strOk "setup" = true := by decide +kernel
  simp [SeqAt.shaped, edP, Ed.data, verD, SCR, PyData.canLay0, PyData.canLayAll0, PyData.depth, PyData.depthAll, hs, a1, a2, a3, a4]
end Half

namespace Half
open PySem PySem.Spec PyProof.Rows L2
/-! ### different ones, in the order in which they are met -/
section
variable {α : Type} [DecidableEq α]
def has (l : List α) (x : α) : Bool := l.any fun y => decide (y = x)
theorem has_iff {l : List α} {x : α} : has l x = true ↔ x ∈ l := by
  unfold has
  rw [List.any_eq_true]
  exact ⟨fun ⟨y, h, e⟩ => of_decide_eq_true e ▸ h, fun h => ⟨x, h, decide_eq_true rfl⟩⟩
theorem has_no {l : List α} {x : α} (h : x ∉ l) : has l x = false := by
  cases e : has l x
  · rfl
  · exact absurd (has_iff.mp e) h
theorem not_has {l : List α} {x : α} (h : has l x = false) : x ∉ l := fun m => by
  rw [has_iff.mpr m] at h
  exact nomatch h
def dstep (acc : List α) (x : α) : List α := if has acc x = true then acc else acc ++ [x]
def dset (l : List α) : List α := l.foldl dstep []
theorem dset_snoc (l : List α) (x : α) : dset (l ++ [x]) = dstep (dset l) x := by
  unfold dset
  rw [List.foldl_append]
  rfl
theorem snoc_ind {p : List α → Prop} (h0 : p []) (h1 : ∀ l x, p l → p (l ++ [x])) (l : List α) : p l := by
  have key : ∀ n (l : List α), l.length = n → p l := by
    intro n
    induction n with
    | zero => intro l e; rw [List.eq_nil_of_length_eq_zero e]; exact h0
    | succ n ih =>
      intro l e
      have hne : l ≠ [] := fun z => by rw [z] at e; cases e
      rw [← List.dropLast_concat_getLast hne]
      exact h1 _ _ (ih _ (by rw [List.length_dropLast, e]; rfl))
  exact key _ l rfl
theorem mem_dstep {acc : List α} {x y : α} : y ∈ dstep acc x ↔ y ∈ acc ∨ y = x := by
  unfold dstep
  split
  · rename_i h
    exact ⟨.inl, fun z => z.elim id fun e => e ▸ has_iff.mp h⟩
  · rw [List.mem_append, List.mem_singleton]
theorem mem_dset (l : List α) (y : α) : y ∈ dset l ↔ y ∈ l := by
  induction l using snoc_ind with
  | h0 => simp [dset]
  | h1 l x ih => rw [dset_snoc, mem_dstep, ih, List.mem_append, List.mem_singleton]
theorem dset_nodup (l : List α) : (dset l).Nodup := by
  induction l using snoc_ind with
  | h0 => exact .nil
  | h1 l x ih =>
    rw [dset_snoc]
    unfold dstep
    split
    · exact ih
    · rename_i h
      refine List.nodup_append.mpr ⟨ih, List.nodup_cons.mpr ⟨by simp, .nil⟩, fun a ha b hb e => ?_⟩
      rw [List.mem_singleton.mp hb] at e
      subst e
      exact h (has_iff.mpr ha)
def nd (l : List α) : Nat := (dset l).length
theorem nd_snoc (l : List α) (x : α) : nd (l ++ [x]) = if has l x = true then nd l else nd l + 1 := by
  unfold nd
  rw [dset_snoc]
  unfold dstep
  have e : has (dset l) x = has l x := by
    cases q : has l x
    · exact has_no fun z => not_has q ((mem_dset l x).mp z)
    · exact has_iff.mpr ((mem_dset l x).mpr (has_iff.mp q))
  rw [e]
  split <;> simp
theorem nd_le (l : List α) : nd l ≤ l.length := by
  induction l using snoc_ind with
  | h0 => exact Nat.le_refl _
  | h1 l x ih =>
    rw [nd_snoc, List.length_append, List.length_singleton]
    split <;> omega
theorem nd_perm {l m : List α} (hm : m.Nodup) (h : ∀ x, x ∈ m ↔ x ∈ l) : m.length = nd l :=
  ((List.perm_ext_iff_of_nodup hm (dset_nodup l)).mpr fun x => (h x).trans (mem_dset l x).symm).length_eq
end
/-! ### a store's editions -/
abbrev Kk : Type := Str × Int
/-- the i-th key stands before, its name is one too many, or it stands too late -/
def badB (ks : List Kk) (i : Nat) : Bool := match ks[i]? with
  | none => false
  | some k => has (ks.take i) k || (decide (4 < nd ((ks.take (i + 1)).map (·.1))) || decide (12 ≤ i))
def wrongAt (ks : List Kk) : Option Nat := if ks.isEmpty = true then some 0 else (List.range ks.length).find? (badB ks)
/-- as the law says it -/
def lawB (ks : List Kk) (i : Nat) : Bool := match ks[i]? with
  | none => false
  | some k => has (ks.take i) k || (decide (i = 12) || (!has ((ks.take i).map (·.1)) k.1 && decide (nd ((ks.take i).map (·.1)) = 4)))
theorem take_snoc {α : Type} {l : List α} {i : Nat} {x : α} (h : l[i]? = some x) : l.take (i + 1) = l.take i ++ [x] := take_next h
theorem bad_few {ks : List Kk} : ∀ i, (∀ j, j < i → badB ks j = false) → nd ((ks.take i).map (·.1)) ≤ 4
  | 0, _ => by simp [nd, dset]
  | i + 1, h => by
    cases e : ks[i]? with
    | none =>
      have ih := bad_few i fun j hj => h j (Nat.lt_succ_of_lt hj)
      rw [List.take_of_length_le (Nat.le_succ_of_le (List.getElem?_eq_none_iff.mp e))]
      rwa [List.take_of_length_le (List.getElem?_eq_none_iff.mp e)] at ih
    | some k =>
      have hb := h i (Nat.lt_succ_self _)
      unfold badB at hb
      rw [e] at hb
      simp only [Bool.or_eq_false_iff, decide_eq_false_iff_not] at hb
      omega
theorem bad_law {ks : List Kk} {i : Nat} (h : ∀ j, j < i → badB ks j = false) (hi : i ≤ 12) : badB ks i = lawB ks i := by
  unfold badB lawB
  cases e : ks[i]? with
  | none => rfl
  | some k =>
    have few := bad_few i h
    simp only
    congr 1
    rw [Bool.or_comm]
    congr 1
    · rw [decide_eq_decide]; omega
    · rw [take_snoc e, List.map_append, List.map_singleton, nd_snoc]
      cases has ((ks.take i).map (·.1)) k.1
      · simp only [Bool.false_eq_true, if_false, Bool.not_false, Bool.true_and, decide_eq_decide]; omega
      · simp only [if_true, Bool.not_true, Bool.false_and]
        exact decide_eq_false (by omega)
theorem bad_late {ks : List Kk} {i : Nat} (h1 : i < ks.length) (h2 : 12 ≤ i) : badB ks i = true := by
  unfold badB
  rw [List.getElem?_eq_getElem h1]
  simp [h2]
theorem law_late {ks : List Kk} (h1 : 12 < ks.length) : lawB ks 12 = true := by
  unfold lawB
  rw [List.getElem?_eq_getElem h1]
  simp
/-- the first bad one is the same -/
theorem first_law {ks : List Kk} {i : Nat} (h : ∀ j, j < i → lawB ks j = false) (hi : i ≤ ks.length) : ∀ j, j < i → badB ks j = false := by
  intro j
  induction j using Nat.strongRecOn with
  | ind j ih =>
    intro hj
    have hb : ∀ m, m < j → badB ks m = false := fun m hm => ih m hm (Nat.lt_trans hm hj)
    rcases Nat.lt_or_ge 12 j with c | c
    · have z := h 12 (by omega)
      rw [law_late (by omega)] at z
      exact nomatch z
    · rw [bad_law hb c]
      exact h j hj
theorem first_bad {ks : List Kk} {i : Nat} (h : ∀ j, j < i → badB ks j = false) (hi : i ≤ ks.length) : ∀ j, j < i → lawB ks j = false := by
  intro j hj
  have hb : ∀ m, m < j → badB ks m = false := fun m hm => h m (Nat.lt_trans hm hj)
  rcases Nat.lt_or_ge 12 j with c | c
  · have z := h 12 (by omega)
    rw [bad_late (by omega) (Nat.le_refl _)] at z
    exact nomatch z
  · rw [← bad_law hb c]
    exact h j hj
theorem find_eq {p q : Nat → Bool} {n : Nat} (h1 : ∀ i, i ≤ n → (∀ j, j < i → p j = false) → ∀ j, j < i → q j = false) (h2 : ∀ i, i ≤ n → (∀ j, j < i → q j = false) → ∀ j, j < i → p j = false) : (List.range n).find? p = (List.range n).find? q := by
  cases e : (List.range n).find? p with
  | none =>
    have hp : ∀ j, j < n → p j = false := fun j hj => by simpa using List.find?_eq_none.mp e j (List.mem_range.mpr hj)
    rw [find_range_none q (h1 n (Nat.le_refl _) hp)]
  | some i =>
    have hi : i < n := List.mem_range.mp (List.mem_of_find?_eq_some e)
    have hpi : p i = true := by simpa using List.find?_some e
    have hb : ∀ j, j < i → p j = false := fun j hj => by
      cases c : p j
      · rfl
      · obtain ⟨l1, l2, e1, e2⟩ := (List.find?_eq_some_iff_append.mp e).2
        have hjm : j ∈ List.range n := List.mem_range.mpr (by omega)
        rw [e1] at hjm
        rcases List.mem_append.mp hjm with m | m
        · have z := e2 j m; rw [c] at z; exact nomatch z
        · have srt : (l1 ++ i :: l2).Pairwise (· < ·) := by rw [← e1]; exact List.pairwise_lt_range
          rcases List.mem_cons.mp m with z | z
          · omega
          · have := (List.pairwise_append.mp srt).2.1
            have := List.rel_of_pairwise_cons this z
            omega
    have hq := h1 i (Nat.le_of_lt hi) hb
    have hqi : q i = true := by
      cases c : q i
      · have z := h2 (i + 1) hi (fun j hj => by
          rcases Nat.lt_or_ge j i with m | m
          · exact hq j m
          · rw [show j = i by omega]; exact c) i (Nat.lt_succ_self _)
        rw [hpi] at z
        exact nomatch z
      · rfl
    rw [find_range q hi hqi hq]
theorem wrong_law (ks : List Kk) : wrongAt ks = if ks.isEmpty = true then some 0 else (List.range ks.length).find? (lawB ks) := by
  unfold wrongAt
  split
  · rfl
  · exact find_eq (fun i hi h => first_bad h hi) (fun i hi h => first_law h hi)
/-! ### in order -/
theorem sorted_uniq {α : Type} {le : α → α → Prop} (as : ∀ x y, le x y → le y x → x = y) : ∀ {l m : List α}, l.Pairwise le → m.Pairwise le → l.Perm m → l = m
  | [], m, _, _, p => p.nil_eq
  | x :: l, [], _, _, p => absurd p.length_eq (by simp)
  | x :: l, y :: m, h1, h2, p => by
    have e : x = y := by
      have hx : x ∈ y :: m := p.mem_iff.mp List.mem_cons_self
      have hy : y ∈ x :: l := p.mem_iff.mpr List.mem_cons_self
      rcases List.mem_cons.mp hx with rfl | hx
      · rfl
      · rcases List.mem_cons.mp hy with rfl | hy
        · rfl
        · exact as _ _ (List.rel_of_pairwise_cons h1 hy) (List.rel_of_pairwise_cons h2 hx)
    subst e
    rw [sorted_uniq as (List.pairwise_cons.mp h1).2 (List.pairwise_cons.mp h2).2 (List.Perm.cons_inv p)]
def txLe (x y : Str) : Prop := txLt y x = false
theorem txLe_as (x y : Str) (h1 : txLe x y) (h2 : txLe y x) : x = y := tx_tot h2 h1
theorem txLe_tr {x y z : Str} (h1 : txLe x y) (h2 : txLe y z) : txLe x z := by
  unfold txLe at *
  cases e : txLt z x
  · rfl
  · cases c : txLt x y
    · rw [tx_tot c h1] at e; rw [e] at h2; exact nomatch h2
    · have := tx_tr e c
      rw [h2] at this
      exact nomatch this
theorem rising_pw : ∀ (p : Str) (l : List Str), risingS p l = true → (p :: l).Pairwise txLe
  | p, [], _ => List.pairwise_singleton _ _
  | p, x :: l, h => by
    have h : (!ltCps x.cps.toList p.cps.toList && risingS x l) = true := h
    rw [Bool.and_eq_true, Bool.not_eq_true'] at h
    have ih := rising_pw x l h.2
    have hx : txLe p x := by
      have e := h.1
      rw [ltCps_eq] at e
      exact e
    refine List.pairwise_cons.mpr ⟨fun y hy => ?_, ih⟩
    rcases List.mem_cons.mp hy with rfl | hy
    · exact hx
    · exact txLe_tr hx (List.rel_of_pairwise_cons ih hy)
theorem sortedS_pw : ∀ {l : List Str}, sortedS l = true → l.Pairwise txLe
  | [], _ => .nil
  | x :: l, h => rising_pw x l h
/-- different ones of a list in order are in order -/
theorem dset_sub {α : Type} [DecidableEq α] (l : List α) : (dset l).Sublist l := by
  induction l using snoc_ind with
  | h0 => exact .slnil
  | h1 l x ih =>
    rw [dset_snoc]
    unfold dstep
    split
    · exact ih.trans (List.sublist_append_left _ _)
    · exact ih.append (List.Sublist.refl _)
end Half

namespace Half
open PySem PySem.Spec PyProof.Rows L2
/-! ### InvalidStore -/
abbrev sIs : Stmt := inClass (top 9) 0
def spErrI (C : Addr) (fl : Str) : Sp := fun vs H Q _ => ∃ (a : Addr) (n : Nat), vs = [.ref a, .int n] ∧ H a = some (exo a C none) ∧ n ≤ 1000 ∧
  ∀ dx, H dx = none → dx ≠ a → Q .non (upd (upd H dx (exd dx [(fl, .int n)])) a (exo a C (some dx)))
theorem scIs : SupScope ["self", "index"] ["self", "index"] (defScope sIs) := ⟨rfl, rfl, rfl, by decide +kernel, rfl, by decide +kernel, by decide +kernel, by decide +kernel, rfl, rfl⟩
theorem small_text : ∀ n : Nat, n ≤ 1000 → (Str.ofString (toString (n : Int))).length ≤ 10 ∧ ((n : Int)).natAbs.log2 < 1920 := by
  have key : (List.range 1001).all (fun n => decide ((Str.ofString (toString (n : Int))).length ≤ 10) && decide (((n : Int)).natAbs.log2 < 1920)) = true := by decide +kernel
  intro n hn
  have z := List.all_eq_true.mp key n (List.mem_range.mpr (by omega))
  simpa using z
section
variable {P : Program} {w : World} {K : PySem.W.Frag} {mg : Str → Option Value} {base : Heap}
theorem ok_is {C f : Addr} {fd : FuncData} (F : ErrFn P K C "InvalidStore.__init__" sIs f fd) (T : SupC P K mg C) (nF : PySem.W.findIn K (.ref C) "index" = some none) : FnOk P w K mg base CX0 1 f fd ["self", "index"] (spErrI C "index") := by
  obtain ⟨oc, od, kV, doc, pm, an, cda, cc, ct, osl, ccl, cdd, vsc, ccs, file, tf, cl, cld, csl, rfl, lk, hcd, hcode, hvs, hfile, hcell⟩ := F.ex
  refine fn_sup (N := ["self", "index"]) lk hcd scIs rfl rfl rfl hcode hvs hfile hcell T (fun vs H Q E h => ?_) (fun _ => rfl) (fun _ => rfl) (fun _ => rfl) (fun A outer s H vs Q E hr h => ?_)
  · obtain ⟨a, p, rfl, _⟩ := h
    rfl
  · obtain ⟨a, n, rfl, ha, hn, k⟩ := h
    refine ⟨a, _, _, rfl, ha, pa_cons (pe_joined (.cons pe_str (.cons (pe_fmt (pv 1)) .nil))) pa_nil, pss_one (ps_ost (pv 0) (pv 1)), ?_⟩
    obtain ⟨l1, l2⟩ := small_text n hn
    refine ⟨_, rfl, (by decide), _, rfl, .inr ⟨(n : Int), rfl, l2, _, rfl, ?_, ?_⟩⟩
    · rw [app_len, app_len, sizeLine_eq]
      have : ("no store can be made of these editions, because of index " : Str).length = 57 := by decide
      have e0 : (Str.empty).length = 0 := by decide
      have : (Str.ofString (toString (n : Int))).length ≤ 10 := l1
      omega
    · refine ⟨by show 1 ≤ 1000; decide, ha, ?_⟩
      refine ⟨_, rfl, _, rfl, a, C, rfl, T.oex, nF, .inl ⟨ha, fun dx h1 h2 => k dx h1 h2⟩⟩
end
theorem ne_of_none' {H : Hp} {a b : Addr} {o : HO} (h : H a = some o) (n : H b = none) : b ≠ a := fun z => by rw [z, h] at n; cases n
/-! ### wrong_index -/
abbrev sWi : Stmt := top 27
/-- an edition that has this name and this version -/
def EdK (C : Addr) (H : Hp) (a : Addr) (k : Kk) : Prop := ∃ dx p xs, H a = some (.ins C dx [("parts", .ref p)]) ∧ H p = some (.tup (.str k.1 :: .int k.2 :: xs))
theorem EdK.same {C : Addr} {H H' : Hp} {a : Addr} {k : Kk} (S : Same H H') (h : EdK C H a k) : EdK C H' a k := by
  obtain ⟨dx, p, xs, h1, h2⟩ := h
  exact ⟨dx, p, xs, S _ _ h1, S _ _ h2⟩
/-- editions one after another -/
abbrev Eds : Type := List (Addr × Kk)
def EdsAt (K : PySem.W.Frag) (C : Addr) (H : Hp) (t : Addr) (es : Eds) : Prop := SqT K H t (es.map fun e => .ref e.1) ∧ ∀ e ∈ es, EdK C H e.1 e.2
theorem EdsAt.same {K : PySem.W.Frag} {C : Addr} {H H' : Hp} {t : Addr} {es : Eds} (S : Same H H') (h : EdsAt K C H t es) : EdsAt K C H' t es := ⟨S.sqT h.1, fun e he => (h.2 e he).same S⟩
abbrev keysOf (es : Eds) : List Kk := es.map (·.2)
def kk (k : Kk) : List Key := [.inr k.1, .inl k.2]
theorem kk_inj {a b : Kk} (h : kk a = kk b) : a = b := by
  unfold kk at h
  injection h with h1 h2
  injection h2 with h2 _
  injection h1 with h1
  injection h2 with h2
  exact Prod.ext h1 h2
def optI : Option Nat → V
  | none => .non
  | some i => .int i
def spWi (K : PySem.W.Frag) (C : Addr) : Sp := fun vs H Q _ => ∃ (t : Addr) (es : Eds), vs = [.ref t] ∧ EdsAt K C H t es ∧ es.length ≤ 40 ∧ ∀ H', Same H H' → Q (optI (wrongAt (keysOf es))) H'
structure TxtW (P : Program) (w : World) (K : PySem.W.Frag) (mg : Str → Option Value) (base : Heap) (C : Addr) : Prop where
  set : mg "set" = none
  len : mg "len" = none
  enum : mg "enumerate" = none
  mE : ∃ t, mg "MOST_EDITIONS" = some (.int 12 t)
  mN : ∃ t, mg "MOST_NAMES" = some (.int 4 t)
  p0 : Prp P w K mg base C "name" 0
  p1 : Prp P w K mg base C "version" 1
  cl : Cls K C
theorem scWi : FnScope ["editions", "keys", "names", "at", "edition", "key"] ["editions"] (defScope sWi) := ⟨rfl, rfl, rfl, by decide +kernel, rfl, by decide +kernel, by decide +kernel⟩
section
variable {P : Program} {w : World} {K : PySem.W.Frag} {mg : Str → Option Value} {base : Heap} {C : Addr}
/-- what stands before the i-th turn -/
structure WiI (P : Program) (w : World) (K : PySem.W.Frag) (C t ka na : Addr) (es : Eds) (H0 : Hp) (i : Nat) (σ : L2.St) (H : Hp) : Prop where
  sl : ∃ x3 x4 x5, σ = [some (.ref t), some (.ref ka), some (.ref na), x3, x4, x5]
  sm : Same H0 H
  n1 : H0 ka = none
  n2 : H0 na = none
  ts : ∃ L, H ka = some (TsO P w ka L) ∧ TupsIn H L ∧ L.length = i ∧ ∀ k, kk k ∈ L.map (·.2) ↔ k ∈ (keysOf es).take i
  nm : ∃ S n, H na = some (SetK P w na S n) ∧ (∀ x, S (.inr x) = has (((keysOf es).take i).map (·.1)) x) ∧ n = nd (((keysOf es).take i).map (·.1))
  ok : ∀ j, j < i → badB (keysOf es) j = false
theorem prp_read {H : Hp} {a : Addr} {k : Kk} {Q : VK} (h : EdK C H a k) (q : Q (.str k.1) H) : ∃ p dx fs, V.ref a = .ref p ∧ H p = some (.ins C dx fs) ∧ spGet C 0 [.ref p] H Q E0 := by
  obtain ⟨dx, p, xs, h1, h2⟩ := h
  exact ⟨a, dx, _, rfl, h1, a, dx, p, _, _, rfl, h1, h2, rfl, q⟩
theorem ok_wi {f : Addr} {fd : FuncData} (F : Fun K "wrong_index" "wrong_index" sWi f fd) (T : TxtW P w K mg base C) : FnOk P w K mg base CX0 3 f fd ["editions"] (spWi K C) := by
  refine F.ok scWi (fun vs H Q E h => ?_) (fun cdv A outer s H vs Q E hr h => ?_)
  · obtain ⟨t, es, rfl, _⟩ := h
    rfl
  · obtain ⟨t, es, rfl, hE, hz, k⟩ := h
    have nd' := scWi.nd
    have hu := hu_of hr
    have r2 : Room 2 _ := hr.mono (by decide)
    obtain ⟨tE, mE⟩ := T.mE
    obtain ⟨tN, mN⟩ := T.mN
    refine ⟨_, pss_cons (ps_if (pt_not (pt_truth (pv 0) (by intro _; rfl))) (pss_one (ps_ret pe_int)) pss_nil)
      (pss_cons (ps_set (i := 1) nd' rfl (Or.inl rfl) (pe_callTy0 cr_set0T (by rfl) T.set (by decide +kernel)))
      (pss_cons (ps_set (i := 2) nd' rfl (Or.inl rfl) (pe_callTy0 cr_set0K (by rfl) T.set (by decide +kernel)))
      (pss_cons (ps_for PassesOwn.never rfl (pi_enumT (by rfl) T.enum (pa_cons (pv 0) pa_nil)) (pg_tup rfl (pgs_cons (pg_name (i := 3) nd' rfl (Or.inl rfl)) (pgs_cons (pg_name (i := 4) nd' rfl (Or.inl rfl)) pgs_nil)))
        (pss_cons (ps_set (i := 5) nd' rfl (Or.inl rfl) (pe_tup (pa_cons (pe_prp T.p0 T.cl r2 (pv 4)) (pa_cons (pe_prp T.p1 T.cl r2 (pv 4)) pa_nil))))
        (pss_cons (ps_expr (pe_saddK (pv 2) (pa_cons (pe_prp T.p0 T.cl r2 (pv 4)) pa_nil)))
        (pss_cons (ps_if (PW.pt (pw_or (pt_cmpR (or_sinT hu) (pv 5) (pv 1) (by rfl)) (pw_or (pt_cmpR op_gt (pe_callB call_lenSK (by rfl) T.len PySem.boot_len (pa_cons (pv 2) pa_nil)) (pe_glob (v := .int 4) rfl mN ⟨_, rfl⟩) (nomark _)) (pw_or1 (pt_cmpR op_ge (pv 3) (pe_glob (v := .int 12) rfl mE ⟨_, rfl⟩) (nomark _)))))) (pss_one (ps_ret (pv 3))) pss_nil)
        (pss_one (ps_expr (pe_saddT hu (pv 1) (pa_cons (pv 5) pa_nil))))))))
      (pss_one (ps_ret pe_non))))), ?_⟩
    refine ⟨_, rfl, !es.isEmpty, .inr (.inl ⟨_, hE.1, by simp⟩), ?_⟩
    by_cases he : es.isEmpty = true
    · refine ite_yes (by rw [he]; rfl) ?_
      have e : wrongAt (keysOf es) = some 0 := by
        unfold wrongAt
        rw [if_pos (by simpa using he)]
      have z := k H (Same.refl H)
      rw [e] at z
      exact z
    refine ite_no (by simp at he ⊢; exact he) ?_
    have wrong : wrongAt (keysOf es) = (List.range (keysOf es).length).find? (badB (keysOf es)) := by
      unfold wrongAt
      rw [if_neg (by simpa using he)]
    refine ⟨rfl, fun ka n1 => ⟨rfl, fun na n2 => ?_⟩⟩
    have nka : na ≠ ka := fun z => by rw [z, upd_same] at n2; cases n2
    have n2' : H na = none := by rwa [upd_ne nka] at n2
    refine ⟨_, rfl, t, _, rfl, (hE.same ((Same.upd_new n1).trans (Same.upd_new n2))).1, ?_⟩
    refine for_it (walk_enumT (K := K) (a := t) (xs := es.map fun e => .ref e.1)) (WiI P w K C t ka na es H) ?_ ?_ ?_ ?_
    · exact ⟨⟨_, _, _, rfl⟩, (Same.upd_new n1).trans (Same.upd_new n2), n1, n2', ⟨[], by rw [upd_ne (Ne.symm nka), upd_same]; rfl, (fun p hp => nomatch hp), rfl, fun k => by simp⟩, ⟨_, _, upd_same, fun x => rfl, rfl⟩, fun j hj => absurd hj (Nat.not_lt_zero _)⟩
    · exact fun i σ H' _ I => (hE.same I.sm).1
    · intro i x σ H1 H2 hi I y
      obtain ⟨T', a, b, rfl, nT, rfl, ha, hb⟩ := y
      cases ha
      obtain ⟨e, he, rfl⟩ : ∃ e, es[i]? = some e ∧ b = .ref e.1 := by
        have hb : (es.map fun e => V.ref e.1)[i]? = some b := hb
        rw [List.getElem?_map] at hb
        obtain ⟨e, h1, h2⟩ := Option.map_eq_some_iff.mp hb
        exact ⟨e, h1, h2.symm⟩
      obtain ⟨⟨x3, x4, x5, rfl⟩, sm, _, _, ⟨L, hka, hL, hLl, hLm⟩, ⟨S, n, hna, hS, hn⟩, hok⟩ := I
      have hi' : i < es.length := (List.getElem?_eq_some_iff.mp he).1
      have hke : (keysOf es)[i]? = some e.2 := by rw [List.getElem?_map, he] <;> rfl
      refine ⟨T', _, rfl, .inl (.inl upd_same), rfl, _, _, rfl, _, _, rfl, rfl, ?_⟩
      have s1 : Same H1 (upd H1 T' (.tup [.int (i : Nat), .ref e.1])) := Same.upd_new nT
      obtain ⟨dx, p, xs, h1, h2⟩ := ((hE.2 e (List.mem_of_getElem? he)).same sm).same s1
      refine ⟨_, rfl, e.1, dx, _, rfl, h1, e.1, dx, p, _, _, rfl, h1, h2, rfl, _, rfl, e.1, dx, _, rfl, h1, e.1, dx, p, _, _, rfl, h1, h2, rfl, two_le, fun tk ntk => ?_⟩
      have s2 := s1.trans (Same.upd_new (o := .tup [.str e.2.1, .int e.2.2]) ntk)
      have h1' := (Same.upd_new (o := .tup [.str e.2.1, .int e.2.2]) ntk) _ _ h1
      have h2' := (Same.upd_new (o := .tup [.str e.2.1, .int e.2.2]) ntk) _ _ h2
      have hnl : n ≤ 40 := by
        rw [hn]
        refine Nat.le_trans (nd_le _) ?_
        rw [List.length_map, List.length_take]
        omega
      refine ⟨_, rfl, ⟨na, S, n, rfl, s2 _ _ hna⟩, _, rfl, e.1, dx, _, rfl, h1', e.1, dx, p, _, _, rfl, h1', h2', rfl, na, .inr e.2.1, S, n, rfl, rfl, s2 _ _ hna, (by show n + 1 < 4096; omega), ?_⟩
      have ntka : tk ≠ ka := ne_of_none' (s1 _ _ hka) ntk
      have ntna : tk ≠ na := ne_of_none' (s1 _ _ hna) ntk
      have kna : ka ≠ na := Ne.symm nka
      have nmE : ((keysOf es).take (i + 1)).map (·.1) = ((keysOf es).take i).map (·.1) ++ [e.2.1] := by rw [take_snoc hke, List.map_append] <;> rfl
      have cnt : (if S (.inr e.2.1) = true then n else n + 1) = nd (((keysOf es).take (i + 1)).map (·.1)) := by rw [nmE, nd_snoc, hS, hn]
      generalize (if S (.inr e.2.1) = true then n else n + 1) = n' at cnt ⊢
      generalize hS' : (fun j => S j || decide (j = Sum.inr e.2.1)) = S'
      have hS2 : ∀ x, S' (.inr x) = has (((keysOf es).take (i + 1)).map (·.1)) x := fun x => by
        rw [← hS', nmE]
        show (S (.inr x) || decide ((Sum.inr x : Key) = Sum.inr e.2.1)) = _
        rw [hS]
        unfold has
        rw [List.any_append]
        congr 1
        simp only [List.any_cons, List.any_nil, Bool.or_false]
        rw [decide_eq_decide]
        exact ⟨fun z => by injection z with z; exact z.symm, fun z => by rw [z]⟩
      have big : Same H (upd (upd (upd H1 T' (.tup [.int (i : Nat), .ref e.1])) tk (.tup [.str e.2.1, .int e.2.2])) na (SetK P w na S' n')) := fun b o q => by
        rw [upd_ne (ne_of_none q n2')]
        exact s2 _ _ (sm _ _ q)
      have tups : TupsIn (upd (upd (upd H1 T' (.tup [.int (i : Nat), .ref e.1])) tk (.tup [.str e.2.1, .int e.2.2])) na (SetK P w na S' n')) L := fun q hq => by
        rw [upd_ne (ne_of (s2 _ _ (hL q hq)) (s2 _ _ hna) (by intro z; cases z))]
        exact s2 _ _ (hL q hq)
      have gka : (upd (upd (upd H1 T' (.tup [.int (i : Nat), .ref e.1])) tk (.tup [.str e.2.1, .int e.2.2])) na (SetK P w na S' n')) ka = some (TsO P w ka L) := by
        rw [upd_ne kna]
        exact s2 _ _ hka
      have gtk : (upd (upd (upd H1 T' (.tup [.int (i : Nat), .ref e.1])) tk (.tup [.str e.2.1, .int e.2.2])) na (SetK P w na S' n')) tk = some (.tup ((kk e.2).map kV)) := by
        rw [upd_ne ntna, upd_same]
        rfl
      have gna : (upd (upd (upd H1 T' (.tup [.int (i : Nat), .ref e.1])) tk (.tup [.str e.2.1, .int e.2.2])) na (SetK P w na S' n')) na = some (SetK P w na S' n') := upd_same
      have hk : hasK L (kk e.2) = has ((keysOf es).take i) e.2 := by
        cases q : has ((keysOf es).take i) e.2
        · exact hasK_no fun z => not_has q ((hLm e.2).mp z)
        · exact hasK_iff.mpr ((hLm e.2).mpr (has_iff.mp q))
      have bad : badB (keysOf es) i = (hasK L (kk e.2) || (decide (4 < n') || decide (12 ≤ i))) := by
        unfold badB
        rw [hke, hk, cnt]
      have out : badB (keysOf es) i = true → Q (.int (i : Nat)) (upd (upd (upd H1 T' (.tup [.int (i : Nat), .ref e.1])) tk (.tup [.str e.2.1, .int e.2.2])) na (SetK P w na S' n')) := fun hb => by
        have e0 : wrongAt (keysOf es) = some i := by
          rw [wrong]
          exact find_range _ (by simpa using hi') hb hok
        have z := k _ big
        rw [e0] at z
        exact z
      refine ⟨_, rfl, _, rfl, ka, tk, kk e.2, L, rfl, rfl, gtk, gka, tups, _, rfl, ?_⟩
      cases c1 : hasK L (kk e.2)
      case true => exact iteT (⟨_, rfl, out (by rw [bad, c1]; rfl)⟩)
      refine iteF ?_
      refine ⟨_, rfl, na, S', n', rfl, gna, _, _, rfl, rfl, _, rfl, ?_⟩
      cases c2 : decide (4 < n')
      case true => exact ite_yes (by rw [decide_eq_true_eq] at c2 ⊢; omega) ⟨_, rfl, out (by rw [bad, c1, c2]; rfl)⟩
      refine ite_no (by rw [decide_eq_false_iff_not] at c2 ⊢; omega) ?_
      refine ⟨_, rfl, _, _, rfl, rfl, _, rfl, ?_⟩
      cases c3 : decide (12 ≤ i)
      case true => exact ite_yes (by rw [decide_eq_true_eq] at c3 ⊢; omega) ⟨_, rfl, out (by rw [bad, c1, c2, c3]; rfl)⟩
      refine ite_no (by rw [decide_eq_false_iff_not] at c3 ⊢; omega) ?_
      refine ⟨_, rfl, ⟨ka, L, rfl, gka⟩, _, rfl, ka, tk, kk e.2, L, rfl, rfl, gtk, gka, tups, by omega, fun z => ?_, fun _ L' pm => ?_⟩
      · rw [hasK_iff.mpr z] at c1
        exact nomatch c1
      · refine ⟨⟨_, _, _, rfl⟩, fun b o q => ?_, n1, n2', ⟨L', upd_same, fun q hq => ?_, ?_, fun k2 => ?_⟩, ⟨S', n', ?_, hS2, cnt⟩, fun j hj => ?_⟩
        · rw [upd_ne (ne_of_none q n1)]
          exact big _ _ q
        · have old : ∀ y : Addr × List Key, (upd (upd (upd H1 T' (.tup [.int (i : Nat), .ref e.1])) tk (.tup [.str e.2.1, .int e.2.2])) na (SetK P w na S' n')) y.1 = some (.tup (y.2.map kV)) → (upd (upd (upd (upd H1 T' (.tup [.int (i : Nat), .ref e.1])) tk (.tup [.str e.2.1, .int e.2.2])) na (SetK P w na S' n')) ka (TsO P w ka L')) y.1 = some (.tup (y.2.map kV)) := fun y hy => by
            rw [upd_ne (ne_of hy gka (by intro z; cases z))]
            exact hy
          rcases List.mem_cons.mp (pm.mem_iff.mp hq) with rfl | hq
          · exact old _ gtk
          · exact old _ (tups q hq)
        · rw [pm.length_eq, List.length_cons, hLl]
        · rw [(pm.map (·.2)).mem_iff, List.map_cons, List.mem_cons, hLm k2, take_snoc hke, List.mem_append, List.mem_singleton]
          exact ⟨fun z => z.elim (fun z => .inr (kk_inj z)) .inl, fun z => z.elim .inr fun z => .inl (by rw [z])⟩
        · rw [upd_ne nka]
          exact gna
        · rcases Nat.lt_or_ge j i with m | m
          · exact hok j m
          · rw [show j = i by omega, bad, c1, c2, c3]
            rfl
    · intro σ H' I
      have e : wrongAt (keysOf es) = none := by
        rw [wrong]
        exact find_range_none _ fun j hj => I.ok j (by simpa using hj)
      have z := k H' I.sm
      rw [e] at z
      exact z
end
end Half

namespace Half
open PySem PySem.Spec PyProof.Rows L2
abbrev sVn : Stmt := top 28
theorem put_keys {κ : Type} [DecidableEq κ] (kvs : List (κ × V)) (k : κ) (v : V) : (putK kvs k v).map (·.1) = dstep (kvs.map (·.1)) k := by
  unfold putK dstep
  have e : (kvs.any fun kv => decide (kv.1 = k)) = has (kvs.map (·.1)) k := by
    unfold has
    rw [List.any_map]
    rfl
  rw [e]
  split
  · rw [List.map_map]
    refine List.map_congr_left fun p hp => ?_
    show (if p.1 = k then (p.1, v) else p).1 = p.1
    split <;> rfl
  · rw [List.map_append]
    rfl
/-- which numbers a name has -/
def numsOf (ys : List Kk) (nm : Str) : List V := (ys.filter fun y => decide (y.1 = nm)).map fun y => .int y.2
/-- the dict at d tells ys name by name -/
def Nums0 (H : Hp) (d : Addr) (ys : List Kk) : Prop := ∃ kvs, H d = some (.dK kvs) ∧ kvs.map (·.1) = (dset (ys.map (·.1))).map Sum.inr ∧ ∀ nm ∈ ys.map (·.1), ∃ t, valV kvs (.inr nm) = some (.ref t) ∧ H t = some (.tup (numsOf ys nm))
def Asc (ys : List Kk) : Prop := ys.Pairwise fun x y => pLt y x = false
def NumsAt (H : Hp) (d : Addr) (ks : List Kk) : Prop := ∃ ys, ys.Perm ks ∧ Asc ys ∧ Nums0 H d ys
theorem Nums0.same {H H' : Hp} {d : Addr} {ys : List Kk} (S : Same H H') (h : Nums0 H d ys) : Nums0 H' d ys := by
  obtain ⟨kvs, h1, h2, h3⟩ := h
  exact ⟨kvs, S _ _ h1, h2, fun nm hm => let ⟨t, a, b⟩ := h3 nm hm; ⟨t, a, S _ _ b⟩⟩
theorem NumsAt.same {H H' : Hp} {d : Addr} {ks : List Kk} (S : Same H H') (h : NumsAt H d ks) : NumsAt H' d ks := by
  obtain ⟨ys, a, b, c⟩ := h
  exact ⟨ys, a, b, c.same S⟩
/-- the key that the tuple x holds -/
def keyAt (H : Hp) : V → Kk
  | .ref t => match H t with
    | some (.tup [.str a, .int b]) => (a, b)
    | _ => ("", 0)
  | _ => ("", 0)
theorem keyAt_of {H : Hp} {t : Addr} {k : Kk} (h : H t = some (.tup [.str k.1, .int k.2])) : keyAt H (.ref t) = k := by
  show (match H t with
    | some (.tup [.str a, .int b]) => (a, b)
    | _ => (("", 0) : Kk)) = k
  rw [h]
def KeysIn (H : Hp) (bs : List (Addr × Kk)) : Prop := ∀ b ∈ bs, H b.1 = some (.tup [.str b.2.1, .int b.2.2])
def spVn (K : PySem.W.Frag) : Sp := fun vs H Q _ => ∃ (l : Addr) (bs : List (Addr × Kk)), vs = [.ref l] ∧ SqL K H l (bs.map fun b => .ref b.1) ∧ KeysIn H bs ∧ bs.length ≤ 40 ∧ ∀ d H', Same H H' → H d = none → NumsAt H' d (bs.map (·.2)) → Q (.ref d) H'
theorem scVn : FnScope ["keys", "versions", "name", "version"] ["keys"] (defScope sVn) := ⟨rfl, rfl, rfl, by decide +kernel, rfl, by decide +kernel, by decide +kernel⟩
theorem nums_snoc {ys : List Kk} {y : Kk} {nm : Str} : numsOf (ys ++ [y]) nm = if y.1 = nm then numsOf ys nm ++ [.int y.2] else numsOf ys nm := by
  unfold numsOf
  rw [List.filter_append, List.map_append]
  by_cases e : y.1 = nm
  · rw [if_pos e, List.filter_cons_of_pos (by simpa using e)]
    rfl
  · rw [if_neg e, List.filter_cons_of_neg (by simpa using e)]
    simp
theorem nums_none {ys : List Kk} {nm : Str} (h : nm ∉ ys.map (·.1)) : numsOf ys nm = [] := by
  unfold numsOf
  rw [List.map_eq_nil_iff, List.filter_eq_nil_iff]
  intro y hy z
  exact h (List.mem_map.mpr ⟨y, hy, of_decide_eq_true z⟩)
section
variable {P : Program} {w : World} {K : PySem.W.Frag} {mg : Str → Option Value} {base : Heap}
theorem ok_vn {f : Addr} {fd : FuncData} (F : Fun K "versions_by_name" "versions_by_name" sVn f fd) (hS : mg "sorted" = none) : FnOk P w K mg base CX0 1 f fd ["keys"] (spVn K) := by
  refine F.ok scVn (fun vs H Q E h => ?_) (fun cdv A outer s H vs Q E hr h => ?_)
  · obtain ⟨l, bs, rfl, _⟩ := h
    rfl
  · obtain ⟨l, bs, rfl, hl, hb, hz, k⟩ := h
    have nd' := scVn.nd
    have hu := hu_of hr
    refine ⟨_, pss_cons (ps_set (i := 1) nd' rfl (Or.inl rfl) pe_dnewK)
      (pss_cons (ps_for PassesOwn.never rfl (pi_list (pe_callB cr_sortTI (by rfl) hS (by decide +kernel) (pa_cons (pv 0) pa_nil))) (pg_tup rfl (pgs_cons (pg_name (i := 2) nd' rfl (Or.inl rfl)) (pgs_cons (pg_name (i := 3) nd' rfl (Or.inl rfl)) pgs_nil)))
        (pss_one (ps_dput hu (pv 1) (pv 2) (pe_tup (StX.pa_star (pe_dget2 hu (pv 1) (pv 2) (pe_tup pa_nil) ⟨rfl, rfl, rfl, rfl⟩) (pa_cons (pv 3) pa_nil))) rfl)))
      (pss_one (ps_ret (pv 1)))), ?_⟩
    refine fun d nd1 => ?_
    have s1 : Same H (upd H d (.dK [])) := Same.upd_new nd1
    refine ⟨_, rfl, l, _, keyAt (upd H d (.dK [])), rfl, s1.seq hl, fun x hx => ?_, fun ys p hs hp np => ?_⟩
    · obtain ⟨b, hb', rfl⟩ := List.mem_map.mp hx
      have g := s1 _ _ (hb b hb')
      refine ⟨b.1, rfl, ?_⟩
      rw [keyAt_of g]
      exact g
    · have zs : (ys.map (keyAt (upd H d (.dK [])))).Perm (bs.map (·.2)) := by
        have e := hp.map (keyAt (upd H d (.dK [])))
        rw [List.map_map] at e
        rw [show bs.map (·.2) = bs.map (keyAt (upd H d (.dK [])) ∘ fun b => V.ref b.1) from List.map_congr_left fun b hb' => (keyAt_of (s1 _ _ (hb b hb'))).symm]
        exact e
      have asc : Asc (ys.map (keyAt (upd H d (.dK [])))) := List.pairwise_map.mpr hs
      have tups : ∀ y ∈ ys, ∃ t, y = .ref t ∧ (upd H d (.dK [])) t = some (.tup [.str (keyAt (upd H d (.dK [])) y).1, .int (keyAt (upd H d (.dK [])) y).2]) := fun y hy => by
        obtain ⟨b, hb', rfl⟩ := List.mem_map.mp (hp.mem_iff.mp hy)
        have g := s1 _ _ (hb b hb')
        refine ⟨b.1, rfl, ?_⟩
        rw [keyAt_of g]
        exact g
      have yl : ys.length ≤ 40 := by rw [hp.length_eq, List.length_map]; exact hz
      have hdp : d ≠ p := fun z => by rw [← z, upd_same] at np; cases np
      generalize keyAt (upd H d (.dK [])) = key at zs asc tups
      refine ⟨p, rfl, ⟨_, SqL.of upd_same⟩, ?_⟩
      refine for_it (walk_list (K := K) (a := p) (xs := ys)) (fun i σ H' => (∃ x2 x3, σ = [some (.ref l), some (.ref d), x2, x3]) ∧ Same H H' ∧ H' p = some (.lst ys) ∧ (∀ y ∈ ys, ∃ t, y = .ref t ∧ H' t = some (.tup [.str (key y).1, .int (key y).2])) ∧ Nums0 H' d ((ys.take i).map key)) ?_ ?_ ?_ ?_
      · refine ⟨⟨_, _, rfl⟩, s1.trans (Same.upd_new np), upd_same, fun y hy => ?_, ⟨[], by rw [upd_ne hdp, upd_same], rfl, fun nm hm => by simp at hm⟩⟩
        obtain ⟨t, e, g⟩ := tups y hy
        exact ⟨t, e, (Same.upd_new np) _ _ g⟩
      · exact fun i σ H' _ I => SqL.of I.2.2.1
      · rintro i x σ H1 H2 hi ⟨⟨x2, x3, rfl⟩, sm, gp, gt, ⟨kvs, gd, gk, gv⟩⟩ ⟨rfl, hx⟩
        obtain ⟨t, rfl, ht⟩ := gt x (List.mem_of_getElem? hx)
        have tk : (ys.take (i + 1)).map key = (ys.take i).map key ++ [key (.ref t)] := by rw [take_snoc hx, List.map_append] <;> rfl
        have il : i ≤ 40 := by omega
        have kl : kvs.length ≤ 40 := by
          have e := congrArg List.length gk
          rw [List.length_map, List.length_map] at e
          have := nd_le (((ys.take i).map key).map (·.1))
          unfold nd at this
          rw [List.length_map, List.length_map, List.length_take] at this
          omega
        refine ⟨t, _, rfl, .inl (.inl ht), rfl, _, _, rfl, _, _, rfl, rfl, ?_⟩
        generalize key (.ref t) = y at ht tk
        refine ⟨_, rfl, d, rfl, .inl ⟨kvs, .inl gd⟩, _, rfl, Nat.zero_le _, fun te nte => ?_⟩
        have se : Same H2 (upd H2 te (.tup [])) := Same.upd_new nte
        have wh : ∃ u, ((valV kvs (.inr y.1)).getD (.ref te)) = .ref u ∧ (upd H2 te (.tup [])) u = some (.tup (numsOf ((ys.take i).map key) y.1)) := by
          by_cases hm : y.1 ∈ ((ys.take i).map key).map (·.1)
          · obtain ⟨u, a, b⟩ := gv y.1 hm
            exact ⟨u, by rw [a]; rfl, se _ _ b⟩
          · have e : valV kvs (.inr y.1) = none := by
              cases c : valV kvs (.inr y.1) with
              | none => rfl
              | some v =>
                have z := valV_in c
                rw [gk] at z
                obtain ⟨q, hq, eq⟩ := List.mem_map.mp z
                injection eq with eq
                subst eq
                exact absurd ((mem_dset _ _).mp hq) hm
            exact ⟨te, by rw [e]; rfl, by rw [nums_none hm, upd_same]⟩
        obtain ⟨u, eu, hu'⟩ := wh
        refine ⟨_, DGet.k (k := .inr y.1) (se _ _ gd), ?_⟩
        refine ⟨u, _, eu, .inl (.inl (.inl hu')), _, rfl, ?_, fun tt ntt => ?_⟩
        · rw [List.length_append]
          have : (numsOf ((ys.take i).map key) y.1).length ≤ 40 := by
            unfold numsOf
            rw [List.length_map]
            refine Nat.le_trans (List.length_filter_le _ _) ?_
            rw [List.length_map, List.length_take]
            omega
          show _ + 1 ≤ sizeLine
          rw [sizeLine_eq]
          omega
        have st := Same.upd_new (o := .tup (numsOf ((ys.take i).map key) y.1 ++ [.int y.2])) ntt
        have gd2 := st _ _ (se _ _ gd)
        refine ⟨_, rfl, _, rfl, d, _, rfl, DPut.k (k := .inr y.1) gd2 (by rw [sizeLine_eq]; omega), ?_⟩
        have ne : ∀ {b o}, (∀ kvs, o ≠ .dK kvs) → H2 b = some o → (upd (upd (upd H2 te (.tup [])) tt (.tup (numsOf ((ys.take i).map key) y.1 ++ [.int y.2]))) d (.dK (putK kvs (.inr y.1) (.ref tt)))) b = some o := fun {b o} hk q => by
          rw [upd_ne (ne_of (st _ _ (se _ _ q)) gd2 (hk _))]
          exact st _ _ (se _ _ q)
        refine ⟨⟨_, _, rfl⟩, fun b o q => ?_, ne (by intro z e; cases e) gp, fun y' hy' => ?_, ?_⟩
        · have nb : b ≠ d := ne_of_none q nd1
          rw [upd_ne nb]
          exact st _ _ (se _ _ (sm _ _ q))
        · obtain ⟨t', e', g'⟩ := gt y' hy'
          exact ⟨t', e', ne (by intro z e; cases e) g'⟩
        · refine ⟨_, upd_same, ?_, fun nm hm => ?_⟩
          · rw [put_keys, gk, tk, List.map_append, List.map_singleton, dset_snoc]
            unfold dstep
            have e : has ((dset (((ys.take i).map key).map (·.1))).map (Sum.inr : Str → Key)) (.inr y.1) = has (dset (((ys.take i).map key).map (·.1))) y.1 := by
              unfold has
              rw [List.any_map]
              congr 1
              funext z
              show decide ((Sum.inr z : Key) = .inr y.1) = decide (z = y.1)
              rw [decide_eq_decide]
              exact ⟨fun q => by injection q, fun q => by rw [q]⟩
            rw [e]
            split
            · rfl
            · rw [List.map_append]
              rfl
          · rw [tk, List.map_append, List.mem_append] at hm
            rw [valV_put, tk, nums_snoc]
            by_cases e : y.1 = nm
            · subst e
              refine ⟨tt, by rw [if_pos rfl], ?_⟩
              rw [if_pos rfl, upd_ne (fun z => by rw [z, se _ _ gd] at ntt; cases ntt), upd_same]
            · rw [if_neg e, if_neg (fun q => e (by injection q with q; exact q.symm))]
              obtain ⟨t', a, b⟩ := gv nm (hm.resolve_right fun z => e (List.mem_singleton.mp (show nm ∈ [y.1] from z)).symm)
              exact ⟨t', a, ne (by intro z e; cases e) b⟩
      · rintro σ H' ⟨⟨x2, x3, rfl⟩, sm, gp, gt, gn⟩
        rw [List.take_length] at gn
        exact ⟨_, rfl, k d H' sm nd1 ⟨_, zs, asc, gn⟩⟩
end
end Half

namespace Half
open PySem PySem.Spec PyProof.Rows L2
abbrev sSt (i : Nat) : Stmt := inClass (top 29) i
/-! ### what a store holds -/
def tabOf (es : Eds) : List (List Key × V) := es.map fun e => (kk e.2, .ref e.1)
structure StObj (CT : Addr) (H : Hp) (a : Addr) (es : Eds) : Prop where
  ob : ∃ dx tb nb, H a = some (.ins CT dx [("table", .ref tb), ("numbers", .ref nb)]) ∧ H tb = some (.dT (tabOf es)) ∧ NumsAt H nb (keysOf es)
  one : (keysOf es).Nodup
theorem StObj.same {CT : Addr} {H H' : Hp} {a : Addr} {es : Eds} (S : Same H H') (h : StObj CT H a es) : StObj CT H' a es := by
  obtain ⟨⟨dx, tb, nb, h1, h2, h3⟩, one⟩ := h
  exact ⟨⟨dx, tb, nb, S _ _ h1, S _ _ h2, h3.same S⟩, one⟩
theorem wrong_none {ks : List Kk} (h : wrongAt ks = none) : ks ≠ [] ∧ ∀ i, i < ks.length → badB ks i = false := by
  unfold wrongAt at h
  split at h
  · cases h
  · rename_i he
    exact ⟨fun z => he (by rw [z]; rfl), fun i hi => by simpa using List.find?_eq_none.mp h i (List.mem_range.mpr hi)⟩
theorem bad_has {ks : List Kk} {i : Nat} {k : Kk} (h : badB ks i = false) (hk : ks[i]? = some k) : k ∉ ks.take i := by
  unfold badB at h
  rw [hk] at h
  simp only [Bool.or_eq_false_iff] at h
  exact not_has h.1
theorem wrong_nodup {ks : List Kk} (h : wrongAt ks = none) : ks.Nodup := by
  have hb := (wrong_none h).2
  have key : ∀ i, i ≤ ks.length → (ks.take i).Nodup := by
    intro i
    induction i with
    | zero => intro _; exact .nil
    | succ i ih =>
      intro hi
      have e : ks[i]? = some ks[i] := List.getElem?_eq_getElem hi
      rw [take_snoc e]
      refine List.nodup_append.mpr ⟨ih (Nat.le_of_succ_le hi), List.nodup_cons.mpr ⟨by simp, .nil⟩, fun a ha b hb' z => ?_⟩
      rw [List.mem_singleton.mp hb'] at z
      rw [z] at ha
      exact bad_has (hb i hi) e ha
  have := key ks.length (Nat.le_refl _)
  rwa [List.take_length] at this
theorem tab_none {es : Eds} {k : Kk} (h : k ∉ keysOf es) : valV (tabOf es) (kk k) = none := by
  cases c : valV (tabOf es) (kk k) with
  | none => rfl
  | some v =>
    have z := valV_in c
    unfold tabOf at z
    rw [List.map_map] at z
    obtain ⟨e, he, ee⟩ := List.mem_map.mp z
    exact absurd (List.mem_map.mpr ⟨e, he, kk_inj ee⟩) h
theorem tab_some {es : Eds} (one : (keysOf es).Nodup) {e : Addr × Kk} (h : e ∈ es) : valV (tabOf es) (kk e.2) = some (.ref e.1) := by
  have nd : ((tabOf es).map (·.1)).Nodup := by
    unfold tabOf
    rw [List.map_map]
    have : (es.map ((fun x : List Key × V => x.1) ∘ fun e => (kk e.2, V.ref e.1))) = (keysOf es).map kk := by rw [List.map_map] <;> rfl
    rw [this]
    exact List.pairwise_map.mpr (one.imp fun hne e => hne (kk_inj e))
  exact val_nodup nd (kk e.2, .ref e.1) (List.mem_map.mpr ⟨e, h, rfl⟩)
def spSi (K : PySem.W.Frag) (C CT CI : Addr) : Sp := fun vs H Q E => ∃ (x t dx : Addr) (es : Eds), vs = [.ref x, .ref t] ∧ H x = some (.ins CT dx []) ∧ EdsAt K C H t es ∧ es.length ≤ 40 ∧
  (wrongAt (keysOf es) = none → ∀ H', SameBut x H H' → StObj CT H' x es → Q .non H') ∧ (∀ i, wrongAt (keysOf es) = some i → ∀ H' d, Same H H' → H' d = some (.xd [("index", .int i)]) → E (.ref CI) (some d) H')
structure TxtS (P : Program) (w : World) (K : PySem.W.Frag) (mg : Str → Option Value) (base : Heap) (C CT CI fI : Addr) (fdI : FuncData) : Prop where
  cl : Cls K CT
  nT : NoAttr K CT "table"
  nN : NoAttr K CT "numbers"
  lst : mg "list" = none
  mgE : mg "InvalidStore" = some (.ref CI)
  sup : SupC P K mg CI
  nF : PySem.W.findIn K (.ref CI) "index" = some none
  iC : PySem.W.findIn K (.ref CI) "__init__" = some (some (.ref fI))
  tI : PySem.W.typeIn K (.ref fI) = some (.type "function")
  er : ErrFn P K CI "InvalidStore.__init__" sIs fI fdI
  bI : Binds K fdI ["self", "index"] []
  p0 : Prp P w K mg base C "name" 0
  p1 : Prp P w K mg base C "version" 1
  ce : Cls K C
  dW : Def P w K mg base 3 "wrong_index" ["editions"] (spWi K C)
  dV : Def P w K mg base 1 "versions_by_name" ["keys"] (spVn K)
abbrev SiN : List Str := ["self", "editions", "index", "edition"]
theorem scSi : FnScope SiN ["self", "editions"] (defScope (sSt 0)) := ⟨rfl, rfl, rfl, by decide +kernel, rfl, by decide +kernel, by decide +kernel⟩
theorem wrong_bound {ks : List Kk} {i : Nat} (h : wrongAt ks = some i) : i ≤ ks.length := by
  unfold wrongAt at h
  split at h
  · cases h; exact Nat.zero_le _
  · exact Nat.le_of_lt (List.mem_range.mp (List.mem_of_find?_eq_some h))
section
variable {P : Program} {w : World} {K : PySem.W.Frag} {mg : Str → Option Value} {base : Heap} {C CT CI fI : Addr} {fdI : FuncData}
theorem ok_si {f : Addr} {fd : FuncData} (F : Fun K "__init__" "Store.__init__" (sSt 0) f fd) (T : TxtS P w K mg base C CT CI fI fdI) : FnOk P w K mg base (L2.CX P w) 4 f fd ["self", "editions"] (spSi K C CT CI) := by
  refine F.okX scSi (fun vs H Q E h => ?_) (fun cdv A outer s H vs Q E hr h => ?_)
  · obtain ⟨x, t, dx, es, rfl, _⟩ := h
    rfl
  · obtain ⟨x, t, dx, es, rfl, hx, hE, hz, kOk, kBad⟩ := h
    have nd' := scSi.nd
    have hu := hu_of hr
    have r2 : Room 2 _ := hr.mono (by decide)
    have FI : FnOk P w K mg base CX0 1 fI fdI ["self", "index"] (spErrI CI "index") := ok_is T.er T.sup T.nF
    refine ⟨_, pss_cons (ps_set (i := 2) nd' rfl (Or.inl rfl) (pe_def T.dW hr rfl (pa_cons (pv 1) pa_nil)))
      (pss_cons (ps_if (pt_cmp (pc_notN (pv 2))) (pss_one (ps_raise rfl (takes_of rfl rfl rfl rfl) (pmk_oex T.sup.oex T.iC T.tI FI (hr.mono (by decide)) T.bI .nil (fun _ _ _ _ _ _ _ h => h.elim) rfl T.mgE (pa_cons (pv 2) pa_nil)))) pss_nil)
      (pss_cons (ps_fld (pv 0) (pe_dcG (own := [("edition", 3)]) (g := gName 3) (tt := tYes) Bare.t hu rfl nd' (pi_tup (pv 1)) (blkOk_by (N := SiN) (sc := defScope (sSt 0)) (by decide +kernel)) (fun _ _ _ _ _ => pg_name (i := 3) nd' rfl (Or.inl rfl)) (fun _ _ _ _ _ => pts_nil)
          (fun _ _ _ _ _ => pe_tup (pa_cons (pe_prp T.p0 T.ce r2 (pv 3)) (pa_cons (pe_prp T.p1 T.ce r2 (pv 3)) pa_nil))) (fun _ _ _ _ _ => pv 3)) rfl)
      (pss_one (ps_fld (pv 0) (pe_def T.dV (hr.mono (by decide)) rfl (pa_cons (pe_callTy (call_list_dT rfl) (by rfl) T.lst (by decide +kernel) (pa_cons (pe_fld (pv 0) rfl) pa_nil)) pa_nil)) rfl)))), ?_⟩
    refine ⟨_, rfl, t, es, rfl, hE, hz, fun H1 s1 => ?_⟩
    cases hw : wrongAt (keysOf es) with
    | some i =>
      refine ⟨_, rfl, true, rfl, ?_⟩
      refine iteT ?_
      have hi : i ≤ 1000 := by
        have := wrong_bound hw
        rw [List.length_map] at this
        omega
      refine ⟨_, rfl, (by show 1 ≤ 1000; decide), fun a ha => ⟨a, i, rfl, upd_same, hi, fun d hd1 hd2 => ⟨rfl, d, [("index", .int i)], upd_same, ?_, ?_, ?_⟩⟩⟩
      · rw [upd_ne hd2, upd_same]
      · rw [upd_ne hd2] at hd1
        exact hd1
      · rw [upd_ne hd2] at hd1
        refine kBad i hw _ d (fun b o q => ?_) upd_same
        have q1 := s1 b o q
        have nb : b ≠ d := ne_of_none q1 hd1
        have na : b ≠ a := ne_of_none q1 ha
        rw [upd_ne nb, del_ne na, upd_ne na, upd_ne nb, upd_ne na]
        exact q1
    | none =>
      refine ⟨_, rfl, false, rfl, ?_⟩
      refine iteF ?_
      have one := wrong_nodup hw
      refine ⟨_, rfl, t, rfl, ⟨_, (hE.same s1).1⟩, fun D nD => ?_⟩
      refine dcG_it (walk_tup (K := K) (a := t) (xs := es.map fun e => .ref e.1)) (fun i H' => Same H1 H' ∧ H' D = some (.dT (tabOf (es.take i)))) ⟨Same.upd_new nD, upd_same⟩ (fun i H' _ I => ((hE.same s1).same I.1).1) ?_ ?_
      · rintro i v H2 H2' hi ⟨sm, gD⟩ ⟨rfl, hv⟩
        obtain ⟨e, he, rfl⟩ : ∃ e, es[i]? = some e ∧ v = .ref e.1 := by
          rw [List.getElem?_map] at hv
          obtain ⟨e, h1, h2⟩ := Option.map_eq_some_iff.mp hv
          exact ⟨e, h1, h2.symm⟩
        obtain ⟨dy, p, xs, h1, h2⟩ := ((hE.2 e (List.mem_of_getElem? he)).same s1).same sm
        refine ⟨rfl, ?_⟩
        refine ⟨_, rfl, e.1, dy, _, rfl, h1, e.1, dy, p, _, _, rfl, h1, h2, rfl, _, rfl, e.1, dy, _, rfl, h1, e.1, dy, p, _, _, rfl, h1, h2, rfl, two_le, fun tk ntk => ?_⟩
        have st := Same.upd_new (o := .tup [.str e.2.1, .int e.2.2]) ntk
        have hi' : i < es.length := (List.getElem?_eq_some_iff.mp he).1
        refine ⟨_, rfl, _, DPut.t (k := kk e.2) (st _ _ gD) upd_same (by unfold tabOf; rw [List.length_map, List.length_take, sizeLine_eq]; omega), ?_, ?_⟩
        · intro b o q
          rw [upd_ne (ne_of_none q nD)]
          exact st _ _ (sm _ _ q)
        · have new : valV (tabOf (es.take i)) (kk e.2) = none := by
            refine tab_none fun z => ?_
            have hke : (keysOf es)[i]? = some e.2 := by rw [List.getElem?_map, he] <;> rfl
            refine bad_has ((wrong_none hw).2 i (by rw [List.length_map]; exact hi')) hke ?_
            rw [← List.map_take]
            exact z
          rw [putK_new _ new, upd_same, take_snoc he]
          unfold tabOf
          rw [List.map_append]
          rfl
      · rintro H2 ⟨sm, gD⟩
        rw [List.length_map, List.take_length] at gD
        have hx2 := sm _ _ (s1 _ _ hx)
        refine ⟨_, rfl, x, CT, dx, [], rfl, hx2, T.cl, T.nT, (by show 0 < 1000; decide), ?_⟩
        have nxD : D ≠ x := ne_of gD hx2 (by intro z; cases z)
        have gx3 : (upd H2 x (.ins CT dx (putF "table" (.ref D) []))) x = some (.ins CT dx [("table", .ref D)]) := upd_same
        have gD3 : (upd H2 x (.ins CT dx (putF "table" (.ref D) []))) D = some (.dT (tabOf es)) := by rw [upd_ne nxD]; exact gD
        refine ⟨_, rfl, x, CT, dx, _, _, rfl, gx3, T.cl, T.nT, rfl, D, _, rfl, .inl gD3, fun pl bs npl hbs => ?_⟩
        have sl := Same.upd_new (o := .lst (bs.map V.ref)) npl
        have lb : (tabOf es).length = bs.length := Paired.length hbs
        have lb' : bs.length = (keysOf es).length := by
          rw [← lb]
          unfold tabOf
          rw [List.length_map, List.length_map]
        have zip1 : (bs.zip (keysOf es)).map (fun b => V.ref b.1) = bs.map V.ref := by
          rw [show (fun b : Addr × Kk => V.ref b.1) = V.ref ∘ Prod.fst from rfl, ← List.map_map, List.map_fst_zip (Nat.le_of_eq lb')]
        have zip2 : (bs.zip (keysOf es)).map (·.2) = keysOf es := List.map_snd_zip (Nat.le_of_eq lb'.symm)
        have hk : ∀ {es : Eds} {bs : List Addr} {H : Hp}, IsKeys H (tabOf es) bs → KeysIn H (bs.zip (keysOf es)) := by
          intro es
          induction es with
          | nil => intro bs H _ b hb; simp at hb
          | cons e es ih =>
            intro bs H h
            cases h with
            | cons h t =>
              intro b hb
              rcases List.mem_cons.mp hb with rfl | hb
              · exact h
              · exact ih t b hb
        refine ⟨pl, bs.zip (keysOf es), rfl, by rw [zip1]; exact SqL.of upd_same, fun b hb => sl _ _ (hk hbs b hb), by rw [List.length_zip, List.length_map]; omega, fun d H5 s5 nd5 nums => ?_⟩
        rw [zip2] at nums
        have gx5 := s5 _ _ (sl _ _ gx3)
        refine ⟨_, rfl, x, CT, dx, _, rfl, gx5, T.cl, T.nN, (by show 1 < 1000; decide), ?_⟩
        have keep : SameBut x H (upd H5 x (.ins CT dx (putF "numbers" (.ref d) [("table", .ref D)]))) := fun b o hb q => by
          rw [upd_ne hb]
          refine s5 _ _ (sl _ _ ?_)
          rw [upd_ne hb]
          exact sm _ _ (s1 _ _ q)
        have sx : ∀ b o, (∀ fs, o ≠ .ins CT dx fs) → H5 b = some o → (upd H5 x (.ins CT dx (putF "numbers" (.ref d) [("table", .ref D)]))) b = some o := fun b o ho q => by
          rw [upd_ne (ne_of q gx5 (ho _))]
          exact q
        refine kOk hw _ keep ⟨⟨dx, D, d, upd_same, sx _ _ (by intro fs z; cases z) (s5 _ _ (sl _ _ gD3)), ?_⟩, one⟩
        obtain ⟨ys, a1, a2, kvs, a3, a4, a5⟩ := nums
        refine ⟨ys, a1, a2, kvs, sx _ _ (by intro fs z; cases z) a3, a4, fun nm hm => ?_⟩
        obtain ⟨tt, b1, b2⟩ := a5 nm hm
        exact ⟨tt, b1, sx _ _ (by intro fs z; cases z) b2⟩
end
end Half

namespace Half
open PySem PySem.Spec PyProof.Rows L2
/-- an error class without an own __init__ -/
structure ErrC (K : PySem.W.Frag) (mg : Str → Option Value) (x : Str) (C : Addr) : Prop where
  g : mg x = some (.ref C)
  x : PySem.W.excIn K C [.type "ValueError", .type "Exception", .type "BaseException", .type "object"] "ValueError.__new__" = true
  k : PySem.W.keepIn K (.ref C) = true
  b : PySem.W.subIn K (.ref C) (.type "BaseException") = some true
  t : PySem.W.typeIn K (.ref C) = some (.type "type")
structure TxtT (K : PySem.W.Frag) (mg : Str → Option Value) (CT CN CU : Addr) : Prop where
  cl : Cls K CT
  nT : NoAttr K CT "table"
  nN : NoAttr K CT "numbers"
  tup : mg "tuple" = none
  len : mg "len" = none
  isi : mg "isinstance" = none
  boo : mg "bool" = none
  mgC : mg "Store" = some (.ref CT)
  en : ErrC K mg "UnknownName" CN
  eu : ErrC K mg "UnknownEdition" CU
  ha : PySem.W.findIn K (.ref CT) "__class__" = some (some (.builtin "object.__class__"))
  hn : PySem.W.specialIn K (.builtin "object.__class__") "__get__" = some (some (.builtin "getset_descriptor.__get__"))
  ht : PySem.W.takesIn K (.builtin "object.__class__") = some true
  hm : PySem.W.mroIn K CT (.type "object") = some true
  ki : PySem.W.kitOne K (.ref CT) (.ref CT) = some true
def spNames (CT : Addr) : Sp := fun vs H Q _ => ∃ (a : Addr) (es : Eds), vs = [.ref a] ∧ StObj CT H a es ∧ ∀ ys p, ys.Perm (keysOf es) → Asc ys → H p = none → Q (.ref p) (upd H p (.tup ((dset (ys.map (·.1))).map V.str)))
def spVers (CT CN : Addr) : Sp := fun vs H Q E => ∃ (a : Addr) (es : Eds) (nm : Str), vs = [.ref a, .str nm] ∧ StObj CT H a es ∧
  (nm ∈ (keysOf es).map (·.1) → ∀ ys t, ys.Perm (keysOf es) → Asc ys → H t = some (.tup (numsOf ys nm)) → Q (.ref t) H) ∧ (nm ∉ (keysOf es).map (·.1) → (reprText nm).length ≤ 1000 ∧ E (.ref CN) none H)
def spLen (CT : Addr) : Sp := fun vs H Q _ => ∃ (a : Addr) (es : Eds), vs = [.ref a] ∧ StObj CT H a es ∧ Q (.int (es.length : Nat)) H
def spHas (CT : Addr) : Sp := fun vs H Q _ => ∃ (a b : Addr) (es : Eds) (k : Kk), vs = [.ref a, .ref b] ∧ StObj CT H a es ∧ H b = some (.tup [.str k.1, .int k.2]) ∧ Q (.bl (has (keysOf es) k)) H
def spItem (CT CU : Addr) : Sp := fun vs H Q E => ∃ (a b : Addr) (es : Eds) (k : Kk), vs = [.ref a, .ref b] ∧ StObj CT H a es ∧ H b = some (.tup [.str k.1, .int k.2]) ∧ (∀ e ∈ es, e.2 = k → Q (.ref e.1) H) ∧ (k ∉ keysOf es → E (.ref CU) none H)
def spStEq (CT : Addr) : Sp := fun vs H Q _ => ∃ (a b : Addr) (es es' : Eds), vs = [.ref a, .ref b] ∧ StObj CT H a es ∧ StObj CT H b es' ∧ (es.length = es'.length → ∀ e ∈ es, e ∈ es') ∧ Q (.bl (decide (es.length = es'.length))) H
section
variable {P : Program} {w : World} {K : PySem.W.Frag} {mg : Str → Option Value} {base : Heap} {CT CN CU : Addr}
theorem scNames : FnScope ["self"] ["self"] (defScope (sSt 1)) := ⟨rfl, rfl, rfl, by decide +kernel, rfl, by decide +kernel, by decide +kernel⟩
theorem ok_names {f : Addr} {fd : FuncData} (F : Fun K "names" "Store.names" (sSt 1) f fd) (T : TxtT K mg CT CN CU) : FnOk P w K mg base CX0 1 f fd ["self"] (spNames CT) := by
  refine F.ok scNames (fun vs H Q E h => ?_) (fun cdv A outer s H vs Q E hr h => ?_)
  · obtain ⟨a, es, rfl, _⟩ := h
    rfl
  · obtain ⟨a, es, rfl, ⟨⟨dx, tb, nb, h1, h2, ys, p1, p2, kvs, h3, h4, h5⟩, one⟩, k⟩ := h
    refine ⟨_, pss_one (ps_ret (pe_callTy (call_tuple_dK rfl) (by rfl) T.tup (by decide +kernel) (pa_cons (pe_fld (pv 0) rfl) pa_nil))), ?_⟩
    refine ⟨_, rfl, a, CT, dx, _, _, rfl, h1, T.cl, T.nN, rfl, nb, kvs, rfl, h3, fun q nq => ?_⟩
    have e : kvs.map (fun kv => kV kv.1) = (dset (ys.map (·.1))).map V.str := by
      rw [show (fun kv : Key × V => kV kv.1) = kV ∘ Prod.fst from rfl, ← List.map_map, h4, List.map_map]
      rfl
    rw [e]
    exact k ys q p1 p2 nq
theorem scVers : FnScope ["self", "name"] ["self", "name"] (defScope (sSt 2)) := ⟨rfl, rfl, rfl, by decide +kernel, rfl, by decide +kernel, by decide +kernel⟩
theorem ok_vers {f : Addr} {fd : FuncData} (F : Fun K "versions" "Store.versions" (sSt 2) f fd) (T : TxtT K mg CT CN CU) : FnOk P w K mg base (L2.CX P w) 1 f fd ["self", "name"] (spVers CT CN) := by
  refine F.okX scVers (fun vs H Q E h => ?_) (fun cdv A outer s H vs Q E hr h => ?_)
  · obtain ⟨a, es, nm, rfl, _⟩ := h
    rfl
  · obtain ⟨a, es, nm, rfl, ⟨⟨dx, tb, nb, h1, h2, ys, p1, p2, kvs, h3, h4, h5⟩, one⟩, kY, kN⟩ := h
    have hu := hu_of hr
    refine ⟨_, pss_cons (ps_if (pt_cmp (pc_dnotin hu (pv 1) (pe_fld (pv 0) rfl))) (pss_one (ps_raise rfl (takes_of rfl rfl rfl rfl) (SkE.pmk_own1 PySem.F.excBase_ValueError T.en.x T.en.g T.en.k (raises_own T.en.b T.en.t) rfl (pe_joined (.cons pe_str (.cons (pe_fmtR (pv 1)) .nil)))))) pss_nil)
      (pss_one (ps_ret (pe_dget hu (pe_fld (pv 0) rfl) (pv 1) (fun _ _ => rfl)))), ?_⟩
    have mem : ∀ x, x ∈ ys.map (·.1) ↔ x ∈ (keysOf es).map (·.1) := fun x => (p1.map (·.1)).mem_iff
    refine ⟨_, rfl, _, rfl, a, CT, dx, _, _, rfl, h1, T.cl, T.nN, rfl, nb, _, rfl, DGet.k (k := .inr nm) h3, _, rfl, ?_⟩
    by_cases hm : nm ∈ (keysOf es).map (·.1)
    · obtain ⟨t, e1, e2⟩ := h5 nm ((mem nm).mpr hm)
      refine ite_no (by rw [e1]; rfl) ?_
      refine ⟨_, rfl, a, CT, dx, _, _, rfl, h1, T.cl, T.nN, rfl, _, rfl, nb, .ref t, rfl, ?_, kY hm ys t p1 p2 e2⟩
      rw [← e1]
      exact DGet.k (k := .inr nm) h3
    · have e : valV kvs (.inr nm) = none := by
        cases c : valV kvs (.inr nm) with
        | none => rfl
        | some v =>
          have z := valV_in c
          rw [h4] at z
          obtain ⟨q, hq, eq⟩ := List.mem_map.mp z
          injection eq with eq
          subst eq
          exact absurd ((mem q).mp ((mem_dset _ _).mp hq)) hm
      refine ite_yes (by rw [e]; rfl) ?_
      obtain ⟨lr, kE⟩ := kN hm
      refine ⟨_, rfl, (by decide), _, rfl, .inl ⟨nm, rfl, by rw [sizeLine_eq]; omega, _, rfl, ?_, kE⟩⟩
      rw [app_len, app_len, sizeLine_eq]
      have : ("the store has no package " : Str).length = 25 := by decide
      have e0 : (Str.empty).length = 0 := by decide
      omega
theorem scLen : FnScope ["self"] ["self"] (defScope (sSt 3)) := ⟨rfl, rfl, rfl, by decide +kernel, rfl, by decide +kernel, by decide +kernel⟩
theorem ok_len {f : Addr} {fd : FuncData} (F : Fun K "__len__" "Store.__len__" (sSt 3) f fd) (T : TxtT K mg CT CN CU) : FnOk P w K mg base CX0 1 f fd ["self"] (spLen CT) := by
  refine F.ok scLen (fun vs H Q E h => ?_) (fun cdv A outer s H vs Q E hr h => ?_)
  · obtain ⟨a, es, rfl, _⟩ := h
    rfl
  · obtain ⟨a, es, rfl, ⟨⟨dx, tb, nb, h1, h2, _⟩, one⟩, k⟩ := h
    refine ⟨_, pss_one (ps_ret (pe_callB call_len_dT (by rfl) T.len PySem.boot_len (pa_cons (pe_fld (pv 0) rfl) pa_nil))), ?_⟩
    refine ⟨_, rfl, a, CT, dx, _, _, rfl, h1, T.cl, T.nT, rfl, tb, _, rfl, h2, ?_⟩
    have e : (tabOf es).length = es.length := List.length_map _
    rw [e]
    exact k
theorem scHas : FnScope ["self", "x"] ["self", "x"] (defScope (sSt 4)) := ⟨rfl, rfl, rfl, by decide +kernel, rfl, by decide +kernel, by decide +kernel⟩
theorem tab_has {es : Eds} (one : (keysOf es).Nodup) (k : Kk) : (valV (tabOf es) (kk k)).isSome = has (keysOf es) k := by
  by_cases h : k ∈ keysOf es
  · obtain ⟨e, he, rfl⟩ := List.mem_map.mp h
    rw [tab_some one he, has_iff.mpr h]
    rfl
  · rw [tab_none h, has_no h]
    rfl
theorem ok_has {f : Addr} {fd : FuncData} (F : Fun K "__contains__" "Store.__contains__" (sSt 4) f fd) (T : TxtT K mg CT CN CU) : FnOk P w K mg base CX0 1 f fd ["self", "x"] (spHas CT) := by
  refine F.ok scHas (fun vs H Q E h => ?_) (fun cdv A outer s H vs Q E hr h => ?_)
  · obtain ⟨a, b, es, k, rfl, _⟩ := h
    rfl
  · obtain ⟨a, b, es, k, rfl, ⟨⟨dx, tb, nb, h1, h2, _⟩, one⟩, hb, q⟩ := h
    have hu := hu_of hr
    refine ⟨_, pss_one (ps_ret (pe_and (pe_cmp (pc_din hu (pv 1) (pe_fld (pv 0) rfl)) rfl) (pe_one (pe_not (pe_callB call_isi (by rfl) T.isi (by decide +kernel) (pa_cons (pe_ix ix_tup (pv 1) pe_int (fun _ _ => rfl)) (pa_cons (pe_bltn (v := .ty "bool") (by rfl) T.boo (by decide +kernel) rfl) pa_nil))))))), ?_⟩
    refine ⟨_, rfl, _, rfl, a, CT, dx, _, _, rfl, h1, T.cl, T.nT, rfl, tb, _, rfl, DGet.t (k := kk k) h2 hb, _, rfl, ?_⟩
    rw [tab_has one]
    cases c : has (keysOf es) k
    · rw [c] at q
      exact iteF q
    · refine iteT ?_
      rw [c] at q
      refine ⟨_, rfl, b, _, 1, _, rfl, rfl, .inl (.inl hb), rfl, _, _, _, _, _, rfl, .ty _, .base (.int _), kit_ty (r := false) (by decide +kernel), _, rfl, q⟩
theorem scItem : FnScope ["self", "at"] ["self", "at"] (defScope (sSt 5)) := ⟨rfl, rfl, rfl, by decide +kernel, rfl, by decide +kernel, by decide +kernel⟩
theorem ok_item {f : Addr} {fd : FuncData} (F : Fun K "__getitem__" "Store.__getitem__" (sSt 5) f fd) (T : TxtT K mg CT CN CU) {fh : Addr} {fdh : FuncData} (FH : FnOk P w K mg base CX0 1 fh fdh ["self", "x"] (spHas CT)) (hO : OwnSp K CT fh "__contains__") (bh : Binds K fdh ["self", "x"] []) :
    FnOk P w K mg base (L2.CX P w) 2 f fd ["self", "at"] (spItem CT CU) := by
  refine F.okX scItem (fun vs H Q E h => ?_) (fun cdv A outer s H vs Q E hr h => ?_)
  · obtain ⟨a, b, es, k, rfl, _⟩ := h
    rfl
  · obtain ⟨a, b, es, k, rfl, hS, hb, kY, kN⟩ := h
    have hu := hu_of hr
    refine ⟨_, pss_cons (ps_if (pt_cmpR (op_notinO FH hO bh hr pass0) (pv 1) (pv 0) (by rfl)) (pss_one (ps_raise rfl (takes_of rfl rfl rfl rfl) (pmk_own PySem.F.excBase_ValueError T.eu.x T.eu.g T.eu.k (raises_own T.eu.b T.eu.t) rfl))) pss_nil)
      (pss_one (ps_ret (pe_dget hu (pe_fld (pv 0) rfl) (pv 1) (fun _ _ => rfl)))), ?_⟩
    obtain ⟨⟨dx, tb, nb, h1, h2, _⟩, one⟩ := id hS
    refine ⟨_, rfl, _, rfl, a, dx, _, rfl, h1, a, b, es, k, rfl, hS, hb, _, rfl, _, rfl, ?_⟩
    by_cases hm : k ∈ keysOf es
    · rw [has_iff.mpr hm]
      refine ite_no rfl ?_
      obtain ⟨e, he, rfl⟩ := List.mem_map.mp hm
      refine ⟨_, rfl, a, CT, dx, _, _, rfl, h1, T.cl, T.nT, rfl, _, rfl, tb, .ref e.1, rfl, ?_, kY e he rfl⟩
      rw [← tab_some one he]
      exact DGet.t (k := kk e.2) h2 hb
    · rw [has_no hm]
      refine ite_yes rfl ?_
      exact kN hm
theorem scStEq : FnScope ["self", "other"] ["self", "other"] (defScope (sSt 7)) := ⟨rfl, rfl, rfl, by decide +kernel, rfl, by decide +kernel, by decide +kernel⟩
theorem ok_steq {f : Addr} {fd : FuncData} (F : Fun K "__eq__" "Store.__eq__" (sSt 7) f fd) (T : TxtT K mg CT CN CU) : FnOk P w K mg base CX0 1 f fd ["self", "other"] (spStEq CT) := by
  refine F.ok scStEq (fun vs H Q E h => ?_) (fun cdv A outer s H vs Q E hr h => ?_)
  · obtain ⟨a, b, es, es', rfl, _⟩ := h
    rfl
  · obtain ⟨a, b, es, es', rfl, ⟨⟨dx, tb, nb, h1, h2, _⟩, one⟩, ⟨⟨dy, tc, nc, g1, g2, _⟩, one'⟩, hs, k⟩ := h
    have hu := hu_of hr
    refine ⟨_, pss_one (ps_ret (pe_and (pe_callB call_isi (by rfl) T.isi (by decide +kernel) (pa_cons (pv 1) (pa_cons (pe_glob (v := .ref CT) rfl T.mgC rfl) pa_nil)))
      (pe_one (pe_cmpR (op_eqT hu) (pe_fld (pv 0) rfl) (pe_fld (pv 1) rfl) (nomark _))))), ?_⟩
    refine ⟨_, rfl, _, _, _, _, _, rfl, .own CT, .base (.ins g1 T.cl T.ha T.hn T.ht T.hm), T.ki, _, rfl, ?_⟩
    refine iteT ?_
    have e1 : (tabOf es).length = es.length := List.length_map _
    have e2 : (tabOf es').length = es'.length := List.length_map _
    refine ⟨_, rfl, a, CT, dx, _, _, rfl, h1, T.cl, T.nT, rfl, _, rfl, b, CT, dy, _, _, rfl, g1, T.cl, T.nT, rfl, tb, tc, _, _, rfl, rfl, h2, g2, fun hl p hp => ?_, ?_⟩
    · rw [e1, e2] at hl
      obtain ⟨e, he, rfl⟩ := List.mem_map.mp hp
      exact ⟨e.1, rfl, tab_some one' (hs hl e he)⟩
    · rw [e1, e2]
      exact k
end
end Half

/-! == and != of two dicts with flat keys whose values are data -/
namespace L2
open PySem PySem.Spec PyProof.Rows
inductive DpM (K : PySem.W.Frag) (H : Hp) : List (Key × V) → List (Key × PyData) → Prop
  | nil : DpM K H [] []
  | cons {k : Key} {v : V} {d : PyData} {ks : List (Key × V)} {ds : List (Key × PyData)} : Dp K H v d → SeqAt.shaped d = true → DpM K H ks ds → DpM K H ((k, v) :: ks) ((k, d) :: ds)
def datAt (ds : List (Key × PyData)) (k : Key) : Option PyData := (ds.find? fun q => decide (q.1 = k)).map (·.2)
def hitM (dl : List (Key × PyData)) (p : Key × PyData) : Bool := match datAt dl p.1 with
  | some d => PyData.eqv p.2 d
  | none => false
def eqM (dk dl : List (Key × PyData)) : Bool := decide (dk.length = dl.length) && dk.all (hitM dl)
theorem DpM.len {K : PySem.W.Frag} {H : Hp} {ks : List (Key × V)} {ds : List (Key × PyData)} (h : DpM K H ks ds) : ks.length = ds.length := by
  induction h with
  | nil => rfl
  | cons _ _ _ ih => simp [ih]
theorem DpM.at {K : PySem.W.Frag} {H : Hp} {ks : List (Key × V)} {ds : List (Key × PyData)} (h : DpM K H ks ds) (k : Key) : (valV ks k = none ∧ datAt ds k = none) ∨ ∃ v d, valV ks k = some v ∧ datAt ds k = some d ∧ Dp K H v d ∧ SeqAt.shaped d = true := by
  induction h with
  | nil => exact .inl ⟨rfl, rfl⟩
  | @cons k' v d ks ds h1 h2 _ ih =>
    by_cases c : k' = k
    · refine .inr ⟨v, d, ?_, ?_, h1, h2⟩
      · unfold valV; rw [List.find?_cons, decide_eq_true c]; rfl
      · unfold datAt; rw [List.find?_cons, decide_eq_true c]; rfl
    · have e1 : valV ((k', v) :: ks) k = valV ks k := by unfold valV; rw [List.find?_cons, decide_eq_false c]
      have e2 : datAt ((k', d) :: ds) k = datAt ds k := by unfold datAt; rw [List.find?_cons, decide_eq_false c]
      rw [e1, e2]
      exact ih
section
variable {X : Cx}
theorem hits_dat {pins : List (Addr × Obj)} {σ : St} {H : Hp} {s : Shared} {A : Around} (I : Inv X pins σ H s) (hu : A.units + 64 < cLine) {ls : List (Key × V)} {dl : List (Key × PyData)} {vb : List (Key × Value)} (rb : KV ls vb) (hb : DpM X.K H ls dl) :
    ∀ {ks : List (Key × V)} {dk : List (Key × PyData)} {va : List (Key × Value)}, KV ks va → DpM X.K H ks dk → PySem.W.KeqHits A s vb va (dk.all (hitM dl)) := by
  intro ks dk va ra ha
  induction ha generalizing va with
  | nil =>
    cases ra
    exact .nil
  | @cons k v d ks ds h1 h2 _ ih =>
    cases ra with
    | @cons _ q _ qs h t =>
      obtain ⟨e1, e2⟩ := h
      obtain ⟨k', u⟩ := q
      have e1 : k = k' := e1
      subst e1
      have e2 : RelV v u := e2
      have ih := ih t
      have z := rb.val k
      rw [List.all_cons]
      rcases hb.at k with ⟨n1, n2⟩ | ⟨v', d', n1, n2, n3, n4⟩
      · rw [n1] at z
        have z : valueAt vb k = none := by
          cases q : valueAt vb k with
          | none => rfl
          | some m => rw [q] at z; exact (show False from z).elim
        have e : hitM dl (k, d) = false := by unfold hitM; rw [show datAt dl (k, d).1 = none from n2]
        rw [e, Bool.false_and]
        exact .miss z
      · rw [n1] at z
        obtain ⟨y, hy, ry⟩ := RelO.some_of z
        have e : hitM dl (k, d) = PyData.eqv d d' := by unfold hitM; rw [show datAt dl (k, d).1 = some d' from n2]
        rw [e]
        obtain ⟨as, r1⟩ := Dp.reads I d v u h1 e2
        obtain ⟨bs, r2⟩ := Dp.reads I d' v' y n3 ry
        exact .hit hy (SeqAt.eqAt_reads d d' A s u y as bs r1 r2 (SeqAt.canLay_of_shaped h2) (SeqAt.canLay_of_shaped n4) (SeqAt.room_of_shaped h2 hu)) ih
def rEqM (K : PySem.W.Frag) (fl : Bool → Bool) : R2 := fun x y H Q => ∃ a b ks ls dk dl, x = .ref a ∧ y = .ref b ∧ H a = some (.dK ks) ∧ H b = some (.dK ls) ∧ DpM K H ks dk ∧ DpM K H ls dl ∧ Q (.bl (fl (eqM dk dl))) H
theorem eqM_len {K : PySem.W.Frag} {H : Hp} {ks ls : List (Key × V)} {dk dl : List (Key × PyData)} {va vb : List (Key × Value)} (ra : KV ks va) (rb : KV ls vb) (ha : DpM K H ks dk) (hb : DpM K H ls dl) : (va.length == vb.length && dk.all (hitM dl)) = eqM dk dl := by
  unfold eqM
  rw [← ra.length, ← rb.length, ha.len, hb.len]
  congr 1
theorem op_eqM (hu : X.A.units + 66 < cLine) : OpR X (compareOp .Eq) (rEqM X.K id) := by
  intro pins s σ H x y v u Q I rx ry h
  obtain ⟨a, b, ks, ls, dk, dl, rfl, rfl, ea, eb, ma, mb, q⟩ := h
  cases rx
  cases ry
  obtain ⟨_, ya, va, ra, da⟩ := dk_of I.hok ea
  obtain ⟨_, yb, vb, rb, db⟩ := dk_of I.hok eb
  refine PySem.W.keq_eq (knd := mixKind X.prog X.w) ya yb da db (by omega) (fun _ => hits_dat I (show X.A.in1.units + 64 < cLine by show X.A.units + 1 + 64 < cLine; omega) rb mb ra ma) ?_
  rw [eqM_len ra rb ma mb]
  exact ⟨.bl _, H, I, rfl, q⟩
theorem op_neM (hu : X.A.units + 66 < cLine) : OpR X (compareOp .NotEq) (rEqM X.K not) := by
  intro pins s σ H x y v u Q I rx ry h
  obtain ⟨a, b, ks, ls, dk, dl, rfl, rfl, ea, eb, ma, mb, q⟩ := h
  cases rx
  cases ry
  obtain ⟨_, ya, va, ra, da⟩ := dk_of I.hok ea
  obtain ⟨_, yb, vb, rb, db⟩ := dk_of I.hok eb
  refine PySem.W.keq_ne (knd := mixKind X.prog X.w) ya yb da db (by omega) (fun _ => hits_dat I (show X.A.in1.units + 64 < cLine by show X.A.units + 1 + 64 < cLine; omega) rb mb ra ma) ?_
  rw [eqM_len ra rb ma mb]
  exact ⟨.bl _, H, I, rfl, q⟩
end
end L2

/-! a dict of flat keys taken into another one, pair by pair, as {**d, ..} does it -/
namespace L2
open PySem PySem.Spec PyProof.Rows
section
variable {P : Program} {w : World} {A : Around} {E : Value → Shared → Prop} {s : Shared}
/-- the place of a key, by the entries and by the pairs -/
theorem place_same {κ : Type} [DecidableEq κ] {kd : KeyKind P w κ} {es : Array DictEntry} {ps : List (κ × Value)} {x : κ} (hp : ∀ y, (es.toList.findIdx? fun e => kd.is y e.key) = ps.findIdx? fun q => decide (q.1 = y)) : (es.findIdx? fun e => kd.is x e.key) = ps.findIdx? fun q => decide (q.1 = x) := by
  have z := hp x
  obtain ⟨l⟩ := es
  simpa using z
/-- one pair -/
theorem put_one {κ : Type} [DecidableEq κ] {kd : KeyKind P w κ} {D : Addr} {ps : List (κ × Value)} {x : κ} {u y : Value} {Q : Unit → Shared → Prop} (hx : kd.is x u = true) (dd : s.heap.DictOf kd D ps) (few : ps.length ≤ sizeLine)
    (q : ∀ h', h'.DictOf kd D (stored ps x y) → Heap.SameBut D s.heap h' → Q () { s with heap := h' }) : wpAny (model P w) A (dictPut D (kd.hash x) u y) Q E s := by
  obtain ⟨ob, es, ep, g1, g2, g3, g4, g5, g6⟩ := dd
  have pl := place_same (x := x) g5.findIdx
  have size : es.size = ps.length := by rw [← g5.length, Array.length_toList]
  unfold dictPut
  refine wpAny_bind (wpAny_dictFind_of hx g1 g3 g4 ?_)
  by_cases there : x ∈ ps.map (·.1)
  · obtain ⟨i, ei⟩ : ∃ i, (ps.findIdx? fun q => decide (q.1 = x)) = some i := by
      cases c : ps.findIdx? fun q => decide (q.1 = x) with
      | some i => exact ⟨i, rfl⟩
      | none => exact absurd there (not_mem_of_findIdx_none c)
    have st : stored ps x y = ps.map fun q => if q.1 = x then (q.1, y) else q := by unfold stored; rw [if_pos (any_of_findIdx_some ei)]
    rw [pl, ei]
    have l1 : (es.toList.findIdx? fun e => kd.is x e.key) = some i := by rw [g5.findIdx x, ei]
    have pairs := g5.modify g6 l1 y
    refine wpAny_updateDict g1 g3 (q _ ⟨_, _, ep, Heap.get?_update_self _ g1 (Obj.isFreed_of_dict (Obj.data_mapDict g3 _)), g2.mapDict _, Obj.data_mapDict g3 _, g4.modify _ _, ?p, ?n⟩ (Heap.SameBut.update ..))
    case p =>
      obtain ⟨l⟩ := es
      rw [st]
      simpa using pairs
    case n =>
      rw [st, keys_map_store]
      exact g6
  · have none_ : (ps.findIdx? fun q => decide (q.1 = x)) = none := by
      refine List.findIdx?_eq_none_iff.mpr fun q hq => decide_eq_false fun e => there ?_
      exact List.mem_map.mpr ⟨q, hq, e⟩
    have st : stored ps x y = ps ++ [(x, y)] := by
      unfold stored
      rw [if_neg]
      intro z
      obtain ⟨q, hq, e⟩ := List.any_eq_true.mp z
      exact there (List.mem_map.mpr ⟨q, hq, of_decide_eq_true e⟩)
    rw [pl, none_]
    have pairs := g5.append hx (kd.hash x) y
    refine wpAny_updateDictKeys (hz := by rw [size]; exact few) g1 g3 (q _ ⟨_, _, ep + 1, Heap.get?_update_self _ g1 (Obj.isFreed_of_dict (Obj.data_mapDictKeys g3 _)), g2.mapDictKeys _, Obj.data_mapDictKeys g3 _, g4.push hx _, ?p, ?n⟩ (Heap.SameBut.update ..))
    case p =>
      obtain ⟨l⟩ := es
      rw [st]
      simpa using pairs
    case n =>
      rw [st, List.map_append]
      refine List.nodup_append.mpr ⟨g6, by simp, fun a ha b hb e => there ?_⟩
      have : b = x := by simpa using hb
      rw [← this, ← e]
      exact ha
theorem flat_of {k : Key} {v : Value} (h : (mixKind P w).is k v = true) (a : Addr) : v ≠ .ref a := by
  rintro rfl
  cases k <;> exact absurd h (by simp [mixKind, keyIs, Value.isInt, Value.isStrOf])
/-- one pair of the source, behind those that were taken -/
def oneMore (D S : Addr) (ep i : Nat) : Sem (ForInStep PUnit) := do
  match (← dictEntries S)[i]? with
  | some e => do
    holding [e.key, e.val] (dictPut D e.hash e.key e.val)
    if ((← dictEpoch S) != ep) = true then do
      (unsupported "dict.changed-during-merge" : Sem PUnit)
      pure (.yield .unit)
    else pure (.yield .unit)
  | _ => do
    (unsupported "dict.changed-during-merge" : Sem PUnit)
    pure (.yield .unit)
/-- an entry and its pair -/
def Goes (P : Program) (w : World) (e : DictEntry) (q : Key × Value) : Prop := (mixKind P w).is q.1 e.key = true ∧ e.hash = (mixKind P w).hash q.1 ∧ e.val = q.2
theorem goes_of {h : Heap} {S : Addr} {ps : List (Key × Value)} (dd : h.DictOf (mixKind P w) S ps) : ∃ ob es ep, h.get? S = some ob ∧ ob.data = .dict es ep ∧ es.size = ps.length ∧ ∀ (i : Nat) (q : Key × Value), ps[i]? = some q → ∃ e, es[i]? = some e ∧ Goes P w e q := by
  obtain ⟨ob, es, ep, g1, _, g3, g4, g5, _⟩ := dd
  have size : es.size = ps.length := by rw [← g5.length, Array.length_toList]
  refine ⟨ob, es, ep, g1, g3, size, fun i q hq => ?_⟩
  have lt : i < es.size := by rw [size]; exact (List.getElem?_eq_some_iff.mp hq).1
  refine ⟨es[i], Array.getElem?_eq_getElem lt, ?_⟩
  obtain ⟨a, b⟩ := g5.get? (i := i) (e := es[i]) (k := q.1) (v := q.2) (by rw [Array.getElem?_toList, Array.getElem?_eq_getElem lt]) hq
  obtain ⟨k2, c, d⟩ := g4 _ (Array.getElem_mem lt)
  rw [(mixKind P w).inj _ _ _ c a] at d
  exact ⟨a, d, b⟩
theorem take_rest {D S : Addr} {ob : Obj} {es : Array DictEntry} {ep : Nat} {ps : List (Key × Value)} (ne : S ≠ D) (hd : ob.data = .dict es ep) (go : ∀ (i : Nat) (q : Key × Value), ps[i]? = some q → ∃ e, es[i]? = some e ∧ Goes P w e q) : ∀ (n i : Nat) (s : Shared) (acc : List (Key × Value)) (Q : PUnit → Shared → Prop), n + i = ps.length →
    s.heap.get? S = some ob → s.heap.DictOf (mixKind P w) D acc → acc.length + n ≤ sizeLine →
    (∀ h', h'.get? S = some ob → h'.DictOf (mixKind P w) D (merged acc (ps.drop i)) → Heap.SameBut D s.heap h' → Q .unit { s with heap := h' }) →
    wpAny (model P w) A (forIn (List.range' i n) PUnit.unit fun j (_ : PUnit) => oneMore D S ep j) Q E s := by
  intro n
  induction n with
  | zero =>
    intro i s acc Q en gS gD _ q
    have z := q s.heap gS (by rw [List.drop_of_length_le (by omega)]; exact gD) (Heap.SameBut.refl D _)
    exact wpAny_pure z
  | succ n more =>
    intro i s acc Q en gS gD few q
    have lt : i < ps.length := by omega
    obtain ⟨e, ee, a1, a2, a3⟩ := go i ps[i] (List.getElem?_eq_getElem lt)
    rw [List.range'_succ, List.forIn_cons]
    refine wpAny_bind ?_
    unfold oneMore
    refine wpAny_bind (wpAny_dictEntries gS hd ?_)
    rw [ee]
    dsimp only
    rw [a2, a3]
    refine wpAny_bind (wpAny_holding (put_one a1 gD (by omega) fun h1 d1 b1 => ?_))
    have gS1 : h1.get? S = some ob := by rw [b1.2 S ne]; exact gS
    refine wpAny_bind (wpAny_dictEpoch gS1 hd ?_)
    rw [bne_self_eq_false, if_neg Bool.false_ne_true]
    refine wpAny_pure ?_
    dsimp only
    have l1 := stored_length_le acc ps[i].1 ps[i].2
    refine more (i + 1) { s with heap := h1 } _ Q (by omega) gS1 d1 (by omega) fun h2 c1 c2 c3 => q h2 c1 ?_ (b1.trans c3)
    rw [List.drop_eq_getElem_cons lt]
    exact c2
/-- all pairs of the dict at S are put into the dict at D -/
theorem merge_map {D S : Addr} {acc ps : List (Key × Value)} {Q : Unit → Shared → Prop} (ne : S ≠ D) (hS : (S == sysModules) = false) (gD : s.heap.DictOf (mixKind P w) D acc) (gS : s.heap.DictOf (mixKind P w) S ps) (few : acc.length + ps.length ≤ sizeLine)
    (q : ∀ h', h'.DictOf (mixKind P w) D (merged acc ps) → Heap.SameBut D s.heap h' → Q () { s with heap := h' }) : wpAny (model P w) A (mergeMapping D (.ref S) false) Q E s := by
  obtain ⟨ob, es, ep, gob, hd, size, go⟩ := goes_of gS
  obtain ⟨obD, esD, epD, gobD, hdD, _, _⟩ := goes_of gD
  have ty := gS.typeIs
  have main : wpAny (model P w) A (forIn (List.range es.size) PUnit.unit (fun j (_ : PUnit) => oneMore D S ep j) >>= fun _ => pure ()) Q E s := by
    rw [List.range_eq_range', size]
    refine wpAny_bind (take_rest ne hd go ps.length 0 s acc _ (Nat.add_zero _) gob gD few fun h' _ d sb => ?_)
    exact wpAny_pure (q h' d sb)
  unfold mergeMapping
  refine wpAny_bind (wpAny_isInstance ty isSubtype_dict_dict ?_)
  show wpAny _ _ (specialOf (.ref S) "__iter__" >>= _) _ _ s
  refine wpAny_bind (wpAny_specialOf ty F.slot_dict_iter.lookup ?_)
  show wpAny _ _ (pure (some (Value.builtin "dict.__iter__") == some (Value.builtin "dict.__iter__")) >>= _) _ _ s
  refine wpAny_bind (wpAny_pure ?_)
  have yes : (some (Value.builtin "dict.__iter__") == some (Value.builtin "dict.__iter__")) = true := by decide +kernel
  rw [yes]
  dsimp only
  rw [hS, if_neg Bool.false_ne_true]
  refine wpAny_bind (wpAny_dictEntries gobD hdD ?_)
  have tail : wpAny (model P w) A (do
      let l ← dictEntries S
      let e ← dictEpoch S
      forIn (List.range l.size) PUnit.unit fun j (_ : PUnit) => oneMore D S e j
      pure ()) Q E s := wpAny_bind (wpAny_dictEntries gob hd (wpAny_bind (wpAny_dictEpoch gob hd main)))
  by_cases em : esD.isEmpty = true
  · rw [if_pos em]
    refine wpAny_bind (wpAny_dictEntries gob hd (wpAny_bind ?_))
    rw [← Array.forIn_toList]
    have all : ∀ (l : List DictEntry) (Q' : PUnit → Shared → Prop), (∀ e ∈ l, ∀ a, e.key ≠ .ref a) → Q' .unit s → wpAny (model P w) A (forIn l PUnit.unit fun e (_ : PUnit) => (match e.key with
        | Value.ref a => do
          if ((← specialOf e.key (Str.ofString "__eq__")) != some (Value.builtin "object.__eq__")) = true then
            if (es.filter fun x => x.hash == e.hash).size > 1 then do
              (unsupported "dict.merge-into-an-empty-dict:keys-of-equal-hash" : Sem PUnit)
              pure (.yield .unit)
            else pure (.yield .unit)
          else pure (.yield .unit)
        | _ => pure (.yield .unit) : Sem (ForInStep PUnit))) Q' E s := by
      intro l
      induction l with
      | nil => exact fun Q' _ z => wpAny_pure z
      | cons e l ih =>
        intro Q' nr z
        rw [List.forIn_cons]
        refine wpAny_bind ?_
        have n0 := nr e List.mem_cons_self
        cases c : e.key with
        | ref a => exact absurd c (n0 a)
        | _ => exact wpAny_pure (ih Q' (fun f hf => nr f (List.mem_cons_of_mem _ hf)) z)
    refine all es.toList _ (fun e he a => ?_) tail
    obtain ⟨i, hi, e1⟩ := List.getElem_of_mem he
    have lt : i < ps.length := by rw [← size]; simpa using hi
    obtain ⟨e2, h2, h3, _⟩ := go i ps[i] (List.getElem?_eq_getElem lt)
    have : e2 = e := by
      rw [Array.getElem?_eq_getElem (by simpa using hi)] at h2
      rw [← e1, ← Option.some.inj h2]
      simp
    rw [← this]
    exact flat_of h3 a
  · rw [if_neg em]
    exact tail
end
end L2

namespace L2
open PySem PySem.Spec PyProof.Rows
section
variable {prog : Program} {w : World} {A : Around} {E : Value → Shared → Prop} {s : Shared}
theorem display_star {m k v : Sem Value} {Q : Value → Shared → Prop}
    (h : wpAny (model prog w) A m (fun x s1 => ∃ o more, x = .ref o ∧ s.heap.objs.size ≠ o ∧ (o == sysModules) = false ∧ s1.heap.DictOf (mixKind prog w) s.heap.objs.size [] ∧ s1.heap.DictOf (mixKind prog w) o more ∧ more.length + 16 ≤ sizeLine ∧
      ∀ h', h'.DictOf (mixKind prog w) s.heap.objs.size (merged [] more) → Heap.SameBut s.heap.objs.size s1.heap h' →
        wpAny (model prog w) A (evalPairs [(k, v)]) (fun vs s2 => ∃ kvs cur, Carries (mixKind prog w) vs kvs ∧ kvs.length ≤ 15 ∧ cur.length + 16 ≤ sizeLine ∧ s2.heap.DictOf (mixKind prog w) h'.objs.size [] ∧ s2.heap.DictOf (mixKind prog w) s.heap.objs.size cur ∧ s.heap.objs.size ≠ h'.objs.size ∧ (h'.objs.size == sysModules) = false ∧
          ∀ h2 h3 t, h2.DictOf (mixKind prog w) h'.objs.size (merged [] kvs) → Heap.SameBut h'.objs.size s2.heap h2 → h3.DictOf (mixKind prog w) s.heap.objs.size (merged cur (merged [] kvs)) → Heap.SameBut s.heap.objs.size h2 h3 → Q (.ref s.heap.objs.size) { s2 with heap := h3, toks := t }) E { s1 with heap := h'.push { cls := .type "dict", data := .dict #[] } }) E { s with heap := s.heap.push { cls := .type "dict", data := .dict #[] } }) :
    wpAny (model prog w) A (dictDisplay [(none, m), (some k, v)]) Q E s := by
  unfold dictDisplay
  dsimp only
  rw [List.forIn_cons]
  refine wpAny_bind (wpAny_bind ?_)
  dsimp only
  rw [if_pos (show ([] : List (Sem Value × Sem Value)).isEmpty = true from rfl)]
  refine wpAny_bind (wpAny_pure ?_)
  dsimp only
  refine wpAny_bind (wpAny_alloc ?_)
  refine wpAny_bind (wpAny_holding (wpAny_mono h (fun x s1 hx => ?_) (fun _ _ e => e)))
  obtain ⟨o, more, rfl, hne, hsys, hd, ho, hsz, hx⟩ := hx
  refine wpAny_bind (wpAny_onRaise (wpAny_tryCatch (wpAny_onRaise (wpAny_holding (merge_map (Ne.symm hne) hsys hd ho (by simp; omega) (fun h' d1 sb => ?_))))))
  refine wpAny_pure ?_
  dsimp only
  rw [List.forIn_cons]
  refine wpAny_bind ?_
  dsimp only
  rw [if_neg (by simp)]
  refine wpAny_pure ?_
  dsimp only
  rw [List.forIn_nil]
  refine wpAny_pure ?_
  dsimp only
  rw [if_neg (by simp)]
  have hx := hx h' d1 sb
  refine wpAny_bind (wpAny_bind (wpAny_holding (wpAny_subDict (knd := mixKind prog w) (by simp) (wpAny_mono hx (fun vs s2 h2 => ?_) (fun _ _ e => e)))))
  obtain ⟨kvs, cur, hc, h15, hcur, hd2, hd3, hne2, hsys2, hq⟩ := h2
  refine ⟨kvs, hc, hd2, fun h2 dd sb2 => ?_⟩
  have l1 := merged_length_le [] more
  have l2 := merged_length_le [] kvs
  simp only [List.length_nil] at l1 l2
  refine wpAny_bind (wpAny_onRaise (wpAny_holding (merge_map (Ne.symm hne2) hsys2 (hd3.sameBut sb2 hne2) dd (by omega) (fun h3 d3 sb3 => ?_))))
  refine wpAny_pure ?_
  exact wpAny_pure (hq h2 h3 _ dd sb2 d3 sb3)
/-- {**d, k: v} -/
def tDStar (td tk tv : TE) : TE := fun σ H Q => ∀ p, H p = none → td σ (upd H p (.dK [])) fun x H1 => ∃ a kvs, x = .ref a ∧ H1 a = some (.dK kvs) ∧ H1 p = some (.dK []) ∧ a ≠ p ∧ kvs.length ≤ 1000 ∧
  ∀ q, H1 q = none → q ≠ p → tk σ (upd (upd H1 p (.dK kvs)) q (.dK [])) fun y H2 => tv σ H2 fun z H3 => ∃ k, y = kV k ∧ H3 p = some (.dK kvs) ∧ H3 q = some (.dK []) ∧ Q (.ref p) (upd (upd H3 q (.dK [(k, z)])) p (.dK (putK kvs k z)))
end
section
variable {X : Cx}
theorem pe_dstar {dx ke ve : Expr} {td tk tv : TE} {pos : Pos} (hd : PE X dx td) (hk : PE X ke tk) (hv : PE X ve tv) : PE X (.Dict [none, some ke] [dx, ve] pos) (tDStar td tk tv) := by
  refine ⟨fun pins s σ H Q I h => ?_⟩
  have new := dk_empty (P := X.prog) (w := X.w) (H := upd H s.heap.objs.size (.dK [])) s.heap I.big
  have I1 := I.laid (t' := s.toks) (fun _ _ z => Heap.get?_push_of_some _ z) (Nat.le_refl _) new
  have hn := I.hok.fresh (a := s.heap.objs.size) (Nat.le_refl _)
  rw [arm_eval_Dict]
  refine wpAny_bind (wpAny_standAt ?_)
  show wpAny _ _ (dictDisplay [(none, do let x ← eval dx X.env; standAt pos; pure x), (some (eval ke X.env), do let x ← eval ve X.env; standAt pos; pure x)]) _ _ s
  refine display_star ?_
  refine wpAny_bind (thn (hd.run pins _ σ _ _ I1 (h _ hn)) fun u s1 ⟨x, H1, I1', rx, a, kvs, ex, ha, hp, nap, few, hq⟩ => ?_)
  subst ex
  cases rx
  refine wpAny_bind (wpAny_standAt (wpAny_pure ?_))
  obtain ⟨z1, hd1, vs1, r1, dd1⟩ := dk_of I1'.hok hp
  obtain ⟨z2, hd2, vs2, r2, dd2⟩ := dk_of I1'.hok ha
  cases r1
  refine ⟨a, vs2, rfl, Ne.symm nap, hd2, dd1, dd2, ?_, fun h' dd' sb => ?_⟩
  · rw [← r2.length, sizeLine_eq]; omega
  have hnd : merged [] vs2 = vs2 := by
    obtain ⟨_, _, _, _, _, _, _, _, hno⟩ := dd2
    exact merged_nil_of_nodup vs2 hno
  rw [hnd] at dd'
  have he : ∃ o, h'.get? s.heap.objs.size = some o := by
    obtain ⟨o, _, _, ho, _⟩ := dd'
    exact ⟨o, ho⟩
  have I2 := d_write (t' := s1.toks) I1' (by rw [hp]; exact True.intro) sb he (dk_new (kvs := kvs) (by rw [sizeLine_eq]; omega) hd1 r2 dd')
  have hq0 := I2.hok.fresh (Nat.le_refl h'.objs.size)
  have nqp : h'.objs.size ≠ s.heap.objs.size := fun e => by
    rw [show ({ s1 with heap := h' } : Shared).heap.objs.size = h'.objs.size from rfl] at *
    rw [e, upd_same] at hq0
    cases hq0
  have hq1 : H1 h'.objs.size = none := by rw [upd_ne nqp] at hq0; exact hq0
  have I3 := I2.laid (a := h'.objs.size) (o := .dK []) (h' := h'.push { cls := .type "dict", data := .dict #[] }) (t' := s1.toks) (fun _ _ q => Heap.get?_push_of_some _ q) (Nat.le_refl _) (dk_empty h' I2.big)
  refine thn ((pps_cons (pos := pos) hk hv pps_nil).run pins _ σ _ (fun ps H3 => match ps with
    | [(y, z)] => ∃ k, y = kV k ∧ H3 s.heap.objs.size = some (.dK kvs) ∧ H3 h'.objs.size = some (.dK []) ∧ Q (.ref s.heap.objs.size) (upd (upd H3 h'.objs.size (.dK [(k, z)])) s.heap.objs.size (.dK (putK kvs k z)))
    | _ => False) I3 (hq _ hq1 nqp)) fun ws s2 ⟨ps, H3, I3', rel, q3⟩ => ?_
  obtain ⟨y, z, rfl⟩ : ∃ y z, ps = [(y, z)] := by
    match ps, q3 with
    | [(y, z)], _ => exact ⟨y, z, rfl⟩
    | [], q => exact q.elim
    | _ :: _ :: _, q => exact q.elim
  obtain ⟨k, rfl, e1, e2, q3⟩ := q3
  obtain ⟨rs, c, rk⟩ := carries_of (P := X.prog) (w := X.w) (kvs := [(k, z)]) rel
  obtain ⟨_, hdq, vq, rq, ddq⟩ := dk_of I3'.hok e2
  obtain ⟨_, hdp, vp, rp, ddp⟩ := dk_of I3'.hok e1
  cases rq
  obtain ⟨r, rfl, er⟩ : ∃ r, rs = [(k, r)] ∧ RelV z r := by
    cases rk with
    | @cons _ q _ qs h t =>
      cases t
      obtain ⟨k', u⟩ := q
      obtain ⟨e1, e2⟩ := h
      have e1 : k = k' := e1
      subst e1
      exact ⟨u, rfl, e2⟩
  have hl : (putK kvs k z).length ≤ sizeLine := by have := length_putK kvs k z; rw [sizeLine_eq]; omega
  refine ⟨[(k, r)], vp, c, (by show 1 ≤ 15; decide), by rw [← rp.length, sizeLine_eq]; omega, ddq, ddp, Ne.symm nqp, hdq, fun h2 h3 t dd2 sb2 dd3 sb3 => ?_⟩
  have hz1 : ([(k, z)] : List (Key × V)).length ≤ sizeLine := by show 1 ≤ sizeLine; decide
  have Ia := d_write (t' := t) I3' (by rw [e2]; exact True.intro) sb2 (let ⟨q, _, _, hq, _⟩ := dd2; ⟨q, hq⟩) (dk_new (kvs := [(k, z)]) hz1 hdq (.cons ⟨rfl, er⟩ .nil) dd2)
  have ep : (upd H3 h'.objs.size (.dK [(k, z)])) s.heap.objs.size = some (.dK kvs) := by rw [upd_ne (Ne.symm nqp)]; exact e1
  have Ib := d_write (t' := t) Ia (by rw [ep]; exact True.intro) sb3 (let ⟨q, _, _, hq, _⟩ := dd3; ⟨q, hq⟩) (dk_new (kvs := putK kvs k z) hl hdp (rp.put k er) dd3)
  exact ⟨.ref s.heap.objs.size, _, Ib, rfl, q3⟩
end
end L2

/-! sorted(t) of a tuple of texts -/
namespace L2
open PySem PySem.Spec PyProof.Rows PySem.Froz
section
variable {P : Program} {w : World} {A : Around} {E : Value → Shared → Prop} {s : Shared}
/-- the heap behind collect: a new list of these items -/
def listed (h : Heap) (xs : Array Value) : Heap := (h.push (seqObj "list" #[] 0)).update h.objs.size (Obj.mapSeq (· ++ xs))
theorem listed_keeps {h : Heap} {xs : Array Value} {b : Addr} {o : Obj} (e : h.get? b = some o) : (listed h xs).get? b = some o :=
  (Heap.get?_update_other _ _ (Nat.ne_of_gt (Heap.lt_size e))).trans (Heap.get?_push_of_some _ e)
theorem listed_size (h : Heap) (xs : Array Value) : (listed h xs).objs.size = h.objs.size + 1 := by
  unfold listed
  rw [Heap.size_update, Heap.size_push]
theorem collect_tup {t : Addr} {xs : Array Value} {Q : List Value → Shared → Prop} (ht : IsTup s.heap t xs) (few : xs.size ≤ sizeLine) (q : Q xs.toList { s with heap := listed s.heap xs }) : wpAny (model P w) A (collect (.ref t)) Q E s := by
  obtain ⟨o, g, c, n, d⟩ := ht
  have new : (s.heap.push (seqObj "list" #[] 0)).get? s.heap.objs.size = some (seqObj "list" #[] 0) := Heap.get?_push_size _ rfl
  have out : wpAny (model P w) A (do
      match (← load s.heap.objs.size).data with
      | .seq ys _ => pure ys.toList
      | _ => unsupported "internal:collect") Q E { s with heap := listed s.heap xs } := by
    refine wpAny_bind (wpAny_load (Heap.get?_update_self (Obj.mapSeq (· ++ xs)) new rfl) (wpAny_pure ?_))
    show Q (#[] ++ xs).toList _
    rw [Array.empty_append]
    exact q
  unfold collect
  refine wpAny_bind (wpAny_runValue (codeAny_builtin F.entry_proto_collect ?_))
  rw [Around.under_plainId F.plain_proto_collect]
  refine wpAny_bind (m := newList []) (wpAny_newObj_type (wpAny_pure ⟨plainId_quiet F.plain_list_iadd _, codeAny_builtin F.entry_list_iadd ?_⟩))
  rw [Around.under_plainId F.plain_list_iadd]
  refine wpAny_mono (wpAny_extend_seq (A := A) (hsz := few) (R := fun r z => r = .ok (.ret (.ref s.heap.objs.size)) ∧ z = { s with heap := listed s.heap xs }) _ t _ 0 (.inr rfl) new (Heap.get?_push_of_some _ g) c d ⟨rfl, rfl⟩) (fun fin z h => ?_) (fun e z h => ?_)
  · cases fin with
    | done r =>
      obtain ⟨h1, rfl⟩ := h
      cases h1
      exact out
    | again k =>
      refine ⟨h.1, codeAny_mono h.2 fun r z' h' => ?_⟩
      obtain ⟨rfl, rfl⟩ := h'
      exact out
  · exact absurd h.1 (by simp)
end
section
variable {X : Cx}
def rSortST (K : PySem.W.Frag) : List V → Hp → VK → Prop := fun vs H Q => ∃ (a : Addr) (xs : List Str), vs = [V.ref a] ∧ SqT K H a (xs.map V.str) ∧ xs.length < 64 ∧
  ∀ (ys : List Str) (p : Addr), ys.Perm xs → sortedS ys = true → H p = none → Q (.ref p) (upd H p (.lst (ys.map V.str)))
theorem cr_sortST : CallR X (.builtin "sorted") (rSortST X.K) := by
  intro pins s σ H vs us Q I r h
  obtain ⟨a, xs, rfl, hs, few, q⟩ := h
  obtain ⟨its, rv, tu, _⟩ := I.tuple hs
  rw [Vals.ref1 r]
  have p1 := rv.strs
  have vlen : its.length = xs.length := p1.length
  refine Calls.call_function_entry kind_sorted plain_sorted entry_sorted (args_sorted1 _) ?_
  unfold Builtin.«sorted»
  refine wpAny_bind (m := checkCount "sorted" 1 1 _) (wpAny_pure (wpAny_bind (collect_tup tu (by rw [sizeLine_eq]; simp; omega) ?_)))
  refine wpAny_bind (wpAny_newList ?_ (by rw [sizeLine_eq]; simp; omega))
  rw [show its.toArray.toList = its from rfl]
  have at_ : ((listed s.heap its.toArray).push (seqObj "list" its.toArray 0)).get? (listed s.heap its.toArray).objs.size = some (seqObj "list" its.toArray 0) := Heap.get?_push_size _ rfl
  refine wpAny_bind (wpAny_holding (wpAny_call_entry slot_list_sort ⟨_, at_, rfl⟩ entry_list_sort (list_sort_treeKAny strKind_oneLt at_ p1.keysOf (fun v1 v2 r e => keyKind_strs (e ▸ p1)) (by rw [vlen, sizeLine_eq]; omega) fun st' a1 a2 => ⟨_, rfl, wpAny_pure ⟨_, rfl, ?_⟩⟩) (args_list_sort _)))
  obtain ⟨ys, b1, b2, b3⟩ := sorted_out_str p1 a1 a2
  obtain ⟨c, hcn⟩ := sortedHeap_at (vs := its) (out := (arrOf st').map (·.2)) at_
  generalize (arrOf st').map (·.2) = out at b1 hcn ⊢
  have keep : ∀ b u, s.heap.get? b = some u → (sortedHeap ((listed s.heap its.toArray).push (seqObj "list" its.toArray 0)) (listed s.heap its.toArray).objs.size its out).get? b = some u := fun b u e => by
    have k := listed_keeps (xs := its.toArray) e
    have lt := Heap.lt_size k
    refine (sortedHeap_old (Nat.ne_of_lt lt) ?_).trans (Heap.get?_push_of_some _ k)
    rw [Heap.size_push]
    exact Nat.lt_succ_of_lt lt
  have big : s.heap.objs.size ≤ (listed s.heap its.toArray).objs.size := by rw [listed_size]; omega
  have room : (ys.map V.str).length ≤ sizeLine := by rw [List.length_map, b2.length_eq, sizeLine_eq]; omega
  exact ⟨.ref _, _, I.laid (t' := s.toks) (o := .lst (ys.map V.str)) keep big ⟨room, out.toList, c, vals_of_strs b1, hcn⟩, rfl, q ys _ b2 b3 (I.hok.fresh big)⟩
end
end L2

/-! set(l) of a list of ints: the shell stands in Kxa -/

namespace L2
open PySem PySem.Spec PyProof.Rows PySem.Froz
section
variable {X : Cx}
/-- set(l), l a list of ints -/
def rSetI (K : PySem.W.Frag) (w : World) : List V → Hp → VK → Prop := fun vs H Q => ∃ (p : Addr) (ns : List Int), vs = [.ref p] ∧ SqL K H p (ns.map V.int) ∧ ns.length < 64 ∧
  ∀ (a : Addr) (n : Nat), n ≤ ns.length → H a = none → Q (.ref a) (upd H a (SetO w a (fun j => decide (j ∈ ns)) n))
theorem cr_setI (hc : X.calm = true) : CallR X (.type "set") (rSetI X.K X.w) := by
  intro pins s σ H vs us Q I r h
  obtain ⟨p, ns, rfl, hs, few, q⟩ := h
  obtain ⟨its, rv, hl, _⟩ := I.list hs
  rw [Vals.ref1 r]
  have hi := rv.ints
  have hlen : its.length = ns.length := hi.length
  have li := hl.isList
  have lt : p < s.heap.objs.size := by obtain ⟨o, g, _⟩ := li; exact Heap.lt_size g
  refine set_made (fun h' => ∃ n, n ≤ ns.length ∧ SetR X.w h' s.heap.objs.size (fun j => decide (j ∈ ns)) n) li (I.ok.hd hc) (fun B hB => ?_) (fun h' tk gd keep => ?_)
  · have ne : p ≠ s.heap.objs.size + 1 := Nat.ne_of_lt (Nat.lt_succ_of_lt lt)
    have out : s.heap.objs.size ∉ [s.heap.objs.size + 1, p] := by
      intro z
      simp only [List.mem_cons, List.not_mem_nil, or_false] at z
      rcases z with z | z
      · exact Nat.ne_of_lt (Nat.lt_succ_self _) z
      · exact Nat.ne_of_gt lt z
    have li2 : ((s.heap.push (bareSet X.w)).push { cls := .type "list_iterator", data := .fields #[.ref p, .int 0 0] }).IsList p its.toArray := (li.push _).push _
    have it2 : ((s.heap.push (bareSet X.w)).push { cls := .type "list_iterator", data := .fields #[.ref p, .int 0 0] }).get? (s.heap.objs.size + 1) = some { cls := .type "list_iterator", data := .fields #[.ref p, .int 0 0] } := by
      have e := Heap.get?_push_size (s.heap.push (bareSet X.w)) (o := { cls := .type "list_iterator", data := .fields #[.ref p, .int 0 0] }) rfl
      rwa [Heap.size_push] at e
    have se : ((s.heap.push (bareSet X.w)).push { cls := .type "list_iterator", data := .fields #[.ref p, .int 0 0] }).get? s.heap.objs.size = some (bareSet X.w) := Heap.get?_push_of_some _ (Heap.get?_push_size _ rfl)
    refine set_update_ints (A := B) (Walks.list (by simp [hB]) (s.heap.objs.size + 1) p ne its.toArray).toS s.heap.objs.size out ns (by simp [hlen]) (by unfold scanBound; omega) (fun i v hv => ?_) _ 0 _ rfl (Nat.zero_le _) ⟨⟨_, it2, rfl, rfl⟩, li2⟩ ⟨0, Nat.le_refl _, setR_new_at se⟩ (fun z n mv hn R => ?_)
    · have hv' : its[i]? = some v := by simpa using hv
      have lt' : i < ns.length := by rw [← hlen]; exact (List.getElem?_eq_some_iff.mp hv').1
      obtain ⟨t, e⟩ := PyProof.Rows.IntsAre.int_at hi i v hv'
      refine ⟨ns[i], t, List.getElem?_eq_getElem lt', ?_⟩
      rw [e, List.getD_eq_getElem?_getD, List.getElem?_eq_getElem lt']
      rfl
    · obtain ⟨zh, zg, zd, zt, zo⟩ := z
      obtain rfl : zg = s.gens := mv.gens
      obtain rfl : zd = s.drawn := mv.drawn
      obtain rfl : zo = s.os := mv.os
      refine ⟨rfl, zh, zt, rfl, ⟨n, by simpa [hlen] using hn, R⟩, fun b o e => ?_⟩
      have lb := Heap.lt_size e
      refine mv.heap b o (fun z => ?_) (Heap.get?_push_of_some _ (Heap.get?_push_of_some _ e))
      simp only [List.mem_cons, List.not_mem_nil, or_false] at z
      rcases z with z | z
      · exact Nat.ne_of_lt lb z
      · exact Nat.ne_of_lt (Nat.lt_succ_of_lt lb) z
  · obtain ⟨n, hn, R⟩ := gd
    exact ⟨.ref _, _, I.laid (t' := tk) keep (Nat.le_refl _) (setO_new R), rfl, q _ n hn (I.hok.fresh (Nat.le_refl _))⟩
end
end L2

namespace Half
open PySem PySem.Spec PyProof.Rows L2
/-! ### draws: all but the row stays -/
structure Dr (r a : Addr) (H H' : Hp) : Prop where
  sb : SameBut r H H'
  at_ : ∃ i g l : Int, 0 ≤ i ∧ H' r = some (.lst [.ref a, .int i, .int g, .int l])
section
variable {K : PySem.W.Frag} {r a : Addr} {H H' H'' : Hp}
theorem Row.dr (h : Row K H r a) : Dr r a H H := by
  obtain ⟨ns, i, g, l, h1, h2, h3, h4⟩ := h
  exact ⟨fun _ _ _ q => q, i, g, l, h4, h1⟩
theorem Dr.row (h : Row K H r a) (d : Dr r a H H') : Row K H' r a := by
  obtain ⟨ns, i, g, l, h1, h2, h3, h4⟩ := h
  obtain ⟨i', g', l', e1, e2⟩ := d.at_
  refine ⟨ns, i', g', l', e2, ?_, h3, e1⟩
  have z : HO.lst (ns.map V.int) ≠ HO.lst [.ref a, .int i, .int g, .int l] := fun z => by
    have z' : ns.map V.int = [.ref a, .int i, .int g, .int l] := by injection z
    cases ns with
    | nil => cases z'
    | cons n ns => cases z'
  rcases h2 with (q | ⟨o, q⟩) | q
  · exact .inl (.inl (d.sb _ _ (ne_of q h1 z) q))
  · exact .inl (.inr ⟨o, d.sb _ _ (ne_of q h1 (by intro z; cases z)) q⟩)
  · exact .inr q
theorem Row.same' (S : Row K H r a) (e : Same H H') : Row K H' r a := Dr.row S (by
  obtain ⟨ns, i, g, l, h1, _, _, h4⟩ := S
  exact ⟨fun b o _ q => e _ _ q, i, g, l, h4, e _ _ h1⟩)
theorem Dr.same (d : Dr r a H H') (S : Same H' H'') : Dr r a H H'' := by
  obtain ⟨i, g, l, e1, e2⟩ := d.at_
  exact ⟨fun b o n q => S _ _ (d.sb b o n q), i, g, l, e1, S _ _ e2⟩
theorem Row.of (h : Row K H r a) (S : Same H H') : Dr r a H H' := h.dr.same S
theorem Dr.trans (d : Dr r a H H') (e : Dr r a H' H'') : Dr r a H H'' := ⟨fun b o n q => e.sb b o n (d.sb b o n q), e.at_⟩
theorem Dr.draw {o : HO} (h : Row K (upd H r o) r a) : Dr r a H (upd H r o) := by
  obtain ⟨ns, i, g, l, h1, h2, h3, h4⟩ := h
  exact ⟨fun b u n q => by rw [upd_ne n]; exact q, i, g, l, h4, h1⟩
/-- what is new ahead of the draws may be written -/
theorem Dr.put {D : Addr} {o : HO} (d : Dr r a H H') (hD : H D = none) (ne : D ≠ r) : Dr r a H (upd H' D o) := by
  obtain ⟨i, g, l, e1, e2⟩ := d.at_
  exact ⟨fun b u n q => by rw [upd_ne (ne_of_none q hD)]; exact d.sb b u n q, i, g, l, e1, by rw [upd_ne (Ne.symm ne)]; exact e2⟩
theorem Row.at_ (h : Row K H r a) : ∃ xs, H r = some (.lst xs) := by
  obtain ⟨ns, i, g, l, h1, _⟩ := h
  exact ⟨_, h1⟩
theorem Row.ne {D : Addr} (h : Row K H r a) (hD : H D = none) : D ≠ r := fun z => by
  obtain ⟨ys, hr⟩ := h.at_
  rw [z, hr] at hD
  cases hD
theorem Dr.kp (h : Row K H r a) (d : Dr r a H H') : Kp K H H' := fun b xs q => by
  obtain ⟨ys, hr⟩ := h.at_
  rcases q with (q | ⟨o, q⟩) | q
  · exact .inl (.inl (d.sb _ _ (ne_of q hr (by intro z; cases z)) q))
  · exact .inl (.inr ⟨o, d.sb _ _ (ne_of q hr (by intro z; cases z)) q⟩)
  · exact .inr q
end
/-! ### [x for x in xs if taken(row, m) == 0] and [(x, 1 + taken(row, k)) for ..] -/
abbrev LcW (J : It) (g : TG) (tt : TT) (te : TE) (vs : List Nat) (σ : L2.St) (H1 : Hp) (D : Addr) (Qd : Hp → Prop) : Prop := ∃ W : Nat → Nat → Hp → Prop, (∃ m, W 0 m (upd H1 D (.lst []))) ∧ ∀ i m H, W i m H →
      (J.stop i H ∧ Qd H) ∨ (J.go i H ∧ ∃ Nx : Hp → Prop, (∀ H', Nx H' → ∃ m', m' < m ∧ W (i + 1) m' H') ∧ ∀ x H', J.yld i H x H' → g x (wipe σ vs) H' fun σ2 H2 => wipe σ2 vs = wipe σ vs ∧ tt σ2 H2 fun b H3 =>
        if b = true then te σ2 H3 fun y H4 => ∃ acc, H4 D = some (.lst acc) ∧ acc.length < sizeLine ∧ Nx (upd H4 D (.lst (acc ++ [y]))) else Nx H3)
/-- the test of a draw -/
abbrev tDrawn (K : PySem.W.Frag) (ir : Nat) (m : Int) : TT := tTest (tOp rEq (tCall (spTaken K) [] E0 (tCons (tVar ir) (tCons (tC (.int m)) tNil))) (tC (.int 0)))
theorem taken_read {K : PySem.W.Frag} {r a : Addr} {m : Int} {H : Hp} {Q : VK} {E : XK} (h : Row K H r a) (h0 : 0 < m) (h1 : m < 1073741824) (k : ∀ v H', 0 ≤ v → v < m → Dr r a H H' → Q (.int v) H') : spTaken K [.ref r, .int m] H Q E :=
  ⟨r, m, a, rfl, h, h0, h1, fun v o v0 v1 R => k v _ v0 v1 (Dr.draw R)⟩
theorem drawn_read {K : PySem.W.Frag} {r a : Addr} {ir : Nat} {m : Int} {σ : L2.St} {H : Hp} {Q : Bool → Hp → Prop} (hs : σ[ir]? = some (some (.ref r))) (h : Row K H r a) (h0 : 0 < m) (h1 : m < 1073741824) (k : ∀ b H', Dr r a H H' → Q b H') : tDrawn K ir m σ H Q := by
  exact ⟨_, hs, r, m, a, rfl, h, h0, h1, fun v o _ _ R => ⟨rfl, _, rfl, k _ _ (Dr.draw R)⟩⟩
theorem sub_snoc {α : Type} {zs xs : List α} {i : Nat} {x : α} (h : zs.Sublist (xs.take i)) (hx : xs[i]? = some x) : (zs ++ [x]).Sublist (xs.take (i + 1)) := by
  rw [take_next hx]
  exact h.append (List.Sublist.refl _)
theorem sub_skip {α : Type} {zs xs : List α} {i : Nat} {x : α} (h : zs.Sublist (xs.take i)) (hx : xs[i]? = some x) : zs.Sublist (xs.take (i + 1)) := by
  rw [take_next hx]
  exact h.trans (List.sublist_append_left _ _)
theorem sub_len {α : Type} {zs xs : List α} {i : Nat} (h : zs.Sublist (xs.take i)) : zs.length ≤ xs.length := by
  have := h.length_le
  rw [List.length_take] at this
  omega
/-- the slots of a comprehension with one variable -/
structure Slot1 (σ : L2.St) (ir iv : Nat) (r : Addr) : Prop where
  row : ∀ x, ((wipe σ [iv]).set iv (some x))[ir]? = some (some (.ref r))
  var : ∀ x, ((wipe σ [iv]).set iv (some x))[iv]? = some (some x)
  wip : ∀ x, wipe ((wipe σ [iv]).set iv (some x)) [iv] = wipe σ [iv]
section
variable {K : PySem.W.Frag} {r a D : Addr} {ir iv : Nat} {m m2 : Int} {xs : List Str} {σ : L2.St} {H : Hp} {Qd : Hp → Prop} {J : It} {G : Hp → Prop}
theorem draw_names (wk : Walk J xs.length G (YAt (xs.map V.str))) (hG : ∀ H', Dr r a H H' → G H') (hR : Row K H r a) (few : xs.length ≤ 40) (h0 : 0 < m) (h1 : m < 1073741824) (S : Slot1 σ ir iv r) (hD : H D = none)
    (k : ∀ H' (zs : List Str), Dr r a H H' → H' D = some (.lst (zs.map V.str)) → zs.Sublist xs → Qd H') : LcW J (gName iv) (tDrawn K ir m) (tVar iv) [iv] σ H D Qd := by
  have ne := hR.ne hD
  refine lc_it wk (fun i H' => Dr r a H H' ∧ ∃ zs : List Str, H' D = some (.lst (zs.map V.str)) ∧ zs.Sublist (xs.take i)) ⟨hR.dr.put hD ne, [], upd_same, by simp⟩ (fun i H' _ p => hG H' p.1) ?_ ?_
  · rintro i x H1 H2 hi ⟨d, zs, hz, hs⟩ ⟨rfl, hx⟩
    obtain ⟨n, hn, rfl⟩ := getE hx
    refine ⟨S.wip _, drawn_read (S.row _) (d.row hR) h0 h1 fun b H3 d3 => ?_⟩
    have hz3 := d3.sb _ _ ne hz
    cases b with
    | false => exact iteF ⟨d.trans d3, zs, hz3, sub_skip hs hn⟩
    | true =>
      refine iteT ⟨_, S.var _, _, hz3, ?_, ?_, zs ++ [n], ?_, sub_snoc hs hn⟩
      · rw [List.length_map, sizeLine_eq]
        have := sub_len hs
        omega
      · exact (d.trans d3).put hD ne
      · rw [upd_same, List.map_append]
        rfl
  · rintro H2 ⟨d, zs, hz, hs⟩
    rw [List.take_length] at hs
    exact k H2 zs d hz hs
/-- pairs at the addresses ts -/
def PairsAt (K : PySem.W.Frag) (H : Hp) (ts : List Addr) (ps : List (Str × Int)) : Prop := ts.length = ps.length ∧ ∀ (i : Nat) t p, ts[i]? = some t → ps[i]? = some p → SqT K H t [.str p.1, .int p.2]
theorem PairsAt.kp {H' : Hp} {ts : List Addr} {ps : List (Str × Int)} (k : Kp K H H') (h : PairsAt K H ts ps) : PairsAt K H' ts ps := ⟨h.1, fun i t p a b => k _ _ (h.2 i t p a b)⟩
theorem PairsAt.snoc {ts : List Addr} {ps : List (Str × Int)} {t : Addr} {p : Str × Int} (h : PairsAt K H ts ps) (ht : SqT K H t [.str p.1, .int p.2]) : PairsAt K H (ts ++ [t]) (ps ++ [p]) := by
  refine ⟨by rw [List.length_append, List.length_append, h.1]; rfl, fun i t' p' a b => ?_⟩
  rcases Nat.lt_or_ge i ts.length with c | c
  · rw [List.getElem?_append_left c] at a
    rw [List.getElem?_append_left (by rw [← h.1]; exact c)] at b
    exact h.2 i t' p' a b
  · rw [List.getElem?_append_right c] at a
    rw [List.getElem?_append_right (by rw [← h.1]; exact c)] at b
    have e : i = ts.length := by
      rcases Nat.lt_or_ge ts.length i with z | z
      · rw [List.getElem?_eq_none (by show 1 ≤ _; omega)] at a
        cases a
      · omega
    subst e
    rw [Nat.sub_self] at a
    rw [h.1, Nat.sub_self] at b
    cases a
    cases b
    exact ht
theorem draw_pairs (wk : Walk J xs.length G (YAt (xs.map V.str))) (hG : ∀ H', Dr r a H H' → G H') (hR : Row K H r a) (few : xs.length ≤ 40) (h0 : 0 < m) (h1 : m < 1073741824) (h2 : 0 < m2) (h3 : m2 < 1073741824) (S : Slot1 σ ir iv r) (hD : H D = none)
    (k : ∀ H' ts ps, Dr r a H H' → H' D = some (.lst (ts.map V.ref)) → PairsAt K H' ts ps → (ps.map (·.1)).Sublist xs → (∀ p ∈ ps, 1 ≤ p.2 ∧ p.2 ≤ m2) → Qd H') :
    LcW J (gName iv) (tDrawn K ir m) (tTup (tCons (tVar iv) (tCons (tOp (rI0 fun i j => .int (i + j)) (tC (.int 1)) (tCall (spTaken K) [] E0 (tCons (tVar ir) (tCons (tC (.int m2)) tNil)))) tNil))) [iv] σ H D Qd := by
  have ne := hR.ne hD
  refine lc_it wk (fun i H' => Dr r a H H' ∧ ∃ ts ps, H' D = some (.lst (ts.map V.ref)) ∧ PairsAt K H' ts ps ∧ (ps.map (·.1)).Sublist (xs.take i) ∧ ∀ p ∈ ps, 1 ≤ p.2 ∧ p.2 ≤ m2) ⟨hR.dr.put hD ne, [], [], upd_same, ⟨rfl, fun i t p a => by simp at a⟩, by simp, fun p hp => by cases hp⟩ (fun i H' _ p => hG H' p.1) ?_ ?_
  · rintro i x H1 H2 hi ⟨d, ts, ps, hz, hp, hs, hb⟩ ⟨rfl, hx⟩
    obtain ⟨n, hn, rfl⟩ := getE hx
    have R1 := d.row hR
    refine ⟨S.wip _, drawn_read (S.row _) R1 h0 h1 fun b H3 d3 => ?_⟩
    have hz3 := d3.sb _ _ ne hz
    have hp3 := hp.kp (d3.kp R1)
    have R3 := d3.row R1
    cases b with
    | false => exact iteF ⟨d.trans d3, ts, ps, hz3, hp3, sub_skip hs hn, hb⟩
    | true =>
      refine iteT ⟨_, S.var _, _, S.row _, r, m2, a, rfl, R3, h2, h3, fun v o v0 v1 R4 => ⟨_, _, rfl, rfl, two_le, fun t nt => ?_⟩⟩
      have d4 := Dr.draw R4
      generalize upd H3 r o = H4 at d4 nt ⊢
      have s5 := Same.upd_new (o := .tup [.str n, .int (1 + v)]) nt
      have hz5 := s5 _ _ (d4.sb _ _ ne hz3)
      have d5 := ((d.trans d3).trans d4).same s5
      have hp5 := (hp3.kp (d4.kp R3)).kp s5.kp
      have kpD : ∀ o, Kp K (upd H4 t (.tup [.str n, .int (1 + v)])) (upd (upd H4 t (.tup [.str n, .int (1 + v)])) D o) := fun o => Kp.upd hz5 (fun xs z => by cases z) (fun q xs z => by cases z)
      refine ⟨_, hz5, ?_, d5.put hD ne, ts ++ [t], ps ++ [(n, 1 + v)], ?_, ?_, ?_, ?_⟩
      · rw [List.length_map, hp.1, sizeLine_eq]
        have := sub_len hs
        rw [List.length_map] at this
        omega
      · rw [upd_same, List.map_append]
        rfl
      · exact (hp5.kp (kpD _)).snoc (kpD _ _ _ (.inl (.inl upd_same)))
      · rw [List.map_append]
        exact sub_snoc hs hn
      · intro p hp
        rcases List.mem_append.mp hp with q | q
        · exact hb p q
        · rw [List.mem_singleton.mp q]
          exact ⟨by show 1 ≤ 1 + v; omega, by show 1 + v ≤ m2; omega⟩
  · rintro H2 ⟨d, ts, ps, hz, hp, hs, hb⟩
    rw [List.take_length] at hs
    exact k H2 ts ps d hz hp hs hb
end
end Half

namespace Half
open PySem PySem.Spec PyProof.Rows L2
/-! ### editions with all their parts -/
structure Edn where
  name : Str
  ver : Int
  scr : List Str
  nee : List (Str × Int)
  fir : List (Str × Int)
  aga : List Str
def Edn.ed (e : Edn) : Ed := ⟨e.name, .int e.ver, e.scr, e.nee, e.fir, e.aga⟩
def Edn.key (e : Edn) : Kk := (e.name, e.ver)
abbrev Es : Type := List (Addr × Edn)
def Es.eds (es : Es) : Eds := es.map fun e => (e.1, e.2.key)
def EdX (K : PySem.W.Frag) (H : Hp) (C a : Addr) (e : Edn) : Prop := ∃ s n f g, EdObj K H C a e.ed s n f g
theorem EdX.same {K : PySem.W.Frag} {H H' : Hp} {C a : Addr} {e : Edn} (S : Same H H') (h : EdX K H C a e) : EdX K H' C a e := by
  obtain ⟨s, n, f, g, h⟩ := h
  exact ⟨s, n, f, g, h.same S⟩
theorem inV_str (x : Str) : ∀ ys : List Str, inV (.str x) (ys.map V.str) = has ys x
  | [] => rfl
  | y :: ys => by
    have ih := inV_str x ys
    unfold inV at ih ⊢
    unfold has at ih ⊢
    rw [List.map_cons, List.any_cons, List.any_cons, ih]
    congr 1
theorem dec_str {x y : Str} : decide (V.str x = V.str y) = decide (x = y) := by
  by_cases h : x = y
  · subst h; simp
  · rw [decide_eq_false h, decide_eq_false (fun z => h (by cases z; rfl))]
theorem len_sub {α : Type} [DecidableEq α] {l m : List α} (h : l.Nodup) (s : ∀ z, z ∈ l → z ∈ m) : l.length ≤ m.length := by
  rcases Nat.lt_or_ge m.length l.length with c | c
  · have := (perm_of_len h s (Nat.le_of_lt c)).length_eq
    omega
  · exact c
def AccP (H1 : Hp) (D : Addr) (f : Nat → List V) : Nat → Hp → Prop := fun i H => Same H1 H ∧ H D = some (.lst (f i))
theorem AccP.zero {H1 : Hp} {D : Addr} {f : Nat → List V} (hD : H1 D = none) (h : f 0 = []) : AccP H1 D f 0 (upd H1 D (.lst [])) := ⟨Same.upd_new hD, by rw [upd_same, h]⟩
theorem AccP.step {H1 H H4 : Hp} {D : Addr} {f : Nat → List V} {i : Nat} {y : V} (p : AccP H1 D f i H) (hD : H1 D = none) (hy : f (i + 1) = f i ++ [y]) (hl : (f i).length ≤ 1000) (e : Same H H4) :
    ∃ acc, H4 D = some (.lst acc) ∧ acc.length < sizeLine ∧ AccP H1 D f (i + 1) (upd H4 D (.lst (acc ++ [y]))) := by
  refine ⟨f i, e _ _ p.2, by rw [sizeLine_eq]; omega, fun b o q => ?_, by rw [upd_same, hy]⟩
  rw [upd_ne (ne_of_none q hD)]
  exact e _ _ (p.1 _ _ q)
theorem AccP.skip {H1 H H4 : Hp} {D : Addr} {f : Nat → List V} {i : Nat} (p : AccP H1 D f i H) (hy : f (i + 1) = f i) (e : Same H H4) : AccP H1 D f (i + 1) H4 :=
  ⟨p.1.trans e, by rw [hy]; exact e _ _ p.2⟩
/-- those of a list that are so, mapped -/
def filV {α : Type} (p : α → Bool) (g : α → V) (l : List α) (i : Nat) : List V := ((l.take i).filter p).map g
theorem filV_yes {α : Type} {p : α → Bool} {g : α → V} {l : List α} {i : Nat} {x : α} (h : l[i]? = some x) (c : p x = true) : filV p g l (i + 1) = filV p g l i ++ [g x] := by
  unfold filV
  rw [take_next h, List.filter_append, List.map_append]
  simp [c]
theorem filV_no {α : Type} {p : α → Bool} {g : α → V} {l : List α} {i : Nat} {x : α} (h : l[i]? = some x) (c : p x = false) : filV p g l (i + 1) = filV p g l i := by
  unfold filV
  rw [take_next h, List.filter_append, List.map_append]
  simp [c]
theorem filV_len {α : Type} (p : α → Bool) (g : α → V) (l : List α) (i : Nat) : (filV p g l i).length ≤ l.length := by
  unfold filV
  rw [List.length_map]
  refine Nat.le_trans (List.length_filter_le ..) ?_
  rw [List.length_take]
  omega
theorem walk_strs {K : PySem.W.Frag} {p : Addr} {xs : List Str} : Walk (Itl K p) xs.length (fun H => SqL K H p (xs.map V.str)) (YAt (xs.map V.str)) := by
  have w := walk_list (K := K) (a := p) (xs := xs.map V.str)
  rwa [List.length_map] at w
theorem Dr.lst {r a p : Addr} {H H' : Hp} {xs : List V} (d : Dr r a H H') (ne : p ≠ r) (h : H p = some (.lst xs)) : H' p = some (.lst xs) := d.sb _ _ ne h
structure TxtJ (mg : Str → Option Value) : Prop where
  srt : mg "sorted" = none
  tup : mg "tuple" = none
  set : mg "set" = none
  ran : mg "range" = none
  dic : mg "dict" = none
  len : mg "len" = none
def nth (l : List Stmt) (i : Nat) : Stmt := l.getD i (.Pass ⟨0, 0, 0, 0⟩)
def forBody (s : Stmt) : List Stmt := match s with
  | .For (body := b) .. => b
  | _ => []
theorem NeedsAt.kp {K : PySem.W.Frag} {H H' : Hp} {a : Addr} {ps : List (Str × Int)} (k : Kp K H H') (h : NeedsAt K H a ps) : NeedsAt K H' a ps := by
  obtain ⟨ts, h1, h2, h3⟩ := h
  exact ⟨ts, k _ _ h1, h2, fun i t p q r => k _ _ (h3 i t p q r)⟩
theorem EdAt.kp {K : PySem.W.Frag} {H H' : Hp} {e : Ed} {s n f g : Addr} (k : Kp K H H') (h : EdAt K H e s n f g) : EdAt K H' e s n f g := ⟨k _ _ h.scripts, h.needs.kp k, h.first.kp k, k _ _ h.against⟩
/-- draws, and the list at l may be written -/
structure DrW (r a l : Addr) (H H' : Hp) : Prop where
  sb : ∀ b o, b ≠ r → b ≠ l → H b = some o → H' b = some o
  at_ : ∃ i g z : Int, 0 ≤ i ∧ H' r = some (.lst [.ref a, .int i, .int g, .int z])
section
variable {K : PySem.W.Frag} {r a l : Addr} {H H' H'' : Hp} {ls : Es}
theorem Dr.w (d : Dr r a H H') : DrW r a l H H' := ⟨fun b o n _ q => d.sb b o n q, d.at_⟩
theorem DrW.trans (d : DrW r a l H H') (e : DrW r a l H' H'') : DrW r a l H H'' := ⟨fun b o n m q => e.sb b o n m (d.sb b o n m q), e.at_⟩
theorem DrW.row {xs : List V} (h : Row K H r a) (hl : H l = some (.lst xs)) (na : a ≠ l ∨ ∃ ns : List Int, ns.length ≤ 63 ∧ ∀ H', SqL K H' a (ns.map V.int)) (d : DrW r a l H H') : Row K H' r a := by
  obtain ⟨ns, i, g, z, h1, h2, h3, h4⟩ := h
  obtain ⟨i', g', z', e1, e2⟩ := d.at_
  have zz : HO.lst (ns.map V.int) ≠ HO.lst [.ref a, .int i, .int g, .int z] := fun y => by
    have y' : ns.map V.int = [.ref a, .int i, .int g, .int z] := by injection y
    cases ns with
    | nil => cases y'
    | cons n ns => cases y'
  rcases na with na | ⟨ms, m1, m2⟩
  · refine ⟨ns, i', g', z', e2, ?_, h3, e1⟩
    rcases h2 with (q | ⟨o, q⟩) | q
    · exact .inl (.inl (d.sb _ _ (ne_of q h1 zz) na q))
    · exact .inl (.inr ⟨o, d.sb _ _ (ne_of q h1 (by intro z; cases z)) na q⟩)
    · exact .inr q
  · exact ⟨ms, i', g', z', e2, m2 _, m1, e1⟩
theorem DrW.kp {xs : List V} (h : Row K H r a) (hl : H l = some (.lst xs)) (d : DrW r a l H H') : Kp K H H' := fun b ys q => by
  obtain ⟨zs, hr⟩ := h.at_
  rcases q with (q | ⟨o, q⟩) | q
  · exact .inl (.inl (d.sb _ _ (ne_of q hr (by intro z; cases z)) (ne_of q hl (by intro z; cases z)) q))
  · exact .inl (.inr ⟨o, d.sb _ _ (ne_of q hr (by intro z; cases z)) (ne_of q hl (by intro z; cases z)) q⟩)
  · exact .inr q
end
/-- the drawn parts of an edition of a package with these others -/
structure GoodE (nm : Str) (ver : Int) (os : List Str) (e : Edn) : Prop where
  name : e.name = nm
  ver : e.ver = ver
  scr : e.scr.Sublist SCR
  nee : (e.nee.map (·.1)).Sublist os
  neeV : ∀ p ∈ e.nee, 1 ≤ p.2 ∧ p.2 ≤ 3
  fir : (e.fir.map (·.1)).Sublist os
  firV : ∀ p ∈ e.fir, 1 ≤ p.2 ∧ p.2 ≤ 3
  aga : e.aga.Sublist os
/-- the editions of one name, one for each version -/
def GoodB (nm : Str) (os : List Str) (vs : List Int) (es : Es) : Prop := es.length = vs.length ∧ ∀ (j : Nat) (e : Addr × Edn) (v : Int), es[j]? = some e → vs[j]? = some v → GoodE nm v os e.2
theorem GoodB.snoc {nm : Str} {os : List Str} {vs : List Int} {i : Nat} {es : Es} {t : Addr} {e : Edn} {v : Int} (h : GoodB nm os (vs.take i) es) (hv : vs[i]? = some v) (g : GoodE nm v os e) : GoodB nm os (vs.take (i + 1)) (es ++ [(t, e)]) := by
  rw [take_next hv]
  refine ⟨by rw [List.length_append, List.length_append, h.1]; rfl, fun j x u a b => ?_⟩
  rcases Nat.lt_or_ge j es.length with c | c
  · rw [List.getElem?_append_left c] at a
    rw [List.getElem?_append_left (by rw [← h.1]; exact c)] at b
    exact h.2 j x u a b
  · rw [List.getElem?_append_right c] at a
    rw [List.getElem?_append_right (by rw [← h.1]; exact c)] at b
    have e' : j = es.length := by
      rcases Nat.lt_or_ge es.length j with z | z
      · rw [List.getElem?_eq_none (by show 1 ≤ _; omega)] at a
        cases a
      · omega
    subst e'
    rw [Nat.sub_self] at a
    rw [h.1, Nat.sub_self] at b
    cases a
    cases b
    exact g
abbrev Al (K : PySem.W.Frag) (a l : Addr) : Prop := a ≠ l ∨ ∃ ns : List Int, ns.length ≤ 63 ∧ ∀ H', SqL K H' a (ns.map V.int)
theorem inR_self (v : Int) : inR (.int v) v v = true := by
  show (decide (v ≤ v) && decide (v ≤ v)) = true
  simp
theorem Dr.none {K : PySem.W.Frag} {r a D : Addr} {H H' : Hp} (d : Dr r a H H') (hR : Row K H r a) (h : H' D = none) : H D = none := by
  cases c : H D with
  | none => rfl
  | some o =>
    by_cases z : D = r
    · obtain ⟨i, g, l, _, e⟩ := d.at_
      rw [z, e] at h
      cases h
    · rw [d.sb _ _ z c] at h
      cases h
theorem keys_eds (y : Es) : keysOf y.eds = (y.map (·.2)).map Edn.key := by
  show (y.map fun e => (e.1, e.2.key)).map (·.2) = _
  rw [List.map_map, List.map_map]
  rfl
structure MkSt (P : Program) (w : World) (K : PySem.W.Frag) (mg : Str → Option Value) (base : Heap) (C CT CI : Addr) : Prop where
  ex : ∃ f fd, Mk K CT f ∧ FnOk P w K mg base (L2.CX P w) 4 f fd ["self", "editions"] (spSi K C CT CI) ∧ Binds K fd ["self", "editions"] []
  mgS : mg "Store" = some (.ref CT)
theorem store_read {K : PySem.W.Frag} {C CT CI : Addr} {H : Hp} {x dx t : Addr} {es : Eds} {Q : Hp → Prop} {E : XK} (nx : H x = none) (ndx : H dx = none) (hE : EdsAt K C H t es) (few : es.length ≤ 40) (hw : wrongAt (keysOf es) = none) (k : ∀ H', Same H H' → StObj CT H' x es → Q H') :
    spSi K C CT CI [.ref x, .ref t] (upd (upd H dx (.own x)) x (.ins CT dx [])) (fun v H3 => v = .non ∧ Q H3) E := by
  have S : Same H (upd (upd H dx (.own x)) x (.ins CT dx [])) := fun b o q => by
    rw [upd_ne (ne_of_none q nx), upd_ne (ne_of_none q ndx), q]
  refine ⟨x, t, dx, es, rfl, upd_same, hE.same S, few, fun _ H' sb ho => ⟨rfl, k H' (fun b o q => sb b o (ne_of_none q nx) (S b o q)) ho⟩, fun i hi => ?_⟩
  rw [hw] at hi
  cases hi
theorem EdX.put {K : PySem.W.Frag} {H : Hp} {C a fo : Addr} {e : Edn} {xs : List V} {o : HO} (hf : H fo = some (.lst xs)) (h : EdX K H C a e) : EdX K (upd H fo o) C a e := by
  obtain ⟨s, n, f, g, ⟨dx, p, h1, h2⟩, h3⟩ := h
  have kp : Kp K H (upd H fo o) := Kp.upd hf (fun xs z => by cases z) (fun q xs z => by cases z)
  exact ⟨s, n, f, g, ⟨dx, p, by rw [upd_ne (ne_of h1 hf (by intro z; cases z))]; exact h1, by rw [upd_ne (ne_of h2 hf (by intro z; cases z))]; exact h2⟩, h3.kp kp⟩
theorem EdX.key {K : PySem.W.Frag} {H : Hp} {C a : Addr} {e : Edn} (h : EdX K H C a e) : EdK C H a e.key := by
  obtain ⟨s, n, f, g, ⟨dx, p, h1, h2⟩, _⟩ := h
  exact ⟨dx, p, _, h1, h2⟩
theorem asc_of {l : List Str} (h : l.Pairwise fun a b => strLt a b = true) : ascS l = true := by
  unfold ascS
  refine List.all_eq_true.mpr fun i hi => ?_
  have hi : i < l.length - 1 := List.mem_range.mp hi
  have h1 : i < l.length := by omega
  have h2 : i + 1 < l.length := by omega
  have e1 : l.getD i "" = l[i] := by rw [List.getD_eq_getElem?_getD, List.getElem?_eq_getElem h1]; rfl
  have e2 : l.getD (i + 1) "" = l[i + 1] := by rw [List.getD_eq_getElem?_getD, List.getElem?_eq_getElem h2]; rfl
  rw [e1, e2]
  exact List.pairwise_iff_getElem.mp h i (i + 1) h1 h2 (by omega)
theorem scr_asc : SCR.Pairwise fun a b => strLt a b = true := by decide +kernel
theorem scripts_ok {l : List Str} (h : l.Sublist SCR) : areScripts l = true := by
  unfold areScripts
  rw [asc_of (scr_asc.sublist h), Bool.and_true]
  refine List.all_eq_true.mpr fun z hz => ?_
  rw [inV_str]
  exact has_iff.mpr (h.subset hz)
theorem nodup_take {α : Type} {l : List α} {i : Nat} {x : α} (h : l.Nodup) (hx : l[i]? = some x) : x ∉ l.take i := fun z => by
  have hi := (List.getElem?_eq_some_iff.mp hx).1
  rw [← List.take_append_drop i l] at h
  refine (List.nodup_append.mp h).2.2 x z x ?_ rfl
  rw [List.drop_eq_getElem_cons hi, (List.getElem?_eq_some_iff.mp hx).2]
  exact List.mem_cons_self
theorem pLt_ne {a b : Kk} (h : pLt a b = true) : a ≠ b := fun z => by
  rw [z] at h
  rcases pLt_iff.mp h with q | ⟨_, q⟩
  · have := tx_irr b.1
    rw [q] at this
    cases this
  · omega
/-! ### of states and systems, as in k03 -/
theorem keys_same {ls es : Es} (h : es.map (·.2) = ls.map (·.2)) : keysOf es.eds = keysOf ls.eds := by rw [keys_eds, keys_eds, h]
def Nl (H H' : Hp) : Prop := ∀ b o, H b = some o → (∀ xs, o ≠ .lst xs) → H' b = some o
theorem Dr.nl {K : PySem.W.Frag} {r a : Addr} {H H' : Hp} (h : Row K H r a) (d : Dr r a H H') : Nl H H' := fun b o q n => by
  obtain ⟨xs, hr⟩ := h.at_
  refine d.sb b o (fun z => ?_) q
  rw [z, hr] at q
  cases q
  exact n xs rfl
theorem StObj.nl {CT : Addr} {H H' : Hp} {st : Addr} {es : Eds} (k : Nl H H') (h : StObj CT H st es) : StObj CT H' st es := by
  obtain ⟨⟨dy, tb, nb, h1, h2, h3⟩, one⟩ := h
  obtain ⟨ys', a, b, kvs', g1, g2, g3⟩ := h3
  exact ⟨⟨dy, tb, nb, k _ _ h1 (by intro _ z; cases z), k _ _ h2 (by intro _ z; cases z), ys', a, b, kvs', k _ _ g1 (by intro _ z; cases z), g2, fun nm hm => let ⟨t, a, b⟩ := g3 nm hm; ⟨t, a, k _ _ b (by intro _ z; cases z)⟩⟩, one⟩
theorem EdX.nl {K : PySem.W.Frag} {C a : Addr} {H H' : Hp} {e : Edn} (k : Nl H H') (kp : Kp K H H') (h : EdX K H C a e) : EdX K H' C a e := by
  obtain ⟨s, n, f, g, ⟨dx, p, h1, h2⟩, h3⟩ := h
  exact ⟨s, n, f, g, ⟨dx, p, k _ _ h1 (by intro _ z; cases z), k _ _ h2 (by intro _ z; cases z)⟩, h3.kp kp⟩
end Half

namespace Half
open PySem PySem.Spec PyProof.Rows L2
/-! ### part two: one edition, drawn and made -/
theorem walkT_strs {K : PySem.W.Frag} {p : Addr} {xs : List Str} : Walk (Itt K p) xs.length (fun H => SqT K H p (xs.map V.str)) (YAt (xs.map V.str)) := by
  have w := walk_tup (K := K) (a := p) (xs := xs.map V.str)
  rwa [List.length_map] at w
theorem DrW.nl {K : PySem.W.Frag} {r a l : Addr} {H H' : Hp} {xs : List V} (h : Row K H r a) (hl : H l = some (.lst xs)) (d : DrW r a l H H') : Nl H H' := fun b o q n => by
  obtain ⟨zs, hr⟩ := h.at_
  refine d.sb b o (fun z => ?_) (fun z => ?_) q
  · rw [z, hr] at q
    cases q
    exact n _ rfl
  · rw [z, hl] at q
    cases q
    exact n _ rfl
/-- [x for x in xs if taken(row, m) > 0] -/
abbrev tMore (K : PySem.W.Frag) (ir : Nat) (m : Int) : TT := tTest (tOp (rI0 fun i j => .bl (decide (j < i))) (tCall (spTaken K) [] E0 (tCons (tVar ir) (tCons (tC (.int m)) tNil))) (tC (.int 0)))
theorem more_read {K : PySem.W.Frag} {r a : Addr} {ir : Nat} {m : Int} {σ : L2.St} {H : Hp} {Q : Bool → Hp → Prop} (hs : σ[ir]? = some (some (.ref r))) (h : Row K H r a) (h0 : 0 < m) (h1 : m < 1073741824) (k : ∀ b H', Dr r a H H' → Q b H') : tMore K ir m σ H Q := by
  exact ⟨_, hs, r, m, a, rfl, h, h0, h1, fun v o _ _ R => ⟨_, _, rfl, rfl, _, rfl, k _ _ (Dr.draw R)⟩⟩
section
variable {K : PySem.W.Frag} {r a D : Addr} {ir iv : Nat} {m : Int} {xs : List Str} {σ : L2.St} {H : Hp} {Qd : Hp → Prop} {J : It} {G : Hp → Prop}
theorem draw_more (wk : Walk J xs.length G (YAt (xs.map V.str))) (hG : ∀ H', Dr r a H H' → G H') (hR : Row K H r a) (few : xs.length ≤ 40) (h0 : 0 < m) (h1 : m < 1073741824) (S : Slot1 σ ir iv r) (hD : H D = none)
    (k : ∀ H' (zs : List Str), Dr r a H H' → H' D = some (.lst (zs.map V.str)) → zs.Sublist xs → Qd H') : LcW J (gName iv) (tMore K ir m) (tVar iv) [iv] σ H D Qd := by
  have ne := hR.ne hD
  refine lc_it wk (fun i H' => Dr r a H H' ∧ ∃ zs : List Str, H' D = some (.lst (zs.map V.str)) ∧ zs.Sublist (xs.take i)) ⟨hR.dr.put hD ne, [], upd_same, by simp⟩ (fun i H' _ p => hG H' p.1) ?_ ?_
  · rintro i x H1 H2 hi ⟨d, zs, hz, hs⟩ ⟨rfl, hx⟩
    obtain ⟨n, hn, rfl⟩ := getE hx
    refine ⟨S.wip _, more_read (S.row _) (d.row hR) h0 h1 fun b H3 d3 => ?_⟩
    have hz3 := d3.sb _ _ ne hz
    cases b with
    | false => exact iteF ⟨d.trans d3, zs, hz3, sub_skip hs hn⟩
    | true =>
      refine iteT ⟨_, S.var _, _, hz3, ?_, ?_, zs ++ [n], ?_, sub_snoc hs hn⟩
      · rw [List.length_map, sizeLine_eq]
        have := sub_len hs
        omega
      · exact (d.trans d3).put hD ne
      · rw [upd_same, List.map_append]
        rfl
  · rintro H2 ⟨d, zs, hz, hs⟩
    rw [List.take_length] at hs
    exact k H2 zs d hz hs
/-- [(x, 1) for x in xs if taken(row, m) == 0] -/
theorem draw_ones (wk : Walk J xs.length G (YAt (xs.map V.str))) (hG : ∀ H', Dr r a H H' → G H') (hR : Row K H r a) (few : xs.length ≤ 40) (h0 : 0 < m) (h1 : m < 1073741824) (S : Slot1 σ ir iv r) (hD : H D = none)
    (k : ∀ H' ts ps, Dr r a H H' → H' D = some (.lst (ts.map V.ref)) → PairsAt K H' ts ps → (ps.map (·.1)).Sublist xs → (∀ p ∈ ps, 1 ≤ p.2 ∧ p.2 ≤ 1) → Qd H') :
    LcW J (gName iv) (tDrawn K ir m) (tTup (tCons (tVar iv) (tCons (tC (.int 1)) tNil))) [iv] σ H D Qd := by
  have ne := hR.ne hD
  refine lc_it wk (fun i H' => Dr r a H H' ∧ ∃ ts ps, H' D = some (.lst (ts.map V.ref)) ∧ PairsAt K H' ts ps ∧ (ps.map (·.1)).Sublist (xs.take i) ∧ ∀ p ∈ ps, 1 ≤ p.2 ∧ p.2 ≤ 1) ⟨hR.dr.put hD ne, [], [], upd_same, ⟨rfl, fun i t p a => by simp at a⟩, by simp, fun p hp => by cases hp⟩ (fun i H' _ p => hG H' p.1) ?_ ?_
  · rintro i x H1 H2 hi ⟨d, ts, ps, hz, hp, hs, hb⟩ ⟨rfl, hx⟩
    obtain ⟨n, hn, rfl⟩ := getE hx
    have R1 := d.row hR
    refine ⟨S.wip _, drawn_read (S.row _) R1 h0 h1 fun b H3 d3 => ?_⟩
    have hz3 := d3.sb _ _ ne hz
    have hp3 := hp.kp (d3.kp R1)
    cases b with
    | false => exact iteF ⟨d.trans d3, ts, ps, hz3, hp3, sub_skip hs hn, hb⟩
    | true =>
      refine iteT ⟨_, S.var _, two_le, fun t nt => ?_⟩
      have s5 := Same.upd_new (o := .tup [.str n, .int 1]) nt
      have hz5 := s5 _ _ hz3
      have d5 := (d.trans d3).same s5
      have hp5 := hp3.kp s5.kp
      have kpD : ∀ o, Kp K (upd H3 t (.tup [.str n, .int 1])) (upd (upd H3 t (.tup [.str n, .int 1])) D o) := fun o => Kp.upd hz5 (fun xs z => by cases z) (fun q xs z => by cases z)
      refine ⟨_, hz5, ?_, d5.put hD ne, ts ++ [t], ps ++ [(n, 1)], ?_, ?_, ?_, ?_⟩
      · rw [List.length_map, hp.1, sizeLine_eq]
        have := sub_len hs
        rw [List.length_map] at this
        omega
      · rw [upd_same, List.map_append]
        rfl
      · exact (hp5.kp (kpD _)).snoc (kpD _ _ _ (.inl (.inl upd_same)))
      · rw [List.map_append]
        exact sub_snoc hs hn
      · intro p hp
        rcases List.mem_append.mp hp with q | q
        · exact hb p q
        · rw [List.mem_singleton.mp q]
          exact ⟨Int.le_refl _, Int.le_refl _⟩
  · rintro H2 ⟨d, ts, ps, hz, hp, hs, hb⟩
    rw [List.take_length] at hs
    exact k H2 ts ps d hz hp hs hb
end
abbrev sSto : Stmt := top 40
abbrev StoN : List Str := ["_law_row", "_law_most", "_law_names", "_law_found", "_law_name", "_law_others", "_law_number", "_law_own", "_law_wants", "_law_asks", "_law_shuns", "_law_other", "_law_word"]
theorem scSto : FnScope StoN ["_law_row", "_law_most"] (defScope sSto) := ⟨rfl, rfl, rfl, by decide +kernel, rfl, by decide +kernel, by decide +kernel⟩
/-- the editions that are found so far -/
structure FEd (K : PySem.W.Frag) (H : Hp) (C l : Addr) (ls : Es) : Prop where
  at_ : H l = some (.lst (ls.map fun e => .ref e.1))
  ed : ∀ e ∈ ls, EdX K H C e.1 e.2
def PN4 : List Str := ["app", "db", "lib", "web"]
theorem pn4_lt : PN4.Pairwise fun a b => strLt a b = true := by decide +kernel
theorem pn4_ok : ∀ x ∈ PN4, PyData.strOk x = true ∧ isWord x = true ∧ x.length ≤ 1000 := by
  intro x h
  unfold PN4 at h
  simp only [List.mem_cons, List.not_mem_nil, or_false] at h
  rcases h with rfl | rfl | rfl | rfl <;> decide +kernel
theorem others4_ok {l : List Str} {nm : Str} (h : l.Sublist PN4) (hn : nm ∉ l) : areOthers l nm = true := by
  unfold areOthers
  rw [asc_of (pn4_lt.sublist h), Bool.and_true]
  refine List.all_eq_true.mpr fun z hz => ?_
  have ne : ¬ z = nm := fun e => hn (by rw [← e]; exact hz)
  rw [(pn4_ok z (h.subset hz)).2.1, dec_str, decide_eq_false ne]
  rfl
theorem needs4_ok {ps : List (Str × Int)} {nm : Str} (h : (ps.map (·.1)).Sublist PN4) (hn : nm ∉ ps.map (·.1)) (hv : ∀ p ∈ ps, 1 ≤ p.2 ∧ p.2 ≤ 3) : areNeeds ps nm = true := by
  unfold areNeeds
  rw [others4_ok h hn, Bool.and_true]
  refine List.all_eq_true.mpr fun p hp => ?_
  obtain ⟨a, b⟩ := hv p hp
  show (decide (1 ≤ p.2) && decide (p.2 ≤ 99)) = true
  rw [decide_eq_true a, decide_eq_true (by omega : p.2 ≤ 99)]
  rfl
/-- an edition that is drawn so has nothing wrong -/
theorem GoodE.right {nm : Str} {ver : Int} {os : List Str} {e : Edn} (g : GoodE nm ver os e) (hn : nm ∈ PN4) (v1 : 1 ≤ ver) (v2 : ver ≤ 99) (hos : os.Sublist PN4) (hno : nm ∉ os) : e.ed.Small ∧ e.ed.wrong = none := by
  have en := g.name
  have n1 := g.nee.trans hos
  have n2 := g.fir.trans hos
  have n3 := g.aga.trans hos
  have ok := pn4_ok _ hn
  have len4 : ∀ {l : List Str}, l.Sublist PN4 → l.length ≤ 4 ∧ ∀ z ∈ l, PyData.strOk z = true ∧ z.length ≤ 1000 := fun s => ⟨s.length_le, fun z hz => ⟨(pn4_ok z (s.subset hz)).1, (pn4_ok z (s.subset hz)).2.2⟩⟩
  have c2 : inR (.int e.ver) 1 99 = true := by
    rw [g.ver]
    show (decide (1 ≤ ver) && decide (ver ≤ 99)) = true
    rw [decide_eq_true v1, decide_eq_true v2]
    rfl
  have c3 := scripts_ok g.scr
  have c4 : areNeeds e.nee e.name = true := by rw [en]; exact needs4_ok n1 (fun z => hno (g.nee.subset z)) g.neeV
  have c5 : areNeeds e.fir e.name = true := by rw [en]; exact needs4_ok n2 (fun z => hno (g.fir.subset z)) g.firV
  have c6 : areOthers e.aga e.name = true := by rw [en]; exact others4_ok n3 (fun z => hno (g.aga.subset z))
  have c1 : isWord e.name = true := by rw [en]; exact ok.2.1
  have sl : ∀ {ps : List (Str × Int)}, (ps.map (·.1)).Sublist PN4 → ps.length ≤ 100 ∧ ∀ p ∈ ps, p.1.length ≤ 1000 := fun s => by
    obtain ⟨a, b⟩ := len4 s
    rw [List.length_map] at a
    exact ⟨by omega, fun p hp => (b p.1 (List.mem_map.mpr ⟨p, hp, rfl⟩)).2⟩
  refine ⟨⟨by show e.name.length ≤ 1000; rw [en]; exact ok.2.2, .inl ⟨_, rfl⟩, ?_, sl n1, sl n2, ⟨Nat.le_trans (len4 n3).1 (by decide), fun z hz => ((len4 n3).2 z hz).2⟩⟩, ?_⟩
  · have := g.scr.length_le
    exact Nat.le_trans this (by decide)
  · unfold Ed.wrong Ed.checks Edn.ed
    simp only [c1, c2, c3, c4, c5, c6]
    rfl
section
variable {P : Program} {w : World} {K : PySem.W.Frag} {mg : Str → Option Value} {base : Heap} {C CE f0 : Addr} {fd0 : FuncData} {aS z1 z2 z3 : Addr}
theorem sto_end {f : Addr} {cdv : Value} {A : Around} {outer : List Env} {s : Shared} {H0 : Hp} {E : XK} (gT : mg "tuple" = none) (dT : Def P w K mg base 1 "_law_taken" ["_law_row", "_law_many"] (spTaken K)) (Di : EdF P w K mg base C CE f0 fd0 aS z1 z2 z3)
    (hr : Room 7 (A.deeper (envOfC "_law_store" (defScope sSto) s.heap.objs.size f cdv))) (nd : StoN.Nodup) :
    ∃ t, PSs (cxOf CX0 P w K mg base StoN "_law_store" (defScope sSto) f cdv A outer s H0 E).nox (forBody (nth (forBody (nth (defBody sSto) 1)) 1)) t ∧ ∀ (D' : Ends) (H : Hp) (r a l lo : Addr) (os : List Str) (nm : Str) (ver : Int) (ls : Es) (x1 x2 x7 x8 x9 x10 x11 x12 : Option V),
      Row K H r a → FEd K H C l ls → l ≠ r → H lo = some (.lst (os.map V.str)) → lo ≠ r → lo ≠ l → os.length ≤ 40 → ls.length ≤ 40 → nm ∈ PN4 → 1 ≤ ver → ver ≤ 99 → os.Sublist PN4 → nm ∉ os →
      (∀ t e H' x7 x8 x9 x10, GoodE nm ver os e → DrW r a l H H' → FEd K H' C l (ls ++ [(t, e)]) → D'.nx [some (.ref r), x1, x2, some (.ref l), some (.str nm), some (.ref lo), some (.int ver), x7, x8, x9, x10, x11, x12] H') →
      t D' [some (.ref r), x1, x2, some (.ref l), some (.str nm), some (.ref lo), some (.int ver), x7, x8, x9, x10, x11, x12] H := by
  have r1 : Room 1 _ := hr.mono (by decide)
  obtain ⟨gg, hb⟩ := Di.kb4
  refine ⟨_, pss_cons (ps_set (i := 7) nd rfl (Or.inl rfl) (pe_callTy call_tuple_of (by rfl) gT (by decide +kernel) (pa_cons
        (pe_lc (own := [("_law_word", 12)]) (g := gName 12) (tt := tMore K 0 4) (te := tVar 12) rfl nd (pi_tup (pe_tup (pa_cons pe_str (pa_cons pe_str (pa_cons pe_str (pa_cons pe_str pa_nil)))))) (blkOk_by (N := StoN) (sc := defScope sSto) (by decide +kernel))
          (fun _ _ _ _ _ => pg_name (i := 12) nd rfl (Or.inl rfl)) (fun _ _ _ _ _ => pts_one (pt_cmpR op_gt (pe_def dT r1 rfl (pa_cons (pv 0) (pa_cons pe_int pa_nil))) pe_int (nomark _))) (fun _ _ _ _ _ => pv 12)) pa_nil)))
    (pss_cons (ps_set (i := 8) nd rfl (Or.inl rfl) (pe_callTy call_tuple_of (by rfl) gT (by decide +kernel) (pa_cons
        (pe_lc (own := [("_law_other", 11)]) (g := gName 11) (tt := tDrawn K 0 4) (te := tTup (tCons (tVar 11) (tCons (tOp (rI0 fun i j => .int (i + j)) (tC (.int 1)) (tCall (spTaken K) [] E0 (tCons (tVar 0) (tCons (tC (.int 2)) tNil)))) tNil))) rfl nd (pi_list (pv 5)) (blkOk_by (N := StoN) (sc := defScope sSto) (by decide +kernel))
          (fun _ _ _ _ _ => pg_name (i := 11) nd rfl (Or.inl rfl)) (fun _ _ _ _ _ => pts_one (pt_cmpR op_eq (pe_def dT r1 rfl (pa_cons (pv 0) (pa_cons pe_int pa_nil))) pe_int (nomark _))) (fun _ _ _ _ _ => pe_tup (pa_cons (pv 11) (pa_cons (pe_op op_add pe_int (pe_def dT r1 rfl (pa_cons (pv 0) (pa_cons pe_int pa_nil)))) pa_nil)))) pa_nil)))
    (pss_cons (ps_set (i := 9) nd rfl (Or.inl rfl) (pe_callTy call_tuple_of (by rfl) gT (by decide +kernel) (pa_cons
        (pe_lc (own := [("_law_other", 11)]) (g := gName 11) (tt := tDrawn K 0 9) (te := tTup (tCons (tVar 11) (tCons (tC (.int 1)) tNil))) rfl nd (pi_list (pv 5)) (blkOk_by (N := StoN) (sc := defScope sSto) (by decide +kernel))
          (fun _ _ _ _ _ => pg_name (i := 11) nd rfl (Or.inl rfl)) (fun _ _ _ _ _ => pts_one (pt_cmpR op_eq (pe_def dT r1 rfl (pa_cons (pv 0) (pa_cons pe_int pa_nil))) pe_int (nomark _))) (fun _ _ _ _ _ => pe_tup (pa_cons (pv 11) (pa_cons pe_int pa_nil)))) pa_nil)))
    (pss_cons (ps_set (i := 10) nd rfl (Or.inl rfl) (pe_callTy call_tuple_of (by rfl) gT (by decide +kernel) (pa_cons
        (pe_lc (own := [("_law_other", 11)]) (g := gName 11) (tt := tDrawn K 0 9) (te := tVar 11) rfl nd (pi_list (pv 5)) (blkOk_by (N := StoN) (sc := defScope sSto) (by decide +kernel))
          (fun _ _ _ _ _ => pg_name (i := 11) nd rfl (Or.inl rfl)) (fun _ _ _ _ _ => pts_one (pt_cmpR op_eq (pe_def dT r1 rfl (pa_cons (pv 0) (pa_cons pe_int pa_nil))) pe_int (nomark _))) (fun _ _ _ _ _ => pv 11)) pa_nil)))
    (pss_one (ps_expr (pe_bm PySem.F.plainAttrs_list PySem.F.slot_list_append PySem.F.type_list_append mt_append (pv 3) (pa_cons
        (pe_makeK (n := 2) Di.make Di.ok hr rfl Di.mgC hb passL (pa_cons (pv 4) (pa_cons (pv 6) pa_nil))
          (pk_cons (pv 7) (pk_cons (pv 8) (pk_cons (pv 9) (pk_cons (pv 10) pk_nil))))) pa_nil))))))), ?_⟩
  intro D' H r a l lo os nm ver ls x1 x2 x7 x8 x9 x10 x11 x12 hR hL nlr ho nor nol few fewl hnm v1 v2 hos hno k
  have sl : ∀ x7 x8 x9 x10 : Option V, Slot1 [some (.ref r), x1, x2, some (.ref l), some (.str nm), some (.ref lo), some (.int ver), x7, x8, x9, x10, x11, x12] 0 11 r := fun _ _ _ _ => ⟨fun _ => rfl, fun _ => rfl, fun _ => rfl⟩
  have sl2 : ∀ x7 x8 x9 x10 : Option V, Slot1 [some (.ref r), x1, x2, some (.ref l), some (.str nm), some (.ref lo), some (.int ver), x7, x8, x9, x10, x11, x12] 0 12 r := fun _ _ _ _ => ⟨fun _ => rfl, fun _ => rfl, fun _ => rfl⟩
  refine ⟨(by show 4 ≤ sizeLine; decide), fun tw nw => ?_⟩
  have s0 := Same.upd_new (o := .tup (SCR.map V.str)) nw
  have d0 := hR.of s0
  have R0 := hR.same' s0
  have g0 : SqT K (upd H tw (.tup (SCR.map V.str))) tw (SCR.map V.str) := .inl (.inl upd_same)
  have e0 : (upd H tw (.tup [.str "clean", .str "enter", .str "leave", .str "setup"])) = upd H tw (.tup (SCR.map V.str)) := rfl
  rw [e0]
  generalize upd H tw (.tup (SCR.map V.str)) = H00 at d0 R0 g0 ⊢
  refine ⟨tw, rfl, ⟨_, g0⟩, fun D hD => draw_more walkT_strs (fun H' d => d.kp R0 _ _ g0) R0 (by decide) (by decide) (by decide) (sl2 _ _ _ _) hD (fun H1 hs d1 hz1 hsub => ?_)⟩
  refine ⟨D, _, rfl, .inl ⟨SqL.of hz1, fun ph nph => ?_⟩⟩
  have s1 := Same.upd_new (o := .tup (hs.map V.str)) nph
  have d1' := (d0.trans d1).same s1
  have R1' := (d1.row R0).same' s1
  have gh : SqT K (upd H1 ph (.tup (hs.map V.str))) ph (hs.map V.str) := .inl (.inl upd_same)
  have ho1 := d1'.lst nor ho
  generalize upd H1 ph (.tup (hs.map V.str)) = H1' at d1' R1' gh ho1 ⊢
  refine ⟨_, rfl, lo, rfl, ⟨_, SqL.of ho1⟩, fun D2 hD2 => draw_pairs walk_strs (fun H' d => SqL.of (d.lst nor ho1)) R1' few (by decide) (by decide) (by decide) (by decide) (sl _ _ _ _) hD2 (fun H2 ts2 ps2 d2 hz2 hp2 hs2 hb2 => ?_)⟩
  refine ⟨D2, _, rfl, .inl ⟨SqL.of hz2, fun p2 np2 => ?_⟩⟩
  have s2 := Same.upd_new (o := .tup (ts2.map V.ref)) np2
  have d2' := d2.same s2
  have R2' := (d2.row R1').same' s2
  have n2 : NeedsAt K (upd H2 p2 (.tup (ts2.map V.ref))) p2 ps2 := ⟨ts2, .inl (.inl upd_same), hp2.1, fun i t p a b => s2.sqT (hp2.2 i t p a b)⟩
  have ho2 := d2'.lst nor ho1
  generalize upd H2 p2 (.tup (ts2.map V.ref)) = H2' at d2' R2' n2 ho2 ⊢
  refine ⟨_, rfl, lo, rfl, ⟨_, SqL.of ho2⟩, fun D3 hD3 => draw_ones walk_strs (fun H' d => SqL.of (d.lst nor ho2)) R2' few (by decide) (by decide) (sl _ _ _ _) hD3 (fun H3 ts3 ps3 d3 hz3 hp3 hs3 hb3 => ?_)⟩
  refine ⟨D3, _, rfl, .inl ⟨SqL.of hz3, fun p3 np3 => ?_⟩⟩
  have s3 := Same.upd_new (o := .tup (ts3.map V.ref)) np3
  have d3' := d3.same s3
  have R3' := (d3.row R2').same' s3
  have n3 : NeedsAt K (upd H3 p3 (.tup (ts3.map V.ref))) p3 ps3 := ⟨ts3, .inl (.inl upd_same), hp3.1, fun i t p a b => s3.sqT (hp3.2 i t p a b)⟩
  have ho3 := d3'.lst nor ho2
  generalize upd H3 p3 (.tup (ts3.map V.ref)) = H3' at d3' R3' n3 ho3 ⊢
  refine ⟨_, rfl, lo, rfl, ⟨_, SqL.of ho3⟩, fun D4 hD4 => draw_names walk_strs (fun H' d => SqL.of (d.lst nor ho3)) R3' few (by decide) (by decide) (sl _ _ _ _) hD4 (fun H4 gs d4 hz4 hs4 => ?_)⟩
  refine ⟨D4, _, rfl, .inl ⟨SqL.of hz4, fun p4 np4 => ?_⟩⟩
  have s4 := Same.upd_new (o := .tup (gs.map V.str)) np4
  have d4' := d4.same s4
  have R4' := (d4.row R3').same' s4
  have g4 : SqT K (upd H4 p4 (.tup (gs.map V.str))) p4 (gs.map V.str) := .inl (.inl upd_same)
  generalize upd H4 p4 (.tup (gs.map V.str)) = H4' at d4' R4' g4 ⊢
  have dA := d1'.trans (d2'.trans (d3'.trans d4'))
  have gl := dA.sb _ _ nlr hL.at_
  have nlA := dA.nl hR
  have kpA := dA.kp hR
  let e : Edn := ⟨nm, ver, hs, ps2, ps3, gs⟩
  have ge : GoodE nm ver os e := ⟨rfl, rfl, hsub, hs2, fun p hp => ⟨(hb2 p hp).1, by have := (hb2 p hp).2; omega⟩, hs3, fun p hp => ⟨(hb3 p hp).1, by have := (hb3 p hp).2; omega⟩, hs4⟩
  obtain ⟨sm, wr⟩ := ge.right hnm v1 v2 hos hno
  have hE : EdAt K H4' e.ed ph p2 p3 p4 := ⟨(d2'.trans (d3'.trans d4')).kp R1' _ _ gh, (n2.kp ((d3'.trans d4').kp R2')), n3.kp (d4'.kp R3'), g4⟩
  refine ⟨_, rfl, .inl ⟨rfl, _, SqL.of gl⟩, _, rfl, _, rfl, _, rfl, _, rfl, _, rfl, _, rfl, rfl, rfl, fun x dx nx ndx nxx => ?_⟩
  refine mk_read (e := e.ed) nx ndx hE sm wr fun H5 s5 hobj => ?_
  have g5 := s5 _ _ gl
  have dB := dA.same s5
  refine ⟨l, _, _, rfl, rfl, g5, by rw [List.length_map, sizeLine_eq]; omega, ?_⟩
  refine k x e _ _ _ _ _ ge ⟨fun b o n m q => ?_, ?_⟩ ⟨?_, fun y hy => ?_⟩
  · rw [upd_ne m]
    exact dB.sb b o n q
  · obtain ⟨i, g, z, c1, c2⟩ := dB.at_
    exact ⟨i, g, z, c1, by rw [upd_ne (Ne.symm nlr)]; exact c2⟩
  · rw [upd_same, List.map_append]
    rfl
  · rcases List.mem_append.mp hy with q | q
    · exact (((hL.ed y q).nl nlA kpA).same s5).put g5
    · rw [List.mem_singleton.mp q]
      exact EdX.put g5 ⟨ph, p2, p3, p4, hobj⟩
end
end Half

namespace Half
open PySem PySem.Spec PyProof.Rows L2
/-! ### part two: the drawn store -/
def owW (ns : List Str) : List Str := ns ++ [("web" : Str)]
theorem one_leU : 1 ≤ sizeLine := by decide
theorem FEd.same {K : PySem.W.Frag} {C l : Addr} {H H' : Hp} {ls : Es} (S : Same H H') (h : FEd K H C l ls) : FEd K H' C l ls := ⟨S _ _ h.at_, fun e he => (h.ed e he).same S⟩
theorem FEd.dr {K : PySem.W.Frag} {C r a l : Addr} {H H' : Hp} {ls : Es} (hR : Row K H r a) (ne : l ≠ r) (d : Dr r a H H') (h : FEd K H C l ls) : FEd K H' C l ls := ⟨d.sb _ _ ne h.at_, fun e he => (h.ed e he).nl (d.nl hR) (d.kp hR)⟩
section
variable {P : Program} {w : World} {K : PySem.W.Frag} {mg : Str → Option Value} {base : Heap} {C CE f0 : Addr} {fd0 : FuncData} {aS z1 z2 z3 : Addr}
theorem sto_name {f : Addr} {cdv : Value} {A : Around} {outer : List Env} {s : Shared} {H0 : Hp} {E : XK} (gT : mg "tuple" = none) (dT : Def P w K mg base 1 "_law_taken" ["_law_row", "_law_many"] (spTaken K)) (Di : EdF P w K mg base C CE f0 fd0 aS z1 z2 z3)
    (hr : Room 7 (A.deeper (envOfC "_law_store" (defScope sSto) s.heap.objs.size f cdv))) (nd : StoN.Nodup) :
    ∃ t, PSs (cxOf CX0 P w K mg base StoN "_law_store" (defScope sSto) f cdv A outer s H0 E).nox (forBody (nth (defBody sSto) 1)) t ∧ ∀ (D' : Ends) (H : Hp) (r a l ln : Addr) (ns : List Str) (nm : Str) (ls : Es) (x1 x5 x6 x7 x8 x9 x10 x11 x12 : Option V),
      Row K H r a → FEd K H C l ls → l ≠ r → Al K a l → H ln = some (.lst (ns.map V.str)) → ln ≠ r → ln ≠ l → ns.length ≤ 3 → ls.length ≤ 30 → nm ∈ PN4 → (owW ns).Sublist PN4 →
      (∀ (vs : List Int) (es : Es) H' x5 x6 x7 x8 x9 x10, GoodB nm ((owW ns).filter fun o => !decide (o = nm)) vs es → vs.Pairwise (· < ·) → (∀ v ∈ vs, 1 ≤ v ∧ v ≤ 3) → vs ≠ [] → vs.length ≤ 2 → DrW r a l H H' → FEd K H' C l (ls ++ es) → D'.nx [some (.ref r), x1, some (.ref ln), some (.ref l), some (.str nm), x5, x6, x7, x8, x9, x10, x11, x12] H') →
      t D' [some (.ref r), x1, some (.ref ln), some (.ref l), some (.str nm), x5, x6, x7, x8, x9, x10, x11, x12] H := by
  have r1 : Room 1 _ := hr.mono (by decide)
  obtain ⟨tB, hB, rdB⟩ := sto_end (P := P) (w := w) (K := K) (mg := mg) (base := base) (f := f) (cdv := cdv) (A := A) (outer := outer) (s := s) (H0 := H0) (E := E) gT dT Di hr nd
  refine ⟨_, pss_cons (ps_setLc (i := 5) (own := [("_law_other", 11)]) (g := gName 11) (tt := tTest (tOp rNe (tVar 11) (tVar 4))) (te := tVar 11) rfl nd rfl rfl (sw_true rfl rfl rfl (by decide +kernel)) (pi_list (pe_op op_cat (pv 2) (pe_lst (pa_cons pe_str pa_nil)))) (blkOk_by (N := StoN) (sc := defScope sSto) (by decide +kernel))
      (fun _ _ _ _ _ => pg_name (i := 11) nd rfl (Or.inl rfl)) (fun _ _ _ _ _ => pts_one (pt_cmpR op_ne (pv 11) (pv 4) (nomark _))) (fun _ _ _ _ _ => pv 11))
    (pss_one (ps_for PassesOwn.never rfl (pi_list (pe_ix ix_list (pe_lst (pa_cons (pe_lst (pa_cons pe_int pa_nil)) (pa_cons (pe_lst (pa_cons pe_int pa_nil)) (pa_cons (pe_lst (pa_cons pe_int (pa_cons pe_int pa_nil))) (pa_cons (pe_lst (pa_cons pe_int (pa_cons pe_int pa_nil))) pa_nil))))) (pe_def dT r1 rfl (pa_cons (pv 0) (pa_cons pe_int pa_nil))) (fun _ _ => rfl))) (pg_name (i := 6) nd rfl (Or.inl rfl)) hB)), ?_⟩
  intro D' H r a l ln ns nm ls x1 x5 x6 x7 x8 x9 x10 x11 x12 hR hL nlr al hn nnr nnl few fewl hnm hpn k
  -- the others
  refine ⟨_, rfl, one_leU, fun pw nw => ?_⟩
  have q0 := Same.upd_new (o := .lst [.str "web"]) nw
  have gw : (upd H pw (.lst [.str "web"])) pw = some (.lst [.str "web"]) := upd_same
  have hn0 := q0 _ _ hn
  generalize upd H pw (.lst [.str "web"]) = Ha at q0 gw hn0 ⊢
  refine ⟨ln, pw, _, _, rfl, rfl, hn0, gw, by rw [List.length_map, sizeLine_eq]; show _ + 1 ≤ _; omega, fun pc nc => ?_⟩
  have ew : (ns.map V.str ++ [.str "web"]) = (owW ns).map V.str := by unfold owW; rw [List.map_append]; rfl
  rw [ew]
  have q1 := Same.upd_new (o := .lst ((owW ns).map V.str)) nc
  have gc : (upd Ha pc (.lst ((owW ns).map V.str))) pc = some (.lst ((owW ns).map V.str)) := upd_same
  have q01 := q0.trans q1
  generalize upd Ha pc (.lst ((owW ns).map V.str)) = Hb at q01 gc ⊢
  have owl : (owW ns).length ≤ 4 := by unfold owW; rw [List.length_append]; show ns.length + 1 ≤ 4; omega
  refine ⟨pc, rfl, ⟨_, SqL.of gc⟩, fun D hD => lc_it walk_strs (AccP Hb D (filV (fun o => !decide (o = nm)) V.str (owW ns))) (AccP.zero hD rfl) (fun _ _ _ p => SqL.of (p.1 _ _ gc)) ?_ ?_⟩
  · rintro i x H1 H2 hi p ⟨rfl, hx⟩
    obtain ⟨o, ho, rfl⟩ := getE hx
    refine ⟨rfl, _, rfl, _, rfl, rfl, _, rfl, ?_⟩
    rw [dec_str]
    cases c : !decide (o = nm) with
    | true =>
      refine iteT ⟨_, rfl, ?_⟩
      exact p.step hD (filV_yes ho c) (Nat.le_trans (filV_len ..) (by omega)) (Same.refl _)
    | false =>
      refine iteF ?_
      exact p.skip (filV_no ho c) (Same.refl _)
  intro H1 p
  have s1 := q01.trans p.1
  have hD1 : H1 D = some (.lst (((owW ns).filter fun o => !decide (o = nm)).map V.str)) := by
    have := p.2
    rw [this]
    unfold filV
    rw [List.take_length]
  have oslen : ((owW ns).filter fun o => !decide (o = nm)).length ≤ 40 := Nat.le_trans (List.length_filter_le ..) (by omega)
  have osub : ((owW ns).filter fun o => !decide (o = nm)).Sublist PN4 := List.filter_sublist.trans hpn
  have osno : nm ∉ (owW ns).filter fun o => !decide (o = nm) := fun z => by
    have := (List.mem_filter.mp z).2
    simp at this
  generalize ((owW ns).filter fun o => !decide (o = nm)) = os at hD1 oslen osub osno k
  have hD0 : H D = none := by
    cases z : H D with
    | none => rfl
    | some o => rw [q01 _ _ z] at hD; cases hD
  have R1 := hR.same' s1
  have nDr : D ≠ r := hR.ne hD0
  have nDl : D ≠ l := fun z => by rw [z, hL.at_] at hD0; cases hD0
  have d1 := hR.of s1
  have L1 := hL.dr hR nlr d1
  -- the versions
  refine ⟨one_leU, fun p1 n1 => ?_⟩
  have a1 := Same.upd_new (o := .lst [.int 1]) n1
  have g1 : (upd H1 p1 (.lst [.int 1])) p1 = some (.lst ([1].map V.int)) := upd_same
  have m1r := R1.ne n1
  have m1l : p1 ≠ l := fun z => by rw [z, L1.at_] at n1; cases n1
  generalize upd H1 p1 (.lst [.int 1]) = H2 at a1 g1 ⊢
  refine ⟨one_leU, fun p2 n2 => ?_⟩
  have a2 := Same.upd_new (o := .lst [.int 2]) n2
  have g2 : (upd H2 p2 (.lst [.int 2])) p2 = some (.lst ([2].map V.int)) := upd_same
  have m2r := (R1.same' a1).ne n2
  have m2l : p2 ≠ l := fun z => by rw [z, a1 _ _ L1.at_] at n2; cases n2
  have g1 := a2 _ _ g1
  have a12 := a1.trans a2
  generalize upd H2 p2 (.lst [.int 2]) = H3 at a12 g1 g2 ⊢
  refine ⟨two_le, fun p3 n3 => ?_⟩
  have a3 := Same.upd_new (o := .lst [.int 1, .int 2]) n3
  have g3 : (upd H3 p3 (.lst [.int 1, .int 2])) p3 = some (.lst ([1, 2].map V.int)) := upd_same
  have m3r := (R1.same' a12).ne n3
  have m3l : p3 ≠ l := fun z => by rw [z, a12 _ _ L1.at_] at n3; cases n3
  have g1 := a3 _ _ g1
  have g2 := a3 _ _ g2
  have a13 := a12.trans a3
  generalize upd H3 p3 (.lst [.int 1, .int 2]) = H4 at a13 g1 g2 g3 ⊢
  refine ⟨two_le, fun p4 n4 => ?_⟩
  have a4 := Same.upd_new (o := .lst [.int 1, .int 3]) n4
  have g4 : (upd H4 p4 (.lst [.int 1, .int 3])) p4 = some (.lst ([1, 3].map V.int)) := upd_same
  have m4r := (R1.same' a13).ne n4
  have m4l : p4 ≠ l := fun z => by rw [z, a13 _ _ L1.at_] at n4; cases n4
  have g1 := a4 _ _ g1
  have g2 := a4 _ _ g2
  have g3 := a4 _ _ g3
  have a14 := a13.trans a4
  generalize upd H4 p4 (.lst [.int 1, .int 3]) = H5 at a14 g1 g2 g3 g4 ⊢
  refine ⟨(by show 4 ≤ sizeLine; decide), fun pL nL => ?_⟩
  have a5 := Same.upd_new (o := .lst [.ref p1, .ref p2, .ref p3, .ref p4]) nL
  have gL : (upd H5 pL (.lst [.ref p1, .ref p2, .ref p3, .ref p4])) pL = some (.lst [.ref p1, .ref p2, .ref p3, .ref p4]) := upd_same
  have mLr := (R1.same' a14).ne nL
  have g1 := a5 _ _ g1
  have g2 := a5 _ _ g2
  have g3 := a5 _ _ g3
  have g4 := a5 _ _ g4
  have a15 := a14.trans a5
  have R5 := R1.same' a15
  have d5 := d1.same a15
  have hD5 := a15 _ _ hD1
  have L5 := L1.same a15
  generalize upd H5 pL (.lst [.ref p1, .ref p2, .ref p3, .ref p4]) = H6 at g1 g2 g3 g4 gL R5 d5 hD5 L5 ⊢
  refine ⟨_, rfl, r, _, a, rfl, R5, by decide, by decide, fun v o v0 v1 R6 => ?_⟩
  have d6 := Dr.draw R6
  have hD6 := d6.lst nDr hD5
  have L6 := L5.dr R5 nlr d6
  have gL6 := d6.lst mLr gL
  have d06 := d5.trans d6
  obtain ⟨q, vs, hat, hq, qr, ql, hvs, vb, vne, vl⟩ : ∃ (q : Addr) (vs : List Int), atI [V.ref p1, .ref p2, .ref p3, .ref p4] v = some (.ref q) ∧ (upd H6 r o) q = some (.lst (vs.map V.int)) ∧ q ≠ r ∧ q ≠ l ∧ vs.Pairwise (· < ·) ∧ (∀ v ∈ vs, 1 ≤ v ∧ v ≤ 3) ∧ vs ≠ [] ∧ vs.length ≤ 2 := by
    have : v = 0 ∨ v = 1 ∨ v = 2 ∨ v = 3 := by omega
    rcases this with rfl | rfl | rfl | rfl
    · exact ⟨p1, [1], atI_nat (j := 0) rfl, d6.lst m1r g1, m1r, m1l, by decide, by decide, by decide, by decide⟩
    · exact ⟨p2, [2], atI_nat (j := 1) rfl, d6.lst m2r g2, m2r, m2l, by decide, by decide, by decide, by decide⟩
    · exact ⟨p3, [1, 2], atI_nat (j := 2) rfl, d6.lst m3r g3, m3r, m3l, by decide, by decide, by decide, by decide⟩
    · exact ⟨p4, [1, 3], atI_nat (j := 3) rfl, d6.lst m4r g4, m4r, m4l, by decide, by decide, by decide, by decide⟩
  generalize upd H6 r o = H7 at R6 d06 hD6 L6 gL6 hq ⊢
  refine ⟨pL, _, v, _, rfl, rfl, SqL.of gL6, hat, ?_⟩
  refine ⟨q, rfl, ⟨_, SqL.of hq⟩, ?_⟩
  refine for_it (walk_list (xs := vs.map V.int)) (fun i σ H' => ∃ (es : Es) (y6 y7 y8 y9 y10 : Option V), GoodB nm os (vs.take i) es ∧ DrW r a l H7 H' ∧ FEd K H' C l (ls ++ es) ∧ σ = [some (.ref r), x1, some (.ref ln), some (.ref l), some (.str nm), some (.ref D), y6, y7, y8, y9, y10, x11, x12]) ?_ ?_ ?_ ?_
  · exact ⟨[], _, _, _, _, _, ⟨by simp, fun j e v a => by simp at a⟩, R6.dr.w, by rw [List.append_nil]; exact L6, rfl⟩
  · rintro i σ H' _ ⟨es, y6, y7, y8, y9, y10, g, dw, le, rfl⟩
    exact SqL.of (dw.sb _ _ qr ql hq)
  · rintro i x σ H8 H9 hi ⟨es, y6, y7, y8, y9, y10, g, dw, le, rfl⟩ ⟨rfl, hx⟩
    obtain ⟨u, hu, rfl⟩ := getE hx
    have R8 := dw.row R6 L6.at_ al
    have gl : es.length ≤ 4 := by
      rw [g.1, List.length_take]
      omega
    have ub := vb u (List.mem_of_getElem? hu)
    refine rdB _ _ r a l D os nm u (ls ++ es) _ _ _ _ _ _ _ _ R8 le nlr (dw.sb _ _ nDr nDl hD6) nDr nDl oslen (by rw [List.length_append]; omega) hnm ub.1 (by omega) osub osno (fun t e H10 z7 z8 z9 z10 ge dw8 le8 => ?_)
    exact ⟨es ++ [(t, e)], _, _, _, _, _, g.snoc hu ge, dw.trans dw8, by rw [← List.append_assoc]; exact le8, rfl⟩
  · rintro σ H8 ⟨es, y6, y7, y8, y9, y10, g, dw, le, rfl⟩
    rw [show (vs.map V.int).length = vs.length from List.length_map .., List.take_length] at g
    exact k vs es H8 _ _ _ _ _ _ g hvs vb vne vl (d06.w.trans dw) le
end
end Half

namespace Half
open PySem PySem.Spec PyProof.Rows L2
def PN3 : List Str := ["app", "db", "lib"]
structure GoodP (ns done : List Str) (ls : Es) : Prop where
  each : ∀ e ∈ ls, e.2.name ∈ done ∧ GoodE e.2.name e.2.ver ((owW ns).filter fun o => !decide (o = e.2.name)) e.2 ∧ 1 ≤ e.2.ver ∧ e.2.ver ≤ 3
  asc : ls.Pairwise fun x y => pLt x.2.key y.2.key = true
  all : ∀ n ∈ done, ∃ e ∈ ls, e.2.name = n
  few : ls.length ≤ 2 * done.length
theorem pn3_asc : PN3.Pairwise fun x y => txLt x y = true := by decide +kernel
theorem pn3_nd : PN3.Nodup := by decide +kernel
theorem pn4_nd : PN4.Nodup := by decide +kernel
theorem pn3_in {x : Str} (h : x ∈ PN3) : x ∈ PN4 := by
  unfold PN3 at h
  unfold PN4
  simp only [List.mem_cons, List.not_mem_nil, or_false] at h ⊢
  rcases h with rfl | rfl | rfl
  · exact .inl rfl
  · exact .inr (.inl rfl)
  · exact .inr (.inr (.inl rfl))
theorem GoodP.block {ns : List Str} {i : Nat} {ls es : Es} {nm : Str} {vs : List Int} (h : GoodP ns (ns.take i) ls) (hn : ns[i]? = some nm) (asc : ns.Pairwise fun x y => txLt x y = true) (g : GoodB nm ((owW ns).filter fun o => !decide (o = nm)) vs es) (hv : vs.Pairwise (· < ·)) (hb : ∀ v ∈ vs, 1 ≤ v ∧ v ≤ 3) (ne : vs ≠ []) (fv : vs.length ≤ 2) : GoodP ns (ns.take (i + 1)) (ls ++ es) := by
  have one : ∀ e ∈ es, ∃ (j : Nat) (v : Int), es[j]? = some e ∧ vs[j]? = some v ∧ GoodE nm v ((owW ns).filter fun o => !decide (o = nm)) e.2 := fun e he => by
    obtain ⟨j, hj, e1⟩ := List.getElem_of_mem he
    have hj2 : j < vs.length := by rw [← g.1]; exact hj
    have a1 : es[j]? = some e := by rw [List.getElem?_eq_getElem hj, e1]
    exact ⟨j, vs[j], a1, List.getElem?_eq_getElem hj2, g.2 j e vs[j] a1 (List.getElem?_eq_getElem hj2)⟩
  have tk := take_next hn
  have lt : ∀ x ∈ ns.take i, txLt x nm = true := fun x hx => by
    have p := asc
    rw [← List.take_append_drop i ns] at p
    have hi := (List.getElem?_eq_some_iff.mp hn).1
    refine (List.pairwise_append.mp p).2.2 x hx nm ?_
    rw [List.drop_eq_getElem_cons hi, (List.getElem?_eq_some_iff.mp hn).2]
    exact List.mem_cons_self
  refine ⟨fun e he => ?_, ?_, fun n hnn => ?_, ?_⟩
  · rcases List.mem_append.mp he with q | q
    · obtain ⟨a, b⟩ := h.each e q
      exact ⟨by rw [tk]; exact List.mem_append_left _ a, b⟩
    · obtain ⟨j, v, a1, a2, a3⟩ := one e q
      have en : e.2.name = nm := a3.name
      have ev : e.2.ver = v := a3.ver
      have bv := hb v (List.mem_of_getElem? a2)
      refine ⟨by rw [tk, en]; exact List.mem_append_right _ List.mem_cons_self, ?_, by rw [ev]; exact bv.1, by rw [ev]; exact bv.2⟩
      rw [en, ev]
      exact a3
  · refine List.pairwise_append.mpr ⟨h.asc, ?_, fun x hx y hy => ?_⟩
    · refine List.pairwise_iff_getElem.mpr fun j k hj hk hjk => ?_
      have hj2 : j < vs.length := by rw [← g.1]; exact hj
      have hk2 : k < vs.length := by rw [← g.1]; exact hk
      have a := g.2 j es[j] vs[j] (List.getElem?_eq_getElem hj) (List.getElem?_eq_getElem hj2)
      have b := g.2 k es[k] vs[k] (List.getElem?_eq_getElem hk) (List.getElem?_eq_getElem hk2)
      have c := List.pairwise_iff_getElem.mp hv j k hj2 hk2 hjk
      refine pLt_iff.mpr (.inr ⟨?_, ?_⟩)
      · show es[j].2.name = es[k].2.name
        rw [a.name, b.name]
      · show es[j].2.ver < es[k].2.ver
        rw [a.ver, b.ver]
        exact c
    · obtain ⟨j, v, _, _, a3⟩ := one y hy
      refine pLt_iff.mpr (.inl ?_)
      show txLt x.2.name y.2.name = true
      rw [a3.name]
      exact lt _ (h.each x hx).1
  · rw [tk] at hnn
    rcases List.mem_append.mp hnn with q | q
    · obtain ⟨e, he, en⟩ := h.all n q
      exact ⟨e, List.mem_append_left _ he, en⟩
    · rw [List.mem_singleton.mp q]
      have l0 : 0 < vs.length := List.length_pos_iff.mpr ne
      have l1 : 0 < es.length := by rw [g.1]; exact l0
      exact ⟨es[0], List.mem_append_right _ (List.getElem_mem l1), (g.2 0 es[0] vs[0] (List.getElem?_eq_getElem l1) (List.getElem?_eq_getElem l0)).name⟩
  · rw [List.length_append, g.1, tk, List.length_append]
    have := h.few
    show ls.length + vs.length ≤ 2 * ((ns.take i).length + 1)
    omega
structure Drawn (ns : List Str) (ls : Es) : Prop where
  pre : ∃ j, 1 ≤ j ∧ j ≤ 3 ∧ ns = PN3.take j
  good : GoodP ns ns ls
structure Right (ls : Es) : Prop where
  few : ls.length ≤ 6
  wr : wrongAt (keysOf ls.eds) = none
  txt : ∀ e ∈ ls, e.2.name ∈ PN3
  ver : ∀ e ∈ ls, 1 ≤ e.2.ver ∧ e.2.ver ≤ 3
  scr : ∀ e ∈ ls, e.2.scr.Sublist SCR
  nee : ∀ e ∈ ls, (e.2.nee.map (·.1)).Sublist PN4 ∧ e.2.name ∉ e.2.nee.map (·.1)
  neeV : ∀ e ∈ ls, ∀ q ∈ e.2.nee, 1 ≤ q.2 ∧ q.2 ≤ 3
  fir : ∀ e ∈ ls, (e.2.fir.map (·.1)).Sublist PN4
  aga : ∀ e ∈ ls, e.2.aga.Sublist PN4
  asc : ls.Pairwise fun x y => pLt x.2.key y.2.key = true
theorem ow_sub {j : Nat} (h1 : 1 ≤ j) (h3 : j ≤ 3) : (owW (PN3.take j)).Sublist PN4 := by
  have : j = 1 ∨ j = 2 ∨ j = 3 := by omega
  rcases this with rfl | rfl | rfl <;> decide +kernel
theorem Drawn.right {ns : List Str} {ls : Es} (h : Drawn ns ls) : Right ls := by
  obtain ⟨⟨j, j0, j1, en⟩, g⟩ := h
  have sub : ns.Sublist PN3 := by rw [en]; exact List.take_sublist _ _
  have osub : (owW ns).Sublist PN4 := by rw [en]; exact ow_sub j0 j1
  have nl : ns.length ≤ 3 := sub.length_le
  have txt : ∀ e ∈ ls, e.2.name ∈ PN3 := fun e he => sub.subset (g.each e he).1
  have few : ls.length ≤ 6 := by have := g.few; omega
  have fil : ∀ nm : Str, ((owW ns).filter fun o => !decide (o = nm)).Sublist PN4 ∧ nm ∉ (owW ns).filter fun o => !decide (o = nm) := fun nm => by
    refine ⟨List.filter_sublist.trans osub, fun z => ?_⟩
    have := (List.mem_filter.mp z).2
    simp at this
  refine ⟨few, ?_, txt, fun e he => (g.each e he).2.2, fun e he => (g.each e he).2.1.scr, fun e he => ⟨(g.each e he).2.1.nee.trans (fil _).1, fun z => (fil _).2 ((g.each e he).2.1.nee.subset z)⟩, fun e he => (g.each e he).2.1.neeV, fun e he => (g.each e he).2.1.fir.trans (fil _).1, fun e he => (g.each e he).2.1.aga.trans (fil _).1, g.asc⟩
  have kn : (keysOf ls.eds).Nodup := by
    rw [keys_eds, List.map_map]
    exact List.pairwise_map.mpr (g.asc.imp fun h => pLt_ne h)
  have kl : (keysOf ls.eds).length = ls.length := by rw [keys_eds, List.length_map, List.length_map]
  have km : ∀ k ∈ keysOf ls.eds, k.1 ∈ PN3 := fun k hk => by
    rw [keys_eds] at hk
    obtain ⟨x, hx, rfl⟩ := List.mem_map.mp hk
    obtain ⟨e, he, rfl⟩ := List.mem_map.mp hx
    exact txt e he
  unfold wrongAt
  have ne : (keysOf ls.eds).isEmpty = false := by
    have l0 : 0 < ns.length := by rw [en, List.length_take]; have : PN3.length = 3 := rfl; omega
    obtain ⟨e, he, _⟩ := g.all ns[0] (List.getElem_mem l0)
    have : 0 < ls.length := List.length_pos_of_mem he
    cases c : keysOf ls.eds with
    | nil => rw [c] at kl; simp at kl; omega
    | cons _ _ => rfl
  rw [ne, if_neg (by decide)]
  refine List.find?_eq_none.mpr fun i hi => ?_
  have hi := List.mem_range.mp hi
  have e := List.getElem?_eq_getElem hi
  have a1 := has_no (nodup_take kn e)
  have a2 : nd (((keysOf ls.eds).take (i + 1)).map (·.1)) ≤ 3 := by
    have := len_sub (dset_nodup (((keysOf ls.eds).take (i + 1)).map (·.1))) (m := PN3) fun z hz => by
      obtain ⟨k, hk, rfl⟩ := List.mem_map.mp ((mem_dset _ _).mp hz)
      exact km k (List.mem_of_mem_take hk)
    exact this
  unfold badB
  rw [e]
  dsimp only
  rw [a1, decide_eq_false (by omega), decide_eq_false (by omega)]
  decide
theorem cut3 {v : Int} (h0 : 0 ≤ v) (h1 : v < 3) : ∃ j, 1 ≤ j ∧ j ≤ 3 ∧ cutV (PN3.map V.str) none (some (1 + v)) = (PN3.take j).map V.str := by
  have : v = 0 ∨ v = 1 ∨ v = 2 := by omega
  rcases this with rfl | rfl | rfl
  · exact ⟨1, by decide, by decide, rfl⟩
  · exact ⟨2, by decide, by decide, rfl⟩
  · exact ⟨3, by decide, by decide, rfl⟩
def spSto (K : PySem.W.Frag) (C CT : Addr) : Sp := fun vs H Q _ => ∃ (r a : Addr) (most : Int), vs = [.ref r, .int most] ∧ Row K H r a ∧ 1 ≤ most ∧ most ≤ 3 ∧
  ∀ st (es : Es) (ns : List Str) H', H st = none → Dr r a H H' → StObj CT H' st es.eds → (∀ e ∈ es, EdX K H' C e.1 e.2) → Drawn ns es → Q (.ref st) H'
section
variable {P : Program} {w : World} {K : PySem.W.Frag} {mg : Str → Option Value} {base : Heap} {C CE CT CI f0 : Addr} {fd0 : FuncData} {aS z1 z2 z3 : Addr}
theorem ok_sto {f : Addr} {fd : FuncData} (F : Fun K "_law_store" "_law_store" sSto f fd) (gT : mg "tuple" = none) (dT : Def P w K mg base 1 "_law_taken" ["_law_row", "_law_many"] (spTaken K)) (Di : EdF P w K mg base C CE f0 fd0 aS z1 z2 z3) (M : MkSt P w K mg base C CT CI) : FnOk P w K mg base CX0 8 f fd ["_law_row", "_law_most"] (spSto K C CT) := by
  refine F.ok scSto (fun vs H Q E h => ?_) (fun cdv A outer s H vs Q E hr h => ?_)
  · obtain ⟨r, a, most, rfl, _⟩ := h
    rfl
  · obtain ⟨r, a, most, rfl, hR, m0, m1, k⟩ := h
    have nd := scSto.nd
    have r1 : Room 1 _ := hr.mono (by decide)
    have r5 : Room 5 _ := hr.mono (by decide)
    obtain ⟨f1, fd1, M1, F1, b1⟩ := M.ex
    obtain ⟨tB, hB, rdB⟩ := sto_name (P := P) (w := w) (K := K) (mg := mg) (base := base) (f := f) (cdv := cdv) (A := A) (outer := outer) (s := s) (H0 := H) (E := E) gT dT Di hr nd
    have main : ∃ t, PSs (cxOf CX0 P w K mg base StoN "_law_store" (defScope sSto) f cdv A outer s H E).nox (defBody sSto) t ∧ t { nx := fun _ H' => Q .non H', rt := Q } (L2.start StoN [.ref r, .int most]) H := by
      refine ⟨_, pss_cons (ps_par (i := 2) (j := 3) rfl nd rfl rfl (by decide) rfl rfl (pa_cons (pe_slice sl_list (pe_lst (pa_cons pe_str (pa_cons pe_str (pa_cons pe_str pa_nil)))) po_none (po_some (pe_op op_add pe_int (pe_def dT r1 rfl (pa_cons (pv 0) (pa_cons (pv 1) pa_nil)))))) (pa_cons (pe_lst pa_nil) pa_nil)) (by rfl))
        (pss_cons (ps_for PassesOwn.never rfl (pi_list (pv 2)) (pg_name (i := 4) nd rfl (Or.inr rfl)) hB)
        (pss_one (ps_ret (pe_make M1 F1 r5 rfl M.mgS b1 .nil passL (pa_cons (pe_callTy call_tuple_of (by rfl) gT (by decide +kernel) (pa_cons (pv 3) pa_nil)) pa_nil))))), ?_⟩
      refine ⟨(by show 3 ≤ sizeLine; decide), fun n0 nn0 => ?_⟩
      have s1 := Same.upd_new (o := .lst (PN3.map V.str)) nn0
      have R1 := hR.same' s1
      have g1 : (upd H n0 (.lst (PN3.map V.str))) n0 = some (.lst (PN3.map V.str)) := upd_same
      have nr0 := hR.ne nn0
      have d1 := hR.of s1
      have e1 : upd H n0 (.lst [.str "app", .str "db", .str "lib"]) = upd H n0 (.lst (PN3.map V.str)) := rfl
      rw [e1]
      generalize upd H n0 (.lst (PN3.map V.str)) = H1 at R1 g1 d1 ⊢
      refine ⟨_, rfl, _, rfl, r, _, a, rfl, R1, by omega, by omega, fun v o v0 v1 R2 => ⟨_, _, rfl, rfl, _, rfl, n0, _, rfl, SqL.of (by rw [upd_ne nr0]; exact g1), fun ln nln => ?_⟩⟩
      obtain ⟨j, j0, j1, ec⟩ := cut3 v0 (by omega : v < 3)
      have d2 := Dr.draw R2
      rw [ec]
      generalize hns : PN3.take j = ns at *
      have s3 := Same.upd_new (o := .lst (ns.map V.str)) nln
      have R3 := R2.same' s3
      have d3 := d1.trans (d2.same s3)
      have g3 : (upd (upd H1 r o) ln (.lst (ns.map V.str))) ln = some (.lst (ns.map V.str)) := upd_same
      have nnr := R2.ne nln
      generalize upd (upd H1 r o) ln (.lst (ns.map V.str)) = H3 at R3 d3 g3 ⊢
      refine ⟨Nat.zero_le _, fun l nl => ?_⟩
      have s4 := Same.upd_new (o := .lst []) nl
      have R4 := R3.same' s4
      have d4 := d3.same s4
      have nlr := R3.ne nl
      have nnl : ln ≠ l := ne_of_none g3 nl
      have al : Al K a l := by
        obtain ⟨ms, _, _, _, _, q, q2, _⟩ := R3
        rcases q with (q | ⟨_, q⟩) | q
        · exact .inl (ne_of_none q nl)
        · exact .inl (ne_of_none q nl)
        · exact .inr ⟨ms, q2, fun H' => .inr q⟩
      have hl0 : H l = none := d3.none hR nl
      have L4 : FEd K (upd H3 l (.lst [])) C l [] := ⟨upd_same, fun e he => by cases he⟩
      have g4 := s4 _ _ g3
      generalize upd H3 l (.lst []) = H4 at R4 d4 L4 g4 ⊢
      have asc : ns.Pairwise fun x y => txLt x y = true := by rw [← hns]; exact pn3_asc.sublist (List.take_sublist _ _)
      have nl3 : ns.length ≤ 3 := by rw [← hns, List.length_take]; have : PN3.length = 3 := rfl; omega
      have osub : (owW ns).Sublist PN4 := by rw [← hns]; exact ow_sub j0 j1
      have nsub : ∀ n ∈ ns, n ∈ PN4 := fun n h => by rw [← hns] at h; exact pn3_in (List.mem_of_mem_take h)
      refine ⟨_, _, rfl, ?_⟩
      refine ⟨_, rfl, ln, rfl, ⟨_, SqL.of g4⟩, ?_⟩
      refine for_it (walk_list (xs := ns.map V.str)) (fun i σ H' => ∃ (ls : Es) (y4 y5 y6 y7 y8 y9 y10 : Option V), GoodP ns (ns.take i) ls ∧ DrW r a l H4 H' ∧ FEd K H' C l ls ∧ σ = [some (.ref r), some (.int most), some (.ref ln), some (.ref l), y4, y5, y6, y7, y8, y9, y10, none, none]) ?_ ?_ ?_ ?_
      · exact ⟨[], _, _, _, _, _, _, _, ⟨fun e he => (by cases he), .nil, fun n hn => by simp at hn, Nat.zero_le _⟩, R4.dr.w, L4, rfl⟩
      · rintro i σ H' _ ⟨ls, y4, y5, y6, y7, y8, y9, y10, g, dw, le, rfl⟩
        exact SqL.of (dw.sb _ _ nnr nnl g4)
      · rintro i x σ H6 H7 hi ⟨ls, y4, y5, y6, y7, y8, y9, y10, g, dw, le, rfl⟩ ⟨rfl, hx⟩
        obtain ⟨nm, hnm, rfl⟩ := getE hx
        have R6 := dw.row R4 L4.at_ al
        have fl : ls.length ≤ 12 := by
          have := g.few
          rw [List.length_take] at this
          omega
        refine rdB _ _ r a l ln ns nm ls _ _ _ _ _ _ _ _ _ R6 le nlr al (dw.sb _ _ nnr nnl g4) nnr nnl nl3 (by omega) (nsub nm (List.mem_of_getElem? hnm)) osub (fun vs es H8 z5 z6 z7 z8 z9 z10 gb va vb vn vl dw8 le8 => ?_)
        exact ⟨ls ++ es, _, _, _, _, _, _, _, g.block hnm asc gb va vb vn vl, dw.trans dw8, le8, rfl⟩
      · rintro σ H6 ⟨ls, y4, y5, y6, y7, y8, y9, y10, g, dw, le, rfl⟩
        rw [show (ns.map V.str).length = ns.length from List.length_map .., List.take_length] at g
        have dr : Drawn ns ls := ⟨⟨j, j0, j1, hns.symm⟩, g⟩
        have rt := dr.right
        refine ⟨_, rfl, l, _, rfl, .inl ⟨SqL.of le.at_, fun t nt => ?_⟩⟩
        have s7 := Same.upd_new (o := .tup (ls.map fun e => V.ref e.1)) nt
        have a7 : EdsAt K C (upd H6 t (.tup (ls.map fun e => V.ref e.1))) t ls.eds := by
          refine ⟨.inl (.inl ?_), fun y hy => ?_⟩
          · rw [upd_same]
            unfold Es.eds
            rw [List.map_map]
            rfl
          · obtain ⟨z, hz, rfl⟩ := List.mem_map.mp hy
            exact ((le.ed z hz).same s7).key
        refine fun st dx nst ndx nxx => ?_
        refine store_read (es := ls.eds) nst ndx a7 (by unfold Es.eds; rw [List.length_map]; have := rt.few; omega) rt.wr fun H8 s8 hS => ?_
        have dH : Dr r a H H6 := by
          refine ⟨fun b o' nb q => ?_, dw.at_⟩
          have q4 := d4.sb b o' nb q
          exact dw.sb b o' nb (fun z => by rw [z, hl0] at q; cases q) q4
        have d8 := dH.same (s7.trans s8)
        exact k st ls ns H8 ((dH.same s7).none hR nst) d8 hS (fun y hy => ((le.ed y hy).same s7).same s8) dr
    exact main
end
end Half

namespace Half
open PySem PySem.Spec PyProof.Rows L2
/-! ### files of an edition -/
abbrev sFi : Stmt := top 33
abbrev sFs : Stmt := top 34
def isFile (p : Str × V) : Bool := isWord p.1 && inR p.2 1 99
def areFiles (fs : List (Str × V)) : Bool := !decide (fs.length > 6) && ((fs.all isFile) && ascS (fs.map (·.1)))
/-- a tuple of pairs: a text, a number or a truth value -/
def FilesAt (K : PySem.W.Frag) (H : Hp) (a : Addr) (fs : List (Str × V)) : Prop := ∃ ts : List Addr, SqT K H a (ts.map V.ref) ∧ ts.length = fs.length ∧ ∀ (i : Nat) t p, ts[i]? = some t → fs[i]? = some p → SqT K H t [.str p.1, p.2]
theorem FilesAt.kp {K : PySem.W.Frag} {H H' : Hp} {a : Addr} {fs : List (Str × V)} (k : Kp K H H') (h : FilesAt K H a fs) : FilesAt K H' a fs := by
  obtain ⟨ts, h1, h2, h3⟩ := h
  exact ⟨ts, k _ _ h1, h2, fun i t p a b => k _ _ (h3 i t p a b)⟩
def Numv (v : V) : Prop := (∃ n, v = .int n) ∨ ∃ b, v = .bl b
def spFi (K : PySem.W.Frag) : Sp := fun vs H Q _ => ∃ (t : Addr) (p : Str × V), vs = [.ref t] ∧ SqT K H t [.str p.1, p.2] ∧ p.1.length ≤ 1000 ∧ Numv p.2 ∧ ∀ H', Same H H' → Q (.bl (isFile p)) H'
def spFs (K : PySem.W.Frag) : Sp := fun vs H Q _ => ∃ (a : Addr) (fs : List (Str × V)), vs = [.ref a] ∧ FilesAt K H a fs ∧ fs.length ≤ 100 ∧ (∀ p ∈ fs, p.1.length ≤ 1000 ∧ Numv p.2) ∧ ∀ H', Same H H' → Q (.bl (areFiles fs)) H'
def spAscL (K : PySem.W.Frag) : Sp := fun vs H Q _ => ∃ (a : Addr) (ss : List Str), vs = [.ref a] ∧ SqL K H a (ss.map V.str) ∧ ss.length ≤ 100 ∧ ∀ H', Same H H' → Q (.bl (ascS ss)) H'
section
variable {P : Program} {w : World} {K : PySem.W.Frag} {mg : Str → Option Value} {base : Heap}
/-- ascends, of a list -/
theorem ok_ascL {f : Addr} {fd : FuncData} (F : Fun K "ascends" "ascends" sAscends f fd) (T : TxtE K mg) : FnOk P w K mg base CX0 1 f fd ["values"] (spAscL K) := by
  refine F.ok scAsc (fun vs H Q E h => ?_) (fun cdv A outer s H vs Q E hr h => ?_)
  · obtain ⟨a, ss, rfl, _⟩ := h
    rfl
  · obtain ⟨a, ss, rfl, hS, hl, k⟩ := h
    have nd := scAsc.nd
    refine ⟨_, pss_one (ps_ret (pe_callB (cr_all rfl) (by rfl) T.all (by decide +kernel) (pa_cons
        (pe_lc (own := [("at", 1)]) (g := gName 1) (tt := tYes) rfl nd (pi_range2 (by rfl) T.ran (pa_cons pe_int (pa_cons (pe_callB call_len_seq (by rfl) T.d.len PySem.boot_len (pa_cons (pv 0) pa_nil)) pa_nil))) (blkOk_by (N := ["values", "at"]) (sc := defScope sAscends) (by decide +kernel))
          (fun _ _ _ _ _ => pg_name (i := 1) nd rfl (Or.inl rfl)) (fun _ _ _ _ _ => pts_nil)
          (fun _ _ _ _ _ => pe_cmpR op_lt_str (pe_ix (ix_list : IxR _ (rIxL K)) (pv 0) (pe_op op_sub (pv 1) pe_int) (fun _ _ => rfl)) (pe_ix (ix_list : IxR _ (rIxL K)) (pv 0) (pv 1) (fun _ _ => rfl)) (nomark _))) pa_nil))), ?_⟩
    have hlm : (ss.map V.str).length = ss.length := List.length_map ..
    have hn : (((ss.map V.str).length : Int) - 1).toNat = ss.length - 1 := by omega
    refine ⟨_, rfl, a, _, rfl, .inl hS, 1, _, rfl, ⟨by decide, by decide, by omega, by omega⟩, ?_⟩
    rw [hn]
    refine fun D hD => lc_it walk_range (MapP H D ((List.range (ss.length - 1)).map fun i => V.bl (strLt (ss.getD i "") (ss.getD (i + 1) "")))) (MapP.zero hD) (fun _ _ _ _ => trivial) ?_ ?_
    · rintro i x H1 H2 hi p ⟨rfl, rfl⟩
      have at_ : ∀ j : Nat, j < ss.length → atI (ss.map V.str) ((j : Nat) : Int) = some (V.str (ss.getD j "")) := fun j hj => atI_nat (by
        rw [List.getElem?_map, List.getD_eq_getElem?_getD, List.getElem?_eq_getElem hj]
        rfl)
      have e1 : atI (ss.map V.str) ((1 + (i : Int)) - 1) = some (V.str (ss.getD i "")) := by
        rw [show (1 + (i : Int)) - 1 = ((i : Nat) : Int) by omega]
        exact at_ i (by omega)
      have e2 : atI (ss.map V.str) (1 + (i : Int)) = some (V.str (ss.getD (i + 1) "")) := by
        rw [show (1 + (i : Int)) = ((i + 1 : Nat) : Int) by omega]
        exact at_ (i + 1) (by omega)
      have hS1 := p.1.seq hS
      refine ⟨rfl, _, rfl, _, rfl, _, _, rfl, rfl, a, _, _, _, rfl, rfl, hS1, e1, _, rfl, _, rfl, a, _, _, _, rfl, rfl, hS1, e2, _, _, rfl, rfl, ?_⟩
      refine p.step hD ?_ (by rw [List.length_map, List.length_range]; omega) (Same.refl _)
      rw [List.getElem?_map, List.getElem?_range hi]
      rfl
    · intro H2 p
      obtain ⟨s2, hl2⟩ := p.done (by rw [List.length_map, List.length_range])
      refine ⟨D, (List.range (ss.length - 1)).map fun i => strLt (ss.getD i "") (ss.getD (i + 1) ""), rfl, SqL.of (by rw [hl2, List.map_map]; rfl), ?_⟩
      have e : ascS ss = ((List.range (ss.length - 1)).map fun i => strLt (ss.getD i "") (ss.getD (i + 1) "")).all id := by
        rw [List.all_map]
        rfl
      rw [← e]
      exact k H2 s2
theorem scFi : FnScope ["value"] ["value"] (defScope sFi) := ⟨rfl, rfl, rfl, by decide +kernel, rfl, by decide +kernel, by decide +kernel⟩
theorem ok_fi {f : Addr} {fd : FuncData} (F : Fun K "is_file" "is_file" sFi f fd) (T : TxtE K mg) (mc : ∃ t, mg "MOST_CONTENT" = some (.int 99 t)) (dW : Def P w K mg base 1 "is_word" ["text"] spWord) (dN : Def P w K mg base 1 "is_number" ["value", "least", "most"] spNumber) : FnOk P w K mg base CX0 2 f fd ["value"] (spFi K) := by
  refine F.ok scFi (fun vs H Q E h => ?_) (fun cdv A outer s H vs Q E hr h => ?_)
  · obtain ⟨t, p, rfl, _⟩ := h
    rfl
  · obtain ⟨t, p, rfl, hS, hw, hv, k⟩ := h
    obtain ⟨t2, g2⟩ := mc
    refine ⟨_, pss_cons (ps_if (PW.pt (pw_or (pt_not (pt_val (pe_callB call_isi (by rfl) T.isi (by decide +kernel) (pa_cons (pv 0) (pa_cons (pe_bltn (v := .ty "tuple") (by rfl) T.tup (by decide +kernel) rfl) pa_nil)))))
        (pw_or1 (pt_cmpR op_ne (pe_callB call_len_seq (by rfl) T.d.len PySem.boot_len (pa_cons (pv 0) pa_nil)) pe_int (nomark _))))) (pss_one (ps_ret pe_bl)) pss_nil)
      (pss_one (ps_ret (pe_and (pe_def dW hr rfl (pa_cons (pe_ix ix_tup (pv 0) pe_int (fun _ _ => rfl)) pa_nil)) (pe_one (pe_def dN hr rfl (pa_cons (pe_ix ix_tup (pv 0) pe_int (fun _ _ => rfl)) (pa_cons pe_int (pa_cons (pe_glob (v := .int 99) rfl g2 ⟨_, rfl⟩) pa_nil)))))))), ?_⟩
    refine ⟨_, rfl, _, _, _, _, _, rfl, .ty _, tyT hS, kit_ty (r := true) (by decide +kernel), _, rfl, ?_⟩
    refine iteF ?_
    refine ⟨_, rfl, t, _, rfl, .inr hS, rfl, false, rfl, iteF ?_⟩
    refine ⟨_, rfl, t, _, 0, _, rfl, rfl, hS, rfl, p.1, rfl, hw, fun H1 s1 => ?_⟩
    refine ⟨_, rfl, ?_⟩
    cases c : isWord p.1 with
    | false =>
      refine iteF ?_
      have e : isFile p = false := by unfold isFile; rw [c, Bool.false_and]
      have q := k H1 s1
      rw [e] at q
      exact q
    | true =>
      refine iteT ?_
      have e : isFile p = inR p.2 1 99 := by unfold isFile; rw [c, Bool.true_and]
      have q := k H1 s1
      rw [e] at q
      exact ⟨_, rfl, t, _, 1, _, rfl, rfl, s1.sqT hS, rfl, p.2, 1, 99, rfl, hv, q⟩
end
end Half

namespace Half
open PySem PySem.Spec PyProof.Rows L2
section
variable {P : Program} {w : World} {K : PySem.W.Frag} {mg : Str → Option Value} {base : Heap}
theorem scFs : FnScope ["values", "value"] ["values"] (defScope sFs) := ⟨rfl, rfl, rfl, by decide +kernel, rfl, by decide +kernel, by decide +kernel⟩
theorem ok_fs {f : Addr} {fd : FuncData} (F : Fun K "are_files" "are_files" sFs f fd) (T : TxtE K mg) (mf : ∃ t, mg "MOST_FILES" = some (.int 6 t)) (dF : Def P w K mg base 2 "is_file" ["value"] (spFi K)) (dA : Def P w K mg base 1 "ascends" ["values"] (spAscL K)) : FnOk P w K mg base CX0 3 f fd ["values"] (spFs K) := by
  refine F.ok scFs (fun vs H Q E h => ?_) (fun cdv A outer s H vs Q E hr h => ?_)
  · obtain ⟨a, fs, rfl, _⟩ := h
    rfl
  · obtain ⟨a, fs, rfl, hN, hl, hw, k⟩ := h
    have nd := scFs.nd
    obtain ⟨t2, g2⟩ := mf
    obtain ⟨ts, hS, htl, hts⟩ := id hN
    refine ⟨_, pss_cons (ps_if (PW.pt (pw_or (pt_not (pt_val (pe_callB call_isi (by rfl) T.isi (by decide +kernel) (pa_cons (pv 0) (pa_cons (pe_bltn (v := .ty "tuple") (by rfl) T.tup (by decide +kernel) rfl) pa_nil)))))
        (pw_or1 (pt_cmpR op_gt (pe_callB call_len_seq (by rfl) T.d.len PySem.boot_len (pa_cons (pv 0) pa_nil)) (pe_glob (v := .int 6) rfl g2 ⟨_, rfl⟩) (nomark _))))) (pss_one (ps_ret pe_bl)) pss_nil)
      (pss_one (ps_ret (pe_and (pe_callB (cr_all rfl) (by rfl) T.all (by decide +kernel) (pa_cons
          (pe_lc (own := [("value", 1)]) (g := gName 1) (tt := tYes) rfl nd (pi_tup (pv 0)) (blkOk_by (N := ["values", "value"]) (sc := defScope sFs) (by decide +kernel))
            (fun _ _ _ _ _ => pg_name (i := 1) nd rfl (Or.inl rfl)) (fun _ _ _ _ _ => pts_nil)
            (fun _ _ _ _ _ => pe_def dF hr rfl (pa_cons (pv 1) pa_nil))) pa_nil))
        (pe_one (pe_def dA (hr.mono (by decide)) rfl (pa_cons
          (pe_lc (own := [("value", 1)]) (g := gName 1) (tt := tYes) rfl nd (pi_tup (pv 0)) (blkOk_by (N := ["values", "value"]) (sc := defScope sFs) (by decide +kernel))
            (fun _ _ _ _ _ => pg_name (i := 1) nd rfl (Or.inl rfl)) (fun _ _ _ _ _ => pts_nil)
            (fun _ _ _ _ _ => pe_ix (ix_tup : IxR _ (rIxT K)) (pv 1) pe_int (fun _ _ => rfl))) pa_nil)))))), ?_⟩
    refine ⟨_, rfl, _, _, _, _, _, rfl, .ty _, tyT hS, kit_ty (r := true) (by decide +kernel), _, rfl, ?_⟩
    refine iteF ?_
    refine ⟨_, rfl, a, _, rfl, .inr hS, _, _, rfl, rfl, _, rfl, ?_⟩
    rw [List.length_map, htl]
    by_cases big : fs.length > 6
    · rw [decide_eq_true (show (6 : Int) < (fs.length : Int) by omega)]
      refine iteT ?_
      have e : areFiles fs = false := by unfold areFiles; rw [decide_eq_true big]; rfl
      have q := k H (Same.refl H)
      rw [e] at q
      exact q
    rw [decide_eq_false (show ¬ (6 : Int) < (fs.length : Int) by omega)]
    refine iteF ?_
    refine ⟨_, rfl, a, rfl, ⟨_, hS⟩, fun D hD => lc_it (walk_tup (xs := ts.map V.ref)) (MapP H D (fs.map fun p => V.bl (isFile p))) (MapP.zero hD) (fun _ _ _ p => p.1.sqT hS) ?_ ?_⟩
    · rintro i x H1 H2 hi p ⟨rfl, hx⟩
      obtain ⟨t, ht, rfl⟩ := getE hx
      have hip : i < fs.length := by rw [List.length_map] at hi; omega
      have hin := hw fs[i] (List.getElem_mem hip)
      refine ⟨rfl, _, rfl, t, fs[i], rfl, p.1.sqT (hts i t _ ht (List.getElem?_eq_getElem hip)), hin.1, hin.2, fun H3 s3 => ?_⟩
      refine p.step hD ?_ (by rw [List.length_map]; omega) s3
      rw [List.getElem?_map, List.getElem?_eq_getElem hip]
      rfl
    · intro H2 p
      obtain ⟨s2, hl2⟩ := p.done (by rw [List.length_map, List.length_map, htl])
      refine ⟨D, fs.map isFile, rfl, SqL.of (by rw [hl2, List.map_map]; rfl), _, rfl, ?_⟩
      have ea : (fs.map isFile).all id = fs.all isFile := by rw [List.all_map]; rfl
      rw [ea]
      have e0 : areFiles fs = ((fs.all isFile) && ascS (fs.map (·.1))) := by unfold areFiles; rw [decide_eq_false big]; rfl
      cases c : fs.all isFile with
      | false =>
        refine iteF ?_
        rw [c, Bool.false_and] at e0
        have q := k H2 s2
        rw [e0] at q
        exact q
      | true =>
        refine iteT ?_
        rw [c, Bool.true_and] at e0
        refine ⟨_, rfl, a, rfl, ⟨_, s2.sqT hS⟩, fun D2 hD2 => lc_it (walk_tup (xs := ts.map V.ref)) (MapP H2 D2 (fs.map fun p => V.str p.1)) (MapP.zero hD2) (fun _ _ _ p => (s2.trans p.1).sqT hS) ?_ ?_⟩
        · rintro i x H3 H4 hi p2 ⟨rfl, hx⟩
          obtain ⟨t, ht, rfl⟩ := getE hx
          have hip : i < fs.length := by rw [List.length_map] at hi; omega
          refine ⟨rfl, _, rfl, t, _, _, _, rfl, rfl, (s2.trans p2.1).sqT (hts i t _ ht (List.getElem?_eq_getElem hip)), rfl, ?_⟩
          refine p2.step hD2 ?_ (by rw [List.length_map]; omega) (Same.refl _)
          rw [List.getElem?_map, List.getElem?_eq_getElem hip]
          rfl
        · intro H3 p2
          obtain ⟨s3, hl3⟩ := p2.done (by rw [List.length_map, List.length_map, htl])
          refine ⟨D2, fs.map (·.1), rfl, SqL.of (by rw [hl3, List.map_map]; rfl), by rw [List.length_map]; exact hl, fun H5 s5 => ?_⟩
          rw [← e0]
          exact k H5 (s2.trans (s3.trans s5))
end
end Half

namespace Half
open PySem PySem.Spec PyProof.Rows L2
/-! ### the names of a store; what an edition takes over -/
structure NamF (P : Program) (w : World) (K : PySem.W.Frag) (mg : Str → Option Value) (base : Heap) (CT : Addr) : Prop where
  cl : Cls K CT
  ex : ∃ p g fd, PropOf K CT "names" p g ∧ FnOk P w K mg base CX0 1 g fd ["self"] (spNames CT) ∧ Binds K fd ["self"] []
def tNam (CT : Addr) (te : TE) : TE := tProp CT (spNames CT) [] E0 te
theorem pe_nam {X : Cx} {CT : Addr} {e : Expr} {te : TE} {pos : Pos} (D : NamF X.prog X.w X.K X.mg X.base CT) (hr : Room 2 X.A) (he : PE X e te) (hab : attributeBase e "names" X.env (eval e X.env) = eval e X.env := by rfl) : PE X (.Attribute e "names" pos) (tNam CT te) := by
  obtain ⟨p, g, fd, h1, h2, h3⟩ := D.ex
  exact pe_prop he D.cl h1 h2 hr h3 .nil pass0 hab
theorem has_congr {α : Type} [DecidableEq α] {l m : List α} (h : ∀ x, x ∈ l ↔ x ∈ m) (x : α) : has l x = has m x := by
  cases c : has m x
  · exact has_no fun z => not_has c ((h x).mp z)
  · exact has_iff.mpr ((h x).mpr (has_iff.mp c))
theorem nam_mem {ks ys : List Kk} (hp : ys.Perm ks) (x : Str) : x ∈ dset (ys.map (·.1)) ↔ x ∈ ks.map (·.1) := by
  rw [mem_dset]
  exact (hp.map _).mem_iff
abbrev sTk : Stmt := top 35
def areTakes (ks : List Kk) (ss : List Str) (nm : Str) : Bool := areOthers ss nm && ss.all fun z => has (ks.map (·.1)) z
def spTk (K : PySem.W.Frag) (CT : Addr) : Sp := fun vs H Q _ => ∃ (a st : Addr) (es : Eds) (ss : List Str) (nm : Str), vs = [.ref a, .ref st, .str nm] ∧ StObj CT H st es ∧ SqT K H a (ss.map V.str) ∧ ss.length ≤ 100 ∧ (∀ z ∈ ss, z.length ≤ 1000) ∧ ∀ H', Same H H' → Q (.bl (areTakes (keysOf es) ss nm)) H'
section
variable {P : Program} {w : World} {K : PySem.W.Frag} {mg : Str → Option Value} {base : Heap} {CT : Addr}
theorem scTk : FnScope ["values", "store", "name", "value"] ["values", "store", "name"] (defScope sTk) := ⟨rfl, rfl, rfl, by decide +kernel, rfl, by decide +kernel, by decide +kernel⟩
theorem ok_tk {f : Addr} {fd : FuncData} (F : Fun K "are_takes" "are_takes" sTk f fd) (T : TxtE K mg) (N : NamF P w K mg base CT) (dO : Def P w K mg base 2 "are_other_names" ["values", "name"] (spOthers K)) : FnOk P w K mg base CX0 3 f fd ["values", "store", "name"] (spTk K CT) := by
  refine F.ok scTk (fun vs H Q E h => ?_) (fun cdv A outer s H vs Q E hr h => ?_)
  · obtain ⟨a, st, es, ss, nm, rfl, _⟩ := h
    rfl
  · obtain ⟨a, st, es, ss, nm, rfl, hO, hS, hl, hw, k⟩ := h
    have nd := scTk.nd
    refine ⟨_, pss_one (ps_ret (pe_and (pe_def dO hr rfl (pa_cons (pv 0) (pa_cons (pv 2) pa_nil)))
      (pe_one (pe_callB (cr_all rfl) (by rfl) T.all (by decide +kernel) (pa_cons
          (pe_lc (own := [("value", 3)]) (g := gName 3) (tt := tYes) (te := tOp (rIn K false) (tVar 3) (tNam CT (tVar 1))) rfl nd (pi_tup (pv 0)) (blkOk_by (N := ["values", "store", "name", "value"]) (sc := defScope sTk) (by decide +kernel))
            (fun _ _ _ _ _ => pg_name (i := 3) nd rfl (Or.inl rfl)) (fun _ _ _ _ _ => pts_nil)
            (fun _ _ _ _ _ => pe_cmpR (op_in_seq : OpR _ _ (rIn K false)) (pv 3) (pe_nam N hr (pv 1)) (by rfl))) pa_nil))))), ?_⟩
    refine ⟨_, rfl, _, rfl, a, ss, nm, rfl, hS, hl, hw, fun H1 s1 => ⟨_, rfl, ?_⟩⟩
    cases c : areOthers ss nm with
    | false =>
      refine iteF ?_
      have e : areTakes (keysOf es) ss nm = false := by unfold areTakes; rw [c, Bool.false_and]
      have q := k H1 s1
      rw [e] at q
      exact q
    | true =>
      refine iteT ?_
      have e : areTakes (keysOf es) ss nm = ss.all fun z => has ((keysOf es).map (·.1)) z := by unfold areTakes; rw [c, Bool.true_and]
      have hS1 := s1.sqT hS
      have hO1 := hO.same s1
      refine ⟨_, rfl, a, rfl, ⟨_, hS1⟩, fun D hD => lc_it (walk_tup (xs := ss.map V.str)) (MapP H1 D (ss.map fun z => V.bl (has ((keysOf es).map (·.1)) z))) (MapP.zero hD) (fun _ _ _ p => p.1.sqT hS1) ?_ ?_⟩
      · rintro i x H2 H3 hi p ⟨rfl, hx⟩
        obtain ⟨z, hz, rfl⟩ := getE hx
        have hi' : i < ss.length := by rw [List.length_map] at hi; exact hi
        have hO2 := hO1.same p.1
        obtain ⟨dx, fs, hi2⟩ : ∃ dx fs, H3 st = some (.ins CT dx fs) := by
          obtain ⟨dx, tb, nb, h, _⟩ := hO2.ob
          exact ⟨_, _, h⟩
        refine ⟨rfl, _, rfl, _, rfl, st, dx, fs, rfl, hi2, st, es, rfl, hO2, fun ys q0 hp _ nq => ?_⟩
        have s4 := Same.upd_new (o := .tup ((dset (ys.map (·.1))).map V.str)) nq
        refine ⟨q0, _, rfl, .inr (SqT.of upd_same), rfl, flat_strs _, ?_⟩
        rw [if_neg (by decide), inV_str, has_congr (fun x => nam_mem hp x)]
        refine p.step hD ?_ (by rw [List.length_map]; omega) s4
        rw [List.getElem?_map, hz]
        rfl
      · intro H2 p
        obtain ⟨s2, hl2⟩ := p.done (by rw [List.length_map, List.length_map])
        refine ⟨D, ss.map fun z => has ((keysOf es).map (·.1)) z, rfl, SqL.of (by rw [hl2]; exact congrArg (fun l => some (HO.lst l)) (List.map_map (f := fun z => has ((keysOf es).map (fun x : Kk => x.1)) z) (g := V.bl) (l := ss)).symm), ?_⟩
        have ea : (ss.map fun z => has ((keysOf es).map (·.1)) z).all id = ss.all fun z => has ((keysOf es).map (·.1)) z := by rw [List.all_map]; rfl
        rw [ea, ← e]
        exact k H2 (s1.trans s2)
end
end Half

/-! {t} in a text, t a pair of a text and a number -/
namespace L2
open PySem PySem.Spec PyProof.Rows
section
variable {X : Cx}
def tFmtP (K : PySem.W.Frag) (te : TE) : TE := fun σ H Q => te σ H fun x H1 => ∃ (a : Addr) (z : Str) (n : Int), x = .ref a ∧ SqT K H1 a [.str z, .int n] ∧ (reprText z).length ≤ 1000 ∧ n.natAbs.log2 < 1920 ∧ ((toString n : String) : Str).length ≤ 1000 ∧ ∀ m : Str, m.length ≤ 2100 → Q (.str m) H1
theorem pe_fmtP {e : Expr} {te : TE} {pos : Pos} {k : Nat} (hr : Room k X.A) (he : PE X e te) : PE X (.FormattedValue e (-1) none pos) (tFmtP X.K te) := by
  refine ⟨fun pins s σ H Q I h => ?_⟩
  refine wpAny_FormattedValue_plain (thn (he.run pins s σ H _ I h) fun v s1 hv => ?_)
  obtain ⟨x, H1, I1, r1, a, z, n, rfl, ht, hz, hn, hl, q⟩ := hv
  cases r1
  obtain ⟨its, rv, ⟨o, ho, hcl, m0, hd⟩, _⟩ := I1.tuple ht
  have hu := hr.units
  have big : 4000 ≤ sizeLine := by decide
  have hp : piled [reprText z, ((toString n : String) : Str)] = ((reprText z).length + 2) + ((((toString n : String) : Str).length + 2) + 0) := by
    rw [piled_cons, piled_cons, piled_nil]
  have htx := fmt_text [reprText z, ((toString n : String) : Str)]
  have hR : ReprAll X.prog X.w its [reprText z, ((toString n : String) : Str)] := by
    cases rv with
    | cons r1 r2 =>
      obtain ⟨t, rfl⟩ := r1
      cases r2 with
      | cons r3 r4 =>
        cases r4
        obtain ⟨t', rfl⟩ := r3
        exact .cons (ReprIs.str z t (by omega)) (.cons (ReprIs.int t' hn) .nil)
  exact fmt_tuple (ts := [reprText z, ((toString n : String) : Str)]) (by omega) ho hcl hd hR (by omega) fun m u tk hm => ⟨.str m, H1, I1.tok _, ⟨u, rfl⟩, q m (by omega)⟩
end
end L2

namespace Half
open PySem PySem.Spec PyProof.Rows L2
/-! ### InvalidLayout: two fields -/
abbrev sIl : Stmt := inClass (top 12) 0
def spErrL (K : PySem.W.Frag) (C : Addr) : Sp := fun vs H Q _ => ∃ (a k : Addr) (p z : Str) (n : Int), vs = [.ref a, .str p, .ref k] ∧ H a = some (exo a C none) ∧ p.length ≤ 1000 ∧ SqT K H k [.str z, .int n] ∧ (reprText z).length ≤ 1000 ∧ n.natAbs.log2 < 1920 ∧ ((toString n : String) : Str).length ≤ 1000 ∧
  ∀ dx, H dx = none → dx ≠ a → Q .non (upd (upd (upd H dx (exd dx [("part", .str p)])) a (exo a C (some dx))) dx (exd dx [("key", .ref k), ("part", .str p)]))
theorem scIl : SupScope ["self", "part", "key"] ["self", "part", "key"] (defScope sIl) := ⟨rfl, rfl, rfl, by decide +kernel, rfl, by decide +kernel, by decide +kernel, by decide +kernel, rfl, rfl⟩
section
variable {P : Program} {w : World} {K : PySem.W.Frag} {mg : Str → Option Value} {base : Heap}
theorem ok_il {C f : Addr} {fd : FuncData} (F : ErrFn P K C "InvalidLayout.__init__" sIl f fd) (T : SupC P K mg C) (nP : PySem.W.findIn K (.ref C) "part" = some none) (nK : PySem.W.findIn K (.ref C) "key" = some none) : FnOk P w K mg base CX0 1 f fd ["self", "part", "key"] (spErrL K C) := by
  obtain ⟨oc, od, kV, doc, pm, an, cda, cc, ct, osl, ccl, cdd, vsc, ccs, file, tf, cl, cld, csl, rfl, lk, hcd, hcode, hvs, hfile, hcell⟩ := F.ex
  refine fn_sup (N := ["self", "part", "key"]) lk hcd scIl rfl rfl rfl hcode hvs hfile hcell T (fun vs H Q E h => ?_) (fun _ => rfl) (fun _ => rfl) (fun _ => rfl) (fun A outer s H vs Q E hr h => ?_)
  · obtain ⟨a, k, p, z, n, rfl, _⟩ := h
    rfl
  · obtain ⟨a, k, p, z, n, rfl, ha, hp, hk, hz, hn, hl, q⟩ := h
    refine ⟨a, _, _, rfl, ha, pa_cons (pe_joined (.cons pe_str (.cons (pe_fmt (pv 1)) (.cons pe_str (.cons (pe_fmtP hr (pv 2)) (.cons pe_str .nil)))))) pa_nil, pss_cons (ps_ost (pv 0) (pv 1)) (pss_one (ps_ost (pv 0) (pv 2))), ?_⟩
    have a1 : ("no such " : Str).length = 8 := by decide
    have a2 : (" of the edition " : Str).length = 16 := by decide
    have a3 : (" can be" : Str).length = 7 := by decide
    have e0 : (Str.empty).length = 0 := by decide
    refine ⟨_, rfl, (by decide), _, rfl, .inl ⟨p, rfl, Nat.le_trans hp (by decide), p, rfl, ?_, _, rfl, ?_, ?_⟩⟩
    · rw [app_len, app_len, sizeLine_eq]
      omega
    · rw [app_len, app_len, app_len, sizeLine_eq]
      omega
    refine ⟨_, rfl, k, z, n, rfl, hk, hz, hn, hl, fun m hm => ⟨_, rfl, ?_, _, rfl, ?_, ?_⟩⟩
    · rw [app_len, app_len, app_len, app_len, sizeLine_eq]
      omega
    · rw [app_len, app_len, app_len, app_len, app_len, sizeLine_eq]
      omega
    refine ⟨by show 1 ≤ 1000; decide, ha, ?_⟩
    refine ⟨_, rfl, _, rfl, a, C, rfl, T.oex, nP, .inl ⟨ha, fun dx h1 h2 => ?_⟩⟩
    refine ⟨_, rfl, _, rfl, a, C, rfl, T.oex, nK, .inr ⟨dx, [("part", .str p)], upd_same, by rw [upd_ne h2, upd_same], (by show 1 ≤ 900; decide), ?_⟩⟩
    exact q dx h1 h2
end
end Half

/-! the least of two things, of a list of things: data that are alike; dicts with tuple keys, walked by their pairs -/
namespace L2
open PySem PySem.Spec PyProof.Rows
section
variable {prog : Program} {w : World} {A : Around} {E : Value → Shared → Prop} {s : Shared}
/-- min(a, b): b where it is the less -/
theorem min2_data {a b : Value} {x y : PyData} {as bs : List Addr} {Q : Value → Shared → Prop} (calm : A.handled = none) (ra : Reads s.heap a x as) (rb : Reads s.heap b y bs) (al : PySem.W.AlikeAll [x, y]) (room : A.units + 1 + PyData.depthAll [x, y] < cLine)
    (q : ∀ h' tk, (∀ c o, s.heap.get? c = some o → h'.get? c = some o) → Q (if PySem.W.dataLt y x = true then b else a) { s with heap := h', toks := tk }) : wpAny (model prog w) A (call (.builtin "min") [a, b]) Q E s := by
  have nm : (toString "min" ++ toString ".loop" : String) = "min.loop" := by decide
  refine call_function_tree F.kind_min F.plain_min F.entry_min (F.args_min2 _ _) ?_
  show wpAny _ A.in1 (Builtin.Builtins.bindParams "min" ["key", "default"] 0 ⟨[], []⟩ >>= _) _ _ s
  refine wpAny_bind (wpAny_of_eq (show Builtin.Builtins.bindParams "min" ["key", "default"] 0 ⟨[], []⟩ = pure [none, none] from rfl) ?_)
  show wpAny _ A.in1 (newTuple [a, b] >>= _) _ _ s
  refine wpAny_bind (wpAny_newObj_type ?_)
  have up1 : ∀ c o, s.heap.get? c = some o → (s.heap.push { cls := .type "tuple", data := .seq #[a, b] }).get? c = some o := fun c o e => Heap.get?_push_of_some _ e
  have tup : (s.heap.push { cls := .type "tuple", data := .seq #[a, b] }).IsTuple s.heap.objs.size #[a, b] := ⟨_, Heap.get?_push_size _ rfl, rfl, 0, rfl⟩
  have rd : ReadsAll s.heap (#[a, b] : Array Value).toList [x, y] (as ++ (bs ++ [])) := .cons ra (.cons rb .nil)
  refine wpAny_bind (PySem.W.iter_tupleW (A := A.in1) (s := { s with heap := s.heap.push { cls := .type "tuple", data := .seq #[a, b] } }) calm tup fun s2 e W st hfp hw hk => ?_)
  refine wpAny_bind (wpAny_newObj_type ?_)
  have off : s2.heap.objs.size ∉ [(s.heap.push { cls := .type "tuple", data := .seq #[a, b] }).objs.size, s.heap.objs.size] := fun m => Nat.lt_irrefl _ (hfp _ m)
  rw [nm]
  refine wpAny_pure ⟨plainId_quiet F.plain_min_loop _, codeAny_min_loop_firstH W s.heap (fun c o z => hw c o (up1 c o z)) _ (PySem.W.cmpIn_lt (A := A.in1) rd al room) s2.heap.objs.size off (fresh_in fun c o z => hk c o (up1 c o z)) _ (Nat.succ_pos _) (fun c o z => Heap.get?_push_of_some _ (hk c o (up1 c o z)))
    (W.frame 0 s2 _ s2.toks st (Nat.le_refl _) fun c _ o z => Heap.get?_push_of_some _ z) (Heap.get?_push_size _ rfl) fun v s' hP mv => ?_⟩
  obtain ⟨h', tk, rfl, hk'⟩ := PySem.W.moved_old e rfl (Moved.drop_new (tk := s2.toks) mv (Nat.le_refl _))
  have fin := q h' tk fun c o z => hk' c o (up1 c o z)
  have hv : v = if PySem.W.dataLt y x = true then b else a := by
    have hP : (#[a, b] : Array Value)[argBest (fun i j => PySem.W.dataLt (([x, y] : List PyData).getD i .none) (([x, y] : List PyData).getD j .none)) 1]? = some v := hP
    cases c : PySem.W.dataLt y x with
    | true =>
      have e1 : argBest (fun i j => PySem.W.dataLt (([x, y] : List PyData).getD i .none) (([x, y] : List PyData).getD j .none)) 1 = 1 := by simp [argBest, c]
      rw [e1] at hP
      simpa using hP.symm
    | false =>
      have e1 : argBest (fun i j => PySem.W.dataLt (([x, y] : List PyData).getD i .none) (([x, y] : List PyData).getD j .none)) 1 = 0 := by simp [argBest, c]
      rw [e1] at hP
      simpa using hP.symm
  rw [hv]
  exact fin
end
section
variable {X : Cx}
/-- min(x, y) of data -/
def rMin2 (K : PySem.W.Frag) : List V → Hp → VK → Prop := fun vs H Q => ∃ (x y : V) (dx dy : PyData), vs = [x, y] ∧ Dp K H x dx ∧ Dp K H y dy ∧ PySem.W.AlikeAll [dx, dy] ∧ PyData.depthAll [dx, dy] ≤ 20 ∧ Q (if PySem.W.dataLt dy dx = true then y else x) H
theorem cr_min2 (hc : X.calm = true) (hu : X.A.units + 40 < cLine) : CallR X (.builtin "min") (rMin2 X.K) := by
  rintro pins s σ H vs us Q I r ⟨x, y, dx, dy, rfl, h1, h2, al, dp, q⟩
  cases r with
  | @cons _ u _ us r1 r2 =>
    cases r2 with
    | @cons _ u' _ _ r2 r3 =>
      cases r3
      obtain ⟨as, ra⟩ := Dp.readsAll I _ _ [u, u'] (.cons h1 (.cons h2 .nil)) (.cons r1 (.cons r2 .nil))
      cases ra with
      | cons ra rb =>
        cases rb with
        | cons rb _ =>
          refine min2_data (I.ok.hd hc) ra rb al (by omega) fun h' tk kp => ?_
          cases c : PySem.W.dataLt dy dx with
          | true =>
            rw [c] at q
            exact ⟨y, H, I.kept kp, r2, q⟩
          | false =>
            rw [c] at q
            exact ⟨x, H, I.kept kp, r1, q⟩
theorem minD_mem (d : PyData) (ds : List PyData) : PySem.W.minD d ds ∈ d :: ds := by
  unfold PySem.W.minD
  induction ds generalizing d with
  | nil => exact List.mem_singleton.mpr rfl
  | cons y ys ih =>
    rw [List.foldl_cons]
    have h := ih (if PySem.W.dataLt y d = true then y else d)
    rcases List.mem_cons.mp h with e | e
    · rw [e]
      split
      · exact .tail _ (.head _)
      · exact .head _
    · exact .tail _ (.tail _ e)
theorem vals_back_at : ∀ {xs : List V} {us : List Value} {i : Nat} {u : Value}, Vals xs us → us[i]? = some u → ∃ x, xs[i]? = some x ∧ RelV x u
  | _, _, _, _, .nil, h => by simp at h
  | x :: _, _, 0, _, .cons r _, h => by
    cases h
    exact ⟨x, rfl, r⟩
  | _ :: _, _, i + 1, _, .cons _ t, h => vals_back_at (i := i) t h
/-- min(xs), xs a list of data -/
def rMinD (K : PySem.W.Frag) : List V → Hp → VK → Prop := fun vs H Q => ∃ (a : Addr) (xs : List V) (d : PyData) (ds : List PyData), vs = [.ref a] ∧ SqL K H a xs ∧ DpAll K H xs (d :: ds) ∧ PySem.W.AlikeAll (d :: ds) ∧ PyData.depthAll (d :: ds) ≤ 20 ∧
  ∀ (i : Nat) (x : V), xs[i]? = some x → (d :: ds)[i]? = some (PySem.W.minD d ds) → Q x H
theorem cr_minD (hc : X.calm = true) (hu : X.A.units + 40 < cLine) : CallR X (.builtin "min") (rMinD X.K) := by
  rintro pins s σ H vs us Q I r ⟨a, xs, d, ds, rfl, hs, hd, al, dp, q⟩
  obtain ⟨its, rv, hl, -⟩ := I.list hs
  rw [Vals.ref1 r]
  obtain ⟨as, ra⟩ := Dp.readsAll I _ _ its hd rv
  refine PySem.W.min_list_data (I.ok.hd hc) hl.isList (by rw [List.toList_toArray]; exact ra) al (by omega) fun i v h' tk bs hv rd kp => ?_
  rw [List.getElem?_toArray] at hv
  obtain ⟨bs', r1, lt, mem, _⟩ := PySem.W.readsAll_at ra i v hv
  have e : (d :: ds).getD i .none = PySem.W.minD d ds := by
    exact PySem.W.alike_unique _ _ v bs' bs (al.1 _ mem _ (minD_mem d ds)) (PyProof.Rows.Reads.keeps kp r1) rd
  obtain ⟨x, hx, rx⟩ := vals_back_at rv hv
  refine ⟨x, H, I.kept kp, rx, q i x hx ?_⟩
  rw [← e, List.getD_eq_getElem?_getD, List.getElem?_eq_getElem lt]
  rfl
end
end L2

namespace Half
open PySem PySem.Spec PyProof.Rows L2
/-! ### check_layout -/
abbrev sCl : Stmt := top 36
abbrev ClN : List Str := ["store", "files", "takes", "wrong_files", "key", "wrong_takes"]
theorem scCl : FnScope ClN ["store", "files", "takes"] (defScope sCl) := ⟨rfl, rfl, rfl, by decide +kernel, rfl, by decide +kernel, by decide +kernel⟩
structure HasF (P : Program) (w : World) (K : PySem.W.Frag) (mg : Str → Option Value) (base : Heap) (CT : Addr) : Prop where
  ex : ∃ f fd, OwnSp K CT f "__contains__" ∧ FnOk P w K mg base CX0 1 f fd ["self", "x"] (spHas CT) ∧ Binds K fd ["self", "x"] []
theorem op_notinS {X : Cx} {CT : Addr} (D : HasF X.prog X.w X.K X.mg X.base CT) (hr : Room 1 X.A) : OpR X (compareOp .NotIn) (rInO CT (spHas CT) E0 not) := by
  obtain ⟨f, fd, O, F, b⟩ := D.ex
  exact op_notinO F O b hr pass0
abbrev Fls : Type := List (Kk × Addr × List (Str × V))
abbrev Tks : Type := List (Kk × Addr × List Str)
def keyL (k : Kk) : List Key := [.inr k.1, .inl k.2]
def kvF (fs : Fls) : List (List Key × V) := fs.map fun e => (keyL e.1, .ref e.2.1)
def kvT (ts : Tks) : List (List Key × V) := ts.map fun e => (keyL e.1, .ref e.2.1)
def badF (ks : List Kk) (e : Kk × Addr × List (Str × V)) : Bool := !has ks e.1 || !areFiles e.2.2
def badT (ks : List Kk) (e : Kk × Addr × List Str) : Bool := !has ks e.1 || !areTakes ks e.2.2 e.1.1
def kD (k : Kk) : PyData := .tuple [.str k.1, .int k.2]
/-- a key that a text can tell of -/
def OkK (k : Kk) : Prop := PyData.strOk k.1 = true ∧ (reprText k.1).length ≤ 1000 ∧ k.2.natAbs.log2 < 1920 ∧ ((toString k.2 : String) : Str).length ≤ 1000
/-- the store's table is another dict than d (both are dicts with tuple keys) -/
def Apart (CT : Addr) (H : Hp) (st d : Addr) : Prop := ∀ dx tb nb, H st = some (.ins CT dx [("table", .ref tb), ("numbers", .ref nb)]) → tb ≠ d
theorem StObj.lock {CT : Addr} {H : Hp} {st d : Addr} {es : Eds} {kvs : List (List Key × V)} {od : Obj} (h : StObj CT H st es) (ap : Apart CT H st d) (g : H d = some (.dT kvs)) : StObj CT (upd H d (.frz od (.dT kvs))) st es := by
  obtain ⟨⟨dy, tb, nb, h1, h2, h3⟩, one⟩ := h
  obtain ⟨ys', a, b, kvs', g1, g2, g3⟩ := h3
  have n : ∀ {b' : Addr} {o : HO}, H b' = some o → (∀ ks, o ≠ .dT ks) → (upd H d (.frz od (.dT kvs))) b' = some o := fun {b' o} q no => by
    rw [upd_ne fun z => no kvs (by rw [z, g] at q; exact (Option.some.inj q).symm)]
    exact q
  exact ⟨⟨dy, tb, nb, n h1 (by intro _ z; cases z), by rw [upd_ne (ap _ _ _ h1)]; exact h2, ys', a, b, kvs', n g1 (by intro _ z; cases z), g2, fun nm hm => let ⟨t, a, b⟩ := g3 nm hm; ⟨t, a, n b (by intro _ z; cases z)⟩⟩, one⟩
/-- the least of keys -/
def leastK (k : Kk) (ks : List Kk) (m : Kk) : Prop := m ∈ k :: ks ∧ kD m = PySem.W.minD (kD k) (ks.map kD)
def spCl (K : PySem.W.Frag) (CT CL : Addr) : Sp := fun vs H Q E => ∃ (st fa ta : Addr) (es : Eds) (fs : Fls) (ts : Tks), vs = [.ref st, .ref fa, .ref ta] ∧ StObj CT H st es ∧ Apart CT H st fa ∧ Apart CT H st ta ∧ H fa = some (.dT (kvF fs)) ∧ H ta = some (.dT (kvT ts)) ∧
  (∀ e ∈ fs, OkK e.1 ∧ FilesAt K H e.2.1 e.2.2 ∧ e.2.2.length ≤ 100 ∧ ∀ p ∈ e.2.2, p.1.length ≤ 1000 ∧ Numv p.2) ∧ (∀ e ∈ ts, OkK e.1 ∧ SqT K H e.2.1 (e.2.2.map V.str) ∧ e.2.2.length ≤ 100 ∧ ∀ z ∈ e.2.2, z.length ≤ 1000) ∧ fs.length ≤ 100 ∧ ts.length ≤ 100 ∧ (fs.map (·.1)).Nodup ∧ (ts.map (·.1)).Nodup ∧
  (fs.filter (badF (keysOf es)) = [] → ts.filter (badT (keysOf es)) = [] → ∀ H', Same H H' → Q .non H') ∧
  (∀ k ks m, (fs.filter (badF (keysOf es))).map (·.1) = k :: ks → leastK k ks m → ∀ H' dd q, Same H H' → H' dd = some (.xd [("key", .ref q), ("part", .str "files")]) → H' q = some (.tup [.str m.1, .int m.2]) → E (.ref CL) (some dd) H') ∧
  (fs.filter (badF (keysOf es)) = [] → ∀ k ks m, (ts.filter (badT (keysOf es))).map (·.1) = k :: ks → leastK k ks m → ∀ H' dd q, Same H H' → H' dd = some (.xd [("key", .ref q), ("part", .str "takes")]) → H' q = some (.tup [.str m.1, .int m.2]) → E (.ref CL) (some dd) H')
theorem StObj.ins {CT : Addr} {H : Hp} {a : Addr} {es : Eds} (h : StObj CT H a es) : ∃ dx fs, H a = some (.ins CT dx fs) := by
  obtain ⟨⟨dx, tb, nb, h1, _⟩, _⟩ := h
  exact ⟨dx, _, h1⟩
theorem inS_read {CT : Addr} {H : Hp} {a t : Addr} {es : Eds} {k : Kk} {fl : Bool → Bool} {Q : VK} (h : StObj CT H a es) (ht : H t = some (.tup [.str k.1, .int k.2])) (q : Q (.bl (fl (has (keysOf es) k))) H) : rInO CT (spHas CT) E0 fl (.ref t) (.ref a) H Q := by
  obtain ⟨dx, fs, ha⟩ := h.ins
  exact ⟨a, dx, fs, rfl, ha, a, t, es, k, rfl, h, ht, _, rfl, q⟩
theorem keyL_inj {a b : Kk} (h : keyL a = keyL b) : a = b := by
  unfold keyL at h
  injection h with h1 h2
  injection h2 with h2 _
  exact Prod.ext (Sum.inr.inj h1) (Sum.inl.inj h2)
theorem kvF_nodup {fs : Fls} (h : (fs.map (·.1)).Nodup) : ((kvF fs).map (·.1)).Nodup := by
  unfold kvF
  rw [List.map_map]
  have e : ((fun x : List Key × V => x.1) ∘ fun e : Kk × Addr × List (Str × V) => (keyL e.1, V.ref e.2.1)) = fun e => keyL e.1 := rfl
  rw [e, show (fun e : Kk × Addr × List (Str × V) => keyL e.1) = keyL ∘ (fun e : Kk × Addr × List (Str × V) => e.1) from rfl, ← List.map_map]
  exact List.Pairwise.map keyL (fun a b n z => n (keyL_inj z)) h
theorem kvT_nodup {ts : Tks} (h : (ts.map (·.1)).Nodup) : ((kvT ts).map (·.1)).Nodup := by
  unfold kvT
  rw [List.map_map]
  have e : ((fun x : List Key × V => x.1) ∘ fun e : Kk × Addr × List Str => (keyL e.1, V.ref e.2.1)) = fun e => keyL e.1 := rfl
  rw [e, show (fun e : Kk × Addr × List Str => keyL e.1) = keyL ∘ (fun e : Kk × Addr × List Str => e.1) from rfl, ← List.map_map]
  exact List.Pairwise.map keyL (fun a b n z => n (keyL_inj z)) h
theorem paired_imp {α β : Type} {R S : α → β → Prop} (h : ∀ a b, R a b → S a b) : ∀ {xs : List α} {ys : List β}, Paired R xs ys → Paired S xs ys
  | _, _, .nil => .nil
  | _, _, .cons a t => .cons (h _ _ a) (paired_imp h t)
theorem paired_app {α β : Type} {R : α → β → Prop} : ∀ {xs : List α} {ys : List β} {xs' : List α} {ys' : List β}, Paired R xs ys → Paired R xs' ys' → Paired R (xs ++ xs') (ys ++ ys')
  | _, _, _, _, .nil, b => b
  | _, _, _, _, .cons a t, b => .cons a (paired_app t b)
theorem kD_all (ks : List Kk) : PySem.W.AlikeAll (ks.map kD) := by
  refine ⟨fun x hx y hy => ?_, fun x hx => ?_⟩
  · obtain ⟨a, _, rfl⟩ := List.mem_map.mp hx
    obtain ⟨b, _, rfl⟩ := List.mem_map.mp hy
    simp [kD, PySem.W.alike, PySem.W.alikeAll]
  · obtain ⟨a, _, rfl⟩ := List.mem_map.mp hx
    exact fun z => by cases z
theorem kD_depth : ∀ ks : List Kk, PyData.depthAll (ks.map kD) ≤ 20
  | [] => by simp [PyData.depthAll]
  | k :: ks => by
    have ih := kD_depth ks
    simp only [List.map_cons, PyData.depthAll]
    have : PyData.depth (kD k) ≤ 20 := by simp [kD, PyData.depth, PyData.depthAll]
    omega
theorem keys_dp {K : PySem.W.Frag} {H : Hp} : ∀ {ps : List Addr} {ks : List Kk}, Paired (fun p k => H p = some (.tup [.str k.1, .int k.2])) ps ks → DpAll K H (ps.map V.ref) (ks.map kD)
  | _, _, .nil => .nil
  | _, _, .cons a t => .cons (.tup (SqT.of a) (.cons (.str _) (.cons (.int _) .nil))) (keys_dp t)
/-- raise InvalidLayout(part, min(keys)) -/
theorem mkL_read {K : PySem.W.Frag} {σ : L2.St} {i : Nat} {H : Hp} {E : XK} {CL D : Addr} {part : Str} {ps : List Addr} {k0 : Kk} {ks : List Kk} (hv : σ[i]? = some (some (.ref D))) (gD : H D = some (.lst (ps.map V.ref))) (pP : Paired (fun p k => H p = some (.tup [.str k.1, .int k.2])) ps (k0 :: ks)) (ok : ∀ k ∈ k0 :: ks, OkK k) (hp : part.length ≤ 1000)
    (q : ∀ m, leastK k0 ks m → ∀ H' dd q, Same H H' → H' dd = some (.xd [("key", .ref q), ("part", .str part)]) → H' q = some (.tup [.str m.1, .int m.2]) → E (.ref CL) (some dd) H') : tMkO CL (spErrL K CL) [] (tCons (tC (.str part)) (tCons (tCB (rMinD K) (tCons (tVar i) tNil)) tNil)) σ H E := by
  refine ⟨_, hv, D, ps.map V.ref, kD k0, ks.map kD, rfl, SqL.of gD, keys_dp pP, kD_all (k0 :: ks), kD_depth (k0 :: ks), fun j x hx hm => ?_⟩
  obtain ⟨p, hp1, rfl⟩ := getE hx
  obtain ⟨m, hm1, gp⟩ := paired_get pP hp1
  have hm2 : kD m = PySem.W.minD (kD k0) (ks.map kD) := by
    have e : (kD k0 :: ks.map kD)[j]? = some (kD m) := by
      rw [← List.map_cons, List.getElem?_map, hm1]
      rfl
    rw [e] at hm
    exact Option.some.inj hm
  have min := List.mem_of_getElem? hm1
  obtain ⟨_, o2, o3, o4⟩ := ok m min
  refine ⟨(by show 2 ≤ 1000; decide), fun a ha => ?_⟩
  have s1 := Same.upd_new (o := exo a CL none) ha
  refine ⟨a, p, part, m.1, m.2, rfl, upd_same, hp, SqT.of (s1 _ _ gp), o2, o3, o4, fun d hd1 hd2 => ⟨rfl, d, [("key", .ref p), ("part", .str part)], ?_, upd_same, ?_, ?_⟩⟩
  · rw [upd_ne (Ne.symm hd2), upd_same]
  · rw [upd_ne hd2] at hd1
    exact hd1
  · rw [upd_ne hd2] at hd1
    have S : Same H (upd (del (upd (upd (upd (upd H a (exo a CL none)) d (exd d [("part", .str part)])) a (exo a CL (some d))) d (exd d [("key", .ref p), ("part", .str part)])) a) d (.xd [("key", .ref p), ("part", .str part)])) := fun b o q1 => by
      have nb : b ≠ d := ne_of_none q1 hd1
      have na : b ≠ a := ne_of_none q1 ha
      rw [upd_ne nb, del_ne na, upd_ne nb, upd_ne na, upd_ne nb, upd_ne na]
      exact q1
    exact q m ⟨min, hm2⟩ _ d p S upd_same (S _ _ gp)
/-- what stands for raising InvalidLayout -/
structure TxtL (P : Program) (w : World) (K : PySem.W.Frag) (mg : Str → Option Value) (base : Heap) (C CT CL fL : Addr) (fdL : FuncData) : Prop where
  mn : mg "min" = none
  has : HasF P w K mg base CT
  dFs : Def P w K mg base 3 "are_files" ["values"] (spFs K)
  dTk : Def P w K mg base 3 "are_takes" ["values", "store", "name"] (spTk K CT)
  mgE : mg "InvalidLayout" = some (.ref CL)
  sup : SupC P K mg CL
  nP : PySem.W.findIn K (.ref CL) "part" = some none
  nK : PySem.W.findIn K (.ref CL) "key" = some none
  iC : PySem.W.findIn K (.ref CL) "__init__" = some (some (.ref fL))
  tI : PySem.W.typeIn K (.ref fL) = some (.type "function")
  er : ErrFn P K CL "InvalidLayout.__init__" sIl fL fdL
  bI : Binds K fdL ["self", "part", "key"] []
section
variable {P : Program} {w : World} {K : PySem.W.Frag} {mg : Str → Option Value} {base : Heap} {C CT CL fL : Addr} {fdL : FuncData}
theorem ok_cl {f : Addr} {fd : FuncData} (F : Fun K "check_layout" "check_layout" sCl f fd) (T : TxtL P w K mg base C CT CL fL fdL) : FnOk P w K mg base (L2.CX P w) 4 f fd ["store", "files", "takes"] (spCl K CT CL) := by
  refine F.okX scCl (fun vs H Q E h => ?_) (fun cdv A outer s H vs Q E hr h => ?_)
  · obtain ⟨st, fa, ta, es, fs, ts, rfl, _⟩ := h
    rfl
  · obtain ⟨st, fa, ta, es, fs, ts, rfl, hO, apF, apT, gF, gT, hF, hT, lf, lt, ndF, ndT, kOk, kF, kT⟩ := h
    have nd := scCl.nd
    have hu := hu_of hr
    have r1 : Room 1 _ := hr.mono (by decide)
    have hu2 := hr.units
    have FL : FnOk P w K mg base CX0 1 fL fdL ["self", "part", "key"] (spErrL K CL) := ok_il T.er T.sup T.nP T.nK
    refine ⟨_, pss_cons (ps_lock (ps_setLc (i := 3) (own := [("key", 4)]) (g := gName 4) (te := tVar 4) rfl nd rfl rfl (sw_true rfl rfl rfl (by decide +kernel)) (pi_keys (pv 1)) (blkOk_by (N := ClN) (sc := defScope sCl) (by decide +kernel))
        (fun _ _ _ _ _ => pg_name (i := 4) nd rfl (Or.inl rfl)) (fun _ _ _ _ _ => pts_one (PW.pt (pw_or (pt_cmpR (op_notinS T.has r1) (pv 4) (pv 0) (by rfl)) (pw_or1 (pt_not (pt_val (pe_def T.dFs hr rfl (pa_cons (pe_dget hu (pv 1) (pv 4) (fun _ _ => rfl)) pa_nil)))))))) (fun _ _ _ _ _ => pv 4)))
      (pss_cons (ps_if (pt_truth (pv 3) (fun _ => rfl)) (pss_one (ps_raise rfl (takes_of rfl rfl rfl rfl) (pmk_oex T.sup.oex T.iC T.tI FL (hr.mono (by decide)) T.bI .nil (fun _ _ _ _ _ _ _ h => h.elim) rfl T.mgE (pa_cons pe_str (pa_cons (pe_callB (cr_minD rfl (Nat.lt_of_le_of_lt (Nat.add_le_add_left (by decide : 40 ≤ 64) _) hu2)) (by rfl) T.mn (by decide +kernel) (pa_cons (pv 3) pa_nil)) pa_nil))))) pss_nil)
      (pss_cons (ps_lock (ps_setLc (i := 5) (own := [("key", 4)]) (g := gName 4) (tt := tOr (tTest (tOp (rInO CT (spHas CT) E0 not) (tVar 4) (tVar 0))) (tNot (tB (tCall (spTk K CT) [] E0 (tCons (tDGet (tVar 2) (tVar 4)) (tCons (tVar 0) (tCons (tOp (rIxT K) (tVar 4) (tC (.int 0))) tNil))))))) (te := tVar 4) rfl nd rfl rfl (sw_true rfl rfl rfl (by decide +kernel)) (pi_keys (pv 2)) (blkOk_by (N := ClN) (sc := defScope sCl) (by decide +kernel))
        (fun _ _ _ _ _ => pg_name (i := 4) nd rfl (Or.inl rfl)) (fun _ _ _ _ _ => pts_one (PW.pt (pw_or (pt_cmpR (op_notinS T.has r1) (pv 4) (pv 0) (by rfl)) (pw_or1 (pt_not (pt_val (pe_def T.dTk hr rfl (pa_cons (pe_dget hu (pv 2) (pv 4) (fun _ _ => rfl)) (pa_cons (pv 0) (pa_cons (pe_ix (ix_tup : IxR _ (rIxT K)) (pv 4) pe_int (fun _ _ => rfl)) pa_nil)))))))))) (fun _ _ _ _ _ => pv 4)))
      (pss_one (ps_if (pt_truth (pv 5) (fun _ => rfl)) (pss_one (ps_raise rfl (takes_of rfl rfl rfl rfl) (pmk_oex T.sup.oex T.iC T.tI FL (hr.mono (by decide)) T.bI .nil (fun _ _ _ _ _ _ _ h => h.elim) rfl T.mgE (pa_cons pe_str (pa_cons (pe_callB (cr_minD rfl (Nat.lt_of_le_of_lt (Nat.add_le_add_left (by decide : 40 ≤ 64) _) hu2)) (by rfl) T.mn (by decide +kernel) (pa_cons (pv 5) pa_nil)) pa_nil))))) pss_nil)))), ?_⟩
    refine ⟨fa, _, gF, trivial, fun od => ?_⟩
    have gL : (upd H fa (.frz od (.dT (kvF fs)))) fa = some (.frz od (.dT (kvF fs))) := upd_same
    have hOL := hO.lock (od := od) apF gF
    have kpL : Kp K H (upd H fa (.frz od (.dT (kvF fs)))) := Kp.upd gF (fun xs z => by cases z) (fun q xs z => by cases z)
    have back : ∀ H', Same (upd H fa (.frz od (.dT (kvF fs)))) H' → Same H (upd H' fa (.dT (kvF fs))) := fun H' S a o q => by
      by_cases c : a = fa
      · rw [c, gF] at q
        rw [c, upd_same]
        exact q
      · rw [upd_ne c]
        exact S _ _ (by rw [upd_ne c]; exact q)
    have hFL : ∀ e ∈ fs, FilesAt K (upd H fa (.frz od (.dT (kvF fs)))) e.2.1 e.2.2 := fun e he => (hF e he).2.1.kp kpL
    generalize upd H fa (.frz od (.dT (kvF fs))) = HL at gL hOL hFL back ⊢
    refine ⟨_, rfl, fa, od, rfl, .inr ⟨kvF fs, gL, fun D hD => ?_⟩⟩
    refine lc_it (walk_keysT (kvs := kvF fs)) (fun i H' => Same HL H' ∧ ∃ ps : List Addr, H' D = some (.lst (ps.map V.ref)) ∧ Paired (fun p k => H' p = some (.tup [.str k.1, .int k.2])) ps (((fs.take i).filter (badF (keysOf es))).map (·.1)) ∧ ps.length ≤ i) ⟨Same.upd_new hD, [], upd_same, .nil, Nat.le_refl _⟩ (fun _ _ _ h => h.1 _ _ gL) ?_ ?_
    · rintro i v H4 H5 hi ⟨s4, ps, gD, pP, lP⟩ ⟨rfl, kk, vv, q, hkv, rfl, gq⟩
      have hi' : i < fs.length := by unfold kvF at hi; rw [List.length_map] at hi; exact hi
      have he := List.getElem?_eq_getElem hi'
      have hfe := List.getElem_mem hi'
      generalize fs[i] = e at he hfe
      have ekv : (kvF fs)[i]? = some (keyL e.1, V.ref e.2.1) := by unfold kvF; rw [List.getElem?_map, he]; rfl
      have hv := val_nodup (kvF_nodup ndF) (keyL e.1, V.ref e.2.1) (List.mem_of_getElem? ekv)
      rw [ekv] at hkv
      obtain ⟨rfl, rfl⟩ := Prod.mk.inj (Option.some.inj hkv)
      have hO5 := hOL.same s4
      obtain ⟨_, f1, f2, f3⟩ := hF e hfe
      refine ⟨rfl, ?_⟩
      refine ⟨_, rfl, _, rfl, inS_read (k := e.1) hO5 gq ⟨_, rfl, ?_⟩⟩
      have tk : (fs.take (i + 1)).filter (badF (keysOf es)) = (fs.take i).filter (badF (keysOf es)) ++ (if badF (keysOf es) e = true then [e] else []) := by
        rw [take_next he, List.filter_append]
        congr 1
        by_cases c : badF (keysOf es) e = true
        · rw [if_pos c, List.filter_cons_of_pos c]
          rfl
        · rw [if_neg c, List.filter_cons_of_neg c]
          rfl
      have yes : ∀ H6, Same H5 H6 → badF (keysOf es) e = true → ∃ acc, H6 D = some (.lst acc) ∧ acc.length < sizeLine ∧ Same HL (upd H6 D (.lst (acc ++ [V.ref q]))) ∧ ∃ ps' : List Addr, upd H6 D (.lst (acc ++ [V.ref q])) D = some (.lst (ps'.map V.ref)) ∧ Paired (fun p k => upd H6 D (.lst (acc ++ [V.ref q])) p = some (.tup [.str k.1, .int k.2])) ps' (((fs.take (i + 1)).filter (badF (keysOf es))).map (·.1)) ∧ ps'.length ≤ i + 1 := fun H6 s6 c => by
        have ne : ∀ {b' : Addr} {ws : List V}, H6 b' = some (.tup ws) → b' ≠ D := fun {b'} {ws} z w => by
          rw [w, s6 _ _ gD] at z
          cases z
        refine ⟨_, s6 _ _ gD, by rw [List.length_map, sizeLine_eq]; omega, fun b' o q' => ?_, ps ++ [q], ?_, ?_, ?_⟩
        · rw [upd_ne (ne_of_none q' hD)]
          exact s6 _ _ (s4 _ _ q')
        · rw [upd_same, List.map_append]
          rfl
        · rw [tk, if_pos c, List.map_append]
          refine paired_app (paired_imp (fun p k h => ?_) pP) (.cons ?_ .nil)
          · have h6 := s6 _ _ h
            rw [upd_ne (ne h6)]
            exact h6
          · have h6 := s6 _ _ gq
            rw [upd_ne (ne h6)]
            exact h6
        · rw [List.length_append]
          exact Nat.succ_le_succ lP
      cases c1 : has (keysOf es) e.1 with
      | false =>
        refine iteT (iteT ?_)
        exact ⟨_, rfl, yes H5 (Same.refl _) (by unfold badF; rw [c1]; rfl)⟩
      | true =>
        refine iteF ?_
        refine ⟨_, rfl, _, rfl, fa, .ref e.2.1, rfl, .inr ⟨kvF fs, keyL e.1, q, .inr ⟨od, s4 _ _ gL⟩, rfl, gq, hv.symm⟩, e.2.1, e.2.2, rfl, (hFL e hfe).kp s4.kp, f2, f3, fun H6 s6 => ⟨_, rfl, ?_⟩⟩
        cases c2 : areFiles e.2.2 with
        | false =>
          refine iteT ?_
          exact ⟨_, rfl, yes H6 s6 (by unfold badF; rw [c1, c2]; rfl)⟩
        | true =>
          refine iteF ?_
          have c : ¬ badF (keysOf es) e = true := by unfold badF; rw [c1, c2]; decide
          rw [if_neg c, List.append_nil] at tk
          exact ⟨s4.trans s6, ps, s6 _ _ gD, by rw [tk]; exact paired_imp (fun p k h => s6 _ _ h) pP, Nat.le_succ_of_le lP⟩
    · rintro H4 ⟨s4, ps, gD, pP, lP⟩
      have lkv : (kvF fs).length = fs.length := by unfold kvF; rw [List.length_map]
      rw [lkv, List.take_length] at pP
      refine ⟨s4 _ _ gL, ?_⟩
      have S5 := back H4 s4
      have nfa : ∀ {b' : Addr} {o : HO}, H4 b' = some o → (∀ u v, o ≠ .frz u v) → (upd H4 fa (.dT (kvF fs))) b' = some o := fun {b' o} z no => by
        rw [upd_ne fun w => no _ _ (by rw [w, s4 _ _ gL] at z; exact (Option.some.inj z).symm)]
        exact z
      have gD5 := nfa gD (by intro _ _ z; cases z)
      have pP5 := paired_imp (fun p k h => nfa h (by intro _ _ z; cases z)) pP
      generalize upd H4 fa (.dT (kvF fs)) = H5 at S5 gD5 pP5 ⊢
      cases hB : fs.filter (badF (keysOf es)) with
      | cons e0 B =>
        rw [hB] at pP5
        have okB : ∀ k ∈ e0.1 :: B.map (·.1), OkK k := fun k hk => by
          have : k ∈ (fs.filter (badF (keysOf es))).map (·.1) := by rw [hB]; exact hk
          obtain ⟨e, he, rfl⟩ := List.mem_map.mp this
          exact (hF e (List.mem_filter.mp he).1).1
        refine ⟨_, rfl, true, .inl ⟨ps.map V.ref, SqL.of gD5, ?_⟩, iteT ?_⟩
        · cases pP5
          rfl
        exact mkL_read rfl gD5 pP5 okB (by decide) fun m hm H' dd q S g1 g2 => kF _ _ m (by rw [hB]; rfl) hm H' dd q (S5.trans S) g1 g2
      | nil =>
        rw [hB] at pP5
        have e0 : ps = [] := by
          cases pP5
          rfl
        rw [e0] at gD5
        refine ⟨_, rfl, false, .inl ⟨[], SqL.of gD5, rfl⟩, iteF ?_⟩
        have hO' := hO.same S5
        have apT' : Apart CT H5 st ta := fun dx tb nb h => by
          obtain ⟨dy, tb', nb', h1, _⟩ := hO.ob
          have h2 := S5 _ _ h1
          rw [h] at h2
          have := Option.some.inj h2
          injection this with _ _ h3
          injection h3 with h4 _
          injection h4 with _ h5
          injection h5 with h6
          rw [h6]
          exact apT _ _ _ h1
        have gT' := S5 _ _ gT
        have hT' : ∀ e ∈ ts, SqT K H5 e.2.1 (e.2.2.map V.str) := fun e he => S5.sqT (hT e he).2.1
        refine ⟨ta, _, gT', trivial, fun od2 => ?_⟩
        have gL : (upd H5 ta (.frz od2 (.dT (kvT ts)))) ta = some (.frz od2 (.dT (kvT ts))) := upd_same
        have hOL := hO'.lock (od := od2) apT' gT'
        have kpL : Kp K H5 (upd H5 ta (.frz od2 (.dT (kvT ts)))) := Kp.upd gT' (fun xs z => by cases z) (fun q xs z => by cases z)
        have back : ∀ H', Same (upd H5 ta (.frz od2 (.dT (kvT ts)))) H' → Same H5 (upd H' ta (.dT (kvT ts))) := fun H' S a o q => by
          by_cases c : a = ta
          · rw [c, gT'] at q
            rw [c, upd_same]
            exact q
          · rw [upd_ne c]
            exact S _ _ (by rw [upd_ne c]; exact q)
        have hTL : ∀ e ∈ ts, SqT K (upd H5 ta (.frz od2 (.dT (kvT ts)))) e.2.1 (e.2.2.map V.str) := fun e he => kpL _ _ (hT' e he)
        generalize upd H5 ta (.frz od2 (.dT (kvT ts))) = HL2 at gL hOL hTL back ⊢
        refine ⟨_, rfl, ta, od2, rfl, .inr ⟨kvT ts, gL, fun D2 hD2 => ?_⟩⟩
        refine lc_it (walk_keysT (kvs := kvT ts)) (fun i H' => Same HL2 H' ∧ ∃ ps : List Addr, H' D2 = some (.lst (ps.map V.ref)) ∧ Paired (fun p k => H' p = some (.tup [.str k.1, .int k.2])) ps (((ts.take i).filter (badT (keysOf es))).map (·.1)) ∧ ps.length ≤ i) ⟨Same.upd_new hD2, [], upd_same, .nil, Nat.le_refl _⟩ (fun _ _ _ h => h.1 _ _ gL) ?_ ?_
        · rintro i v H7 H8 hi ⟨s4, ps, gD, pP, lP⟩ ⟨rfl, kk, vv, q, hkv, rfl, gq⟩
          have hi' : i < ts.length := by unfold kvT at hi; rw [List.length_map] at hi; exact hi
          have he := List.getElem?_eq_getElem hi'
          have hfe := List.getElem_mem hi'
          generalize ts[i] = e at he hfe
          have ekv : (kvT ts)[i]? = some (keyL e.1, V.ref e.2.1) := by unfold kvT; rw [List.getElem?_map, he]; rfl
          have hv := val_nodup (kvT_nodup ndT) (keyL e.1, V.ref e.2.1) (List.mem_of_getElem? ekv)
          rw [ekv] at hkv
          obtain ⟨rfl, rfl⟩ := Prod.mk.inj (Option.some.inj hkv)
          have hO5 := hOL.same s4
          obtain ⟨_, f1, f2, f3⟩ := hT e hfe
          refine ⟨rfl, ?_⟩
          refine ⟨_, rfl, _, rfl, inS_read (k := e.1) hO5 gq ⟨_, rfl, ?_⟩⟩
          have tk : (ts.take (i + 1)).filter (badT (keysOf es)) = (ts.take i).filter (badT (keysOf es)) ++ (if badT (keysOf es) e = true then [e] else []) := by
            rw [take_next he, List.filter_append]
            congr 1
            by_cases c : badT (keysOf es) e = true
            · rw [if_pos c, List.filter_cons_of_pos c]
              rfl
            · rw [if_neg c, List.filter_cons_of_neg c]
              rfl
          have yes : ∀ H6, Same H8 H6 → badT (keysOf es) e = true → ∃ acc, H6 D2 = some (.lst acc) ∧ acc.length < sizeLine ∧ Same HL2 (upd H6 D2 (.lst (acc ++ [V.ref q]))) ∧ ∃ ps' : List Addr, upd H6 D2 (.lst (acc ++ [V.ref q])) D2 = some (.lst (ps'.map V.ref)) ∧ Paired (fun p k => upd H6 D2 (.lst (acc ++ [V.ref q])) p = some (.tup [.str k.1, .int k.2])) ps' (((ts.take (i + 1)).filter (badT (keysOf es))).map (·.1)) ∧ ps'.length ≤ i + 1 := fun H6 s6 c => by
            have ne : ∀ {b' : Addr} {ws : List V}, H6 b' = some (.tup ws) → b' ≠ D2 := fun {b'} {ws} z w => by
              rw [w, s6 _ _ gD] at z
              cases z
            refine ⟨_, s6 _ _ gD, by rw [List.length_map, sizeLine_eq]; omega, fun b' o q' => ?_, ps ++ [q], ?_, ?_, ?_⟩
            · rw [upd_ne (ne_of_none q' hD2)]
              exact s6 _ _ (s4 _ _ q')
            · rw [upd_same, List.map_append]
              rfl
            · rw [tk, if_pos c, List.map_append]
              refine paired_app (paired_imp (fun p k h => ?_) pP) (.cons ?_ .nil)
              · have h6 := s6 _ _ h
                rw [upd_ne (ne h6)]
                exact h6
              · have h6 := s6 _ _ gq
                rw [upd_ne (ne h6)]
                exact h6
            · rw [List.length_append]
              exact Nat.succ_le_succ lP
          cases c1 : has (keysOf es) e.1 with
          | false =>
            refine iteT (iteT ?_)
            exact ⟨_, rfl, yes H8 (Same.refl _) (by unfold badT; rw [c1]; rfl)⟩
          | true =>
            refine iteF ?_
            refine ⟨_, rfl, _, rfl, ta, .ref e.2.1, rfl, .inr ⟨kvT ts, keyL e.1, q, .inr ⟨od2, s4 _ _ gL⟩, rfl, gq, hv.symm⟩, _, rfl, _, rfl, q, _, 0, _, rfl, rfl, SqT.of gq, rfl, e.2.1, st, es, e.2.2, e.1.1, rfl, hO5, s4.sqT (hTL e hfe), f2, f3, fun H6 s6 => ⟨_, rfl, ?_⟩⟩
            cases c2 : areTakes (keysOf es) e.2.2 e.1.1 with
            | false =>
              refine iteT ?_
              exact ⟨_, rfl, yes H6 s6 (by unfold badT; rw [c1, c2]; rfl)⟩
            | true =>
              refine iteF ?_
              have c : ¬ badT (keysOf es) e = true := by unfold badT; rw [c1, c2]; decide
              rw [if_neg c, List.append_nil] at tk
              exact ⟨s4.trans s6, ps, s6 _ _ gD, by rw [tk]; exact paired_imp (fun p k h => s6 _ _ h) pP, Nat.le_succ_of_le lP⟩
        · rintro H7 ⟨s4, ps, gD, pP, lP⟩
          have lkv : (kvT ts).length = ts.length := by unfold kvT; rw [List.length_map]
          rw [lkv, List.take_length] at pP
          refine ⟨s4 _ _ gL, ?_⟩
          have S8 := S5.trans (back H7 s4)
          have nta : ∀ {b' : Addr} {o : HO}, H7 b' = some o → (∀ u v, o ≠ .frz u v) → (upd H7 ta (.dT (kvT ts))) b' = some o := fun {b' o} z no => by
            rw [upd_ne fun w => no _ _ (by rw [w, s4 _ _ gL] at z; exact (Option.some.inj z).symm)]
            exact z
          have gD8 := nta gD (by intro _ _ z; cases z)
          have pP8 := paired_imp (fun p k h => nta h (by intro _ _ z; cases z)) pP
          generalize upd H7 ta (.dT (kvT ts)) = H8 at S8 gD8 pP8 ⊢
          cases hC : ts.filter (badT (keysOf es)) with
          | cons e1 B =>
            rw [hC] at pP8
            have okB : ∀ k ∈ e1.1 :: B.map (·.1), OkK k := fun k hk => by
              have : k ∈ (ts.filter (badT (keysOf es))).map (·.1) := by rw [hC]; exact hk
              obtain ⟨e, he, rfl⟩ := List.mem_map.mp this
              exact (hT e (List.mem_filter.mp he).1).1
            refine ⟨_, rfl, true, .inl ⟨ps.map V.ref, SqL.of gD8, ?_⟩, iteT ?_⟩
            · cases pP8
              rfl
            exact mkL_read rfl gD8 pP8 okB (by decide) fun m hm H' dd q S g1 g2 => kT hB _ _ m (by rw [hC]; rfl) hm H' dd q (S8.trans S) g1 g2
          | nil =>
            rw [hC] at pP8
            have e1 : ps = [] := by
              cases pP8
              rfl
            rw [e1] at gD8
            refine ⟨_, rfl, false, .inl ⟨[], SqL.of gD8, rfl⟩, iteF ?_⟩
            exact kOk hB hC _ S8
end
end Half

namespace Half
open PySem PySem.Spec PyProof.Rows L2
/-! ### Layout -/
abbrev sLy (i : Nat) : Stmt := inClass (top 37) i
/-- a layout at a: its store at st, its files at d1, what is taken over at d2 -/
structure LayAt (CY : Addr) (H : Hp) (a st d1 d2 : Addr) (fs : Fls) (ts : Tks) : Prop where
  ob : ∃ dx, H a = some (.ins CY dx [("held_store", .ref st), ("held_files", .ref d1), ("held_takes", .ref d2)])
  gf : H d1 = some (.dT (kvF fs))
  gt : H d2 = some (.dT (kvT ts))
structure TxtLy (K : PySem.W.Frag) (CY : Addr) : Prop where
  cl : Cls K CY
  nS : NoAttr K CY "held_store"
  nF : NoAttr K CY "held_files"
  nT : NoAttr K CY "held_takes"
def spLf (CY : Addr) : Sp := fun vs H Q _ => ∃ (a st d1 d2 : Addr) (fs : Fls) (ts : Tks), vs = [.ref a] ∧ LayAt CY H a st d1 d2 fs ts ∧ fs.length ≤ 100 ∧ (fs.map (·.1)).Nodup ∧ ∀ H' D, Same H H' → H D = none → H' D = some (.dT (kvF fs)) → Q (.ref D) H'
def spLt (CY : Addr) : Sp := fun vs H Q _ => ∃ (a st d1 d2 : Addr) (fs : Fls) (ts : Tks), vs = [.ref a] ∧ LayAt CY H a st d1 d2 fs ts ∧ ts.length ≤ 100 ∧ (ts.map (·.1)).Nodup ∧ ∀ H' D, Same H H' → H D = none → H' D = some (.dT (kvT ts)) → Q (.ref D) H'
def spLs (CY : Addr) : Sp := fun vs H Q _ => ∃ (a st d1 d2 : Addr) (fs : Fls) (ts : Tks), vs = [.ref a] ∧ LayAt CY H a st d1 d2 fs ts ∧ Q (.ref st) H
section
variable {P : Program} {w : World} {K : PySem.W.Frag} {mg : Str → Option Value} {base : Heap} {CY : Addr}
theorem scLf : FnScope ["self", "key"] ["self"] (defScope (sLy 2)) := ⟨rfl, rfl, rfl, by decide +kernel, rfl, by decide +kernel, by decide +kernel⟩
theorem ok_lf {f : Addr} {fd : FuncData} (F : Fun K "files" "Layout.files" (sLy 2) f fd) (T : TxtLy K CY) : FnOk P w K mg base CX0 1 f fd ["self"] (spLf CY) := by
  refine F.ok scLf (fun vs H Q E h => ?_) (fun cdv A outer s H vs Q E hr h => ?_)
  · obtain ⟨a, st, d1, d2, fs, ts, rfl, _⟩ := h
    rfl
  · obtain ⟨a, st, d1, d2, fs, ts, rfl, ⟨⟨dx, ho⟩, gf, gt⟩, lf, ndF, k⟩ := h
    have nd := scLf.nd
    have hu := hu_of hr
    refine ⟨_, pss_one (ps_ret (pe_lock (pe_dcG (own := [("key", 1)]) (g := gName 1) (tt := tYes) (tk := tVar 1) (tv := tDGet (tFld K (tVar 0) "held_files") (tVar 1)) Bare.t hu rfl nd (pi_keys (pe_fld (pv 0) rfl)) (blkOk_by (N := ["self", "key"]) (sc := defScope (sLy 2)) (by decide +kernel)) (fun _ _ _ _ _ => pg_name (i := 1) nd rfl (Or.inl rfl)) (fun _ _ _ _ _ => pts_nil)
        (fun _ _ _ _ _ => pv 1) (fun _ _ _ _ _ => pe_dget hu (pe_fld (pv 0) rfl) (pv 1) (fun _ _ => rfl))))), ?_⟩
    refine ⟨d1, _, gf, trivial, fun od => ?_⟩
    have nad : a ≠ d1 := ne_of ho gf (by intro z; cases z)
    have gL : (upd H d1 (.frz od (.dT (kvF fs)))) d1 = some (.frz od (.dT (kvF fs))) := upd_same
    have hoL : (upd H d1 (.frz od (.dT (kvF fs)))) a = some (.ins CY dx [("held_store", .ref st), ("held_files", .ref d1), ("held_takes", .ref d2)]) := by rw [upd_ne nad]; exact ho
    have back : ∀ H', Same (upd H d1 (.frz od (.dT (kvF fs)))) H' → Same H (upd H' d1 (.dT (kvF fs))) := fun H' S a o q => by
      by_cases c : a = d1
      · rw [c, gf] at q
        rw [c, upd_same]
        exact q
      · rw [upd_ne c]
        exact S _ _ (by rw [upd_ne c]; exact q)
    have nw : ∀ D, (upd H d1 (.frz od (.dT (kvF fs)))) D = none → H D = none ∧ D ≠ d1 := fun D z => by
      have n : D ≠ d1 := fun w => by rw [w, upd_same] at z; cases z
      rw [upd_ne n] at z
      exact ⟨z, n⟩
    generalize upd H d1 (.frz od (.dT (kvF fs))) = HL at gL hoL back nw ⊢
    refine ⟨_, rfl, a, CY, dx, _, _, rfl, hoL, T.cl, T.nF, rfl, d1, od, rfl, .inr ⟨kvF fs, gL, fun D hD => ?_⟩⟩
    refine dcG_it (walk_keysT (kvs := kvF fs)) (fun i H' => Same HL H' ∧ H' D = some (.dT (kvF (fs.take i)))) ⟨Same.upd_new hD, upd_same⟩ (fun _ _ _ h => h.1 _ _ gL) ?_ ?_
    · rintro i v H4 H5 hi ⟨s4, gD⟩ ⟨rfl, kk, vv, q, hkv, rfl, gq⟩
      have hi' : i < fs.length := by unfold kvF at hi; rw [List.length_map] at hi; exact hi
      have he := List.getElem?_eq_getElem hi'
      generalize fs[i] = e at he
      have ekv : (kvF fs)[i]? = some (keyL e.1, V.ref e.2.1) := by unfold kvF; rw [List.getElem?_map, he]; rfl
      have hv := val_nodup (kvF_nodup ndF) (keyL e.1, V.ref e.2.1) (List.mem_of_getElem? ekv)
      rw [ekv] at hkv
      obtain ⟨rfl, rfl⟩ := Prod.mk.inj (Option.some.inj hkv)
      refine ⟨rfl, ?_⟩
      refine ⟨_, rfl, _, rfl, a, CY, dx, _, _, rfl, s4 _ _ hoL, T.cl, T.nF, rfl, _, rfl, d1, .ref e.2.1, rfl, .inr ⟨kvF fs, keyL e.1, q, .inr ⟨od, s4 _ _ gL⟩, rfl, gq, hv.symm⟩, ?_⟩
      have new : valV (kvF (fs.take i)) (keyL e.1) = none := by
        cases c : valV (kvF (fs.take i)) (keyL e.1) with
        | none => rfl
        | some v =>
          have z := valV_in c
          unfold kvF at z
          rw [List.map_map] at z
          obtain ⟨e', he', ee⟩ := List.mem_map.mp z
          have hx : (fs.map (·.1))[i]? = some e.1 := by rw [List.getElem?_map, he]; rfl
          refine absurd ?_ (nodup_take ndF hx)
          rw [← keyL_inj ee, ← List.map_take]
          exact List.mem_map.mpr ⟨e', he', rfl⟩
      refine ⟨_, DPut.t (k := keyL e.1) gD gq (by unfold kvF; rw [List.length_map, List.length_take, sizeLine_eq]; omega), fun b o q' => ?_, ?_⟩
      · rw [upd_ne (ne_of_none q' hD)]
        exact s4 _ _ q'
      · rw [putK_new _ new, upd_same, take_next he]
        unfold kvF
        rw [List.map_append]
        rfl
    · rintro H4 ⟨s4, gD⟩
      have lkv : (kvF fs).length = fs.length := by unfold kvF; rw [List.length_map]
      rw [lkv, List.take_length] at gD
      obtain ⟨n1, n2⟩ := nw D hD
      refine ⟨s4 _ _ gL, ?_⟩
      exact k _ D (back H4 s4) n1 (by rw [upd_ne n2]; exact gD)
theorem scLt : FnScope ["self", "key"] ["self"] (defScope (sLy 3)) := ⟨rfl, rfl, rfl, by decide +kernel, rfl, by decide +kernel, by decide +kernel⟩
theorem ok_lt {f : Addr} {fd : FuncData} (F : Fun K "takes" "Layout.takes" (sLy 3) f fd) (T : TxtLy K CY) : FnOk P w K mg base CX0 1 f fd ["self"] (spLt CY) := by
  refine F.ok scLt (fun vs H Q E h => ?_) (fun cdv A outer s H vs Q E hr h => ?_)
  · obtain ⟨a, st, d1, d2, fs, ts, rfl, _⟩ := h
    rfl
  · obtain ⟨a, st, d1, d2, fs, ts, rfl, ⟨⟨dx, ho⟩, gf, gt⟩, lt, ndT, k⟩ := h
    have nd := scLt.nd
    have hu := hu_of hr
    refine ⟨_, pss_one (ps_ret (pe_lock (pe_dcG (own := [("key", 1)]) (g := gName 1) (tt := tYes) (tk := tVar 1) (tv := tDGet (tFld K (tVar 0) "held_takes") (tVar 1)) Bare.t hu rfl nd (pi_keys (pe_fld (pv 0) rfl)) (blkOk_by (N := ["self", "key"]) (sc := defScope (sLy 3)) (by decide +kernel)) (fun _ _ _ _ _ => pg_name (i := 1) nd rfl (Or.inl rfl)) (fun _ _ _ _ _ => pts_nil)
        (fun _ _ _ _ _ => pv 1) (fun _ _ _ _ _ => pe_dget hu (pe_fld (pv 0) rfl) (pv 1) (fun _ _ => rfl))))), ?_⟩
    refine ⟨d2, _, gt, trivial, fun od => ?_⟩
    have nad : a ≠ d2 := ne_of ho gt (by intro z; cases z)
    have gL : (upd H d2 (.frz od (.dT (kvT ts)))) d2 = some (.frz od (.dT (kvT ts))) := upd_same
    have hoL : (upd H d2 (.frz od (.dT (kvT ts)))) a = some (.ins CY dx [("held_store", .ref st), ("held_files", .ref d1), ("held_takes", .ref d2)]) := by rw [upd_ne nad]; exact ho
    have back : ∀ H', Same (upd H d2 (.frz od (.dT (kvT ts)))) H' → Same H (upd H' d2 (.dT (kvT ts))) := fun H' S a o q => by
      by_cases c : a = d2
      · rw [c, gt] at q
        rw [c, upd_same]
        exact q
      · rw [upd_ne c]
        exact S _ _ (by rw [upd_ne c]; exact q)
    have nw : ∀ D, (upd H d2 (.frz od (.dT (kvT ts)))) D = none → H D = none ∧ D ≠ d2 := fun D z => by
      have n : D ≠ d2 := fun w => by rw [w, upd_same] at z; cases z
      rw [upd_ne n] at z
      exact ⟨z, n⟩
    generalize upd H d2 (.frz od (.dT (kvT ts))) = HL at gL hoL back nw ⊢
    refine ⟨_, rfl, a, CY, dx, _, _, rfl, hoL, T.cl, T.nT, rfl, d2, od, rfl, .inr ⟨kvT ts, gL, fun D hD => ?_⟩⟩
    refine dcG_it (walk_keysT (kvs := kvT ts)) (fun i H' => Same HL H' ∧ H' D = some (.dT (kvT (ts.take i)))) ⟨Same.upd_new hD, upd_same⟩ (fun _ _ _ h => h.1 _ _ gL) ?_ ?_
    · rintro i v H4 H5 hi ⟨s4, gD⟩ ⟨rfl, kk, vv, q, hkv, rfl, gq⟩
      have hi' : i < ts.length := by unfold kvT at hi; rw [List.length_map] at hi; exact hi
      have he := List.getElem?_eq_getElem hi'
      generalize ts[i] = e at he
      have ekv : (kvT ts)[i]? = some (keyL e.1, V.ref e.2.1) := by unfold kvT; rw [List.getElem?_map, he]; rfl
      have hv := val_nodup (kvT_nodup ndT) (keyL e.1, V.ref e.2.1) (List.mem_of_getElem? ekv)
      rw [ekv] at hkv
      obtain ⟨rfl, rfl⟩ := Prod.mk.inj (Option.some.inj hkv)
      refine ⟨rfl, ?_⟩
      refine ⟨_, rfl, _, rfl, a, CY, dx, _, _, rfl, s4 _ _ hoL, T.cl, T.nT, rfl, _, rfl, d2, .ref e.2.1, rfl, .inr ⟨kvT ts, keyL e.1, q, .inr ⟨od, s4 _ _ gL⟩, rfl, gq, hv.symm⟩, ?_⟩
      have new : valV (kvT (ts.take i)) (keyL e.1) = none := by
        cases c : valV (kvT (ts.take i)) (keyL e.1) with
        | none => rfl
        | some v =>
          have z := valV_in c
          unfold kvT at z
          rw [List.map_map] at z
          obtain ⟨e', he', ee⟩ := List.mem_map.mp z
          have hx : (ts.map (·.1))[i]? = some e.1 := by rw [List.getElem?_map, he]; rfl
          refine absurd ?_ (nodup_take ndT hx)
          rw [← keyL_inj ee, ← List.map_take]
          exact List.mem_map.mpr ⟨e', he', rfl⟩
      refine ⟨_, DPut.t (k := keyL e.1) gD gq (by unfold kvT; rw [List.length_map, List.length_take, sizeLine_eq]; omega), fun b o q' => ?_, ?_⟩
      · rw [upd_ne (ne_of_none q' hD)]
        exact s4 _ _ q'
      · rw [putK_new _ new, upd_same, take_next he]
        unfold kvT
        rw [List.map_append]
        rfl
    · rintro H4 ⟨s4, gD⟩
      have lkv : (kvT ts).length = ts.length := by unfold kvT; rw [List.length_map]
      rw [lkv, List.take_length] at gD
      obtain ⟨n1, n2⟩ := nw D hD
      refine ⟨s4 _ _ gL, ?_⟩
      exact k _ D (back H4 s4) n1 (by rw [upd_ne n2]; exact gD)
theorem scLs : FnScope ["self"] ["self"] (defScope (sLy 1)) := ⟨rfl, rfl, rfl, by decide +kernel, rfl, by decide +kernel, by decide +kernel⟩
theorem ok_ls {f : Addr} {fd : FuncData} (F : Fun K "store" "Layout.store" (sLy 1) f fd) (T : TxtLy K CY) : FnOk P w K mg base CX0 1 f fd ["self"] (spLs CY) := by
  refine F.ok scLs (fun vs H Q E h => ?_) (fun cdv A outer s H vs Q E hr h => ?_)
  · obtain ⟨a, st, d1, d2, fs, ts, rfl, _⟩ := h
    rfl
  · obtain ⟨a, st, d1, d2, fs, ts, rfl, ⟨⟨dx, ho⟩, gf, gt⟩, k⟩ := h
    refine ⟨_, pss_one (ps_ret (pe_fld (pv 0) rfl)), ?_⟩
    exact ⟨_, rfl, a, CY, dx, _, _, rfl, ho, T.cl, T.nS, rfl, k⟩
end
end Half

/-! sets of tuples of ints and texts, wherever these stand: set(l), l a list of such -/
namespace L2
open PySem PySem.Froz PyProof.Rows PySem.Spec
/-- tuples, each with what it holds -/
def TupsAt (K : PySem.W.Frag) (H : Hp) (L : List (Addr × List Key)) : Prop := ∀ p ∈ L, SqT K H p.1 (p.2.map kV)
section
variable {X : Cx} {P : Program} {w : World} {A : Around} {E : Value → Shared → Prop} {s : Shared}
theorem tupK_sq {pins : List (Addr × Obj)} {σ : St} {H : Hp} {s : Shared} {b : Addr} {k : List Key} (I : Inv X pins σ H s) (h : SqT X.K H b (k.map kV)) : TupK X.prog X.w s.heap k b := by
  obtain ⟨us, r, ⟨o, g, c, n, d⟩, -⟩ := I.tuple h
  exact ⟨o, us.toArray, n, g, c, d, by simpa using items_are r⟩
/-- s.add(t) -/
def rSAddQ (P : Program) (w : World) (K : PySem.W.Frag) : V → List V → Hp → VK → Prop := fun x xs H Q => ∃ (a b : Addr) (k : List Key) (L : List (Addr × List Key)), x = V.ref a ∧ xs = [.ref b] ∧ SqT K H b (k.map kV) ∧ H a = some (TsO P w a L) ∧ TupsAt K H L ∧ L.length + 1 < 64 ∧
  (k ∈ L.map (·.2) → Q .non (upd H a (TsO P w a L))) ∧ (k ∉ L.map (·.2) → ∀ L', L'.Perm ((b, k) :: L) → Q .non (upd H a (TsO P w a L')))
theorem mt_saddQ (hu : X.A.units + 1 < cLine) : MtR X "set.add" (rSAddQ X.prog X.w X.K) := by
  intro pins s σ H x xs v us Q I rx rxs h
  obtain ⟨a, b, k, L, rfl, rfl, hb, ha, hL, room, q1, q2⟩ := h
  cases rx
  obtain ⟨u, rfl, ru⟩ := rxs.one
  cases ru
  obtain ⟨es, ep, t, R⟩ := tsO_get I ha
  have T := tupK_sq I hb
  refine wpAny_call_entry F.slot_set_add (setTK_type R) F.entry_set_add ?_ (F.args_set_add_2 _ _)
  simp only [Builtin.«set.add», Builtin.Frozenset.oneOther, Builtin.Frozenset.addrOf, setAdd, List.isEmpty_nil, bind_assoc]
  refine wpAny_bind (wpAny_pure (wpAny_bind (wpAny_pure (wpAny_bind (wpAny_holding (wpAny_bind (wpAny_pyHash_tuple (A := X.A.in1) hu T ?_)))))))
  refine add_key (s := { s with toks := s.toks + (k.length + 1) }) R (fun p hp => tupK_sq (s := s) I (hL p hp)) T (by exact hu) room fun c h' L' es' ep' t' sb R' y n => ?_
  show wpAny _ _ (ret Value.none) _ _ _
  refine wpAny_pure ⟨_, rfl, ?_⟩
  have he : ∃ u, h'.get? a = some u := by
    have ⟨o, go, _⟩ := R'.ob
    exact ⟨o, go⟩
  refine ⟨.non, upd H a (TsO X.prog X.w a L'), I.write (e := a) (t' := s.toks + (k.length + 1)) (by rw [ha]; trivial) (.inl rfl) (fun b u hb hu => (sb.2 b hb).trans hu) he (tsO_new R'), rfl, ?_⟩
  by_cases m : k ∈ L.map (·.2)
  · rw [y m]; exact q1 m
  · exact q2 m L' (n m)
/-! set(l) -/
/-- set(l), with the room that the loop has: what the loop that puts the items in makes of the bare set is the set -/
theorem set_madeU {l : Addr} {xs : Array Value} {Q : Value → Shared → Prop} (Gd : Heap → Prop) (hl : s.heap.IsList l xs) (hh : A.handled = none)
    (loop : ∀ B : Around, B.handled = none → B.units = A.units + 2 → codeAny (model P w) B (.builtin "set.update.loop" ⟨[.ref s.heap.objs.size, .ref (s.heap.objs.size + 1)], []⟩)
      (fun r z => r = .ok (.ret .none) ∧ ∃ h' tk, z = { s with heap := h', toks := tk } ∧ Gd h' ∧ ∀ b o, s.heap.get? b = some o → h'.get? b = some o)
      { s with heap := (s.heap.push (bareSet w)).push { cls := .type "list_iterator", data := .fields #[.ref l, .int 0 0] } })
    (q : ∀ h' tk, Gd h' → (∀ b o, s.heap.get? b = some o → h'.get? b = some o) → Q (.ref s.heap.objs.size) { s with heap := h', toks := tk }) : wpAny (model P w) A (call (.type "set") [.ref l]) Q E s := by
  obtain ⟨c, tl, hmro⟩ := F.called_set.mro
  have f1 := F.called_set.made
  have f2 := F.called_set.sub
  have f3 := F.called_set.notType
  have f4 := F.called_set.canCreate
  have f5 := F.typeCall_set_1 (.ref l)
  refine wpAny_call (codeAny_of_tree (?_ : wpAny _ _ (callAny (.type "set") _) _ _ _))
  refine wpAny_pure ⟨Code.quiet_builtin _ (by decide +kernel), codeAny_builtin F.entry_type_call ?_⟩
  rw [Around.under_plain (weight_type_call_type "set" [.ref l] []) rfl]
  repeat (any_goals (first | assumption | wp_step))
  refine codeAny_mono (code_set_led1 (.ref l) (E := E) (Q₁ := fun v z => v = .ref s.heap.objs.size ∧ z = { s with heap := s.heap.push (bareSet w) }) ⟨rfl, rfl⟩) fun r z hr => ?_
  match r, hr with
  | .error e, hr => exact hr
  | .ok .next, hr => exact hr.elim
  | .ok .brk, hr => exact hr.elim
  | .ok .cont, hr => exact hr.elim
  | .ok (.ret v), hr =>
    obtain ⟨rfl, rfl⟩ := hr
    have own : (s.heap.push (bareSet w)).get? s.heap.objs.size = some (bareSet w) := Heap.get?_push_size _ rfl
    have ty : Shared.TypeIs { s with heap := s.heap.push (bareSet w) } (.ref s.heap.objs.size) "set" := ⟨_, own, rfl⟩
    have f6 := F.called_set.init.lookup
    have f7 := F.called_set.init.bind (.ref s.heap.objs.size)
    repeat (any_goals (first | assumption | wp_step))
    refine codeAny_mono (codeAny_call_builtin (R := wants (fun v z => v = .none ∧ ∃ h' tk, z = { s with heap := h', toks := tk } ∧ Gd h' ∧ ∀ b o, s.heap.get? b = some o → h'.get? b = some o) E) F.called_set.init.plain F.entry_set_init (check_set_init_1 ty ?init)) fun r2 z2 hr2 => ?_
    case init =>
      obtain ⟨⟨cl, dc, dt, sl⟩, g, gc, n, gd⟩ := hl
      simp only at gc gd
      subst gc gd
      have g1 : (s.heap.push (bareSet w)).get? l = some ⟨.type "list", dc, .seq xs n, sl⟩ := Heap.get?_push_of_some _ g
      have li : (s.heap.push (bareSet w)).IsList l xs := ⟨_, g1, rfl, n, rfl⟩
      have k1 := F.sub_list_set
      have k2 := F.sub_list_frozenset
      have k3 : (Value.type "list" == Value.type "dict") = false := by decide
      unfold Builtin.«set.__init__» noKeywords Builtin.Frozenset.updateFrom
      generalize hi : pyIter = PI
      wp_walk
      subst hi
      refine wpAny_pyIter_list li (wpAny_bind (wpAny_runValue ?_))
      have lo := loop A.in1.in1 (by simp [hh]) rfl
      rw [Heap.size_push]
      refine codeAny_mono lo fun r3 z3 h3 => ?_
      obtain ⟨rfl, h', tk, rfl, gd, keep⟩ := h3
      exact wpAny_pure (wpAny_pure ⟨rfl, h', tk, rfl, gd, keep⟩)
    match r2, hr2 with
    | .error e, hr2 => exact hr2
    | .ok .next, hr2 => exact hr2.elim
    | .ok .brk, hr2 => exact hr2.elim
    | .ok .cont, hr2 => exact hr2.elim
    | .ok (.ret v), hr2 =>
      obtain ⟨rfl, h', tk, rfl, gd, keep⟩ := hr2
      repeat (any_goals (first | assumption | wp_step))
      exact q h' tk gd keep
/-- the loop over a list, as fill_list, where J may speak of all but the iterator -/
theorem fill_listB {S I l : Addr} {items : Array Value} (J : Nat → Heap → Prop) (calm : A.handled = none) (apart : S ≠ I ∧ S ≠ l ∧ l ≠ I) (stay : ∀ i h h', (∀ b o, b ≠ I → h.get? b = some o → h'.get? b = some o) → J i h → J i h')
    (add : ∀ i x (z : Shared) (Q : Bool → Shared → Prop) (X : Value → Shared → Prop), items[i]? = some x → J i z.heap → (∀ b h' tk, Heap.SameBut S z.heap h' → J (i + 1) h' → Q b { z with heap := h', toks := tk }) → wpAny (model P w) A.in1 (setAdd S x) Q X z) :
    ∀ (n i : Nat) (z : Shared), n + i = items.size → z.heap.IsListIter I l i → z.heap.IsList l items → J i z.heap → codeAny (model P w) A (.builtin "set.update.loop" ⟨[.ref S, .ref I], []⟩)
      (fun r y => r = .ok (.ret .none) ∧ ∃ h' tk, y = { z with heap := h', toks := tk } ∧ J items.size h' ∧ ∀ b o, b ≠ S → b ≠ I → z.heap.get? b = some o → h'.get? b = some o) z := by
  intro n
  induction n with
  | zero =>
    intro i z en it li j
    obtain rfl : i = items.size := by omega
    refine codeAny_builtin F.entry_set_update_loop ((Around.under_plainId F.plain_set_update_loop _).symm ▸ wpAny_bind (wpAny_pyNext_list_end calm it li (Array.getElem?_eq_none (Nat.le_refl _)) fun h' ext => ?_))
    exact wpAny_pure ⟨rfl, h', z.toks, rfl, stay _ _ _ (fun b o bI e => ext b o bI e) j, fun b o _ bI e => ext b o bI e⟩
  | succ n more =>
    intro i z en it li j
    have lt : i < items.size := by omega
    have hx := Array.getElem?_eq_getElem lt
    generalize items[i] = x at hx
    refine codeAny_builtin F.entry_set_update_loop ((Around.under_plainId F.plain_set_update_loop _).symm ▸ wpAny_bind (wpAny_pyNext_list_item it li hx fun h1 it1 sb1 => ?_))
    have j1 : J i h1 := stay _ _ _ (fun b o bI e => (sb1.2 b bI).trans e) j
    refine wpAny_bind (wpAny_holding (add i _ { z with heap := h1 } _ _ hx j1 fun b h2 tk2 sb2 j2 => wpAny_pure ⟨plainId_quiet F.plain_set_update_loop _, ?_⟩))
    have li1 : h1.IsList l items := li.at fun o e => (sb1.2 l apart.2.2).trans e
    refine codeAny_mono (more (i + 1) { z with heap := h2, toks := tk2 } (by omega) (it1.at fun o e => (sb2.2 I (Ne.symm apart.1)).trans e) (li1.at fun o e => (sb2.2 l (Ne.symm apart.2.1)).trans e) j2) ?_
    rintro r y ⟨rfl, h', tk, rfl, jn, far⟩
    exact ⟨rfl, h', tk, rfl, jn, fun b o bS bI e => far b o bS bI ((sb2.2 b bS).trans ((sb1.2 b bI).trans e))⟩
def rSetQ (P : Program) (w : World) (K : PySem.W.Frag) : List V → Hp → VK → Prop := fun vs H Q => ∃ (p : Addr) (xs : List (Addr × List Key)) (D : List (List Key)), vs = [.ref p] ∧ SqL K H p (xs.map fun x => V.ref x.1) ∧ TupsAt K H xs ∧ (∀ x ∈ xs, x.2 ∈ D) ∧ D.length < 63 ∧
  ∀ (a : Addr) (L : List (Addr × List Key)), (L.map (·.2)).Nodup → (∀ q ∈ L, q ∈ xs) → (∀ x ∈ xs, x.2 ∈ L.map (·.2)) → H a = none → Q (.ref a) (upd H a (TsO P w a L))
theorem sub_len {α : Type} [DecidableEq α] : ∀ {l m : List α}, l.Nodup → (∀ z ∈ l, z ∈ m) → l.length ≤ m.length
  | [], _, _, _ => Nat.zero_le _
  | x :: l, m, hn, hs => by
    obtain ⟨n1, n2⟩ := List.nodup_cons.mp hn
    have hx := hs x (.head _)
    have ih := sub_len (l := l) (m := m.erase x) n2 fun z hz => (List.mem_erase_of_ne fun e => n1 (by rw [← e]; exact hz)).mpr (hs z (.tail _ hz))
    rw [List.length_erase_of_mem hx] at ih
    have := List.length_pos_of_mem hx
    rw [List.length_cons]
    omega
/-- what the set holds behind i items -/
structure SetQ (P : Program) (w : World) (xs : List (Addr × List Key)) (S : Addr) (i : Nat) (h : Heap) : Prop where
  tup : ∀ x ∈ xs, TupK P w h x.2 x.1
  ex : ∃ L es ep t, SetTK P w h S L es ep t ∧ (∀ q ∈ L, q ∈ xs) ∧ ∀ x ∈ xs.take i, x.2 ∈ L.map (·.2)
theorem vals_from : ∀ {xs : List V} {us : List Value} {i : Nat} {u : Value}, Vals xs us → us[i]? = some u → ∃ x, xs[i]? = some x ∧ RelV x u
  | _, _, _, _, .nil, h => by simp at h
  | x :: _, _, 0, _, .cons r _, h => by cases h; exact ⟨x, rfl, r⟩
  | _ :: _, _, i + 1, _, .cons _ t, h => vals_from (i := i) t h
theorem tupK_stay {h h' : Heap} {k : List Key} {b : Addr} (T : TupK P w h k b) (keep : ∀ o, h.get? b = some o → h'.get? b = some o) : TupK P w h' k b := by
  obtain ⟨o, its, n, g, r⟩ := T
  exact ⟨o, its, n, keep _ g, r⟩
theorem cr_setQ (hc : X.calm = true) (hu : X.A.units + 9 < cLine) : CallR X (.type "set") (rSetQ X.prog X.w X.K) := by
  intro pins s σ H vs us Q I r h
  obtain ⟨p, xs, D, rfl, hs, hT, hD, few, q⟩ := h
  obtain ⟨its, rv, hl, _⟩ := I.list hs
  rw [Vals.ref1 r]
  have li := hl.isList
  have lt : p < s.heap.objs.size := by obtain ⟨o, g, _⟩ := li; exact Heap.lt_size g
  have ilen : its.length = xs.length := by have := rv.length; rw [List.length_map] at this; exact this.symm
  have tup0 : ∀ x ∈ xs, TupK X.prog X.w s.heap x.2 x.1 := fun x hx => tupK_sq I (hT x hx)
  have ne1 : s.heap.objs.size ≠ s.heap.objs.size + 1 := Nat.ne_of_lt (Nat.lt_succ_self _)
  refine set_madeU (fun h' => SetQ X.prog X.w xs s.heap.objs.size its.toArray.size h') li (I.ok.hd hc) (fun B hB uB => ?_) (fun h' tk J keep => ?_)
  · have top : ((s.heap.push (bareSet X.w)).push { cls := .type "list_iterator", data := .fields #[.ref p, .int 0 0] }).get? (s.heap.objs.size + 1) = some { cls := .type "list_iterator", data := .fields #[.ref p, .int 0 0] } := by
      rw [← Heap.size_push s.heap (bareSet X.w)]
      exact Heap.get?_push_size _ rfl
    have old : ∀ b o, s.heap.get? b = some o → ((s.heap.push (bareSet X.w)).push { cls := .type "list_iterator", data := .fields #[.ref p, .int 0 0] }).get? b = some o := fun b o e => Heap.get?_push_of_some _ (Heap.get?_push_of_some _ e)
    have new0 : ((s.heap.push (bareSet X.w)).push { cls := .type "list_iterator", data := .fields #[.ref p, .int 0 0] }).get? s.heap.objs.size = some (bareSet X.w) := Heap.get?_push_of_some _ (Heap.get?_push_size _ rfl)
    refine codeAny_mono (fill_listB (A := B) (fun i h => SetQ X.prog X.w xs s.heap.objs.size i h ∧ ∀ x ∈ xs, x.1 < s.heap.objs.size) hB ⟨ne1, Nat.ne_of_gt lt, Nat.ne_of_lt (Nat.lt_succ_of_lt lt)⟩ (fun i h h' k J => ?_) (fun i x z Q' X' hx J k => ?_) its.toArray.size 0 _ rfl ⟨_, top, rfl, rfl⟩ ((li.push _).push _) ?_) ?_
    · obtain ⟨⟨t1, L, es, ep, t, R, a1, a2⟩, a3⟩ := J
      refine ⟨⟨fun x hx => tupK_stay (t1 x hx) fun o e => k _ _ (Nat.ne_of_lt (Nat.lt_succ_of_lt (a3 x hx))) e, L, es, ep, t, setTK_move R (fun o e => k _ _ ne1 e), a1, a2⟩, a3⟩
    · obtain ⟨⟨t1, L, es, ep, t, R, a1, a2⟩, a3⟩ := J
      rw [List.getElem?_toArray] at hx
      obtain ⟨v, hv, rx⟩ := vals_from rv hx
      rw [List.getElem?_map] at hv
      obtain ⟨y, hy, rfl⟩ := Option.map_eq_some_iff.mp hv
      cases (show x = Value.ref y.1 from rx)
      have ym := List.mem_of_getElem? hy
      have T := t1 y ym
      refine wpAny_holding (wpAny_bind (wpAny_pyHash_tuple (A := B.in1) (by show B.units + 1 < cLine; omega) T ?_))
      have Llen : L.length + 1 < 64 := by
        have := sub_len (m := D) R.one fun z hz => by
          obtain ⟨e, he, rfl⟩ := List.mem_map.mp hz
          exact hD e (a1 e he)
        rw [List.length_map] at this
        omega
      refine add_key (s := { z with toks := z.toks + (y.2.length + 1) }) R (fun e he => t1 e (a1 e he)) T (by show B.units + 1 < cLine; omega) Llen fun c h' L' es' ep' t' sb R' there new => ?_
      have so : ∃ o, z.heap.get? s.heap.objs.size = some o ∧ o.data = .set es ep t := let ⟨o, g, _, d⟩ := R.ob; ⟨o, g, d⟩
      refine k _ h' _ sb ⟨⟨fun e he => ?_, L', es', ep', t', R', fun e he => ?_, fun e he => ?_⟩, a3⟩
      · obtain ⟨o, g, d⟩ := so
        exact tup_same (t1 e he) g d sb
      · by_cases m : y.2 ∈ L.map (·.2)
        · rw [there m] at he
          exact a1 e he
        · rcases List.mem_cons.mp ((new m).mem_iff.mp he) with rfl | q
          · exact ym
          · exact a1 e q
      · rw [take_next hy] at he
        by_cases m : y.2 ∈ L.map (·.2)
        · rw [there m]
          rcases List.mem_append.mp he with q | q
          · exact a2 e q
          · rw [List.mem_singleton.mp q]; exact m
        · refine ((new m).map (·.2)).mem_iff.mpr ?_
          rcases List.mem_append.mp he with q | q
          · exact .tail _ (a2 e q)
          · rw [List.mem_singleton.mp q]; exact .head _
    · exact ⟨⟨fun x hx => tupK_stay (tup0 x hx) fun o e => old _ _ e, [], #[], 0, _, setTK_nil new0, fun e he => (nomatch he), fun e he => (nomatch he)⟩, fun x hx => let ⟨o, _, _, g, _⟩ := tup0 x hx; Heap.lt_size g⟩
    · rintro r y ⟨rfl, h', tk, rfl, J, far⟩
      exact ⟨rfl, h', tk, rfl, J.1, fun b o e => far b o (Nat.ne_of_lt (Heap.lt_size e)) (Nat.ne_of_lt (Nat.lt_succ_of_lt (Heap.lt_size e))) (old _ _ e)⟩
  · obtain ⟨-, L, es, ep, t, R, a1, a2⟩ := J
    refine ⟨.ref _, upd H s.heap.objs.size (TsO X.prog X.w s.heap.objs.size L), I.laid (t' := tk) keep (Nat.le_refl _) (tsO_new R), rfl, q _ L R.one a1 (fun x hx => a2 x ?_) (I.hok.fresh (Nat.le_refl _))⟩
    have e : its.toArray.size = xs.length := by rw [List.size_toArray, ilen]
    rw [e, List.take_length]
    exact hx
end
end L2

/-! sorted(xs), xs a list of things that read as data, in the order of the data -/
namespace L2
open PySem PySem.Spec PyProof.Rows
theorem all_refs {β : Type} {g : β → Addr} : ∀ {xs : List β} {us : List Value}, Vals (xs.map fun x => V.ref (g x)) us → PySem.W.EachIs (fun v x => v = Value.ref (g x)) us xs
  | [], _, r => by
    cases r
    exact .nil
  | x :: xs, _, r => by
    cases r with
    | cons r1 r2 => exact .cons r1 (all_refs r2)
theorem refs_vals {β : Type} {g : β → Addr} {us : List Value} {xs : List β} (h : PySem.W.EachIs (fun v x => v = Value.ref (g x)) us xs) : Vals (xs.map fun x => V.ref (g x)) us := by
  induction h with
  | nil => exact .nil
  | cons h _ ih => exact .cons h ih
theorem dps_of {K : PySem.W.Frag} {H : Hp} : ∀ {xs : List (Addr × PyData)}, (∀ x ∈ xs, Dp K H (.ref x.1) x.2) → DpAll K H (xs.map fun x => V.ref x.1) (xs.map fun x => x.2)
  | [], _ => .nil
  | x :: xs, h => .cons (h x (.head _)) (dps_of fun y hy => h y (.tail _ hy))
def rSortRd (K : PySem.W.Frag) : List V → Hp → VK → Prop := fun vs H Q => ∃ (a : Addr) (xs : List (Addr × PyData)), vs = [V.ref a] ∧ SqL K H a (xs.map fun x => V.ref x.1) ∧ (∀ x ∈ xs, Dp K H (.ref x.1) x.2) ∧ PySem.W.AllAlike (xs.map fun x => x.2) ∧ PySem.W.Sortable (xs.map fun x => x.2) ∧ (∀ x ∈ xs, x.2.depth ≤ 20) ∧
  ∀ (ys : List (Addr × PyData)) (p : Addr), ys.Perm xs → (ys.Pairwise fun x y => PySem.W.dataLt y.2 x.2 = false) → H p = none → Q (.ref p) (upd H p (.lst (ys.map fun x => V.ref x.1)))
section
variable {X : Cx}
theorem cr_sortRd (hu : X.A.units + 40 < cLine) : CallR X (.builtin "sorted") (rSortRd X.K) := by
  intro pins s σ H vs us Q I r h
  obtain ⟨a, xs, rfl, hs, hd, hal, hk, dp, q⟩ := h
  obtain ⟨its, rv, hl, hz⟩ := I.list hs
  rw [Vals.ref1 r]
  rw [List.length_map] at hz
  obtain ⟨as, ra⟩ := Dp.readsAll I _ _ its (dps_of hd) rv
  refine PySem.W.sorted_data (R := fun v (x : Addr × PyData) => v = .ref x.1) (enc := fun x : Addr × PyData => x.2) hl.isList (all_refs rv) (PySem.W.readsAll_each (fun x : Addr × PyData => x.2) ra) hal hk hz (fun x hx => ?_) fun out lo eo => ?_
  · have := dp x hx
    show X.A.units + 2 + x.2.depth < cLine
    omega
  have pm := List.mergeSort_perm xs (PySem.W.dataLe false fun x : Addr × PyData => x.2)
  have ⟨n, hn⟩ := sortedAll_at s.heap its (List.toArray out)
  refine ⟨.ref _, upd H _ (.lst ((xs.mergeSort (PySem.W.dataLe false fun x : Addr × PyData => x.2)).map fun x => V.ref x.1)), I.laid (t' := s.toks) (fun _ _ e => sortedAll_old e) (Nat.le_succ _) ⟨by rw [List.length_map, pm.length_eq]; exact hz, _, n, refs_vals (g := fun x : Addr × PyData => x.1) eo, hn⟩, rfl, q _ _ pm ?_ (I.hok.fresh (Nat.le_succ _))⟩
  refine (PySem.W.sort_pairwise (PySem.W.sortLe_total _ false _) _).imp fun {x y} h => ?_
  have h' : PySem.W.dataLe false (fun x : Addr × PyData => x.2) x y = true := h
  rw [PySem.W.dataLe_eq] at h'
  have h2 : (!PySem.W.dataLt y.2 x.2) = true := h'
  cases c : PySem.W.dataLt y.2 x.2 with
  | false => rfl
  | true => rw [c] at h2; cases h2
end
end L2

/-! sorted(s), s a set of tuples of ints and texts -/
namespace L2
open PySem PySem.Froz PyProof.Rows PySem.Spec
def keyD : Key → PyData
  | .inl i => .int i
  | .inr x => .str x
def tupD (k : List Key) : PyData := .tuple (k.map keyD)
theorem dp_keys {K : PySem.W.Frag} {H : Hp} : ∀ k : List Key, DpAll K H (k.map kV) (k.map keyD)
  | [] => .nil
  | .inl i :: k => .cons (.int i) (dp_keys k)
  | .inr x :: k => .cons (.str x) (dp_keys k)
theorem dp_tup {K : PySem.W.Frag} {H : Hp} {t : Addr} {k : List Key} (h : SqT K H t (k.map kV)) : Dp K H (.ref t) (tupD k) := .tup h (dp_keys k)
theorem depth_keys : ∀ k : List Key, PyData.depthAll (k.map keyD) = 0
  | [] => rfl
  | .inl i :: k => by rw [List.map_cons, PyData.depthAll, depth_keys k]; rfl
  | .inr x :: k => by rw [List.map_cons, PyData.depthAll, depth_keys k]; rfl
theorem depth_tup (k : List Key) : (tupD k).depth = 1 := by
  show (PyData.tuple _).depth = 1
  rw [PyData.depth, depth_keys]
theorem perm_back {α β : Type} {f : α → β} : ∀ {m : List β} {l : List α}, m.Perm (l.map f) → ∃ l' : List α, l'.Perm l ∧ m = l'.map f
  | [], l, h => ⟨[], by
      have e := h.length_eq
      rw [List.length_map] at e
      rw [List.eq_nil_of_length_eq_zero e.symm], rfl⟩
  | x :: m, l, h => by
    have hx : x ∈ l.map f := h.mem_iff.mp (.head _)
    obtain ⟨a, ha, rfl⟩ := List.mem_map.mp hx
    obtain ⟨s, t, rfl⟩ := List.append_of_mem ha
    have h2 : (f a :: m).Perm (f a :: (s ++ t).map f) := h.trans (by rw [List.map_append, List.map_cons, List.map_append]; exact List.perm_middle)
    obtain ⟨l', p, e⟩ := perm_back h2.cons_inv
    exact ⟨a :: l', (p.cons a).trans List.perm_middle.symm, by rw [e]; rfl⟩
def rSortQ (P : Program) (w : World) (K : PySem.W.Frag) : List V → Hp → VK → Prop := fun vs H Q => ∃ (a : Addr) (L : List (Addr × List Key)), vs = [.ref a] ∧ H a = some (TsO P w a L) ∧ TupsAt K H L ∧ PySem.W.AllAlike (L.map fun x => tupD x.2) ∧ PySem.W.Sortable (L.map fun x => tupD x.2) ∧
  ∀ (ys : List (Addr × List Key)) (p : Addr), ys.Perm L → (ys.Pairwise fun x y => PySem.W.dataLt (tupD y.2) (tupD x.2) = false) → H p = none → Q (.ref p) (upd H p (.lst (ys.map fun x => V.ref x.1)))
section
variable {X : Cx}
theorem each_of_map {α β : Type} {R : β → α → Prop} {f : α → β} (h : ∀ x, R (f x) x) : ∀ l : List α, PySem.W.EachIs R (l.map f) l
  | [] => .nil
  | x :: l => .cons (h x) (each_of_map h l)
theorem each_all {α β : Type} {R : β → α → Prop} {f : α → β} : ∀ {l : List α}, (∀ x ∈ l, R (f x) x) → PySem.W.EachIs R (l.map f) l
  | [], _ => .nil
  | x :: l, h => .cons (h x (.head _)) (each_all fun y hy => h y (.tail _ hy))
theorem cr_sortQ (hc : X.calm = true) (hu : X.A.units + 40 < cLine) : CallR X (.builtin "sorted") (rSortQ X.prog X.w X.K) := by
  intro pins s σ H vs us Q I r h
  obtain ⟨a, L, rfl, ha, hT, hal, hk, q⟩ := h
  obtain ⟨es, ep, t, R⟩ := tsO_get I ha
  rw [Vals.ref1 r]
  have few := R.few
  have sz := ents_len R.row
  obtain ⟨o, go, gx, gd⟩ := R.ob
  refine Calls.call_function_entry kind_sorted plain_sorted entry_sorted (args_sorted1 _) ?_
  unfold Builtin.«sorted»
  refine wpAny_bind (m := checkCount "sorted" 1 1 _) (wpAny_pure ?_)
  refine wpAny_bind (collect_set (A := X.A.in1) (I.ok.hd hc) ⟨o, go, gx.1, gd⟩ R.fit (by show es.size < 4096; omega) R.tab.ris R.led fun z vs keep hz g1 o1 pm => ?_)
  have em : es.toList.map (·.2) = L.map fun p => Value.ref p.1 := by
    rw [R.row]
    unfold ents
    rw [List.map_map]
    rfl
  rw [em] at pm
  obtain ⟨ys0, pl, rfl⟩ := perm_back pm
  have vlen : (ys0.map fun p => Value.ref p.1).length = L.length := by rw [List.length_map, pl.length_eq]
  refine wpAny_bind (wpAny_newList ?_ (by rw [vlen, sizeLine_eq]; omega))
  have hoL : (z.heap.push (seqObj "list" (ys0.map fun p => Value.ref p.1).toArray 0)).get? z.heap.objs.size = some (seqObj "list" (ys0.map fun p => Value.ref p.1).toArray 0) := Heap.get?_push_size _ rfl
  have alp : PySem.W.AllAlike (ys0.map fun x => tupD x.2) := fun x hx y hy => hal x ((pl.map _).mem_iff.mp hx) y ((pl.map _).mem_iff.mp hy)
  have skp : PySem.W.Sortable (ys0.map fun x => tupD x.2) := by
    rcases hk with q | q
    · exact .inl fun d hd => q d ((pl.map _).mem_iff.mp hd)
    · exact .inr fun d hd => q d ((pl.map _).mem_iff.mp hd)
  have rd : ∀ p ∈ ys0, ∃ as, Reads (z.heap.push (seqObj "list" (ys0.map fun p => Value.ref p.1).toArray 0)) (.ref p.1) (tupD p.2) as ∧ z.heap.objs.size ∉ as := fun p hp => by
    obtain ⟨as, ra⟩ := (dp_tup (hT p (pl.mem_iff.mp hp))).reads I (tupD p.2) _ (.ref p.1) rfl
    have rz := PyProof.Rows.Reads.keeps keep ra
    exact ⟨as, PyProof.Rows.Reads.keeps (fun b u e => Heap.get?_push_of_some _ e) rz, fun m => by
      obtain ⟨u, e⟩ := PyProof.On.reads_mem_get rz _ m
      exact Nat.lt_irrefl _ (Heap.lt_size e)⟩
  refine wpAny_bind (wpAny_holding (PySem.W.list_sort_data (A := X.A.in1) (R := fun v (x : Addr × List Key) => v = .ref x.1) (enc := fun x : Addr × List Key => tupD x.2) hoL (each_of_map (f := fun p : Addr × List Key => Value.ref p.1) (fun _ => rfl) ys0) (each_all (f := fun p : Addr × List Key => Value.ref p.1) rd) alp skp (by rw [pl.length_eq, sizeLine_eq]; omega) (fun x hx => by
    show X.A.units + 1 + 1 + (tupD x.2).depth < cLine
    rw [depth_tup]
    omega) fun out lo eo => ?_))
  obtain ⟨c, hcn⟩ := sortedHeap_at (vs := ys0.map fun p => Value.ref p.1) (out := List.toArray out) hoL
  refine wpAny_pure ⟨_, rfl, ?_⟩
  have ms := List.mergeSort_perm ys0 (PySem.W.dataLe false fun x : Addr × List Key => tupD x.2)
  have keep2 : ∀ b u, s.heap.get? b = some u → (sortedHeap (z.heap.push (seqObj "list" (ys0.map fun p => Value.ref p.1).toArray 0)) z.heap.objs.size (ys0.map fun p => Value.ref p.1) (List.toArray out)).get? b = some u := fun b u e => by
    have k := keep b u e
    have hlt := Heap.lt_size k
    rw [sortedHeap_old (Nat.ne_of_lt hlt) (by rw [size_push']; exact Nat.lt_succ_of_lt hlt)]
    exact Heap.get?_push_of_some _ k
  have hn : H z.heap.objs.size = none := I.hok.fresh hz
  have fin := q _ z.heap.objs.size (ms.trans pl) ((PySem.W.sort_pairwise (PySem.W.sortLe_total _ false _) _).imp fun {x y} h => by
    have h' : PySem.W.dataLe false (fun x : Addr × List Key => tupD x.2) x y = true := h
    rw [PySem.W.dataLe_eq] at h'
    have h2 : (!PySem.W.dataLt (tupD y.2) (tupD x.2)) = true := h'
    cases c : PySem.W.dataLt (tupD y.2) (tupD x.2) with
    | false => rfl
    | true => rw [c] at h2; cases h2) hn
  have hlen : ((ys0.mergeSort (PySem.W.dataLe false fun x : Addr × List Key => tupD x.2)).map fun x => V.ref x.1).length ≤ sizeLine := by
    rw [List.length_map, ms.length_eq, pl.length_eq, sizeLine_eq]
    omega
  have rel := refs_vals (g := fun x : Addr × List Key => x.1) eo
  generalize sortedHeap (z.heap.push (seqObj "list" (ys0.map fun p => Value.ref p.1).toArray 0)) z.heap.objs.size (ys0.map fun p => Value.ref p.1) (List.toArray out) = hF at keep2 hcn ⊢
  obtain ⟨zh, zg, zd, zt, zo⟩ := z
  dsimp only at *
  subst g1 o1
  refine ⟨.ref zh.objs.size, upd H zh.objs.size (.lst ((ys0.mergeSort (PySem.W.dataLe false fun x : Addr × List Key => tupD x.2)).map fun x => V.ref x.1)), ?_, rfl, fin⟩
  exact I.call (ch := []) (d' := zd) (t' := zt) (Un.laid keep2 hz hn) (I.hok.laid keep2 hz ⟨hlen, out, c, rel, hcn⟩) I.bare (fun _ z => nomatch z)
end
end L2

/-! sorted(d), d a dict whose keys are tuples of texts and ints -/
namespace L2
open PySem PySem.Froz PyProof.Rows PySem.Spec
def rSortDT (K : PySem.W.Frag) : List V → Hp → VK → Prop := fun vs H Q => ∃ (d : Addr) (kvs : List (List Key × V)), vs = [.ref d] ∧ Rd H d (.dT kvs) ∧ kvs.length ≤ 4000 ∧ PySem.W.AllAlike (kvs.map fun x => tupD x.1) ∧ PySem.W.Sortable (kvs.map fun x => tupD x.1) ∧
  ∀ (ys : List (Addr × List Key)) (p : Addr), (ys.map (·.2)).Perm (kvs.map (·.1)) → (∀ y ∈ ys, H y.1 = some (.tup (y.2.map kV))) → (ys.Pairwise fun x y => PySem.W.dataLt (tupD y.2) (tupD x.2) = false) → H p = none → Q (.ref p) (upd H p (.lst (ys.map fun x => V.ref x.1)))
theorem kt_keys {H : Hp} {kvs : List (List Key × V)} {ks : List (List Key × Addr × Value)} (r : KT H kvs ks) : kvs.map (·.1) = ks.map (·.1) ∧ ∀ x ∈ ks, H x.2.1 = some (.tup (x.1.map kV)) := by
  induction r with
  | nil => exact ⟨rfl, fun _ h => (nomatch h)⟩
  | @cons p q _ _ h t ih =>
    obtain ⟨h1, h2, h3⟩ := h
    refine ⟨by rw [List.map_cons, List.map_cons, h1, ih.1], fun x hx => ?_⟩
    rcases List.mem_cons.mp hx with rfl | hx
    · rw [← h1]; exact h2
    · exact ih.2 x hx
theorem eq_of_at {α β : Type} {f : β → α} : ∀ {l : List α} {m : List β}, l.length = m.length → (∀ (j : Nat) a b, l[j]? = some a → m[j]? = some b → a = f b) → l = m.map f
  | [], [], _, _ => rfl
  | [], _ :: _, h, _ => nomatch h
  | _ :: _, [], h, _ => nomatch h
  | a :: l, b :: m, h, g => by
    rw [List.map_cons, ← g 0 a b rfl rfl, ← eq_of_at (Nat.succ.inj h) fun j x y e e' => g (j + 1) x y e e']
section
variable {X : Cx}
theorem cr_sortDT (hc : X.calm = true) (hu : X.A.units + 40 < cLine) : CallR X (.builtin "sorted") (rSortDT X.K) := by
  intro pins s σ H vs us Q I r h
  obtain ⟨d, kvs, rfl, hd, few, hal, hk, q⟩ := h
  rw [Vals.ref1 r]
  obtain ⟨z0, hs, ks, pr, o, es, ep, ho, hx, hdt, he, hn⟩ := (show ObjOk X.prog X.w H s.heap d (.dT kvs) from hd.ok I.hok)
  have l1 : es.size = ks.length := size_of_entries he
  have l2 : kvs.length = ks.length := Paired.length pr
  obtain ⟨ek, tk⟩ := kt_keys pr
  refine Calls.call_function_entry kind_sorted plain_sorted entry_sorted (args_sorted1 _) ?_
  unfold Builtin.«sorted»
  refine wpAny_bind (m := checkCount "sorted" 1 1 _) (wpAny_pure ?_)
  refine wpAny_bind (PySem.W.kdu_collect (A := X.A.in1) (kdl_raw hs hx hdt) (I.ok.hd hc) ho (by omega) fun h' tkk acc' keep it => ?_)
  have ea : acc'.toList = ks.map fun x => Value.ref x.2.1 := by
    refine eq_of_at (by rw [Array.length_toList, it.1, l1]) fun j u b hu hb => ?_
    rw [Array.getElem?_toList] at hu
    obtain ⟨en, hen, rfl⟩ := it.2 j u hu
    have same := entry_at he j
    rw [hen, hb] at same
    rw [Option.some.inj same]
    rfl
  have I1 : Inv X pins σ H { s with heap := h', toks := tkk } := I.kept keep
  generalize hL : ks.map (fun x => ((x.2.1, x.1) : Addr × List Key)) = L
  have eaL : acc'.toList = L.map fun p => Value.ref p.1 := by rw [ea, ← hL, List.map_map]; rfl
  have eL : L.map (·.2) = kvs.map (·.1) := by rw [ek, ← hL, List.map_map]; rfl
  have tL : ∀ y ∈ L, H y.1 = some (.tup (y.2.map kV)) := fun y hy => by
    rw [← hL] at hy
    obtain ⟨x, hx, rfl⟩ := List.mem_map.mp hy
    exact tk x hx
  have lL : L.length ≤ 4000 := by
    have := congrArg List.length eL
    rw [List.length_map, List.length_map] at this
    omega
  rw [eaL]
  clear ea eaL it hL
  refine wpAny_bind (wpAny_newList ?_ (by rw [List.length_map, sizeLine_eq]; omega))
  have hoL : (h'.push (seqObj "list" (L.map fun p => Value.ref p.1).toArray 0)).get? h'.objs.size = some (seqObj "list" (L.map fun p => Value.ref p.1).toArray 0) := Heap.get?_push_size _ rfl
  have eD : (kvs.map fun x => tupD x.1) = L.map fun x => tupD x.2 := by
    have := congrArg (List.map tupD) eL
    rw [List.map_map, List.map_map] at this
    exact this.symm
  rw [eD] at hal hk
  have rd : ∀ p ∈ L, ∃ as, Reads (h'.push (seqObj "list" (L.map fun p => Value.ref p.1).toArray 0)) (.ref p.1) (tupD p.2) as ∧ h'.objs.size ∉ as := fun p hp => by
    obtain ⟨as, ra⟩ := (dp_tup (SqT.of (tL p hp))).reads I1 (tupD p.2) _ (.ref p.1) rfl
    exact ⟨as, PyProof.Rows.Reads.keeps (fun b u e => Heap.get?_push_of_some _ e) ra, fun m => by
      obtain ⟨u, e⟩ := PyProof.On.reads_mem_get ra _ m
      exact Nat.lt_irrefl _ (Heap.lt_size e)⟩
  refine wpAny_bind (wpAny_holding (PySem.W.list_sort_data (A := X.A.in1) (R := fun v (x : Addr × List Key) => v = .ref x.1) (enc := fun x : Addr × List Key => tupD x.2) hoL (each_of_map (f := fun p : Addr × List Key => Value.ref p.1) (fun _ => rfl) L) (each_all (f := fun p : Addr × List Key => Value.ref p.1) rd) hal hk (by rw [sizeLine_eq]; omega) (fun x _ => by
    show X.A.units + 1 + 1 + (tupD x.2).depth < cLine
    rw [depth_tup]
    omega) fun out lo eo => ?_))
  obtain ⟨c, hcn⟩ := sortedHeap_at (vs := L.map fun p => Value.ref p.1) (out := List.toArray out) hoL
  refine wpAny_pure ⟨_, rfl, ?_⟩
  have ms := List.mergeSort_perm L (PySem.W.dataLe false fun x : Addr × List Key => tupD x.2)
  have keep2 : ∀ b u, h'.get? b = some u → (sortedHeap (h'.push (seqObj "list" (L.map fun p => Value.ref p.1).toArray 0)) h'.objs.size (L.map fun p => Value.ref p.1) (List.toArray out)).get? b = some u := fun b u k => by
    have hlt := Heap.lt_size k
    rw [sortedHeap_old (Nat.ne_of_lt hlt) (by rw [size_push']; exact Nat.lt_succ_of_lt hlt)]
    exact Heap.get?_push_of_some _ k
  have hn : H h'.objs.size = none := I1.hok.fresh (Nat.le_refl _)
  have fin := q _ h'.objs.size (by rw [← eL]; exact ms.map _) (fun y hy => tL y (ms.mem_iff.mp hy)) ((PySem.W.sort_pairwise (PySem.W.sortLe_total _ false _) _).imp fun {x y} h => by
    have h' : PySem.W.dataLe false (fun x : Addr × List Key => tupD x.2) x y = true := h
    rw [PySem.W.dataLe_eq] at h'
    have h2 : (!PySem.W.dataLt (tupD y.2) (tupD x.2)) = true := h'
    cases c : PySem.W.dataLt (tupD y.2) (tupD x.2) with
    | false => rfl
    | true => rw [c] at h2; cases h2) hn
  have hlen : ((L.mergeSort (PySem.W.dataLe false fun x : Addr × List Key => tupD x.2)).map fun x => V.ref x.1).length ≤ sizeLine := by
    rw [List.length_map, ms.length_eq, sizeLine_eq]
    omega
  have rel := refs_vals (g := fun x : Addr × List Key => x.1) eo
  generalize sortedHeap (h'.push (seqObj "list" (L.map fun p => Value.ref p.1).toArray 0)) h'.objs.size (L.map fun p => Value.ref p.1) (List.toArray out) = hF at keep2 hcn ⊢
  refine ⟨.ref h'.objs.size, upd H h'.objs.size (.lst ((L.mergeSort (PySem.W.dataLe false fun x : Addr × List Key => tupD x.2)).map fun x => V.ref x.1)), ?_, rfl, fin⟩
  exact I1.laid (t' := _) keep2 (Nat.le_refl _) ⟨hlen, out, c, rel, hcn⟩
end
end L2

namespace Half
open PySem PySem.Spec PyProof.Rows L2
/-! ### Layout.__init__ -/
structure DefX (P : Program) (w : World) (K : PySem.W.Frag) (mg : Str → Option Value) (base : Heap) (k : Nat) (x : Str) (ps : List Str) (sp : Sp) : Prop where
  ex : ∃ f fd, FnOk P w K mg base (L2.CX P w) k f fd ps sp ∧ mg x = some (.ref f) ∧ PySem.W.keepIn K (.ref f) = true ∧ Binds K fd ps []
theorem pe_defX {X : Cx} {k : Nat} {x : Str} {ps : List Str} {sp : Sp} {e : Expr} {es : List Expr} {t : TA} {p pos : Pos} {E : XK} (D : DefX X.prog X.w X.K X.mg X.base k x ps sp) (hr : Room k X.A) (hg : Gl X x) (hx : Passes (L2.CX X.prog X.w) X E) (ha : PA X (e :: es) t)
    (h1 : (x == ("__debug__" : Str)) = false := by decide) (h2 : starEach (e :: es) X.env = (false, eval e X.env) :: starEach es X.env := by rfl) (h3 : (backTo pos (starEach es X.env)).any (·.1) = false := by rfl) : PE X (.Call (.Name x p) (e :: es) [] pos) (tCall sp [] E t) :=
  let ⟨_, _, F, hm, hk, hb⟩ := D.ex; pe_call F hr hg hm hk hb .nil hx ha h1 h2 h3
theorem scLi : FnScope ["self", "store", "files", "takes", "key"] ["self", "store", "files", "takes"] (defScope (sLy 0)) := ⟨rfl, rfl, rfl, by decide +kernel, rfl, by decide +kernel, by decide +kernel⟩
/-- in the order of the keys -/
def AscK {α : Type} (l : List (Kk × α)) : Prop := l.Pairwise fun a b => PySem.W.dataLt (kD b.1) (kD a.1) = false
/-- what a layout takes -/
structure LayIn (K : PySem.W.Frag) (CT : Addr) (H : Hp) (st fa ta : Addr) (es : Eds) (fs : Fls) (ts : Tks) : Prop where
  sto : StObj CT H st es
  apF : Apart CT H st fa
  apT : Apart CT H st ta
  gF : H fa = some (.dT (kvF fs))
  gT : H ta = some (.dT (kvT ts))
  hF : ∀ e ∈ fs, OkK e.1 ∧ FilesAt K H e.2.1 e.2.2 ∧ e.2.2.length ≤ 100 ∧ ∀ p ∈ e.2.2, p.1.length ≤ 1000 ∧ Numv p.2
  hT : ∀ e ∈ ts, OkK e.1 ∧ SqT K H e.2.1 (e.2.2.map V.str) ∧ e.2.2.length ≤ 100 ∧ ∀ z ∈ e.2.2, z.length ≤ 1000
  lf : fs.length ≤ 100
  lt : ts.length ≤ 100
  ndF : (fs.map (·.1)).Nodup
  ndT : (ts.map (·.1)).Nodup
def spLi (K : PySem.W.Frag) (CT CY CL : Addr) : Sp := fun vs H Q E => ∃ (x dx st fa ta : Addr) (es : Eds) (fs : Fls) (ts : Tks), vs = [.ref x, .ref st, .ref fa, .ref ta] ∧ H x = some (.ins CY dx []) ∧ LayIn K CT H st fa ta es fs ts ∧
  (fs.filter (badF (keysOf es)) = [] → ts.filter (badT (keysOf es)) = [] → ∀ H' d1 d2 fs' ts', SameBut x H H' → Kp K H H' → LayAt CY H' x st d1 d2 fs' ts' → H d1 = none → H d2 = none → fs'.Perm fs → AscK fs' → ts'.Perm ts → AscK ts' → Q .non H') ∧
  (∀ k ks m, (fs.filter (badF (keysOf es))).map (·.1) = k :: ks → leastK k ks m → ∀ H' dd q, Same H H' → H' dd = some (.xd [("key", .ref q), ("part", .str "files")]) → H' q = some (.tup [.str m.1, .int m.2]) → E (.ref CL) (some dd) H') ∧
  (fs.filter (badF (keysOf es)) = [] → ∀ k ks m, (ts.filter (badT (keysOf es))).map (·.1) = k :: ks → leastK k ks m → ∀ H' dd q, Same H H' → H' dd = some (.xd [("key", .ref q), ("part", .str "takes")]) → H' q = some (.tup [.str m.1, .int m.2]) → E (.ref CL) (some dd) H')
theorem key_alike (a b : Kk) : PySem.W.alike (tupD (keyL a)) (tupD (keyL b)) = true := by simp [keyL, tupD, keyD, PySem.W.alike, PySem.W.alikeAll]
theorem key_tupD (k : Kk) : tupD (keyL k) = kD k := rfl
/-- keys with something each, as a dict of tuple keys -/
def kvG {α : Type} (v : α → Addr) (l : List (Kk × α)) : List (List Key × V) := l.map fun e => (keyL e.1, .ref (v e.2))
theorem kvG_nodup {α : Type} {v : α → Addr} {l : List (Kk × α)} (h : (l.map (·.1)).Nodup) : ((kvG v l).map (·.1)).Nodup := by
  have e : (kvG v l).map (·.1) = (l.map (·.1)).map keyL := by unfold kvG; rw [List.map_map, List.map_map]; rfl
  rw [e]
  exact List.pairwise_map.mpr (h.imp fun n z => n (keyL_inj z))
theorem kvG_new {α : Type} {v : α → Addr} {l : List (Kk × α)} {i : Nat} {e : Kk × α} (nd : (l.map (·.1)).Nodup) (he : l[i]? = some e) : valV (kvG v (l.take i)) (keyL e.1) = none := by
  cases c : valV (kvG v (l.take i)) (keyL e.1) with
  | none => rfl
  | some w =>
    have z := valV_in c
    unfold kvG at z
    rw [List.map_map] at z
    obtain ⟨e', he', ee⟩ := List.mem_map.mp z
    have hx : (l.map (·.1))[i]? = some e.1 := by rw [List.getElem?_map, he]; rfl
    refine absurd ?_ (nodup_take nd hx)
    rw [← keyL_inj ee, ← List.map_take]
    exact List.mem_map.mpr ⟨e', he', rfl⟩
section
variable {P : Program} {w : World} {K : PySem.W.Frag} {mg : Str → Option Value} {base : Heap} {C CT CY CL fL : Addr}
/-- {key: d[key] for key in sorted(d)} -/
theorem dc_sorted {α : Type} {v : α → Addr} {x0 x1 x2 x3 x4 : Option V} {Q : VK} {j : Nat} {H : Hp} {d : Addr} {l : List (Kk × α)} (hσ : ∀ y : Option V, ([x0, x1, x2, x3, y] : List (Option V))[j]? = some (some (.ref d))) (g : H d = some (.dT (kvG v l))) (len : l.length ≤ 100) (nd : (l.map (·.1)).Nodup)
    (k : ∀ H' D l', Same H H' → H D = none → H' D = some (.dT (kvG v l')) → l'.Perm l → AscK l' → Q (.ref D) H') :
    tDcG (.dT []) (iList K (tCB (rSortDT K) (tCons (tVar j) tNil))) (gName 4) tYes (tVar 4) (tDGet (tVar j) (tVar 4)) [4] [x0, x1, x2, x3, x4] H Q := by
  have e1 : (kvG v l).map (·.1) = l.map fun e => keyL e.1 := by unfold kvG; rw [List.map_map]; rfl
  have e2 : (kvG v l).map (fun x => tupD x.1) = l.map fun e => tupD (keyL e.1) := by unfold kvG; rw [List.map_map]; rfl
  refine ⟨_, hσ _, d, kvG v l, rfl, .inl g, by unfold kvG; rw [List.length_map]; omega, ?_, ?_, fun ys p pm tin asc np => ?_⟩
  · rw [e2]
    intro x hx y hy
    obtain ⟨a, _, rfl⟩ := List.mem_map.mp hx
    obtain ⟨b, _, rfl⟩ := List.mem_map.mp hy
    exact key_alike a.1 b.1
  · rw [e2]
    refine .inl fun x hx => ?_
    obtain ⟨a, _, rfl⟩ := List.mem_map.mp hx
    exact ⟨_, _, rfl⟩
  rw [e1] at pm
  obtain ⟨l', pl, e⟩ := perm_back pm
  have ll : ys.length = l'.length := by
    have := congrArg List.length e
    rwa [List.length_map, List.length_map] at this
  have asc2 : AscK l' := by
    have h : (ys.map (·.2)).Pairwise fun a b => PySem.W.dataLt (tupD b) (tupD a) = false := List.pairwise_map.mpr asc
    rw [e] at h
    exact List.pairwise_map.mp h
  have s1 := Same.upd_new (o := .lst (ys.map fun x => V.ref x.1)) np
  have g1 := s1 _ _ g
  have gp : upd H p (.lst (ys.map fun x => V.ref x.1)) p = some (.lst (ys.map fun x => V.ref x.1)) := upd_same
  have nd' : (l'.map (·.1)).Nodup := (pl.map _).nodup_iff.mpr nd
  have ln : l'.length ≤ 100 := by rw [pl.length_eq]; exact len
  generalize upd H p (.lst (ys.map fun x => V.ref x.1)) = H1 at s1 g1 gp ⊢
  refine ⟨p, rfl, ⟨_, SqL.of gp⟩, fun D hD => ?_⟩
  refine dcG_it (walk_list (xs := ys.map fun x => V.ref x.1)) (fun i H' => Same H1 H' ∧ H' D = some (.dT (kvG v (l'.take i)))) ⟨Same.upd_new hD, upd_same⟩ (fun _ _ _ h => SqL.of (h.1 _ _ gp)) ?_ ?_
  · rintro i z H4 H5 hi ⟨s4, gD⟩ ⟨rfl, hv⟩
    rw [List.getElem?_map] at hv
    obtain ⟨y, hy, rfl⟩ := Option.map_eq_some_iff.mp hv
    rw [List.length_map, ll] at hi
    have he := List.getElem?_eq_getElem hi
    generalize l'[i] = en at he
    have ey : y.2 = keyL en.1 := by
      have h : (ys.map (·.2))[i]? = some y.2 := by rw [List.getElem?_map, hy]; rfl
      rw [e, List.getElem?_map, he] at h
      exact (Option.some.inj h).symm
    have S5 := s1.trans s4
    have gq := S5 _ _ (tin y (List.mem_of_getElem? hy))
    rw [ey] at gq
    have hval := val_nodup (kvG_nodup (v := v) nd) (keyL en.1, .ref (v en.2)) (by unfold kvG; exact List.mem_map.mpr ⟨en, pl.mem_iff.mp (List.mem_of_getElem? he), rfl⟩)
    refine ⟨rfl, ?_⟩
    refine ⟨_, rfl, _, hσ _, _, rfl, d, .ref (v en.2), rfl, .inr ⟨kvG v l, keyL en.1, y.1, .inl (S5 _ _ g), rfl, gq, hval.symm⟩, ?_⟩
    refine ⟨_, DPut.t (k := keyL en.1) gD gq (by unfold kvG; rw [List.length_map, List.length_take, sizeLine_eq]; omega), fun b o q' => ?_, ?_⟩
    · rw [upd_ne (ne_of_none q' hD)]
      exact s4 _ _ q'
    · rw [putK_new _ (kvG_new nd' he), upd_same, take_next he]
      unfold kvG
      rw [List.map_append]
      rfl
  · rintro H4 ⟨s4, gD⟩
    rw [List.length_map, ll, List.take_length] at gD
    have nD : H D = none := by
      cases q : H D with
      | none => rfl
      | some o => rw [s1 _ _ q] at hD; cases hD
    exact k H4 D l' (s1.trans s4) nD gD pl asc2
theorem ok_li {f : Addr} {fd : FuncData} (F : Fun K "__init__" "Layout.__init__" (sLy 0) f fd) (T : TxtLy K CY) (gS : mg "sorted" = none) (dC : DefX P w K mg base 4 "check_layout" ["store", "files", "takes"] (spCl K CT CL)) : FnOk P w K mg base (L2.CX P w) 5 f fd ["self", "store", "files", "takes"] (spLi K CT CY CL) := by
  refine F.okX scLi (fun vs H Q E h => ?_) (fun cdv A outer s H vs Q E hr h => ?_)
  · obtain ⟨x, dx, st, fa, ta, es, fs, ts, rfl, _⟩ := h
    rfl
  · obtain ⟨x, dx, st, fa, ta, es, fs, ts, rfl, hx, I, kOk, kF, kT⟩ := h
    have nd := scLi.nd
    have hu1 := hu_of hr
    have hu := hr.units
    have hu40 : (A.deeper (envOfC "Layout.__init__" (defScope (sLy 0)) s.heap.objs.size f cdv)).units + 40 < cLine := Nat.lt_of_le_of_lt (Nat.add_le_add_left (by decide : 40 ≤ 64) _) hu
    refine ⟨_, pss_cons (ps_expr (pe_defX dC hr rfl (passes_call (takes_of rfl rfl rfl rfl) (fun _ _ _ _ h => h)) (pa_cons (pv 1) (pa_cons (pv 2) (pa_cons (pv 3) pa_nil)))))
      (pss_cons (ps_fld (pv 0) (pv 1) rfl)
      (pss_cons (ps_fld (pv 0) (pe_dcG (own := [("key", 4)]) (g := gName 4) (tt := tYes) (tk := tVar 4) (tv := tDGet (tVar 2) (tVar 4)) Bare.t hu1 rfl nd (pi_list (pe_callB (cr_sortDT rfl hu40) (by rfl) gS (by decide +kernel) (pa_cons (pv 2) pa_nil))) (blkOk_by (N := ["self", "store", "files", "takes", "key"]) (sc := defScope (sLy 0)) (by decide +kernel)) (fun _ _ _ _ _ => pg_name (i := 4) nd rfl (Or.inl rfl)) (fun _ _ _ _ _ => pts_nil)
        (fun _ _ _ _ _ => pv 4) (fun _ _ _ _ _ => pe_dget hu1 (pv 2) (pv 4) (fun _ _ => rfl))) rfl)
      (pss_one (ps_fld (pv 0) (pe_dcG (own := [("key", 4)]) (g := gName 4) (tt := tYes) (tk := tVar 4) (tv := tDGet (tVar 3) (tVar 4)) Bare.t hu1 rfl nd (pi_list (pe_callB (cr_sortDT rfl hu40) (by rfl) gS (by decide +kernel) (pa_cons (pv 3) pa_nil))) (blkOk_by (N := ["self", "store", "files", "takes", "key"]) (sc := defScope (sLy 0)) (by decide +kernel)) (fun _ _ _ _ _ => pg_name (i := 4) nd rfl (Or.inl rfl)) (fun _ _ _ _ _ => pts_nil)
        (fun _ _ _ _ _ => pv 4) (fun _ _ _ _ _ => pe_dget hu1 (pv 3) (pv 4) (fun _ _ => rfl))) rfl)))), ?_⟩
    refine ⟨_, rfl, _, rfl, _, rfl, st, fa, ta, es, fs, ts, rfl, I.sto, I.apF, I.apT, I.gF, I.gT, I.hF, I.hT, I.lf, I.lt, I.ndF, I.ndT, fun f0 t0 H1 s1 => ?_, kF, kT⟩
    have hx1 := s1 _ _ hx
    refine ⟨_, rfl, _, rfl, x, CY, dx, [], rfl, hx1, T.cl, T.nS, (by show 0 < 1000; decide), ?_⟩
    have gx2 : (upd H1 x (.ins CY dx (putF "held_store" (.ref st) []))) x = some (.ins CY dx [("held_store", .ref st)]) := upd_same
    have sb2 : SameBut x H (upd H1 x (.ins CY dx (putF "held_store" (.ref st) []))) := fun b o nb q => by rw [upd_ne nb]; exact s1 _ _ q
    have kp2 : Kp K H (upd H1 x (.ins CY dx (putF "held_store" (.ref st) []))) := s1.kp.trans (Kp.upd hx1 (fun _ z => by cases z) (fun _ _ z => by cases z))
    generalize upd H1 x (.ins CY dx (putF "held_store" (.ref st) [])) = H2 at gx2 sb2 kp2 ⊢
    have gF2 := sb2 _ _ (ne_of I.gF hx (by intro z; cases z)) I.gF
    dsimp only [tSeq, sFld]
    show tDcG (.dT []) (iList K (tCB (rSortDT K) (tCons (tVar 2) tNil))) (gName 4) tYes (tVar 4) (tDGet (tVar 2) (tVar 4)) [4] [some (.ref x), some (.ref st), some (.ref fa), some (.ref ta), none] H2 _
    refine dc_sorted (j := 2) (v := fun p : Addr × List (Str × V) => p.1) (by intro _; rfl) gF2 I.lf I.ndF fun H3 d1 fs' s3 nd1 g1 pF aF => ?_
    have gx3 := s3 _ _ gx2
    have n1x : d1 ≠ x := fun e => by rw [e, gx2] at nd1; cases nd1
    refine ⟨_, rfl, x, CY, dx, _, rfl, gx3, T.cl, T.nF, (by show 1 < 1000; decide), ?_⟩
    have gx4 : (upd H3 x (.ins CY dx (putF "held_files" (.ref d1) [("held_store", .ref st)]))) x = some (.ins CY dx [("held_store", .ref st), ("held_files", .ref d1)]) := upd_same
    have sb4 : SameBut x H (upd H3 x (.ins CY dx (putF "held_files" (.ref d1) [("held_store", .ref st)]))) := fun b o nb q => by rw [upd_ne nb]; exact s3 _ _ (sb2 b o nb q)
    have kp4 : Kp K H (upd H3 x (.ins CY dx (putF "held_files" (.ref d1) [("held_store", .ref st)]))) := (kp2.trans s3.kp).trans (Kp.upd gx3 (fun _ z => by cases z) (fun _ _ z => by cases z))
    have g14 : (upd H3 x (.ins CY dx (putF "held_files" (.ref d1) [("held_store", .ref st)]))) d1 = some (.dT (kvF fs')) := by rw [upd_ne n1x]; exact g1
    generalize upd H3 x (.ins CY dx (putF "held_files" (.ref d1) [("held_store", .ref st)])) = H4 at gx4 sb4 kp4 g14 ⊢
    have gT4 := sb4 _ _ (ne_of I.gT hx (by intro z; cases z)) I.gT
    show tDcG (.dT []) (iList K (tCB (rSortDT K) (tCons (tVar 3) tNil))) (gName 4) tYes (tVar 4) (tDGet (tVar 3) (tVar 4)) [4] [some (.ref x), some (.ref st), some (.ref fa), some (.ref ta), none] H4 _
    refine dc_sorted (j := 3) (v := fun p : Addr × List Str => p.1) (by intro _; rfl) gT4 I.lt I.ndT fun H5 d2 ts' s5 nd2 g2 pT aT => ?_
    have gx5 := s5 _ _ gx4
    have n2x : d2 ≠ x := fun e => by rw [e, gx4] at nd2; cases nd2
    refine ⟨_, rfl, x, CY, dx, _, rfl, gx5, T.cl, T.nT, (by show 2 < 1000; decide), ?_⟩
    have none_of : ∀ {b : Addr} {Ha : Hp}, b ≠ x → SameBut x H Ha → Ha b = none → H b = none := fun {b Ha} n sb q => by
      cases c : H b with
      | none => rfl
      | some o => rw [sb _ _ n c] at q; cases q
    refine kOk f0 t0 _ d1 d2 fs' ts' (fun b o nb q => by rw [upd_ne nb]; exact s5 _ _ (sb4 b o nb q)) ((kp4.trans s5.kp).trans (Kp.upd gx5 (fun _ z => by cases z) (fun _ _ z => by cases z))) ⟨⟨dx, upd_same⟩, by rw [upd_ne n1x]; exact s5 _ _ g14, by rw [upd_ne n2x]; exact g2⟩ (none_of n1x sb2 nd1) (none_of n2x sb4 nd2) pF aF pT aT
end
end Half

namespace Half
open PySem PySem.Spec PyProof.Rows L2
/-! ### Layout.__eq__ -/
structure StEqF (P : Program) (w : World) (K : PySem.W.Frag) (mg : Str → Option Value) (base : Heap) (CT : Addr) : Prop where
  ex : ∃ f fd, OwnEqC K CT f ∧ FnOk P w K mg base CX0 1 f fd ["self", "other"] (spStEq CT) ∧ Binds K fd ["self", "other"] []
theorem stEq_read {CT : Addr} {H : Hp} {a b : Addr} {es es' : Eds} {fl : Bool → Bool} {Q : VK} (h1 : StObj CT H a es) (h2 : StObj CT H b es') (hs : es.length = es'.length → ∀ e ∈ es, e ∈ es') (q : Q (.bl (fl (decide (es.length = es'.length)))) H) : rEqO CT (spStEq CT) fl (.ref a) (.ref b) H Q := by
  obtain ⟨dx, fs, ha⟩ := h1.ins
  obtain ⟨dy, gs, hb⟩ := h2.ins
  exact ⟨a, b, dx, dy, fs, gs, rfl, rfl, ha, hb, a, b, es, es', rfl, h1, h2, hs, _, rfl, q⟩
structure TxtLe (K : PySem.W.Frag) (mg : Str → Option Value) (CY : Addr) : Prop where
  t : TxtLy K CY
  isi : mg "isinstance" = none
  mgC : mg "Layout" = some (.ref CY)
  ha : PySem.W.findIn K (.ref CY) "__class__" = some (some (.builtin "object.__class__"))
  hn : PySem.W.specialIn K (.builtin "object.__class__") "__get__" = some (some (.builtin "getset_descriptor.__get__"))
  ht : PySem.W.takesIn K (.builtin "object.__class__") = some true
  hm : PySem.W.mroIn K CY (.type "object") = some true
  ki : PySem.W.kitOne K (.ref CY) (.ref CY) = some true
/-- the same keys have the very same tuples -/
def SameT {α : Type} (v : α → Addr) (l m : List (Kk × α)) : Prop := l.length = m.length → ∀ e ∈ l, valV (kvG v m) (keyL e.1) = some (.ref (v e.2))
def spLeq (CT CY : Addr) : Sp := fun vs H Q _ => ∃ (a b st st' d1 d2 e1 e2 : Addr) (fs fs' : Fls) (ts ts' : Tks) (es es' : Eds), vs = [.ref a, .ref b] ∧ LayAt CY H a st d1 d2 fs ts ∧ LayAt CY H b st' e1 e2 fs' ts' ∧ StObj CT H st es ∧ StObj CT H st' es' ∧ (es.length = es'.length → ∀ e ∈ es, e ∈ es') ∧
  SameT (fun p : Addr × List (Str × V) => p.1) fs fs' ∧ SameT (fun p : Addr × List Str => p.1) ts ts' ∧ Q (.bl (decide (es.length = es'.length) && (decide (fs.length = fs'.length) && decide (ts.length = ts'.length)))) H
section
variable {P : Program} {w : World} {K : PySem.W.Frag} {mg : Str → Option Value} {base : Heap} {CT CY : Addr}
theorem eqT_read {α : Type} {v : α → Addr} {l m : List (Kk × α)} {H : Hp} {a b : Addr} {Q : VK} (ha : H a = some (.dT (kvG v l))) (hb : H b = some (.dT (kvG v m))) (s : SameT v l m) (q : Q (.bl (decide (l.length = m.length))) H) : rEqT (.ref a) (.ref b) H Q := by
  have l1 : (kvG v l).length = l.length := by unfold kvG; rw [List.length_map]
  have l2 : (kvG v m).length = m.length := by unfold kvG; rw [List.length_map]
  refine ⟨a, b, _, _, rfl, rfl, ha, hb, fun e p hp => ?_, by rw [l1, l2]; exact q⟩
  rw [l1, l2] at e
  unfold kvG at hp
  obtain ⟨e0, he0, rfl⟩ := List.mem_map.mp hp
  exact ⟨_, rfl, s e e0 he0⟩
theorem scLe : FnScope ["self", "other"] ["self", "other"] (defScope (sLy 4)) := ⟨rfl, rfl, rfl, by decide +kernel, rfl, by decide +kernel, by decide +kernel⟩
theorem ok_leq {f : Addr} {fd : FuncData} (F : Fun K "__eq__" "Layout.__eq__" (sLy 4) f fd) (T : TxtLe K mg CY) (S : StEqF P w K mg base CT) : FnOk P w K mg base CX0 2 f fd ["self", "other"] (spLeq CT CY) := by
  refine F.ok scLe (fun vs H Q E h => ?_) (fun cdv A outer s H vs Q E hr h => ?_)
  · obtain ⟨a, b, st, st', d1, d2, e1, e2, fs, fs', ts, ts', es, es', rfl, _⟩ := h
    rfl
  · obtain ⟨a, b, st, st', d1, d2, e1, e2, fs, fs', ts, ts', es, es', rfl, ⟨⟨dx, h1⟩, h2, h3⟩, ⟨⟨dy, g1⟩, g2, g3⟩, hO, hO', hs, sF, sT, k⟩ := h
    obtain ⟨fe, fde, Oe, Fe, be⟩ := S.ex
    have hu1 := hu_of hr
    refine ⟨_, pss_one (ps_ret (pe_and (pe_callB call_isi (by rfl) T.isi (by decide +kernel) (pa_cons (pv 1) (pa_cons (pe_glob (v := .ref CY) rfl T.mgC rfl) pa_nil)))
      (pe_and (pe_cmpR (op_eqO Fe Oe be hr) (pe_fld (pv 0) rfl) (pe_fld (pv 1) rfl) (nomark _)) (pe_and (pe_cmpR (op_eqT hu1) (pe_fld (pv 0) rfl) (pe_fld (pv 1) rfl) (nomark _)) (pe_one (pe_cmpR (op_eqT hu1) (pe_fld (pv 0) rfl) (pe_fld (pv 1) rfl) (nomark _))))))), ?_⟩
    refine ⟨_, rfl, _, _, _, _, _, rfl, .own CY, .base (.ins g1 T.t.cl T.ha T.hn T.ht T.hm), T.ki, _, rfl, ?_⟩
    refine iteT ?_
    refine ⟨_, rfl, a, CY, dx, _, _, rfl, h1, T.t.cl, T.t.nS, rfl, _, rfl, b, CY, dy, _, _, rfl, g1, T.t.cl, T.t.nS, rfl, ?_⟩
    refine stEq_read hO hO' hs ?_
    refine ⟨_, rfl, ?_⟩
    show if decide (es.length = es'.length) = true then _ else _
    cases c : decide (es.length = es'.length) with
    | false =>
      rw [c, Bool.false_and] at k
      exact iteF k
    | true =>
      rw [c, Bool.true_and] at k
      refine iteT ?_
      refine ⟨_, rfl, a, CY, dx, _, _, rfl, h1, T.t.cl, T.t.nF, rfl, _, rfl, b, CY, dy, _, _, rfl, g1, T.t.cl, T.t.nF, rfl, ?_⟩
      refine eqT_read (v := fun p : Addr × List (Str × V) => p.1) h2 g2 sF ?_
      refine ⟨_, rfl, ?_⟩
      cases c2 : decide (fs.length = fs'.length) with
      | false =>
        rw [c2, Bool.false_and] at k
        exact iteF k
      | true =>
        rw [c2, Bool.true_and] at k
        refine iteT ?_
        refine ⟨_, rfl, a, CY, dx, _, _, rfl, h1, T.t.cl, T.t.nT, rfl, _, rfl, b, CY, dy, _, _, rfl, g1, T.t.cl, T.t.nT, rfl, ?_⟩
        exact eqT_read (v := fun p : Addr × List Str => p.1) h3 g3 sT k
end
end Half

namespace Half
open PySem PySem.Spec PyProof.Rows L2
/-! ### _law_keys -/
abbrev sKs : Stmt := top 41
abbrev KsN : List Str := ["_law_store_here", "_law_found", "_law_name", "_law_number"]
theorem scKs : FnScope KsN ["_law_store_here"] (defScope sKs) := ⟨rfl, rfl, rfl, by decide +kernel, rfl, by decide +kernel, by decide +kernel⟩
structure SvF (P : Program) (w : World) (K : PySem.W.Frag) (mg : Str → Option Value) (base : Heap) (CT CN : Addr) : Prop where
  cl : Cls K CT
  ex : ∃ f fd, Meth K CT "versions" f ∧ FnOk P w K mg base (L2.CX P w) 1 f fd ["self", "name"] (spVers CT CN) ∧ Binds K fd ["self", "name"] []
abbrev KeyAt (H : Hp) (q : Addr) (k : Kk) : Prop := H q = some (.tup [.str k.1, .int k.2])
def spKs (CT : Addr) : Sp := fun vs H Q _ => ∃ (st : Addr) (es : Eds), vs = [.ref st] ∧ StObj CT H st es ∧ es.length ≤ 40 ∧
  ∀ H' l qs (ks : List Kk), Same H H' → H l = none → H' l = some (.lst (qs.map V.ref)) → Paired (KeyAt H') qs ks → ks.Nodup → (∀ k ∈ ks, k ∈ keysOf es) → Q (.ref l) H'
theorem nums_of (ys : List Kk) (nm : Str) : numsOf ys nm = (ys.filter fun y => decide (y.1 = nm)).map fun y => V.int y.2 := rfl
theorem paired_two {α β : Type} {R : α → β → Prop} : ∀ {xs : List α} {ys : List β} {xs' : List α} {ys' : List β}, Paired R xs ys → Paired R xs' ys' → Paired R (xs ++ xs') (ys ++ ys')
  | _, _, _, _, .nil, b => b
  | _, _, _, _, .cons a t, b => .cons a (paired_two t b)
section
variable {P : Program} {w : World} {K : PySem.W.Frag} {mg : Str → Option Value} {base : Heap} {CT CN : Addr}
theorem ok_ks {f : Addr} {fd : FuncData} (F : Fun K "_law_keys" "_law_keys" sKs f fd) (N : NamF P w K mg base CT) (SV : SvF P w K mg base CT CN) : FnOk P w K mg base CX0 3 f fd ["_law_store_here"] (spKs CT) := by
  refine F.ok scKs (fun vs H Q E h => ?_) (fun cdv A outer s H vs Q E hr h => ?_)
  · obtain ⟨st, es, rfl, _⟩ := h
    rfl
  · obtain ⟨st, es, rfl, hO, few, k⟩ := h
    have nd := scKs.nd
    have r1 : Room 1 _ := hr.mono (by decide)
    obtain ⟨fv, fdv, Mv, Fv, bv⟩ := SV.ex
    refine ⟨_, pss_cons (ps_set (i := 1) nd rfl (Or.inl rfl) (pe_lst pa_nil))
      (pss_cons (ps_for PassesOwn.never rfl (pi_tup (pe_nam N hr (pv 0))) (pg_name (i := 2) nd rfl (by first | exact Or.inl rfl | exact Or.inr rfl))
        (pss_one (ps_set (i := 1) nd rfl (Or.inl rfl) (pe_op op_cat (pv 1) (pe_lc (own := [("_law_number", 3)]) (g := gName 3) (tt := tYes) (te := tTup (tCons (tVar 2) (tCons (tVar 3) tNil))) rfl nd (pi_tup (pe_meth (pv 0) SV.cl Mv Fv r1 bv .nil passL (pa_cons (pv 2) pa_nil))) (blkOk_by (N := KsN) (sc := defScope sKs) (by decide +kernel))
          (fun _ _ _ _ _ => pg_name (i := 3) nd rfl (Or.inl rfl)) (fun _ _ _ _ _ => pts_nil) (fun _ _ _ _ _ => pe_tup (pa_cons (pv 2) (pa_cons (pv 3) pa_nil))))))))
      (pss_one (ps_ret (pv 1)))), ?_⟩
    refine ⟨Nat.zero_le _, fun l0 nl0 => ?_⟩
    have s0 := Same.upd_new (o := .lst []) nl0
    have g0 : upd H l0 (.lst []) l0 = some (.lst (([] : List Addr).map V.ref)) := upd_same
    generalize upd H l0 (.lst []) = H0 at s0 g0 ⊢
    obtain ⟨dx, fs, ha⟩ := hO.ins
    refine ⟨_, rfl, st, dx, fs, rfl, s0 _ _ ha, st, es, rfl, hO.same s0, fun ys nt pm asc nnt => ?_⟩
    have s1 := Same.upd_new (o := .tup ((dset (ys.map (·.1))).map V.str)) nnt
    have gn : SqT K (upd H0 nt (.tup ((dset (ys.map (·.1))).map V.str))) nt ((dset (ys.map (·.1))).map V.str) := SqT.of upd_same
    have S1 := s0.trans s1
    have g1 := s1 _ _ g0
    generalize upd H0 nt (.tup ((dset (ys.map (·.1))).map V.str)) = H1 at S1 gn g1 ⊢
    have one := hO.one
    have ndy : ys.Nodup := pm.symm.nodup_iff.mp one
    have ly : ys.length ≤ 40 := by
      rw [pm.length_eq]
      unfold keysOf
      rw [List.length_map]
      exact few
    have ndn := dset_nodup (ys.map (·.1))
    refine ⟨nt, rfl, ⟨_, gn⟩, ?_⟩
    refine for_it (walk_tup (xs := (dset (ys.map (·.1))).map V.str)) (fun i σ H' => Same H1 H' ∧ ∃ (l : Addr) (qs : List Addr) (ks : List Kk) (x2 : Option V), σ = [some (.ref st), some (.ref l), x2, none] ∧ H l = none ∧ H' l = some (.lst (qs.map V.ref)) ∧ Paired (KeyAt H') qs ks ∧ ks.Nodup ∧ (∀ k ∈ ks, k ∈ ys ∧ k.1 ∈ (dset (ys.map (·.1))).take i))
      ⟨fun _ _ h => h, l0, [], [], none, rfl, nl0, g1, .nil, .nil, fun _ h => (nomatch h)⟩ (fun i σ H' _ p => p.1.sqT gn) ?_ ?_
    · rintro i v σ H2 H3 hi ⟨s2, l, qs, ks, x2, rfl, nl, gl, pk, ndk, sub⟩ ⟨rfl, hv⟩
      rw [List.getElem?_map] at hv
      obtain ⟨nm, hnm, rfl⟩ := Option.map_eq_some_iff.mp hv
      have S2 := S1.trans s2
      have hin : nm ∈ (keysOf es).map (·.1) := by
        have := (mem_dset _ nm).mp (List.mem_of_getElem? hnm)
        obtain ⟨y, hy, e⟩ := List.mem_map.mp this
        exact List.mem_map.mpr ⟨y, pm.mem_iff.mp hy, e⟩
      have ndk0 : ks.length ≤ 40 := by
        have := len_sub ndk (m := ys) fun z hz => (sub z hz).1
        omega
      have lq : qs.length = ks.length := Paired.length pk
      have lF : (ys.filter fun y => decide (y.1 = nm)).length ≤ 40 := Nat.le_trans (List.length_filter_le ..) ly
      obtain ⟨⟨dy, tb, nb, hst, -⟩, -⟩ := id hO
      refine ⟨_, rfl, _, rfl, st, dy, _, rfl, S2 _ _ hst, rfl, _, rfl, st, es, nm, rfl, hO.same S2, (fun _ ys2 t2 pm2 asc2 ht2 => ?_), (fun z => absurd hin z)⟩
      have pm3 : ys2.Perm ys := pm2.trans pm.symm
      rw [nums_of] at ht2
      have sub3 : ∀ z ∈ ys2.filter (fun y => decide (y.1 = nm)), z ∈ ys ∧ z.1 = nm := fun z hz => ⟨pm3.mem_iff.mp (List.mem_filter.mp hz).1, of_decide_eq_true (List.mem_filter.mp hz).2⟩
      have nd3 : (ys2.filter fun y => decide (y.1 = nm)).Nodup := (pm3.nodup_iff.mpr ndy).sublist List.filter_sublist
      have l3 : (ys2.filter fun y => decide (y.1 = nm)).length ≤ 40 := by
        have := List.length_filter_le (fun y : Kk => decide (y.1 = nm)) ys2
        have := pm3.length_eq
        omega
      generalize ys2.filter (fun y => decide (y.1 = nm)) = zs at ht2 sub3 nd3 l3
      refine ⟨t2, rfl, ⟨_, SqT.of ht2⟩, fun D hD => ?_⟩
      refine lc_it (walk_tup (xs := zs.map fun y => V.int y.2)) (fun j H' => Same H3 H' ∧ ∃ ps : List Addr, H' D = some (.lst (ps.map V.ref)) ∧ Paired (KeyAt H') ps (zs.take j) ∧ ps.length ≤ j) ⟨Same.upd_new hD, [], upd_same, .nil, Nat.le_refl _⟩ (fun _ _ _ h => h.1.sqT (SqT.of ht2)) ?_ ?_
      · rintro j w2 H5 H6 hj ⟨s5, ps, g5, p5, l5⟩ ⟨rfl, hw⟩
        rw [List.getElem?_map] at hw
        obtain ⟨z, hz, rfl⟩ := Option.map_eq_some_iff.mp hw
        have ez := (sub3 z (List.mem_of_getElem? hz)).2
        rw [List.length_map] at hj
        refine ⟨rfl, ?_⟩
        refine ⟨_, rfl, _, rfl, two_le, fun p np => ?_⟩
        have s6 := Same.upd_new (o := .tup [.str nm, .int z.2]) np
        have npD : p ≠ D := fun e => by rw [e, g5] at np; cases np
        have gp : upd H6 p (.tup [.str nm, .int z.2]) p = some (.tup [.str nm, .int z.2]) := upd_same
        generalize upd H6 p (.tup [.str nm, .int z.2]) = H7 at s6 gp ⊢
        have kp : ∀ {o : HO} {q : Addr} {k : Kk}, KeyAt H7 q k → KeyAt (upd H7 D o) q k := fun {o q k} h => by
          have n : q ≠ D := ne_of h (s6 _ _ g5) (by intro z; cases z)
          show upd H7 D o q = _
          rw [upd_ne n]
          exact h
        refine ⟨_, s6 _ _ g5, by rw [List.length_map, sizeLine_eq]; omega, fun b o q' => ?_, ps ++ [p], ?_, ?_, ?_⟩
        · rw [upd_ne (ne_of_none q' hD)]
          exact s6 _ _ (s5 _ _ q')
        · rw [upd_same, List.map_append]
          rfl
        · rw [take_next hz]
          refine paired_two (paired_imp (fun q k h => kp (s6 _ _ h)) p5) (.cons (kp ?_) .nil)
          show H7 p = some (.tup [.str z.1, .int z.2])
          rw [ez]
          exact gp
        · rw [List.length_append]
          exact Nat.succ_le_succ l5
      · rintro H5 ⟨s5, ps, g5, p5, l5⟩
        rw [List.length_map, List.take_length] at p5
        refine ⟨l, D, _, _, rfl, rfl, s5 _ _ gl, g5, by rw [List.length_map, List.length_map, sizeLine_eq]; rw [List.length_map] at l5; omega, fun p np => ?_⟩
        have s6 := Same.upd_new (o := .lst (qs.map V.ref ++ ps.map V.ref)) np
        have S5 := s2.trans s5
        have nH : H p = none := by
          cases q : H p with
          | none => rfl
          | some o => rw [S1 _ _ q |> S5 _ _] at np; cases np
        refine ⟨S5.trans s6, p, qs ++ ps, ks ++ zs, _, rfl, nH, by rw [upd_same, List.map_append], paired_two (paired_imp (fun q k h => (s5.trans s6) _ _ h) pk) (paired_imp (fun q k h => s6 _ _ h) p5), ?_, fun z hz => ?_⟩
        · refine List.nodup_append.mpr ⟨ndk, nd3, fun a ha b hb e => ?_⟩
          have h1 := (sub a ha).2
          rw [e, (sub3 b hb).2] at h1
          exact nodup_take ndn hnm h1
        · rw [take_next hnm]
          rcases List.mem_append.mp hz with q | q
          · exact ⟨(sub z q).1, List.mem_append.mpr (.inl (sub z q).2)⟩
          · exact ⟨(sub3 z q).1, List.mem_append.mpr (.inr (by rw [(sub3 z q).2]; exact .head _))⟩
    · rintro σ H2 ⟨s2, l, qs, ks, x2, rfl, nl, gl, pk, ndk, sub⟩
      exact ⟨_, rfl, k H2 l qs ks (S1.trans s2) nl gl pk ndk fun z hz => pm.mem_iff.mp (sub z hz).1⟩
end
end Half

namespace Half
open PySem PySem.Spec PyProof.Rows L2
/-! ### _law_told -/
abbrev sTd : Stmt := top 42
theorem scTd : FnScope ["_law_work", "e"] ["_law_work"] (defScope sTd) := ⟨rfl, rfl, rfl, by decide +kernel, rfl, by decide +kernel, by decide +kernel⟩
open LamX in
section
variable {X : Cx} {CL : Addr}
structure TdT (K : PySem.W.Frag) (mg : Str → Option Value) (CL : Addr) : Prop where
  g : mg "InvalidLayout" = some (.ref CL)
  x : XfC K CL
  nP : PySem.W.findIn K (.ref CL) "part" = some none
  nK : PySem.W.findIn K (.ref CL) "key" = some none
  em : PySem.W.exmOne K (.ref CL) (.ref CL) = some true
def TTd (CL : Addr) : (XK → Hp → VK → Prop) → Hp → VK → Prop := fun tl H Q =>
  tl (fun cls d H' => cls = .ref CL ∧ ∃ dd q part, d = some dd ∧ H' dd = some (.xd [("key", .ref q), ("part", .str part)]) ∧ ∀ t, H' t = none → Q (.ref t) (upd H' t (.tup [.str part, .ref q]))) H (fun _ H' => Q .non H')
theorem takes_len {W : WX} (tk : Takes X W) : Takes X (fun cls d σ H => σ.length = X.N.length → W cls d σ H) := fun u s' x => by
  obtain ⟨a, B, sI, pins, σ, H, cls, d, e, I, nb, up, sky, na, os, ag, w⟩ := x
  exact tk u s' ⟨a, B, sI, pins, σ, H, cls, d, e, I, nb, up, sky, na, os, ag, w I.len⟩
theorem td_gives (T : TdT X.K X.mg CL) {g : Addr} {cdg : Value} {q : Str} : LamX.GivesTo X ["_law_work", "e"] "_law_told" (defScope sTd) g cdg (defBody sTd) "_law_work" q (TTd CL) := by
  intro f c' s H Q tl act hc h
  have nd := scTd.nd
  refine ⟨_, pss_cons (ps_try_as (i := 1) (X := (cxOf C8.CX0 X.prog X.w X.K X.mg X.base ["_law_work", "e"] "_law_told" (defScope sTd) g cdg X.A X.stack s H C8.E0).nox) (c := .ref CL)
      (tb := fun W D σ H => ∃ Ech : XK, (∀ cls d σ' H', Ech cls d H' → σ'.length = 2 → W cls d σ' H') ∧ σ[0]? = some (some (.ref f)) ∧ H c' = some (CodeO c' q) ∧ tl Ech H (fun _ H' => D.nx σ H'))
      rfl rfl nd rfl rfl ⟨rfl, by decide, .inl T.g⟩ LamX.takes0 (fun W pn xe tk _ => ?_) (fun a oe cls d pn hz hf => pss_one (ps_ret (pe_tup (pa_cons (pe_xf T.x T.nP hz hf (pv 1)) (pa_cons (pe_xf T.x T.nK hz hf (pv 1)) pa_nil)))))) (pss_one (ps_ret pe_non)), ?_⟩
  · refine ⟨fun pins s' σ H' D I h' => ?_⟩
    obtain ⟨Ech, hW, h1, h2, h3⟩ := h'
    exact (pss_one (ps_expr (act _ pn xe Ech _ _ (takes_len tk) (fun cls d σ' H' e hl => hW cls d σ' H' e hl)))).run pins s' σ H' D I ⟨h1, h2, h3⟩
  · refine ⟨_, fun cls d σ' H2 hE hl => ?_, rfl, hc, h⟩
    obtain ⟨rfl, dd, q, part, rfl, hx, k⟩ := hE
    obtain ⟨x0, x1, rfl⟩ : ∃ x0 x1, σ' = [x0, x1] := by
      match σ', hl with
      | [x0, x1], _ => exact ⟨x0, x1, rfl⟩
    refine ⟨true, T.em, fun _ a ha => ?_, fun z => nomatch z⟩
    refine ⟨_, rfl, rfl, rfl, dd, _, _, rfl, hx, rfl, ?_⟩
    refine ⟨_, rfl, rfl, rfl, dd, _, _, rfl, hx, rfl, two_le, fun t nt => ?_⟩
    exact k t nt
end
end Half

/-! t * k, k none or one -/
namespace L2
open PySem PySem.Spec PyProof.Rows
theorem times_one (a : Addr) (vs : Array Value) (m : Nat) (dd : Option Addr) (sl : Array (Option Value)) (u : Tok) :
    Meets (Builtin.«tuple.__mul__» ⟨[.ref a, .int 1 u], []⟩) (fun _ R s => s.heap.get? a = some ⟨.type "tuple", dd, .seq vs m, sl⟩ ∧ R (.ok (.ret (.ref a))) s) :=
  .of_wp fun P w A R st hh => by
    obtain ⟨H, gs, ds, ts, os⟩ := st
    obtain ⟨ha, go⟩ := hh
    have ix := AutoSeq1.idx_int
    wp_walk using wpAny_loadPart' ha
    exact ⟨_, rfl, go⟩
theorem times_none (a : Addr) (vs : Array Value) (m : Nat) (dd : Option Addr) (sl : Array (Option Value)) (u : Tok) (ne : vs.isEmpty = false) :
    Meets (Builtin.«tuple.__mul__» ⟨[.ref a, .int 0 u], []⟩) (fun _ R s => s.heap.get? a = some ⟨.type "tuple", dd, .seq vs m, sl⟩ ∧ R (.ok (.ret (.ref s.heap.objs.size))) { s with heap := s.heap.push { cls := .type "tuple", data := .seq #[] }, toks := s.toks }) :=
  .of_wp fun P w A R st hh => by
    obtain ⟨H, gs, ds, ts, os⟩ := st
    obtain ⟨ha, go⟩ := hh
    have ix := AutoSeq1.idx_int
    wp_walk using wpAny_loadPart' ha
    exact ⟨_, rfl, go⟩
def rTimes (K : PySem.W.Frag) : R2 := fun x y H Q => ∃ (l : Addr) (b : Bool) (xs : List V), x = .ref l ∧ y = .int (if b then 1 else 0) ∧ SqT K H l xs ∧ xs ≠ [] ∧ (b = true → Q (.ref l) H) ∧ (b = false → ∀ p, H p = none → Q (.ref p) (upd H p (.tup [])))
theorem op_times {X : Cx} : OpR X (binaryOp .Mult) (rTimes X.K) := by
  rintro pins s σ H x y v u Q I rx ry ⟨l, b, xs, rfl, rfl, hT, ne, q1, q0⟩
  cases rx
  obtain ⟨t, rfl⟩ := ry
  obtain ⟨us, rel, ⟨⟨cl, dd, da, sl⟩, at_, hcl, m, hda⟩, _⟩ := I.tuple hT
  dsimp only at hcl hda
  subst hcl hda
  have un : us.toArray.isEmpty = false := by
    cases us with
    | nil => cases rel; exact absurd rfl ne
    | cons _ _ => rfl
  have road : ∀ (k : Int) (R : Value → Shared → Prop), Meets (Builtin.«tuple.__mul__» ⟨[.ref l, .int k t], []⟩) (fun _ R s => s.heap.get? l = some ⟨.type "tuple", dd, .seq us.toArray m, sl⟩ ∧ R (.ok (.ret (.ref (if k = 1 then l else s.heap.objs.size)))) (if k = 1 then s else { s with heap := s.heap.push { cls := .type "tuple", data := .seq #[] }, toks := s.toks })) → R (.ref (if k = 1 then l else s.heap.objs.size)) (if k = 1 then s else { s with heap := s.heap.push { cls := .type "tuple", data := .seq #[] }, toks := s.toks }) → wpAny (model X.prog X.w) X.A (binaryOp .Mult (.ref l) (.int k t)) R X.xe s := fun k R mt hR =>
    wpAny_binaryOp_repeat_ref (T := "tuple") (U := "int") (by decide) ⟨_, at_, rfl⟩ (fun s' => typeIs_int s' k t) noFill_tuple_mul F.fills_int_mul F.slot_int_rmul repeat_tuple F.slot_int_index.lookup
      (call_meets F.slot_int_rmul (typeIs_int s k t) F.entry_int_rmul (F.args_int_rmul_2 _ _) (int_rmul_tuple k t l us.toArray m dd sl)
        ⟨at_, rfl, ⟨_, at_, rfl⟩, call_meets F.slot_tuple_mul ⟨_, at_, rfl⟩ F.entry_tuple_mul (F.args_tuple_mul_2 _ _) mt ⟨at_, hR⟩⟩)
  cases b with
  | true =>
    refine road 1 _ (times_one l us.toArray m dd sl t) ?_
    exact ⟨.ref l, H, I, rfl, q1 rfl⟩
  | false =>
    refine road 0 _ (times_none l us.toArray m dd sl t un) ?_
    exact ⟨.ref s.heap.objs.size, _, I.laid (t' := s.toks) (o := .tup []) (fun b ob q => Heap.get?_push_of_some _ q) (Nat.le_refl _) ⟨by decide, _, .nil, IsTup.new _ _⟩, rfl, q0 rfl _ (I.hok.fresh (Nat.le_refl _))⟩
end L2

namespace Half
open PySem PySem.Spec PyProof.Rows L2
/-! ### what is drawn: an expression that gives a thing and lays only new objects -/
def Gv (te : TE) (σ : L2.St) (Φ : V → Hp → Prop) : Prop := ∀ (H : Hp) (Q : VK), (∀ v H', Same H H' → Φ v H' → Q v H') → te σ H Q
def GvA (ta : TA) (σ : L2.St) (Ψ : List V → Hp → Prop) : Prop := ∀ (H : Hp) (Q : List V → Hp → Prop), (∀ vs H', Same H H' → Ψ vs H' → Q vs H') → ta σ H Q
section
variable {K : PySem.W.Frag} {σ : L2.St}
/-- a tuple of pairs is given -/
abbrev GvF (K : PySem.W.Frag) (te : TE) (σ : L2.St) (f : List (Str × V)) : Prop := Gv te σ fun v H => ∃ a, v = .ref a ∧ FilesAt K H a f
/-- tuples of pairs are given -/
abbrev GvFs (K : PySem.W.Frag) (ta : TA) (σ : L2.St) (fs : List (List (Str × V))) : Prop := GvA ta σ fun vs H => ∃ as : List Addr, vs = as.map V.ref ∧ Paired (fun a f => FilesAt K H a f) as fs
theorem gv_pairs : ∀ (f : List (Str × V)), GvA (f.foldr (fun p t => tCons (tTup (tCons (tC (.str p.1)) (tCons (tC p.2) tNil))) t) tNil) σ fun vs H => ∃ ts : List Addr, vs = ts.map V.ref ∧ Paired (fun t (p : Str × V) => SqT K H t [.str p.1, p.2]) ts f
  | [] => fun H Q k => k [] H (fun _ _ h => h) ⟨[], rfl, .nil⟩
  | p :: f => fun H Q k => by
    refine ⟨two_le, fun t nt => ?_⟩
    have s1 := Same.upd_new (o := .tup [.str p.1, p.2]) nt
    have gt : SqT K (upd H t (.tup [.str p.1, p.2])) t [.str p.1, p.2] := SqT.of upd_same
    refine gv_pairs f _ _ fun vs H' s2 h => ?_
    obtain ⟨ts, rfl, h⟩ := h
    exact k _ H' (s1.trans s2) ⟨t :: ts, rfl, .cons (s2.sqT gt) h⟩
theorem files_of {H : Hp} {a : Addr} {ts : List Addr} {f : List (Str × V)} (g : SqT K H a (ts.map V.ref)) (h : Paired (fun t (p : Str × V) => SqT K H t [.str p.1, p.2]) ts f) : FilesAt K H a f := by
  refine ⟨ts, g, Paired.length h, fun i t p ht hp => ?_⟩
  obtain ⟨p', hp', r⟩ := paired_get h ht
  rw [hp] at hp'
  cases hp'
  exact r
theorem gv_files (f : List (Str × V)) (len : f.length ≤ 100) : GvF K (tTup (f.foldr (fun p t => tCons (tTup (tCons (tC (.str p.1)) (tCons (tC p.2) tNil))) t) tNil)) σ f := fun H Q k => by
  refine gv_pairs (K := K) f H _ fun vs H' s1 h => ?_
  obtain ⟨ts, rfl, h⟩ := h
  have l := Paired.length h
  refine ⟨by rw [List.length_map, sizeLine_eq]; omega, fun p np => ?_⟩
  have s2 := Same.upd_new (o := .tup (ts.map V.ref)) np
  exact k _ _ (s1.trans s2) ⟨p, rfl, files_of (SqT.of upd_same) (paired_imp (fun _ _ h => s2.sqT h) h)⟩
/-- tuple([(c, 3) for c in z]) -/
abbrev chF (z : Str) : List (Str × V) := z.cps.toList.map fun c => ((⟨#[c]⟩ : Str), V.int 3)
theorem gv_chars {i : Nat} {z : Str} (hi : i < σ.length) (few : z.cps.size ≤ 100) : GvF K (tCB (fun xs H Q => ∃ p ys, xs = [.ref p] ∧ ((SqL K H p ys ∧ ∀ l, H l = none → Q (.ref l) (upd H l (.tup ys))) ∨ (SqT K H p ys ∧ Q (.ref p) H))) (tCons (tLc (iStr (tC (.str z))) (gName i) tYes (tTup (tCons (tVar i) (tCons (tC (.int 3)) tNil))) [i]) tNil)) σ (chF z) := fun H Q k => by
  refine ⟨z, rfl, fun D hD => ?_⟩
  refine lc_it (walk_str (z := z)) (fun j H' => Same H H' ∧ ∃ ts : List Addr, H' D = some (.lst (ts.map V.ref)) ∧ Paired (fun t (p : Str × V) => H' t = some (.tup [.str p.1, p.2])) ts ((chF z).take j) ∧ ts.length ≤ j) ⟨Same.upd_new hD, [], upd_same, .nil, Nat.le_refl _⟩ (fun _ _ _ _ => trivial) ?_ ?_
  · rintro j x H4 H5 hj ⟨s4, ts, g4, p4, l4⟩ ⟨rfl, c, hc, rfl⟩
    refine ⟨?_, ?_⟩
    · simp only [wipe]
      rw [List.set_set, List.set_set]
    have hat : ((wipe σ [i]).set i (some (V.str ⟨#[c]⟩)))[i]? = some (some (V.str ⟨#[c]⟩)) := by
      simp only [wipe]
      rw [List.getElem?_set_self (by rw [List.length_set]; exact hi)]
    refine ⟨_, hat, two_le, fun t nt => ?_⟩
    have s5 := Same.upd_new (o := .tup [.str ⟨#[c]⟩, .int 3]) nt
    have gt : upd H5 t (.tup [.str ⟨#[c]⟩, .int 3]) t = some (.tup [.str ⟨#[c]⟩, .int 3]) := upd_same
    generalize upd H5 t (.tup [.str ⟨#[c]⟩, .int 3]) = H6 at s5 gt ⊢
    have ne : ∀ {q : Addr} {xs : List V}, H6 q = some (.tup xs) → q ≠ D := fun h => ne_of h (s5 _ _ g4) (by intro z; cases z)
    have hz : (chF z)[j]? = some ((⟨#[c]⟩ : Str), V.int 3) := by
      rw [List.getElem?_map, Array.getElem?_toList, hc]
      rfl
    refine ⟨_, s5 _ _ g4, by rw [List.length_map, sizeLine_eq]; omega, fun b o q => ?_, ts ++ [t], ?_, ?_, ?_⟩
    · rw [upd_ne (ne_of_none q hD)]
      exact s5 _ _ (s4 _ _ q)
    · rw [upd_same, List.map_append]
      rfl
    · rw [take_next hz]
      refine paired_two (paired_imp (fun q p h => ?_) p4) (.cons ?_ .nil)
      · have := s5 _ _ h
        rw [upd_ne (ne this)]
        exact this
      · rw [upd_ne (ne gt)]
        exact gt
    · rw [List.length_append]
      exact Nat.succ_le_succ l4
  · rintro H4 ⟨s4, ts, g4, p4, l4⟩
    have e : (chF z).take z.cps.size = chF z := by
      rw [List.take_of_length_le (by rw [List.length_map, Array.length_toList]; exact Nat.le_refl _)]
    rw [e] at p4
    refine ⟨D, _, rfl, .inl ⟨SqL.of g4, fun l nl => ?_⟩⟩
    have s5 := Same.upd_new (o := .tup (ts.map V.ref)) nl
    exact k _ _ (s4.trans s5) ⟨l, rfl, files_of (SqT.of upd_same) (paired_imp (fun _ _ h => SqT.of (s5 _ _ h)) p4)⟩
theorem gvfs_nil : GvFs K tNil σ [] := fun H Q k => k [] H (fun _ _ h => h) ⟨[], rfl, .nil⟩
theorem gvfs_cons {te : TE} {ta : TA} {f : List (Str × V)} {fs : List (List (Str × V))} (h : GvF K te σ f) (h' : GvFs K ta σ fs) : GvFs K (tCons te ta) σ (f :: fs) := fun H Q k => by
  refine h H _ fun v H1 s1 hv => ?_
  obtain ⟨a, rfl, hf⟩ := hv
  refine h' H1 _ fun vs H2 s2 hs => ?_
  obtain ⟨as, rfl, ps⟩ := hs
  exact k _ H2 (s1.trans s2) ⟨a :: as, rfl, .cons (hf.kp s2.kp) ps⟩
/-- a list of them -/
theorem gv_list {ta : TA} {fs : List (List (Str × V))} (h : GvFs K ta σ fs) (len : fs.length ≤ 100) : Gv (tLst ta) σ fun v H => ∃ l as, v = .ref l ∧ H l = some (.lst (as.map V.ref)) ∧ Paired (fun a f => FilesAt K H a f) as fs := fun H Q k => by
  refine h H _ fun vs H1 s1 hs => ?_
  obtain ⟨as, rfl, ps⟩ := hs
  have l := Paired.length ps
  refine ⟨by rw [List.length_map, sizeLine_eq]; omega, fun p np => ?_⟩
  have s2 := Same.upd_new (o := .lst (as.map V.ref)) np
  exact k _ _ (s1.trans s2) ⟨p, as, rfl, upd_same, paired_imp (fun a f h => h.kp s2.kp) ps⟩
end
/-- the drawn files: right ones, wrong ones -/
def GoodF : List (List (Str × V)) := [[], [("bin", .int 1)], [("bin", .int 99), ("doc", .int 1)], chF "abcdef"]
def SomeF : List (List (Str × V)) := [[("bin", .int 0)], [("bin", .int 100)], [("doc", .int 1), ("bin", .int 1)], [("bin", .int 1), ("bin", .int 2)]]
def SomeG : List (List (Str × V)) := [[("Bin", .int 1)], [("", .int 1)], [("bin", .bl true)], chF "abcdefg"]
theorem good_ok : (GoodF.all areFiles) = true := by decide +kernel
theorem some_bad : ((SomeF ++ SomeG).all fun f => !areFiles f) = true := by decide +kernel
end Half

namespace Half
open PySem PySem.Spec PyProof.Rows L2
/-! ### the law -/
abbrev sLaw : Stmt := top 43
abbrev LawN : List Str := ["_law_script", "_law_row", "_law_turn", "_law_store_here", "_law_files", "_law_takes", "_law_wrong", "_law_bad", "_law_key", "_law_good", "_law_some", "_law_path", "_law_pick", "_law_others", "_law_name", "_law_odd", "_law_is_bad", "_law_due", "_law_layout"]
theorem scLaw : FnScope LawN ["_law_script"] (defScope sLaw) := ⟨rfl, rfl, rfl, by decide +kernel, rfl, by decide +kernel, by decide +kernel⟩
abbrev tBody : List Stmt := forBody (nth (defBody sLaw) 1)
abbrev kBody : List Stmt := forBody (nth tBody 2)
theorem op_inS {X : Cx} {CT : Addr} (D : HasF X.prog X.w X.K X.mg X.base CT) (hr : Room 1 X.A) : OpR X (compareOp .In) (rInO CT (spHas CT) E0 fun b => b) := by
  obtain ⟨f, fd, O, F, b⟩ := D.ex
  exact op_inO F O b hr pass0
/-- tuple + tuple, whichever tuple it is that comes of it -/
def rCatQ31 (K : PySem.W.Frag) : R2 := fun x y H Q => ∃ a b xs ys, x = .ref a ∧ y = .ref b ∧ SqT K H a xs ∧ SqT K H b ys ∧ xs.length + ys.length ≤ sizeLine ∧ ∀ p H', Same H H' → SqT K H' p (xs ++ ys) → Q (.ref p) H'
theorem op_catQ31 {X : Cx} : OpR X (binaryOp .Add) (rCatQ31 X.K) := by
  intro pins s σ H x y v u Q I rx ry h
  obtain ⟨a, b, xs, ys, rfl, rfl, ha, hb, hz, q⟩ := h
  refine op_catA pins s σ H _ _ v u Q I rx ry ⟨a, b, xs, ys, rfl, rfl, ha, hb, hz, fun e => q b H (fun _ _ h => h) ?_, fun _ e => q a H (fun _ _ h => h) ?_, fun _ _ p np => q p _ (Same.upd_new np) (SqT.of upd_same)⟩
  · rw [e, List.nil_append]; exact hb
  · rw [e, List.append_nil]; exact ha
structure LawAll (P : Program) (w : World) (K : PySem.W.Frag) (mg : Str → Option Value) (base : Heap) (C CT CY CN CL : Addr) : Prop where
  gR : mg "range" = none
  gT : mg "tuple" = none
  gI : mg "int" = none
  gL : mg "list" = none
  gM : mg "min" = none
  gS : mg "sorted" = none
  dT : Def P w K mg base 1 "_law_taken" ["_law_row", "_law_many"] (spTaken K)
  dSto : Def P w K mg base 8 "_law_store" ["_law_row", "_law_most"] (spSto K C CT)
  dKs : Def P w K mg base 3 "_law_keys" ["_law_store_here"] (spKs CT)
  has : HasF P w K mg base CT
  nam : NamF P w K mg base CT
end Half

namespace Half
open PySem PySem.Spec PyProof.Rows L2
structure IsNm (ks : List Kk) (ns : List Str) : Prop where
  nd : ns.Nodup
  asc : ns.Pairwise txLe
  mem : ∀ x, x ∈ ns ↔ x ∈ ks.map (·.1)
theorem same_perm {α : Type} [DecidableEq α] {l m : List α} (hl : l.Nodup) (hm : m.Nodup) (h : ∀ z, z ∈ l ↔ z ∈ m) : m.Perm l := perm_of_len hl (fun z => (h z).mp) (len_sub hm fun z => (h z).mpr)
theorem IsNm.uniq {ks : List Kk} {ns ms : List Str} (h1 : IsNm ks ns) (h2 : IsNm ks ms) : ns = ms :=
  sorted_uniq txLe_as h1.asc h2.asc (same_perm h2.nd h1.nd fun z => (h2.mem z).trans (h1.mem z).symm)
theorem names_asc {ys : List Kk} (h : Asc ys) : (dset (ys.map (·.1))).Pairwise txLe := by
  refine List.Pairwise.sublist (dset_sub _) ?_
  rw [List.pairwise_map]
  refine h.imp fun {a b} hab => ?_
  unfold txLe
  rcases pLt_no hab with q | ⟨q, _⟩
  · exact tx_as q
  · rw [q]; exact tx_irr _
theorem isNm_of {ks ys : List Kk} (hp : ys.Perm ks) (ha : Asc ys) : IsNm ks (dset (ys.map (·.1))) := ⟨dset_nodup _, names_asc ha, nam_mem hp⟩
/-! ### the drawn names: which packages an edition may take files over from -/
def sub3 : List (List Str) := [[], ["app"], ["db"], ["lib"], ["app", "db"], ["app", "lib"], ["db", "lib"], ["app", "db", "lib"]]
def rank3 (x : Str) : Nat := if x = "app" then 0 else if x = "db" then 1 else 2
theorem pn3_rank : ∀ x ∈ PN3, ∀ y ∈ PN3, txLt x y = decide (rank3 x < rank3 y) := by decide +kernel
theorem sub3_of {ns : List Str} (h : ∀ x ∈ ns, x ∈ PN3) (nd : ns.Nodup) (asc : ns.Pairwise txLe) : ns ∈ sub3 := by
  have le : ns.length ≤ 3 := by
    have := len_sub nd h
    exact this
  have lt : ∀ {x y : Str}, x ∈ PN3 → y ∈ PN3 → x ≠ y → txLe x y → (x, y) ∈ ([("app", "db"), ("app", "lib"), ("db", "lib")] : List (Str × Str)) := by
    have all : ∀ x ∈ PN3, ∀ y ∈ PN3, x = y ∨ txLt y x = true ∨ (x, y) ∈ ([("app", "db"), ("app", "lib"), ("db", "lib")] : List (Str × Str)) := by decide +kernel
    intro x y hx hy n l
    rcases all x hx y hy with q | q | q
    · exact absurd q n
    · rw [show txLt y x = false from l] at q; cases q
    · exact q
  match ns, le, h, nd, asc with
  | [], _, _, _, _ => exact .head _
  | [x], _, h, _, _ =>
    have hx := h x (.head _)
    have all : ∀ x ∈ PN3, [x] ∈ sub3 := by decide +kernel
    exact all x hx
  | [x, y], _, h, nd, asc =>
    have q := lt (h x (.head _)) (h y (.tail _ (.head _))) (fun e => (List.nodup_cons.mp nd).1 (by rw [e]; exact .head _)) ((List.pairwise_cons.mp asc).1 y (.head _))
    have all : ∀ p ∈ ([("app", "db"), ("app", "lib"), ("db", "lib")] : List (Str × Str)), [p.1, p.2] ∈ sub3 := by decide +kernel
    exact all _ q
  | [x, y, z], _, h, nd, asc =>
    have q1 := lt (h x (.head _)) (h y (.tail _ (.head _))) (fun e => (List.nodup_cons.mp nd).1 (by rw [e]; exact .head _)) ((List.pairwise_cons.mp asc).1 y (.head _))
    have nd2 := (List.nodup_cons.mp nd).2
    have asc2 := (List.pairwise_cons.mp asc).2
    have q2 := lt (h y (.tail _ (.head _))) (h z (.tail _ (.tail _ (.head _)))) (fun e => (List.nodup_cons.mp nd2).1 (by rw [e]; exact .head _)) ((List.pairwise_cons.mp asc2).1 z (.head _))
    have all : ∀ p ∈ ([("app", "db"), ("app", "lib"), ("db", "lib")] : List (Str × Str)), ∀ q ∈ ([("app", "db"), ("app", "lib"), ("db", "lib")] : List (Str × Str)), p.2 = q.1 → [p.1, p.2, q.2] ∈ sub3 := by decide +kernel
    exact all _ q1 _ q2 rfl
  | _ :: _ :: _ :: _ :: _, le, _, _, _ => exact absurd le (by simp)
abbrev othW (ns : List Str) (nm : Str) : List Str := ns.filter fun n => !decide (V.str n = V.str nm)
/-- the other packages are fine, the odd ones are not, and differ -/
theorem oth_ok : ∀ ns ∈ sub3, ∀ nm ∈ PN4, areOthers (othW ns nm) nm = true ∧ areOthers [nm] nm = false ∧ othW ns nm ≠ [nm] ∧ othW ns nm ≠ (["zzz"] : List Str) ∧ othW ns nm ≠ (othW ns nm).drop 1 ++ (["aa"] : List Str) ∧ (∀ z ∈ othW ns nm, z ∈ ns) := by decide +kernel
theorem sub3_no : ∀ ns ∈ sub3, ("zzz" : Str) ∉ ns ∧ ("aa" : Str) ∉ ns := by decide +kernel
theorem takes_good {ks : List Kk} {ns : List Str} {nm : Str} (hs : ns ∈ sub3) (hn : nm ∈ PN4) (mem : ∀ x, x ∈ ns ↔ x ∈ ks.map (·.1)) : areTakes ks (othW ns nm) nm = true := by
  obtain ⟨a, -, -, -, -, b⟩ := oth_ok ns hs nm hn
  unfold areTakes
  rw [a, Bool.true_and]
  exact List.all_eq_true.mpr fun z hz => has_iff.mpr ((mem z).mp (b z hz))
theorem takes_odd {ks : List Kk} {ns : List Str} {nm : Str} {odd : List Str} (hs : ns ∈ sub3) (hn : nm ∈ PN4) (mem : ∀ x, x ∈ ns ↔ x ∈ ks.map (·.1)) (ho : odd ∈ ([[nm], ["zzz"], (othW ns nm).drop 1 ++ (["aa"] : List Str)] : List (List Str))) : areTakes ks odd nm = false ∧ odd ≠ othW ns nm := by
  obtain ⟨a, b, c, d, e, -⟩ := oth_ok ns hs nm hn
  obtain ⟨z1, z2⟩ := sub3_no ns hs
  have gone : ∀ {x : Str}, x ∉ ns → ∀ {l : List Str}, x ∈ l → areTakes ks l nm = false := fun {x} h {l} hl => by
    unfold areTakes
    have : (l.all fun z => has (ks.map (·.1)) z) = false := by
      refine Bool.eq_false_iff.mpr fun t => h ?_
      exact (mem x).mpr (has_iff.mp (List.all_eq_true.mp t x hl))
    rw [this, Bool.and_false]
  rcases List.mem_cons.mp ho with rfl | ho
  · refine ⟨?_, fun q => c q.symm⟩
    unfold areTakes
    rw [b, Bool.false_and]
  · rcases List.mem_cons.mp ho with rfl | ho
    · exact ⟨gone z1 (.head _), fun q => d q.symm⟩
    · rw [List.mem_singleton.mp ho]
      exact ⟨gone z2 (List.mem_append.mpr (.inr (.head _))), fun q => e q.symm⟩
end Half

namespace Half
open PySem PySem.Spec PyProof.Rows L2
/-! ### what stands while the keys are drawn -/
structure Lo (K : PySem.W.Frag) (CT r a st fa ta : Addr) (es : Eds) (fs : Fls) (ts : Tks) (H : Hp) : Prop where
  row : Row K H r a
  sto : StObj CT H st es
  apF : Apart CT H st fa
  apT : Apart CT H st ta
  gF : H fa = some (.dT (kvF fs))
  gT : H ta = some (.dT (kvT ts))
  hF : ∀ e ∈ fs, OkK e.1 ∧ FilesAt K H e.2.1 e.2.2 ∧ e.2.2.length ≤ 100 ∧ ∀ p ∈ e.2.2, p.1.length ≤ 1000 ∧ Numv p.2
  hT : ∀ e ∈ ts, OkK e.1 ∧ SqT K H e.2.1 (e.2.2.map V.str) ∧ e.2.2.length ≤ 100 ∧ ∀ z ∈ e.2.2, z.length ≤ 1000
  ne : fa ≠ ta
/-- a list of keys -/
def ListK (H : Hp) (l : Addr) (ks : List Kk) : Prop := ∃ qs : List Addr, H l = some (.lst (qs.map V.ref)) ∧ Paired (KeyAt H) qs ks
section
variable {K : PySem.W.Frag} {CT r a st fa ta l : Addr} {es : Eds} {fs : Fls} {ts : Tks} {ks : List Kk} {H H' : Hp}
theorem Apart.mv {d : Addr} (hO : StObj CT H st es) (k : ∀ o, H st = some o → H' st = some o) (h : Apart CT H st d) : Apart CT H' st d := fun dx tb nb q => by
  obtain ⟨⟨dy, tb', nb', h1, -⟩, -⟩ := hO
  have e := (k _ h1).symm.trans q
  injection e with e
  injection e with _ e1 e2
  injection e2 with e3 _
  injection e3 with _ e4
  injection e4 with e5
  have := h _ _ _ h1
  rw [e5] at this
  exact this
theorem Lo.dr (h : Lo K CT r a st fa ta es fs ts H) (d : Dr r a H H') : Lo K CT r a st fa ta es fs ts H' := by
  obtain ⟨xr, hr⟩ := h.row.at_
  have kp := d.kp h.row
  obtain ⟨⟨dy, tb, nb, h1, -⟩, -⟩ := id h.sto
  have ks : ∀ o, H st = some o → H' st = some o := fun o q => d.sb _ _ (ne_of h1 hr (by intro z; cases z)) q
  exact ⟨d.row h.row, h.sto.nl (d.nl h.row), h.apF.mv h.sto ks, h.apT.mv h.sto ks, d.sb _ _ (ne_of h.gF hr (by intro z; cases z)) h.gF, d.sb _ _ (ne_of h.gT hr (by intro z; cases z)) h.gT,
    fun e he => ⟨(h.hF e he).1, (h.hF e he).2.1.kp kp, (h.hF e he).2.2⟩, fun e he => ⟨(h.hT e he).1, kp _ _ (h.hT e he).2.1, (h.hT e he).2.2⟩, h.ne⟩
theorem Lo.same (h : Lo K CT r a st fa ta es fs ts H) (s : Same H H') : Lo K CT r a st fa ta es fs ts H' := h.dr (h.row.of s)
theorem ListK.mv (k : ∀ b o, H b = some o → (∀ kv, o ≠ .dT kv) → (∀ x y z w, o ≠ .lst [.ref x, .int y, .int z, .int w]) → H' b = some o) (h : ListK H l ks) : ListK H' l ks := by
  obtain ⟨qs, g, p⟩ := h
  refine ⟨qs, k _ _ g (by intro _ z; cases z) (fun x y z w e => ?_), paired_imp (fun q k' h => k _ _ h (by intro _ z; cases z) (by intro _ _ _ _ z; cases z)) p⟩
  injection e with e
  match qs, e with
  | [], e => cases e
  | [_], e => cases e
  | _ :: _ :: _, e =>
    injection e with _ e
    injection e with e _
    cases e
theorem ListK.dr (R : Row K H r a) (d : Dr r a H H') (h : ListK H l ks) : ListK H' l ks := by
  obtain ⟨ns, i, g, l', h1, -⟩ := R
  exact h.mv fun b o q _ n => d.sb _ _ (fun z => by rw [z, h1] at q; cases q; exact n _ _ _ _ rfl) q
theorem ListK.same (s : Same H H') (h : ListK H l ks) : ListK H' l ks := h.mv fun b o q _ _ => s b o q
theorem key_mv {q : Addr} {k : Kk} (R : Row K H r a) (d : Dr r a H H') (h : KeyAt H q k) : KeyAt H' q k := by
  obtain ⟨xr, hr⟩ := R.at_
  exact d.sb _ _ (ne_of h hr (by intro z; cases z)) h
/-- a dict is changed: all else stands -/
theorem StObj.put {d : Addr} {kv kv' : List (List Key × V)} (h : StObj CT H st es) (ap : Apart CT H st d) (g : H d = some (.dT kv)) : StObj CT (upd H d (.dT kv')) st es := by
  obtain ⟨⟨dy, tb, nb, h1, h2, h3⟩, one⟩ := h
  obtain ⟨ys', a, b, kvs', g1, g2, g3⟩ := h3
  have n : ∀ {b' : Addr} {o : HO}, H b' = some o → (∀ ks, o ≠ .dT ks) → (upd H d (.dT kv')) b' = some o := fun {b' o} q no => by
    rw [upd_ne fun z => no kv (by rw [z, g] at q; exact (Option.some.inj q).symm)]
    exact q
  exact ⟨⟨dy, tb, nb, n h1 (by intro _ z; cases z), by rw [upd_ne (ap _ _ _ h1)]; exact h2, ys', a, b, kvs', n g1 (by intro _ z; cases z), g2, fun nm hm => let ⟨t, a, b⟩ := g3 nm hm; ⟨t, a, n b (by intro _ z; cases z)⟩⟩, one⟩
theorem put_row {d : Addr} {kv kv' : List (List Key × V)} (R : Row K H r a) (g : H d = some (.dT kv)) : Row K (upd H d (.dT kv')) r a := by
  obtain ⟨ns, i, gg, l', h1, h2, h3, h4⟩ := R
  have n : ∀ {b' : Addr} {o : HO}, H b' = some o → (∀ ks, o ≠ .dT ks) → (upd H d (.dT kv')) b' = some o := fun {b' o} q no => by
    rw [upd_ne fun z => no kv (by rw [z, g] at q; exact (Option.some.inj q).symm)]
    exact q
  refine ⟨ns, i, gg, l', n h1 (by intro _ z; cases z), ?_, h3, h4⟩
  rcases h2 with (q | ⟨o, q⟩) | q
  · exact .inl (.inl (n q (by intro _ z; cases z)))
  · exact .inl (.inr ⟨o, n q (by intro _ z; cases z)⟩)
  · exact .inr q
theorem put_keep {d b : Addr} {kv kv' : List (List Key × V)} {o : HO} (g : H d = some (.dT kv)) (q : H b = some o) (n : ∀ ks, o ≠ .dT ks) : upd H d (.dT kv') b = some o := by
  rw [upd_ne fun z => n kv (by rw [z, g] at q; exact (Option.some.inj q).symm)]
  exact q
theorem put_kp {d : Addr} {kv kv' : List (List Key × V)} (g : H d = some (.dT kv)) : Kp K H (upd H d (.dT kv')) := Kp.upd g (fun _ z => by cases z) (fun _ _ z => by cases z)
theorem put_ap {d d' : Addr} {kv kv' : List (List Key × V)} (hO : StObj CT H st es) (g : H d = some (.dT kv)) (h : Apart CT H st d') : Apart CT (upd H d (.dT kv')) st d' := by
  obtain ⟨⟨dy, tb, nb, h1, -⟩, -⟩ := id hO
  exact h.mv hO fun o q => put_keep g q (by rw [h1] at q; cases q; intro _ z; cases z)
/-- files[k] = f -/
theorem Lo.putF (h : Lo K CT r a st fa ta es fs ts H) {k : Kk} {af : Addr} {f : List (Str × V)} (new : k ∉ fs.map (·.1)) (ok : OkK k) (hf : FilesAt K H af f) (l1 : f.length ≤ 100) (l2 : ∀ p ∈ f, p.1.length ≤ 1000 ∧ Numv p.2) :
    Lo K CT r a st fa ta es (fs ++ [(k, af, f)]) ts (upd H fa (.dT (putK (kvF fs) (keyL k) (.ref af)))) := by
  have e : putK (kvF fs) (keyL k) (.ref af) = kvF (fs ++ [(k, af, f)]) := by
    have n : valV (kvF fs) (keyL k) = none := by
      cases c : valV (kvF fs) (keyL k) with
      | none => rfl
      | some w =>
        have z := valV_in c
        unfold kvF at z
        rw [List.map_map] at z
        obtain ⟨e', he', ee⟩ := List.mem_map.mp z
        exact absurd (List.mem_map.mpr ⟨e', he', keyL_inj ee⟩) new
    rw [putK_new _ n]
    unfold kvF
    rw [List.map_append]
    rfl
  rw [e]
  have kp : Kp K H (upd H fa (.dT (kvF (fs ++ [(k, af, f)])))) := put_kp h.gF
  refine ⟨put_row h.row h.gF, h.sto.put h.apF h.gF, put_ap h.sto h.gF h.apF, put_ap h.sto h.gF h.apT, upd_same, by rw [upd_ne (Ne.symm h.ne)]; exact h.gT, fun e he => ?_, fun e he => ⟨(h.hT e he).1, kp _ _ (h.hT e he).2.1, (h.hT e he).2.2⟩, h.ne⟩
  rcases List.mem_append.mp he with q | q
  · exact ⟨(h.hF e q).1, (h.hF e q).2.1.kp kp, (h.hF e q).2.2⟩
  · rw [List.mem_singleton.mp q]
    exact ⟨ok, hf.kp kp, l1, l2⟩
/-- takes[k] = s -/
theorem Lo.putT (h : Lo K CT r a st fa ta es fs ts H) {k : Kk} {as : Addr} {s : List Str} (new : k ∉ ts.map (·.1)) (ok : OkK k) (hs : SqT K H as (s.map V.str)) (l1 : s.length ≤ 100) (l2 : ∀ z ∈ s, z.length ≤ 1000) :
    Lo K CT r a st fa ta es fs (ts ++ [(k, as, s)]) (upd H ta (.dT (putK (kvT ts) (keyL k) (.ref as)))) := by
  have e : putK (kvT ts) (keyL k) (.ref as) = kvT (ts ++ [(k, as, s)]) := by
    have n : valV (kvT ts) (keyL k) = none := by
      cases c : valV (kvT ts) (keyL k) with
      | none => rfl
      | some w =>
        have z := valV_in c
        unfold kvT at z
        rw [List.map_map] at z
        obtain ⟨e', he', ee⟩ := List.mem_map.mp z
        exact absurd (List.mem_map.mpr ⟨e', he', keyL_inj ee⟩) new
    rw [putK_new _ n]
    unfold kvT
    rw [List.map_append]
    rfl
  rw [e]
  have kp : Kp K H (upd H ta (.dT (kvT (ts ++ [(k, as, s)])))) := put_kp h.gT
  refine ⟨put_row h.row h.gT, h.sto.put h.apT h.gT, put_ap h.sto h.gT h.apF, put_ap h.sto h.gT h.apT, by rw [upd_ne h.ne]; exact h.gF, upd_same, fun e he => ⟨(h.hF e he).1, (h.hF e he).2.1.kp kp, (h.hF e he).2.2⟩, fun e he => ?_, h.ne⟩
  rcases List.mem_append.mp he with q | q
  · exact ⟨(h.hT e q).1, kp _ _ (h.hT e q).2.1, (h.hT e q).2.2⟩
  · rw [List.mem_singleton.mp q]
    exact ⟨ok, kp _ _ hs, l1, l2⟩
end
end Half

namespace Half
open PySem PySem.Spec PyProof.Rows L2
/-- all but dicts and the row stands -/
def Fw (H H' : Hp) : Prop := ∀ b o, H b = some o → (∀ kv, o ≠ .dT kv) → (∀ x y z w, o ≠ .lst [.ref x, .int y, .int z, .int w]) → H' b = some o
theorem Fw.same {H H' : Hp} (s : Same H H') : Fw H H' := fun b o q _ _ => s b o q
theorem Fw.trans {H H' H'' : Hp} (f : Fw H H') (g : Fw H' H'') : Fw H H'' := fun b o q n m => g b o (f b o q n m) n m
theorem Fw.dr {K : PySem.W.Frag} {r a : Addr} {H H' : Hp} (R : Row K H r a) (d : Dr r a H H') : Fw H H' := fun b o q _ n => by
  obtain ⟨ns, i, g, l', h1, -⟩ := R
  exact d.sb _ _ (fun z => by rw [z, h1] at q; cases q; exact n _ _ _ _ rfl) q
theorem Fw.put {H : Hp} {d : Addr} {kv kv' : List (List Key × V)} (g : H d = some (.dT kv)) : Fw H (upd H d (.dT kv')) := fun b o q n _ => put_keep g q n
theorem cut_one (xs : List V) : cutV xs (some 1) none = xs.drop 1 := by
  cases xs with
  | nil => rfl
  | cons x xs =>
    unfold cutV HT.sIx
    simp
    try omega
theorem thr_le31 : 3 ≤ sizeLine := by decide
def WD6 : List Str := PN4 ++ (["zzz", "aa"] : List Str)
theorem wd6_ok : ∀ x ∈ WD6, PyData.strOk x = true ∧ x.length ≤ 1000 := by decide +kernel
theorem strs_eqv : ∀ a b : List Str, PyData.eqvAll (a.map PyData.str) (b.map PyData.str) = decide (a = b)
  | [], [] => by simp [PyData.eqvAll]
  | [], _ :: _ => by simp [PyData.eqvAll]
  | _ :: _, [] => by simp [PyData.eqvAll]
  | x :: a, y :: b => by
    simp only [List.map_cons, PyData.eqvAll, PyData.eqv]
    rw [strs_eqv a b]
    by_cases h : x = y <;> by_cases h' : a = b <;> simp [h, h']
theorem tup_eqv (a b : List Str) : PyData.eqv (.tuple (a.map PyData.str)) (.tuple (b.map PyData.str)) = decide (a = b) := by
  rw [← strs_eqv]
  simp [PyData.eqv]
theorem dp_words {K : PySem.W.Frag} {H : Hp} : ∀ l : List Str, DpAll K H (l.map V.str) (l.map PyData.str)
  | [] => .nil
  | x :: l => .cons (.str x) (dp_words l)
theorem lay_words : ∀ {l : List Str}, (∀ x ∈ l, PyData.strOk x = true) → PyData.canLayAll0 (l.map PyData.str) = true ∧ PyData.depthAll (l.map PyData.str) ≤ 1
  | [], _ => ⟨by simp [PyData.canLayAll0], by simp [PyData.depthAll]⟩
  | x :: l, h => by
    obtain ⟨a, b⟩ := lay_words fun e he => h e (List.mem_cons_of_mem _ he)
    have c := h x (List.mem_cons_self ..)
    refine ⟨by simp [PyData.canLayAll0, PyData.canLay0, a, c], ?_⟩
    simp only [List.map_cons, PyData.depthAll, PyData.depth]
    omega
theorem tup_lay {l : List Str} (h : ∀ x ∈ l, PyData.strOk x = true) : SeqAt.shaped (.tuple (l.map PyData.str)) = true := by
  obtain ⟨a, b⟩ := lay_words h
  unfold SeqAt.shaped
  rw [Bool.and_eq_true]
  refine ⟨by simp only [PyData.canLay0]; exact a, decide_eq_true ?_⟩
  simp only [PyData.depth]
  omega
/-- a key more in a list of keys -/
theorem more_keys {H : Hp} {p q : Addr} {qs : List Addr} {ks : List Kk} {k : Kk} {c : Bool} (g : H p = some (.lst (qs.map V.ref ++ (List.replicate (if c = true then 1 else 0 : Int).toNat [V.ref q]).flatten))) (hp : Paired (KeyAt H) qs ks) (hk : KeyAt H q k) : ListK H p (ks ++ if c = true then [k] else []) := by
  cases c with
  | true => exact ⟨qs ++ [q], by rw [g, List.map_append]; rfl, paired_two hp (.cons hk .nil)⟩
  | false => exact ⟨qs, by rw [g]; simp, by rw [if_neg (by decide), List.append_nil]; exact hp⟩
section
variable {P : Program} {w : World} {K : PySem.W.Frag} {mg : Str → Option Value} {base : Heap} {C CT CY CN CL : Addr}
def ifBody (s : Stmt) : List Stmt := match s with
  | .If _ b _ _ => b
  | _ => []
theorem law_bad {f : Addr} {cdv : Value} {A : Around} {outer : List Env} {sh : Shared} {H0 : Hp} {E : XK} (L : LawAll P w K mg base C CT CY CN CL)
    (hr : Room 8 (A.deeper (envOfC "law" (defScope sLaw) sh.heap.objs.size f cdv))) (nd : LawN.Nodup) :
    ∃ t, PSs (cxOf CX0 P w K mg base LawN "law" (defScope sLaw) f cdv A outer sh H0 E).nox ((ifBody (nth kBody 6)).drop 2) t ∧ ∀ (D' : Ends) (H : Hp) (r a st fa ta lb kq D as : Addr) (es : Eds) (fs : Fls) (ts : Tks) (s : List Str) (key : Kk) (ns : List Str) (x0 x2 x6 x9 x10 x12 x15 x16 x17 x18 : Option V),
      Lo K CT r a st fa ta es fs (ts ++ [(key, as, s)]) H → ListK H lb ((ts.filter (badT (keysOf es))).map (·.1)) → KeyAt H kq key → key.1 ∈ PN4 → key ∉ ts.map (·.1) → (ts.map (·.1)).Nodup → ts.length ≤ 50 → ns ∈ sub3 → (∀ x, x ∈ ns ↔ x ∈ (keysOf es).map (·.1)) → H D = some (.lst ((othW ns key.1).map V.str)) →
      (s = othW ns key.1 ∨ s ∈ ([[key.1], ["zzz"], (othW ns key.1).drop 1 ++ (["aa"] : List Str)] : List (List Str))) → (∀ z ∈ s, z ∈ WD6) →
      (∀ H' lb' x16, Lo K CT r a st fa ta es fs (ts ++ [(key, as, s)]) H' → ListK H' lb' (((ts ++ [(key, as, s)]).filter (badT (keysOf es))).map (·.1)) → Fw H H' →
        D'.nx [x0, some (.ref r), x2, some (.ref st), some (.ref fa), some (.ref ta), x6, some (.ref lb'), some (.ref kq), x9, x10, none, x12, some (.ref D), none, x15, x16, x17, x18] H') →
      t D' [x0, some (.ref r), x2, some (.ref st), some (.ref fa), some (.ref ta), x6, some (.ref lb), some (.ref kq), x9, x10, none, x12, some (.ref D), none, x15, x16, x17, x18] H := by
  have r1 : Room 1 _ := hr.mono (by decide)
  have hu := hr.units
  have hu1 := hu_of hr
  refine ⟨_, pss_cons (ps_set (i := 16) nd rfl (by first | exact Or.inl rfl | exact Or.inr rfl) (pe_or (pe_cmpR (op_neD hu) (pe_dget hu1 (pv 5) (pv 8) (fun _ _ => rfl)) (pe_callTy call_tuple_of (by rfl) L.gT (by decide +kernel) (pa_cons (pv 13) pa_nil)) (nomark _)) (pe_one (pe_cmpR (op_notinS L.has r1) (pv 8) (pv 3) (by rfl)))))
        (pss_one (ps_set (i := 7) nd rfl (by first | exact Or.inl rfl | exact Or.inr rfl) (pe_op op_cat (pv 7) (pe_op op_rep (pe_lst (pa_cons (pv 8) pa_nil)) (pe_callTy call_int1 (by rfl) L.gI (by decide +kernel) (pa_cons (pv 16) pa_nil)))))), ?_⟩
  intro D' H r a st fa ta lb kq D as es fs ts s key ns x0 x2 x6 x9 x10 x12 x15 x16 x17 x18 h hb hk kn new ndT few nsub mem gD hs ws k
  have hme := h.hT (key, as, s) (List.mem_append.mpr (.inr (.head _)))
  obtain ⟨-, hasT, l100, -⟩ := hme
  have hv : valV (kvT (ts ++ [(key, as, s)])) (keyL key) = some (.ref as) := by
    have nd2 : ((ts ++ [(key, as, s)]).map (·.1)).Nodup := by
      rw [List.map_append]
      exact List.nodup_append.mpr ⟨ndT, List.nodup_cons.mpr ⟨fun z => (nomatch z), .nil⟩, fun x hx y hy e => by rw [List.mem_singleton.mp hy] at e; rw [e] at hx; exact new hx⟩
    exact val_nodup (kvT_nodup nd2) (keyL key, .ref as) (by unfold kvT; exact List.mem_map.mpr ⟨_, List.mem_append.mpr (.inr (.head _)), rfl⟩)
  -- are they odd, or the key not in the store?
  have oth := oth_ok ns nsub key.1 kn
  have nsW : ∀ z ∈ othW ns key.1, PyData.strOk z = true := fun z hz => by
    have all : ∀ ns ∈ sub3, ∀ z ∈ ns, PyData.strOk z = true := by decide +kernel
    exact all ns nsub z (oth.2.2.2.2.2 z hz)
  have lo3 : (othW ns key.1).length ≤ 3 := by
    have all : ∀ ns ∈ sub3, ns.length ≤ 3 := by decide +kernel
    exact Nat.le_trans (List.length_filter_le ..) (all ns nsub)
  refine ⟨_, rfl, _, rfl, ta, .ref as, rfl, .inr ⟨kvT (ts ++ [(key, as, s)]), keyL key, kq, .inl h.gT, rfl, hk, hv.symm⟩, ?_⟩
  refine ⟨_, rfl, D, _, rfl, .inl ⟨SqL.of gD, fun tl ntl => ?_⟩⟩
  have s1 := Same.upd_new (o := .tup ((othW ns key.1).map V.str)) ntl
  have gtl : SqT K (upd H tl (.tup ((othW ns key.1).map V.str))) tl ((othW ns key.1).map V.str) := SqT.of upd_same
  generalize upd H tl (.tup ((othW ns key.1).map V.str)) = H1 at s1 gtl ⊢
  refine ⟨_, _, .tup (s1.sqT hasT) (dp_words s), .tup gtl (dp_words _), tup_lay fun z hz => (wd6_ok z (ws z hz)).1, tup_lay nsW, ?_⟩
  rw [tup_eqv]
  have h1 := h.same s1
  have hk1 := s1 _ _ hk
  have at_ : areTakes (keysOf es) s key.1 = decide (s = othW ns key.1) := by
    rcases hs with rfl | ho
    · rw [takes_good nsub kn mem]
      exact (decide_eq_true rfl).symm
    · obtain ⟨a1, a2⟩ := takes_odd nsub kn mem ho
      rw [a1]
      exact (decide_eq_false a2).symm
  have bad : badT (keysOf es) (key, as, s) = (!has (keysOf es) key || !decide (s = othW ns key.1)) := by
    show (!has (keysOf es) key || !areTakes (keysOf es) s key.1) = _
    rw [at_]
  have fil : ((ts ++ [(key, as, s)]).filter (badT (keysOf es))).map (·.1) = (ts.filter (badT (keysOf es))).map (·.1) ++ if badT (keysOf es) (key, as, s) = true then [key] else [] := by
    rw [List.filter_append, List.map_append]
    congr 1
    unfold List.filter
    cases badT (keysOf es) (key, as, s) <;> rfl
  -- the list of the bad ones
  have rest : ∀ (c : Bool) (H2 : Hp), Same H1 H2 → badT (keysOf es) (key, as, s) = c → ∀ Q : V → Hp → Prop, (∀ p H', Same H1 H' → ListK H' p (((ts ++ [(key, as, s)]).filter (badT (keysOf es))).map (·.1)) → Q (.ref p) H') →
      tOp rCat (tVar 7) (tOp rRep (tLst (tCons (tVar 8) tNil)) (tCB (fun xs H Q => (∃ i, xs = [.int i] ∧ Q (.int i) H) ∨ ∃ k, xs = [.bl k] ∧ Q (.int (if k then 1 else 0)) H) (tCons (tVar 16) tNil))) [x0, some (.ref r), x2, some (.ref st), some (.ref fa), some (.ref ta), x6, some (.ref lb), some (.ref kq), x9, x10, none, x12, some (.ref D), none, x15, some (.bl c), x17, x18] H2 Q := by
    intro c H2 s2 ec Q kQ
    obtain ⟨qs, gq, pq⟩ := (hb.same s1).same s2
    have lq := Paired.length pq
    have lq2 : qs.length ≤ 50 := by
      rw [lq, List.length_map]
      exact Nat.le_trans (List.length_filter_le ..) few
    refine ⟨_, rfl, _, rfl, (by decide : 1 ≤ sizeLine), fun p1 n1 => ?_⟩
    have s3 := Same.upd_new (o := .lst [V.ref kq]) n1
    refine ⟨_, rfl, .inr ⟨c, rfl, ?_⟩⟩
    refine ⟨p1, _, _, rfl, rfl, upd_same, by cases c <;> decide, by cases c <;> decide, by rw [sizeLine_eq]; cases c <;> simp, fun p2 n2 => ?_⟩
    have s4 := Same.upd_new (o := .lst (List.replicate (if c = true then 1 else 0 : Int).toNat [V.ref kq]).flatten) n2
    refine ⟨lb, p2, _, _, rfl, rfl, s4 _ _ (s3 _ _ gq), upd_same, by rw [List.length_map, sizeLine_eq]; cases c <;> simp <;> omega, fun p3 n3 => ?_⟩
    have s5 := Same.upd_new (o := .lst (qs.map V.ref ++ (List.replicate (if c = true then 1 else 0 : Int).toNat [V.ref kq]).flatten)) n3
    have S5 := s3.trans (s4.trans s5)
    refine kQ p3 _ (s2.trans S5) ?_
    rw [fil, ec]
    exact more_keys upd_same (paired_imp (fun q k h => S5 _ _ h) pq) (S5 _ _ (s2 _ _ hk1))
  have lo : ∀ {H'}, Same H1 H' → Lo K CT r a st fa ta es fs (ts ++ [(key, as, s)]) H' := fun s2 => h1.same s2
  refine ⟨_, rfl, ?_⟩
  cases c1 : decide (s = othW ns key.1) with
  | false =>
    rw [c1, Bool.not_false, Bool.or_true] at bad
    refine iteT ?_
    refine rest true H1 (fun _ _ q => q) bad _ fun p H' s2 hl => ?_
    exact k H' p _ (lo s2) hl (Fw.same (s1.trans s2))
  | true =>
    rw [c1, Bool.not_true, Bool.or_false] at bad
    refine iteF ?_
    refine ⟨_, rfl, _, rfl, inS_read h1.sto hk1 ?_⟩
    refine rest _ H1 (fun _ _ q => q) bad _ fun p H' s2 hl => ?_
    exact k H' p _ (lo s2) hl (Fw.same (s1.trans s2))
theorem law_takes {f : Addr} {cdv : Value} {A : Around} {outer : List Env} {sh : Shared} {H0 : Hp} {E : XK} (L : LawAll P w K mg base C CT CY CN CL)
    (hr : Room 8 (A.deeper (envOfC "law" (defScope sLaw) sh.heap.objs.size f cdv))) (nd : LawN.Nodup) :
    ∃ t, PSs (cxOf CX0 P w K mg base LawN "law" (defScope sLaw) f cdv A outer sh H0 E).nox (ifBody (nth kBody 6)) t ∧ ∀ (D' : Ends) (H : Hp) (r a st fa ta lb kq D : Addr) (es : Eds) (fs : Fls) (ts : Tks) (key : Kk) (ns : List Str) (x0 x2 x6 x9 x10 x12 x15 x16 x17 x18 : Option V),
      Lo K CT r a st fa ta es fs ts H → ListK H lb ((ts.filter (badT (keysOf es))).map (·.1)) → KeyAt H kq key → key.1 ∈ PN4 → OkK key → key ∉ ts.map (·.1) → (ts.map (·.1)).Nodup → ts.length ≤ 50 → ns ∈ sub3 → (∀ x, x ∈ ns ↔ x ∈ (keysOf es).map (·.1)) → H D = some (.lst ((othW ns key.1).map V.str)) →
      (∀ H' lb' ts' x15 x16, Lo K CT r a st fa ta es fs ts' H' → ListK H' lb' ((ts'.filter (badT (keysOf es))).map (·.1)) → Fw H H' → (ts' = ts ∨ ∃ as s, ts' = ts ++ [(key, as, s)]) →
        D'.nx [x0, some (.ref r), x2, some (.ref st), some (.ref fa), some (.ref ta), x6, some (.ref lb'), some (.ref kq), x9, x10, none, x12, some (.ref D), none, x15, x16, x17, x18] H') →
      t D' [x0, some (.ref r), x2, some (.ref st), some (.ref fa), some (.ref ta), x6, some (.ref lb), some (.ref kq), x9, x10, none, x12, some (.ref D), none, x15, x16, x17, x18] H := by
  have r1 : Room 1 _ := hr.mono (by decide)
  have hu := hr.units
  have hu1 := hu_of hr
  obtain ⟨tB, hB, rdB⟩ := law_bad (f := f) (cdv := cdv) (A := A) (outer := outer) (sh := sh) (H0 := H0) (E := E) L hr nd
  refine ⟨_, pss_cons (ps_set (i := 15) nd rfl (by first | exact Or.inl rfl | exact Or.inr rfl) (pe_ix ix_list (pe_lst (pa_cons (pe_tup (pa_cons (pe_ix ix_tup (pv 8) pe_int (fun _ _ => rfl)) pa_nil)) (pa_cons (pe_tup (pa_cons pe_str pa_nil)) (pa_cons (pe_op op_catQ31 (pe_callTy call_tuple_of (by rfl) L.gT (by decide +kernel) (pa_cons (pe_slice sl_list (pv 13) (po_some pe_int) po_none) pa_nil)) (pe_tup (pa_cons pe_str pa_nil))) pa_nil)))) (pe_def L.dT r1 rfl (pa_cons (pv 1) (pa_cons pe_int pa_nil))) (fun _ _ => rfl)))
        (pss_cons (ps_dput hu1 (pv 5) (pv 8) (pe_ifExp (pt_cmpR op_eq (pe_def L.dT r1 rfl (pa_cons (pv 1) (pa_cons pe_int pa_nil))) pe_int (nomark _)) (pe_callTy call_tuple_of (by rfl) L.gT (by decide +kernel) (pa_cons (pv 13) pa_nil)) (pv 15)) rfl)
        hB), ?_⟩
  intro D' H r a st fa ta lb kq D es fs ts key ns x0 x2 x6 x9 x10 x12 x15 x16 x17 x18 h hb hk kn ok new ndT few nsub mem gD k
  have lo3 : (othW ns key.1).length ≤ 3 := by
    have all : ∀ ns ∈ sub3, ns.length ≤ 3 := by decide +kernel
    exact Nat.le_trans (List.length_filter_le ..) (all ns nsub)
  -- the odd ones
  refine ⟨_, rfl, kq, _, 0, _, rfl, rfl, SqT.of hk, rfl, (by decide : 1 ≤ sizeLine), fun p0 n0 => ?_⟩
  have s0 := Same.upd_new (o := .tup [.str key.1]) n0
  have g0 : SqT K (upd H p0 (.tup [.str key.1])) p0 (([key.1] : List Str).map V.str) := SqT.of upd_same
  generalize upd H p0 (.tup [.str key.1]) = H1 at s0 g0 ⊢
  refine ⟨(by decide : 1 ≤ sizeLine), fun p1 n1 => ?_⟩
  have s1 := Same.upd_new (o := .tup [.str "zzz"]) n1
  have g1 : SqT K (upd H1 p1 (.tup [.str "zzz"])) p1 ((["zzz"] : List Str).map V.str) := SqT.of upd_same
  have g01 := s1.sqT g0
  have S1 := s0.trans s1
  generalize upd H1 p1 (.tup [.str "zzz"]) = H2 at S1 g1 g01 ⊢
  refine ⟨_, rfl, 1, rfl, D, _, rfl, SqL.of (S1 _ _ gD), fun p2 n2 => ?_⟩
  rw [cut_one, ← List.map_drop]
  have s2 := Same.upd_new (o := .lst (((othW ns key.1).drop 1).map V.str)) n2
  have g2 : upd H2 p2 (.lst (((othW ns key.1).drop 1).map V.str)) p2 = some (.lst (((othW ns key.1).drop 1).map V.str)) := upd_same
  generalize upd H2 p2 (.lst (((othW ns key.1).drop 1).map V.str)) = H3 at s2 g2 ⊢
  refine ⟨p2, _, rfl, .inl ⟨SqL.of g2, fun p3 n3 => ?_⟩⟩
  have s3 := Same.upd_new (o := .tup (((othW ns key.1).drop 1).map V.str)) n3
  have g3 : SqT K (upd H3 p3 (.tup (((othW ns key.1).drop 1).map V.str))) p3 (((othW ns key.1).drop 1).map V.str) := SqT.of upd_same
  generalize upd H3 p3 (.tup (((othW ns key.1).drop 1).map V.str)) = H4 at s3 g3 ⊢
  refine ⟨(by decide : 1 ≤ sizeLine), fun p4 n4 => ?_⟩
  have s4 := Same.upd_new (o := .tup [.str "aa"]) n4
  have g4 : SqT K (upd H4 p4 (.tup [.str "aa"])) p4 ((["aa"] : List Str).map V.str) := SqT.of upd_same
  have g34 := s4.sqT g3
  have S24 := (s2.trans s3).trans s4
  generalize upd H4 p4 (.tup [.str "aa"]) = H5 at S24 g4 g34 ⊢
  refine ⟨p3, p4, _, _, rfl, rfl, g34, g4, by rw [List.length_map, List.length_map, List.length_drop, sizeLine_eq]; show _ + 1 ≤ _; omega, fun p5 H6 s6 g6 => ?_⟩
  rw [← List.map_append] at g6
  have S26 := S24.trans s6
  refine ⟨thr_le31, fun pl npl => ?_⟩
  have s7 := Same.upd_new (o := .lst [V.ref p0, V.ref p1, V.ref p5]) npl
  have gl : upd H6 pl (.lst [V.ref p0, V.ref p1, V.ref p5]) pl = some (.lst [V.ref p0, V.ref p1, V.ref p5]) := upd_same
  have S7 := S1.trans (S26.trans s7)
  have q0 := (S26.trans s7).sqT g01
  have q1 := (S26.trans s7).sqT g1
  have q2 := s7.sqT g6
  generalize upd H6 pl (.lst [V.ref p0, V.ref p1, V.ref p5]) = H7 at gl S7 q0 q1 q2 ⊢
  have h7 := h.same S7
  have hb7 := hb.same S7
  have hk7 := S7 _ _ hk
  have gD7 := S7 _ _ gD
  refine ⟨_, rfl, r, 3, a, rfl, h7.row, by decide, by decide, fun v0 o0 v0l v0u R8 => ?_⟩
  have d8 := Dr.draw R8
  have nlr : pl ≠ r := by
    rintro rfl
    obtain ⟨ns', i, g, l', h1, -⟩ := h7.row
    rw [gl] at h1
    cases h1
  have nDr : ∀ {H' : Hp}, Row K H' r a → H' D = some (.lst ((othW ns key.1).map V.str)) → D ≠ r := by
    rintro H' R g rfl
    obtain ⟨ns', i, gg, l', h1, -⟩ := R
    rw [g] at h1
    cases ho : othW ns key.1 with
    | nil => rw [ho] at h1; cases h1
    | cons _ _ => rw [ho] at h1; cases h1
  have h8 := h7.dr d8
  have hb8 := hb7.dr h7.row d8
  have hk8 := key_mv h7.row d8 hk7
  have f8 := (Fw.same S7).trans (Fw.dr h7.row d8)
  have gD8 := d8.sb _ _ (nDr h7.row gD7) gD7
  have gl8 := d8.sb _ _ nlr gl
  have kp8 := d8.kp h7.row
  obtain ⟨po, so, hat, gpo, ho, hw⟩ : ∃ (po : Addr) (so : List Str), atI [V.ref p0, V.ref p1, V.ref p5] v0 = some (V.ref po) ∧ SqT K (upd H7 r o0) po (so.map V.str) ∧ so ∈ ([[key.1], ["zzz"], (othW ns key.1).drop 1 ++ (["aa"] : List Str)] : List (List Str)) ∧ ∀ z ∈ so, z ∈ WD6 := by
    have nW : ∀ z ∈ othW ns key.1, z ∈ WD6 := fun z hz => by
      have all : ∀ ns ∈ sub3, ∀ z ∈ ns, z ∈ WD6 := by decide +kernel
      exact all ns nsub z ((oth_ok ns nsub key.1 kn).2.2.2.2.2 z hz)
    have c : v0 = 0 ∨ v0 = 1 ∨ v0 = 2 := by omega
    rcases c with rfl | rfl | rfl
    · exact ⟨p0, _, rfl, kp8 _ _ q0, .head _, fun z hz => by rw [List.mem_singleton.mp hz]; exact List.mem_append.mpr (.inl kn)⟩
    · exact ⟨p1, _, rfl, kp8 _ _ q1, .tail _ (.head _), fun z hz => by rw [List.mem_singleton.mp hz]; decide +kernel⟩
    · refine ⟨p5, _, rfl, kp8 _ _ q2, .tail _ (.tail _ (.head _)), fun z hz => ?_⟩
      rcases List.mem_append.mp hz with q | q
      · exact nW z (List.mem_of_mem_drop q)
      · rw [List.mem_singleton.mp q]; decide +kernel
  refine ⟨pl, _, v0, _, rfl, rfl, SqL.of gl8, hat, ?_⟩
  generalize upd H7 r o0 = H8 at h8 hb8 hk8 f8 gD8 gpo ⊢
  -- the tuple that is put
  have put : ∀ (H9 : Hp) (as : Addr) (s : List Str), Lo K CT r a st fa ta es fs ts H9 → ListK H9 lb ((ts.filter (badT (keysOf es))).map (·.1)) → KeyAt H9 kq key → Fw H H9 → H9 D = some (.lst ((othW ns key.1).map V.str)) → SqT K H9 as (s.map V.str) → (s = othW ns key.1 ∨ s ∈ ([[key.1], ["zzz"], (othW ns key.1).drop 1 ++ (["aa"] : List Str)] : List (List Str))) → (∀ z ∈ s, z ∈ WD6) →
      tB D' [x0, some (.ref r), x2, some (.ref st), some (.ref fa), some (.ref ta), x6, some (.ref lb), some (.ref kq), x9, x10, none, x12, some (.ref D), none, some (.ref po), x16, x17, x18] (upd H9 ta (.dT (putK (kvT ts) (keyL key) (.ref as)))) := by
    intro H9 as s h9 hb9 hk9 f9 gD9 gs hs ws
    have l100 : s.length ≤ 100 := by
      rcases hs with rfl | q
      · omega
      · rcases List.mem_cons.mp q with rfl | q
        · show 1 ≤ 100; decide
        · rcases List.mem_cons.mp q with rfl | q
          · show 1 ≤ 100; decide
          · rw [List.mem_singleton.mp q, List.length_append, List.length_drop]
            show _ + 1 ≤ 100
            omega
    have fp := Fw.put (kv' := putK (kvT ts) (keyL key) (.ref as)) h9.gT
    refine rdB _ _ r a st fa ta lb kq D as es fs ts s key ns _ _ _ _ _ _ _ _ _ _ (h9.putT new ok gs l100 fun z hz => (wd6_ok z (ws z hz)).2) (hb9.mv fp) (put_keep h9.gT hk9 (by intro _ z; cases z)) kn new ndT few nsub mem (put_keep h9.gT gD9 (by intro _ z; cases z)) hs ws fun H' lb' y16 a1 a2 a3 => ?_
    exact k H' lb' _ _ _ a1 a2 ((f9.trans fp).trans a3) (.inr ⟨as, s, rfl⟩)
  have lenT : (kvT ts).length < sizeLine := by unfold kvT; rw [List.length_map, sizeLine_eq]; omega
  refine ⟨_, rfl, r, 2, a, rfl, h8.row, by decide, by decide, fun v1 o1 v1l v1u R9 => ?_⟩
  have d9 := Dr.draw R9
  have h9 := h8.dr d9
  have hb9 := hb8.dr h8.row d9
  have hk9 := key_mv h8.row d9 hk8
  have f9 := f8.trans (Fw.dr h8.row d9)
  have gD9 := d9.sb _ _ (nDr h8.row gD8) gD8
  have gpo9 := d9.kp h8.row _ _ gpo
  generalize upd H8 r o1 = H9 at h9 hb9 hk9 f9 gD9 gpo9 ⊢
  refine ⟨rfl, _, rfl, ?_⟩
  cases c1 : decide (V.int v1 = V.int 0) with
  | true =>
    refine iteT ?_
    refine ⟨_, rfl, D, _, rfl, .inl ⟨SqL.of gD9, fun tl ntl => ?_⟩⟩
    have s10 := Same.upd_new (o := .tup ((othW ns key.1).map V.str)) ntl
    have h10 := h9.same s10
    have hk10 := s10 _ _ hk9
    refine ⟨_, rfl, _, rfl, ta, _, rfl, DPut.t (k := keyL key) h10.gT hk10 lenT, ?_⟩
    refine put _ tl _ h10 (hb9.same s10) hk10 (f9.trans (Fw.same s10)) (s10 _ _ gD9) (SqT.of upd_same) (.inl rfl) fun z hz => ?_
    have all : ∀ ns ∈ sub3, ∀ z ∈ ns, z ∈ WD6 := by decide +kernel
    exact all ns nsub z ((oth_ok ns nsub key.1 kn).2.2.2.2.2 z hz)
  | false =>
    refine iteF ?_
    refine ⟨_, rfl, _, rfl, _, rfl, ta, _, rfl, DPut.t (k := keyL key) h9.gT hk9 lenT, ?_⟩
    exact put _ po so h9 hb9 hk9 f9 gD9 gpo9 (.inr ho) hw
theorem law_keyC {f : Addr} {cdv : Value} {A : Around} {outer : List Env} {sh : Shared} {H0 : Hp} {E : XK} (L : LawAll P w K mg base C CT CY CN CL)
    (hr : Room 8 (A.deeper (envOfC "law" (defScope sLaw) sh.heap.objs.size f cdv))) (nd : LawN.Nodup) :
    ∃ t, PSs (cxOf CX0 P w K mg base LawN "law" (defScope sLaw) f cdv A outer sh H0 E).nox (kBody.drop 5) t ∧ ∀ (D' : Ends) (H : Hp) (r a st fa ta lb kq : Addr) (es : Eds) (fs : Fls) (ts : Tks) (key : Kk) (x0 x2 x6 x9 x10 x12 x13 x15 x16 x17 x18 : Option V),
      Lo K CT r a st fa ta es fs ts H → ListK H lb ((ts.filter (badT (keysOf es))).map (·.1)) → KeyAt H kq key → key.1 ∈ PN4 → OkK key → key ∉ ts.map (·.1) → (ts.map (·.1)).Nodup → ts.length ≤ 50 → (∀ k ∈ keysOf es, k.1 ∈ PN3) →
      (∀ H' lb' ts' x13 x15 x16, Lo K CT r a st fa ta es fs ts' H' → ListK H' lb' ((ts'.filter (badT (keysOf es))).map (·.1)) → Fw H H' → (ts' = ts ∨ ∃ as s, ts' = ts ++ [(key, as, s)]) →
        D'.nx [x0, some (.ref r), x2, some (.ref st), some (.ref fa), some (.ref ta), x6, some (.ref lb'), some (.ref kq), x9, x10, none, x12, x13, none, x15, x16, x17, x18] H') →
      t D' [x0, some (.ref r), x2, some (.ref st), some (.ref fa), some (.ref ta), x6, some (.ref lb), some (.ref kq), x9, x10, none, x12, x13, none, x15, x16, x17, x18] H := by
  have r1 : Room 1 _ := hr.mono (by decide)
  have r2 : Room 2 _ := hr.mono (by decide)
  have hu := hr.units
  have hu1 := hu_of hr
  obtain ⟨tT, hT, rdT⟩ := law_takes (f := f) (cdv := cdv) (A := A) (outer := outer) (sh := sh) (H0 := H0) (E := E) L hr nd
  refine ⟨_, pss_cons (ps_setLc (i := 13) (own := [("_law_name", 14)]) (g := gName 14) (tt := tTest (tOp rNe (tVar 14) (tOp (rIxT K) (tVar 8) (tC (.int 0))))) (te := tVar 14) rfl nd rfl rfl (sw_true rfl rfl rfl (by decide +kernel)) (pi_tup (pe_nam L.nam r2 (pv 3))) (blkOk_by (N := LawN) (sc := defScope sLaw) (by decide +kernel))
        (fun _ _ _ _ _ => pg_name (i := 14) nd rfl (Or.inl rfl)) (fun _ _ _ _ _ => pts_one (pt_cmpR op_ne (pv 14) (pe_ix ix_tup (pv 8) pe_int (fun _ _ => rfl)) (nomark _))) (fun _ _ _ _ _ => pv 14))
    (pss_one (ps_if (PW.pt (pw_and (pt_cmpR op_eq (pe_def L.dT r1 rfl (pa_cons (pv 1) (pa_cons pe_int pa_nil))) pe_int (nomark _)) (pw_and1 (PW.pt (pw_or (pt_cmpR (op_inS L.has r1) (pv 8) (pv 3) (by rfl)) (pw_or1 (pt_cmpR op_eq (pe_def L.dT r1 rfl (pa_cons (pv 1) (pa_cons pe_int pa_nil))) pe_int (nomark _))))))))
        hT pss_nil)), ?_⟩
  intro D' H r a st fa ta lb kq es fs ts key x0 x2 x6 x9 x10 x12 x13 x15 x16 x17 x18 h hb hk kn ok new ndT few pn k
  have knV : SqT K H kq [.str key.1, .int key.2] := SqT.of hk
  obtain ⟨⟨dy, tb, nb, hst, -⟩, -⟩ := id h.sto
  refine ⟨_, rfl, st, dy, _, rfl, hst, st, es, rfl, h.sto, fun ys nt pm asc nnt => ?_⟩
  have isn := isNm_of pm asc
  have s1 := Same.upd_new (o := .tup ((dset (ys.map (·.1))).map V.str)) nnt
  have gn : SqT K (upd H nt (.tup ((dset (ys.map (·.1))).map V.str))) nt ((dset (ys.map (·.1))).map V.str) := SqT.of upd_same
  generalize upd H nt (.tup ((dset (ys.map (·.1))).map V.str)) = H1 at s1 gn ⊢
  generalize dset (ys.map (·.1)) = ns at isn gn
  have nsP : ∀ x ∈ ns, x ∈ PN3 := fun x hx => by
    obtain ⟨q, hq, rfl⟩ := List.mem_map.mp ((isn.mem x).mp hx)
    exact pn q hq
  have nsub := sub3_of nsP isn.nd isn.asc
  have nlen : ns.length ≤ 3 := len_sub isn.nd nsP
  refine ⟨nt, rfl, ⟨_, gn⟩, fun D hD => ?_⟩
  refine lc_it (walk_tup (xs := ns.map V.str)) (fun i H' => Same H1 H' ∧ H' D = some (.lst ((othW (ns.take i) key.1).map V.str))) ⟨Same.upd_new hD, upd_same⟩ (fun _ _ _ p => p.1.sqT gn) ?_ ?_
  · rintro i v H4 H5 hi ⟨s4, g4⟩ ⟨rfl, hv⟩
    obtain ⟨n, hn, rfl⟩ := getE hv
    refine ⟨rfl, ?_⟩
    refine ⟨_, rfl, _, rfl, kq, _, 0, _, rfl, rfl, (s1.trans s4).sqT knV, rfl, rfl, _, rfl, ?_⟩
    have tk : othW (ns.take (i + 1)) key.1 = othW (ns.take i) key.1 ++ (if (!decide (V.str n = V.str key.1)) = true then [n] else []) := by
      rw [take_next hn]
      unfold othW
      rw [List.filter_append]
      congr 1
      show (List.filter (fun n => !decide (V.str n = V.str key.1)) [n]) = _
      unfold List.filter
      cases (!decide (V.str n = V.str key.1)) <;> rfl
    rw [tk]
    by_cases c : (!decide (V.str n = V.str key.1)) = true
    · rw [if_pos c]
      refine ite_yes c ?_
      have l4 : (othW (ns.take i) key.1).length ≤ 3 := Nat.le_trans (List.length_filter_le ..) (by rw [List.length_take]; omega)
      refine ⟨_, rfl, _, g4, by rw [List.length_map, sizeLine_eq]; omega, fun b o q => ?_, ?_⟩
      · rw [upd_ne (ne_of_none q hD)]
        exact s4 _ _ q
      · rw [upd_same, List.map_append]
        rfl
    · rw [if_neg c, List.append_nil]
      exact ite_no (by simpa using c) ⟨s4, g4⟩
  rintro H4 ⟨s4, g4⟩
  rw [List.length_map, List.take_length] at g4
  have S4 := s1.trans s4
  have h4 := h.same S4
  have hb4 := hb.same S4
  have hk4 := S4 _ _ hk
  have nDr : D ≠ r := (h.row.same' s1).ne hD
  refine ⟨_, rfl, r, 3, a, rfl, h4.row, by decide, by decide, fun v0 o0 v0l v0u R5 => ?_⟩
  have d5 := Dr.draw R5
  have h5 := h4.dr d5
  have hb5 := hb4.dr h4.row d5
  have hk5 := key_mv h4.row d5 hk4
  have f5 := (Fw.same S4).trans (Fw.dr h4.row d5)
  have g5 : upd H4 r o0 D = some (.lst ((othW ns key.1).map V.str)) := by rw [upd_ne nDr]; exact g4
  generalize upd H4 r o0 = H5 at R5 d5 h5 hb5 hk5 f5 g5 ⊢
  refine ⟨rfl, _, rfl, ?_⟩
  cases c0 : decide (V.int v0 = V.int 0) with
  | false =>
    refine iteF ?_
    refine iteF ?_
    exact k H5 lb ts _ _ _ h5 hb5 f5 (.inl rfl)
  | true =>
  refine iteT ?_
  -- is the key in the store, or drawn all the same?
  refine ⟨_, rfl, _, rfl, inS_read h5.sto hk5 ?_⟩
  refine ⟨_, rfl, ?_⟩
  cases hc : has (keysOf es) key with
  | true =>
    refine iteT ?_
    refine iteT ?_
    exact rdT _ _ r a st fa ta lb kq D es fs ts key ns _ _ _ _ _ _ _ _ _ _ h5 hb5 hk5 kn ok new ndT few nsub isn.mem g5 fun H' lb' ts' y15 y16 a1 a2 a3 a4 => k H' lb' ts' _ _ _ a1 a2 (f5.trans a3) a4
  | false =>
    refine iteF ?_
    refine ⟨_, rfl, r, 3, a, rfl, h5.row, by decide, by decide, fun v1 o1 v1l v1u R6 => ?_⟩
    have d6 := Dr.draw R6
    have h6 := h5.dr d6
    have hb6 := hb5.dr h5.row d6
    have hk6 := key_mv h5.row d6 hk5
    have f6 := f5.trans (Fw.dr h5.row d6)
    have g6 : upd H5 r o1 D = some (.lst ((othW ns key.1).map V.str)) := by rw [upd_ne nDr]; exact g5
    refine ⟨rfl, _, rfl, ?_⟩
    cases c1 : decide (V.int v1 = V.int 0) with
    | false =>
      refine iteF ?_
      exact k _ lb ts _ _ _ h6 hb6 f6 (.inl rfl)
    | true =>
      refine iteT ?_
      exact rdT _ _ r a st fa ta lb kq D es fs ts key ns _ _ _ _ _ _ _ _ _ _ h6 hb6 hk6 kn ok new ndT few nsub isn.mem g6 fun H' lb' ts' y15 y16 a1 a2 a3 a4 => k H' lb' ts' _ _ _ a1 a2 (f6.trans a3) a4
end
end Half

namespace Half
open PySem PySem.Spec PyProof.Rows L2
/-- a list of tuples of pairs -/
def ListF (K : PySem.W.Frag) (H : Hp) (l : Addr) (F : List (List (Str × V))) : Prop := ∃ as : List Addr, H l = some (.lst (as.map V.ref)) ∧ Paired (fun a f => FilesAt K H a f) as F
theorem ListF.fw {K : PySem.W.Frag} {H H' : Hp} {l : Addr} {F : List (List (Str × V))} (f : Fw H H') (kp : Kp K H H') (h : ListF K H l F) : ListF K H' l F := by
  obtain ⟨as, g, p⟩ := h
  refine ⟨as, f _ _ g (by intro _ z; cases z) (fun x y z w e => ?_), paired_imp (fun a f h => h.kp kp) p⟩
  injection e with e
  match as, e with
  | [], e => cases e
  | [_], e => cases e
  | _ :: _ :: _, e =>
    injection e with _ e
    injection e with e _
    cases e
theorem ListF.at_ {K : PySem.W.Frag} {H : Hp} {l : Addr} {F : List (List (Str × V))} (h : ListF K H l F) {v : Int} (v0 : 0 ≤ v) (v1 : v < F.length) : ∃ as a f, H l = some (.lst (List.map V.ref as)) ∧ atI (as.map V.ref) v = some (.ref a) ∧ f ∈ F ∧ FilesAt K H a f := by
  obtain ⟨as, g, p⟩ := h
  obtain ⟨i, rfl⟩ : ∃ i : Nat, v = (i : Int) := ⟨v.toNat, by omega⟩
  have ln := Paired.length p
  have hi : i < as.length := by omega
  have ha := List.getElem?_eq_getElem hi
  obtain ⟨f, hf, r⟩ := paired_get p ha
  refine ⟨as, _, f, g, ?_, List.mem_of_getElem? hf, r⟩
  unfold atI ixN
  rw [if_pos (by omega), if_pos (by rw [List.length_map]; omega)]
  show (as.map V.ref)[((i : Nat) : Int).toNat]? = _
  rw [Int.toNat_natCast, List.getElem?_map, ha]
  rfl
def numB : V → Bool
  | .int _ => true
  | .bl _ => true
  | _ => false
theorem numB_ok {v : V} (h : numB v = true) : Numv v := by
  cases v with
  | int n => exact .inl ⟨n, rfl⟩
  | bl b => exact .inr ⟨b, rfl⟩
  | _ => exact absurd h (by simp [numB])
def fineF (f : List (Str × V)) : Bool := decide (f.length ≤ 100) && f.all fun p => decide (p.1.length ≤ 1000) && numB p.2
theorem fineF_ok {f : List (Str × V)} (h : fineF f = true) : f.length ≤ 100 ∧ ∀ p ∈ f, p.1.length ≤ 1000 ∧ Numv p.2 := by
  unfold fineF at h
  obtain ⟨a, b⟩ := Bool.and_eq_true_iff.mp h
  refine ⟨of_decide_eq_true a, fun p hp => ?_⟩
  obtain ⟨c, d⟩ := Bool.and_eq_true_iff.mp (List.all_eq_true.mp b p hp)
  exact ⟨of_decide_eq_true c, numB_ok d⟩
theorem all_fine : (GoodF ++ (SomeF ++ SomeG)).all fineF = true := by decide +kernel
abbrev tCh (K : PySem.W.Frag) (z : Str) : TE := tCB (fun xs H Q => ∃ p ys, xs = [.ref p] ∧ ((SqL K H p ys ∧ ∀ l, H l = none → Q (.ref l) (upd H l (.tup ys))) ∨ (SqT K H p ys ∧ Q (.ref p) H))) (tCons (tLc (iStr (tC (.str z))) (gName 11) tYes (tTup (tCons (tVar 11) (tCons (tC (.int 3)) tNil))) [11]) tNil)
abbrev tP (s : Str) (v : V) : TE := tTup (tCons (tC (.str s)) (tCons (tC v) tNil))
def FsP (K : PySem.W.Frag) (fs : List (List (Str × V))) : V → Hp → Prop := fun v H => ∃ l as, v = .ref l ∧ H l = some (.lst (as.map V.ref)) ∧ Paired (fun a f => FilesAt K H a f) as fs
abbrev tGood (K : PySem.W.Frag) : TE := tLst (tCons (tTup tNil) (tCons (tTup (tCons (tP "bin" (.int 1)) tNil)) (tCons (tTup (tCons (tP "bin" (.int 99)) (tCons (tP "doc" (.int 1)) tNil))) (tCons (tCh K "abcdef") tNil))))
abbrev tSomF : TE := tLst (tCons (tTup (tCons (tP "bin" (.int 0)) tNil)) (tCons (tTup (tCons (tP "bin" (.int 100)) tNil)) (tCons (tTup (tCons (tP "doc" (.int 1)) (tCons (tP "bin" (.int 1)) tNil))) (tCons (tTup (tCons (tP "bin" (.int 1)) (tCons (tP "bin" (.int 2)) tNil))) tNil))))
abbrev tSomG (K : PySem.W.Frag) : TE := tLst (tCons (tTup (tCons (tP "Bin" (.int 1)) tNil)) (tCons (tTup (tCons (tP "" (.int 1)) tNil)) (tCons (tTup (tCons (tP "bin" (.bl true)) tNil)) (tCons (tCh K "abcdefg") tNil))))
theorem gv_good {K : PySem.W.Frag} {σ : L2.St} (h : 11 < σ.length) : Gv (tGood K) σ (FsP K GoodF) :=
  gv_list (K := K) (fs := GoodF) (gvfs_cons (gv_files [] (by decide)) (gvfs_cons (gv_files [("bin", .int 1)] (by decide)) (gvfs_cons (gv_files [("bin", .int 99), ("doc", .int 1)] (by decide)) (gvfs_cons (gv_chars (i := 11) (z := "abcdef") h (by decide +kernel)) gvfs_nil)))) (by decide)
theorem gv_somF {K : PySem.W.Frag} {σ : L2.St} : Gv tSomF σ (FsP K SomeF) :=
  gv_list (K := K) (fs := SomeF) (gvfs_cons (gv_files [("bin", .int 0)] (by decide)) (gvfs_cons (gv_files [("bin", .int 100)] (by decide)) (gvfs_cons (gv_files [("doc", .int 1), ("bin", .int 1)] (by decide)) (gvfs_cons (gv_files [("bin", .int 1), ("bin", .int 2)] (by decide)) gvfs_nil)))) (by decide)
theorem gv_somG {K : PySem.W.Frag} {σ : L2.St} (h : 11 < σ.length) : Gv (tSomG K) σ (FsP K SomeG) :=
  gv_list (K := K) (fs := SomeG) (gvfs_cons (gv_files [("Bin", .int 1)] (by decide)) (gvfs_cons (gv_files [("", .int 1)] (by decide)) (gvfs_cons (gv_files [("bin", .bl true)] (by decide)) (gvfs_cons (gv_chars (i := 11) (z := "abcdefg") h (by decide +kernel)) gvfs_nil)))) (by decide)
theorem seq_read {t u : TS} {D : Ends} {σ : L2.St} {H : Hp} (h : t { D with nx := u D } σ H) : tSeq t u D σ H := h
theorem set_readL {te : TE} {i : Nat} {D : Ends} {σ : L2.St} {H : Hp} (h : te σ H fun x H1 => D.nx (σ.set i (some x)) H1) : tAsg te (gName i) D σ H := h
section
variable {P : Program} {w : World} {K : PySem.W.Frag} {mg : Str → Option Value} {base : Heap} {C CT CY CN CL : Addr}
theorem law_wrong {f : Addr} {cdv : Value} {A : Around} {outer : List Env} {sh : Shared} {H0 : Hp} {E : XK} (L : LawAll P w K mg base C CT CY CN CL)
    (hr : Room 8 (A.deeper (envOfC "law" (defScope sLaw) sh.heap.objs.size f cdv))) (nd : LawN.Nodup) :
    ∃ t, PSs (cxOf CX0 P w K mg base LawN "law" (defScope sLaw) f cdv A outer sh H0 E).nox ((ifBody (nth kBody 4)).drop 1) t ∧ ∀ (D' : Ends) (H : Hp) (r a st fa ta lw kq af : Addr) (es : Eds) (fs : Fls) (ts : Tks) (key : Kk) (fl : List (Str × V)) (pk : Int) (x0 x2 x7 x9 x10 x13 x15 x16 x17 x18 : Option V),
      Lo K CT r a st fa ta es (fs ++ [(key, af, fl)]) ts H → ListK H lw ((fs.filter (badF (keysOf es))).map (·.1)) → KeyAt H kq key → fs.length ≤ 50 → areFiles fl = !decide (V.int pk = V.int 0) →
      (∀ H' lw', Lo K CT r a st fa ta es (fs ++ [(key, af, fl)]) ts H' → ListK H' lw' (((fs ++ [(key, af, fl)]).filter (badF (keysOf es))).map (·.1)) → Fw H H' →
        D'.nx [x0, some (.ref r), x2, some (.ref st), some (.ref fa), some (.ref ta), some (.ref lw'), x7, some (.ref kq), x9, x10, none, some (.int pk), x13, none, x15, x16, x17, x18] H') →
      t D' [x0, some (.ref r), x2, some (.ref st), some (.ref fa), some (.ref ta), some (.ref lw), x7, some (.ref kq), x9, x10, none, some (.int pk), x13, none, x15, x16, x17, x18] H := by
  have r1 : Room 1 _ := hr.mono (by decide)
  have hu := hr.units
  have hu1 := hu_of hr
  refine ⟨_, pss_one (ps_set (i := 6) nd rfl (by first | exact Or.inl rfl | exact Or.inr rfl) (pe_op op_cat (pv 6) (pe_op op_rep (pe_lst (pa_cons (pv 8) pa_nil)) (pe_callTy call_int1 (by rfl) L.gI (by decide +kernel) (pa_cons (pe_or (pe_cmpR op_eq (pv 12) pe_int (nomark _)) (pe_one (pe_cmpR (op_notinS L.has r1) (pv 8) (pv 3) (by rfl)))) pa_nil))))), ?_⟩
  intro D' H r a st fa ta lw kq af es fs ts key fl pk x0 x2 x7 x9 x10 x13 x15 x16 x17 x18 h hb hk few ar k
  have bad : badF (keysOf es) (key, af, fl) = (!has (keysOf es) key || decide (V.int pk = V.int 0)) := by
    show (!has (keysOf es) key || !areFiles fl) = _
    rw [ar, Bool.not_not]
  have fil : ((fs ++ [(key, af, fl)]).filter (badF (keysOf es))).map (·.1) = (fs.filter (badF (keysOf es))).map (·.1) ++ if badF (keysOf es) (key, af, fl) = true then [key] else [] := by
    rw [List.filter_append, List.map_append]
    congr 1
    unfold List.filter
    cases badF (keysOf es) (key, af, fl) <;> rfl
  obtain ⟨qs, gq, pq⟩ := id hb
  have lq := Paired.length pq
  have lq2 : qs.length ≤ 50 := by
    rw [lq, List.length_map]
    exact Nat.le_trans (List.length_filter_le ..) few
  refine ⟨_, rfl, _, rfl, (by decide : 1 ≤ sizeLine), fun p1 n1 => ?_⟩
  have s1 := Same.upd_new (o := .lst [V.ref kq]) n1
  have g1 : upd H p1 (.lst [V.ref kq]) p1 = some (.lst [V.ref kq]) := upd_same
  generalize upd H p1 (.lst [V.ref kq]) = H1 at s1 g1 ⊢
  have rest : ∀ c : Bool, badF (keysOf es) (key, af, fl) = c → ∀ Q : V → Hp → Prop, (∀ p H', Same H1 H' → ListK H' p (((fs ++ [(key, af, fl)]).filter (badF (keysOf es))).map (·.1)) → Q (.ref p) H') →
      rRep (.ref p1) (.int (if c then 1 else 0)) H1 fun y H2 => rCat (.ref lw) y H2 Q := by
    intro c ec Q kQ
    refine ⟨p1, _, _, rfl, rfl, g1, by cases c <;> decide, by cases c <;> decide, by rw [sizeLine_eq]; cases c <;> simp, fun p2 n2 => ?_⟩
    have s4 := Same.upd_new (o := .lst (List.replicate (if c = true then 1 else 0 : Int).toNat [V.ref kq]).flatten) n2
    refine ⟨lw, p2, _, _, rfl, rfl, s4 _ _ (s1 _ _ gq), upd_same, by rw [List.length_map, sizeLine_eq]; cases c <;> simp <;> omega, fun p3 n3 => ?_⟩
    have s5 := Same.upd_new (o := .lst (qs.map V.ref ++ (List.replicate (if c = true then 1 else 0 : Int).toNat [V.ref kq]).flatten)) n3
    have S5 := s4.trans s5
    refine kQ p3 _ S5 ?_
    rw [fil, ec]
    exact more_keys upd_same (paired_imp (fun q k h => (s1.trans S5) _ _ h) pq) ((s1.trans S5) _ _ hk)
  refine ⟨_, rfl, rfl, _, rfl, ?_⟩
  cases c1 : decide (V.int pk = V.int 0) with
  | true =>
    rw [c1, Bool.or_true] at bad
    refine iteT ?_
    refine .inr ⟨true, rfl, rest true bad _ fun p H' s2 hl => ?_⟩
    exact k H' p (h.same (s1.trans s2)) hl (Fw.same (s1.trans s2))
  | false =>
    rw [c1, Bool.or_false] at bad
    refine iteF ?_
    refine ⟨_, rfl, _, rfl, inS_read (h.same s1).sto (s1 _ _ hk) ?_⟩
    refine .inr ⟨_, rfl, rest _ bad _ fun p H' s2 hl => ?_⟩
    exact k H' p (h.same (s1.trans s2)) hl (Fw.same (s1.trans s2))
theorem law_files {f : Addr} {cdv : Value} {A : Around} {outer : List Env} {sh : Shared} {H0 : Hp} {E : XK} (L : LawAll P w K mg base C CT CY CN CL)
    (hr : Room 8 (A.deeper (envOfC "law" (defScope sLaw) sh.heap.objs.size f cdv))) (nd : LawN.Nodup) :
    ∃ t, PSs (cxOf CX0 P w K mg base LawN "law" (defScope sLaw) f cdv A outer sh H0 E).nox (ifBody (nth kBody 4)) t ∧ ∀ (D' : Ends) (H : Hp) (r a st fa ta lw kq lg ls : Addr) (es : Eds) (fs : Fls) (ts : Tks) (key : Kk) (pk : Int) (x0 x2 x7 x13 x15 x16 x17 x18 : Option V),
      Lo K CT r a st fa ta es fs ts H → ListK H lw ((fs.filter (badF (keysOf es))).map (·.1)) → KeyAt H kq key → OkK key → key ∉ fs.map (·.1) → fs.length ≤ 50 → ListF K H lg GoodF → ListF K H ls (SomeF ++ SomeG) → 0 ≤ pk →
      (∀ H' lw' fs', Lo K CT r a st fa ta es fs' ts H' → ListK H' lw' ((fs'.filter (badF (keysOf es))).map (·.1)) → Fw H H' → (fs' = fs ∨ ∃ af f, fs' = fs ++ [(key, af, f)]) →
        D'.nx [x0, some (.ref r), x2, some (.ref st), some (.ref fa), some (.ref ta), some (.ref lw'), x7, some (.ref kq), some (.ref lg), some (.ref ls), none, some (.int pk), x13, none, x15, x16, x17, x18] H') →
      t D' [x0, some (.ref r), x2, some (.ref st), some (.ref fa), some (.ref ta), some (.ref lw), x7, some (.ref kq), some (.ref lg), some (.ref ls), none, some (.int pk), x13, none, x15, x16, x17, x18] H := by
  have r1 : Room 1 _ := hr.mono (by decide)
  have hu := hr.units
  have hu1 := hu_of hr
  obtain ⟨tW, hW, rdW⟩ := law_wrong (f := f) (cdv := cdv) (A := A) (outer := outer) (sh := sh) (H0 := H0) (E := E) L hr nd
  refine ⟨_, pss_cons (ps_dput hu1 (pv 4) (pv 8) (pe_ifExp (pt_cmpR op_gt (pv 12) pe_int (nomark _)) (pe_ix ix_list (pv 9) (pe_def L.dT r1 rfl (pa_cons (pv 1) (pa_cons pe_int pa_nil))) (fun _ _ => rfl)) (pe_ix ix_list (pv 10) (pe_def L.dT r1 rfl (pa_cons (pv 1) (pa_cons pe_int pa_nil))) (fun _ _ => rfl))) rfl)
        hW, ?_⟩
  intro D' H r a st fa ta lw kq lg ls es fs ts key pk x0 x2 x7 x13 x15 x16 x17 x18 h hb hk ok new few hG hS pk0 k
  have lenF : (kvF fs).length < sizeLine := by unfold kvF; rw [List.length_map, sizeLine_eq]; omega
  have put : ∀ (H2 : Hp) (af : Addr) (fl : List (Str × V)), Lo K CT r a st fa ta es fs ts H2 → ListK H2 lw ((fs.filter (badF (keysOf es))).map (·.1)) → KeyAt H2 kq key → Fw H H2 → FilesAt K H2 af fl → fineF fl = true → areFiles fl = (!decide (V.int pk = V.int 0)) →
      tW D' [x0, some (.ref r), x2, some (.ref st), some (.ref fa), some (.ref ta), some (.ref lw), x7, some (.ref kq), some (.ref lg), some (.ref ls), none, some (.int pk), x13, none, x15, x16, x17, x18] (upd H2 fa (.dT (putK (kvF fs) (keyL key) (.ref af)))) := by
    intro H2 af fl h2 hb2 hk2 f2 hf fi ar
    obtain ⟨l1, l2⟩ := fineF_ok fi
    have fp := Fw.put (kv' := putK (kvF fs) (keyL key) (.ref af)) h2.gF
    refine rdW _ _ r a st fa ta lw kq af es fs ts key fl pk _ _ _ _ _ _ _ _ _ _ (h2.putF new ok hf l1 l2) (hb2.mv fp) (put_keep h2.gF hk2 (by intro _ z; cases z)) few ar fun H' lw' a1 a2 a3 => ?_
    exact k H' lw' _ a1 a2 ((f2.trans fp).trans a3) (.inr ⟨af, fl, rfl⟩)
  refine ⟨_, rfl, pk, 0, rfl, rfl, _, rfl, ?_⟩
  cases c0 : decide (0 < pk) with
  | true =>
    refine iteT ?_
    have pp := of_decide_eq_true c0
    refine ⟨_, rfl, _, rfl, r, 4, a, rfl, h.row, by decide, by decide, fun v1 o1 v1l v1u R9 => ?_⟩
    have d9 := Dr.draw R9
    have f9 := Fw.dr h.row d9
    obtain ⟨as, af, fl, g, at_, mem, hf⟩ := (hG.fw f9 (d9.kp h.row)).at_ v1l (by show v1 < 4; exact v1u)
    refine ⟨lg, _, v1, _, rfl, rfl, SqL.of g, at_, ?_⟩
    refine ⟨_, rfl, _, rfl, fa, _, rfl, DPut.t (k := keyL key) (h.dr d9).gF (key_mv h.row d9 hk) lenF, ?_⟩
    refine put _ af fl (h.dr d9) (hb.dr h.row d9) (key_mv h.row d9 hk) f9 hf (List.all_eq_true.mp all_fine _ (List.mem_append.mpr (.inl mem))) ?_
    rw [List.all_eq_true.mp good_ok _ mem, decide_eq_false (fun z => by cases z; omega)]
    rfl
  | false =>
    refine iteF ?_
    have pz : pk = 0 := by have := of_decide_eq_false c0; omega
    refine ⟨_, rfl, _, rfl, r, 8, a, rfl, h.row, by decide, by decide, fun v1 o1 v1l v1u R9 => ?_⟩
    have d9 := Dr.draw R9
    have f9 := Fw.dr h.row d9
    obtain ⟨as, af, fl, g, at_, mem, hf⟩ := (hS.fw f9 (d9.kp h.row)).at_ v1l (by show v1 < 8; exact v1u)
    refine ⟨ls, _, v1, _, rfl, rfl, SqL.of g, at_, ?_⟩
    refine ⟨_, rfl, _, rfl, fa, _, rfl, DPut.t (k := keyL key) (h.dr d9).gF (key_mv h.row d9 hk) lenF, ?_⟩
    refine put _ af fl (h.dr d9) (hb.dr h.row d9) (key_mv h.row d9 hk) f9 hf (List.all_eq_true.mp all_fine _ (List.mem_append.mpr (.inr mem))) ?_
    have bf := List.all_eq_true.mp some_bad _ mem
    rw [pz]
    simpa using bf
theorem law_key {f : Addr} {cdv : Value} {A : Around} {outer : List Env} {sh : Shared} {H0 : Hp} {E : XK} (L : LawAll P w K mg base C CT CY CN CL)
    (hr : Room 8 (A.deeper (envOfC "law" (defScope sLaw) sh.heap.objs.size f cdv))) (nd : LawN.Nodup) :
    ∃ t, PSs (cxOf CX0 P w K mg base LawN "law" (defScope sLaw) f cdv A outer sh H0 E).nox kBody t ∧ ∀ (D' : Ends) (H : Hp) (r a st fa ta lw lb kq : Addr) (es : Eds) (fs : Fls) (ts : Tks) (key : Kk) (x0 x2 x9 x10 x12 x13 x15 x16 x17 x18 : Option V),
      Lo K CT r a st fa ta es fs ts H → ListK H lw ((fs.filter (badF (keysOf es))).map (·.1)) → ListK H lb ((ts.filter (badT (keysOf es))).map (·.1)) → KeyAt H kq key → key.1 ∈ PN4 → OkK key → key ∉ fs.map (·.1) → fs.length ≤ 50 → key ∉ ts.map (·.1) → (ts.map (·.1)).Nodup → ts.length ≤ 50 → (∀ k ∈ keysOf es, k.1 ∈ PN3) →
      (∀ H' lw' lb' fs' ts' x9 x10 x12 x13 x15 x16, Lo K CT r a st fa ta es fs' ts' H' → ListK H' lw' ((fs'.filter (badF (keysOf es))).map (·.1)) → ListK H' lb' ((ts'.filter (badT (keysOf es))).map (·.1)) → Fw H H' → (fs' = fs ∨ ∃ af f, fs' = fs ++ [(key, af, f)]) → (ts' = ts ∨ ∃ as s, ts' = ts ++ [(key, as, s)]) →
        D'.nx [x0, some (.ref r), x2, some (.ref st), some (.ref fa), some (.ref ta), some (.ref lw'), some (.ref lb'), some (.ref kq), x9, x10, none, x12, x13, none, x15, x16, x17, x18] H') →
      t D' [x0, some (.ref r), x2, some (.ref st), some (.ref fa), some (.ref ta), some (.ref lw), some (.ref lb), some (.ref kq), x9, x10, none, x12, x13, none, x15, x16, x17, x18] H := by
  have r1 : Room 1 _ := hr.mono (by decide)
  have r2 : Room 2 _ := hr.mono (by decide)
  have hu := hr.units
  have hu1 := hu_of hr
  obtain ⟨tF, hF, rdF⟩ := law_files (f := f) (cdv := cdv) (A := A) (outer := outer) (sh := sh) (H0 := H0) (E := E) L hr nd
  obtain ⟨tKC, hC, rdC⟩ := law_keyC (f := f) (cdv := cdv) (A := A) (outer := outer) (sh := sh) (H0 := H0) (E := E) L hr nd
  refine ⟨_, pss_cons (ps_set (i := 9) nd rfl (by first | exact Or.inl rfl | exact Or.inr rfl) (pe_lst (pa_cons (pe_tup pa_nil) (pa_cons (pe_tup (pa_cons (pe_tup (pa_cons pe_str (pa_cons pe_int pa_nil))) pa_nil)) (pa_cons (pe_tup (pa_cons (pe_tup (pa_cons pe_str (pa_cons pe_int pa_nil))) (pa_cons (pe_tup (pa_cons pe_str (pa_cons pe_int pa_nil))) pa_nil)))
        (pa_cons (pe_callTy call_tuple_of (by rfl) L.gT (by decide +kernel) (pa_cons (pe_lc (own := [("_law_path", 11)]) (g := gName 11) (tt := tYes) (te := tTup (tCons (tVar 11) (tCons (tC (.int 3)) tNil))) rfl nd (pi_str pe_str) (blkOk_by (N := LawN) (sc := defScope sLaw) (by decide +kernel)) (fun _ _ _ _ _ => pg_name (i := 11) nd rfl (Or.inl rfl)) (fun _ _ _ _ _ => pts_nil) (fun _ _ _ _ _ => pe_tup (pa_cons (pv 11) (pa_cons pe_int pa_nil)))) pa_nil)) pa_nil))))))
    (pss_cons (ps_set (i := 10) nd rfl (by first | exact Or.inl rfl | exact Or.inr rfl) (pe_lst (pa_cons (pe_tup (pa_cons (pe_tup (pa_cons pe_str (pa_cons pe_int pa_nil))) pa_nil)) (pa_cons (pe_tup (pa_cons (pe_tup (pa_cons pe_str (pa_cons pe_int pa_nil))) pa_nil)) (pa_cons (pe_tup (pa_cons (pe_tup (pa_cons pe_str (pa_cons pe_int pa_nil))) (pa_cons (pe_tup (pa_cons pe_str (pa_cons pe_int pa_nil))) pa_nil)))
        (pa_cons (pe_tup (pa_cons (pe_tup (pa_cons pe_str (pa_cons pe_int pa_nil))) (pa_cons (pe_tup (pa_cons pe_str (pa_cons pe_int pa_nil))) pa_nil))) pa_nil))))))
    (pss_cons (ps_set (i := 10) nd rfl (by first | exact Or.inl rfl | exact Or.inr rfl) (pe_op op_cat (pv 10) (pe_lst (pa_cons (pe_tup (pa_cons (pe_tup (pa_cons pe_str (pa_cons pe_int pa_nil))) pa_nil)) (pa_cons (pe_tup (pa_cons (pe_tup (pa_cons pe_str (pa_cons pe_int pa_nil))) pa_nil)) (pa_cons (pe_tup (pa_cons (pe_tup (pa_cons pe_str (pa_cons pe_bl pa_nil))) pa_nil))
        (pa_cons (pe_callTy call_tuple_of (by rfl) L.gT (by decide +kernel) (pa_cons (pe_lc (own := [("_law_path", 11)]) (g := gName 11) (tt := tYes) (te := tTup (tCons (tVar 11) (tCons (tC (.int 3)) tNil))) rfl nd (pi_str pe_str) (blkOk_by (N := LawN) (sc := defScope sLaw) (by decide +kernel)) (fun _ _ _ _ _ => pg_name (i := 11) nd rfl (Or.inl rfl)) (fun _ _ _ _ _ => pts_nil) (fun _ _ _ _ _ => pe_tup (pa_cons (pv 11) (pa_cons pe_int pa_nil)))) pa_nil)) pa_nil)))))))
    (pss_cons (ps_set (i := 12) nd rfl (by first | exact Or.inl rfl | exact Or.inr rfl) (pe_def L.dT r1 rfl (pa_cons (pv 1) (pa_cons pe_int pa_nil))))
    (pss_cons (ps_if (PW.pt (pw_or (PW.pt (pw_and (pt_cmpR op_lt (pv 12) pe_int (nomark _)) (pw_and1 (pt_cmpR (op_inS L.has r1) (pv 8) (pv 3) (by rfl))))) (pw_or1 (PW.pt (pw_and (pt_cmpR op_eq (pv 12) pe_int (nomark _)) (pw_and1 (pt_cmpR op_eq (pe_def L.dT r1 rfl (pa_cons (pv 1) (pa_cons pe_int pa_nil))) pe_int (nomark _))))))))
        hF pss_nil)
    hC)))), ?_⟩
  intro D' H r a st fa ta lw lb kq es fs ts key x0 x2 x9 x10 x12 x13 x15 x16 x17 x18 h hw hb hk kn ok newF fewF newT ndT fewT pn k
  refine seq_read (set_readL (gv_good (K := K) (by show 11 < 19; decide) H _ fun vG H1 s1 hG => ?_))
  obtain ⟨lg, aG, rfl, gG, pG⟩ := hG
  refine seq_read (set_readL (gv_somF (K := K) H1 _ fun vF H2 s2 hF => ?_))
  obtain ⟨l1, aF, rfl, gF, pF⟩ := hF
  refine ⟨_, rfl, ?_⟩
  refine gv_somG (K := K) (by show 11 < 19; decide) H2 _ fun vS H3 s3 hS => ?_
  obtain ⟨l2, aS, rfl, gS, pS⟩ := hS
  have lF := Paired.length pF
  have lS := Paired.length pS
  refine ⟨l1, l2, _, _, rfl, rfl, s3 _ _ gF, gS, by rw [List.length_map, List.length_map, lF, lS]; decide, fun ls nls => ?_⟩
  have s4 := Same.upd_new (o := .lst (aF.map V.ref ++ aS.map V.ref)) nls
  have gls : upd H3 ls (.lst (aF.map V.ref ++ aS.map V.ref)) ls = some (.lst ((aF ++ aS).map V.ref)) := by rw [upd_same, List.map_append]
  have hLS : ListF K (upd H3 ls (.lst (aF.map V.ref ++ aS.map V.ref))) ls (SomeF ++ SomeG) := ⟨_, gls, paired_two (paired_imp (fun a f h => h.kp (s3.trans s4).kp) pF) (paired_imp (fun a f h => h.kp s4.kp) pS)⟩
  have S24 := s2.trans (s3.trans s4)
  have hLG : ListF K (upd H3 ls (.lst (aF.map V.ref ++ aS.map V.ref))) lg GoodF := ⟨_, S24 _ _ gG, paired_imp (fun a f h => h.kp S24.kp) pG⟩
  have S4 := s1.trans S24
  generalize upd H3 ls (.lst (aF.map V.ref ++ aS.map V.ref)) = H4 at S4 hLS hLG ⊢
  have h4 := h.same S4
  have hw4 := hw.same S4
  have hb4 := hb.same S4
  have hk4 := S4 _ _ hk
  refine ⟨_, rfl, r, 4, a, rfl, h4.row, by decide, by decide, fun v0 o0 v0l v0u R5 => ?_⟩
  have d5 := Dr.draw R5
  have f5 := (Fw.same S4).trans (Fw.dr h4.row d5)
  have hLS5 := hLS.fw (Fw.dr h4.row d5) (d5.kp h4.row)
  have hLG5 := hLG.fw (Fw.dr h4.row d5) (d5.kp h4.row)
  have h5 := h4.dr d5
  have hw5 := hw4.dr h4.row d5
  have hb5 := hb4.dr h4.row d5
  have hk5 := key_mv h4.row d5 hk4
  generalize upd H4 r o0 = H5 at h5 hw5 hb5 hk5 f5 hLS5 hLG5 ⊢
  -- the files are drawn
  have yes : ∀ H6, Lo K CT r a st fa ta es fs ts H6 → ListK H6 lw ((fs.filter (badF (keysOf es))).map (·.1)) → ListK H6 lb ((ts.filter (badT (keysOf es))).map (·.1)) → KeyAt H6 kq key → Fw H H6 → ListF K H6 lg GoodF → ListF K H6 ls (SomeF ++ SomeG) →
      tF { D' with nx := tKC D' } [x0, some (.ref r), x2, some (.ref st), some (.ref fa), some (.ref ta), some (.ref lw), some (.ref lb), some (.ref kq), some (.ref lg), some (.ref ls), none, some (.int v0), x13, none, x15, x16, x17, x18] H6 := by
    intro H6 h6 hw6 hb6 hk6 f6 hG6 hS6
    refine rdF _ _ r a st fa ta lw kq lg ls es fs ts key v0 x0 x2 (some (.ref lb)) x13 x15 x16 x17 x18 h6 hw6 hk6 ok newF fewF hG6 hS6 v0l fun H' lw' fs' a1 a2 a3 a4 => ?_
    have hb' := hb6.mv a3
    have hk' : KeyAt H' kq key := a3 _ _ hk6 (by intro _ z; cases z) (by intro _ _ _ _ z; cases z)
    exact rdC _ _ r a st fa ta lb kq es fs' ts key _ _ _ _ _ _ _ _ _ _ _ a1 hb' hk' kn ok newT ndT fewT pn fun H'' lb' ts' y13 y15 y16 b1 b2 b3 b4 => k H'' lw' lb' fs' ts' _ _ _ _ _ _ b1 (a2.mv b3) b2 ((f6.trans a3).trans b3) a4 b4
  have no : ∀ H6, Lo K CT r a st fa ta es fs ts H6 → ListK H6 lw ((fs.filter (badF (keysOf es))).map (·.1)) → ListK H6 lb ((ts.filter (badT (keysOf es))).map (·.1)) → KeyAt H6 kq key → Fw H H6 →
      tKC D' [x0, some (.ref r), x2, some (.ref st), some (.ref fa), some (.ref ta), some (.ref lw), some (.ref lb), some (.ref kq), some (.ref lg), some (.ref ls), none, some (.int v0), x13, none, x15, x16, x17, x18] H6 := by
    intro H6 h6 hw6 hb6 hk6 f6
    exact rdC _ _ r a st fa ta lb kq es fs ts key _ _ _ _ _ _ _ _ _ _ _ h6 hb6 hk6 kn ok newT ndT fewT pn fun H'' lb' ts' y13 y15 y16 b1 b2 b3 b4 => k H'' lw lb' fs ts' _ _ _ _ _ _ b1 (hw6.mv b3) b2 (f6.trans b3) (.inl rfl) b4
  refine ⟨_, rfl, v0, 3, rfl, rfl, _, rfl, ?_⟩
  cases c0 : decide (v0 < 3) with
  | true =>
    refine iteT ?_
    have lt := of_decide_eq_true c0
    refine ⟨_, rfl, _, rfl, inS_read h5.sto hk5 ?_⟩
    refine ⟨_, rfl, ?_⟩
    cases hc : has (keysOf es) key with
    | true =>
      refine iteT ?_
      refine iteT ?_
      exact yes H5 h5 hw5 hb5 hk5 f5 hLG5 hLS5
    | false =>
      refine iteF ?_
      refine ⟨_, rfl, rfl, _, rfl, ?_⟩
      have n3 : decide (V.int v0 = V.int 3) = false := decide_eq_false fun z => by cases z; omega
      rw [n3]
      refine iteF ?_
      refine iteF ?_
      exact no H5 h5 hw5 hb5 hk5 f5
  | false =>
    refine iteF ?_
    refine ⟨_, rfl, rfl, _, rfl, ?_⟩
    cases c3 : decide (V.int v0 = V.int 3) with
    | false =>
      refine iteF ?_
      refine iteF ?_
      exact no H5 h5 hw5 hb5 hk5 f5
    | true =>
      refine iteT ?_
      refine ⟨_, rfl, r, 3, a, rfl, h5.row, by decide, by decide, fun v1 o1 v1l v1u R6 => ?_⟩
      have d6 := Dr.draw R6
      refine ⟨rfl, _, rfl, ?_⟩
      cases c1 : decide (V.int v1 = V.int 0) with
      | false =>
        refine iteF ?_
        exact no _ (h5.dr d6) (hw5.dr h5.row d6) (hb5.dr h5.row d6) (key_mv h5.row d6 hk5) (f5.trans (Fw.dr h5.row d6))
      | true =>
        refine iteT ?_
        exact yes _ (h5.dr d6) (hw5.dr h5.row d6) (hb5.dr h5.row d6) (key_mv h5.row d6 hk5) (f5.trans (Fw.dr h5.row d6)) (hLG5.fw (Fw.dr h5.row d6) (d6.kp h5.row)) (hLS5.fw (Fw.dr h5.row d6) (d6.kp h5.row))
end
end Half

/-! list(d.items()), d a dict whose keys are tuples of texts and ints -/
namespace L2
open PySem PySem.Spec PyProof.Rows
section
variable {prog : Program} {w : World} {A : Around} {E : Value → Shared → Prop} {s : Shared} {r d : Addr} {es : Array DictEntry} {ep : Nat}
/-- list(view): its pairs, each a new tuple, behind a new list -/
theorem list_items {Q : Value → Shared → Prop} (calm : A.handled = none) (hv : s.heap.IsItemsView r d) (raw : DT.Raw s.heap d es ep) (few : es.size ≤ sizeLine)
    (q : ∀ h' tk acc c as, (∀ b o, s.heap.get? b = some o → h'.get? b = some o) → h'.get? s.heap.objs.size = some { cls := .type "list", dict := none, data := .seq acc c, slots := #[] } → as.length = es.size → DT.Made es s.heap.objs.size h' as → acc.toList = as.map Value.ref → Q (.ref s.heap.objs.size) { s with heap := h', toks := tk }) :
    wpAny (model prog w) A (call (.type "list") [.ref r]) Q E s := by
  have rlt : r < s.heap.objs.size := by obtain ⟨_, ho, _⟩ := hv; exact Heap.lt_size ho
  have dlt : d < s.heap.objs.size := raw.lt
  refine callType_codes (Q₁ := fun v z => v = .ref s.heap.objs.size ∧ z = { s with heap := s.heap.push { cls := .type "list", data := .seq #[] } }) PySem.F.called_list (PySem.F.typeCall_list_1 _) PySem.F.entry_list_init (code_list_new _ ⟨rfl, rfl⟩) ?_
  rintro v z ⟨rfl, rfl⟩
  have bare : (s.heap.push { cls := .type "list", data := .seq #[] }).get? s.heap.objs.size = some { cls := .type "list", data := .seq #[] } := Heap.get?_push_size _ rfl
  refine ⟨⟨_, bare, rfl⟩, PySem.F.args_list_init_2 _ _, ?_⟩
  show wpAny _ _ (Builtin.List.listItems (.ref s.heap.objs.size) >>= fun old => Builtin.List.listUpdate (.ref s.heap.objs.size) (fun _ => #[]) >>= fun _ => letGo old.toList.reverse >>= fun _ => Builtin.List.listExtendWith (.ref s.heap.objs.size) (.ref r) .none) _ _ _
  unfold Builtin.List.listItems
  refine wpAny_bind (wpAny_bind (wpAny_seqItems bare rfl (wpAny_pure ?_)))
  refine wpAny_bind ?_
  show wpAny _ _ (updateSeq s.heap.objs.size (fun _ => #[])) _ _ _
  refine wpAny_updateSeq bare rfl ?_
  have bare2 := Heap.get?_update_self (Obj.mapSeq (fun _ => (#[] : Array Value))) bare rfl
  have far : ∀ b o, b ≠ s.heap.objs.size → (s.heap.push { cls := .type "list", data := .seq #[] }).get? b = some o → ((s.heap.push { cls := .type "list", data := .seq #[] }).update s.heap.objs.size (Obj.mapSeq (fun _ => (#[] : Array Value)))).get? b = some o :=
    fun b o n e => (Heap.get?_update_other _ _ (Ne.symm n)).trans e
  refine wpAny_bind (wpAny_letGo ?_)
  have old : ∀ b o, s.heap.get? b = some o → ((s.heap.push { cls := .type "list", data := .seq #[] }).update s.heap.objs.size (Obj.mapSeq (fun _ => (#[] : Array Value)))).get? b = some o := fun b o e => far b o (Nat.ne_of_lt (Heap.lt_size e)) (Heap.get?_push_of_some _ e)
  refine DT.extI (s := { s with heap := (s.heap.push { cls := .type "list", data := .seq #[] }).update s.heap.objs.size (Obj.mapSeq (fun _ => (#[] : Array Value))) }) (es := es) (ep := ep) (by simpa using calm) (let ⟨o, ho, x⟩ := hv; ⟨o, old _ _ ho, x⟩) (raw.at' fun o e => old _ _ e) s.heap.objs.size (Nat.ne_of_gt rlt) (Nat.ne_of_lt dlt) .none _ bare2 ?_ few
  intro h' tk acc c as keep own len made eq
  have sz : s.heap.objs.size ≤ ((s.heap.push { cls := .type "list", data := .seq #[] }).update s.heap.objs.size (Obj.mapSeq (fun _ => (#[] : Array Value)))).objs.size := Nat.le_of_lt (Heap.lt_size bare2)
  exact ⟨rfl, q h' tk acc c as (fun b o e => keep b o (Nat.ne_of_lt (Heap.lt_size e)) (old b o e)) own len (made.low sz) eq⟩
end
def rListIt (K : PySem.W.Frag) : List V → Hp → VK → Prop := fun vs H Q => ∃ (p d : Addr) (kvs : List (List Key × V)), vs = [.ref p] ∧ H p = some (DX.itemsO p d) ∧ H d = some (.dT kvs) ∧ kvs.length ≤ 4000 ∧
  ∀ H' l (as : List Addr), (∀ b o, H b = some o → H' b = some o) → H' l = some (.lst (as.map V.ref)) → Paired (fun a (kv : List Key × V) => ∃ q, H' a = some (.tup [.ref q, kv.2]) ∧ H' q = some (.tup (kv.1.map kV))) as kvs → Q (.ref l) H'
theorem paired_at {α β : Type} {R : α → β → Prop} : ∀ {l : List α} {m : List β}, l.length = m.length → (∀ (j : Nat) a b, l[j]? = some a → m[j]? = some b → R a b) → Paired R l m
  | [], [], _, _ => .nil
  | [], _ :: _, h, _ => nomatch h
  | _ :: _, [], h, _ => nomatch h
  | a :: l, b :: m, h, f => .cons (f 0 a b rfl rfl) (paired_at (Nat.succ.inj h) fun j x y e e' => f (j + 1) x y (by rw [List.getElem?_cons_succ]; exact e) (by rw [List.getElem?_cons_succ]; exact e'))
section
variable {X : Cx}
theorem cr_listItems (hc : X.calm = true) : CallR X (.type "list") (rListIt X.K) := by
  intro pins s σ H vs us Q I r h
  obtain ⟨p, d, kvs, rfl, hp, hd, few, q⟩ := h
  rw [Vals.ref1 r]
  have view : s.heap.IsItemsView p d := (show ObjOk X.prog X.w H s.heap p (DX.itemsO p d) from I.hok p _ hp).1
  obtain ⟨z0, hs, ks, pr, o, es, ep, ho, hx, hdt, he, hn⟩ := dt_of I.hok hd
  have l1 : es.size = ks.length := size_of_entries he
  have l2 : kvs.length = ks.length := Paired.length pr
  refine list_items (es := es) (ep := ep) (I.ok.hd hc) view ⟨o, ho, hx, hdt⟩ (by omega) fun h' tk acc c as keep own len made eq => ?_
  have hn0 : H s.heap.objs.size = none := I.hok.fresh (Nat.le_refl _)
  have nd : as.Nodup := made.rise.imp fun h => Nat.ne_of_lt h
  -- the pairs that were made
  have pairs : ∀ (j : Nat) (a : Addr) (kv : List Key × V), as[j]? = some a → kvs[j]? = some kv → ∃ (q : Addr) (u : Value), h'.get? a = some { cls := .type "tuple", data := .seq #[Value.ref q, u] } ∧ RelV kv.2 u ∧ H q = some (.tup (kv.1.map kV)) := by
    intro j a kv ha hkv
    obtain ⟨en, hen, hg⟩ := made.pairs j a ha
    obtain ⟨x, hx', e1, e2, e3⟩ := paired_get pr hkv
    have qe := entry_at he j
    rw [hx', hen] at qe
    have e4 : en = entryOfKey (tupleKind (mixKind X.prog X.w)) x := Option.some.inj qe
    rw [e4] at hg
    exact ⟨x.2.1, x.2.2, hg, e3, e2⟩
  have Il : Inv X pins σ (upd H s.heap.objs.size (.lst (as.map V.ref))) { s with heap := h', toks := tk } :=
    I.laid keep (Nat.le_refl _) ⟨by rw [List.length_map, len, l1, ← l2, sizeLine_eq]; omega, as.map Value.ref, c, vals_refs as, by rw [← eq]; simpa using own⟩
  obtain ⟨H2, I2, g2, t2⟩ := DX.takeT (P := fun a vs => ∃ (j : Nat) (kv : List Key × V) (q : Addr), as[j]? = some a ∧ kvs[j]? = some kv ∧ vs = [.ref q, kv.2] ∧ H q = some (.tup (kv.1.map kV))) I as _ Il nd fun a ha => by
    obtain ⟨j, hj⟩ := List.mem_iff_getElem?.mp ha
    have jl : j < as.length := (List.getElem?_eq_some_iff.mp hj).1
    have hkv := List.getElem?_eq_getElem (l := kvs) (i := j) (by omega)
    obtain ⟨q, u, hg, ru, hq⟩ := pairs j a _ hj hkv
    have lo : s.heap.objs.size ≤ a := Nat.le_of_lt (made.above a ha)
    refine ⟨lo, ?_, _, ⟨j, _, q, hj, hkv, rfl, hq⟩, fun H3 => ⟨(by rw [sizeLine_eq]; show 2 ≤ 16777216; omega), [Value.ref q, u], .cons rfl (.cons ru .nil), ⟨_, hg, rfl, 0, rfl⟩⟩⟩
    rw [upd_ne (Nat.ne_of_gt (made.above a ha))]
    exact I.hok.fresh lo
  have up : ∀ b o, H b = some o → H2 b = some o := fun b o e => g2 b o (by rw [upd_ne (ne_of_none e hn0)]; exact e)
  refine ⟨.ref s.heap.objs.size, H2, I2, rfl, q H2 _ as up (g2 _ _ upd_same) (paired_at (by omega) fun j a kv ha hkv => ?_)⟩
  obtain ⟨vs, ⟨i, kv', q', hi, hk', ev, hq'⟩, hH⟩ := t2 a (List.mem_of_getElem? ha)
  have eij : i = j := (List.getElem?_inj (List.getElem?_eq_some_iff.mp hi).1 nd).mp (hi.trans ha.symm)
  subst eij
  have ekv : kv' = kv := Option.some.inj (hk'.symm.trans hkv)
  subst ekv
  rw [ev] at hH
  exact ⟨q', hH, up _ _ hq'⟩
end
end L2

/-! sorted(d.items()), d a dict whose keys are tuples of texts and ints, its values data -/
namespace L2
open PySem PySem.Spec PyProof.Rows
/-- an item: its key, its value, what the value reads as -/
abbrev ItD := List Key × V × PyData
def itD (x : ItD) : PyData := .tuple [tupD x.1, x.2.2]
def rSortItD (K : PySem.W.Frag) : List V → Hp → VK → Prop := fun vs H Q => ∃ (p d : Addr) (xs : List ItD), vs = [.ref p] ∧ H p = some (DX.itemsO p d) ∧ H d = some (.dT (xs.map fun x => (x.1, x.2.1))) ∧ xs.length ≤ 4000 ∧
  (∀ x ∈ xs, Dp K H x.2.1 x.2.2 ∧ x.2.2.depth ≤ 10) ∧ PySem.W.AllAlike (xs.map itD) ∧
  ∀ (H' : Hp) (l : Addr) (ps : List (Addr × ItD)), (∀ b o, H b = some o → H' b = some o) → (ps.map (·.2)).Perm xs → ((ps.map (·.2)).Pairwise fun x y => PySem.W.dataLt (itD y) (itD x) = false) → H' l = some (.lst (ps.map fun z => V.ref z.1)) →
    (∀ z ∈ ps, ∃ q, H' z.1 = some (.tup [.ref q, z.2.2.1]) ∧ H' q = some (.tup (z.2.1.map kV))) → Q (.ref l) H'
theorem itD_depth {x : ItD} (h : x.2.2.depth ≤ 10) : (itD x).depth ≤ 20 := by
  have := depth_tup x.1
  simp only [itD, PyData.depth, PyData.depthAll]
  omega
section
variable {X : Cx}
theorem cr_sortItD (hc : X.calm = true) (hu : X.A.units + 40 < cLine) : CallR X (.builtin "sorted") (rSortItD X.K) := by
  intro pins s σ H vs us Q I r h
  obtain ⟨p, d, xs, rfl, hp, hd, few, dp, hal, q⟩ := h
  obtain rfl := Vals.ref1 r
  have view : s.heap.IsItemsView p d := (show ObjOk X.prog X.w H s.heap p (DX.itemsO p d) from I.hok p _ hp).1
  obtain ⟨z, hs, ks, pr, o, es, ep, ho, hx, hdt, he, hn⟩ := dt_of I.hok hd
  have l1 : es.size = ks.length := size_of_entries he
  have l2 : (xs.map fun x => (x.1, x.2.1)).length = ks.length := Paired.length pr
  rw [List.length_map] at l2
  refine DT.sortedI (es := es) (ep := ep) (I.ok.hd hc) view ⟨o, ho, hx, hdt⟩ (by rw [sizeLine_eq]; omega) fun h' tk as keep1 lower asLen made => ?_
  have lak : as.length = xs.length := by omega
  have nd : as.Nodup := made.rise.imp fun h => Nat.ne_of_lt h
  -- the pairs that were made
  have pairs : ∀ (j : Nat) (a : Addr) (x : ItD), as[j]? = some a → xs[j]? = some x → ∃ (q : Addr) (u : Value), h'.get? a = some { cls := .type "tuple", data := .seq #[Value.ref q, u] } ∧ RelV x.2.1 u ∧ H q = some (.tup (x.1.map kV)) := by
    intro j a x ha hx
    obtain ⟨en, hen, hg⟩ := made.pairs j a ha
    obtain ⟨k, hk', e1, e2, e3⟩ := paired_get pr (show (xs.map fun x => (x.1, x.2.1))[j]? = some (x.1, x.2.1) by rw [List.getElem?_map, hx]; rfl)
    have qe := entry_at he j
    rw [hk', hen] at qe
    have e4 : en = entryOfKey (tupleKind (mixKind X.prog X.w)) k := Option.some.inj qe
    rw [e4] at hg
    exact ⟨k.2.1, k.2.2, hg, e3, e2⟩
  have listAt : (h'.push { cls := .type "list", data := .seq (as.map Value.ref).toArray }).get? h'.objs.size = some (seqObj "list" (as.map Value.ref).toArray 0) := Heap.get?_push_size _ rfl
  have keepS : ∀ b o, s.heap.get? b = some o → (h'.push { cls := .type "list", data := .seq (as.map Value.ref).toArray }).get? b = some o := fun b o e => Heap.get?_push_of_some _ (keep1 b o e)
  have keepM : ∀ b o, h'.get? b = some o → (h'.push { cls := .type "list", data := .seq (as.map Value.ref).toArray }).get? b = some o := fun b o e => Heap.get?_push_of_some _ e
  have oldNe : ∀ b o, h'.get? b = some o → b ≠ h'.objs.size := fun b o e => Nat.ne_of_lt (Heap.lt_size e)
  generalize hL : as.zip xs = L
  have eA : as.map Value.ref = L.map fun z => Value.ref z.1 := by
    have e := List.map_fst_zip (l₁ := as) (l₂ := xs) (by omega)
    rw [← hL]
    conv => lhs; rw [← e]
    rw [List.map_map]
    rfl
  have eX : L.map (·.2) = xs := by rw [← hL]; exact List.map_snd_zip (by omega)
  have idx : ∀ z ∈ L, ∃ j : Nat, as[j]? = some z.1 ∧ xs[j]? = some z.2 := fun z' hz' => by
    obtain ⟨j, hj⟩ := List.mem_iff_getElem?.mp hz'
    rw [← hL] at hj
    exact ⟨j, List.getElem?_zip_eq_some.mp hj⟩
  have Ik : Inv X pins σ H { s with heap := h', toks := tk } := I.kept (t' := tk) keep1
  have rd : ∀ z ∈ L, ∃ rs, Reads (h'.push { cls := .type "list", data := .seq (as.map Value.ref).toArray }) (.ref z.1) (itD z.2) rs ∧ h'.objs.size ∉ rs := fun z hz => by
    obtain ⟨j, hj, hx⟩ := idx z hz
    obtain ⟨q', u, hg, ru, hq⟩ := pairs j _ _ hj hx
    obtain ⟨a1, r1⟩ := (dp_tup (SqT.of hq)).reads Ik (tupD z.2.1) _ (.ref q') rfl
    obtain ⟨a2, r2⟩ := (dp z.2 (List.mem_of_getElem? hx)).1.reads Ik z.2.2.2 _ u ru
    have R0 : ∃ rs, Reads h' (.ref z.1) (itD z.2) rs := ⟨_, show Reads h' (.ref z.1) (.tuple [tupD z.2.1, z.2.2.2]) _ from Reads.tuple hg rfl rfl (.cons r1 (.cons r2 .nil))⟩
    obtain ⟨rs, R0⟩ := R0
    exact ⟨rs, PyProof.Rows.Reads.keeps (fun b u e => Heap.get?_push_of_some _ e) R0, fun m => by
      obtain ⟨u, e⟩ := PyProof.On.reads_mem_get R0 _ m
      exact Nat.lt_irrefl _ (Heap.lt_size e)⟩
  rw [eA] at listAt keepS keepM rd ⊢
  generalize h'.push { cls := .type "list", data := .seq (L.map fun z => Value.ref z.1).toArray } = h2 at listAt keepS keepM rd ⊢
  have eD : L.map (fun z => itD z.2) = xs.map itD := by rw [← eX, List.map_map]; rfl
  refine PySem.W.list_sort_data (s := { s with heap := h2, toks := tk }) (A := X.A.in1) (R := fun v (z : Addr × ItD) => v = .ref z.1) (enc := fun z : Addr × ItD => itD z.2) listAt (each_of_map (f := fun z : Addr × ItD => Value.ref z.1) (fun _ => rfl) L) (each_all (f := fun z : Addr × ItD => Value.ref z.1) rd) (by rw [eD]; exact hal) (.inl fun d hd => ?_) (by
      have := congrArg List.length eX
      rw [List.length_map] at this
      rw [sizeLine_eq]; omega) (fun z hz => by
      obtain ⟨j, _, hx⟩ := idx z hz
      have := itD_depth (dp z.2 (List.mem_of_getElem? hx)).2
      show X.A.units + 1 + 1 + (itD z.2).depth < cLine
      omega) fun out lo eo => ?_
  · obtain ⟨z, hz, rfl⟩ := List.mem_map.mp hd
    exact ⟨_, _, rfl⟩
  show EP X pins σ Q (.ref h'.objs.size) { s with heap := sortedHeap h2 h'.objs.size (L.map fun z => Value.ref z.1) (List.toArray out), toks := tk }
  have pm := List.mergeSort_perm L (PySem.W.dataLe false fun z : Addr × ItD => itD z.2)
  have srt : (L.mergeSort (PySem.W.dataLe false fun z : Addr × ItD => itD z.2)).Pairwise fun x y => PySem.W.dataLt (itD y.2) (itD x.2) = false := by
    refine (PySem.W.sort_pairwise (PySem.W.sortLe_total _ false _) _).imp fun {x y} h => ?_
    have h' : PySem.W.dataLe false (fun z : Addr × ItD => itD z.2) x y = true := h
    rw [PySem.W.dataLe_eq] at h'
    have h2 : (!PySem.W.dataLt (itD y.2) (itD x.2)) = true := h'
    cases c : PySem.W.dataLt (itD y.2) (itD x.2) with
    | false => rfl
    | true => rw [c] at h2; cases h2
  have rv := refs_vals (g := fun z : Addr × ItD => z.1) eo
  generalize L.mergeSort (PySem.W.dataLe false fun z : Addr × ItD => itD z.2) = zs at pm srt rv
  have kF : ∀ b o, b ≠ h'.objs.size → h2.get? b = some o → (sortedHeap h2 h'.objs.size (L.map fun z => Value.ref z.1) (List.toArray out)).get? b = some o := fun b o hb e => (PyProof.Rows.sortedHeap_old hb (Heap.lt_size e)).trans e
  have kS : ∀ b o, s.heap.get? b = some o → (sortedHeap h2 h'.objs.size (L.map fun z => Value.ref z.1) (List.toArray out)).get? b = some o := fun b o e => kF b o (oldNe _ _ (keep1 b o e)) (keepS b o e)
  obtain ⟨eF, heF⟩ := PyProof.Rows.sortedHeap_at (vs := L.map fun z => Value.ref z.1) (out := List.toArray out) listAt
  have freeL : H h'.objs.size = none := I.hok.fresh (Nat.le_of_lt lower)
  have fewL : (zs.map fun z => V.ref z.1).length ≤ sizeLine := by
    have e := pm.length_eq
    have := congrArg List.length eX
    rw [List.length_map] at this
    rw [List.length_map, sizeLine_eq]
    omega
  have okL : ObjOk X.prog X.w (upd H h'.objs.size (.lst (zs.map fun z => V.ref z.1))) (sortedHeap h2 h'.objs.size (L.map fun z => Value.ref z.1) (List.toArray out)) h'.objs.size (.lst (zs.map fun z => V.ref z.1)) := ⟨fewL, out, eF, rv, heF⟩
  have I2 : Inv X pins σ (upd H h'.objs.size (.lst (zs.map fun z => V.ref z.1))) { s with heap := sortedHeap h2 h'.objs.size (L.map fun z => Value.ref z.1) (List.toArray out), toks := tk } :=
    I.laid (t' := tk) kS (Nat.le_of_lt lower) okL
  obtain ⟨H2, I3, g, qt⟩ := DX.takeT (P := fun b vs => ∃ (j : Nat) (x : ItD) (q : Addr), as[j]? = some b ∧ xs[j]? = some x ∧ vs = [.ref q, x.2.1] ∧ H q = some (.tup (x.1.map kV))) I as _ I2 nd fun b hb => by
    obtain ⟨j, hj⟩ := List.mem_iff_getElem?.mp hb
    have jl : j < as.length := (List.getElem?_eq_some_iff.mp hj).1
    have hx := List.getElem?_eq_getElem (l := xs) (i := j) (by omega)
    obtain ⟨q', u, hg, ru, hq⟩ := pairs j b _ hj hx
    have lowB : s.heap.objs.size ≤ b := Nat.le_of_lt (made.above b hb)
    refine ⟨lowB, ?_, [.ref q', _], ⟨j, _, q', hj, hx, rfl, hq⟩, fun H3 => ⟨(by rw [sizeLine_eq]; show 2 ≤ 16777216; omega), [Value.ref q', u], .cons rfl (.cons ru .nil), ⟨_, kF _ _ (oldNe _ _ hg) (keepM _ _ hg), rfl, 0, rfl⟩⟩⟩
    rw [upd_ne (oldNe _ _ hg)]
    exact I.hok.fresh lowB
  have grown : ∀ b o, H b = some o → H2 b = some o := fun b o e => g b o (by rw [upd_ne (ne_of_none e freeL)]; exact e)
  refine ⟨.ref h'.objs.size, H2, I3, rfl, q H2 h'.objs.size zs grown (by rw [← eX]; exact pm.map _) (List.pairwise_map.mpr srt) (g _ _ upd_same) fun z' hz' => ?_⟩
  obtain ⟨i, i1, i2⟩ := idx z' (pm.mem_iff.mp hz')
  obtain ⟨vs, ⟨j, x, q', j1, j2, ev, hq'⟩, hH⟩ := qt z'.1 (List.mem_of_getElem? i1)
  have sameIx : i = j := (List.getElem?_inj (List.getElem?_eq_some_iff.mp i1).1 nd).mp (i1.trans j1.symm)
  subst sameIx
  have ee : x = z'.2 := Option.some.inj (j2.symm.trans i2)
  rw [ev, ee] at hH
  rw [ee] at hq'
  exact ⟨q', hH, grown _ _ hq'⟩
end
end L2

namespace Half
open PySem PySem.Spec PyProof.Rows L2 LamX
/-! ### what stands of the layout's parts; data of files and takes -/
abbrev lamQ : Str := (envOfC "law" (defScope sLaw) 0 0 .none).qual ++ "<lambda>"
section
variable {K : PySem.W.Frag} {CT r a st fa ta l : Addr} {es : Eds} {fs : Fls} {ts : Tks} {ks : List Kk} {H H' : Hp} {T : List (Addr × Str)}
theorem Tabs.fw (f : Fw H H') (t : Tabs T H) : Tabs T H' := fun p hp => by
  obtain ⟨ps, h1, h2, h3⟩ := t p hp
  refine ⟨ps, f _ _ h1 (by intro _ z; cases z) (by intro _ _ _ _ z; cases z), h2, fun pos cv hc => ?_⟩
  obtain ⟨c, e, hcc⟩ := h3 pos cv hc
  exact ⟨c, e, f _ _ hcc (by intro _ z; unfold CodeO at z; cases z) (by intro _ _ _ _ z; unfold CodeO at z; cases z)⟩
theorem Kp.ext (e : ExtN H H') : Kp K H H' := fun a xs h => by
  rcases h with (h | ⟨q, h⟩) | h
  · exact .inl (.inl (e _ _ h (by intro _ z; cases z)))
  · exact .inl (.inr ⟨q, e _ _ h (by intro _ z; cases z)⟩)
  · exact .inr h
theorem Row.ext (e : ExtN H H') (h : Row K H r a) : Row K H' r a := by
  obtain ⟨ns, i, g, l, h1, h2, h3, h4⟩ := h
  refine ⟨ns, i, g, l, e _ _ h1 (by intro _ z; cases z), ?_, h3, h4⟩
  rcases h2 with (q | ⟨o, q⟩) | q
  · exact .inl (.inl (e _ _ q (by intro _ z; cases z)))
  · exact .inl (.inr ⟨o, e _ _ q (by intro _ z; cases z)⟩)
  · exact .inr q
theorem StObj.ext (k : ExtN H H') (h : StObj CT H st es) : StObj CT H' st es := by
  obtain ⟨⟨dy, tb, nb, h1, h2, h3⟩, one⟩ := h
  obtain ⟨ys', a, b, kvs', g1, g2, g3⟩ := h3
  exact ⟨⟨dy, tb, nb, k _ _ h1 (by intro _ z; cases z), k _ _ h2 (by intro _ z; cases z), ys', a, b, kvs', k _ _ g1 (by intro _ z; cases z), g2, fun nm hm => let ⟨t, a, b⟩ := g3 nm hm; ⟨t, a, k _ _ b (by intro _ z; cases z)⟩⟩, one⟩
theorem Lo.ext (e : ExtN H H') (h : Lo K CT r a st fa ta es fs ts H) : Lo K CT r a st fa ta es fs ts H' := by
  have kp : Kp K H H' := Kp.ext e
  obtain ⟨⟨dy, tb, nb, h1, -⟩, -⟩ := id h.sto
  have ks : ∀ o, H st = some o → H' st = some o := fun o q => e _ _ q (by rw [h1] at q; cases q; intro _ z; cases z)
  exact ⟨h.row.ext e, h.sto.ext e, h.apF.mv h.sto ks, h.apT.mv h.sto ks, e _ _ h.gF (by intro _ z; cases z), e _ _ h.gT (by intro _ z; cases z),
    fun e he => ⟨(h.hF e he).1, (h.hF e he).2.1.kp kp, (h.hF e he).2.2⟩, fun e he => ⟨(h.hT e he).1, kp _ _ (h.hT e he).2.1, (h.hT e he).2.2⟩, h.ne⟩
theorem Lo.layIn (h : Lo K CT r a st fa ta es fs ts H) (ndF : (fs.map (·.1)).Nodup) (ndT : (ts.map (·.1)).Nodup) (lf : fs.length ≤ 100) (lt : ts.length ≤ 100) : LayIn K CT H st fa ta es fs ts := ⟨h.sto, h.apF, h.apT, h.gF, h.gT, h.hF, h.hT, lf, lt, ndF, ndT⟩
end
/-! ### keys in their order -/
theorem kD_lt (a b : Kk) : PySem.W.dataLt (kD a) (kD b) = if a.1 = b.1 then decide (a.2 < b.2) else decide (a.1.cps.toList < b.1.cps.toList) := by
  unfold kD
  rw [PySem.W.dataLt_pair (by simp [PySem.W.alike]) (by simp [PySem.W.alike])]
  simp only [PyData.eqv, decide_eq_true_eq, PySem.W.dataLt_int, PySem.W.dataLt_str, beq_iff_eq]
  by_cases h : a.1 = b.1
  · rw [if_pos h, if_pos h]
    by_cases h2 : a.2 = b.2
    · rw [if_pos h2, h2, decide_eq_false (Int.lt_irrefl _)]
    · rw [if_neg h2]
  · rw [if_neg h, if_neg h]
theorem kD_anti {a b : Kk} (h1 : PySem.W.dataLt (kD a) (kD b) = false) (h2 : PySem.W.dataLt (kD b) (kD a) = false) : a = b := by
  rw [kD_lt] at h1 h2
  by_cases h : a.1 = b.1
  · rw [if_pos h] at h1
    rw [if_pos h.symm] at h2
    have e1 := of_decide_eq_false h1
    have e2 := of_decide_eq_false h2
    exact Prod.ext h (by omega)
  · rw [if_neg h] at h1
    rw [if_neg (Ne.symm h)] at h2
    exact absurd (txLe_as a.1 b.1 h2 h1) h
theorem kD_eqv (a b : Kk) : PyData.eqv (kD a) (kD b) = decide (a = b) := by
  simp only [kD, PyData.eqv, PyData.eqvAll, Bool.and_true]
  by_cases h : a = b
  · subst h; simp
  · rw [decide_eq_false h]
    by_cases h1 : a.1 = b.1
    · by_cases h2 : a.2 = b.2
      · exact absurd (Prod.ext h1 h2) h
      · simp [h2]
    · simp [h1]
theorem eq_at_key {α β : Type} : ∀ {fs : List (α × β)}, (fs.map (·.1)).Nodup → ∀ {x y}, x ∈ fs → y ∈ fs → x.1 = y.1 → x = y
  | f :: fs, nd, x, y, hx, hy, e => by
    obtain ⟨n, nd⟩ := List.nodup_cons.mp nd
    rcases List.mem_cons.mp hx with ex | hx1
    · rcases List.mem_cons.mp hy with ey | hy1
      · rw [ex, ey]
      · exact absurd (List.mem_map.mpr ⟨y, hy1, by rw [← e, ex]⟩) n
    · rcases List.mem_cons.mp hy with ey | hy1
      · exact absurd (List.mem_map.mpr ⟨x, hx1, by rw [e, ey]⟩) n
      · exact eq_at_key nd hx1 hy1 e
theorem eq_of_keys {α β : Type} {fs : List (α × β)} (nd : (fs.map (·.1)).Nodup) : ∀ {l m : List (α × β)}, (∀ x ∈ l, x ∈ fs) → (∀ x ∈ m, x ∈ fs) → l.map (·.1) = m.map (·.1) → l = m
  | [], [], _, _, _ => rfl
  | [], _ :: _, _, _, e => by cases e
  | _ :: _, [], _, _, e => by cases e
  | x :: l, y :: m, hl, hm, e => by
    rw [List.map_cons, List.map_cons] at e
    injection e with e1 e2
    rw [eq_at_key nd (hl x (.head _)) (hm y (.head _)) e1, eq_of_keys nd (fun z hz => hl z (.tail _ hz)) (fun z hz => hm z (.tail _ hz)) e2]
/-- what sorted(d.items()) gives is in the order of the keys -/
theorem items_sorted {α : Type} {g : Kk × α → ItD} {fs fs' : List (Kk × α)} {ys : List ItD} (hg : ∀ e, (g e).1 = keyL e.1) (al : ∀ e ∈ fs, ∀ e' ∈ fs, PySem.W.alike (g e).2.2 (g e').2.2 = true) (nd : (fs.map (·.1)).Nodup) (p : fs'.Perm fs) (asc : AscK fs') (py : ys.Perm (fs.map g)) (pw : ys.Pairwise fun x y => PySem.W.dataLt (itD y) (itD x) = false) : ys = fs'.map g := by
  obtain ⟨l, pl, rfl⟩ := perm_back py
  have ndl : (l.map (·.1)).Nodup := (pl.map _).nodup_iff.mpr nd
  have inl : ∀ {x}, x ∈ l → x ∈ fs := fun h => pl.mem_iff.mp h
  have pk : (l.map (·.1)).Pairwise fun a b => PySem.W.dataLt (kD b) (kD a) = false := by
    rw [List.pairwise_map] at pw ⊢
    have both : l.Pairwise fun a b => (a.1 ≠ b.1) ∧ PySem.W.dataLt (itD (g b)) (itD (g a)) = false := List.Pairwise.and (List.pairwise_map.mp ndl) pw
    refine both.imp_of_mem fun {a b} ha hb h => ?_
    obtain ⟨n, h⟩ := h
    unfold itD at h
    rw [hg, hg] at h
    have hk : PySem.W.alike (tupD (keyL b.1)) (tupD (keyL a.1)) = true := key_alike _ _
    rw [PySem.W.dataLt_pair hk (al b (inl hb) a (inl ha))] at h
    rw [key_tupD, key_tupD, kD_eqv, if_neg (by rw [decide_eq_true_eq]; exact fun z => n z.symm)] at h
    exact h
  have pk' : (fs'.map (·.1)).Pairwise fun a b => PySem.W.dataLt (kD b) (kD a) = false := List.pairwise_map.mpr asc
  have ek := sorted_uniq (le := fun a b : Kk => PySem.W.dataLt (kD b) (kD a) = false) (fun x y h1 h2 => kD_anti h2 h1) pk pk' ((pl.map _).trans (p.map _).symm)
  rw [eq_of_keys nd (fun x h => inl h) (fun x h => p.mem_iff.mp h) ek]
/-! ### files and takes as data -/
def vD : V → PyData
  | .int n => .int n
  | .bl b => .bool b
  | _ => .none
def pD (p : Str × V) : PyData := .tuple [.str p.1, vD p.2]
def filD (f : List (Str × V)) : PyData := .tuple (f.map pD)
def strsD (s : List Str) : PyData := .tuple (s.map PyData.str)
def gF (e : Kk × Addr × List (Str × V)) : ItD := (keyL e.1, .ref e.2.1, filD e.2.2)
def gT (e : Kk × Addr × List Str) : ItD := (keyL e.1, .ref e.2.1, strsD e.2.2)
theorem dp_pairs {K : PySem.W.Frag} {H : Hp} : ∀ {ts : List Addr} {f : List (Str × V)}, ts.length = f.length → (∀ (i : Nat) t p, ts[i]? = some t → f[i]? = some p → SqT K H t [.str p.1, p.2]) → (∀ p ∈ f, Numv p.2) → DpAll K H (ts.map V.ref) (f.map pD)
  | [], [], _, _, _ => .nil
  | [], _ :: _, h, _, _ => by cases h
  | _ :: _, [], h, _, _ => by cases h
  | t :: ts, p :: f, h, q, n => by
    have h0 := q 0 t p rfl rfl
    have hv : Dp K H p.2 (vD p.2) := by
      rcases n p (.head _) with ⟨m, e⟩ | ⟨b, e⟩
      · rw [e]; exact .int m
      · rw [e]; exact .bl b
    exact .cons (.tup h0 (.cons (.str _) (.cons hv .nil))) (dp_pairs (Nat.succ.inj h) (fun i t p a b => q (i + 1) t p (by rw [List.getElem?_cons_succ]; exact a) (by rw [List.getElem?_cons_succ]; exact b)) fun p hp => n p (.tail _ hp))
theorem dp_files {K : PySem.W.Frag} {H : Hp} {a : Addr} {f : List (Str × V)} (h : FilesAt K H a f) (n : ∀ p ∈ f, Numv p.2) : Dp K H (.ref a) (filD f) := by
  obtain ⟨ts, h1, h2, h3⟩ := h
  exact .tup h1 (dp_pairs h2 h3 n)
theorem ints_of {f : List (Str × V)} (n : ∀ p ∈ f, Numv p.2) (h : areFiles f = true) : ∀ p ∈ f, ∃ m, p.2 = .int m := fun p hp => by
  unfold areFiles at h
  have h2 := (Bool.and_eq_true_iff.mp (Bool.and_eq_true_iff.mp h).2).1
  have h3 := (Bool.and_eq_true_iff.mp (List.all_eq_true.mp h2 p hp)).2
  rcases n p hp with q | ⟨b, e⟩
  · exact q
  · rw [e] at h3
    simp [inR] at h3
theorem pD_alike {p q : Str × V} (hp : ∃ m, p.2 = .int m) (hq : ∃ m, q.2 = .int m) : PySem.W.alike (pD p) (pD q) = true := by
  obtain ⟨m, e⟩ := hp
  obtain ⟨n, e'⟩ := hq
  unfold pD
  rw [e, e']
  simp [vD, PySem.W.alike, PySem.W.alikeAll]
theorem pDs_alike : ∀ {f g : List (Str × V)}, (∀ p ∈ f, ∃ m, p.2 = .int m) → (∀ p ∈ g, ∃ m, p.2 = .int m) → PySem.W.alikeAll (f.map pD) (g.map pD) = true
  | [], _, _, _ => by simp [PySem.W.alikeAll]
  | _ :: _, [], _, _ => by simp [PySem.W.alikeAll]
  | p :: f, q :: g, hf, hg => by
    rw [List.map_cons, List.map_cons]
    simp only [PySem.W.alikeAll]
    rw [pD_alike (hf p (.head _)) (hg q (.head _)), pDs_alike (fun x h => hf x (.tail _ h)) (fun x h => hg x (.tail _ h))]
    rfl
theorem strs_alike : ∀ f g : List Str, PySem.W.alikeAll (f.map PyData.str) (g.map PyData.str) = true
  | [], _ => by simp [PySem.W.alikeAll]
  | _ :: _, [] => by simp [PySem.W.alikeAll]
  | p :: f, q :: g => by
    rw [List.map_cons, List.map_cons]
    simp only [PySem.W.alikeAll]
    rw [strs_alike f g]
    simp [PySem.W.alike]
theorem it_alike {x y : ItD} (hk : ∃ a b, x.1 = keyL a ∧ y.1 = keyL b) (h : PySem.W.alike x.2.2 y.2.2 = true) : PySem.W.alike (itD x) (itD y) = true := by
  obtain ⟨a, b, e, e'⟩ := hk
  unfold itD
  rw [e, e']
  simp only [PySem.W.alike, PySem.W.alikeAll]
  rw [key_alike, h]
  rfl
/-! shapes -/
theorem lay_all : ∀ {ds : List PyData} {n : Nat}, (∀ d ∈ ds, PyData.canLay0 d = true ∧ PyData.depth d ≤ n) → PyData.canLayAll0 ds = true ∧ PyData.depthAll ds ≤ n
  | [], _, _ => ⟨by simp [PyData.canLayAll0], by simp [PyData.depthAll]⟩
  | d :: ds, n, h => by
    obtain ⟨a, b⟩ := h d List.mem_cons_self
    obtain ⟨x, y⟩ := lay_all fun e he => h e (List.mem_cons_of_mem _ he)
    refine ⟨by simp [PyData.canLayAll0, a, x], ?_⟩
    simp only [PyData.depthAll]
    omega
theorem lay_tup {ds : List PyData} {n : Nat} (h : ∀ d ∈ ds, PyData.canLay0 d = true ∧ PyData.depth d ≤ n) : PyData.canLay0 (.tuple ds) = true ∧ PyData.depth (.tuple ds) ≤ n + 1 := by
  obtain ⟨a, b⟩ := lay_all h
  refine ⟨by simp only [PyData.canLay0]; exact a, ?_⟩
  simp only [PyData.depth]
  omega
theorem lay_list {ds : List PyData} {n : Nat} (h : ∀ d ∈ ds, PyData.canLay0 d = true ∧ PyData.depth d ≤ n) : PyData.canLay0 (.list ds) = true ∧ PyData.depth (.list ds) ≤ n + 1 := by
  obtain ⟨a, b⟩ := lay_all h
  refine ⟨by simp only [PyData.canLay0]; exact a, ?_⟩
  simp only [PyData.depth]
  omega
theorem shaped_of {d : PyData} {n : Nat} (h : PyData.canLay0 d = true ∧ PyData.depth d ≤ n) (l : n ≤ 64) : SeqAt.shaped d = true := by
  unfold SeqAt.shaped
  rw [Bool.and_eq_true]
  exact ⟨h.1, decide_eq_true (Nat.le_trans h.2 l)⟩
theorem lay_str {z : Str} {n : Nat} (h : PyData.strOk z = true) : PyData.canLay0 (.str z) = true ∧ PyData.depth (.str z) ≤ n := ⟨by simp [PyData.canLay0, h], by simp [PyData.depth]⟩
theorem lay_vD {v : V} {n : Nat} : PyData.canLay0 (vD v) = true ∧ PyData.depth (vD v) ≤ n := by
  cases v <;> exact ⟨by simp [vD, PyData.canLay0], by simp [vD, PyData.depth]⟩
theorem lay_kD {k : Kk} (h : PyData.strOk k.1 = true) : PyData.canLay0 (kD k) = true ∧ PyData.depth (kD k) ≤ 1 := lay_tup (n := 0) fun d hd => by
  rcases List.mem_cons.mp hd with rfl | hd
  · exact lay_str h
  · rw [List.mem_singleton.mp hd]
    exact ⟨by simp [PyData.canLay0], by simp [PyData.depth]⟩
theorem lay_filD {f : List (Str × V)} (h : ∀ p ∈ f, PyData.strOk p.1 = true) : PyData.canLay0 (filD f) = true ∧ PyData.depth (filD f) ≤ 2 := lay_tup (n := 1) fun d hd => by
  obtain ⟨p, hp, rfl⟩ := List.mem_map.mp hd
  refine lay_tup (n := 0) fun d hd => ?_
  rcases List.mem_cons.mp hd with rfl | hd
  · exact lay_str (h p hp)
  · rw [List.mem_singleton.mp hd]
    exact lay_vD
theorem lay_strsD {s : List Str} (h : ∀ z ∈ s, PyData.strOk z = true) : PyData.canLay0 (strsD s) = true ∧ PyData.depth (strsD s) ≤ 2 := lay_tup (n := 1) fun d hd => by
  obtain ⟨z, hz, rfl⟩ := List.mem_map.mp hd
  exact lay_str (h z hz)
theorem lay_it {x : ItD} {k : Kk} (hk : x.1 = keyL k) (ok : PyData.strOk k.1 = true) (h : PyData.canLay0 x.2.2 = true ∧ PyData.depth x.2.2 ≤ 2) : PyData.canLay0 (itD x) = true ∧ PyData.depth (itD x) ≤ 3 := lay_tup (n := 2) fun d hd => by
  rcases List.mem_cons.mp hd with rfl | hd
  · rw [hk, key_tupD]
    exact ⟨(lay_kD ok).1, Nat.le_trans (lay_kD ok).2 (by decide)⟩
  · rw [List.mem_singleton.mp hd]
    exact h
end Half

namespace Half
open PySem PySem.Spec PyProof.Rows L2 LamX
/-! ### a layout's parts are what was given -/
structure TdF (K : PySem.W.Frag) (mg : Str → Option Value) : Prop where
  ex : ∃ (g : Addr) (oc : Value) (od : Option Addr) (dV kV doc pm : Value) (an : Option Addr) (cdv ct : Value) (osl : Array (Option Value)), mg "_law_told" = some (.ref g) ∧ PySem.W.keepIn K (.ref g) = true ∧
    K.lookup g = some ⟨oc, od, .func (PySem.W.fnOf "_law_told" "_law_told" (defArgs sTd) (defBody sTd) (defScope sTd) dV kV doc pm an cdv ct), osl⟩ ∧ PySem.W.codeIn K cdv "_law_told" = true ∧
    L2.Binds K (PySem.W.fnOf "_law_told" "_law_told" (defArgs sTd) (defBody sTd) (defScope sTd) dV kV doc pm an cdv ct) ["_law_work"] []
structure LayAll (P : Program) (w : World) (K : PySem.W.Frag) (mg : Str → Option Value) (base : Heap) (CT CY CL : Addr) : Prop where
  told : TdF K mg
  T : TdT K mg CL
  cl : Cls K CY
  ini : ∃ f fd, FnOk P w K mg base (L2.CX P w) 5 f fd ["self", "store", "files", "takes"] (spLi K CT CY CL) ∧ Mk K CY f ∧ Binds K fd ["self", "store", "files", "takes"] [] ∧ mg "Layout" = some (.ref CY)
  prF : ∃ p g fd, PropOf K CY "files" p g ∧ FnOk P w K mg base CX0 1 g fd ["self"] (spLf CY) ∧ Binds K fd ["self"] []
  prT : ∃ p g fd, PropOf K CY "takes" p g ∧ FnOk P w K mg base CX0 1 g fd ["self"] (spLt CY) ∧ Binds K fd ["self"] []
  prS : ∃ p g fd, PropOf K CY "store" p g ∧ FnOk P w K mg base CX0 1 g fd ["self"] (spLs CY) ∧ Binds K fd ["self"] []
  eqY : ∃ f fd, OwnEqC K CY f ∧ FnOk P w K mg base CX0 2 f fd ["self", "other"] (spLeq CT CY) ∧ Binds K fd ["self", "other"] []
  eqS : StEqF P w K mg base CT
abbrev tLf (CY : Addr) (te : TE) : TE := tProp CY (spLf CY) [] E0 te
abbrev tLt (CY : Addr) (te : TE) : TE := tProp CY (spLt CY) [] E0 te
abbrev tLs (CY : Addr) (te : TE) : TE := tProp CY (spLs CY) [] E0 te
section
variable {X : Cx} {CT CY CL : Addr} {e : Expr} {te : TE} {pos : Pos}
theorem pe_lf (D : LayAll X.prog X.w X.K X.mg X.base CT CY CL) (hr : Room 2 X.A) (he : PE X e te) (hab : attributeBase e "files" X.env (eval e X.env) = eval e X.env := by rfl) : PE X (.Attribute e "files" pos) (tLf CY te) := by
  obtain ⟨p, g, fd, h1, h2, h3⟩ := D.prF
  exact pe_prop he D.cl h1 h2 hr h3 .nil pass0 hab
theorem pe_lt (D : LayAll X.prog X.w X.K X.mg X.base CT CY CL) (hr : Room 2 X.A) (he : PE X e te) (hab : attributeBase e "takes" X.env (eval e X.env) = eval e X.env := by rfl) : PE X (.Attribute e "takes" pos) (tLt CY te) := by
  obtain ⟨p, g, fd, h1, h2, h3⟩ := D.prT
  exact pe_prop he D.cl h1 h2 hr h3 .nil pass0 hab
theorem pe_ls (D : LayAll X.prog X.w X.K X.mg X.base CT CY CL) (hr : Room 2 X.A) (he : PE X e te) (hab : attributeBase e "store" X.env (eval e X.env) = eval e X.env := by rfl) : PE X (.Attribute e "store" pos) (tLs CY te) := by
  obtain ⟨p, g, fd, h1, h2, h3⟩ := D.prS
  exact pe_prop he D.cl h1 h2 hr h3 .nil pass0 hab
end
theorem LayAt.same {CY : Addr} {H H' : Hp} {a st d1 d2 : Addr} {fs : Fls} {ts : Tks} (S : Same H H') (h : LayAt CY H a st d1 d2 fs ts) : LayAt CY H' a st d1 d2 fs ts := by
  obtain ⟨dx, h1⟩ := h.ob
  exact ⟨⟨dx, S _ _ h1⟩, S _ _ h.gf, S _ _ h.gt⟩
theorem kvF_gF (fs : Fls) : kvF fs = (fs.map gF).map fun x => (x.1, x.2.1) := by
  unfold kvF gF
  rw [List.map_map]
  rfl
theorem kvT_gT (ts : Tks) : kvT ts = (ts.map gT).map fun x => (x.1, x.2.1) := by
  unfold kvT gT
  rw [List.map_map]
  rfl
/-- a list of new pairs, as data -/
theorem dp_items {K : PySem.W.Frag} {H : Hp} : ∀ {as : List Addr} {xs : List ItD}, Paired (fun a (x : ItD) => ∃ q, H a = some (.tup [.ref q, x.2.1]) ∧ H q = some (.tup (x.1.map kV)) ∧ Dp K H x.2.1 x.2.2) as xs → DpAll K H (as.map V.ref) (xs.map itD)
  | _, _, .nil => .nil
  | _, _, .cons ⟨q, h1, h2, h3⟩ t => .cons (.tup (SqT.of h1) (.cons (dp_tup (SqT.of h2)) (.cons h3 .nil))) (dp_items t)
theorem paired_map {α β γ : Type} {R : α → γ → Prop} {f : β → γ} : ∀ {l : List α} {m : List β}, Paired (fun a b => R a (f b)) l m → Paired R l (m.map f)
  | _, _, .nil => .nil
  | _, _, .cons a t => .cons a (paired_map t)
theorem paired_self {α β γ : Type} {f : γ → α} {g : γ → β} {R : α → β → Prop} : ∀ {l : List γ}, (∀ z ∈ l, R (f z) (g z)) → Paired R (l.map f) (l.map g)
  | [], _ => .nil
  | z :: l, h => .cons (h z (.head _)) (paired_self fun y hy => h y (.tail _ hy))
theorem paired_mem {α β : Type} {R S : α → β → Prop} : ∀ {l : List α} {m : List β}, Paired R l m → (∀ a b, b ∈ m → R a b → S a b) → Paired S l m
  | _, _, .nil, _ => .nil
  | _, _, .cons a t, h => .cons (h _ _ (.head _) a) (paired_mem t fun x y hy r => h x y (.tail _ hy) r)
theorem paired_unmap {α β γ : Type} {R : α → γ → Prop} {f : β → γ} : ∀ {l : List α} {m : List β}, Paired R l (m.map f) → Paired (fun a b => R a (f b)) l m
  | [], [], _ => .nil
  | _ :: _, _ :: _, .cons a t => .cons a (paired_unmap t)
/-- list(d1.items()) != sorted(d.items()): the same data -/
theorem same_items {K : PySem.W.Frag} {α : Type} {g : Kk × α → ItD} {v : α → Addr} {fs fs' : List (Kk × α)} {σ : L2.St} {H0 : Hp} {tl : TE} {j : Nat} {d : Addr} {Q : Bool → Hp → Prop}
    (hg : ∀ e, (g e).1 = keyL e.1 ∧ (g e).2.1 = .ref (v e.2)) (p : fs'.Perm fs) (asc : AscK fs') (nd : (fs.map (·.1)).Nodup) (len : fs.length ≤ 100) (al : ∀ e ∈ fs, ∀ e' ∈ fs, PySem.W.alike (g e).2.2 (g e').2.2 = true) (lay : ∀ e ∈ fs, PyData.strOk e.1.1 = true ∧ PyData.canLay0 (g e).2.2 = true ∧ PyData.depth (g e).2.2 ≤ 2)
    (gd : H0 d = some (.dT (kvG v fs))) (up : ∀ {H' : Hp}, Same H0 H' → ∀ e ∈ fs, Dp K H' (.ref (v e.2)) (g e).2.2) (hσ : σ[j]? = some (some (.ref d)))
    (left : ∀ Q' : VK, (∀ (D : Addr) (H' : Hp), Same H0 H' → H' D = some (.dT (kvG v fs')) → Q' (.ref D) H') → tl σ H0 Q')
    (k : ∀ H', Same H0 H' → Q false H') :
    tTest (tOp (rNeD K) (tCB (rListIt K) (tCons (tBM0 K "dict" DX.rItemsT tl) tNil)) (tCB (rSortItD K) (tCons (tBM0 K "dict" DX.rItemsT (tVar j)) tNil))) σ H0 Q := by
  have kv : ∀ l : List (Kk × α), kvG v l = (l.map g).map fun x => (x.1, x.2.1) := fun l => by
    unfold kvG
    rw [List.map_map]
    refine List.map_congr_left fun e _ => ?_
    show _ = ((g e).1, (g e).2.1)
    rw [(hg e).1, (hg e).2]
  have l1 : fs'.length = fs.length := p.length_eq
  have dpx : ∀ {H' : Hp}, Same H0 H' → ∀ x ∈ fs.map g, Dp K H' x.2.1 x.2.2 := fun {H'} S x hx => by
    obtain ⟨e, he, rfl⟩ := List.mem_map.mp hx
    rw [(hg e).2]
    exact up S e he
  refine left _ fun D H1 s1 gD => ?_
  refine ⟨.inr (.inr (.inl ⟨rfl, .inr ⟨_, gD⟩⟩)), D, _, rfl, rfl, gD, fun p1 np1 => ?_⟩
  have q1 := Same.upd_new (o := DX.itemsO p1 D) np1
  refine ⟨p1, D, _, rfl, upd_same, q1 _ _ gD, by unfold kvG; rw [List.length_map]; omega, fun H2 l as keep gl pr => ?_⟩
  have S2 : Same H0 H2 := s1.trans (q1.trans keep)
  refine ⟨_, hσ, .inr (.inr (.inl ⟨rfl, .inr ⟨_, S2 _ _ gd⟩⟩)), d, _, rfl, rfl, S2 _ _ gd, fun p2 np2 => ?_⟩
  have q2 := Same.upd_new (o := DX.itemsO p2 d) np2
  refine ⟨p2, d, fs.map g, rfl, upd_same, by rw [← kv]; exact (S2.trans q2) _ _ gd, by rw [List.length_map]; omega, fun x hx => ⟨dpx (S2.trans q2) x hx, ?_⟩, fun x hx y hy => ?_, fun H3 l2 ps keep2 perm pw gl2 each => ?_⟩
  · obtain ⟨e, he, rfl⟩ := List.mem_map.mp hx
    have := (lay e he).2.2
    omega
  · obtain ⟨x1, hx1, rfl⟩ := List.mem_map.mp hx
    obtain ⟨y1, hy1, rfl⟩ := List.mem_map.mp hy
    obtain ⟨e, he, rfl⟩ := List.mem_map.mp hx1
    obtain ⟨f, hf, rfl⟩ := List.mem_map.mp hy1
    exact it_alike ⟨e.1, f.1, (hg e).1, (hg f).1⟩ (al e he f hf)
  have S3 := S2.trans (Same.trans q2 keep2)
  have k2 := Same.trans q2 keep2
  have ei := items_sorted (fun e => (hg e).1) al nd p asc perm pw
  have inx : ∀ x ∈ fs'.map g, x ∈ fs.map g := fun x hx => by
    obtain ⟨e, he, rfl⟩ := List.mem_map.mp hx
    exact List.mem_map.mpr ⟨e, p.mem_iff.mp he, rfl⟩
  have d1 : DpAll K H3 (as.map V.ref) ((fs'.map g).map itD) := by
    rw [kv] at pr
    refine dp_items (paired_mem (paired_unmap pr) fun a x hx r => ?_)
    obtain ⟨q, h1, h2⟩ := r
    exact ⟨q, k2 _ _ h1, k2 _ _ h2, dpx S3 x (inx x hx)⟩
  have d2 : DpAll K H3 (ps.map fun z => V.ref z.1) ((fs'.map g).map itD) := by
    have h := dp_items (K := K) (H := H3) (paired_self (f := fun z : Addr × ItD => z.1) (g := fun z : Addr × ItD => z.2) (l := ps) fun z hz => by
      obtain ⟨q, h1, h2⟩ := each z hz
      exact ⟨q, h1, h2, dpx S3 z.2 (perm.mem_iff.mp (List.mem_map.mpr ⟨z, hz, rfl⟩))⟩)
    rw [List.map_map] at h
    rw [← ei]
    exact h
  have sh : SeqAt.shaped (.list ((fs'.map g).map itD)) = true := shaped_of (n := 4) (lay_list (n := 3) fun x hx => by
    obtain ⟨y, hy, rfl⟩ := List.mem_map.mp hx
    obtain ⟨e, he, rfl⟩ := List.mem_map.mp hy
    have := lay e (p.mem_iff.mp he)
    exact lay_it (hg e).1 this.1 this.2) (by decide)
  refine ⟨_, _, .lst (SqL.of (k2 _ _ gl)) d1, .lst (SqL.of gl2) d2, sh, sh, ?_⟩
  refine ⟨_, rfl, ?_⟩
  rw [SeqAt.eqv_refl _ (SeqAt.canLay_of_shaped sh)]
  exact k H3 S3
end Half

namespace Half
open PySem PySem.Spec PyProof.Rows L2 LamX
theorem next_readL {D : Ends} {σ : L2.St} {H : Hp} (h : D.nx σ H) : tNext D σ H := h
theorem if_readL {c : TT} {t u : TS} {D : Ends} {σ : L2.St} {H : Hp} (h : c σ H fun b H1 => if b = true then t D σ H1 else u D σ H1) : tIfS c t u D σ H := h
section
variable {K : PySem.W.Frag} {CT CY CL st fa ta : Addr} {es : Eds} {fs : Fls} {ts : Tks} {H H' : Hp}
theorem LayIn.same (S : Same H H') (h : LayIn K CT H st fa ta es fs ts) : LayIn K CT H' st fa ta es fs ts := by
  obtain ⟨⟨dy, tb, nb, h1, -⟩, -⟩ := id h.sto
  exact ⟨h.sto.same S, h.apF.mv h.sto fun o q => S _ _ q, h.apT.mv h.sto fun o q => S _ _ q, S _ _ h.gF, S _ _ h.gT, fun e he => ⟨(h.hF e he).1, (h.hF e he).2.1.kp S.kp, (h.hF e he).2.2⟩, fun e he => ⟨(h.hT e he).1, S.kp _ _ (h.hT e he).2.1, (h.hT e he).2.2⟩, h.lf, h.lt, h.ndF, h.ndT⟩
/-- a layout that can be is made -/
theorem lay_read {Q : VK} {E : XK} (I : LayIn K CT H st fa ta es fs ts) (hf : fs.filter (badF (keysOf es)) = []) (ht : ts.filter (badT (keysOf es)) = [])
    (k : ∀ x H' d1 d2 fs' ts', Same H H' → H x = none → LayAt CY H' x st d1 d2 fs' ts' → fs'.Perm fs → AscK fs' → ts'.Perm ts → AscK ts' → Q (.ref x) H') :
    ∀ x dx, H x = none → H dx = none → dx ≠ x → spLi K CT CY CL (.ref x :: ([.ref st, .ref fa, .ref ta] ++ [])) (upd (upd H dx (.own x)) x (.ins CY dx [])) (fun v H2 => v = .non ∧ Q (.ref x) H2) E := fun x dx nx ndx nxx => by
  have sx : Same H (upd (upd H dx (.own x)) x (.ins CY dx [])) := fun b o q => by
    rw [upd_ne (ne_of_none q nx), upd_ne (ne_of_none q ndx)]
    exact q
  refine ⟨x, dx, st, fa, ta, es, fs, ts, rfl, upd_same, I.same sx, fun _ _ H4 d1 d2 fs' ts' s4 kp4 la n1 n2 pF aF pT aT => ⟨rfl, ?_⟩, fun k0 ks m e => ?_, fun _ k0 ks m e => ?_⟩
  · exact k x H4 d1 d2 fs' ts' (fun b o q => s4 _ _ (ne_of_none q nx) (sx _ _ q)) nx la pF aF pT aT
  · rw [hf] at e; cases e
  · rw [ht] at e; cases e
theorem lay_make {Q : VK} {E : XK} {te : TE} {σ : L2.St} (e3 : σ[3]? = some (some (.ref st))) (e4 : σ[4]? = some (some (.ref fa))) (hte : ∀ Q' : VK, (∀ ta H', Same H H' → LayIn K CT H' st fa ta es fs ts → Q' (.ref ta) H') → te σ H Q') (hf : fs.filter (badF (keysOf es)) = []) (ht : ts.filter (badT (keysOf es)) = [])
    (k : ∀ x H' d1 d2 fs' ts', Same H H' → LayAt CY H' x st d1 d2 fs' ts' → fs'.Perm fs → AscK fs' → ts'.Perm ts → AscK ts' → Q (.ref x) H') : tMake CY (spLi K CT CY CL) [] E (tCons (tVar 3) (tCons (tVar 4) (tCons te tNil))) σ H Q :=
  ⟨_, e3, _, e4, hte _ fun ta H1 s1 I => lay_read I hf ht fun x H' d1 d2 fs' ts' s2 _ a b c d e => k x H' d1 d2 fs' ts' (s1.trans s2) a b c d e⟩
theorem apart_new {d : Addr} {o : HO} (h : StObj CT H st es) (n : H d = none) : Apart CT (upd H d o) st d := fun dx tb nb q => by
  obtain ⟨⟨dy, tb', nb', h1, h2, h3⟩, one⟩ := h
  have e : upd H d o st = some (.ins CT dy [("table", .ref tb'), ("numbers", .ref nb')]) := by
    rw [upd_ne (ne_of_none h1 n)]; exact h1
  rw [q] at e
  injection e with e
  injection e with _ e1 e2
  injection e2 with e3 _
  injection e3 with _ e4
  injection e4 with e5
  rw [e5]
  exact ne_of_none h2 n
theorem sameT_of {α : Type} {v : α → Addr} {l m n : List (Kk × α)} (p : l.Perm n) (q : m.Perm n) (nd : (n.map (·.1)).Nodup) : SameT v l m := fun _ e he => by
  have ndm : (m.map (·.1)).Nodup := (q.map _).nodup_iff.mpr nd
  exact val_nodup (kvG_nodup (v := v) ndm) (keyL e.1, .ref (v e.2)) (by unfold kvG; exact List.mem_map.mpr ⟨e, q.mem_iff.mpr (p.mem_iff.mp he), rfl⟩)
theorem leq_read {H0 : Hp} {fl : Bool → Bool} {a b d1 d2 e1 e2 : Addr} {fs' fs'' : Fls} {ts' ts'' : Tks} {Q : VK} (h1 : LayAt CY H a st d1 d2 fs' ts') (h2 : LayAt CY H b st e1 e2 fs'' ts'') (hO : StObj CT H st es) (sF : SameT (fun p : Addr × List (Str × V) => p.1) fs' fs'') (sT : SameT (fun p : Addr × List Str => p.1) ts' ts'')
    (q : Q (.bl (fl (decide (fs'.length = fs''.length) && decide (ts'.length = ts''.length)))) H) : rEqO CY (spLeq CT CY) fl (.ref a) (.ref b) H Q := by
  obtain ⟨dx, g1⟩ := h1.ob
  obtain ⟨dy, g2⟩ := h2.ob
  have e : (decide (es.length = es.length) && (decide (fs'.length = fs''.length) && decide (ts'.length = ts''.length))) = (decide (fs'.length = fs''.length) && decide (ts'.length = ts''.length)) := by
    rw [decide_eq_true rfl, Bool.true_and]
  refine ⟨a, b, dx, dy, _, _, rfl, rfl, g1, g2, a, b, st, st, d1, d2, e1, e2, fs', fs'', ts', ts'', es, es, rfl, h1, h2, hO, hO, fun _ e he => he, sF, sT, _, rfl, ?_⟩
  rw [e]
  exact q
end
theorem let_ok : ∀ c ∈ LET.cps.toList, decide (c < 0x110000) = true := by decide +kernel
theorem word_ok {z : Str} (h : isWord z = true) : PyData.strOk z = true := by
  unfold isWord at h
  obtain ⟨_, h⟩ := Bool.and_eq_true_iff.mp h
  unfold PyData.strOk
  rw [← Array.all_toList]
  refine List.all_eq_true.mpr fun c hc => ?_
  exact let_ok c (of_decide_eq_true (List.all_eq_true.mp h c hc))
theorem files_ok {f : List (Str × V)} (h : areFiles f = true) : ∀ p ∈ f, PyData.strOk p.1 = true := fun p hp => by
  unfold areFiles at h
  have h2 := (Bool.and_eq_true_iff.mp (Bool.and_eq_true_iff.mp h).2).1
  exact word_ok (Bool.and_eq_true_iff.mp (List.all_eq_true.mp h2 p hp)).1
theorem takes_ok {ks : List Kk} {s : List Str} {nm : Str} (h : areTakes ks s nm = true) : ∀ z ∈ s, PyData.strOk z = true := fun z hz => by
  unfold areTakes areOthers at h
  have h2 := (Bool.and_eq_true_iff.mp (Bool.and_eq_true_iff.mp h).1).1
  exact word_ok (Bool.and_eq_true_iff.mp (List.all_eq_true.mp h2 z hz)).1
section
variable {P : Program} {w : World} {K : PySem.W.Frag} {mg : Str → Option Value} {base : Heap} {C CT CY CN CL : Addr}
theorem law_same {f : Addr} {cdv : Value} {A : Around} {outer : List Env} {sh : Shared} {H0 : Hp} {E : XK} (L : LawAll P w K mg base C CT CY CN CL) (Y : LayAll P w K mg base CT CY CL)
    (hr : Room 8 (A.deeper (envOfC "law" (defScope sLaw) sh.heap.objs.size f cdv))) (nd : LawN.Nodup) :
    ∃ t, PSs (cxOf CX0 P w K mg base LawN "law" (defScope sLaw) f cdv A outer sh H0 E).nox (ifBody (nth tBody 5)) t ∧ ∀ (D' : Ends) (H : Hp) (st fa ta : Addr) (es : Eds) (fs : Fls) (ts : Tks) (x0 x1 x2 x6 x7 x8 x9 x10 x11 x12 x13 x14 x15 x16 x17 x18 : Option V),
      LayIn K CT H st fa ta es fs ts → fs.filter (badF (keysOf es)) = [] → ts.filter (badT (keysOf es)) = [] →
      (∀ H' x18, Same H H' → D'.nx [x0, x1, x2, some (.ref st), some (.ref fa), some (.ref ta), x6, x7, x8, x9, x10, x11, x12, x13, x14, x15, x16, x17, x18] H') →
      t D' [x0, x1, x2, some (.ref st), some (.ref fa), some (.ref ta), x6, x7, x8, x9, x10, x11, x12, x13, x14, x15, x16, x17, x18] H := by
  have r1 : Room 1 _ := hr.mono (by decide)
  have r2 : Room 2 _ := hr.mono (by decide)
  have r3 : Room 3 _ := hr.mono (by decide)
  have r6 : Room 6 _ := hr.mono (by decide)
  have hu := hr.units
  have hu1 := hu_of hr
  have hu40 : (A.deeper (envOfC "law" (defScope sLaw) sh.heap.objs.size f cdv)).units + 40 < cLine := Nat.lt_of_le_of_lt (Nat.add_le_add_left (by decide : 40 ≤ 64) _) hu
  obtain ⟨fi, fdi, Fi, Mi, bi, mgY⟩ := Y.ini
  obtain ⟨fy, fdy, Oy, Fy, by'⟩ := Y.eqY
  obtain ⟨fe, fde, Oe, Fe, be⟩ := Y.eqS.ex
  refine ⟨_, pss_cons (ps_set (i := 18) nd rfl (by first | exact Or.inl rfl | exact Or.inr rfl) (pe_make Mi Fi r6 rfl mgY bi .nil passL (pa_cons (pv 3) (pa_cons (pv 4) (pa_cons (pv 5) pa_nil)))))
    (pss_cons (ps_if (pt_cmpR (op_neD hu) (pe_callTy (cr_listItems rfl) (by rfl) L.gL (by decide +kernel) (pa_cons (pe_bm0 PySem.F.plainAttrs_dict PySem.F.slot_dict_items PySem.F.type_dict_items DX.mt_itemsT (pe_lf Y r2 (pv 18))) pa_nil)) (pe_callB (cr_sortItD rfl hu40) (by rfl) L.gS (by decide +kernel) (pa_cons (pe_bm0 PySem.F.plainAttrs_dict PySem.F.slot_dict_items PySem.F.type_dict_items DX.mt_itemsT (pv 4)) pa_nil)) (nomark _)) (pss_one (ps_ret pe_bl)) pss_nil)
    (pss_cons (ps_if (pt_cmpR (op_neD hu) (pe_callTy (cr_listItems rfl) (by rfl) L.gL (by decide +kernel) (pa_cons (pe_bm0 PySem.F.plainAttrs_dict PySem.F.slot_dict_items PySem.F.type_dict_items DX.mt_itemsT (pe_lt Y r2 (pv 18))) pa_nil)) (pe_callB (cr_sortItD rfl hu40) (by rfl) L.gS (by decide +kernel) (pa_cons (pe_bm0 PySem.F.plainAttrs_dict PySem.F.slot_dict_items PySem.F.type_dict_items DX.mt_itemsT (pv 5)) pa_nil)) (nomark _)) (pss_one (ps_ret pe_bl)) pss_nil)
    (pss_cons (ps_if (PW.pt (pw_or (pt_cmpR (op_neO Fe Oe be r2) (pe_ls Y r2 (pv 18)) (pv 3) (nomark _)) (pw_or1 (pt_cmpR (op_neO Fy Oy by' r3) (pv 18) (pe_make Mi Fi r6 rfl mgY bi .nil passL (pa_cons (pv 3) (pa_cons (pv 4) (pa_cons (pv 5) pa_nil)))) (nomark _))))) (pss_one (ps_ret pe_bl)) pss_nil)
    (pss_one (ps_if (pt_cmpR op_ne (pe_cmpR (op_eqO Fy Oy by' r2) (pv 18) (pe_make Mi Fi r6 rfl mgY bi .nil passL (pa_cons (pv 3) (pa_cons (pv 4) (pa_cons pe_dnewT pa_nil)))) (nomark _)) (pe_cmpR (op_eqT hu1) (pv 5) pe_dnewT (nomark _)) (nomark _)) (pss_one (ps_ret pe_bl)) pss_nil))))), ?_⟩
  intro D' H st fa ta es fs ts x0 x1 x2 x6 x7 x8 x9 x10 x11 x12 x13 x14 x15 x16 x17 x18 I hf ht k
  have goodF : ∀ e ∈ fs, areFiles e.2.2 = true := fun e he => by
    have n : ¬ badF (keysOf es) e = true := fun z => by
      have : e ∈ fs.filter (badF (keysOf es)) := List.mem_filter.mpr ⟨he, z⟩
      rw [hf] at this
      exact nomatch this
    unfold badF at n
    cases c : areFiles e.2.2 with
    | true => rfl
    | false => rw [c] at n; exact absurd (by simp) n
  have goodT : ∀ e ∈ ts, areTakes (keysOf es) e.2.2 e.1.1 = true := fun e he => by
    have n : ¬ badT (keysOf es) e = true := fun z => by
      have : e ∈ ts.filter (badT (keysOf es)) := List.mem_filter.mpr ⟨he, z⟩
      rw [ht] at this
      exact nomatch this
    unfold badT at n
    cases c : areTakes (keysOf es) e.2.2 e.1.1 with
    | true => rfl
    | false => rw [c] at n; exact absurd (by simp) n
  have okF : ∀ e ∈ fs, ∀ p ∈ e.2.2, PyData.strOk p.1 = true := fun e he => files_ok (goodF e he)
  have okT : ∀ e ∈ ts, ∀ z ∈ e.2.2, PyData.strOk z = true := fun e he => takes_ok (goodT e he)
  refine seq_read (set_readL (lay_make rfl rfl (fun Q' kQ => ⟨_, rfl, kQ ta H (Same.refl H) I⟩) hf ht fun x H1 d1 d2 fs' ts' s1 la pF aF pT aT => ?_))
  have I1 := I.same s1
  have ln1 : fs'.length = fs.length := pF.length_eq
  have ln2 : ts'.length = ts.length := pT.length_eq
  have ndF' : (fs'.map (·.1)).Nodup := (pF.map _).nodup_iff.mpr I.ndF
  have ndT' : (ts'.map (·.1)).Nodup := (pT.map _).nodup_iff.mpr I.ndT
  have lf := I.lf
  have lt := I.lt
  -- files
  dsimp only
  refine seq_read (if_readL (same_items (K := K) (α := Addr × List (Str × V)) (g := gF) (v := fun p => p.1) (fs := fs) (fs' := fs') (fun e => ⟨rfl, rfl⟩) pF aF I.ndF lf (fun e he e' he' => ?_) (fun e he => ?_) I1.gF (fun {H'} S e he => ?_) (by rfl) (fun Q' kQ => ?_) fun H2 s2 => ?_))
  · exact pDs_alike (ints_of (fun p hp => ((I.hF e he).2.2.2 p hp).2) (goodF e he)) (ints_of (fun p hp => ((I.hF e' he').2.2.2 p hp).2) (goodF e' he'))
  · exact ⟨(I.hF e he).1.1, lay_filD (okF e he)⟩
  · exact dp_files ((I1.hF e he).2.1.kp S.kp) fun p hp => ((I.hF e he).2.2.2 p hp).2
  · obtain ⟨dx, hx⟩ := la.ob
    exact ⟨_, rfl, x, dx, _, rfl, hx, x, st, d1, d2, fs', ts', rfl, la, by omega, ndF', fun H' D S nD gD => kQ D H' S gD⟩
  refine ite_no rfl (next_readL ?_)
  have la2 := la.same s2
  have I2 := I1.same s2
  dsimp only
  refine seq_read (if_readL (same_items (K := K) (α := Addr × List Str) (g := gT) (v := fun p => p.1) (fs := ts) (fs' := ts') (fun e => ⟨rfl, rfl⟩) pT aT I.ndT lt (fun e he e' he' => ?_) (fun e he => ?_) I2.gT (fun {H'} S e he => ?_) (by rfl) (fun Q' kQ => ?_) fun H3 s3 => ?_))
  · exact strs_alike _ _
  · exact ⟨(I.hT e he).1.1, lay_strsD (okT e he)⟩
  · exact .tup (S.kp _ _ (I2.hT e he).2.1) (dp_words _)
  · obtain ⟨dx, hx⟩ := la2.ob
    exact ⟨_, rfl, x, dx, _, rfl, hx, x, st, d1, d2, fs', ts', rfl, la2, by omega, ndT', fun H' D S nD gD => kQ D H' S gD⟩
  refine ite_no rfl (next_readL ?_)
  dsimp only
  have la3 := la2.same s3
  have I3 := I2.same s3
  -- the store, the layout again
  obtain ⟨dx, hx⟩ := la3.ob
  refine ⟨_, rfl, x, dx, _, rfl, hx, x, st, d1, d2, fs', ts', rfl, la3, ?_⟩
  refine ⟨_, rfl, stEq_read I3.sto I3.sto (fun _ e he => he) ?_⟩
  refine ⟨_, rfl, ?_⟩
  rw [decide_eq_true rfl]
  refine iteF ?_
  refine ⟨_, rfl, lay_make rfl rfl (fun Q' kQ => ⟨_, rfl, kQ ta H3 (Same.refl H3) I3⟩) hf ht fun y H4 e1 e2 fs'' ts'' s4 lb pF2 aF2 pT2 aT2 => ?_⟩
  have la4 := la3.same s4
  have I4 := I3.same s4
  refine leq_read (H0 := H4) la4 lb I4.sto (sameT_of pF pF2 I.ndF) (sameT_of pT pT2 I.ndT) ?_
  refine ⟨_, rfl, ?_⟩
  rw [decide_eq_true (show fs'.length = fs''.length by rw [pF.length_eq, pF2.length_eq]), decide_eq_true (show ts'.length = ts''.length by rw [pT.length_eq, pT2.length_eq])]
  refine iteF ?_
  -- without takes
  refine ⟨_, rfl, lay_make (ts := []) rfl rfl (fun Q' kQ d0 n0 => ?_) hf rfl fun z H6 e3 e4 fs3 ts3 s6 lc pF3 aF3 pT3 aT3 => ?_⟩
  · have s5 := Same.upd_new (o := .dT []) n0
    have I5 := I4.same s5
    exact kQ d0 _ s5 ⟨I5.sto, I5.apF, apart_new I4.sto n0, I5.gF, upd_same, I5.hF, fun e he => (nomatch he), I5.lf, Nat.zero_le _, I5.ndF, .nil⟩
  have e30 : ts3 = [] := List.length_eq_zero_iff.mp (by rw [pT3.length_eq]; rfl)
  subst e30
  have la6 := la4.same s6
  have I6 := I4.same s6
  refine leq_read (H0 := H6) la6 lc I6.sto (sameT_of pF pF3 I.ndF) (fun e x hx => ?_) ?_
  · rw [List.length_eq_zero_iff.mp e] at hx
    exact nomatch hx
  rw [decide_eq_true (show fs'.length = fs3.length by rw [pF.length_eq, pF3.length_eq]), Bool.true_and]
  refine ⟨_, rfl, fun d7 n7 => ?_⟩
  have s7 := Same.upd_new (o := .dT []) n7
  refine ⟨ta, d7, _, _, rfl, rfl, s7 _ _ I6.gT, upd_same, fun e p hp => ?_, ?_⟩
  · have : (kvT ts) = [] := List.length_eq_zero_iff.mp e
    rw [this] at hp
    exact nomatch hp
  have lk : (kvT ts).length = ts.length := by unfold kvT; rw [List.length_map]
  refine ⟨rfl, _, rfl, ?_⟩
  have eqb : (!decide (V.bl (id (decide (ts'.length = ([] : Tks).length))) = V.bl (decide ((kvT ts).length = ([] : List (List Key × V)).length)))) = false := by
    rw [lk, ln2]
    simp
  refine ite_no eqb ?_
  exact k _ _ ((((s1.trans s2).trans s3).trans s4).trans (s6.trans s7))
end
end Half

/-! xs != [], whatever xs holds -/
namespace L2
open PySem PySem.Spec PyProof.Rows
section
variable {X : Cx}
def rNeNil (K : PySem.W.Frag) : R2 := fun x y H Q => ∃ (a b : Addr) (xs : List V), x = .ref a ∧ y = .ref b ∧ SqL K H a xs ∧ SqL K H b [] ∧ Q (.bl (!xs.isEmpty)) H
theorem op_neNil (hu : X.A.units + 64 < cLine) : OpR X (compareOp .NotEq) (rNeNil X.K) := by
  intro pins s σ H x y v u Q I rx ry h
  obtain ⟨a, b, xs, rfl, rfl, ha, hb, q⟩ := h
  cases rx
  cases ry
  obtain ⟨its, r1, l1, _⟩ := I.list ha
  obtain ⟨jts, r2, l2, _⟩ := I.list hb
  cases r2
  have u0 : X.A.units < cLine := by omega
  cases xs with
  | nil =>
    cases r1
    have h := SeqAt.RcNeAt.lists (e := fun _ => true) l1.isList l2.isList rfl u0 (fun j h1 _ => absurd h1 (by simp))
    exact h _ _ _ _ ⟨.bl _, H, I, rfl, q⟩
  | cons x xs =>
    cases r1 with
    | cons r r1 =>
      have h := SeqAt.RcNeAt.lists_lengths l1.isList l2.isList (by simp) u0
      exact h _ _ _ _ ⟨.bl _, H, I, rfl, q⟩
end
end L2

namespace Half
open PySem PySem.Spec PyProof.Rows L2 LamX
/-! ### what is due, what is told -/
def dueD (part : Str) (m : Kk) : PyData := .tuple [.str part, kD m]
/-- the due value -/
def DueAt (H : Hp) (v : V) (W T : List Kk) : Prop :=
  (W = [] ∧ T = [] ∧ v = .non) ∨ ∃ (part : Str) (t q : Addr) (m : Kk), v = .ref t ∧ H t = some (.tup [.str part, .ref q]) ∧ KeyAt H q m ∧ ((∃ k ks, W = k :: ks ∧ leastK k ks m ∧ part = "files") ∨ (W = [] ∧ ∃ k ks, T = k :: ks ∧ leastK k ks m ∧ part = "takes"))
theorem DueAt.ext {H H' : Hp} {v : V} {W T : List Kk} (e : ExtN H H') (h : DueAt H v W T) : DueAt H' v W T := by
  rcases h with h | ⟨part, t, q, m, rfl, h1, h2, h3⟩
  · exact .inl h
  · exact .inr ⟨part, t, q, m, rfl, e _ _ h1 (by intro _ z; cases z), e _ _ h2 (by intro _ z; cases z), h3⟩
theorem DueAt.same {H H' : Hp} {v : V} {W T : List Kk} (S : Same H H') (h : DueAt H v W T) : DueAt H' v W T := h.ext (ExtN.of S)
theorem least_one {k m m' : Kk} {ks : List Kk} (h : leastK k ks m) (h' : leastK k ks m') : m = m' := by
  have e : kD m = kD m' := h.2.trans h'.2.symm
  unfold kD at e
  injection e with e
  injection e with e1 e2
  injection e1 with e1
  injection e2 with e2 _
  injection e2 with e2
  exact Prod.ext e1 e2
theorem dp_key {K : PySem.W.Frag} {H : Hp} {q : Addr} {m : Kk} (h : KeyAt H q m) : Dp K H (.ref q) (kD m) := .tup (SqT.of h) (.cons (.str _) (.cons (.int _) .nil))
theorem due_shaped {part : Str} {m : Kk} (h1 : PyData.strOk part = true) (h2 : PyData.strOk m.1 = true) : SeqAt.shaped (dueD part m) = true := shaped_of (n := 2) (lay_tup (n := 1) fun d hd => by
  rcases List.mem_cons.mp hd with rfl | hd
  · exact lay_str h1
  · rw [List.mem_singleton.mp hd]
    exact lay_kD h2) (by decide)
/-- min(keys) -/
theorem min_read {K : PySem.W.Frag} {σ : L2.St} {i : Nat} {H : Hp} {l : Addr} {k0 : Kk} {ks : List Kk} {Q : VK} (hv : σ[i]? = some (some (.ref l))) (h : ListK H l (k0 :: ks)) (q : ∀ q m, KeyAt H q m → leastK k0 ks m → Q (.ref q) H) : tCB (rMinD K) (tCons (tVar i) tNil) σ H Q := by
  obtain ⟨ps, gD, pP⟩ := h
  refine ⟨_, hv, l, ps.map V.ref, kD k0, ks.map kD, rfl, SqL.of gD, keys_dp pP, kD_all (k0 :: ks), kD_depth (k0 :: ks), fun j x hx hm => ?_⟩
  obtain ⟨p, hp1, rfl⟩ := getE hx
  obtain ⟨m, hm1, gp⟩ := paired_get pP hp1
  have hm2 : kD m = PySem.W.minD (kD k0) (ks.map kD) := by
    have e : (kD k0 :: ks.map kD)[j]? = some (kD m) := by
      rw [← List.map_cons, List.getElem?_map, hm1]
      rfl
    rw [e] at hm
    exact Option.some.inj hm
  exact q p m gp ⟨List.mem_of_getElem? hm1, hm2⟩
theorem listK_ne {K : PySem.W.Frag} {H : Hp} {l b : Addr} {W : List Kk} {Q : VK} (h : ListK H l W) (hb : H b = some (.lst [])) (q : Q (.bl (!W.isEmpty)) H) : rNeNil K (.ref l) (.ref b) H Q := by
  obtain ⟨ps, g, p⟩ := h
  refine ⟨l, b, ps.map V.ref, rfl, rfl, SqL.of g, SqL.of hb, ?_⟩
  have e : (ps.map V.ref).isEmpty = W.isEmpty := by cases p <;> rfl
  rw [e]
  exact q
section
variable {P : Program} {w : World} {K : PySem.W.Frag} {mg : Str → Option Value} {base : Heap} {C CT CY CN CL : Addr}
theorem law_end {f c PT : Addr} {A : Around} {outer : List Env} {sh : Shared} {H0 : Hp} {E : XK} (L : LawAll P w K mg base C CT CY CN CL) (Y : LayAll P w K mg base CT CY CL) (TB : TabB base mg c PT)
    (hr : Room 8 (A.deeper (envOfC "law" (defScope sLaw) sh.heap.objs.size f (.ref c)))) (nd : LawN.Nodup) :
    ∃ t, PSs (cxOf CX0 P w K mg base LawN "law" (defScope sLaw) f (.ref c) A outer sh H0 E).nox (tBody.drop 3) t ∧ ∀ (D' : Ends) (H : Hp) (r a st fa ta lw lb : Addr) (es : Eds) (fs : Fls) (ts : Tks) (x0 x2 x8 x9 x10 x11 x12 x13 x14 x15 x16 x17 x18 : Option V),
      Lo K CT r a st fa ta es fs ts H → Tabs [(PT, lamQ)] H → ListK H lw ((fs.filter (badF (keysOf es))).map (·.1)) → ListK H lb ((ts.filter (badT (keysOf es))).map (·.1)) → (fs.map (·.1)).Nodup → (ts.map (·.1)).Nodup → fs.length ≤ 100 → ts.length ≤ 100 →
      (∀ H' x17 x18, Row K H' r a → Tabs [(PT, lamQ)] H' → D'.nx [x0, some (.ref r), x2, some (.ref st), some (.ref fa), some (.ref ta), some (.ref lw), some (.ref lb), x8, x9, x10, x11, x12, x13, x14, x15, x16, x17, x18] H') →
      t D' [x0, some (.ref r), x2, some (.ref st), some (.ref fa), some (.ref ta), some (.ref lw), some (.ref lb), x8, x9, x10, x11, x12, x13, x14, x15, x16, x17, x18] H := by
  have hu := hr.units
  have hu40 : (A.deeper (envOfC "law" (defScope sLaw) sh.heap.objs.size f (.ref c))).units + 40 < cLine := Nat.lt_of_le_of_lt (Nat.add_le_add_left (by decide : 40 ≤ 64) _) hu
  obtain ⟨g, oc', od', dV', kV', doc', pm', an', cdv', ct', osl', gR, kR, lkR, hcR, bR⟩ := Y.told.ex
  obtain ⟨fi, fdi, Fi, Mi, bi, mgY⟩ := Y.ini
  obtain ⟨tS, hS, rdS⟩ := law_same (f := f) (cdv := .ref c) (A := A) (outer := outer) (sh := sh) (H0 := H0) (E := E) L Y hr nd
  refine ⟨_, pss_cons (ps_set (i := 17) nd rfl (by first | exact Or.inl rfl | exact Or.inr rfl) (pe_ifExp (pt_cmpR (op_neNil hu) (pv 6) (pe_lst pa_nil) (nomark _)) (pe_tup (pa_cons pe_str (pa_cons (pe_callB (cr_minD rfl hu40) (by rfl) L.gM (by decide +kernel) (pa_cons (pv 6) pa_nil)) pa_nil)))
      (pe_ifExp (pt_cmpR (op_neNil hu) (pv 7) (pe_lst pa_nil) (nomark _)) (pe_tup (pa_cons pe_str (pa_cons (pe_callB (cr_minD rfl hu40) (by rfl) L.gM (by decide +kernel) (pa_cons (pv 7) pa_nil)) pa_nil))) pe_non)))
    (pss_cons (ps_if (pt_cmpR (op_neD hu) (pe_lamcall (T := [(PT, lamQ)]) (TT := TTd CL) (k := 6) (t := fun E => tMake CY (spLi K CT CY CL) [] E (tCons (tVar 3) (tCons (tVar 4) (tCons (tVar 5) tNil)))) rfl gR kR lkR hcR bR scTd rfl (Or.inl rfl) (td_gives Y.T) TB rfl (List.mem_cons_self ..)
        (fun p hp _ => by rw [List.mem_singleton.mp hp]; rfl) hr (lamS_by (sc := defScope sLaw) (by decide +kernel)) rfl (fun _ _ _ _ _ => rfl)
        (fun A outer s H E f c' hr' => pe_make Mi Fi hr' rfl mgY bi .nil (passes_call (takes_of rfl rfl rfl rfl) (fun _ _ _ _ h => h)) (pa_cons (pv 3) (pa_cons (pv 4) (pa_cons (pv 5) pa_nil))))) (pv 17) (nomark _)) (pss_one (ps_ret pe_bl)) pss_nil)
    (pss_one (ps_if (pt_cmp (pc_isN (pv 17))) hS pss_nil))), ?_⟩
  intro D' H r a st fa ta lw lb es fs ts x0 x2 x8 x9 x10 x11 x12 x13 x14 x15 x16 x17 x18 h tab hw hb ndF ndT lf lt k
  -- what is due
  have due : ∀ Q : VK, (∀ v H', Same H H' → DueAt H' v ((fs.filter (badF (keysOf es))).map (·.1)) ((ts.filter (badT (keysOf es))).map (·.1)) → Q v H') →
      tIf (tTest (tOp (rNeNil K) (tVar 6) (tLst tNil))) (tTup (tCons (tC (.str "files")) (tCons (tCB (rMinD K) (tCons (tVar 6) tNil)) tNil))) (tIf (tTest (tOp (rNeNil K) (tVar 7) (tLst tNil))) (tTup (tCons (tC (.str "takes")) (tCons (tCB (rMinD K) (tCons (tVar 7) tNil)) tNil))) (tC .non))
        [x0, some (.ref r), x2, some (.ref st), some (.ref fa), some (.ref ta), some (.ref lw), some (.ref lb), x8, x9, x10, x11, x12, x13, x14, x15, x16, x17, x18] H Q := by
    intro Q kQ
    refine ⟨_, rfl, Nat.zero_le _, fun b nb => ?_⟩
    have s1 := Same.upd_new (o := .lst []) nb
    have gb : upd H b (.lst []) b = some (.lst []) := upd_same
    generalize upd H b (.lst []) = H1 at s1 gb ⊢
    have hw1 := hw.same s1
    have hb1 := hb.same s1
    refine listK_ne hw1 gb ?_
    refine ⟨_, rfl, ?_⟩
    generalize (fs.filter (badF (keysOf es))).map (·.1) = W at hw1 kQ ⊢
    generalize (ts.filter (badT (keysOf es))).map (·.1) = T at hb1 kQ ⊢
    cases W with
    | cons k0 ks =>
      refine iteT ?_
      refine min_read rfl hw1 fun q m hq hm => ?_
      refine ⟨two_le, fun t nt => ?_⟩
      have s2 := Same.upd_new (o := .tup [.str "files", .ref q]) nt
      exact kQ _ _ (s1.trans s2) (.inr ⟨"files", t, q, m, rfl, upd_same, s2 _ _ hq, .inl ⟨k0, ks, rfl, hm, rfl⟩⟩)
    | nil =>
      refine iteF ?_
      refine ⟨_, rfl, Nat.zero_le _, fun b2 nb2 => ?_⟩
      have s2 := Same.upd_new (o := .lst []) nb2
      have gb2 : upd H1 b2 (.lst []) b2 = some (.lst []) := upd_same
      generalize upd H1 b2 (.lst []) = H2 at s2 gb2 ⊢
      have hb2 := hb1.same s2
      refine listK_ne hb2 gb2 ?_
      refine ⟨_, rfl, ?_⟩
      cases T with
      | cons k0 ks =>
        refine iteT ?_
        refine min_read rfl hb2 fun q m hq hm => ?_
        refine ⟨two_le, fun t nt => ?_⟩
        have s3 := Same.upd_new (o := .tup [.str "takes", .ref q]) nt
        exact kQ _ _ ((s1.trans s2).trans s3) (.inr ⟨"takes", t, q, m, rfl, upd_same, s3 _ _ hq, .inr ⟨rfl, k0, ks, rfl, hm, rfl⟩⟩)
      | nil =>
        refine iteF ?_
        exact kQ _ _ (s1.trans s2) (.inl ⟨rfl, rfl, rfl⟩)
  refine seq_read (set_readL (due _ fun v H1 s1 hv => ?_))
  dsimp only
  have h1 := h.same s1
  have tab1 := tab.ext s1
  refine ⟨tab1, fun H2 e2 T2 => ?_⟩
  have h2 := h1.ext e2
  have hv2 := hv.ext e2
  have okW : ∀ m ∈ (fs.filter (badF (keysOf es))).map (·.1), PyData.strOk m.1 = true := fun m hm => by
    obtain ⟨e, he, rfl⟩ := List.mem_map.mp hm
    exact (h.hF e (List.mem_filter.mp he).1).1.1
  have okT : ∀ m ∈ (ts.filter (badT (keysOf es))).map (·.1), PyData.strOk m.1 = true := fun m hm => by
    obtain ⟨e, he, rfl⟩ := List.mem_map.mp hm
    exact (h.hT e (List.mem_filter.mp he).1).1.1
  have mt : ∀ {l : List (Kk × Addr × List (Str × V))}, l.map (·.1) = [] → l = [] := fun {l} e => List.map_eq_nil_iff.mp e
  refine ⟨_, rfl, _, rfl, _, rfl, fun x dx nx ndx nxx => ?_⟩
  have sx : Same H2 (upd (upd H2 dx (.own x)) x (.ins CY dx [])) := fun b o q => by
    rw [upd_ne (ne_of_none q nx), upd_ne (ne_of_none q ndx)]
    exact q
  -- the layout is refused, and told
  have told : ∀ (part : Str) (k0 : Kk) (ks : List Kk) (m : Kk) (H4 : Hp) (dd q : Addr) (Q : VK), PyData.strOk part = true → PyData.strOk m.1 = true → Same H2 H4 → H4 dd = some (.xd [("key", .ref q), ("part", .str part)]) → KeyAt H4 q m →
      (∃ t0 q0 m0, v = .ref t0 ∧ H4 t0 = some (.tup [.str part, .ref q0]) ∧ KeyAt H4 q0 m0 ∧ m0 = m) → (∀ H5, Same H4 H5 → Q (.bl false) H5) →
      ∀ t, H4 t = none → rNeD K (.ref t) v (upd H4 t (.tup [.str part, .ref q])) Q := by
    intro part k0 ks m H4 dd q Q op om s4 gdd gq hd kQ t nt
    obtain ⟨t0, q0, m0, rfl, g0, gq0, rfl⟩ := hd
    have s5 := Same.upd_new (o := .tup [.str part, .ref q]) nt
    have sh := due_shaped op om
    refine ⟨dueD part m0, dueD part m0, .tup (SqT.of upd_same) (.cons (.str _) (.cons (dp_key (s5 _ _ gq)) .nil)), .tup (SqT.of (s5 _ _ g0)) (.cons (.str _) (.cons (dp_key (s5 _ _ gq0)) .nil)), sh, sh, ?_⟩
    rw [SeqAt.eqv_refl _ (SeqAt.canLay_of_shaped sh)]
    exact kQ _ s5
  refine ⟨x, dx, st, fa, ta, es, fs, ts, rfl, upd_same, (h2.same sx).layIn ndF ndT lf lt, fun hW hT H4 d1 d2 fs' ts' s4 kp4 la n1 n2 pF aF pT aT => ⟨rfl, ?_⟩, fun k0 ks m hW hm H4 dd q s4 gdd gq => ?_, fun hW k0 ks m hT hm H4 dd q s4 gdd gq => ?_⟩
  · have s24 : Same H2 H4 := fun b o q => s4 _ _ (ne_of_none q nx) (sx _ _ q)
    rcases hv2 with ⟨_, _, rfl⟩ | ⟨part, t, q, m, _, _, _, z⟩
    · refine ⟨_, rfl, .none, .none, .non, .non, by decide +kernel, by decide +kernel, _, rfl, ?_⟩
      refine ite_no (by decide +kernel) (next_readL ?_)
      dsimp only
      refine ⟨_, rfl, _, rfl, ?_⟩
      refine ite_yes rfl ?_
      refine rdS _ _ st fa ta es fs ts _ _ _ _ _ _ _ _ _ _ _ _ _ _ _ _ ((h2.same s24).layIn ndF ndT lf lt) hW hT fun H5 y18 s5 => ?_
      exact k _ _ _ ((h2.same s24).same s5).row (T2.ext (s24.trans s5))
    · rw [hW, hT] at z
      rcases z with ⟨_, _, z, _⟩ | ⟨_, _, _, z, _⟩ <;> cases z
  · have s24 : Same H2 H4 := sx.trans s4
    have hd : ∃ t0 q0 m0, v = .ref t0 ∧ H4 t0 = some (.tup [.str "files", .ref q0]) ∧ KeyAt H4 q0 m0 ∧ m0 = m := by
      rcases hv2 with ⟨z, _⟩ | ⟨part, t, q0, m0, rfl, h1, h2, h3⟩
      · rw [hW] at z; cases z
      · rcases h3 with ⟨k1, ks1, e, l1, rfl⟩ | ⟨z, _⟩
        · rw [hW] at e
          injection e with e1 e2
          subst e1 e2
          exact ⟨t, q0, m0, rfl, s24 _ _ h1, s24 _ _ h2, least_one l1 hm⟩
        · rw [hW] at z; cases z
    have vr : ∃ t0, v = .ref t0 := let ⟨t0, _, _, e, _⟩ := hd; ⟨t0, e⟩
    refine ⟨rfl, dd, q, "files", rfl, gdd, fun t nt => ⟨_, rfl, told "files" k0 ks m H4 dd q _ (by decide +kernel) (okW m (by rw [hW]; exact hm.1)) s24 gdd gq hd (fun H5 s5 => ⟨_, rfl, ite_no rfl (next_readL ?_)⟩) t nt⟩⟩
    dsimp only
    obtain ⟨t0, rfl⟩ := vr
    refine ⟨_, rfl, _, rfl, ?_⟩
    refine ite_no rfl (next_readL ?_)
    exact k _ _ _ ((h2.same s24).same s5).row (T2.ext (s24.trans s5))
  · have s24 : Same H2 H4 := sx.trans s4
    have hd : ∃ t0 q0 m0, v = .ref t0 ∧ H4 t0 = some (.tup [.str "takes", .ref q0]) ∧ KeyAt H4 q0 m0 ∧ m0 = m := by
      rcases hv2 with ⟨_, z, _⟩ | ⟨part, t, q0, m0, rfl, h1, h2, h3⟩
      · rw [hT] at z; cases z
      · rcases h3 with ⟨k1, ks1, e, l1, rfl⟩ | ⟨_, k1, ks1, e, l1, rfl⟩
        · rw [hW] at e; cases e
        · rw [hT] at e
          injection e with e1 e2
          subst e1 e2
          exact ⟨t, q0, m0, rfl, s24 _ _ h1, s24 _ _ h2, least_one l1 hm⟩
    have vr : ∃ t0, v = .ref t0 := let ⟨t0, _, _, e, _⟩ := hd; ⟨t0, e⟩
    refine ⟨rfl, dd, q, "takes", rfl, gdd, fun t nt => ⟨_, rfl, told "takes" k0 ks m H4 dd q _ (by decide +kernel) (okT m (by rw [hT]; exact hm.1)) s24 gdd gq hd (fun H5 s5 => ⟨_, rfl, ite_no rfl (next_readL ?_)⟩) t nt⟩⟩
    dsimp only
    obtain ⟨t0, rfl⟩ := vr
    refine ⟨_, rfl, _, rfl, ?_⟩
    refine ite_no rfl (next_readL ?_)
    exact k _ _ _ ((h2.same s24).same s5).row (T2.ext (s24.trans s5))
end
end Half

namespace Half
open PySem PySem.Spec PyProof.Rows L2 LamX
/-! ### one turn, the law -/
theorem okK_of {k : Kk} (h : k.1 ∈ PN4) (h1 : 0 ≤ k.2) (h2 : k.2 ≤ 1000) : OkK k := by
  have all : ∀ x ∈ PN4, PyData.strOk x = true ∧ (reprText x).length ≤ 1000 := by decide +kernel
  obtain ⟨a, b⟩ := all _ h
  obtain ⟨n, hn⟩ : ∃ n : Nat, k.2 = (n : Int) := ⟨k.2.toNat, by omega⟩
  obtain ⟨c, d⟩ := small_text n (by omega)
  unfold OkK
  rw [hn]
  exact ⟨a, b, d, Nat.le_trans c (by decide)⟩
theorem refs_row {ps : List Addr} {x : Addr} {y z w : Int} (e : HO.lst (ps.map V.ref) = .lst [.ref x, .int y, .int z, .int w]) : False := by
  injection e with e
  match ps, e with
  | [], e => cases e
  | [_], e => cases e
  | _ :: _ :: _, e =>
    injection e with _ e
    injection e with e _
    cases e
theorem drKs {K : PySem.W.Frag} {r a l : Addr} {ks : List Kk} {H H' : Hp} (f : Fw H H') (h : ListK H l ks) : ListK H' l ks := h.mv f
/-- the keys that are walked -/
abbrev moreKs (ks : List Kk) : List Kk := ks ++ ([("db", 9), ("web", 1)] : List Kk)
theorem more_nd {ks : List Kk} (nd : ks.Nodup) (h : ∀ k ∈ ks, k.1 ∈ PN3 ∧ 1 ≤ k.2 ∧ k.2 ≤ 3) : (moreKs ks).Nodup := by
  refine List.nodup_append.mpr ⟨nd, by decide +kernel, fun a ha b hb e => ?_⟩
  rw [e] at ha
  obtain ⟨h1, h2, h3⟩ := h b ha
  rcases List.mem_cons.mp hb with rfl | hb
  · exact absurd h3 (by decide)
  · rw [List.mem_singleton.mp hb] at h1
    exact absurd h1 (by decide +kernel)
theorem more_in {ks : List Kk} (h : ∀ k ∈ ks, k.1 ∈ PN3 ∧ 1 ≤ k.2 ∧ k.2 ≤ 3) : ∀ k ∈ moreKs ks, k.1 ∈ PN4 ∧ 0 ≤ k.2 ∧ k.2 ≤ 1000 := fun k hk => by
  rcases List.mem_append.mp hk with q | q
  · obtain ⟨h1, h2, h3⟩ := h k q
    exact ⟨pn3_in h1, by omega, by omega⟩
  · rcases List.mem_cons.mp q with rfl | q
    · exact ⟨by decide +kernel, by decide, by decide⟩
    · rw [List.mem_singleton.mp q]
      exact ⟨by decide +kernel, by decide, by decide⟩
/-- the keys drawn are among those walked so far -/
structure SoFar {α : Type} (ks : List Kk) (i : Nat) (l : List (Kk × α)) : Prop where
  sub : ∀ x ∈ l, x.1 ∈ ks.take i
  nd : (l.map (·.1)).Nodup
  len : l.length ≤ i
theorem SoFar.new {α : Type} {ks : List Kk} {i : Nat} {l : List (Kk × α)} {k : Kk} (nd : ks.Nodup) (h : SoFar ks i l) (hk : ks[i]? = some k) : k ∉ l.map (·.1) := fun z => by
  obtain ⟨x, hx, e⟩ := List.mem_map.mp z
  have := h.sub x hx
  rw [e] at this
  exact nodup_take nd hk this
theorem SoFar.next {α : Type} {ks : List Kk} {i : Nat} {l l' : List (Kk × α)} {k : Kk} (nd : ks.Nodup) (h : SoFar ks i l) (hk : ks[i]? = some k) (hl : l' = l ∨ ∃ v, l' = l ++ [(k, v)]) : SoFar ks (i + 1) l' := by
  have new := h.new nd hk
  have up : ∀ x ∈ l, x.1 ∈ ks.take (i + 1) := fun x hx => by rw [take_next hk]; exact List.mem_append.mpr (.inl (h.sub x hx))
  rcases hl with rfl | ⟨v, rfl⟩
  · exact ⟨up, h.nd, Nat.le_succ_of_le h.len⟩
  · refine ⟨fun x hx => ?_, ?_, by rw [List.length_append]; exact Nat.succ_le_succ h.len⟩
    · rcases List.mem_append.mp hx with q | q
      · exact up x q
      · rw [List.mem_singleton.mp q, take_next hk]
        exact List.mem_append.mpr (.inr (.head _))
    · rw [List.map_append]
      refine List.nodup_append.mpr ⟨h.nd, List.nodup_cons.mpr ⟨fun z => (nomatch z), .nil⟩, fun a ha b hb e => ?_⟩
      rw [e, List.mem_singleton.mp hb] at ha
      exact new ha
section
variable {P : Program} {w : World} {K : PySem.W.Frag} {mg : Str → Option Value} {base : Heap} {C CT CY CN CL : Addr}
theorem law_turn {f c PT : Addr} {A : Around} {outer : List Env} {sh : Shared} {H0 : Hp} {E : XK} (L : LawAll P w K mg base C CT CY CN CL) (Y : LayAll P w K mg base CT CY CL) (TB : TabB base mg c PT)
    (hr : Room 8 (A.deeper (envOfC "law" (defScope sLaw) sh.heap.objs.size f (.ref c)))) (nd : LawN.Nodup) :
    ∃ t, PSs (cxOf CX0 P w K mg base LawN "law" (defScope sLaw) f (.ref c) A outer sh H0 E).nox tBody t ∧ ∀ (D' : Ends) (H : Hp) (r a : Addr) (x0 x2 x3 x4 x5 x6 x7 x8 x9 x10 x12 x13 x15 x16 x17 x18 : Option V),
      Row K H r a → Tabs [(PT, lamQ)] H →
      (∀ H' x3 x4 x5 x6 x7 x8 x9 x10 x12 x13 x15 x16 x17 x18, Row K H' r a → Tabs [(PT, lamQ)] H' → D'.nx [x0, some (.ref r), x2, x3, x4, x5, x6, x7, x8, x9, x10, none, x12, x13, none, x15, x16, x17, x18] H') →
      t D' [x0, some (.ref r), x2, x3, x4, x5, x6, x7, x8, x9, x10, none, x12, x13, none, x15, x16, x17, x18] H := by
  have r3 : Room 3 _ := hr.mono (by decide)
  have hu := hr.units
  obtain ⟨tE, hE, rdE⟩ := law_end (f := f) (c := c) (PT := PT) (A := A) (outer := outer) (sh := sh) (H0 := H0) (E := E) L Y TB hr nd
  obtain ⟨tK, hK, rdK⟩ := law_key (f := f) (cdv := .ref c) (A := A) (outer := outer) (sh := sh) (H0 := H0) (E := E) L hr nd
  refine ⟨_, pss_cons (ps_set (i := 3) nd rfl (by first | exact Or.inl rfl | exact Or.inr rfl) (pe_def L.dSto hr rfl (pa_cons (pv 1) (pa_cons pe_int pa_nil))))
    (pss_cons (ps_asg (pe_tup (pa_cons pe_dnewT (pa_cons pe_dnewT (pa_cons (pe_lst pa_nil) (pa_cons (pe_lst pa_nil) pa_nil))))) (pg_tup rfl (pgs_cons (pg_name (i := 4) nd rfl (by first | exact Or.inl rfl | exact Or.inr rfl)) (pgs_cons (pg_name (i := 5) nd rfl (by first | exact Or.inl rfl | exact Or.inr rfl)) (pgs_cons (pg_name (i := 6) nd rfl (by first | exact Or.inl rfl | exact Or.inr rfl)) (pgs_cons (pg_name (i := 7) nd rfl (by first | exact Or.inl rfl | exact Or.inr rfl)) pgs_nil))))))
    (pss_cons (ps_for PassesOwn.never rfl (pi_list (pe_op op_cat (pe_def L.dKs r3 rfl (pa_cons (pv 3) pa_nil)) (pe_lst (pa_cons (pe_tup (pa_cons pe_str (pa_cons pe_int pa_nil))) (pa_cons (pe_tup (pa_cons pe_str (pa_cons pe_int pa_nil))) pa_nil))))) (pg_name (i := 8) nd rfl (by first | exact Or.inl rfl | exact Or.inr rfl)) hK)
      hE)), ?_⟩
  intro D' H r a x0 x2 x3 x4 x5 x6 x7 x8 x9 x10 x12 x13 x15 x16 x17 x18 R tab k
  refine ⟨_, rfl, r, a, 3, rfl, R, by decide, by decide, fun st es ns H1 nst d1 hO1 hX1 dr => ?_⟩
  have rt := dr.right
  have R1 := d1.row R
  have tab1 := Tabs.fw (Fw.dr R d1) tab
  have keys : ∀ k ∈ keysOf es.eds, k.1 ∈ PN3 ∧ 1 ≤ k.2 ∧ k.2 ≤ 3 := fun k hk => by
    rw [keys_eds] at hk
    obtain ⟨e0, he0, rfl⟩ := List.mem_map.mp hk
    obtain ⟨e1, he1, rfl⟩ := List.mem_map.mp he0
    exact ⟨rt.txt e1 he1, rt.ver e1 he1⟩
  have lenK : (keysOf es.eds).length ≤ 6 := by
    rw [keys_eds, List.length_map, List.length_map]
    exact rt.few
  have ef : es.eds.length ≤ 40 := by
    have := rt.few
    unfold Es.eds
    rw [List.length_map]
    omega
  generalize es.eds = eds at hO1 keys lenK ef
  -- the new dicts and lists
  refine fun fa nfa ta nta => ⟨Nat.zero_le _, fun lw nlw => ⟨Nat.zero_le _, fun lb nlb => ⟨(by show 4 ≤ sizeLine; decide), fun tp ntp => ?_⟩⟩⟩
  have s1 := Same.upd_new (o := .dT []) nfa
  have s2 := Same.upd_new (o := .dT []) nta
  have s3 := Same.upd_new (o := .lst []) nlw
  have s4 := Same.upd_new (o := .lst []) nlb
  have s5 := Same.upd_new (o := .tup [.ref fa, .ref ta, .ref lw, .ref lb]) ntp
  have net : fa ≠ ta := fun e => by rw [← e, upd_same] at nta; cases nta
  have S25 := (s2.trans s3).trans (s4.trans s5)
  have gFa := S25 _ _ (upd_same (a := fa) (o := .dT []) (H := H1))
  have gTa := ((s3.trans s4).trans s5) _ _ (upd_same (a := ta) (o := .dT []) (H := upd H1 fa (.dT [])))
  have gLw := (s4.trans s5) _ _ (upd_same (a := lw) (o := .lst []) (H := upd (upd H1 fa (.dT [])) ta (.dT [])))
  have gLb := s5 _ _ (upd_same (a := lb) (o := .lst []) (H := upd (upd (upd H1 fa (.dT [])) ta (.dT [])) lw (.lst [])))
  have apF := (apart_new (o := .dT []) hO1 nfa).mv (hO1.same s1) (fun o q => S25 _ _ q)
  have apT := (apart_new (o := .dT []) (hO1.same s1) nta).mv ((hO1.same s1).same s2) (fun o q => ((s3.trans s4).trans s5) _ _ q)
  have gTp : SqT K (upd (upd (upd (upd (upd H1 fa (.dT [])) ta (.dT [])) lw (.lst [])) lb (.lst [])) tp (.tup [.ref fa, .ref ta, .ref lw, .ref lb])) tp [.ref fa, .ref ta, .ref lw, .ref lb] := SqT.of upd_same
  have S5 := s1.trans S25
  generalize upd (upd (upd (upd (upd H1 fa (.dT [])) ta (.dT [])) lw (.lst [])) lb (.lst [])) tp (.tup [.ref fa, .ref ta, .ref lw, .ref lb]) = H5 at S5 gFa gTa gLw gLb apF apT gTp ⊢
  refine ⟨tp, _, rfl, gTp, rfl, ?_⟩
  have lo5 : Lo K CT r a st fa ta eds [] [] H5 := ⟨R1.same' S5, hO1.same S5, apF, apT, gFa, gTa, fun e he => (nomatch he), fun e he => (nomatch he), net⟩
  -- the keys
  refine ⟨_, _, rfl, _, _, rfl, _, _, rfl, _, _, rfl, rfl, ?_⟩
  dsimp only
  refine ⟨_, rfl, st, eds, rfl, lo5.sto, ef, fun H6 kl qs ks s6 nkl gkl pk ndk sub => ?_⟩
  refine ⟨two_le, fun p1 np1 => ⟨two_le, fun p2 np2 => ⟨two_le, fun l2 nl2 => ?_⟩⟩⟩
  have t1 := Same.upd_new (o := .tup [.str "db", .int 9]) np1
  have t2 := Same.upd_new (o := .tup [.str "web", .int 1]) np2
  have t3 := Same.upd_new (o := .lst [.ref p1, .ref p2]) nl2
  have T3 := (t1.trans t2).trans t3
  have q1 := (t2.trans t3) _ _ (upd_same (a := p1) (o := .tup [.str "db", .int 9]) (H := H6))
  have q2 := t3 _ _ (upd_same (a := p2) (o := .tup [.str "web", .int 1]) (H := upd H6 p1 (.tup [.str "db", .int 9])))
  have gl2 : (upd (upd (upd H6 p1 (.tup [.str "db", .int 9])) p2 (.tup [.str "web", .int 1])) l2 (.lst [.ref p1, .ref p2])) l2 = some (.lst [.ref p1, .ref p2]) := upd_same
  generalize upd (upd (upd H6 p1 (.tup [.str "db", .int 9])) p2 (.tup [.str "web", .int 1])) l2 (.lst [.ref p1, .ref p2]) = H7 at T3 q1 q2 gl2 ⊢
  have lk6 : ks.length ≤ 6 := by
    have := len_sub ndk sub
    omega
  have lq := Paired.length pk
  refine ⟨kl, l2, _, _, rfl, rfl, T3 _ _ gkl, gl2, by rw [List.length_map, sizeLine_eq]; show _ + 2 ≤ _; omega, fun ll nll => ?_⟩
  have t4 := Same.upd_new (o := .lst (qs.map V.ref ++ [.ref p1, .ref p2])) nll
  have gll : ListK (upd H7 ll (.lst (qs.map V.ref ++ [.ref p1, .ref p2]))) ll (moreKs ks) := ⟨qs ++ [p1, p2], by rw [upd_same, List.map_append]; rfl, paired_two (paired_imp (fun q k h => (T3.trans t4) _ _ h) pk) (.cons (t4 _ _ q1) (.cons (t4 _ _ q2) .nil))⟩
  have S8 := s6.trans (T3.trans t4)
  generalize upd H7 ll (.lst (qs.map V.ref ++ [.ref p1, .ref p2])) = H8 at gll S8 ⊢
  have lo8 := lo5.same S8
  have tab8 := tab1.ext (S5.trans S8)
  have inK := more_in (ks := ks) fun k hk => keys k (sub k hk)
  have ndK := more_nd ndk fun k hk => keys k (sub k hk)
  have lenM : (moreKs ks).length ≤ 8 := by
    show (ks ++ ([("db", 9), ("web", 1)] : List Kk)).length ≤ 8
    rw [List.length_append]
    show _ + 2 ≤ 8
    omega
  have hw8 : ListK H8 lw ((([] : Fls).filter (badF (keysOf eds))).map (·.1)) := ⟨[], S8 _ _ gLw, .nil⟩
  have hb8 : ListK H8 lb ((([] : Tks).filter (badT (keysOf eds))).map (·.1)) := ⟨[], S8 _ _ gLb, .nil⟩
  obtain ⟨ps, gps, pps⟩ := id gll
  refine ⟨ll, rfl, ⟨_, SqL.of gps⟩, ?_⟩
  have lp := Paired.length pps
  refine for_it (walk_list (xs := ps.map V.ref)) (fun i σ H' => ∃ lw lb fs ts x8 x9 x10 x12 x13 x15 x16, σ = [x0, some (.ref r), x2, some (.ref st), some (.ref fa), some (.ref ta), some (.ref lw), some (.ref lb), x8, x9, x10, none, x12, x13, none, x15, x16, x17, x18] ∧ Lo K CT r a st fa ta eds fs ts H' ∧ ListK H' lw ((fs.filter (badF (keysOf eds))).map (·.1)) ∧ ListK H' lb ((ts.filter (badT (keysOf eds))).map (·.1)) ∧ Fw H8 H' ∧ SoFar (moreKs ks) i fs ∧ SoFar (moreKs ks) i ts)
    ⟨lw, lb, [], [], _, _, _, _, _, _, _, rfl, lo8, hw8, hb8, fun _ _ h _ _ => h, ⟨fun _ h => (nomatch h), .nil, Nat.le_refl _⟩, ⟨fun _ h => (nomatch h), .nil, Nat.le_refl _⟩⟩ ?_ ?_ ?_
  · rintro i σ H' _ ⟨lw, lb, fs, ts, x8, x9, x10, x12, x13, x15, x16, rfl, lo, hw, hb, fw, sf, st'⟩
    refine SqL.of (fw _ _ gps (by intro _ z; cases z) fun x y z w e => refs_row e)
  · rintro i v σ H9 H10 hi ⟨lw, lb, fs, ts, x8, x9, x10, x12, x13, x15, x16, rfl, lo, hw, hb, fw, sf, st'⟩ ⟨rfl, hv⟩
    obtain ⟨kq, hkq, rfl⟩ := getE hv
    obtain ⟨key, hkey, gk⟩ := paired_get pps hkq
    rw [List.length_map] at hi
    have gk9 : KeyAt H10 kq key := fw _ _ gk (by intro _ z; cases z) (by intro _ _ _ _ z; cases z)
    obtain ⟨kn, k0, k9⟩ := inK key (List.mem_of_getElem? hkey)
    have lf := sf.len
    have lt := st'.len
    refine rdK _ _ r a st fa ta lw lb kq eds fs ts key x0 x2 x9 x10 x12 x13 x15 x16 x17 x18 lo hw hb gk9 kn (okK_of kn k0 k9) (sf.new ndK hkey) (by omega) (st'.new ndK hkey) st'.nd (by omega) (fun k hk => (keys k hk).1) fun H11 lw' lb' fs' ts' y9 y10 y12 y13 y15 y16 lo' hw' hb' fw' hf ht => ?_
    exact ⟨lw', lb', fs', ts', _, _, _, _, _, _, _, rfl, lo', hw', hb', fw.trans fw', sf.next ndK hkey (by rcases hf with q | ⟨af, f, q⟩; exact .inl q; exact .inr ⟨_, q⟩), st'.next ndK hkey (by rcases ht with q | ⟨af, f, q⟩; exact .inl q; exact .inr ⟨_, q⟩)⟩
  · rintro σ H9 ⟨lw, lb, fs, ts, x8, x9, x10, x12, x13, x15, x16, rfl, lo, hw, hb, fw, sf, st'⟩
    have lf := sf.len
    have lt := st'.len
    rw [List.length_map] at lf lt
    refine rdE _ _ r a st fa ta lw lb eds fs ts _ _ _ _ _ _ _ _ _ _ _ _ _ lo (Tabs.fw fw tab8) hw hb sf.nd st'.nd (by omega) (by omega) fun H10 y17 y18 R10 T10 => ?_
    exact k H10 _ _ _ _ _ _ _ _ _ _ _ _ _ _ R10 T10
def spLaw (K : PySem.W.Frag) (PT : Addr) : Sp := fun vs H Q _ => ∃ (a : Addr) (ns : List Int), vs = [.ref a] ∧ SqL K H a (ns.map V.int) ∧ ns.length ≤ 63 ∧ H PT = some (.tbl #[]) ∧ ∀ H', Q (.bl true) H'
theorem ok_law {f c PT : Addr} {oc kV doc pm ct : Value} {od an : Option Addr} {osl : Array (Option Value)} (lk : K.lookup f = some ⟨oc, od, .func (PySem.W.fnOf "law" "law" (defArgs sLaw) (defBody sLaw) (defScope sLaw) .none kV doc pm an (.ref c) ct), osl⟩) (hcd : PySem.W.codeIn K (.ref c) "law" = true)
    (L : LawAll P w K mg base C CT CY CN CL) (Y : LayAll P w K mg base CT CY CL) (TB : TabB base mg c PT) :
    FnOk P w K mg base CX0 9 f (PySem.W.fnOf "law" "law" (defArgs sLaw) (defBody sLaw) (defScope sLaw) .none kV doc pm an (.ref c) ct) ["_law_script"] (spLaw K PT) := by
  refine fn_of lk hcd scLaw (fun vs H Q E h => ?_) (fun A outer s H vs Q E hr h => ?_)
  · obtain ⟨a, ns, rfl, _⟩ := h
    rfl
  · obtain ⟨a, ns, rfl, hS, hlen, hPT, k⟩ := h
    have nd := scLaw.nd
    obtain ⟨tT, hT, rdT⟩ := law_turn (f := f) (A := A) (outer := outer) (sh := s) (H0 := H) (E := E) L Y TB hr nd
    refine ⟨_, (pss_cons (ps_set (i := 1) nd rfl (by first | exact Or.inl rfl | exact Or.inr rfl) (pe_lst (pa_cons (pv 0) (pa_cons pe_int (pa_cons pe_int (pa_cons pe_int pa_nil))))))
      (pss_cons (ps_for PassesOwn.never rfl (pi_range1 (by rfl) L.gR (pa_cons pe_int pa_nil)) (pg_name (i := 2) nd rfl (by first | exact Or.inl rfl | exact Or.inr rfl)) hT)
      (pss_one (ps_ret pe_bl)))).nox, ?_⟩
    refine ⟨_, rfl, (by show 4 ≤ sizeLine; decide), fun r nr => ?_⟩
    have s1 := Same.upd_new (o := .lst [.ref a, .int 0, .int 0, .int 0]) nr
    have R1 : Row K (upd H r (.lst [.ref a, .int 0, .int 0, .int 0])) r a := ⟨ns, 0, 0, 0, upd_same, s1.seq hS, hlen, Int.le_refl 0⟩
    have T1 : Tabs [(PT, lamQ)] (upd H r (.lst [.ref a, .int 0, .int 0, .int 0])) := fun p hp => by
      rw [List.mem_singleton.mp hp]
      exact TabS.nil (s1 _ _ hPT)
    generalize upd H r (.lst [.ref a, .int 0, .int 0, .int 0]) = H1 at R1 T1 ⊢
    refine ⟨5, rfl, by decide, by decide, ?_⟩
    refine for_it walk_range (fun i σ H' => ∃ x2 x3 x4 x5 x6 x7 x8 x9 x10 x12 x13 x15 x16 x17 x18, Row K H' r a ∧ Tabs [(PT, lamQ)] H' ∧ σ = [some (.ref a), some (.ref r), x2, x3, x4, x5, x6, x7, x8, x9, x10, none, x12, x13, none, x15, x16, x17, x18]) ⟨none, none, none, none, none, none, none, none, none, none, none, none, none, none, none, R1, T1, rfl⟩ (fun _ _ _ _ _ => trivial) ?_ ?_
    · rintro i x σ H4 H5 hi ⟨x2, x3, x4, x5, x6, x7, x8, x9, x10, x12, x13, x15, x16, x17, x18, W4, T4, rfl⟩ ⟨rfl, rfl⟩
      refine rdT _ _ r a _ _ _ _ _ _ _ _ _ _ _ _ _ _ _ _ W4 T4 fun H6 y3 y4 y5 y6 y7 y8 y9 y10 y12 y13 y15 y16 y17 y18 W6 T6 => ?_
      exact ⟨_, _, _, _, _, _, _, _, _, _, _, _, _, _, _, W6, T6, rfl⟩
    · rintro σ H4 ⟨x2, x3, x4, x5, x6, x7, x8, x9, x10, x12, x13, x15, x16, x17, x18, W4, T4, rfl⟩
      exact k H4
end
end Half

namespace Half
open PySem PySem.Spec PyProof.Rows L2 LamX
theorem all_mk {l : PySem.W.OpenLaw} {w : World} {K : PySem.W.Frag} {h : Heap} {mg : Str → Option Value} {fa PT : Addr} (X : K.In h) (G : h.Ns mainGlobals mg) (hfa : mg "law" = some (.ref fa)) (hTab : h.get? PT = some (PySem.W.tabObj #[]))
    {f_word : Addr} {oc_word kV_word dc_word pm_word cd_word ct_word : Value} {od_word an_word : Option Addr} {sl_word : Array (Option Value)}
    {f_numb : Addr} {oc_numb kV_numb dc_numb pm_numb cd_numb ct_numb : Value} {od_numb an_numb : Option Addr} {sl_numb : Array (Option Value)}
    {f_asc : Addr} {oc_asc kV_asc dc_asc pm_asc cd_asc ct_asc : Value} {od_asc an_asc : Option Addr} {sl_asc : Array (Option Value)}
    {f_vers : Addr} {oc_vers kV_vers dc_vers pm_vers cd_vers ct_vers : Value} {od_vers an_vers : Option Addr} {sl_vers : Array (Option Value)}
    {f_scri : Addr} {oc_scri kV_scri dc_scri pm_scri cd_scri ct_scri : Value} {od_scri an_scri : Option Addr} {sl_scri : Array (Option Value)}
    {f_othe : Addr} {oc_othe kV_othe dc_othe pm_othe cd_othe ct_othe : Value} {od_othe an_othe : Option Addr} {sl_othe : Array (Option Value)}
    {f_pair : Addr} {oc_pair kV_pair dc_pair pm_pair cd_pair ct_pair : Value} {od_pair an_pair : Option Addr} {sl_pair : Array (Option Value)}
    {f_need : Addr} {oc_need kV_need dc_need pm_need cd_need ct_need : Value} {od_need an_need : Option Addr} {sl_need : Array (Option Value)}
    {f_wron : Addr} {oc_wron kV_wron dc_wron pm_wron cd_wron ct_wron : Value} {od_wron an_wron : Option Addr} {sl_wron : Array (Option Value)}
    {f_wi : Addr} {oc_wi kV_wi dc_wi pm_wi cd_wi ct_wi : Value} {od_wi an_wi : Option Addr} {sl_wi : Array (Option Value)}
    {f_vn : Addr} {oc_vn kV_vn dc_vn pm_vn cd_vn ct_vn : Value} {od_vn an_vn : Option Addr} {sl_vn : Array (Option Value)}
    {f_take : Addr} {oc_take kV_take dc_take pm_take cd_take ct_take : Value} {od_take an_take : Option Addr} {sl_take : Array (Option Value)}
    {f_fi : Addr} {oc_fi kV_fi dc_fi pm_fi cd_fi ct_fi : Value} {od_fi an_fi : Option Addr} {sl_fi : Array (Option Value)}
    {f_fs : Addr} {oc_fs kV_fs dc_fs pm_fs cd_fs ct_fs : Value} {od_fs an_fs : Option Addr} {sl_fs : Array (Option Value)}
    {f_tk : Addr} {oc_tk kV_tk dc_tk pm_tk cd_tk ct_tk : Value} {od_tk an_tk : Option Addr} {sl_tk : Array (Option Value)}
    {f_cl : Addr} {oc_cl kV_cl dc_cl pm_cl cd_cl ct_cl : Value} {od_cl an_cl : Option Addr} {sl_cl : Array (Option Value)}
    {f_sto : Addr} {oc_sto kV_sto dc_sto pm_sto cd_sto ct_sto : Value} {od_sto an_sto : Option Addr} {sl_sto : Array (Option Value)}
    {f_ks : Addr} {oc_ks kV_ks dc_ks pm_ks cd_ks ct_ks : Value} {od_ks an_ks : Option Addr} {sl_ks : Array (Option Value)}
    {f_law cLaw : Addr} {oc_law kV_law dc_law pm_law ct_law : Value} {od_law an_law : Option Addr} {sl_law : Array (Option Value)}
    {f_td : Addr} {oc_td kV_td dc_td pm_td cd_td ct_td : Value} {od_td an_td : Option Addr} {sl_td : Array (Option Value)}
    {C : Addr}
    {CT : Addr}
    {CY : Addr}
    {c0 : Addr}
    {c1 : Addr}
    {c4 : Addr}
    {c5 : Addr}
    {CL : Addr}
    {nmc0 qc0 : Str} {Nc0 : Addr} {bsc0 bmc0 : List Value} {snc0 : List Str} {subc0 : List Value} {abc0 : Bool} {colc0 : Option Bool} {ddc0 : Option Addr} {k0c0 k1c0 k2c0 k3c0 k5c0 : Option Value}
    {f_ie : Addr}
    {oc_ie kV_ie dc_ie pm_ie ct_ie : Value} {od_ie an_ie : Option Addr} {cdI_ie ccI_ie : Addr} {sl_ie : Array (Option Value)} {cclI_ie : Value} {cddI_ie : Option Addr} {vsI_ie : Array Value} {ccsI_ie : Array (Option Value)} {fileI_ie : Str} {tfI_ie : Tok} {clI_ie : Value} {cldI_ie : Option Addr} {cslI_ie : Array (Option Value)}
    {nmc1 qc1 : Str} {Nc1 : Addr} {bsc1 bmc1 : List Value} {snc1 : List Str} {subc1 : List Value} {abc1 : Bool} {colc1 : Option Bool} {ddc1 : Option Addr} {k0c1 k1c1 k2c1 k3c1 k5c1 : Option Value}
    {f_is : Addr}
    {oc_is kV_is dc_is pm_is ct_is : Value} {od_is an_is : Option Addr} {cdI_is ccI_is : Addr} {sl_is : Array (Option Value)} {cclI_is : Value} {cddI_is : Option Addr} {vsI_is : Array Value} {ccsI_is : Array (Option Value)} {fileI_is : Str} {tfI_is : Tok} {clI_is : Value} {cldI_is : Option Addr} {cslI_is : Array (Option Value)}
    {nmCL qCL : Str} {NCL : Addr} {bsCL bmCL : List Value} {snCL : List Str} {subCL : List Value} {abCL : Bool} {colCL : Option Bool} {ddCL : Option Addr} {k0CL k1CL k2CL k3CL k5CL : Option Value}
    {f_il : Addr}
    {oc_il kV_il dc_il pm_il ct_il : Value} {od_il an_il : Option Addr} {cdI_il ccI_il : Addr} {sl_il : Array (Option Value)} {cclI_il : Value} {cddI_il : Option Addr} {vsI_il : Array Value} {ccsI_il : Array (Option Value)} {fileI_il : Str} {tfI_il : Tok} {clI_il : Value} {cldI_il : Option Addr} {cslI_il : Array (Option Value)}
    {tLet : Tok} {aS : Addr}
    {t_lon : Tok}
    {t_lv : Tok}
    {t_mv : Tok}
    {t_me : Tok}
    {t_mn : Tok}
    {t_mf : Tok}
    {t_mc : Tok}
    {f_ei kD : Addr} {oc_ei dc_ei pm_ei cd_ei ct_ei : Value} {od_ei an_ei : Option Addr} {sl_ei : Array (Option Value)}
    {z1 z2 z3 : Addr}
    {ddS dd1 dd2 dd3 : Option Addr} {q0 q1 q2 q3 : Tok} {nS n1 n2 n3 : Nat} {slS sl1 sl2 sl3 : Array (Option Value)}
    {p_g0 : Addr} {rest_g0 : List Value}
    {f_g0 : Addr} {oc_g0 kV_g0 dc_g0 pm_g0 cd_g0 ct_g0 : Value} {od_g0 an_g0 : Option Addr} {sl_g0 : Array (Option Value)}
    {p_g1 : Addr} {rest_g1 : List Value}
    {f_g1 : Addr} {oc_g1 kV_g1 dc_g1 pm_g1 cd_g1 ct_g1 : Value} {od_g1 an_g1 : Option Addr} {sl_g1 : Array (Option Value)}
    {p_g2 : Addr} {rest_g2 : List Value}
    {f_g2 : Addr} {oc_g2 kV_g2 dc_g2 pm_g2 cd_g2 ct_g2 : Value} {od_g2 an_g2 : Option Addr} {sl_g2 : Array (Option Value)}
    {p_g3 : Addr} {rest_g3 : List Value}
    {f_g3 : Addr} {oc_g3 kV_g3 dc_g3 pm_g3 cd_g3 ct_g3 : Value} {od_g3 an_g3 : Option Addr} {sl_g3 : Array (Option Value)}
    {p_g4 : Addr} {rest_g4 : List Value}
    {f_g4 : Addr} {oc_g4 kV_g4 dc_g4 pm_g4 cd_g4 ct_g4 : Value} {od_g4 an_g4 : Option Addr} {sl_g4 : Array (Option Value)}
    {p_g5 : Addr} {rest_g5 : List Value}
    {f_g5 : Addr} {oc_g5 kV_g5 dc_g5 pm_g5 cd_g5 ct_g5 : Value} {od_g5 an_g5 : Option Addr} {sl_g5 : Array (Option Value)}
    {f_eq : Addr} {oc_eq kV_eq dc_eq pm_eq cd_eq ct_eq : Value} {od_eq an_eq : Option Addr} {sl_eq : Array (Option Value)}
    {nmC qC : Str} {NC : Addr} {bsC : List Value} {hdC : Bool} {snC : List Str} {subC : List Value} {abC : Bool} {colC : Option Bool} {ddC : Option Addr} {k0C k1C k2C k3C k5C : Option Value} {newC : String}
    {f_si : Addr} {oc_si kV_si dc_si pm_si cd_si ct_si : Value} {od_si an_si : Option Addr} {sl_si : Array (Option Value)}
    {p_sn : Addr} {rest_sn : List Value}
    {f_sn : Addr} {oc_sn kV_sn dc_sn pm_sn cd_sn ct_sn : Value} {od_sn an_sn : Option Addr} {sl_sn : Array (Option Value)}
    {f_sv : Addr} {oc_sv kV_sv dc_sv pm_sv cd_sv ct_sv : Value} {od_sv an_sv : Option Addr} {sl_sv : Array (Option Value)}
    {f_sh : Addr} {oc_sh kV_sh dc_sh pm_sh cd_sh ct_sh : Value} {od_sh an_sh : Option Addr} {sl_sh : Array (Option Value)}
    {f_se : Addr} {oc_se kV_se dc_se pm_se cd_se ct_se : Value} {od_se an_se : Option Addr} {sl_se : Array (Option Value)}
    {nmCT qCT : Str} {NCT : Addr} {bsCT : List Value} {hdCT : Bool} {snCT : List Str} {subCT : List Value} {abCT : Bool} {colCT : Option Bool} {ddCT : Option Addr} {k0CT k1CT k2CT k3CT k5CT : Option Value} {newCT : String}
    {f_li : Addr} {oc_li kV_li dc_li pm_li cd_li ct_li : Value} {od_li an_li : Option Addr} {sl_li : Array (Option Value)}
    {p_ls : Addr} {rest_ls : List Value}
    {f_ls : Addr} {oc_ls kV_ls dc_ls pm_ls cd_ls ct_ls : Value} {od_ls an_ls : Option Addr} {sl_ls : Array (Option Value)}
    {p_lf : Addr} {rest_lf : List Value}
    {f_lf : Addr} {oc_lf kV_lf dc_lf pm_lf cd_lf ct_lf : Value} {od_lf an_lf : Option Addr} {sl_lf : Array (Option Value)}
    {p_lt : Addr} {rest_lt : List Value}
    {f_lt : Addr} {oc_lt kV_lt dc_lt pm_lt cd_lt ct_lt : Value} {od_lt an_lt : Option Addr} {sl_lt : Array (Option Value)}
    {f_le : Addr} {oc_le kV_le dc_le pm_le cd_le ct_le : Value} {od_le an_le : Option Addr} {sl_le : Array (Option Value)}
    {nmCY qCY : Str} {NCY : Addr} {bsCY : List Value} {hdCY : Bool} {snCY : List Str} {subCY : List Value} {abCY : Bool} {colCY : Option Bool} {ddCY : Option Addr} {k0CY k1CY k2CY k3CY k5CY : Option Value} {newCY : String}
    (n_int : PySem.W.nsIn K mainGlobals "int" = some none)
    (n_len : PySem.W.nsIn K mainGlobals "len" = some none)
    (n_isinstance : PySem.W.nsIn K mainGlobals "isinstance" = some none)
    (n_str : PySem.W.nsIn K mainGlobals "str" = some none)
    (n_bool : PySem.W.nsIn K mainGlobals "bool" = some none)
    (n_tuple : PySem.W.nsIn K mainGlobals "tuple" = some none)
    (n_all : PySem.W.nsIn K mainGlobals "all" = some none)
    (n_range : PySem.W.nsIn K mainGlobals "range" = some none)
    (n_ValueError : PySem.W.nsIn K mainGlobals "ValueError" = some none)
    (n_super : PySem.W.nsIn K mainGlobals "super" = some none)
    (n_set : PySem.W.nsIn K mainGlobals "set" = some none)
    (n_sorted : PySem.W.nsIn K mainGlobals "sorted" = some none)
    (n_list : PySem.W.nsIn K mainGlobals "list" = some none)
    (n_enumerate : PySem.W.nsIn K mainGlobals "enumerate" = some none)
    (n_dict : PySem.W.nsIn K mainGlobals "dict" = some none)
    (n_any : PySem.W.nsIn K mainGlobals "any" = some none)
    (n_min : PySem.W.nsIn K mainGlobals "min" = some none)
    (a_word : PySem.W.nsIn K mainGlobals "is_word" = some (some (.ref f_word)))
    (l_word : K.lookup f_word = some ⟨oc_word, od_word, .func (PySem.W.fnOf "is_word" "is_word" (defArgs sWord) (defBody sWord) (defScope sWord) .none kV_word dc_word pm_word an_word cd_word ct_word), sl_word⟩)
    (c_word : PySem.W.codeIn K cd_word "is_word" = true)
    (k_word : PySem.W.keepIn K (.ref f_word) = true)
    (a_numb : PySem.W.nsIn K mainGlobals "is_number" = some (some (.ref f_numb)))
    (l_numb : K.lookup f_numb = some ⟨oc_numb, od_numb, .func (PySem.W.fnOf "is_number" "is_number" (defArgs sNumber) (defBody sNumber) (defScope sNumber) .none kV_numb dc_numb pm_numb an_numb cd_numb ct_numb), sl_numb⟩)
    (c_numb : PySem.W.codeIn K cd_numb "is_number" = true)
    (k_numb : PySem.W.keepIn K (.ref f_numb) = true)
    (a_asc : PySem.W.nsIn K mainGlobals "ascends" = some (some (.ref f_asc)))
    (l_asc : K.lookup f_asc = some ⟨oc_asc, od_asc, .func (PySem.W.fnOf "ascends" "ascends" (defArgs sAscends) (defBody sAscends) (defScope sAscends) .none kV_asc dc_asc pm_asc an_asc cd_asc ct_asc), sl_asc⟩)
    (c_asc : PySem.W.codeIn K cd_asc "ascends" = true)
    (k_asc : PySem.W.keepIn K (.ref f_asc) = true)
    (a_vers : PySem.W.nsIn K mainGlobals "is_version" = some (some (.ref f_vers)))
    (l_vers : K.lookup f_vers = some ⟨oc_vers, od_vers, .func (PySem.W.fnOf "is_version" "is_version" (defArgs sVersion) (defBody sVersion) (defScope sVersion) .none kV_vers dc_vers pm_vers an_vers cd_vers ct_vers), sl_vers⟩)
    (c_vers : PySem.W.codeIn K cd_vers "is_version" = true)
    (k_vers : PySem.W.keepIn K (.ref f_vers) = true)
    (a_scri : PySem.W.nsIn K mainGlobals "are_scripts" = some (some (.ref f_scri)))
    (l_scri : K.lookup f_scri = some ⟨oc_scri, od_scri, .func (PySem.W.fnOf "are_scripts" "are_scripts" (defArgs sScripts) (defBody sScripts) (defScope sScripts) .none kV_scri dc_scri pm_scri an_scri cd_scri ct_scri), sl_scri⟩)
    (c_scri : PySem.W.codeIn K cd_scri "are_scripts" = true)
    (k_scri : PySem.W.keepIn K (.ref f_scri) = true)
    (a_othe : PySem.W.nsIn K mainGlobals "are_other_names" = some (some (.ref f_othe)))
    (l_othe : K.lookup f_othe = some ⟨oc_othe, od_othe, .func (PySem.W.fnOf "are_other_names" "are_other_names" (defArgs sOthers) (defBody sOthers) (defScope sOthers) .none kV_othe dc_othe pm_othe an_othe cd_othe ct_othe), sl_othe⟩)
    (c_othe : PySem.W.codeIn K cd_othe "are_other_names" = true)
    (k_othe : PySem.W.keepIn K (.ref f_othe) = true)
    (a_pair : PySem.W.nsIn K mainGlobals "is_pair_with_version" = some (some (.ref f_pair)))
    (l_pair : K.lookup f_pair = some ⟨oc_pair, od_pair, .func (PySem.W.fnOf "is_pair_with_version" "is_pair_with_version" (defArgs sPair) (defBody sPair) (defScope sPair) .none kV_pair dc_pair pm_pair an_pair cd_pair ct_pair), sl_pair⟩)
    (c_pair : PySem.W.codeIn K cd_pair "is_pair_with_version" = true)
    (k_pair : PySem.W.keepIn K (.ref f_pair) = true)
    (a_need : PySem.W.nsIn K mainGlobals "are_needs" = some (some (.ref f_need)))
    (l_need : K.lookup f_need = some ⟨oc_need, od_need, .func (PySem.W.fnOf "are_needs" "are_needs" (defArgs sNeeds) (defBody sNeeds) (defScope sNeeds) .none kV_need dc_need pm_need an_need cd_need ct_need), sl_need⟩)
    (c_need : PySem.W.codeIn K cd_need "are_needs" = true)
    (k_need : PySem.W.keepIn K (.ref f_need) = true)
    (a_wron : PySem.W.nsIn K mainGlobals "wrong_part" = some (some (.ref f_wron)))
    (l_wron : K.lookup f_wron = some ⟨oc_wron, od_wron, .func (PySem.W.fnOf "wrong_part" "wrong_part" (defArgs sWrong) (defBody sWrong) (defScope sWrong) .none kV_wron dc_wron pm_wron an_wron cd_wron ct_wron), sl_wron⟩)
    (c_wron : PySem.W.codeIn K cd_wron "wrong_part" = true)
    (k_wron : PySem.W.keepIn K (.ref f_wron) = true)
    (a_wi : PySem.W.nsIn K mainGlobals "wrong_index" = some (some (.ref f_wi)))
    (l_wi : K.lookup f_wi = some ⟨oc_wi, od_wi, .func (PySem.W.fnOf "wrong_index" "wrong_index" (defArgs sWi) (defBody sWi) (defScope sWi) .none kV_wi dc_wi pm_wi an_wi cd_wi ct_wi), sl_wi⟩)
    (c_wi : PySem.W.codeIn K cd_wi "wrong_index" = true)
    (k_wi : PySem.W.keepIn K (.ref f_wi) = true)
    (a_vn : PySem.W.nsIn K mainGlobals "versions_by_name" = some (some (.ref f_vn)))
    (l_vn : K.lookup f_vn = some ⟨oc_vn, od_vn, .func (PySem.W.fnOf "versions_by_name" "versions_by_name" (defArgs sVn) (defBody sVn) (defScope sVn) .none kV_vn dc_vn pm_vn an_vn cd_vn ct_vn), sl_vn⟩)
    (c_vn : PySem.W.codeIn K cd_vn "versions_by_name" = true)
    (k_vn : PySem.W.keepIn K (.ref f_vn) = true)
    (a_take : PySem.W.nsIn K mainGlobals "_law_taken" = some (some (.ref f_take)))
    (l_take : K.lookup f_take = some ⟨oc_take, od_take, .func (PySem.W.fnOf "_law_taken" "_law_taken" (defArgs sTaken) (defBody sTaken) (defScope sTaken) .none kV_take dc_take pm_take an_take cd_take ct_take), sl_take⟩)
    (c_take : PySem.W.codeIn K cd_take "_law_taken" = true)
    (k_take : PySem.W.keepIn K (.ref f_take) = true)
    (a_fi : PySem.W.nsIn K mainGlobals "is_file" = some (some (.ref f_fi)))
    (l_fi : K.lookup f_fi = some ⟨oc_fi, od_fi, .func (PySem.W.fnOf "is_file" "is_file" (defArgs sFi) (defBody sFi) (defScope sFi) .none kV_fi dc_fi pm_fi an_fi cd_fi ct_fi), sl_fi⟩)
    (c_fi : PySem.W.codeIn K cd_fi "is_file" = true)
    (k_fi : PySem.W.keepIn K (.ref f_fi) = true)
    (a_fs : PySem.W.nsIn K mainGlobals "are_files" = some (some (.ref f_fs)))
    (l_fs : K.lookup f_fs = some ⟨oc_fs, od_fs, .func (PySem.W.fnOf "are_files" "are_files" (defArgs sFs) (defBody sFs) (defScope sFs) .none kV_fs dc_fs pm_fs an_fs cd_fs ct_fs), sl_fs⟩)
    (c_fs : PySem.W.codeIn K cd_fs "are_files" = true)
    (k_fs : PySem.W.keepIn K (.ref f_fs) = true)
    (a_tk : PySem.W.nsIn K mainGlobals "are_takes" = some (some (.ref f_tk)))
    (l_tk : K.lookup f_tk = some ⟨oc_tk, od_tk, .func (PySem.W.fnOf "are_takes" "are_takes" (defArgs sTk) (defBody sTk) (defScope sTk) .none kV_tk dc_tk pm_tk an_tk cd_tk ct_tk), sl_tk⟩)
    (c_tk : PySem.W.codeIn K cd_tk "are_takes" = true)
    (k_tk : PySem.W.keepIn K (.ref f_tk) = true)
    (a_cl : PySem.W.nsIn K mainGlobals "check_layout" = some (some (.ref f_cl)))
    (l_cl : K.lookup f_cl = some ⟨oc_cl, od_cl, .func (PySem.W.fnOf "check_layout" "check_layout" (defArgs sCl) (defBody sCl) (defScope sCl) .none kV_cl dc_cl pm_cl an_cl cd_cl ct_cl), sl_cl⟩)
    (c_cl : PySem.W.codeIn K cd_cl "check_layout" = true)
    (k_cl : PySem.W.keepIn K (.ref f_cl) = true)
    (a_sto : PySem.W.nsIn K mainGlobals "_law_store" = some (some (.ref f_sto)))
    (l_sto : K.lookup f_sto = some ⟨oc_sto, od_sto, .func (PySem.W.fnOf "_law_store" "_law_store" (defArgs sSto) (defBody sSto) (defScope sSto) .none kV_sto dc_sto pm_sto an_sto cd_sto ct_sto), sl_sto⟩)
    (c_sto : PySem.W.codeIn K cd_sto "_law_store" = true)
    (k_sto : PySem.W.keepIn K (.ref f_sto) = true)
    (a_ks : PySem.W.nsIn K mainGlobals "_law_keys" = some (some (.ref f_ks)))
    (l_ks : K.lookup f_ks = some ⟨oc_ks, od_ks, .func (PySem.W.fnOf "_law_keys" "_law_keys" (defArgs sKs) (defBody sKs) (defScope sKs) .none kV_ks dc_ks pm_ks an_ks cd_ks ct_ks), sl_ks⟩)
    (c_ks : PySem.W.codeIn K cd_ks "_law_keys" = true)
    (k_ks : PySem.W.keepIn K (.ref f_ks) = true)
    (a_law : PySem.W.nsIn K mainGlobals "law" = some (some (.ref f_law)))
    (l_law : K.lookup f_law = some ⟨oc_law, od_law, .func (PySem.W.fnOf "law" "law" (defArgs sLaw) (defBody sLaw) (defScope sLaw) .none kV_law dc_law pm_law an_law (.ref cLaw) ct_law), sl_law⟩)
    (c_law : PySem.W.codeIn K (.ref cLaw) "law" = true)
    (k_law : PySem.W.keepIn K (.ref f_law) = true)
    (a_td : PySem.W.nsIn K mainGlobals "_law_told" = some (some (.ref f_td)))
    (l_td : K.lookup f_td = some ⟨oc_td, od_td, .func (PySem.W.fnOf "_law_told" "_law_told" (defArgs sTd) (defBody sTd) (defScope sTd) .none kV_td dc_td pm_td an_td cd_td ct_td), sl_td⟩)
    (c_td : PySem.W.codeIn K cd_td "_law_told" = true)
    (k_td : PySem.W.keepIn K (.ref f_td) = true)
    (g_C : PySem.W.nsIn K mainGlobals "Edition" = some (some (.ref C)))
    (g_CT : PySem.W.nsIn K mainGlobals "Store" = some (some (.ref CT)))
    (g_CY : PySem.W.nsIn K mainGlobals "Layout" = some (some (.ref CY)))
    (pg_C : PySem.W.plainGet K C Str.empty = true)
    (hd_C : PySem.W.hasDictIn K C = true)
    (po_C : PySem.W.plainOver K C = true)
    (sa_C : PySem.W.findIn K (.ref C) "__setattr__" = some (some (.builtin "object.__setattr__")))
    (ha_C : PySem.W.findIn K (.ref C) "__class__" = some (some (.builtin "object.__class__")))
    (hm_C : PySem.W.mroIn K C (.type "object") = some true)
    (ki_C : PySem.W.kitOne K (.ref C) (.ref C) = some true)
    (hn : PySem.W.specialIn K (.builtin "object.__class__") "__get__" = some (some (.builtin "getset_descriptor.__get__")))
    (ht : PySem.W.takesIn K (.builtin "object.__class__") = some true)
    (pg_CT : PySem.W.plainGet K CT Str.empty = true)
    (hd_CT : PySem.W.hasDictIn K CT = true)
    (po_CT : PySem.W.plainOver K CT = true)
    (sa_CT : PySem.W.findIn K (.ref CT) "__setattr__" = some (some (.builtin "object.__setattr__")))
    (ha_CT : PySem.W.findIn K (.ref CT) "__class__" = some (some (.builtin "object.__class__")))
    (hm_CT : PySem.W.mroIn K CT (.type "object") = some true)
    (ki_CT : PySem.W.kitOne K (.ref CT) (.ref CT) = some true)
    (pg_CY : PySem.W.plainGet K CY Str.empty = true)
    (hd_CY : PySem.W.hasDictIn K CY = true)
    (po_CY : PySem.W.plainOver K CY = true)
    (sa_CY : PySem.W.findIn K (.ref CY) "__setattr__" = some (some (.builtin "object.__setattr__")))
    (ha_CY : PySem.W.findIn K (.ref CY) "__class__" = some (some (.builtin "object.__class__")))
    (hm_CY : PySem.W.mroIn K CY (.type "object") = some true)
    (ki_CY : PySem.W.kitOne K (.ref CY) (.ref CY) = some true)
    (g_c0 : PySem.W.nsIn K mainGlobals "InvalidEdition" = some (some (.ref c0)))
    (g_c1 : PySem.W.nsIn K mainGlobals "InvalidStore" = some (some (.ref c1)))
    (g_c4 : PySem.W.nsIn K mainGlobals "UnknownEdition" = some (some (.ref c4)))
    (g_c5 : PySem.W.nsIn K mainGlobals "UnknownName" = some (some (.ref c5)))
    (g_CL : PySem.W.nsIn K mainGlobals "InvalidLayout" = some (some (.ref CL)))
    (ex_c0 : PySem.W.subIn K (.ref c0) (.type "BaseException") = some true)
    (nf_c0 : PySem.W.findIn K (.ref c0) "part" = some none)
    (ex_c1 : PySem.W.subIn K (.ref c1) (.type "BaseException") = some true)
    (nf_c1 : PySem.W.findIn K (.ref c1) "index" = some none)
    (ocl_c0 : K.lookup c0 = some (excClassObj nmc0 qc0 c0 Nc0 bsc0 bmc0 true snc0 subc0 abc0 colc0 ddc0 k0c0 k1c0 k2c0 k3c0 k5c0 "ValueError.__new__"))
    (ove_c0 : PySem.HandSPX.refsVE bmc0 = true)
    (osa_c0 : PySem.W.findIn K (.ref c0) "__setattr__" = some (some (.builtin "object.__setattr__")))
    (oty_c0 : PySem.W.typeIn K (.ref c0) = some (.type "type"))
    (okc_c0 : PySem.W.keepIn K (.ref c0) = true)
    (osb_c0 : PySem.W.mroIn K c0 (.ref c0) = some true)
    (osu_c0 : PySem.W.ks_superIn K c0 c0 "__init__" = some (some (.builtin "ValueError.__init__")))
    (osv_c0 : PySem.W.subIn K (.ref c0) (.type "ValueError") = some true)
    (o_op : PySem.W.nsIn K cStatics "thirdparty.any" = some none)
    (o_top : (l.prog.main.scope.names.lookup ("super" : Str)).isSome = false)
    (a_ie : PySem.W.findIn K (.ref c0) "__init__" = some (some (.ref f_ie)))
    (y_ie : PySem.W.typeIn K (.ref f_ie) = some (.type "function"))
    (l_ie : K.lookup f_ie = some ⟨oc_ie, od_ie, .func (PySem.W.ksFn "__init__" "InvalidEdition.__init__" (defArgs sIe) (defBody sIe) (defScope sIe) .none kV_ie dc_ie pm_ie an_ie (.ref cdI_ie) ct_ie ccI_ie), sl_ie⟩)
    (c_ie : PySem.W.codeIn K (.ref cdI_ie) "InvalidEdition.__init__" = true)
    (e_ie : K.lookup cdI_ie = some ⟨cclI_ie, cddI_ie, .fields vsI_ie, ccsI_ie⟩)
    (f2_ie : vsI_ie[2]? = some (.str fileI_ie tfI_ie))
    (fl_ie : ((l.prog.main.file : Str) == fileI_ie) = true)
    (ce_ie : K.lookup ccI_ie = some ⟨clI_ie, cldI_ie, .cell (some (.ref c0)), cslI_ie⟩)
    (ocl_c1 : K.lookup c1 = some (excClassObj nmc1 qc1 c1 Nc1 bsc1 bmc1 true snc1 subc1 abc1 colc1 ddc1 k0c1 k1c1 k2c1 k3c1 k5c1 "ValueError.__new__"))
    (ove_c1 : PySem.HandSPX.refsVE bmc1 = true)
    (osa_c1 : PySem.W.findIn K (.ref c1) "__setattr__" = some (some (.builtin "object.__setattr__")))
    (oty_c1 : PySem.W.typeIn K (.ref c1) = some (.type "type"))
    (okc_c1 : PySem.W.keepIn K (.ref c1) = true)
    (osb_c1 : PySem.W.mroIn K c1 (.ref c1) = some true)
    (osu_c1 : PySem.W.ks_superIn K c1 c1 "__init__" = some (some (.builtin "ValueError.__init__")))
    (osv_c1 : PySem.W.subIn K (.ref c1) (.type "ValueError") = some true)
    (a_is : PySem.W.findIn K (.ref c1) "__init__" = some (some (.ref f_is)))
    (y_is : PySem.W.typeIn K (.ref f_is) = some (.type "function"))
    (l_is : K.lookup f_is = some ⟨oc_is, od_is, .func (PySem.W.ksFn "__init__" "InvalidStore.__init__" (defArgs sIs) (defBody sIs) (defScope sIs) .none kV_is dc_is pm_is an_is (.ref cdI_is) ct_is ccI_is), sl_is⟩)
    (c_is : PySem.W.codeIn K (.ref cdI_is) "InvalidStore.__init__" = true)
    (e_is : K.lookup cdI_is = some ⟨cclI_is, cddI_is, .fields vsI_is, ccsI_is⟩)
    (f2_is : vsI_is[2]? = some (.str fileI_is tfI_is))
    (fl_is : ((l.prog.main.file : Str) == fileI_is) = true)
    (ce_is : K.lookup ccI_is = some ⟨clI_is, cldI_is, .cell (some (.ref c1)), cslI_is⟩)
    (ex_CL : PySem.W.subIn K (.ref CL) (.type "BaseException") = some true)
    (nfp_CL : PySem.W.findIn K (.ref CL) "part" = some none)
    (nfk_CL : PySem.W.findIn K (.ref CL) "key" = some none)
    (ocl_CL : K.lookup CL = some (excClassObj nmCL qCL CL NCL bsCL bmCL true snCL subCL abCL colCL ddCL k0CL k1CL k2CL k3CL k5CL "ValueError.__new__"))
    (ove_CL : PySem.HandSPX.refsVE bmCL = true)
    (osa_CL : PySem.W.findIn K (.ref CL) "__setattr__" = some (some (.builtin "object.__setattr__")))
    (oty_CL : PySem.W.typeIn K (.ref CL) = some (.type "type"))
    (okc_CL : PySem.W.keepIn K (.ref CL) = true)
    (osb_CL : PySem.W.mroIn K CL (.ref CL) = some true)
    (osu_CL : PySem.W.ks_superIn K CL CL "__init__" = some (some (.builtin "ValueError.__init__")))
    (osv_CL : PySem.W.subIn K (.ref CL) (.type "ValueError") = some true)
    (a_il : PySem.W.findIn K (.ref CL) "__init__" = some (some (.ref f_il)))
    (y_il : PySem.W.typeIn K (.ref f_il) = some (.type "function"))
    (l_il : K.lookup f_il = some ⟨oc_il, od_il, .func (PySem.W.ksFn "__init__" "InvalidLayout.__init__" (defArgs sIl) (defBody sIl) (defScope sIl) .none kV_il dc_il pm_il an_il (.ref cdI_il) ct_il ccI_il), sl_il⟩)
    (c_il : PySem.W.codeIn K (.ref cdI_il) "InvalidLayout.__init__" = true)
    (e_il : K.lookup cdI_il = some ⟨cclI_il, cddI_il, .fields vsI_il, ccsI_il⟩)
    (f2_il : vsI_il[2]? = some (.str fileI_il tfI_il))
    (fl_il : ((l.prog.main.file : Str) == fileI_il) = true)
    (ce_il : K.lookup ccI_il = some ⟨clI_il, cldI_il, .cell (some (.ref CL)), cslI_il⟩)
    (ga_CL : PySem.W.findIn K (.ref CL) "__getattribute__" = some (some (.builtin "BaseException.__getattribute__")))
    (gg_CL : PySem.W.findIn K (.ref CL) "__getattr__" = some none)
    (hx_CL : PySem.W.hasDictIn K CL = true)
    (tt_CL : PySem.W.typeIn K (.ref CL) = some (.type "type"))
    (ss_CL : PySem.W.subIn K (.ref CL) (.ref CL) = some true)
    (exi_c4 : PySem.W.excIn K c4 [.type "ValueError", .type "Exception", .type "BaseException", .type "object"] "ValueError.__new__" = true)
    (ekc_c4 : PySem.W.keepIn K (.ref c4) = true)
    (eb_c4 : PySem.W.subIn K (.ref c4) (.type "BaseException") = some true)
    (et_c4 : PySem.W.typeIn K (.ref c4) = some (.type "type"))
    (exi_c5 : PySem.W.excIn K c5 [.type "ValueError", .type "Exception", .type "BaseException", .type "object"] "ValueError.__new__" = true)
    (ekc_c5 : PySem.W.keepIn K (.ref c5) = true)
    (eb_c5 : PySem.W.subIn K (.ref c5) (.type "BaseException") = some true)
    (et_c5 : PySem.W.typeIn K (.ref c5) = some (.type "type"))
    (v_let : PySem.W.nsIn K mainGlobals "LETTERS" = some (some (.str LET tLet)))
    (v_lon : PySem.W.nsIn K mainGlobals "LONGEST_WORD" = some (some (.int 8 t_lon)))
    (v_lv : PySem.W.nsIn K mainGlobals "LEAST_VERSION" = some (some (.int 1 t_lv)))
    (v_mv : PySem.W.nsIn K mainGlobals "MOST_VERSION" = some (some (.int 99 t_mv)))
    (v_me : PySem.W.nsIn K mainGlobals "MOST_EDITIONS" = some (some (.int 12 t_me)))
    (v_mn : PySem.W.nsIn K mainGlobals "MOST_NAMES" = some (some (.int 4 t_mn)))
    (v_mf : PySem.W.nsIn K mainGlobals "MOST_FILES" = some (some (.int 6 t_mf)))
    (v_mc : PySem.W.nsIn K mainGlobals "MOST_CONTENT" = some (some (.int 99 t_mc)))
    (v_scr : PySem.W.nsIn K mainGlobals "SCRIPTS" = some (some (.ref aS)))
    (a_ei : PySem.W.findIn K (.ref C) "__init__" = some (some (.ref f_ei)))
    (l_ei : K.lookup f_ei = some ⟨oc_ei, od_ei, .func (PySem.W.fnOf "__init__" "Edition.__init__" (defArgs sEi) (defBody sEi) (defScope sEi) .none (.ref kD) dc_ei pm_ei an_ei cd_ei ct_ei), sl_ei⟩)
    (c_ei : PySem.W.codeIn K cd_ei "Edition.__init__" = true)
    (k_ei : PySem.W.keepIn K (.ref f_ei) = true)
    (i_ei : PySem.W.isFn K (.ref f_ei) = true)
    (mk_C : PySem.W.makesIn K C = true)
    (kc_C : PySem.W.keepIn K (.ref C) = true)
    (d_scripts : PySem.W.nsIn K kD "scripts" = some (some (.ref aS)))
    (d_needs : PySem.W.nsIn K kD "needs" = some (some (.ref z1)))
    (d_first : PySem.W.nsIn K kD "first" = some (some (.ref z2)))
    (d_against : PySem.W.nsIn K kD "against" = some (some (.ref z3)))
    (t_S : K.lookup aS = some ⟨.type "tuple", ddS, .seq #[.str "clean" q0, .str "enter" q1, .str "leave" q2, .str "setup" q3] nS, slS⟩)
    (t_1 : K.lookup z1 = some ⟨.type "tuple", dd1, .seq #[] n1, sl1⟩)
    (t_2 : K.lookup z2 = some ⟨.type "tuple", dd2, .seq #[] n2, sl2⟩)
    (t_3 : K.lookup z3 = some ⟨.type "tuple", dd3, .seq #[] n3, sl3⟩)
    (na_C_parts : PySem.W.findIn K (.ref C) "parts" = some none)
    (pa_g0 : PySem.W.findIn K (.ref C) "name" = some (some (.ref p_g0)))
    (pg_g0 : PySem.W.specialIn K (.ref p_g0) "__get__" = some (some (.builtin "property.__get__")))
    (pt_g0 : PySem.W.takesIn K (.ref p_g0) = some true)
    (pr_g0 : PySem.W.recIn K p_g0 "property" = some (.ref f_g0 :: rest_g0))
    (l_g0 : K.lookup f_g0 = some ⟨oc_g0, od_g0, .func (PySem.W.fnOf "name" "Edition.name" (defArgs (sGet 0)) (defBody (sGet 0)) (defScope (sGet 0)) .none kV_g0 dc_g0 pm_g0 an_g0 cd_g0 ct_g0), sl_g0⟩)
    (c_g0 : PySem.W.codeIn K cd_g0 "Edition.name" = true)
    (k_g0 : PySem.W.keepIn K (.ref f_g0) = true)
    (pa_g1 : PySem.W.findIn K (.ref C) "version" = some (some (.ref p_g1)))
    (pg_g1 : PySem.W.specialIn K (.ref p_g1) "__get__" = some (some (.builtin "property.__get__")))
    (pt_g1 : PySem.W.takesIn K (.ref p_g1) = some true)
    (pr_g1 : PySem.W.recIn K p_g1 "property" = some (.ref f_g1 :: rest_g1))
    (l_g1 : K.lookup f_g1 = some ⟨oc_g1, od_g1, .func (PySem.W.fnOf "version" "Edition.version" (defArgs (sGet 1)) (defBody (sGet 1)) (defScope (sGet 1)) .none kV_g1 dc_g1 pm_g1 an_g1 cd_g1 ct_g1), sl_g1⟩)
    (c_g1 : PySem.W.codeIn K cd_g1 "Edition.version" = true)
    (k_g1 : PySem.W.keepIn K (.ref f_g1) = true)
    (pa_g2 : PySem.W.findIn K (.ref C) "scripts" = some (some (.ref p_g2)))
    (pg_g2 : PySem.W.specialIn K (.ref p_g2) "__get__" = some (some (.builtin "property.__get__")))
    (pt_g2 : PySem.W.takesIn K (.ref p_g2) = some true)
    (pr_g2 : PySem.W.recIn K p_g2 "property" = some (.ref f_g2 :: rest_g2))
    (l_g2 : K.lookup f_g2 = some ⟨oc_g2, od_g2, .func (PySem.W.fnOf "scripts" "Edition.scripts" (defArgs (sGet 2)) (defBody (sGet 2)) (defScope (sGet 2)) .none kV_g2 dc_g2 pm_g2 an_g2 cd_g2 ct_g2), sl_g2⟩)
    (c_g2 : PySem.W.codeIn K cd_g2 "Edition.scripts" = true)
    (k_g2 : PySem.W.keepIn K (.ref f_g2) = true)
    (pa_g3 : PySem.W.findIn K (.ref C) "needs" = some (some (.ref p_g3)))
    (pg_g3 : PySem.W.specialIn K (.ref p_g3) "__get__" = some (some (.builtin "property.__get__")))
    (pt_g3 : PySem.W.takesIn K (.ref p_g3) = some true)
    (pr_g3 : PySem.W.recIn K p_g3 "property" = some (.ref f_g3 :: rest_g3))
    (l_g3 : K.lookup f_g3 = some ⟨oc_g3, od_g3, .func (PySem.W.fnOf "needs" "Edition.needs" (defArgs (sGet 3)) (defBody (sGet 3)) (defScope (sGet 3)) .none kV_g3 dc_g3 pm_g3 an_g3 cd_g3 ct_g3), sl_g3⟩)
    (c_g3 : PySem.W.codeIn K cd_g3 "Edition.needs" = true)
    (k_g3 : PySem.W.keepIn K (.ref f_g3) = true)
    (pa_g4 : PySem.W.findIn K (.ref C) "first" = some (some (.ref p_g4)))
    (pg_g4 : PySem.W.specialIn K (.ref p_g4) "__get__" = some (some (.builtin "property.__get__")))
    (pt_g4 : PySem.W.takesIn K (.ref p_g4) = some true)
    (pr_g4 : PySem.W.recIn K p_g4 "property" = some (.ref f_g4 :: rest_g4))
    (l_g4 : K.lookup f_g4 = some ⟨oc_g4, od_g4, .func (PySem.W.fnOf "first" "Edition.first" (defArgs (sGet 4)) (defBody (sGet 4)) (defScope (sGet 4)) .none kV_g4 dc_g4 pm_g4 an_g4 cd_g4 ct_g4), sl_g4⟩)
    (c_g4 : PySem.W.codeIn K cd_g4 "Edition.first" = true)
    (k_g4 : PySem.W.keepIn K (.ref f_g4) = true)
    (pa_g5 : PySem.W.findIn K (.ref C) "against" = some (some (.ref p_g5)))
    (pg_g5 : PySem.W.specialIn K (.ref p_g5) "__get__" = some (some (.builtin "property.__get__")))
    (pt_g5 : PySem.W.takesIn K (.ref p_g5) = some true)
    (pr_g5 : PySem.W.recIn K p_g5 "property" = some (.ref f_g5 :: rest_g5))
    (l_g5 : K.lookup f_g5 = some ⟨oc_g5, od_g5, .func (PySem.W.fnOf "against" "Edition.against" (defArgs (sGet 5)) (defBody (sGet 5)) (defScope (sGet 5)) .none kV_g5 dc_g5 pm_g5 an_g5 cd_g5 ct_g5), sl_g5⟩)
    (c_g5 : PySem.W.codeIn K cd_g5 "Edition.against" = true)
    (k_g5 : PySem.W.keepIn K (.ref f_g5) = true)
    (a_eq : PySem.W.findIn K (.ref C) "__eq__" = some (some (.ref f_eq)))
    (l_eq : K.lookup f_eq = some ⟨oc_eq, od_eq, .func (PySem.W.fnOf "__eq__" "Edition.__eq__" (defArgs sEq) (defBody sEq) (defScope sEq) .none kV_eq dc_eq pm_eq an_eq cd_eq ct_eq), sl_eq⟩)
    (c_eq : PySem.W.codeIn K cd_eq "Edition.__eq__" = true)
    (k_eq : PySem.W.keepIn K (.ref f_eq) = true)
    (i_eq : PySem.W.isFn K (.ref f_eq) = true)
    (x_C : K.lookup C = some (excClassObj nmC qC C NC bsC [.type "object"] hdC snC subC abC colC ddC k0C k1C k2C k3C k5C newC))
    (xq_C : PySem.W.nsIn K NC "__eq__" = some (some (.ref f_eq)))
    (xn_C : PySem.W.nsIn K NC "__ne__" = some none)
    (xo_C : PySem.W.nsOkIn K NC = true)
    (na_CT_table : PySem.W.findIn K (.ref CT) "table" = some none)
    (na_CT_numbers : PySem.W.findIn K (.ref CT) "numbers" = some none)
    (a_si : PySem.W.findIn K (.ref CT) "__init__" = some (some (.ref f_si)))
    (l_si : K.lookup f_si = some ⟨oc_si, od_si, .func (PySem.W.fnOf "__init__" "Store.__init__" (defArgs (sSt 0)) (defBody (sSt 0)) (defScope (sSt 0)) .none kV_si dc_si pm_si an_si cd_si ct_si), sl_si⟩)
    (c_si : PySem.W.codeIn K cd_si "Store.__init__" = true)
    (k_si : PySem.W.keepIn K (.ref f_si) = true)
    (i_si : PySem.W.isFn K (.ref f_si) = true)
    (mk_CT : PySem.W.makesIn K CT = true)
    (kc_CT : PySem.W.keepIn K (.ref CT) = true)
    (pa_sn : PySem.W.findIn K (.ref CT) "names" = some (some (.ref p_sn)))
    (pg_sn : PySem.W.specialIn K (.ref p_sn) "__get__" = some (some (.builtin "property.__get__")))
    (pt_sn : PySem.W.takesIn K (.ref p_sn) = some true)
    (pr_sn : PySem.W.recIn K p_sn "property" = some (.ref f_sn :: rest_sn))
    (l_sn : K.lookup f_sn = some ⟨oc_sn, od_sn, .func (PySem.W.fnOf "names" "Store.names" (defArgs (sSt 1)) (defBody (sSt 1)) (defScope (sSt 1)) .none kV_sn dc_sn pm_sn an_sn cd_sn ct_sn), sl_sn⟩)
    (c_sn : PySem.W.codeIn K cd_sn "Store.names" = true)
    (k_sn : PySem.W.keepIn K (.ref f_sn) = true)
    (a_sv : PySem.W.findIn K (.ref CT) "versions" = some (some (.ref f_sv)))
    (l_sv : K.lookup f_sv = some ⟨oc_sv, od_sv, .func (PySem.W.fnOf "versions" "Store.versions" (defArgs (sSt 2)) (defBody (sSt 2)) (defScope (sSt 2)) .none kV_sv dc_sv pm_sv an_sv cd_sv ct_sv), sl_sv⟩)
    (c_sv : PySem.W.codeIn K cd_sv "Store.versions" = true)
    (k_sv : PySem.W.keepIn K (.ref f_sv) = true)
    (i_sv : PySem.W.isFn K (.ref f_sv) = true)
    (a_sh : PySem.W.findIn K (.ref CT) "__contains__" = some (some (.ref f_sh)))
    (l_sh : K.lookup f_sh = some ⟨oc_sh, od_sh, .func (PySem.W.fnOf "__contains__" "Store.__contains__" (defArgs (sSt 4)) (defBody (sSt 4)) (defScope (sSt 4)) .none kV_sh dc_sh pm_sh an_sh cd_sh ct_sh), sl_sh⟩)
    (c_sh : PySem.W.codeIn K cd_sh "Store.__contains__" = true)
    (k_sh : PySem.W.keepIn K (.ref f_sh) = true)
    (i_sh : PySem.W.isFn K (.ref f_sh) = true)
    (a_se : PySem.W.findIn K (.ref CT) "__eq__" = some (some (.ref f_se)))
    (l_se : K.lookup f_se = some ⟨oc_se, od_se, .func (PySem.W.fnOf "__eq__" "Store.__eq__" (defArgs (sSt 7)) (defBody (sSt 7)) (defScope (sSt 7)) .none kV_se dc_se pm_se an_se cd_se ct_se), sl_se⟩)
    (c_se : PySem.W.codeIn K cd_se "Store.__eq__" = true)
    (k_se : PySem.W.keepIn K (.ref f_se) = true)
    (i_se : PySem.W.isFn K (.ref f_se) = true)
    (x_CT : K.lookup CT = some (excClassObj nmCT qCT CT NCT bsCT [.type "object"] hdCT snCT subCT abCT colCT ddCT k0CT k1CT k2CT k3CT k5CT newCT))
    (xq_CT : PySem.W.nsIn K NCT "__eq__" = some (some (.ref f_se)))
    (xn_CT : PySem.W.nsIn K NCT "__ne__" = some none)
    (xo_CT : PySem.W.nsOkIn K NCT = true)
    (na_CY_held_store : PySem.W.findIn K (.ref CY) "held_store" = some none)
    (na_CY_held_files : PySem.W.findIn K (.ref CY) "held_files" = some none)
    (na_CY_held_takes : PySem.W.findIn K (.ref CY) "held_takes" = some none)
    (a_li : PySem.W.findIn K (.ref CY) "__init__" = some (some (.ref f_li)))
    (l_li : K.lookup f_li = some ⟨oc_li, od_li, .func (PySem.W.fnOf "__init__" "Layout.__init__" (defArgs (sLy 0)) (defBody (sLy 0)) (defScope (sLy 0)) .none kV_li dc_li pm_li an_li cd_li ct_li), sl_li⟩)
    (c_li : PySem.W.codeIn K cd_li "Layout.__init__" = true)
    (k_li : PySem.W.keepIn K (.ref f_li) = true)
    (i_li : PySem.W.isFn K (.ref f_li) = true)
    (mk_CY : PySem.W.makesIn K CY = true)
    (kc_CY : PySem.W.keepIn K (.ref CY) = true)
    (pa_ls : PySem.W.findIn K (.ref CY) "store" = some (some (.ref p_ls)))
    (pg_ls : PySem.W.specialIn K (.ref p_ls) "__get__" = some (some (.builtin "property.__get__")))
    (pt_ls : PySem.W.takesIn K (.ref p_ls) = some true)
    (pr_ls : PySem.W.recIn K p_ls "property" = some (.ref f_ls :: rest_ls))
    (l_ls : K.lookup f_ls = some ⟨oc_ls, od_ls, .func (PySem.W.fnOf "store" "Layout.store" (defArgs (sLy 1)) (defBody (sLy 1)) (defScope (sLy 1)) .none kV_ls dc_ls pm_ls an_ls cd_ls ct_ls), sl_ls⟩)
    (c_ls : PySem.W.codeIn K cd_ls "Layout.store" = true)
    (k_ls : PySem.W.keepIn K (.ref f_ls) = true)
    (pa_lf : PySem.W.findIn K (.ref CY) "files" = some (some (.ref p_lf)))
    (pg_lf : PySem.W.specialIn K (.ref p_lf) "__get__" = some (some (.builtin "property.__get__")))
    (pt_lf : PySem.W.takesIn K (.ref p_lf) = some true)
    (pr_lf : PySem.W.recIn K p_lf "property" = some (.ref f_lf :: rest_lf))
    (l_lf : K.lookup f_lf = some ⟨oc_lf, od_lf, .func (PySem.W.fnOf "files" "Layout.files" (defArgs (sLy 2)) (defBody (sLy 2)) (defScope (sLy 2)) .none kV_lf dc_lf pm_lf an_lf cd_lf ct_lf), sl_lf⟩)
    (c_lf : PySem.W.codeIn K cd_lf "Layout.files" = true)
    (k_lf : PySem.W.keepIn K (.ref f_lf) = true)
    (pa_lt : PySem.W.findIn K (.ref CY) "takes" = some (some (.ref p_lt)))
    (pg_lt : PySem.W.specialIn K (.ref p_lt) "__get__" = some (some (.builtin "property.__get__")))
    (pt_lt : PySem.W.takesIn K (.ref p_lt) = some true)
    (pr_lt : PySem.W.recIn K p_lt "property" = some (.ref f_lt :: rest_lt))
    (l_lt : K.lookup f_lt = some ⟨oc_lt, od_lt, .func (PySem.W.fnOf "takes" "Layout.takes" (defArgs (sLy 3)) (defBody (sLy 3)) (defScope (sLy 3)) .none kV_lt dc_lt pm_lt an_lt cd_lt ct_lt), sl_lt⟩)
    (c_lt : PySem.W.codeIn K cd_lt "Layout.takes" = true)
    (k_lt : PySem.W.keepIn K (.ref f_lt) = true)
    (a_le : PySem.W.findIn K (.ref CY) "__eq__" = some (some (.ref f_le)))
    (l_le : K.lookup f_le = some ⟨oc_le, od_le, .func (PySem.W.fnOf "__eq__" "Layout.__eq__" (defArgs (sLy 4)) (defBody (sLy 4)) (defScope (sLy 4)) .none kV_le dc_le pm_le an_le cd_le ct_le), sl_le⟩)
    (c_le : PySem.W.codeIn K cd_le "Layout.__eq__" = true)
    (k_le : PySem.W.keepIn K (.ref f_le) = true)
    (i_le : PySem.W.isFn K (.ref f_le) = true)
    (x_CY : K.lookup CY = some (excClassObj nmCY qCY CY NCY bsCY [.type "object"] hdCY snCY subCY abCY colCY ddCY k0CY k1CY k2CY k3CY k5CY newCY))
    (xq_CY : PySem.W.nsIn K NCY "__eq__" = some (some (.ref f_le)))
    (xn_CY : PySem.W.nsIn K NCY "__ne__" = some none)
    (xo_CY : PySem.W.nsOkIn K NCY = true)
    (nT : K.lookup PT = none)
    (hH : PySem.W.codeHdIn K cLaw PT = true)
    : LawAtS l w K CX0 9 63 "_law_script" mg fa h := by
  have e := hfa.symm.trans (PySem.W.mg_of X G a_law)
  cases e
  have none_ : ∀ {x : Str}, PySem.W.nsIn K mainGlobals x = some none → mg x = none := fun h => PySem.W.mg_none_of X G h
  have F_word := fun_mk (st := sWord) l_word c_word k_word
  have B_word := F_word.binds (ps := ["text"]) fun _ _ _ _ _ _ us hl => match us, hl with | [_], _ => rfl
  have F_numb := fun_mk (st := sNumber) l_numb c_numb k_numb
  have B_numb := F_numb.binds (ps := ["value", "least", "most"]) fun _ _ _ _ _ _ us hl => match us, hl with | [_, _, _], _ => rfl
  have F_asc := fun_mk (st := sAscends) l_asc c_asc k_asc
  have B_asc := F_asc.binds (ps := ["values"]) fun _ _ _ _ _ _ us hl => match us, hl with | [_], _ => rfl
  have F_vers := fun_mk (st := sVersion) l_vers c_vers k_vers
  have B_vers := F_vers.binds (ps := ["value"]) fun _ _ _ _ _ _ us hl => match us, hl with | [_], _ => rfl
  have F_scri := fun_mk (st := sScripts) l_scri c_scri k_scri
  have B_scri := F_scri.binds (ps := ["values"]) fun _ _ _ _ _ _ us hl => match us, hl with | [_], _ => rfl
  have F_othe := fun_mk (st := sOthers) l_othe c_othe k_othe
  have B_othe := F_othe.binds (ps := ["values", "name"]) fun _ _ _ _ _ _ us hl => match us, hl with | [_, _], _ => rfl
  have F_pair := fun_mk (st := sPair) l_pair c_pair k_pair
  have B_pair := F_pair.binds (ps := ["value"]) fun _ _ _ _ _ _ us hl => match us, hl with | [_], _ => rfl
  have F_need := fun_mk (st := sNeeds) l_need c_need k_need
  have B_need := F_need.binds (ps := ["values", "name"]) fun _ _ _ _ _ _ us hl => match us, hl with | [_, _], _ => rfl
  have F_wron := fun_mk (st := sWrong) l_wron c_wron k_wron
  have B_wron := F_wron.binds (ps := ["name", "version", "scripts", "needs", "first", "against"]) fun _ _ _ _ _ _ us hl => match us, hl with | [_, _, _, _, _, _], _ => rfl
  have F_wi := fun_mk (st := sWi) l_wi c_wi k_wi
  have B_wi := F_wi.binds (ps := ["editions"]) fun _ _ _ _ _ _ us hl => match us, hl with | [_], _ => rfl
  have F_vn := fun_mk (st := sVn) l_vn c_vn k_vn
  have B_vn := F_vn.binds (ps := ["keys"]) fun _ _ _ _ _ _ us hl => match us, hl with | [_], _ => rfl
  have F_take := fun_mk (st := sTaken) l_take c_take k_take
  have B_take := F_take.binds (ps := ["_law_row", "_law_many"]) fun _ _ _ _ _ _ us hl => match us, hl with | [_, _], _ => rfl
  have F_fi := fun_mk (st := sFi) l_fi c_fi k_fi
  have B_fi := F_fi.binds (ps := ["value"]) fun _ _ _ _ _ _ us hl => match us, hl with | [_], _ => rfl
  have F_fs := fun_mk (st := sFs) l_fs c_fs k_fs
  have B_fs := F_fs.binds (ps := ["values"]) fun _ _ _ _ _ _ us hl => match us, hl with | [_], _ => rfl
  have F_tk := fun_mk (st := sTk) l_tk c_tk k_tk
  have B_tk := F_tk.binds (ps := ["values", "store", "name"]) fun _ _ _ _ _ _ us hl => match us, hl with | [_, _, _], _ => rfl
  have F_cl := fun_mk (st := sCl) l_cl c_cl k_cl
  have B_cl := F_cl.binds (ps := ["store", "files", "takes"]) fun _ _ _ _ _ _ us hl => match us, hl with | [_, _, _], _ => rfl
  have F_sto := fun_mk (st := sSto) l_sto c_sto k_sto
  have B_sto := F_sto.binds (ps := ["_law_row", "_law_most"]) fun _ _ _ _ _ _ us hl => match us, hl with | [_, _], _ => rfl
  have F_ks := fun_mk (st := sKs) l_ks c_ks k_ks
  have B_ks := F_ks.binds (ps := ["_law_store_here"]) fun _ _ _ _ _ _ us hl => match us, hl with | [_], _ => rfl
  have cl_C : Cls K C := ⟨pg_C, hd_C, po_C, sa_C⟩
  have cl_CT : Cls K CT := ⟨pg_CT, hd_CT, po_CT, sa_CT⟩
  have cl_CY : Cls K CY := ⟨pg_CY, hd_CY, po_CY, sa_CY⟩
  have OX_c0 : OexC K c0 := ⟨⟨_, _, _, _, _, _, _, _, _, _, _, _, _, _, _, ocl_c0, ove_c0⟩, osa_c0, ex_c0, oty_c0, okc_c0⟩
  have SP_c0 : SupC l.prog K mg c0 := ⟨OX_c0, osb_c0, osu_c0, osv_c0, o_op, none_ n_super, o_top⟩
  have ER_ie : ErrFn l.prog K c0 "InvalidEdition.__init__" sIe f_ie _ := ⟨⟨_, _, _, _, _, _, _, _, _, _, _, _, _, _, _, _, _, _, _, rfl, l_ie, c_ie, e_ie, f2_ie, fl_ie, ce_ie⟩⟩
  have OX_c1 : OexC K c1 := ⟨⟨_, _, _, _, _, _, _, _, _, _, _, _, _, _, _, ocl_c1, ove_c1⟩, osa_c1, ex_c1, oty_c1, okc_c1⟩
  have SP_c1 : SupC l.prog K mg c1 := ⟨OX_c1, osb_c1, osu_c1, osv_c1, o_op, none_ n_super, o_top⟩
  have ER_is : ErrFn l.prog K c1 "InvalidStore.__init__" sIs f_is _ := ⟨⟨_, _, _, _, _, _, _, _, _, _, _, _, _, _, _, _, _, _, _, rfl, l_is, c_is, e_is, f2_is, fl_is, ce_is⟩⟩
  have OX_CL : OexC K CL := ⟨⟨_, _, _, _, _, _, _, _, _, _, _, _, _, _, _, ocl_CL, ove_CL⟩, osa_CL, ex_CL, oty_CL, okc_CL⟩
  have SP_CL : SupC l.prog K mg CL := ⟨OX_CL, osb_CL, osu_CL, osv_CL, o_op, none_ n_super, o_top⟩
  have ER_il : ErrFn l.prog K CL "InvalidLayout.__init__" sIl f_il _ := ⟨⟨_, _, _, _, _, _, _, _, _, _, _, _, _, _, _, _, _, _, _, rfl, l_il, c_il, e_il, f2_il, fl_il, ce_il⟩⟩
  have EC_c4 : ErrC K mg "UnknownEdition" c4 := ⟨PySem.W.mg_of X G g_c4, exi_c4, ekc_c4, eb_c4, et_c4⟩
  have EC_c5 : ErrC K mg "UnknownName" c5 := ⟨PySem.W.mg_of X G g_c5, exi_c5, ekc_c5, eb_c5, et_c5⟩
  have F_g0 := fun_mk (st := (sGet 0)) l_g0 c_g0 k_g0
  have B_g0 := F_g0.binds (ps := ["self"]) fun _ _ _ _ _ _ us hl => match us, hl with | [_], _ => rfl
  have P_g0 : PropOf K C "name" p_g0 f_g0 := ⟨pa_g0, pg_g0, pt_g0, ⟨_, pr_g0⟩⟩
  have F_g1 := fun_mk (st := (sGet 1)) l_g1 c_g1 k_g1
  have B_g1 := F_g1.binds (ps := ["self"]) fun _ _ _ _ _ _ us hl => match us, hl with | [_], _ => rfl
  have P_g1 : PropOf K C "version" p_g1 f_g1 := ⟨pa_g1, pg_g1, pt_g1, ⟨_, pr_g1⟩⟩
  have F_g2 := fun_mk (st := (sGet 2)) l_g2 c_g2 k_g2
  have B_g2 := F_g2.binds (ps := ["self"]) fun _ _ _ _ _ _ us hl => match us, hl with | [_], _ => rfl
  have P_g2 : PropOf K C "scripts" p_g2 f_g2 := ⟨pa_g2, pg_g2, pt_g2, ⟨_, pr_g2⟩⟩
  have F_g3 := fun_mk (st := (sGet 3)) l_g3 c_g3 k_g3
  have B_g3 := F_g3.binds (ps := ["self"]) fun _ _ _ _ _ _ us hl => match us, hl with | [_], _ => rfl
  have P_g3 : PropOf K C "needs" p_g3 f_g3 := ⟨pa_g3, pg_g3, pt_g3, ⟨_, pr_g3⟩⟩
  have F_g4 := fun_mk (st := (sGet 4)) l_g4 c_g4 k_g4
  have B_g4 := F_g4.binds (ps := ["self"]) fun _ _ _ _ _ _ us hl => match us, hl with | [_], _ => rfl
  have P_g4 : PropOf K C "first" p_g4 f_g4 := ⟨pa_g4, pg_g4, pt_g4, ⟨_, pr_g4⟩⟩
  have F_g5 := fun_mk (st := (sGet 5)) l_g5 c_g5 k_g5
  have B_g5 := F_g5.binds (ps := ["self"]) fun _ _ _ _ _ _ us hl => match us, hl with | [_], _ => rfl
  have P_g5 : PropOf K C "against" p_g5 f_g5 := ⟨pa_g5, pg_g5, pt_g5, ⟨_, pr_g5⟩⟩
  have F_eq := fun_mk (st := sEq) l_eq c_eq k_eq
  have B_eq := F_eq.binds (ps := ["self", "other"]) fun _ _ _ _ _ _ us hl => match us, hl with | [_, _], _ => rfl
  have OE_C : OwnEqC K C f_eq := ⟨⟨_, _, _, _, _, _, _, _, _, _, _, _, _, _, _, _, x_C, xq_C, xn_C, xo_C⟩, a_eq, i_eq⟩
  have F_si := fun_mk (st := (sSt 0)) l_si c_si k_si
  have B_si := F_si.binds (ps := ["self", "editions"]) fun _ _ _ _ _ _ us hl => match us, hl with | [_, _], _ => rfl
  have F_sn := fun_mk (st := (sSt 1)) l_sn c_sn k_sn
  have B_sn := F_sn.binds (ps := ["self"]) fun _ _ _ _ _ _ us hl => match us, hl with | [_], _ => rfl
  have P_sn : PropOf K CT "names" p_sn f_sn := ⟨pa_sn, pg_sn, pt_sn, ⟨_, pr_sn⟩⟩
  have F_sv := fun_mk (st := (sSt 2)) l_sv c_sv k_sv
  have B_sv := F_sv.binds (ps := ["self", "name"]) fun _ _ _ _ _ _ us hl => match us, hl with | [_, _], _ => rfl
  have F_sh := fun_mk (st := (sSt 4)) l_sh c_sh k_sh
  have B_sh := F_sh.binds (ps := ["self", "x"]) fun _ _ _ _ _ _ us hl => match us, hl with | [_, _], _ => rfl
  have F_se := fun_mk (st := (sSt 7)) l_se c_se k_se
  have B_se := F_se.binds (ps := ["self", "other"]) fun _ _ _ _ _ _ us hl => match us, hl with | [_, _], _ => rfl
  have OE_CT : OwnEqC K CT f_se := ⟨⟨_, _, _, _, _, _, _, _, _, _, _, _, _, _, _, _, x_CT, xq_CT, xn_CT, xo_CT⟩, a_se, i_se⟩
  have F_li := fun_mk (st := (sLy 0)) l_li c_li k_li
  have B_li := F_li.binds (ps := ["self", "store", "files", "takes"]) fun _ _ _ _ _ _ us hl => match us, hl with | [_, _, _, _], _ => rfl
  have F_ls := fun_mk (st := (sLy 1)) l_ls c_ls k_ls
  have B_ls := F_ls.binds (ps := ["self"]) fun _ _ _ _ _ _ us hl => match us, hl with | [_], _ => rfl
  have P_ls : PropOf K CY "store" p_ls f_ls := ⟨pa_ls, pg_ls, pt_ls, ⟨_, pr_ls⟩⟩
  have F_lf := fun_mk (st := (sLy 2)) l_lf c_lf k_lf
  have B_lf := F_lf.binds (ps := ["self"]) fun _ _ _ _ _ _ us hl => match us, hl with | [_], _ => rfl
  have P_lf : PropOf K CY "files" p_lf f_lf := ⟨pa_lf, pg_lf, pt_lf, ⟨_, pr_lf⟩⟩
  have F_lt := fun_mk (st := (sLy 3)) l_lt c_lt k_lt
  have B_lt := F_lt.binds (ps := ["self"]) fun _ _ _ _ _ _ us hl => match us, hl with | [_], _ => rfl
  have P_lt : PropOf K CY "takes" p_lt f_lt := ⟨pa_lt, pg_lt, pt_lt, ⟨_, pr_lt⟩⟩
  have F_le := fun_mk (st := (sLy 4)) l_le c_le k_le
  have B_le := F_le.binds (ps := ["self", "other"]) fun _ _ _ _ _ _ us hl => match us, hl with | [_, _], _ => rfl
  have OE_CY : OwnEqC K CY f_le := ⟨⟨_, _, _, _, _, _, _, _, _, _, _, _, _, _, _, _, x_CY, xq_CY, xn_CY, xo_CY⟩, a_le, i_le⟩
  have tS : ∀ H, SqT K H aS (SCR.map V.str) := fun H => .inr ⟨_, _, _, t_S, rfl, rfl, (by decide : 4 ≤ sizeLine), .cons ⟨_, rfl⟩ (.cons ⟨_, rfl⟩ (.cons ⟨_, rfl⟩ (.cons ⟨_, rfl⟩ .nil)))⟩
  have t1 : ∀ H, SqT K H z1 [] := fun H => .inr ⟨_, _, _, t_1, rfl, rfl, by decide, .nil⟩
  have t2 : ∀ H, SqT K H z2 [] := fun H => .inr ⟨_, _, _, t_2, rfl, rfl, by decide, .nil⟩
  have t3 : ∀ H, SqT K H z3 [] := fun H => .inr ⟨_, _, _, t_3, rfl, rfl, by decide, .nil⟩
  have TD0 : TxtD mg := ⟨none_ n_int, none_ n_len⟩
  have TC : TxtC K mg 0 0 0 0 0 0 0 := ⟨TD0, none_ n_isinstance, none_ n_str, none_ n_bool, none_ n_tuple, none_ n_all, none_ n_range, ⟨_, PySem.W.mg_of X G v_let⟩, ⟨_, PySem.W.mg_of X G v_lon⟩⟩
  have TE0 : TxtE K mg := ⟨TD0, none_ n_isinstance, none_ n_str, none_ n_bool, none_ n_tuple, none_ n_all, none_ n_range, ⟨_, PySem.W.mg_of X G v_lv⟩, ⟨_, PySem.W.mg_of X G v_mv⟩, ⟨_, PySem.W.mg_of X G v_scr, tS⟩⟩
  have TG : TxtG l.prog K mg C c0 f_ie _ := ⟨cl_C, na_C_parts, PySem.W.mg_of X G g_C, PySem.W.mg_of X G g_c0, SP_c0, nf_c0, a_ie, y_ie, ER_ie, Binds.all fun us hl => match us, hl with | [_, _], _ => rfl⟩
  have TI : TxtI K mg C := ⟨cl_C, na_C_parts, PySem.W.mg_of X G g_C, none_ n_isinstance, ha_C, hn, ht, hm_C, ki_C⟩
  have TT : TxtT K mg CT c5 c4 := ⟨cl_CT, na_CT_table, na_CT_numbers, none_ n_tuple, none_ n_len, none_ n_isinstance, none_ n_bool, PySem.W.mg_of X G g_CT, EC_c5, EC_c4, ha_CT, hn, ht, hm_CT, ki_CT⟩
  have FE : FunD K "__init__" "Edition.__init__" (defArgs sEi) (defBody sEi) (defScope sEi) [] [("scripts", .ref aS), ("needs", .ref z1), ("first", .ref z2), ("against", .ref z3)] f_ei _ :=
    ⟨⟨_, _, _, _, _, _, _, _, _, _, rfl, l_ei, c_ei, .inl ⟨rfl, rfl⟩, .inr ⟨kD, rfl, fun q hq => by
      simp only [List.mem_cons, List.not_mem_nil, or_false] at hq
      rcases hq with rfl | rfl | rfl | rfl
      · exact ⟨_, d_scripts, rfl⟩
      · exact ⟨_, d_needs, rfl⟩
      · exact ⟨_, d_first, rfl⟩
      · exact ⟨_, d_against, rfl⟩⟩⟩, k_ei⟩
  refine ⟨PySem.W.fnOf "law" "law" (defArgs sLaw) (defBody sLaw) (defScope sLaw) .none kV_law dc_law pm_law an_law (.ref cLaw) ct_law, [(cLaw, PT)], spLaw K PT, fun p hp => ?_, fun p hp => ?_, fun p hp => ?_, fun s v => .of_eq rfl, fun H a ns hl _ hT hS => ⟨a, ns, rfl, hS, hl, hT (cLaw, PT) (List.mem_cons_self ..), fun _ => rfl⟩, fun base KB GB TB => ?_⟩
  · rw [List.mem_singleton.mp hp]; exact hTab
  · rw [List.mem_singleton.mp hp]; exact nT
  · rw [List.mem_singleton.mp hp]; exact PySem.W.codeHd_of_K X hH
  · have dN : Def l.prog w K mg base 1 "is_number" _ spNumber := ⟨_, _, ok_number F_numb TE0, PySem.W.mg_of X G a_numb, k_numb, B_numb⟩
    have dV : Def l.prog w K mg base 2 "is_version" _ spVersion := ⟨_, _, ok_version F_vers TE0 dN, PySem.W.mg_of X G a_vers, k_vers, B_vers⟩
    have dA : Def l.prog w K mg base 1 "ascends" _ (spAsc K) := ⟨_, _, ok_asc F_asc TE0, PySem.W.mg_of X G a_asc, k_asc, B_asc⟩
    have dW : Def l.prog w K mg base 1 "is_word" _ spWord := ⟨_, _, ok_word F_word TC, PySem.W.mg_of X G a_word, k_word, B_word⟩
    have dS : Def l.prog w K mg base 2 "are_scripts" _ (spScripts K) := ⟨_, _, ok_scripts F_scri TE0 dA, PySem.W.mg_of X G a_scri, k_scri, B_scri⟩
    have dO : Def l.prog w K mg base 2 "are_other_names" _ (spOthers K) := ⟨_, _, ok_others F_othe TE0 dA dW, PySem.W.mg_of X G a_othe, k_othe, B_othe⟩
    have dPr : Def l.prog w K mg base 3 "is_pair_with_version" _ (spPair K) := ⟨_, _, ok_pair F_pair TE0 dV, PySem.W.mg_of X G a_pair, k_pair, B_pair⟩
    have dNe : Def l.prog w K mg base 4 "are_needs" _ (spNeeds K) := ⟨_, _, ok_needs F_need TE0 dPr dO, PySem.W.mg_of X G a_need, k_need, B_need⟩
    have dWr : Def l.prog w K mg base 5 "wrong_part" _ (spWrong K) := ⟨_, _, ok_wrong F_wron TE0 ⟨dW, dV, dS, dNe, dO⟩, PySem.W.mg_of X G a_wron, k_wron, B_wron⟩
    have EI : EdF l.prog w K mg base C c0 f_ei _ aS z1 z2 z3 := ⟨ok_ei FE TG dWr, FE, ⟨mk_C, a_ei, i_ei, kc_C⟩, PySem.W.mg_of X G g_C, tS, t1, t2, t3⟩
    have eqF : EqF l.prog w K mg base C := ⟨_, _, ok_eq F_eq TI, OE_C, B_eq⟩
    have D : EdAll l.prog w K mg base C c0 := ⟨⟨_, _, _, _, _, _, EI⟩, eqF, cl_C, ⟨_, _, _, P_g0, ok_get (by decide) F_g0 cl_C na_C_parts, B_g0⟩, ⟨_, _, _, P_g1, ok_get (by decide) F_g1 cl_C na_C_parts, B_g1⟩, ⟨_, _, _, P_g2, ok_get (by decide) F_g2 cl_C na_C_parts, B_g2⟩, ⟨_, _, _, P_g3, ok_get (by decide) F_g3 cl_C na_C_parts, B_g3⟩, ⟨_, _, _, P_g4, ok_get (by decide) F_g4 cl_C na_C_parts, B_g4⟩, ⟨_, _, _, P_g5, ok_get (by decide) F_g5 cl_C na_C_parts, B_g5⟩⟩
    have dT : Def l.prog w K mg base 1 "_law_taken" _ (spTaken K) := ⟨_, _, ok_taken F_take TD0, PySem.W.mg_of X G a_take, k_take, B_take⟩
    have TW : TxtW l.prog w K mg base C := ⟨none_ n_set, none_ n_len, none_ n_enumerate, ⟨_, PySem.W.mg_of X G v_me⟩, ⟨_, PySem.W.mg_of X G v_mn⟩, D.p0, D.p1, cl_C⟩
    have dWi : Def l.prog w K mg base 3 "wrong_index" _ (spWi K C) := ⟨_, _, ok_wi F_wi TW, PySem.W.mg_of X G a_wi, k_wi, B_wi⟩
    have dVn : Def l.prog w K mg base 1 "versions_by_name" _ (spVn K) := ⟨_, _, ok_vn F_vn (none_ n_sorted), PySem.W.mg_of X G a_vn, k_vn, B_vn⟩
    have TS : TxtS l.prog w K mg base C CT c1 f_is _ := ⟨cl_CT, na_CT_table, na_CT_numbers, none_ n_list, PySem.W.mg_of X G g_c1, SP_c1, nf_c1, a_is, y_is, ER_is, (Binds.all fun us hl => match us, hl with | [_, _], _ => rfl), D.p0, D.p1, cl_C, dWi, dVn⟩
    have FH := ok_has (P := l.prog) (w := w) (base := base) F_sh TT
    have HF : HasF l.prog w K mg base CT := ⟨_, _, ⟨a_sh, i_sh⟩, FH, B_sh⟩
    have NF : NamF l.prog w K mg base CT := ⟨cl_CT, ⟨_, _, _, P_sn, ok_names F_sn TT, B_sn⟩⟩
    have MS : MkSt l.prog w K mg base C CT c1 := ⟨⟨_, _, ⟨mk_CT, a_si, i_si, kc_CT⟩, ok_si F_si TS, B_si⟩, PySem.W.mg_of X G g_CT⟩
    have SV : SvF l.prog w K mg base CT c5 := ⟨cl_CT, _, _, ⟨a_sv, i_sv, k_sv⟩, ok_vers F_sv TT, B_sv⟩
    have dSto : Def l.prog w K mg base 8 "_law_store" _ (spSto K C CT) := ⟨_, _, ok_sto F_sto (none_ n_tuple) dT EI MS, PySem.W.mg_of X G a_sto, k_sto, B_sto⟩
    have dAL : Def l.prog w K mg base 1 "ascends" _ (spAscL K) := ⟨_, _, ok_ascL F_asc TE0, PySem.W.mg_of X G a_asc, k_asc, B_asc⟩
    have dFi : Def l.prog w K mg base 2 "is_file" _ (spFi K) := ⟨_, _, ok_fi F_fi TE0 ⟨_, PySem.W.mg_of X G v_mc⟩ dW dN, PySem.W.mg_of X G a_fi, k_fi, B_fi⟩
    have dFs : Def l.prog w K mg base 3 "are_files" _ (spFs K) := ⟨_, _, ok_fs F_fs TE0 ⟨_, PySem.W.mg_of X G v_mf⟩ dFi dAL, PySem.W.mg_of X G a_fs, k_fs, B_fs⟩
    have dTk : Def l.prog w K mg base 3 "are_takes" _ (spTk K CT) := ⟨_, _, ok_tk F_tk TE0 NF dO, PySem.W.mg_of X G a_tk, k_tk, B_tk⟩
    have TL : TxtL l.prog w K mg base C CT CL f_il _ := ⟨none_ n_min, HF, dFs, dTk, PySem.W.mg_of X G g_CL, SP_CL, nfp_CL, nfk_CL, a_il, y_il, ER_il, Binds.all fun us hl => match us, hl with | [_, _, _], _ => rfl⟩
    have dCl : DefX l.prog w K mg base 4 "check_layout" _ (spCl K CT CL) := ⟨_, _, ok_cl F_cl TL, PySem.W.mg_of X G a_cl, k_cl, B_cl⟩
    have TLy : TxtLy K CY := ⟨cl_CY, na_CY_held_store, na_CY_held_files, na_CY_held_takes⟩
    have SE : StEqF l.prog w K mg base CT := ⟨_, _, OE_CT, ok_steq F_se TT, B_se⟩
    have TLe : TxtLe K mg CY := ⟨TLy, none_ n_isinstance, PySem.W.mg_of X G g_CY, ha_CY, hn, ht, hm_CY, ki_CY⟩
    have dKs : Def l.prog w K mg base 3 "_law_keys" _ (spKs CT) := ⟨_, _, ok_ks F_ks NF SV, PySem.W.mg_of X G a_ks, k_ks, B_ks⟩
    have LA : LawAll l.prog w K mg base C CT CY c5 CL := ⟨none_ n_range, none_ n_tuple, none_ n_int, none_ n_list, none_ n_min, none_ n_sorted, dT, dSto, dKs, HF, NF⟩
    have TDF : TdF K mg := ⟨_, _, _, _, _, _, _, _, _, _, _, PySem.W.mg_of X G a_td, k_td, l_td, c_td, Binds.all fun us hl => match us, hl with | [_], _ => rfl⟩
    have TDT : TdT K mg CL := ⟨PySem.W.mg_of X G g_CL, ⟨ga_CL, gg_CL, ex_CL, hx_CL⟩, nfp_CL, nfk_CL, PySem.W.exm_ref ex_CL hx_CL tt_CL ss_CL⟩
    have LY : LayAll l.prog w K mg base CT CY CL := ⟨TDF, TDT, cl_CY, ⟨_, _, ok_li F_li TLy (none_ n_sorted) dCl, ⟨mk_CY, a_li, i_li, kc_CY⟩, B_li, PySem.W.mg_of X G g_CY⟩, ⟨_, _, _, P_lf, ok_lf F_lf TLy, B_lf⟩, ⟨_, _, _, P_lt, ok_lt F_lt TLy, B_lt⟩, ⟨_, _, _, P_ls, ok_ls F_ls TLy, B_ls⟩, ⟨_, _, OE_CY, ok_leq F_le TLe SE, B_le⟩, SE⟩
    exact ok_law l_law c_law LA LY (TB (cLaw, PT) (List.mem_cons_self ..))
end Half

/-! the head by kernel runs: one for each answer of the one thing that the top asks of the world -/
namespace HalfHead
open PySem PySem.W PySem.Calls PyProof.Rows
/-- the row; what is seen of its top: the law; the other names that the top binds -/
abbrev R : OpenRow := OpenLaw.row PySem.Challenge.rw_halfsetup_k31_layouts_rejected
abbrev qv : Program := view R.prog [43]
def nm0 : List PySem.Str := ["LETTERS", "LONGEST_WORD", "is_word", "is_number", "ascends", "SetupError", "InvalidEdition", "InvalidStore", "UnknownEdition", "UnknownName", "InvalidLayout", "SCRIPTS", "LEAST_VERSION", "MOST_VERSION", "is_version", "are_scripts", "are_other_names", "is_pair_with_version", "are_needs", "wrong_part", "Edition", "MOST_EDITIONS", "MOST_NAMES", "wrong_index", "versions_by_name", "Store", "MOST_FILES", "MOST_CONTENT", "is_file", "are_files"]
def nm1 : List PySem.Str := ["are_takes", "check_layout", "Layout", "_law_taken", "_law_store", "_law_keys", "_law_told"]
def names : List PySem.Str := nm0 ++ (nm1)
/-- k_headL writes the objects that the walk reads as a constant, pre.heap_1: that alone is taken from here -/
local macro_rules | `(tactic| o_headL $_) => `(tactic| exact (by assumption : ∀ p : Prop, p) _)
theorem pre (hh : ∀ p : Prop, p) : R.Holds := by k_headL
def firsts : List (Addr × Obj) → List Addr
  | [] => []
  | q :: r => q.1 :: firsts r
noncomputable def ats : List Addr := firsts (pre.heap_1 (aWorld 1).params)
theorem ats_ok (P : Params) : ats = (pre.heap_1 P).map (·.1) := by kernel_rfl
def tabs : List Addr := [425]
noncomputable abbrev H : Hook := kmHook pre.heap_1 ats ats_ok tabs
/-- what the Hook looks at, off the tree -/
noncomputable def ob (s : SharedT) : List (Option Obj) × List (Option Obj) := (ats.map (HandSHeadRun.getT s), tabs.map (HandSHeadRun.getT s))
theorem ob_eq (s : SharedT) : ob s = H.obs s.abs := Prod.ext (List.map_congr_left fun a _ => HandSHeadRun.getT_eq s a) (List.map_congr_left fun a _ => HandSHeadRun.getT_eq s a)
theorem run0 (w : World) (os : OsState) : (HandSHeadRun.endF (HandSHeadRun.stepQ (HandSHeadRun.denQ HandSHeadRun.tabQ) R.prog (w.withFollow "special-get-raises" false)) 7000 R.prog (w.withFollow "special-get-raises" false) os).map (fun s => (HandSHeadRun.looksF R.prog (boot_heap (w.withFollow "special-get-raises" false).params) s.abs, HandSHeadRun.seenQ qv names (importedModules R.prog.main.body) (fun s => xlAt qv [] s && recOk R.toRowW.records s) s.abs, ob s)) = some (true, openGood qv names, H.val (w.withFollow "special-get-raises" false)) := by kernel_rfl
theorem run1 (w : World) (os : OsState) : (HandSHeadRun.endF (HandSHeadRun.stepQ (HandSHeadRun.denQ HandSHeadRun.tabQ) R.prog (w.withFollow "special-get-raises" true)) 7000 R.prog (w.withFollow "special-get-raises" true) os).map (fun s => (HandSHeadRun.looksF R.prog (boot_heap (w.withFollow "special-get-raises" true).params) s.abs, HandSHeadRun.seenQ qv names (importedModules R.prog.main.body) (fun s => xlAt qv [] s && recOk R.toRowW.records s) s.abs, ob s)) = some (true, openGood qv names, H.val (w.withFollow "special-get-raises" true)) := by kernel_rfl
theorem run (w : World) : HandSHeadRun.RunEq R qv H ob 7000 names w := byRow2 "special-get-raises" (P := fun w => HandSHeadRun.RunEq R qv H ob 7000 names w) (fun w os => run0 w os) (fun w os => run1 w os) w
end HalfHead
open PySem PySem.W PyProof.Rows
set_option maxRecDepth 100000 in
set_option maxHeartbeats 0 in
theorem PySem.Challenge.cw_halfsetup_k31_layouts_rejected_holds : PySem.Challenge.rw_halfsetup_k31_layouts_rejected.Holds := by
  w_on; o_law
  refine HandSHeadRun.head_any (r := OpenLaw.row PySem.Challenge.rw_halfsetup_k31_layouts_rejected) (q := HalfHead.qv) (H := kmHook HalfHead.pre.heap_1 HalfHead.ats HalfHead.ats_ok HalfHead.tabs) (ob := HalfHead.ob) (M := 7000) (loose := HalfHead.names) (kwd := []) HalfHead.ob_eq (by kernel_rfl) (fun s => by kernel_rfl) HalfHead.run (by rfl) (by rfl) (by rfl) (by rfl) (by first | assumption | decide +kernel) (by decide +kernel) ⟨rfl, rfl, rfl, rfl, rfl, by decide +kernel⟩ ?_ ?_
  · w_witness2
  k_fill
  refine LamX.walk_ofTs (l := PySem.Challenge.rw_halfsetup_k31_layouts_rejected) (n := 63) (k := 9) (x := "_law_script") (CX := fun _ => L2.CX0) rfl (by decide) rfl ⟨rfl, by decide, by decide⟩ (fun w h Y => PySem.W.km_in_of Y) ?F (fun _ _ _ _ _ z => z)
  case F =>
    intro w mg fa h Y KX G hmg
    refine' Half.all_mk KX G hmg (PySem.W.km_tabs_of Y _ (List.mem_cons_self ..)) ?n_int ?n_len ?n_isinstance ?n_str ?n_bool ?n_tuple ?n_all ?n_range ?n_ValueError ?n_super ?n_set ?n_sorted ?n_list ?n_enumerate ?n_dict ?n_any ?n_min ?a_word ?l_word ?c_word ?k_word ?a_numb ?l_numb ?c_numb ?k_numb ?a_asc ?l_asc ?c_asc ?k_asc ?a_vers ?l_vers ?c_vers ?k_vers ?a_scri ?l_scri ?c_scri ?k_scri ?a_othe ?l_othe ?c_othe ?k_othe ?a_pair ?l_pair ?c_pair ?k_pair ?a_need ?l_need ?c_need ?k_need ?a_wron ?l_wron ?c_wron ?k_wron ?a_wi ?l_wi ?c_wi ?k_wi ?a_vn ?l_vn ?c_vn ?k_vn ?a_take ?l_take ?c_take ?k_take ?a_fi ?l_fi ?c_fi ?k_fi ?a_fs ?l_fs ?c_fs ?k_fs ?a_tk ?l_tk ?c_tk ?k_tk ?a_cl ?l_cl ?c_cl ?k_cl ?a_sto ?l_sto ?c_sto ?k_sto ?a_ks ?l_ks ?c_ks ?k_ks ?a_law ?l_law ?c_law ?k_law ?a_td ?l_td ?c_td ?k_td ?g_C ?g_CT ?g_CY ?pg_C ?hd_C ?po_C ?sa_C ?ha_C ?hm_C ?ki_C ?hn ?ht ?pg_CT ?hd_CT ?po_CT ?sa_CT ?ha_CT ?hm_CT ?ki_CT ?pg_CY ?hd_CY ?po_CY ?sa_CY ?ha_CY ?hm_CY ?ki_CY ?g_c0 ?g_c1 ?g_c4 ?g_c5 ?g_CL ?ex_c0 ?nf_c0 ?ex_c1 ?nf_c1 ?ocl_c0 ?ove_c0 ?osa_c0 ?oty_c0 ?okc_c0 ?osb_c0 ?osu_c0 ?osv_c0 ?o_op ?o_top ?a_ie ?y_ie ?l_ie ?c_ie ?e_ie ?f2_ie ?fl_ie ?ce_ie ?ocl_c1 ?ove_c1 ?osa_c1 ?oty_c1 ?okc_c1 ?osb_c1 ?osu_c1 ?osv_c1 ?a_is ?y_is ?l_is ?c_is ?e_is ?f2_is ?fl_is ?ce_is ?ex_CL ?nfp_CL ?nfk_CL ?ocl_CL ?ove_CL ?osa_CL ?oty_CL ?okc_CL ?osb_CL ?osu_CL ?osv_CL ?a_il ?y_il ?l_il ?c_il ?e_il ?f2_il ?fl_il ?ce_il ?ga_CL ?gg_CL ?hx_CL ?tt_CL ?ss_CL ?exi_c4 ?ekc_c4 ?eb_c4 ?et_c4 ?exi_c5 ?ekc_c5 ?eb_c5 ?et_c5 ?v_let ?v_lon ?v_lv ?v_mv ?v_me ?v_mn ?v_mf ?v_mc ?v_scr ?a_ei ?l_ei ?c_ei ?k_ei ?i_ei ?mk_C ?kc_C ?d_scripts ?d_needs ?d_first ?d_against ?t_S ?t_1 ?t_2 ?t_3 ?na_C_parts ?pa_g0 ?pg_g0 ?pt_g0 ?pr_g0 ?l_g0 ?c_g0 ?k_g0 ?pa_g1 ?pg_g1 ?pt_g1 ?pr_g1 ?l_g1 ?c_g1 ?k_g1 ?pa_g2 ?pg_g2 ?pt_g2 ?pr_g2 ?l_g2 ?c_g2 ?k_g2 ?pa_g3 ?pg_g3 ?pt_g3 ?pr_g3 ?l_g3 ?c_g3 ?k_g3 ?pa_g4 ?pg_g4 ?pt_g4 ?pr_g4 ?l_g4 ?c_g4 ?k_g4 ?pa_g5 ?pg_g5 ?pt_g5 ?pr_g5 ?l_g5 ?c_g5 ?k_g5 ?a_eq ?l_eq ?c_eq ?k_eq ?i_eq ?x_C ?xq_C ?xn_C ?xo_C ?na_CT_table ?na_CT_numbers ?a_si ?l_si ?c_si ?k_si ?i_si ?mk_CT ?kc_CT ?pa_sn ?pg_sn ?pt_sn ?pr_sn ?l_sn ?c_sn ?k_sn ?a_sv ?l_sv ?c_sv ?k_sv ?i_sv ?a_sh ?l_sh ?c_sh ?k_sh ?i_sh ?a_se ?l_se ?c_se ?k_se ?i_se ?x_CT ?xq_CT ?xn_CT ?xo_CT ?na_CY_held_store ?na_CY_held_files ?na_CY_held_takes ?a_li ?l_li ?c_li ?k_li ?i_li ?mk_CY ?kc_CY ?pa_ls ?pg_ls ?pt_ls ?pr_ls ?l_ls ?c_ls ?k_ls ?pa_lf ?pg_lf ?pt_lf ?pr_lf ?l_lf ?c_lf ?k_lf ?pa_lt ?pg_lt ?pt_lt ?pr_lt ?l_lt ?c_lt ?k_lt ?a_le ?l_le ?c_le ?k_le ?i_le ?x_CY ?xq_CY ?xn_CY ?xo_CY ?nT ?hH
    (case n_int => k_is)
    (case n_len => k_is)
    (case n_isinstance => k_is)
    (case n_str => k_is)
    (case n_bool => k_is)
    (case n_tuple => k_is)
    (case n_all => k_is)
    (case n_range => k_is)
    (case n_ValueError => k_is)
    (case n_super => k_is)
    (case n_set => k_is)
    (case n_sorted => k_is)
    (case n_list => k_is)
    (case n_enumerate => k_is)
    (case n_dict => k_is)
    (case n_any => k_is)
    (case n_min => k_is)
    (case a_word => k_is)
    (case l_word => k_is)
    (case c_word => k_is)
    (case k_word => k_is)
    (case a_numb => k_is)
    (case l_numb => k_is)
    (case c_numb => k_is)
    (case k_numb => k_is)
    (case a_asc => k_is)
    (case l_asc => k_is)
    (case c_asc => k_is)
    (case k_asc => k_is)
    (case a_vers => k_is)
    (case l_vers => k_is)
    (case c_vers => k_is)
    (case k_vers => k_is)
    (case a_scri => k_is)
    (case l_scri => k_is)
    (case c_scri => k_is)
    (case k_scri => k_is)
    (case a_othe => k_is)
    (case l_othe => k_is)
    (case c_othe => k_is)
    (case k_othe => k_is)
    (case a_pair => k_is)
    (case l_pair => k_is)
    (case c_pair => k_is)
    (case k_pair => k_is)
    (case a_need => k_is)
    (case l_need => k_is)
    (case c_need => k_is)
    (case k_need => k_is)
    (case a_wron => k_is)
    (case l_wron => k_is)
    (case c_wron => k_is)
    (case k_wron => k_is)
    (case a_wi => k_is)
    (case l_wi => k_is)
    (case c_wi => k_is)
    (case k_wi => k_is)
    (case a_vn => k_is)
    (case l_vn => k_is)
    (case c_vn => k_is)
    (case k_vn => k_is)
    (case a_take => k_is)
    (case l_take => k_is)
    (case c_take => k_is)
    (case k_take => k_is)
    (case a_fi => k_is)
    (case l_fi => k_is)
    (case c_fi => k_is)
    (case k_fi => k_is)
    (case a_fs => k_is)
    (case l_fs => k_is)
    (case c_fs => k_is)
    (case k_fs => k_is)
    (case a_tk => k_is)
    (case l_tk => k_is)
    (case c_tk => k_is)
    (case k_tk => k_is)
    (case a_cl => k_is)
    (case l_cl => k_is)
    (case c_cl => k_is)
    (case k_cl => k_is)
    (case a_sto => k_is)
    (case l_sto => k_is)
    (case c_sto => k_is)
    (case k_sto => k_is)
    (case a_ks => k_is)
    (case l_ks => k_is)
    (case c_ks => k_is)
    (case k_ks => k_is)
    (case a_law => k_is)
    (case l_law => k_is)
    (case c_law => k_is)
    (case k_law => k_is)
    (case a_td => k_is)
    (case l_td => k_is)
    (case c_td => k_is)
    (case k_td => k_is)
    (case g_C => k_is)
    (case g_CT => k_is)
    (case g_CY => k_is)
    (case pg_C => k_is)
    (case hd_C => k_is)
    (case po_C => k_is)
    (case sa_C => k_is)
    (case ha_C => k_is)
    (case hm_C => k_is)
    (case ki_C => kit_is)
    (case hn => k_is)
    (case ht => k_is)
    (case pg_CT => k_is)
    (case hd_CT => k_is)
    (case po_CT => k_is)
    (case sa_CT => k_is)
    (case ha_CT => k_is)
    (case hm_CT => k_is)
    (case ki_CT => kit_is)
    (case pg_CY => k_is)
    (case hd_CY => k_is)
    (case po_CY => k_is)
    (case sa_CY => k_is)
    (case ha_CY => k_is)
    (case hm_CY => k_is)
    (case ki_CY => kit_is)
    (case g_c0 => k_is)
    (case g_c1 => k_is)
    (case g_c4 => k_is)
    (case g_c5 => k_is)
    (case g_CL => k_is)
    (case ex_c0 => k_is)
    (case nf_c0 => k_is)
    (case ex_c1 => k_is)
    (case nf_c1 => k_is)
    (case ocl_c0 => k_is)
    (case ove_c0 => decide +kernel)
    (case osa_c0 => k_is)
    (case oty_c0 => k_is)
    (case okc_c0 => k_is)
    (case osb_c0 => k_is)
    (case osu_c0 => ks_is)
    (case osv_c0 => k_is)
    (case o_op => k_is)
    (case o_top => decide +kernel)
    (case a_ie => k_is)
    (case y_ie => k_is)
    (case l_ie => k_is)
    (case c_ie => k_is)
    (case e_ie => k_is)
    (case f2_ie => rfl)
    (case fl_ie => decide +kernel)
    (case ce_ie => k_is)
    (case ocl_c1 => k_is)
    (case ove_c1 => decide +kernel)
    (case osa_c1 => k_is)
    (case oty_c1 => k_is)
    (case okc_c1 => k_is)
    (case osb_c1 => k_is)
    (case osu_c1 => ks_is)
    (case osv_c1 => k_is)
    (case a_is => k_is)
    (case y_is => k_is)
    (case l_is => k_is)
    (case c_is => k_is)
    (case e_is => k_is)
    (case f2_is => rfl)
    (case fl_is => decide +kernel)
    (case ce_is => k_is)
    (case ex_CL => k_is)
    (case nfp_CL => k_is)
    (case nfk_CL => k_is)
    (case ocl_CL => k_is)
    (case ove_CL => decide +kernel)
    (case osa_CL => k_is)
    (case oty_CL => k_is)
    (case okc_CL => k_is)
    (case osb_CL => k_is)
    (case osu_CL => ks_is)
    (case osv_CL => k_is)
    (case a_il => k_is)
    (case y_il => k_is)
    (case l_il => k_is)
    (case c_il => k_is)
    (case e_il => k_is)
    (case f2_il => rfl)
    (case fl_il => decide +kernel)
    (case ce_il => k_is)
    (case ga_CL => k_is)
    (case gg_CL => k_is)
    (case hx_CL => k_is)
    (case tt_CL => k_is)
    (case ss_CL => k_is)
    (case exi_c4 => kernel_rfl)
    (case ekc_c4 => k_is)
    (case eb_c4 => k_is)
    (case et_c4 => k_is)
    (case exi_c5 => kernel_rfl)
    (case ekc_c5 => k_is)
    (case eb_c5 => k_is)
    (case et_c5 => k_is)
    (case v_let => k_is)
    (case v_lon => k_is)
    (case v_lv => k_is)
    (case v_mv => k_is)
    (case v_me => k_is)
    (case v_mn => k_is)
    (case v_mf => k_is)
    (case v_mc => k_is)
    (case v_scr => k_is)
    (case a_ei => k_is)
    (case l_ei => k_is)
    (case c_ei => k_is)
    (case k_ei => k_is)
    (case i_ei => k_is)
    (case mk_C => k_is)
    (case kc_C => k_is)
    (case d_scripts => k_is)
    (case d_needs => k_is)
    (case d_first => k_is)
    (case d_against => k_is)
    (case t_S => k_is)
    (case t_1 => k_is)
    (case t_2 => k_is)
    (case t_3 => k_is)
    (case na_C_parts => k_is)
    (case pa_g0 => k_is)
    (case pg_g0 => k_is)
    (case pt_g0 => k_is)
    (case pr_g0 => k_is)
    (case l_g0 => k_is)
    (case c_g0 => k_is)
    (case k_g0 => k_is)
    (case pa_g1 => k_is)
    (case pg_g1 => k_is)
    (case pt_g1 => k_is)
    (case pr_g1 => k_is)
    (case l_g1 => k_is)
    (case c_g1 => k_is)
    (case k_g1 => k_is)
    (case pa_g2 => k_is)
    (case pg_g2 => k_is)
    (case pt_g2 => k_is)
    (case pr_g2 => k_is)
    (case l_g2 => k_is)
    (case c_g2 => k_is)
    (case k_g2 => k_is)
    (case pa_g3 => k_is)
    (case pg_g3 => k_is)
    (case pt_g3 => k_is)
    (case pr_g3 => k_is)
    (case l_g3 => k_is)
    (case c_g3 => k_is)
    (case k_g3 => k_is)
    (case pa_g4 => k_is)
    (case pg_g4 => k_is)
    (case pt_g4 => k_is)
    (case pr_g4 => k_is)
    (case l_g4 => k_is)
    (case c_g4 => k_is)
    (case k_g4 => k_is)
    (case pa_g5 => k_is)
    (case pg_g5 => k_is)
    (case pt_g5 => k_is)
    (case pr_g5 => k_is)
    (case l_g5 => k_is)
    (case c_g5 => k_is)
    (case k_g5 => k_is)
    (case a_eq => k_is)
    (case l_eq => k_is)
    (case c_eq => k_is)
    (case k_eq => k_is)
    (case i_eq => k_is)
    (case x_C => k_is)
    (case xq_C => k_is)
    (case xn_C => k_is)
    (case xo_C => kernel_rfl)
    (case na_CT_table => k_is)
    (case na_CT_numbers => k_is)
    (case a_si => k_is)
    (case l_si => k_is)
    (case c_si => k_is)
    (case k_si => k_is)
    (case i_si => k_is)
    (case mk_CT => k_is)
    (case kc_CT => k_is)
    (case pa_sn => k_is)
    (case pg_sn => k_is)
    (case pt_sn => k_is)
    (case pr_sn => k_is)
    (case l_sn => k_is)
    (case c_sn => k_is)
    (case k_sn => k_is)
    (case a_sv => k_is)
    (case l_sv => k_is)
    (case c_sv => k_is)
    (case k_sv => k_is)
    (case i_sv => k_is)
    (case a_sh => k_is)
    (case l_sh => k_is)
    (case c_sh => k_is)
    (case k_sh => k_is)
    (case i_sh => k_is)
    (case a_se => k_is)
    (case l_se => k_is)
    (case c_se => k_is)
    (case k_se => k_is)
    (case i_se => k_is)
    (case x_CT => k_is)
    (case xq_CT => k_is)
    (case xn_CT => k_is)
    (case xo_CT => kernel_rfl)
    (case na_CY_held_store => k_is)
    (case na_CY_held_files => k_is)
    (case na_CY_held_takes => k_is)
    (case a_li => k_is)
    (case l_li => k_is)
    (case c_li => k_is)
    (case k_li => k_is)
    (case i_li => k_is)
    (case mk_CY => k_is)
    (case kc_CY => k_is)
    (case pa_ls => k_is)
    (case pg_ls => k_is)
    (case pt_ls => k_is)
    (case pr_ls => k_is)
    (case l_ls => k_is)
    (case c_ls => k_is)
    (case k_ls => k_is)
    (case pa_lf => k_is)
    (case pg_lf => k_is)
    (case pt_lf => k_is)
    (case pr_lf => k_is)
    (case l_lf => k_is)
    (case c_lf => k_is)
    (case k_lf => k_is)
    (case pa_lt => k_is)
    (case pg_lt => k_is)
    (case pt_lt => k_is)
    (case pr_lt => k_is)
    (case l_lt => k_is)
    (case c_lt => k_is)
    (case k_lt => k_is)
    (case a_le => k_is)
    (case l_le => k_is)
    (case c_le => k_is)
    (case k_le => k_is)
    (case i_le => k_is)
    (case x_CY => k_is)
    (case xq_CY => k_is)
    (case xn_CY => k_is)
    (case xo_CY => kernel_rfl)
    (case nT => kernel_rfl)
    (case hH => kernel_rfl)
