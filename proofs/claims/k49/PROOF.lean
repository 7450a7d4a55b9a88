import PyProof.Rows.All
import Wide.All
import OpenK.AllK
import Wide.FinOn
import KE.OsRunLaw
import HandS.Head2
import HandS.EndTab
import KE.KNestM
import KE.KExcSuper
import HandS.ForMost
import HandS.ForExc
import HandS.ExcInit
import PyProof.InstNe
import KE.KExcIs
import HandS.ExcIs
import HandS.SetFor
import HandS.IsInst
import HandS.Walk
import HandS.FStr
import HandS.More
import HandS.Codes
import HandS.Conv
import HandS.Defaults
import HandS.MakeKwOnly
import HandS.Property
import HandS.TupSets
import HandS.SetKeys
import HandS.SetTxt0
import HandS.Strs
import PyProof.Rows.SortShellAny
import HandS.SortRule
import HandS.SortOrd
import HandS.DictComp
import KE.GoesMore
import KE.KEqDict
import HandS.Lambda
import KE.KDflt
import HandS.Style
import HandS.TupAny
import HandS.Star
import KE.KRevSl
import HandS.ExcField
import HandS.TupLen
import HandS.RaiseMore
import HandS.ExcOwn
import HandS.Deep
import HandS.Text
import HandS.FStrTup
import HandS.Exc
import KE.DataMinMax
import KE.KDictWalk
import HandS.Iter
import HandS.Call
import KE.DataCmp
import HandS.SetBool
import KE.SortData
import PyProof.Transfer
import KE.KDictSum
import HandS.DictTup
import PyProof.DictUpdate
import KE.KDictKeyed
import KE.KeyNested
import KE.KDictCopyH
import KE.KDictDisplayH
import HandS.Comp
import KE.GoesRaise
import KE.KExcPX
import HandS.TryMany
import KE.RegKIsAll
import PySem.Challenge.RW_halfsetup_k49_texts_rejected
set_option Elab.async false
set_option linter.all false
set_option maxRecDepth 100000
set_option maxHeartbeats 8000000
/-! the head by kernel runs: one for each answer of the one thing that the top asks of the world -/
namespace HalfHead
open PySem PySem.W PySem.Calls PyProof.Rows
/-- the row; what is seen of its top: the law; the other names that the top binds -/
abbrev R : OpenRow := OpenLaw.row PySem.Challenge.rw_halfsetup_k49_texts_rejected
abbrev qv : Program := view R.prog [60]
def nm0 : List PySem.Str := ["_wall", "LETTERS", "LONGEST_WORD", "DIGITS", "LONGEST_NUMERAL", "is_word", "is_number", "is_numeral", "ascends", "SetupError", "InvalidEdition", "InvalidStore", "UnknownEdition", "UnknownName", "InvalidSystem", "InvalidText", "SCRIPTS", "LEAST_VERSION", "MOST_VERSION", "is_version", "are_scripts", "are_other_names", "is_pair_with_version", "are_needs", "wrong_part", "Edition", "MOST_EDITIONS", "MOST_NAMES", "wrong_index", "versions_by_name"]
def nm1 : List PySem.Str := ["Store", "ABSENT", "STATUSES", "is_state", "wrong_package", "System", "built_system", "FOLLOWERS", "Row", "take_name", "take_number", "take_scripts", "take_needs", "take_names", "take_key", "take_state", "Draft", "part_in", "parse_system", "_law_taken", "_law_place", "_law_are_later"]
def names : List PySem.Str := nm0 ++ (nm1)
/-- k_headL writes the objects that the walk reads as a constant, pre.heap_1: that alone is taken from here -/
local macro_rules | `(tactic| o_headL $_) => `(tactic| exact (by assumption : ∀ p : Prop, p) _)
theorem pre (hh : ∀ p : Prop, p) : R.Holds := by k_headL
def firsts : List (Addr × Obj) → List Addr
  | [] => []
  | q :: r => q.1 :: firsts r
noncomputable def ats : List Addr := firsts (pre.heap_1 (aWorld 1).params)
theorem ats_ok (P : Params) : ats = (pre.heap_1 P).map (·.1) := by kernel_rfl
noncomputable abbrev H : Hook := kHook pre.heap_1 ats ats_ok
/-- what the Hook looks at, off the tree -/
noncomputable def ob (s : SharedT) : List (Option Obj) := ats.map (HandSHeadRun.getT s)
theorem ob_eq (s : SharedT) : ob s = H.obs s.abs := List.map_congr_left fun a _ => HandSHeadRun.getT_eq s a
theorem run0 (w : World) (os : OsState) : (HandSHeadRun.endF (HandSHeadRun.stepQ (HandSHeadRun.denQ HandSHeadRun.tabQ) R.prog (w.withFollow "special-get-raises" false)) 7000 R.prog (w.withFollow "special-get-raises" false) os).map (fun s => (HandSHeadRun.looksF R.prog (boot_heap (w.withFollow "special-get-raises" false).params) s.abs, HandSHeadRun.seenQ qv names (importedModules R.prog.main.body) (fun s => xlAt qv [] s && recOk R.toRowW.records s) s.abs, ob s)) = some (true, openGood qv names, H.val (w.withFollow "special-get-raises" false)) := by kernel_rfl
theorem run1 (w : World) (os : OsState) : (HandSHeadRun.endF (HandSHeadRun.stepQ (HandSHeadRun.denQ HandSHeadRun.tabQ) R.prog (w.withFollow "special-get-raises" true)) 7000 R.prog (w.withFollow "special-get-raises" true) os).map (fun s => (HandSHeadRun.looksF R.prog (boot_heap (w.withFollow "special-get-raises" true).params) s.abs, HandSHeadRun.seenQ qv names (importedModules R.prog.main.body) (fun s => xlAt qv [] s && recOk R.toRowW.records s) s.abs, ob s)) = some (true, openGood qv names, H.val (w.withFollow "special-get-raises" true)) := by kernel_rfl
theorem run (w : World) : HandSHeadRun.RunEq R qv H ob 7000 names w := byRow2 "special-get-raises" (P := fun w => HandSHeadRun.RunEq R qv H ob 7000 names w) (fun w os => run0 w os) (fun w os => run1 w os) w
end HalfHead

/-! a def (the own __init__ of an exception class) whose first statement is super().__init__(e) -/
namespace L2
open PySem PySem.Spec PyProof.Rows
theorem zip_rev_lookup : ∀ {ps : List Str} {us : List Value} {i : Nat} {y : Str} {u : Value}, ps.Nodup → ps[i]? = some y → us[i]? = some u → (ps.zip us).reverse.lookup y = some u
  | [], _, i, _, _, _, h, _ => by simp at h
  | p :: ps, [], i, _, _, _, _, h => by simp at h
  | p :: ps, u0 :: us, 0, y, u, nd, h1, h2 => by
    have e1 : p = y := by simpa using h1
    have e2 : u0 = u := by simpa using h2
    subst e1 e2
    have hp : p ∉ ps := (List.nodup_cons.mp nd).1
    have q : ((ps.zip us).reverse).lookup p = none := by
      rw [List.lookup_eq_none_iff]
      intro z hz
      have n : p ≠ z.1 := fun e' => hp (by rw [e']; exact (List.of_mem_zip (List.mem_reverse.mp hz)).1)
      simpa using n
    rw [List.zip_cons_cons, List.reverse_cons, List.lookup_append, q]
    simp [List.lookup]
  | p :: ps, u0 :: us, i + 1, y, u, nd, h1, h2 => by
    have ih := zip_rev_lookup (ps := ps) (us := us) (i := i) (y := y) (u := u) (List.nodup_cons.mp nd).2 (by simpa using h1) (by simpa using h2)
    rw [List.zip_cons_cons, List.reverse_cons, List.lookup_append, ih]
    rfl
/-- what a slot holds at the start is an argument -/
theorem start_val {N : List Str} {vs : List V} {i : Nat} {v : V} (h : (start N vs)[i]? = some (some v)) : vs[i]? = some v := by
  rcases Nat.lt_or_ge i vs.length with lt | ge
  · rw [show start N vs = vs.map some ++ List.replicate (N.length - vs.length) none from rfl, List.getElem?_append_left (by rwa [List.length_map]), List.getElem?_map, List.getElem?_eq_getElem lt] at h
    rw [List.getElem?_eq_getElem lt]
    exact Option.some.inj h
  · rw [show start N vs = vs.map some ++ List.replicate (N.length - vs.length) none from rfl, List.getElem?_append_right (by rwa [List.length_map])] at h
    exact nomatch (List.mem_replicate.mp (List.mem_of_getElem? h)).2
structure SupScope (N P : List Str) (sc : Scope) : Prop where
  kind : sc.kind = .function
  co : sc.isCoroutine = false
  gen : sc.isGenerator = false
  nd : N.Nodup
  pre : N.take P.length = P
  par : ∀ x ∈ P, sc.names.lookup x = some .local
  nocell : ∀ y ∈ sc.names, y.2 ≠ .cell
  free : ∀ y ∈ sc.names, y.2 = .free → y.1 = ("__class__" : Str)
  hs : sc.names.lookup ("super" : Str) = some .globalImplicit
  hc : sc.names.lookup ("__class__" : Str) = some .free
def cxSup (CX : CXT) (P : Program) (w : World) (K : PySem.W.Frag) (mg : Str → Option Value) (base : Heap) (N : List Str) (qual : Str) (scope : Scope) (f : Addr) (cd : Value) (cc : Addr) (A : Around) (outer : List Env) (s : Shared) (H : Hp) (E : XK) : Cx where
  prog := P
  w := w
  K := K
  mg := mg
  base := base
  A := A.deeper (PySem.W.ksEnv qual scope s.heap.objs.size f cd cc)
  N := N
  s_0 := s
  H_0 := H
  env := PySem.W.ksEnv qual scope s.heap.objs.size f cd cc
  outer := outer
  stack := PySem.W.ksEnv qual scope s.heap.objs.size f cd cc :: outer
  ex := []
  calm := true
  fn := fun _ => false
  pn := []
  xe := fun e s' => wpAny (model P w) (A.deeper (PySem.W.ksEnv qual scope s.heap.objs.size f cd cc)) (leaving (PySem.W.ksEnv qual scope s.heap.objs.size f cd cc) e) (fun _ s'' => CX outer H s E e s'') (fun e' s'' => CX outer H s E e' s'') s'
theorem inv_startS {CX : CXT} {P : Program} {w : World} {K : PySem.W.Frag} {mg : Str → Option Value} {base : Heap} {N ps : List Str} {qual : Str} {scope : Scope} {f cc : Addr} {cd : Value} {A : Around} {outer : List Env} {s : Shared} {H : Hp} {E : XK} {us : List Value} {vs : List V} {h₀ : Heap} {tk : Nat}
    {oc : Obj} {cv : Option Value} (S : SupScope N ps scope) (hd : A.handled = none) (e0 : Env0 P w K mg base A outer s H) (hl : vs.length = ps.length) (r : Vals vs us) (hcell : K.lookup cc = some oc) (hcd : oc.data = .cell cv)
    (hns : h₀.Ns s.heap.objs.size (fun x => (ps.zip us).reverse.lookup x)) (kp : ∀ b o, s.heap.get? b = some o → h₀.get? b = some o) :
    Inv (cxSup CX P w K mg base N qual scope f cd cc A outer s H E) [] (start N vs) H { s with heap := h₀, toks := tk } := by
  have hpl : ps.length ≤ N.length := by have := congrArg List.length S.pre; rw [List.length_take] at this; omega
  have noA : ∀ b : Addr, b ∉ (cxSup CX P w K mg base N qual scope f cd cc A outer s H E).ex := fun b z => absurd (show b ∈ ([] : List Addr) from z) (by simp)
  have hb := e0.bs cc oc (e0.mod.kin _ _ hcell)
  have lk : ∀ {y : Str} {c : Addr}, ([(("__class__" : Str), cc)] : List (Str × Addr)).lookup y = some c → y = ("__class__" : Str) ∧ c = cc := fun {y c} e => by
    simp only [List.lookup] at e
    split at e
    · rename_i q
      exact ⟨by simpa using q, (Option.some.inj e).symm⟩
    · cases e
  refine ⟨⟨e0.mod, S.kind, rfl, rfl, Nat.le_refl _, fun y z c h1 h2 => ?_, fun y hy => ?_, fun y c z _ => ?_, fun _ => hd, Around.frames_deeper e0.frames, .inr ⟨rfl, rfl⟩, fun b z => absurd z (noA b), e0.bs, e0.bsz, fun b _ _ => noA b, fun b z => absurd z (noA b), e0.funs, e0.frf⟩,
    rfl, e0.bare, Un.kept kp, ⟨_, hns, fun i y v h1 h2 h3 => ?_⟩, fun y c h => ?_, e0.hok.fresh (Nat.le_refl _), fun y c h => ?_, fun p hp => absurd (show p ∈ ([] : List (Addr × Obj)) from hp) (by simp), e0.hok.kept kp, ?_⟩
  · exact (lk h1).1.trans (lk h2).1.symm
  · have hy : scope.names.lookup y = some .cell ∨ scope.names.lookup y = some .free := hy
    rcases hy with hy | hy
    · exact absurd rfl (S.nocell _ (PySem.mem_of_lookup hy))
    · have e := S.free _ (PySem.mem_of_lookup hy) rfl
      have e : y = ("__class__" : Str) := e
      subst e
      exact ⟨cc, by show ([(("__class__" : Str), cc)] : List (Str × Addr)).lookup _ = _; simp [List.lookup]⟩
  · have z : false = true := z
    cases z
  · have ha := start_val h2
    have hi := (List.getElem?_eq_some_iff.mp ha).1
    obtain ⟨u, hu, rv⟩ := r.get ha
    have hp : ps[i]? = some y := by rw [← S.pre, List.getElem?_take_of_lt (by omega)]; exact h1
    have ndP : ps.Nodup := by rw [← S.pre]; exact S.nd.sublist (List.take_sublist _ _)
    exact ⟨u, rv, .inl ⟨S.par y (List.mem_of_getElem? hp), zip_rev_lookup ndP hp hu⟩⟩
  · have e := (lk h).2
    subst e
    exact ⟨cv, oc, kp _ _ hb.1, hcd⟩
  · have e := (lk h).2
    subst e
    exact hb.2
  · unfold start
    show _ = N.length
    rw [List.length_append, List.length_map, List.length_replicate]
    omega
/-- the built-in __init__, bound to the exception at a, called -/
theorem call_mw {P : Program} {w : World} {A : Around} {E : Value → Shared → Prop} {h : Heap} {g : Array GenState} {d : Drawn} {t : Nat} {os : OsState} {nm q : Str} {C N : Addr} {bs bm : List Value} {hdct : Bool} {sn : List Str} {sub : List Value} {ab : Bool} {col : Option Bool} {dd : Option Addr} {k0 k1 k2 k3 k5 : Option Value}
    {u e t0 : Addr} {rest : List Value} {Q : Value → Shared → Prop}
    (hC : h.get? C = some (excClassObj nm q C N bs bm hdct sn sub ab col dd k0 k1 k2 k3 k5 "ValueError.__new__")) (he : h.get? e = some (HandSPX.excO C t0)) (hu : h.get? u = some (PySem.W.kxs_mw "ValueError.__init__" e)) (hz : rest.length ≤ sizeLine)
    (hq : ∀ h' t1, (∀ b o, b ≠ e → h.get? b = some o → h'.get? b = some o) → h'.get? e = some (HandSPX.excO C t1) → Q .none ⟨h', g, d, t, os⟩) :
    wpAny (model P w) A (call (.ref u) rest) Q E ⟨h, g, d, t, os⟩ := by
  have FB := F.excBase_ValueError
  refine wpAny_call (codeAny_of_tree ?_); show wpAny _ A.in1 (callAny (.ref u) ⟨rest, []⟩) _ _ _
  simp only [callAny]; refine wpAny_bind (wpAny_load hu ?_)
  simp only [PySem.W.kxs_mw, show (Value.type "method-wrapper" == Value.type "method" || Value.type "method-wrapper" == Value.type "builtin_function_or_method" || Value.type "method-wrapper" == Value.type "method-wrapper") = true by decide, if_true]
  refine PySem.W.KFB.if_so (by decide) (wpAny_bind (PySem.W.check_bound_init FB.toExcCallFacts hC he rfl (wpAny_bind (wpAny_pure (wpAny_pure ⟨plainId_quiet FB.init.plain _, codeAny_builtin FB.initEntry ?_⟩)))))
  exact PySem.W.exc_init_tree (cls := .ref C) (t0 := t0) (dv := none) (c2 := .none) (c3 := .none) (b4 := .bool false) he hz fun h' k hx _ => hq h' h.objs.size k hx
/-- what the written part says besides, for super() in the __init__ of the class at D -/
structure SupC (P : Program) (K : PySem.W.Frag) (mg : Str → Option Value) (D : Addr) : Prop where
  oex : OexC K D
  sub : PySem.W.mroIn K D (.ref D) = some true
  sup : PySem.W.ks_superIn K D D "__init__" = some (some (.builtin "ValueError.__init__"))
  ve : PySem.W.subIn K (.ref D) (.type "ValueError") = some true
  op : PySem.W.nsIn K cStatics "thirdparty.any" = some none
  mgs : mg "super" = none
  top : (P.main.scope.names.lookup ("super" : Str)).isSome = false
theorem fn_sup {CX : CXT} {P : Program} {w : World} {K : PySem.W.Frag} {mg : Str → Option Value} {base : Heap} {k : Nat} {f cc D cda : Addr} {name qual : Str} {params : Arguments} {body rest : List Stmt} {scope : Scope} {dV kV doc pm ct oc : Value} {an od : Option Addr}
    {osl : Array (Option Value)} {N ps : List Str} {sp : Sp} {e : Expr} {p0 p1 p2 p3 p4 : Pos} {pl : Sem Bool} {ar : Arg} {vsc : Array Value} {file : Str} {tf : Tok} {ccl : Value} {cdd : Option Addr} {ccs : Array (Option Value)} {cl : Value} {cld : Option Addr} {csl : Array (Option Value)}
    (lk : K.lookup f = some ⟨oc, od, .func (PySem.W.ksFn name qual params body scope dV kV doc pm an (.ref cda) ct cc), osl⟩) (hcd : PySem.W.codeIn K (.ref cda) qual = true) (S : SupScope N ps scope)
    (hb : body = .Expr (.Call (.Attribute (.Call (.Name "super" p0) [] [] p1) "__init__" p2) [e] [] p3) p4 :: rest)
    (hp : (params.posonlyargs ++ params.args).head? = some ar) (hps : ps[0]? = some ar.arg)
    (hcode : K.lookup cda = some ⟨ccl, cdd, .fields vsc, ccs⟩) (hvs : vsc[2]? = some (.str file tf)) (hfile : ((P.main.file : Str) == file) = true)
    (hcell : K.lookup cc = some ⟨cl, cld, .cell (some (.ref D)), csl⟩) (T : SupC P K mg D)
    (len : ∀ vs H Q E, sp vs H Q E → vs.length = ps.length)
    (he : ∀ L : Addr, starEach [e] (PySem.W.ksEnv qual scope L f (.ref cda) cc) = [(false, eval e (PySem.W.ksEnv qual scope L f (.ref cda) cc))])
    (hsw : ∀ L : Addr, swapsWith (.Call (.Attribute (.Call (.Name "super" p0) [] [] p1) "__init__" p2) [e] [] p3) none p4.line (PySem.W.ksEnv qual scope L f (.ref cda) cc) = pure false)
    (hev : ∀ L : Addr, eval (.Call (.Attribute (.Call (.Name "super" p0) [] [] p1) "__init__" p2) [e] [] p3) (PySem.W.ksEnv qual scope L f (.ref cda) cc) = (do
      let ov ← attributeBase (.Call (.Name "super" p0) [] [] p1) "__init__" (PySem.W.ksEnv qual scope L f (.ref cda) cc) (eval (.Call (.Name "super" p0) [] [] p1) (PySem.W.ksEnv qual scope L f (.ref cda) cc))
      standAt p2.atName
      let (fn, first) ← holding [ov] (getMethod ov "__init__" pl)
      callWith p3 fn first (backTo p3 (starEach [e] (PySem.W.ksEnv qual scope L f (.ref cda) cc))) []))
    (hbody : ∀ (A : Around) (outer : List Env) (s : Shared) (H : Hp) (vs : List V) (Q : VK) (E : XK), Room k (A.deeper (PySem.W.ksEnv qual scope s.heap.objs.size f (.ref cda) cc)) → sp vs H Q E →
      ∃ (a : Addr) (ta : TA) (t : TS), vs[0]? = some (.ref a) ∧ H a = some (exo a D none) ∧ PA (cxSup CX P w K mg base N qual scope f (.ref cda) cc A outer s H E) [e] ta ∧ PSs (cxSup CX P w K mg base N qual scope f (.ref cda) cc A outer s H E) rest t ∧
        ta (start N vs) H fun ws H1 => ws.length ≤ 1000 ∧ H1 a = some (exo a D none) ∧ t { nx := fun _ H' => Q .non H', rt := Q } (start N vs) H1) :
    FnOk P w K mg base CX (k + 1) f (PySem.W.ksFn name qual params body scope dV kV doc pm an (.ref cda) ct cc) ps sp := by
  refine ⟨len, fun A outer s H args us vs Q E hr e0 hbd r hsp => ?_⟩
  have hl := len _ _ _ _ hsp
  have KX : K.In s.heap := e0.mod.kin.keeps fun b o e => (e0.bs b o e).1
  have lim : s.heap.NoLimit := e0.mod.nolimit.keeps fun b o e => (e0.bs b o e).1
  obtain ⟨a, ta, t, hv0, ha, hpa, hpss, hq⟩ := hbody A outer s H vs Q E (hr.deeper _) hsp
  subst hb
  refine ks_codeAny_call_defAt (fd := PySem.W.ksFn name qual params _ scope dV kV doc pm an (.ref cda) ct cc) (binds := ps.zip us) hr.depth (KX _ _ lk) rfl lim (PySem.W.codeRec_of KX hcd) rfl hbd S.nocell (fun y hy => S.par _ (List.of_mem_zip hy).1) (fun h₀ hns kp => ?_) S.co S.gen S.kind
  have I := inv_startS (CX := CX) (E := E) (qual := qual) (f := f) (cd := .ref cda) (tk := s.toks + (ps.zip us).length) S hr.hd e0 hl r hcell rfl hns kp
  obtain ⟨u0, hu0, ru0⟩ := r.get hv0
  obtain rfl : u0 = Value.ref a := ru0
  have ndP : ps.Nodup := by rw [← S.pre]; exact S.nd.sublist (List.take_sublist _ _)
  have hself := zip_rev_lookup ndP hps hu0
  have KX0 : K.In h₀ := KX.keeps kp
  obtain ⟨nm, q, N', bs, bm, sn, sub, ab, col, dd, k0, k1, k2, k3, k5, hC, hbm⟩ := T.oex.cls
  have hcl : PySem.W.clsIn K D = some { name := nm, bases := bs, mro := .ref D :: bm, ns := N', qualname := q, hasDict := true, slotNames := sn, subclasses := sub, abstract := ab, collection := col, hasDel := false } := by unfold PySem.W.clsIn; rw [hC] <;> rfl
  obtain ⟨t1, ho⟩ := exo_at I.hok ha
  obtain ⟨mb, hmb, hbl⟩ := e0.mod.blt
  have bk : ∀ b o, base.get? b = some o → h₀.get? b = some o := fun b o e => kp b o (e0.bs b o e).1
  refine ks_wpAt_execs_cons (ks_wpAt_Expr_any (ks_wpAt_MethodCall (env := PySem.W.ksEnv qual scope s.heap.objs.size f (.ref cda) cc) ?_ (hev _)) I.quiet (hsw _))
  refine ks_wpAt_super_base (env := PySem.W.ksEnv qual scope s.heap.objs.size f (.ref cda) cc) S.hs S.hc (by decide) rfl (KX0 _ _ lk) rfl hp rfl (KX0 _ _ hcode) rfl hvs hfile T.top ?_
  refine PySem.W.ks_loadName_global S.kind S.hs (Calls.loadGlobal_builtin (e0.mod.glob.keeps bk) T.mgs (hmb.keeps bk) ((hbl _ (by decide)).trans (show bootBuiltins "super" = some (.type "super") by decide +kernel)) ⟨rfl, ?_⟩)
  refine wpAny_loadName_free S.kind S.hc rfl ⟨_, KX0 _ _ hcell, rfl⟩ ?_
  refine wpAny_loadName_local S.kind (S.par _ (List.mem_of_getElem? hps)) hns hself ?_
  refine ks_wpAny_isType_cls (KX0 _ _ hC) rfl ⟨rfl, ?_⟩
  obtain ⟨hs0, g, d, tk, os⟩ := s
  refine ks_wpAny_call_super (KX0 _ _ hC) rfl ho rfl (fun c z => by cases z) (PySem.W.looks_mroIn KX0 T.sub) (fun h1 e1 kp1 => ?_)
  have hsup := T.sup
  unfold PySem.W.ks_superIn at hsup
  rw [hcl] at hsup
  have KX1 : K.In h1 := KX0.keeps kp1
  have ho1 := kp1 _ _ ho
  have aD : a ≠ D := fun z => by
    rw [z] at ho1
    have := ho1.symm.trans (KX1 _ _ hC)
    cases this
  refine PySem.W.kxs_getMethod PySem.W.kxs_ValueError e1 (PySem.W.looks_opaque KX1 T.op) (fun A Q E s k q => wpAny_bind ((PySem.W.looks_clsIn KX1 hcl) A _ E s k (wpAny_pure q))) rfl KX1 hsup
    (PySem.W.InstAt.type (od := none) ⟨ho1, rfl, rfl, trivial⟩ |>.andThen (PySem.W.looks_subIn KX1 T.ve)) aD (by decide) ?_
  have kp2 : ∀ b o, h₀.get? b = some o → (h1.push (PySem.W.kxs_mw "ValueError.__init__" a)).get? b = some o := fun b o e => Heap.get?_push_of_some _ (kp1 b o e)
  have I2 := (I.kept (t' := tk + (ps.zip us).length + 1) kp2).pins_of (pins' := [(h1.objs.size, PySem.W.kxs_mw "ValueError.__init__" a)]) fun p hp => by
    have e : p = (h1.objs.size, PySem.W.kxs_mw "ValueError.__init__" a) := by simpa using hp
    subst e
    have big : h₀.objs.size ≤ h1.objs.size := by
      refine Nat.le_of_lt (Nat.lt_of_le_of_lt ?_ (Heap.lt_size e1))
      exact Nat.le_refl _
    refine ⟨Heap.get?_push_at rfl rfl, I.hok.fresh big, ?_, I.nofs big, fun v z => by cases z⟩
    exact Nat.ne_of_gt (Nat.lt_of_lt_of_le I.lt big)
  refine PySem.W.kxs_callWith (i := "ValueError.__init__") (x := a) (by rw [he _]; rfl) ?_
  rw [he _]
  refine Calls.evalArgs_plain ?_
  have hrun := hpa.run p3 _ _ (start N vs) H _ I2 hq
  have he' : starEach [e] (cxSup CX P w K mg base N qual scope f (.ref cda) cc A outer ⟨hs0, g, d, tk, os⟩ H E).env = _ := he _
  rw [he'] at hrun
  refine thn hrun fun ws s2 ⟨vs2, H1, I3, r3, hlen, ha1, ht⟩ => ?_
  obtain ⟨hu, _⟩ := I3.pin (h1.objs.size, PySem.W.kxs_mw "ValueError.__init__" a) (by simp)
  refine ⟨hu, ?_⟩
  obtain ⟨t2, ho2⟩ := exo_at I3.hok ha1
  obtain ⟨hp2, g2, d2, tk2, os2⟩ := s2
  refine call_mw (I3.kIn _ _ hC) ho2 hu (by rw [List.nil_append, ← Paired.length r3, sizeLine_eq]; omega) fun h' t3 k' hx => ?_
  have J0 := I3.write (t' := tk2) (x := a) (e := a) (o := exo a D none) (by rw [ha1]; exact True.intro) (.inl rfl) k' ⟨_, hx⟩ (exo_ok hx)
  have eu : upd H1 a (exo a D none) = H1 := by
    funext b
    by_cases hb : b = a
    · rw [hb, upd_same, ha1]
    · rw [upd_ne hb]
  rw [eu] at J0
  refine wpAt_of_wpAny (wpAny_mono (hpss.run _ _ (start N vs) H1 _ J0 ht) (fun fl s' hs => ?_) fun e s' hs => hs)
  have fin : ∀ {σ' : St} {H' : Hp} {v : V} {u : Value}, Inv (cxSup CX P w K mg base N qual scope f (.ref cda) cc A outer ⟨hs0, g, d, tk, os⟩ H E) [(h1.objs.size, PySem.W.kxs_mw "ValueError.__init__" a)] σ' H' s' → RelV v u → Q v H' → CE outer P w H ⟨hs0, g, d, tk, os⟩ Q u s' :=
    fun {σ' H' v u} J rv q => ⟨v, H', J.os, J.bare, J.base, J.hok, rv, q⟩
  match fl, hs with
  | .ret _, ⟨_, _, _, J, rv, q⟩ => exact fin J rv q
  | .next, ⟨_, _, J, q⟩ => exact fin (v := .non) J rfl q
  | .brk, ⟨_, _, _, q⟩ => exact q.elim
  | .cont, ⟨_, _, _, q⟩ => exact q.elim
end L2

namespace L2
open PySem PySem.Spec PyProof.Rows
/-! ### isinstance of a caught error, with or without a dict of its own -/
def rIsX (K : PySem.W.Frag) (a : Addr) (cls : Value) (d : Option Addr) : List V → Hp → VK → Prop := fun xs H Q => ∃ (c : V) (cv : Value) (b : Bool) (D : Addr), xs = [.ref a, c] ∧ (∀ u, RelV c u → u = cv) ∧ cls = .ref D ∧ ExcC K D ∧ PySem.W.kitOne K (.ref D) cv = some b ∧
  (d = none ∨ ∃ dd fs, d = some dd ∧ H dd = some (.xd fs)) ∧ Q (.bl b) H
theorem call_isX {X : Cx} {a : Addr} {oe : Obj} {cls : Value} {d : Option Addr} {pn : List (Addr × Obj)} (hz : Zc cls d oe) (hf : ∃ vs, oe.data = .fields vs) : CallR (X.suite a ((a, oe) :: pn)) (.builtin "isinstance") (rIsX X.K a cls d) := by
  intro pins s σ H xs us Q I r h
  obtain ⟨c, cv, b, D, rfl, hcv, rfl, C, e, hd, q⟩ := h
  cases r with
  | cons rx rr =>
    cases rr with
    | cons rt rr =>
      cases rr
      cases rx
      have ec := hcv _ rt
      subst ec
      obtain ⟨hget, _⟩ := I.pin (a, oe) (List.mem_append.mpr (.inl List.mem_cons_self))
      obtain ⟨vs, hv⟩ := hf
      have J : ∃ od, PySem.W.InstAt s.heap a oe D od := by
        rcases hd with hd | ⟨dd, fs, hd, hxd⟩
        · exact ⟨none, hget, hz.1, by unfold PySem.W.notCls; rw [hv] <;> rfl, by rw [hz.2, hd]; trivial⟩
        · obtain ⟨mA, hns, _⟩ := (show ObjOk X.prog X.w H s.heap dd (.xd fs) from I.hok dd _ hxd)
          obtain ⟨od, ho, _⟩ := lookIn_ns hns
          exact ⟨some od, hget, hz.1, by unfold PySem.W.notCls; rw [hv] <;> rfl, by rw [hz.2, hd]; exact ho⟩
      obtain ⟨od, J⟩ := J
      have hcl : (PySem.W.clsIn X.K D).isSome = true := by
        obtain ⟨cd, hc, _⟩ := PySem.W.any_some C.hd
        rw [hc]
        rfl
      exact PySem.W.kia_one (PySem.W.kitx_exc hcl C.hg C.hk C.hs C.ha C.hn C.ht C.hm) I.kIn J e (fun z => nomatch z) fun tk => ⟨.bl b, H, I.kept (t' := tk) fun _ _ z => z, rfl, q⟩
/-! ### xs.count(True), a list of True and False -/
def eqb (v : Value) : Bool := match v with
  | .bool b => b
  | _ => false
theorem eqb_all {A : Around} {s : Shared} : ∀ {us : List Value} {bs : List Bool}, Vals (bs.map V.bl) us → (∀ y ∈ us, SeqAt.EqAt A s y (.bool true) (eqb y)) ∧ us.countP eqb = bs.count true
  | _, [], h => by
    cases h
    refine ⟨fun y hy => ?_, rfl⟩; cases hy
  | _, b :: bs, h => by
    cases h with
    | @cons _ u _ us r t =>
      obtain ⟨h1, h2⟩ := eqb_all (A := A) (s := s) t
      obtain rfl : u = Value.bool b := r
      refine ⟨fun y hy => ?_, ?_⟩
      · rcases List.mem_cons.mp hy with e | e
        · rw [e]
          have z := eqAt_V (A := A) (s := s) (y := .bl b) (x := .bl true) (u := .bool b) (v := .bool true) rfl rfl rfl rfl
          have e2 : eqV (.bl b) (.bl true) = eqb (.bool b) := by cases b <;> decide
          rw [e2] at z
          exact z
        · exact h1 y e
      · rw [List.countP_cons, List.count_cons, h2]
        cases b <;> rfl
def rCntB (K : PySem.W.Frag) : V → List V → Hp → VK → Prop := fun x xs H Q => ∃ (p : Addr) (bs : List Bool), x = .ref p ∧ xs = [.bl true] ∧ SqL K H p (bs.map V.bl) ∧ Q (.int (bs.count true : Nat)) H
theorem mt_countB {X : Cx} : MtR X "list.count" (rCntB X.K) := by
  intro pins s σ H x xs v us Q I rx rxs h
  obtain ⟨p, bs, rfl, rfl, hS, q⟩ := h
  cases rx
  obtain ⟨u, rfl, ru⟩ := rxs.one
  obtain rfl : u = Value.bool true := ru
  obtain ⟨its, r, ⟨⟨cls, dd, data, sl⟩, n, ho, hc, hdn, hd⟩, z⟩ := I.list hS
  simp only at hc hd
  subst hc hd
  refine call_meets PySem.F.slot_list_count ⟨_, ho, rfl⟩ PySem.F.entry_list_count (PySem.F.args_list_count_2 _ _) (SeqAt.list_countAt p its.toArray n dd sl (.bool true) eqb) ⟨ho, fun y hy => (eqb_all r).1 y (by simpa using hy), ?_⟩
  have ec : its.toArray.toList.countP eqb = bs.count true := (eqb_all (A := X.A) (s := s) r).2
  refine ⟨.int (bs.count true : Nat), H, I.tok _, ⟨s.toks, congrArg (fun n : Nat => Value.int (n : Int) s.toks) ec⟩, q⟩
/-! ### == and != of two instances of a class with its own __eq__, whatever it answers -/
theorem ns_someX {K : PySem.W.Frag} {h : Heap} {N : Addr} {m : Str → Option Value} {n : Str} {v : Value} (X : K.In h) (G : h.Ns N m) (e : PySem.W.nsIn K N n = some (some v)) : m n = some v := by
  obtain ⟨o, es, ep, ho, hd, _, hf⟩ := G
  unfold PySem.W.nsIn at e; split at e
  · rename_i c d es' n' sl q
    have z := X _ _ q; rw [ho] at z; cases z; cases hd
    split at e
    · rename_i ent he
      rw [← hf]; unfold nsFind findBy; rw [← Array.find?_toList, he]
      simpa using e
    · split at e <;> cases e
  · cases e
structure OwnEqC (K : PySem.W.Frag) (C f : Addr) : Prop where
  cls : ∃ nm q N bs hd sn sub ab col dd k0 k1 k2 k3 k5 newId, K.lookup C = some (excClassObj nm q C N bs [.type "object"] hd sn sub ab col dd k0 k1 k2 k3 k5 newId) ∧ PySem.W.nsIn K N "__eq__" = some (some (.ref f)) ∧ PySem.W.nsIn K N "__ne__" = some none ∧ PySem.W.nsOkIn K N = true
  fi : PySem.W.findIn K (.ref C) "__eq__" = some (some (.ref f))
  fn : PySem.W.isFn K (.ref f) = true
def rEqO (C : Addr) (sp : Sp) (fl : Bool → Bool) : R2 := fun x y H Q => ∃ a b dx dy fs gs, x = .ref a ∧ y = .ref b ∧ H a = some (.ins C dx fs) ∧ H b = some (.ins C dy gs) ∧ sp [.ref a, .ref b] H (fun v H' => ∃ r, v = .bl r ∧ Q (.bl (fl r)) H') E0
section
variable {X : Cx} {C f : Addr} {fd : FuncData} {ps : List Str} {sp : Sp} {k : Nat}
theorem call_eqO (F : FnOk X.prog X.w X.K X.mg X.base CX0 k f fd ps sp) (hb : Binds X.K fd ps []) {A : Around} (hr : Room k A) (hA : A.frames = X.A.frames) {pins : List (Addr × Obj)} {s : Shared} {σ : St} {H : Hp} {a b : Addr} {Q : VK} {E : Value → Shared → Prop} (I : Inv X pins σ H s) (hsp : sp [.ref a, .ref b] H Q E0) :
    wpAny (model X.prog X.w) A (call (.ref f) [.ref a, .ref b]) (EP X pins σ Q) E s := by
  have e0 : Env0 X.prog X.w X.K X.mg X.base A X.stack s H := by
    have e := I.env0
    exact ⟨by rw [hA]; exact e.frames, e.mod, e.bs, e.bsz, e.funs, e.frf, e.hok, e.bare⟩
  have hl := F.len _ _ _ _ hsp
  have r2 : Vals [V.ref a, V.ref b] [Value.ref a, Value.ref b] := .cons rfl (.cons rfl .nil)
  have hbd := hb s [.ref a, .ref b] I.kIn (by simpa using hl)
  rw [List.append_nil] at hbd
  refine wpAny_call (codeAny_mono (F.run A X.stack s H ⟨[.ref a, .ref b], []⟩ [.ref a, .ref b] [.ref a, .ref b] _ E0 hr e0 hbd r2 hsp) fun r s' hq => ?_)
  cases r with
  | error e => exact (show False from hq).elim
  | ok fl =>
    cases fl with
    | ret w => exact I.after hq
    | next => exact False.elim hq
    | brk => exact False.elim hq
    | cont => exact False.elim hq
theorem op_eqO (F : FnOk X.prog X.w X.K X.mg X.base CX0 k f fd ps sp) (T : OwnEqC X.K C f) (hb : Binds X.K fd ps []) (hr : Room k X.A) : OpR X (compareOp .Eq) (rEqO C sp id) := by
  intro pins s σ H x y v u Q I rx ry hq
  obtain ⟨a, b, dx, dy, fs, gs, rfl, rfl, ha, hb', hsp⟩ := hq
  cases rx
  cases ry
  obtain ⟨mA, J, _⟩ := ins_get I.hok ha
  obtain ⟨mB, J', _⟩ := ins_get I.hok hb'
  obtain ⟨od, J, _⟩ := J.look
  obtain ⟨od', J', _⟩ := J'.look
  obtain ⟨m, hF⟩ := I.fr
  show wpAny (model X.prog X.w) X.A (richCompare .Eq (.ref a) (.ref b)) (EP X pins σ Q) X.xe s
  refine PySem.W.cmp_K (op := .Eq) (tb := .ref C) hr.units0 hF I.ok.mod.kin J J'.type (by simp [PySem.W.notFirst]) T.fi T.fn ?_
  refine thn (call_eqO F hb hr rfl I hsp) fun w s' hw => ?_
  obtain ⟨z, H', I', rz, r, rfl, q⟩ := hw
  obtain rfl : w = Value.bool r := rz
  exact ⟨.bl r, H', I', rfl, q⟩
theorem op_neO (F : FnOk X.prog X.w X.K X.mg X.base CX0 k f fd ps sp) (T : OwnEqC X.K C f) (hb : Binds X.K fd ps []) (hr : Room (k + 1) X.A) : OpR X (compareOp .NotEq) (rEqO C sp not) := by
  intro pins s σ H x y v u Q I rx ry hq
  obtain ⟨a, b, dx, dy, fs, gs, rfl, rfl, ha, hb', hsp⟩ := hq
  cases rx
  cases ry
  obtain ⟨mA, J, _⟩ := ins_get I.hok ha
  obtain ⟨mB, J', _⟩ := ins_get I.hok hb'
  obtain ⟨od, J, _⟩ := J.look
  obtain ⟨od', J', _⟩ := J'.look
  obtain ⟨nm, q, N, bs, hd, sn, sub, ab, col, dd, k0, k1, k2, k3, k5, newId, hC, he, hn, hok⟩ := T.cls
  have KX := I.kIn
  obtain ⟨of, hof, hofc⟩ : ∃ of, s.heap.get? f = some of ∧ of.cls = .type "function" := by
    have z := T.fn
    unfold PySem.W.isFn at z
    cases e : X.K.lookup f with
    | none => simp [PySem.W.typeIn, e] at z
    | some of => exact ⟨of, KX _ _ e, by simpa [PySem.W.typeIn, e] using z⟩
  have hN := Heap.Ns.of_isNs (PySem.W.isNs_of_in KX hok)
  have h1 := ns_someX KX hN he
  have h2 := PySem.W.ns_none_of KX hN hn
  obtain ⟨hp, g, d, t, os⟩ := s
  refine compareOp_ne_ownEq (C := C) (f := f) PySem.F.cmp_object ⟨_, of, nm, q, N, bs, hd, sn, sub, ab, col, dd, k0, k1, k2, k3, k5, newId, _, _, J.at_, J.cls, KX _ _ hC, hN, h1, hof, hofc, PySem.F.mro_object, PySem.F.cmp_object.eq.lookup, h2⟩ J'.at_ J'.cls (hu_of hr) ?_
  refine thn (call_eqO F hb hr.in1 rfl I hsp) fun w s' hw => ?_
  obtain ⟨z, H', I', rz, r, rfl, q⟩ := hw
  obtain rfl : w = Value.bool r := rz
  exact ⟨r, rfl, .bl (!r), H', I', rfl, q⟩
end
end L2

namespace Half
open PySem PySem.Spec PyProof.Rows L2
def top (i : Nat) : Stmt := PySem.Challenge.pw_halfsetup_k49_texts_rejected.main.body.getD i (.Pass ⟨0, 0, 0, 0⟩)
abbrev sTaken : Stmt := top 57
/-- the row of draws: the script, how many of its cells were read, the seed, what is left of a great cell -/
def Row (K : PySem.W.Frag) (H : Hp) (r a : Addr) : Prop := ∃ (ns : List Int) (i g l : Int), H r = some (.lst [.ref a, .int i, .int g, .int l]) ∧ SqL K H a (ns.map V.int) ∧ ns.length ≤ 63 ∧ 0 ≤ i
/-- a draw: some number below the bound; the row alone is changed -/
def spTaken (K : PySem.W.Frag) : Sp := fun vs H Q _ => ∃ (r : Addr) (m : Int) (a : Addr), vs = [.ref r, .int m] ∧ Row K H r a ∧ 0 < m ∧ m < 1073741824 ∧
  ∀ (v : Int) (o : HO), 0 ≤ v → v < m → Row K (upd H r o) r a → Q (.int v) (upd H r o)
theorem seqNe {K : PySem.W.Frag} {H : Hp} {r a : Addr} {o : HO} {xs : List V} (h : SqL K H a xs) (n : r ≠ a) : SqL K (upd H r o) a xs := by
  rcases h with (h | ⟨q, h⟩) | h
  · exact .inl (.inl (by rw [upd_ne (Ne.symm n)]; exact h))
  · exact .inl (.inr ⟨q, by rw [upd_ne (Ne.symm n)]; exact h⟩)
  · exact .inr h
theorem Row.seq {K : PySem.W.Frag} {H : Hp} {r a b : Addr} {o : HO} {ns : List Int} {l : List V} (hr : H r = some (.lst (.ref b :: l))) (h : SqL K H a (ns.map V.int)) : SqL K (upd H r o) a (ns.map V.int) := by
  have z : HO.lst (ns.map V.int) ≠ HO.lst (.ref b :: l) := fun z => by
    have z' : ns.map V.int = .ref b :: l := by injection z
    cases ns with
    | nil => cases z'
    | cons n ns => cases z'
  rcases h with (h | ⟨q, h⟩) | h
  · exact .inl (.inl (by rw [upd_ne (ne_of h hr z)]; exact h))
  · exact .inl (.inr ⟨q, by rw [upd_ne (ne_of h hr (fun w => by cases w))]; exact h⟩)
  · exact .inr h
structure TxtD (mg : Str → Option Value) : Prop where
  int : mg "int" = none
  len : mg "len" = none
section
variable {P : Program} {w : World} {K : PySem.W.Frag} {mg : Str → Option Value} {base : Heap}
theorem scTaken : FnScope ["_law_row", "_law_many", "_law_found", "_law_cell"] ["_law_row", "_law_many"] (defScope sTaken) := ⟨rfl, rfl, rfl, by decide +kernel, rfl, by decide +kernel, by decide +kernel⟩
theorem ok_taken {f : Addr} {fd : FuncData} (F : Fun K "_law_taken" "_law_taken" sTaken f fd) (T : TxtD mg) : FnOk P w K mg base CX0 1 f fd ["_law_row", "_law_many"] (spTaken K) := by
  refine F.ok scTaken (fun vs H Q E h => ?_) (fun cdv A outer s H vs Q E hr h => ?_)
  · obtain ⟨r, m, a, rfl, _⟩ := h
    rfl
  · obtain ⟨r, m, a, rfl, ⟨ns, i, g, l, hR, hS, hlen, hi⟩, hm0, hm1, k⟩ := h
    have nd := scTaken.nd
    refine ⟨_, pss_cons (ps_if (pt_cmpR op_gt (pe_ix ix_list (pv 0) pe_int (fun _ _ => rfl)) pe_int (nomark _))
        (pss_cons (ps_set (i := 2) nd rfl (Or.inl rfl) (pe_op op_mod (pe_callTy call_int1 (by rfl) T.int (by decide +kernel) (pa_cons (pe_ix ix_list (pv 0) pe_int (fun _ _ => rfl)) pa_nil)) (pv 1)))
        (pss_cons (ps_asg (pe_op op_fdiv (pe_ix ix_list (pv 0) pe_int (fun _ _ => rfl)) (pv 1)) (pg_sub (pv 0) pe_int set_list))
        (pss_one (ps_ret (pv 2))))) pss_nil)
      (pss_cons (ps_asg (pe_op op_add (pe_ix ix_list (pv 0) pe_int (fun _ _ => rfl)) pe_int) (pg_sub (pv 0) pe_int set_list))
      (pss_cons (ps_if (pt_cmpR op_gt (pe_ix ix_list (pv 0) pe_int (fun _ _ => rfl)) (pe_callB call_len_seq (by rfl) T.len PySem.boot_len (pa_cons (pe_ix ix_list (pv 0) pe_int (fun _ _ => rfl)) pa_nil)) (nomark _))
        (pss_cons (ps_asg (pe_op op_mod (pe_callTy call_int1 (by rfl) T.int (by decide +kernel) (pa_cons (pe_op op_add (pe_op op_mul (pe_ix ix_list (pv 0) pe_int (fun _ _ => rfl)) pe_int) pe_int) pa_nil)) pe_int) (pg_sub (pv 0) pe_int set_list))
        (pss_one (ps_ret (pe_op op_mod (pe_callTy call_int1 (by rfl) T.int (by decide +kernel) (pa_cons (pe_op op_fdiv (pe_ix ix_list (pv 0) pe_int (fun _ _ => rfl)) pe_int) pa_nil)) (pv 1))))) pss_nil)
      (pss_cons (ps_set (i := 3) nd rfl (Or.inl rfl) (pe_ix ix_list (pe_ix ix_list (pv 0) pe_int (fun _ _ => rfl)) (pe_op op_sub (pe_ix ix_list (pv 0) pe_int (fun _ _ => rfl)) pe_int) (fun _ _ => rfl)))
      (pss_cons (ps_asg (pe_op op_mod (pe_callTy call_int1 (by rfl) T.int (by decide +kernel) (pa_cons (pe_op op_add (pe_op op_add (pe_op op_mul (pe_ix ix_list (pv 0) pe_int (fun _ _ => rfl)) pe_int) (pv 3)) pe_int) pa_nil)) pe_int) (pg_sub (pv 0) pe_int set_list))
      (pss_cons (ps_if (pt_cmpR op_ge (pv 3) (pe_op op_pow pe_int pe_int) (nomark _)) (pss_one (ps_asg (pe_op op_fdiv (pv 3) (pv 1)) (pg_sub (pv 0) pe_int set_list))) pss_nil)
      (pss_one (ps_ret (pe_op op_mod (pe_callTy call_int1 (by rfl) T.int (by decide +kernel) (pa_cons (pv 3) pa_nil)) (pv 1))))))))), ?_⟩
    have mk : ∀ (i' g' l' : Int), 0 ≤ i' → ∀ o, o = HO.lst [.ref a, .int i', .int g', .int l'] → Row K (upd H r o) r a := fun i' g' l' h o e => ⟨ns, i', g', l', by rw [upd_same, e], Row.seq hR hS, hlen, h⟩
    refine ⟨_, rfl, r, _, _, _, rfl, rfl, SqL.of hR, rfl, _, _, rfl, rfl, _, rfl, ?_⟩
    refine ite2 (fun c => ?_) (fun c => ?_)
    · refine ⟨_, rfl, r, _, _, _, rfl, rfl, SqL.of hR, rfl, .inl ⟨_, rfl, _, rfl, _, _, rfl, rfl, hm0, ?_⟩⟩
      refine ⟨_, rfl, r, _, _, _, rfl, rfl, SqL.of hR, rfl, _, rfl, _, _, rfl, rfl, ⟨hm0, hm1⟩, _, rfl, r, _, _, _, rfl, rfl, hR, rfl, ?_⟩
      refine ⟨_, rfl, ?_⟩
      exact k _ _ (Int.emod_nonneg _ (by omega)) (Int.emod_lt_of_pos _ hm0) (mk i g (l / m) hi _ rfl)
    · refine ⟨_, rfl, r, _, _, _, rfl, rfl, SqL.of hR, rfl, _, _, rfl, rfl, _, rfl, r, _, _, _, rfl, rfl, hR, rfl, ?_⟩
      have hR1 : ∀ o : HO, (upd H r o) r = some o := fun o => upd_same
      refine ⟨_, rfl, r, _, _, _, rfl, rfl, SqL.of (hR1 _), rfl, _, rfl, r, _, _, _, rfl, rfl, SqL.of (hR1 _), rfl, a, _, rfl, .inl (Row.seq hR hS), _, _, rfl, rfl, _, rfl, ?_⟩
      refine ite2 (fun c2 => ?_) (fun c2 => ?_)
      · refine ⟨_, rfl, r, _, _, _, rfl, rfl, SqL.of (hR1 _), rfl, _, _, rfl, rfl, .inr ⟨by decide, by decide⟩, _, _, rfl, rfl, .inl ⟨_, rfl, _, _, rfl, rfl, (by show (0 : Int) < 2147483647; decide), _, rfl, r, _, _, _, rfl, rfl, hR1 _, rfl, ?_⟩⟩
        rw [upd_upd]
        refine ⟨_, rfl, r, _, _, _, rfl, rfl, SqL.of (hR1 _), rfl, _, _, rfl, rfl, ⟨by decide, by decide⟩, .inl ⟨_, rfl, _, rfl, _, _, rfl, rfl, hm0, ?_⟩⟩
        exact k _ _ (Int.emod_nonneg _ (by omega)) (Int.emod_lt_of_pos _ hm0) (mk (i + 1) _ l (by omega) _ rfl)
      · have c3 : ¬ ((ns.map V.int).length : Int) < i + 1 := fun z => c2 (decide_eq_true z)
        rw [List.length_map] at c3
        have hin : i.toNat < ns.length := by omega
        have hat : atI (ns.map V.int) ((i + 1) - 1) = some (V.int ns[i.toNat]) := by
          have e : (i + 1) - 1 = ((i.toNat : Nat) : Int) := by omega
          rw [e]
          refine atI_nat ?_
          rw [List.getElem?_map, List.getElem?_eq_getElem hin]
          rfl
        refine ⟨_, rfl, r, _, _, _, rfl, rfl, SqL.of (hR1 _), rfl, _, rfl, r, _, _, _, rfl, rfl, SqL.of (hR1 _), rfl, _, _, rfl, rfl, a, _, _, _, rfl, rfl, Row.seq hR hS, hat, ?_⟩
        refine ⟨_, rfl, r, _, _, _, rfl, rfl, SqL.of (hR1 _), rfl, _, _, rfl, rfl, .inr ⟨by decide, by decide⟩, _, rfl, _, _, rfl, rfl, _, _, rfl, rfl, .inl ⟨_, rfl, _, _, rfl, rfl, (by show (0 : Int) < 2147483647; decide), _, rfl, r, _, _, _, rfl, rfl, hR1 _, rfl, ?_⟩⟩
        rw [upd_upd]
        refine ⟨_, rfl, _, _, rfl, rfl, ⟨by decide, by decide, by decide⟩, _, _, rfl, rfl, _, rfl, ?_⟩
        refine ite2 (fun c4 => ?_) (fun c4 => ?_)
        · refine ⟨_, rfl, _, rfl, _, _, rfl, rfl, ⟨hm0, hm1⟩, _, rfl, r, _, _, _, rfl, rfl, hR1 _, rfl, ?_⟩
          rw [upd_upd]
          refine ⟨_, rfl, .inl ⟨_, rfl, _, rfl, _, _, rfl, rfl, hm0, ?_⟩⟩
          exact k _ _ (Int.emod_nonneg _ (by omega)) (Int.emod_lt_of_pos _ hm0) (mk (i + 1) _ _ (by omega) _ rfl)
        · refine ⟨_, rfl, .inl ⟨_, rfl, _, rfl, _, _, rfl, rfl, hm0, ?_⟩⟩
          exact k _ _ (Int.emod_nonneg _ (by omega)) (Int.emod_lt_of_pos _ hm0) (mk (i + 1) _ _ (by omega) _ rfl)
end
end Half

namespace Half
open PySem PySem.Spec PyProof.Rows L2
abbrev sWord : Stmt := top 6
abbrev sNumber : Stmt := top 7
abbrev sAscends : Stmt := top 9
abbrev sVersion : Stmt := top 22
abbrev sScripts : Stmt := top 23
abbrev sOthers : Stmt := top 24
abbrev sPair : Stmt := top 25
abbrev sNeeds : Stmt := top 26
/-! comprehensions that make one item of each -/
def MapP (H1 : Hp) (D : Addr) (ys : List V) : Nat → Hp → Prop := fun i H => Same H1 H ∧ H D = some (.lst (ys.take i))
theorem MapP.zero {H1 : Hp} {D : Addr} {ys : List V} (hD : H1 D = none) : MapP H1 D ys 0 (upd H1 D (.lst [])) :=
  ⟨fun b o e => by rw [upd_ne (ne_of_none e hD)]; exact e, upd_same⟩
theorem MapP.step {H1 H H4 : Hp} {D : Addr} {ys : List V} {i : Nat} {y : V} (p : MapP H1 D ys i H) (hD : H1 D = none) (hy : ys[i]? = some y) (hl : ys.length ≤ 1000) (e : Same H H4) :
    ∃ acc, H4 D = some (.lst acc) ∧ acc.length < sizeLine ∧ MapP H1 D ys (i + 1) (upd H4 D (.lst (acc ++ [y]))) := by
  refine ⟨_, e _ _ p.2, small1000 (by rw [List.length_take]; omega), fun b o q => ?_, ?_⟩
  · rw [upd_ne (ne_of_none q hD)]
    exact e _ _ (p.1 b o q)
  · rw [upd_same, List.take_add_one, hy]
    rfl
theorem MapP.done {H1 H : Hp} {D : Addr} {ys : List V} {n : Nat} (p : MapP H1 D ys n H) (hn : n = ys.length) : Same H1 H ∧ H D = some (.lst ys) := by
  refine ⟨p.1, ?_⟩
  rw [p.2, hn, List.take_length]
theorem iteNT {c A B : Prop} [Decidable c] (hc : ¬ c) (h : A) : if (!decide c) = true then A else B := by
  rw [decide_eq_false hc]
  exact iteT h
/-! the mirror -/
def LET : Str := "abcdefghijklmnopqrstuvwxyz"
def isWord (z : Str) : Bool := decide (1 ≤ (z.length : Int)) && decide ((z.length : Int) ≤ 8) && z.cps.toList.all fun c => decide (c ∈ LET.cps.toList)
/-- what the top says -/
structure TxtC (K : PySem.W.Frag) (mg : Str → Option Value) (fW fN fA fV fO fP : Addr) (tS : Addr) : Prop where
  d : TxtD mg
  isi : mg "isinstance" = none
  str : mg "str" = none
  boo : mg "bool" = none
  tup : mg "tuple" = none
  all : mg "all" = none
  ran : mg "range" = none
  lets : ∃ t, mg "LETTERS" = some (.str LET t)
  lon : ∃ t, mg "LONGEST_WORD" = some (.int 8 t)
section
variable {P : Program} {w : World} {K : PySem.W.Frag} {mg : Str → Option Value} {base : Heap} {fW fN fA fV fO fP tS : Addr}
def spWord : Sp := fun vs H Q _ => ∃ z : Str, vs = [.str z] ∧ z.length ≤ 1000 ∧ ∀ H', Same H H' → Q (.bl (isWord z)) H'
theorem scWord : FnScope ["text", "letter"] ["text"] (defScope sWord) := ⟨rfl, rfl, rfl, by decide +kernel, rfl, by decide +kernel, by decide +kernel⟩
theorem ok_word {f : Addr} {fd : FuncData} (F : Fun K "is_word" "is_word" sWord f fd) (T : TxtC K mg fW fN fA fV fO fP tS) : FnOk P w K mg base CX0 1 f fd ["text"] spWord := by
  refine F.ok scWord (fun vs H Q E h => ?_) (fun cdv A outer s H vs Q E hr h => ?_)
  · obtain ⟨z, rfl, _⟩ := h
    rfl
  · obtain ⟨z, rfl, hz, k⟩ := h
    obtain ⟨tl, gl⟩ := T.lets
    obtain ⟨t8, g8⟩ := T.lon
    have nd := scWord.nd
    refine ⟨_, pss_cons (ps_if (PW.pt (pw_or (pt_not (pt_val (pe_callB call_isi (by rfl) T.isi (by decide +kernel) (pa_cons (pv 0) (pa_cons (pe_bltn (v := .ty "str") (by rfl) T.str (by decide +kernel) rfl) pa_nil)))))
        (pw_or1 (pt_not (pt_chain op_le op_le pe_int (pe_callB call_len_str (by rfl) T.d.len PySem.boot_len (pa_cons (pv 0) pa_nil)) (pe_glob (v := .int 8) rfl g8 ⟨_, rfl⟩))))))
        (pss_one (ps_ret pe_bl)) pss_nil)
      (pss_one (ps_ret (pe_callB (cr_all rfl) (by rfl) T.all (by decide +kernel) (pa_cons
        (pe_lc (own := [("letter", 1)]) (g := gName 1) (tt := tYes) rfl nd (pi_str (pv 0)) (blkOk_by (N := ["text", "letter"]) (sc := defScope sWord) (by decide +kernel))
          (fun _ _ _ _ _ => pg_name (i := 1) nd rfl (Or.inl rfl)) (fun _ _ _ _ _ => pts_nil)
          (fun _ _ _ _ _ => pe_cmpR op_in_sign (pv 1) (pe_glob (v := .str LET) rfl gl ⟨_, rfl⟩) rfl)) pa_nil)))), ?_⟩
    refine ⟨_, rfl, _, _, _, _, _, rfl, .ty _, .base (.str _), kit_ty (r := true) (by decide +kernel), _, rfl, iteF ?_⟩
    refine ⟨_, rfl, _, rfl, Nat.le_trans hz (by decide), _, _, rfl, rfl, _, rfl, ?_⟩
    have bad : isWord z = false → Q (.bl false) H := fun e => by
      have q := k H (Same.refl H)
      rw [e] at q
      exact q
    refine ite2 (fun c1 => ?_) (fun c1 => ?_)
    · refine ⟨_, _, rfl, rfl, _, rfl, ?_⟩
      by_cases c2 : (z.length : Int) ≤ 8
      · refine iteNS c2 ?_
        refine ⟨_, rfl, z, rfl, fun D hD => lc_it walk_str (MapP H D (z.cps.toList.map fun c => V.bl (decide (c ∈ LET.cps.toList)))) (MapP.zero hD) (fun _ _ _ _ => trivial) ?_ ?_⟩
        · rintro i x H1 H2 hi p ⟨rfl, c, hc, rfl⟩
          refine ⟨rfl, _, rfl, c, _, rfl, rfl, ?_⟩
          refine p.step hD ?_ (by rw [List.length_map, Array.length_toList]; exact hz) (Same.refl _)
          rw [List.getElem?_map, Array.getElem?_toList, hc]
          rfl
        · intro H2 p
          obtain ⟨s2, hl⟩ := p.done (by rw [List.length_map, Array.length_toList])
          refine ⟨D, z.cps.toList.map fun c => decide (c ∈ LET.cps.toList), rfl, SqL.of (by rw [hl, List.map_map]; rfl), ?_⟩
          have e : isWord z = (z.cps.toList.map fun c => decide (c ∈ LET.cps.toList)).all id := by
            unfold isWord
            rw [c1, decide_eq_true c2, List.all_map]
            rfl
          rw [← e]
          exact k H2 s2
      · refine iteNT c2 ?_
        exact bad (by unfold isWord; rw [decide_eq_false c2, Bool.and_false, Bool.false_and])
    · have c1' : decide (1 ≤ (z.length : Int)) = false := by simpa using c1
      refine ⟨_, rfl, iteT ?_⟩
      exact bad (by unfold isWord; rw [c1', Bool.false_and, Bool.false_and])
end
end Half

namespace Half
open PySem PySem.Spec PyProof.Rows L2
/-! ### a def that is known by its promise -/
structure Def (P : Program) (w : World) (K : PySem.W.Frag) (mg : Str → Option Value) (base : Heap) (k : Nat) (x : Str) (ps : List Str) (sp : Sp) : Prop where
  ex : ∃ f fd, FnOk P w K mg base CX0 k f fd ps sp ∧ mg x = some (.ref f) ∧ PySem.W.keepIn K (.ref f) = true ∧ Binds K fd ps []
theorem pe_def {X : Cx} {k : Nat} {x : Str} {ps : List Str} {sp : Sp} {e : Expr} {es : List Expr} {t : TA} {p pos : Pos} (D : Def X.prog X.w X.K X.mg X.base k x ps sp) (hr : Room k X.A) (hg : Gl X x) (ha : PA X (e :: es) t)
    (hdb : (x == ("__debug__" : Str)) = false := by decide) (he : starEach (e :: es) X.env = (false, eval e X.env) :: starEach es X.env := by rfl) (hpl : (backTo pos (starEach es X.env)).any (·.1) = false := by rfl) :
    PE X (.Call (.Name x p) (e :: es) [] pos) (tCall sp [] E0 t) := by
  obtain ⟨f, fd, F, hm, hk, hb⟩ := D.ex
  exact pe_call F hr hg hm hk hb .nil pass0 ha hdb he hpl
theorem _root_.L2.Same.sqT {K : PySem.W.Frag} {H H' : Hp} {a : Addr} {xs : List V} (e : Same H H') (h : SqT K H a xs) : SqT K H' a xs := by
  rcases h with (h | ⟨o, h⟩) | h
  · exact .inl (.inl (e _ _ h))
  · exact .inl (.inr ⟨o, e _ _ h⟩)
  · exact .inr h
theorem tyT {K : PySem.W.Frag} {H : Hp} {a : Addr} {xs : List V} (h : SqT K H a xs) : TyX K H (.ref a) (.type "tuple") := by
  rcases h with (h | ⟨o, h⟩) | ⟨o, its, n, h1, h2, _⟩
  · exact .base (.tup h)
  · exact .fTuple h
  · exact .kTuple h1 h2
theorem _root_.L2.Same.upd_new {H : Hp} {p : Addr} {o : HO} (h : H p = none) : Same H (upd H p o) := fun b u e => by rw [upd_ne (ne_of_none e h)]; exact e
/-! ### the mirror -/
def inR (v : V) (lo hi : Int) : Bool := match v with
  | .int n => decide (lo ≤ n) && decide (n ≤ hi)
  | _ => false
def strLt (a b : Str) : Bool := decide (a.cps.toList < b.cps.toList)
def ascS (ss : List Str) : Bool := (List.range (ss.length - 1)).all fun i => strLt (ss.getD i "") (ss.getD (i + 1) "")
def SCR : List Str := ["clean", "enter", "leave", "setup"]
def areScripts (ss : List Str) : Bool := (ss.all fun z => inV (.str z) (SCR.map V.str)) && ascS ss
def areOthers (ss : List Str) (nm : Str) : Bool := (ss.all fun z => isWord z && !decide (V.str z = V.str nm)) && ascS ss
def areNeeds (ps : List (Str × Int)) (nm : Str) : Bool := (ps.all fun p => inR (.int p.2) 1 99) && areOthers (ps.map (·.1)) nm
/-- needs: a tuple of pairs -/
def NeedsAt (K : PySem.W.Frag) (H : Hp) (a : Addr) (ps : List (Str × Int)) : Prop := ∃ ts : List Addr, SqT K H a (ts.map V.ref) ∧ ts.length = ps.length ∧ ∀ (i : Nat) t p, ts[i]? = some t → ps[i]? = some p → SqT K H t [.str p.1, .int p.2]
theorem NeedsAt.same {K : PySem.W.Frag} {H H' : Hp} {a : Addr} {ps : List (Str × Int)} (e : Same H H') (h : NeedsAt K H a ps) : NeedsAt K H' a ps := by
  obtain ⟨ts, h1, h2, h3⟩ := h
  exact ⟨ts, e.sqT h1, h2, fun i t p q r => e.sqT (h3 i t p q r)⟩
/-! ### promises -/
def spNumber : Sp := fun vs H Q _ => ∃ (v : V) (lo hi : Int), vs = [v, .int lo, .int hi] ∧ ((∃ n, v = .int n) ∨ ∃ b, v = .bl b) ∧ Q (.bl (inR v lo hi)) H
def spVersion : Sp := fun vs H Q _ => ∃ v : V, vs = [v] ∧ ((∃ n, v = .int n) ∨ ∃ b, v = .bl b) ∧ Q (.bl (inR v 1 99)) H
def spAsc (K : PySem.W.Frag) : Sp := fun vs H Q _ => ∃ (a : Addr) (ss : List Str), vs = [.ref a] ∧ SqT K H a (ss.map V.str) ∧ ss.length ≤ 100 ∧ ∀ H', Same H H' → Q (.bl (ascS ss)) H'
def spScripts (K : PySem.W.Frag) : Sp := fun vs H Q _ => ∃ (a : Addr) (ss : List Str), vs = [.ref a] ∧ SqT K H a (ss.map V.str) ∧ ss.length ≤ 100 ∧ ∀ H', Same H H' → Q (.bl (areScripts ss)) H'
def spOthers (K : PySem.W.Frag) : Sp := fun vs H Q _ => ∃ (a : Addr) (ss : List Str) (nm : Str), vs = [.ref a, .str nm] ∧ SqT K H a (ss.map V.str) ∧ ss.length ≤ 100 ∧ (∀ z ∈ ss, z.length ≤ 1000) ∧ ∀ H', Same H H' → Q (.bl (areOthers ss nm)) H'
def spPair (K : PySem.W.Frag) : Sp := fun vs H Q _ => ∃ (t : Addr) (n : Str) (v : Int), vs = [.ref t] ∧ SqT K H t [.str n, .int v] ∧ Q (.bl (inR (.int v) 1 99)) H
def spNeeds (K : PySem.W.Frag) : Sp := fun vs H Q _ => ∃ (a : Addr) (ps : List (Str × Int)) (nm : Str), vs = [.ref a, .str nm] ∧ NeedsAt K H a ps ∧ ps.length ≤ 100 ∧ (∀ p ∈ ps, p.1.length ≤ 1000) ∧ ∀ H', Same H H' → Q (.bl (areNeeds ps nm)) H'
structure TxtE (K : PySem.W.Frag) (mg : Str → Option Value) : Prop where
  d : TxtD mg
  isi : mg "isinstance" = none
  str : mg "str" = none
  boo : mg "bool" = none
  tup : mg "tuple" = none
  all : mg "all" = none
  ran : mg "range" = none
  lv : ∃ t, mg "LEAST_VERSION" = some (.int 1 t)
  mv : ∃ t, mg "MOST_VERSION" = some (.int 99 t)
  scr : ∃ a, mg "SCRIPTS" = some (.ref a) ∧ ∀ H, SqT K H a (SCR.map V.str)
section
variable {P : Program} {w : World} {K : PySem.W.Frag} {mg : Str → Option Value} {base : Heap}
theorem scNumber : FnScope ["value", "least", "most"] ["value", "least", "most"] (defScope sNumber) := ⟨rfl, rfl, rfl, by decide +kernel, rfl, by decide +kernel, by decide +kernel⟩
theorem ok_number {f : Addr} {fd : FuncData} (F : Fun K "is_number" "is_number" sNumber f fd) (T : TxtE K mg) : FnOk P w K mg base CX0 1 f fd ["value", "least", "most"] spNumber := by
  refine F.ok scNumber (fun vs H Q E h => ?_) (fun cdv A outer s H vs Q E hr h => ?_)
  · obtain ⟨v, lo, hi, rfl, _⟩ := h
    rfl
  · obtain ⟨v, lo, hi, rfl, hv, k⟩ := h
    refine ⟨_, pss_cons (ps_if (PW.pt (pw_or (pt_val (pe_callB call_isi (by rfl) T.isi (by decide +kernel) (pa_cons (pv 0) (pa_cons (pe_bltn (v := .ty "bool") (by rfl) T.boo (by decide +kernel) rfl) pa_nil))))
        (pw_or1 (pt_not (pt_val (pe_callB call_isi (by rfl) T.isi (by decide +kernel) (pa_cons (pv 0) (pa_cons (pe_bltn (v := .ty "int") (by rfl) T.d.int (by decide +kernel) rfl) pa_nil))))))))
        (pss_one (ps_ret pe_bl)) pss_nil)
      (pss_one (ps_ret (pe_chain op_le op_le (pv 1) (pv 0) (pv 2)))), ?_⟩
    rcases hv with ⟨n, rfl⟩ | ⟨b, rfl⟩
    · refine ⟨_, rfl, _, _, _, _, _, rfl, .ty _, .base (.int _), kit_ty (r := false) (by decide +kernel), _, rfl, ?_⟩
      refine iteF ?_
      refine ⟨_, rfl, _, _, _, _, _, rfl, .ty _, .base (.int _), kit_ty (r := true) (by decide +kernel), _, rfl, ?_⟩
      refine iteF ?_
      refine ⟨_, rfl, _, rfl, _, _, rfl, rfl, _, rfl, ?_⟩
      refine ite2 (fun c => ?_) (fun c => ?_)
      · refine ⟨_, rfl, _, _, rfl, rfl, ?_⟩
        have e : inR (.int n) lo hi = decide (n ≤ hi) := by show (decide (lo ≤ n) && decide (n ≤ hi)) = _; rw [c, Bool.true_and]
        rw [e] at k
        exact k
      · have c' : decide (lo ≤ n) = false := by simpa using c
        have e : inR (.int n) lo hi = false := by show (decide (lo ≤ n) && decide (n ≤ hi)) = _; rw [c', Bool.false_and]
        rw [e] at k
        exact k
    · refine ⟨_, rfl, _, _, _, _, _, rfl, .ty _, .base (.bl _), kit_ty (r := true) (by decide +kernel), _, rfl, ?_⟩
      exact k
theorem scVersion : FnScope ["value"] ["value"] (defScope sVersion) := ⟨rfl, rfl, rfl, by decide +kernel, rfl, by decide +kernel, by decide +kernel⟩
theorem ok_version {f : Addr} {fd : FuncData} (F : Fun K "is_version" "is_version" sVersion f fd) (T : TxtE K mg) (dN : Def P w K mg base 1 "is_number" ["value", "least", "most"] spNumber) : FnOk P w K mg base CX0 2 f fd ["value"] spVersion := by
  refine F.ok scVersion (fun vs H Q E h => ?_) (fun cdv A outer s H vs Q E hr h => ?_)
  · obtain ⟨v, rfl, _⟩ := h
    rfl
  · obtain ⟨v, rfl, hv, k⟩ := h
    obtain ⟨t1, g1⟩ := T.lv
    obtain ⟨t2, g2⟩ := T.mv
    refine ⟨_, pss_one (ps_ret (pe_def dN hr rfl (pa_cons (pv 0) (pa_cons (pe_glob (v := .int 1) rfl g1 ⟨_, rfl⟩) (pa_cons (pe_glob (v := .int 99) rfl g2 ⟨_, rfl⟩) pa_nil))))), ?_⟩
    exact ⟨_, rfl, v, 1, 99, rfl, hv, k⟩
theorem scAsc : FnScope ["values", "at"] ["values"] (defScope sAscends) := ⟨rfl, rfl, rfl, by decide +kernel, rfl, by decide +kernel, by decide +kernel⟩
theorem ok_asc {f : Addr} {fd : FuncData} (F : Fun K "ascends" "ascends" sAscends f fd) (T : TxtE K mg) : FnOk P w K mg base CX0 1 f fd ["values"] (spAsc K) := by
  refine F.ok scAsc (fun vs H Q E h => ?_) (fun cdv A outer s H vs Q E hr h => ?_)
  · obtain ⟨a, ss, rfl, _⟩ := h
    rfl
  · obtain ⟨a, ss, rfl, hS, hl, k⟩ := h
    have nd := scAsc.nd
    refine ⟨_, pss_one (ps_ret (pe_callB (cr_all rfl) (by rfl) T.all (by decide +kernel) (pa_cons
        (pe_lc (own := [("at", 1)]) (g := gName 1) (tt := tYes) rfl nd (pi_range2 (by rfl) T.ran (pa_cons pe_int (pa_cons (pe_callB call_len_seq (by rfl) T.d.len PySem.boot_len (pa_cons (pv 0) pa_nil)) pa_nil))) (blkOk_by (N := ["values", "at"]) (sc := defScope sAscends) (by decide +kernel))
          (fun _ _ _ _ _ => pg_name (i := 1) nd rfl (Or.inl rfl)) (fun _ _ _ _ _ => pts_nil)
          (fun _ _ _ _ _ => pe_cmpR op_lt_str (pe_ix (ix_tup : IxR _ (rIxT K)) (pv 0) (pe_op op_sub (pv 1) pe_int) (fun _ _ => rfl)) (pe_ix (ix_tup : IxR _ (rIxT K)) (pv 0) (pv 1) (fun _ _ => rfl)) (nomark _))) pa_nil))), ?_⟩
    have hlm : (ss.map V.str).length = ss.length := List.length_map ..
    have hn : (((ss.map V.str).length : Int) - 1).toNat = ss.length - 1 := by omega
    refine ⟨_, rfl, a, _, rfl, .inr hS, 1, _, rfl, ⟨by decide, by decide, by omega, by omega⟩, ?_⟩
    rw [hn]
    refine fun D hD => lc_it walk_range (MapP H D ((List.range (ss.length - 1)).map fun i => V.bl (strLt (ss.getD i "") (ss.getD (i + 1) "")))) (MapP.zero hD) (fun _ _ _ _ => trivial) ?_ ?_
    · rintro i x H1 H2 hi p ⟨rfl, rfl⟩
      have e1 : atI (ss.map V.str) ((1 + (i : Int)) - 1) = some (V.str (ss.getD i "")) := by
        have e : (1 + (i : Int)) - 1 = ((i : Nat) : Int) := by omega
        rw [e]
        refine atI_nat ?_
        rw [List.getElem?_map, List.getD_eq_getElem?_getD, List.getElem?_eq_getElem (by omega)]
        rfl
      have e2 : atI (ss.map V.str) (1 + (i : Int)) = some (V.str (ss.getD (i + 1) "")) := by
        have e : (1 + (i : Int)) = ((i + 1 : Nat) : Int) := by omega
        rw [e]
        refine atI_nat ?_
        rw [List.getElem?_map, List.getD_eq_getElem?_getD, List.getElem?_eq_getElem (by omega)]
        rfl
      refine ⟨rfl, _, rfl, _, rfl, _, _, rfl, rfl, a, _, _, _, rfl, rfl, p.1.sqT hS, e1, _, rfl, _, rfl, a, _, _, _, rfl, rfl, p.1.sqT hS, e2, _, _, rfl, rfl, ?_⟩
      refine p.step hD ?_ (by rw [List.length_map, List.length_range]; omega) (Same.refl _)
      rw [List.getElem?_map, List.getElem?_range hi]
      rfl
    · intro H2 p
      obtain ⟨s2, hl2⟩ := p.done (by rw [List.length_map, List.length_range])
      refine ⟨D, (List.range (ss.length - 1)).map fun i => strLt (ss.getD i "") (ss.getD (i + 1) ""), rfl, SqL.of (by rw [hl2, List.map_map]; rfl), ?_⟩
      have e : ascS ss = ((List.range (ss.length - 1)).map fun i => strLt (ss.getD i "") (ss.getD (i + 1) "")).all id := by
        rw [List.all_map]
        rfl
      rw [← e]
      exact k H2 s2
end
end Half

namespace Half
open PySem PySem.Spec PyProof.Rows L2
theorem all_map_bl {α : Type} (l : List α) (f : α → Bool) : (l.map f).all id = l.all f := by rw [List.all_map]; rfl
theorem flat_strs (l : List Str) : (l.map V.str).all flatV = true := by
  rw [List.all_map, List.all_eq_true]
  intro x _
  rfl
theorem getE {α : Type} {l : List α} {i : Nat} {β : Type} {f : α → β} {y : β} (h : (l.map f)[i]? = some y) : ∃ a, l[i]? = some a ∧ y = f a := by
  rw [List.getElem?_map] at h
  cases e : l[i]? with
  | none => rw [e] at h; cases h
  | some a => rw [e] at h; exact ⟨a, rfl, (Option.some.inj h).symm⟩
section
variable {P : Program} {w : World} {K : PySem.W.Frag} {mg : Str → Option Value} {base : Heap}
theorem scScripts : FnScope ["values", "value"] ["values"] (defScope sScripts) := ⟨rfl, rfl, rfl, by decide +kernel, rfl, by decide +kernel, by decide +kernel⟩
theorem ok_scripts {f : Addr} {fd : FuncData} (F : Fun K "are_scripts" "are_scripts" sScripts f fd) (T : TxtE K mg) (dA : Def P w K mg base 1 "ascends" ["values"] (spAsc K)) : FnOk P w K mg base CX0 2 f fd ["values"] (spScripts K) := by
  refine F.ok scScripts (fun vs H Q E h => ?_) (fun cdv A outer s H vs Q E hr h => ?_)
  · obtain ⟨a, ss, rfl, _⟩ := h
    rfl
  · obtain ⟨a, ss, rfl, hS, hl, k⟩ := h
    have nd := scScripts.nd
    obtain ⟨aS, gS, hSC⟩ := T.scr
    refine ⟨_, pss_cons (ps_if (pt_not (pt_val (pe_callB call_isi (by rfl) T.isi (by decide +kernel) (pa_cons (pv 0) (pa_cons (pe_bltn (v := .ty "tuple") (by rfl) T.tup (by decide +kernel) rfl) pa_nil)))))
        (pss_one (ps_ret pe_bl)) pss_nil)
      (pss_one (ps_ret (pe_and (pe_callB (cr_all rfl) (by rfl) T.all (by decide +kernel) (pa_cons
        (pe_lc (own := [("value", 1)]) (g := gName 1) (tt := tYes) rfl nd (pi_tup (pv 0)) (blkOk_by (N := ["values", "value"]) (sc := defScope sScripts) (by decide +kernel))
          (fun _ _ _ _ _ => pg_name (i := 1) nd rfl (Or.inl rfl)) (fun _ _ _ _ _ => pts_nil)
          (fun _ _ _ _ _ => pe_cmpR (op_in_seq : OpR _ _ (rIn K false)) (pv 1) (pe_glob (v := .ref aS) rfl gS rfl) (by rfl))) pa_nil))
        (pe_one (pe_def dA hr rfl (pa_cons (pv 0) pa_nil)))))), ?_⟩
    refine ⟨_, rfl, _, _, _, _, _, rfl, .ty _, tyT hS, kit_ty (r := true) (by decide +kernel), _, rfl, ?_⟩
    refine iteF ?_
    refine ⟨_, rfl, a, rfl, ⟨_, hS⟩, fun D hD => lc_it (walk_tup (xs := ss.map V.str)) (MapP H D (ss.map fun z => V.bl (inV (.str z) (SCR.map V.str)))) (MapP.zero hD) (fun _ _ _ p => p.1.sqT hS) ?_ ?_⟩
    · rintro i x H1 H2 hi p ⟨rfl, hx⟩
      obtain ⟨z, hz, rfl⟩ := getE hx
      refine ⟨rfl, _, rfl, aS, _, rfl, .inr (hSC _), rfl, flat_strs _, ?_⟩
      refine p.step hD ?_ (by rw [List.length_map]; omega) (Same.refl _)
      rw [List.getElem?_map, hz]
      rfl
    · intro H2 p
      obtain ⟨s2, hl2⟩ := p.done (by rw [List.length_map, List.length_map])
      refine ⟨D, ss.map fun z => inV (.str z) (SCR.map V.str), rfl, SqL.of (by rw [hl2, List.map_map]; rfl), _, rfl, ?_⟩
      rw [all_map_bl]
      refine ite2 (fun c => ?_) (fun c => ?_)
      · refine ⟨_, rfl, a, ss, rfl, s2.sqT hS, hl, fun H3 s3 => ?_⟩
        have e : areScripts ss = ascS ss := by unfold areScripts; rw [c, Bool.true_and]
        rw [← e]
        exact k H3 (s2.trans s3)
      · have c' : (ss.all fun z => inV (.str z) (SCR.map V.str)) = false := by simpa using c
        have e : areScripts ss = false := by unfold areScripts; rw [c', Bool.false_and]
        rw [← e]
        exact k H2 s2
theorem scOthers : FnScope ["values", "name", "value"] ["values", "name"] (defScope sOthers) := ⟨rfl, rfl, rfl, by decide +kernel, rfl, by decide +kernel, by decide +kernel⟩
theorem ok_others {f : Addr} {fd : FuncData} (F : Fun K "are_other_names" "are_other_names" sOthers f fd) (T : TxtE K mg) (dA : Def P w K mg base 1 "ascends" ["values"] (spAsc K)) (dW : Def P w K mg base 1 "is_word" ["text"] spWord) : FnOk P w K mg base CX0 2 f fd ["values", "name"] (spOthers K) := by
  refine F.ok scOthers (fun vs H Q E h => ?_) (fun cdv A outer s H vs Q E hr h => ?_)
  · obtain ⟨a, ss, nm, rfl, _⟩ := h
    rfl
  · obtain ⟨a, ss, nm, rfl, hS, hl, hw, k⟩ := h
    have nd := scOthers.nd
    refine ⟨_, pss_cons (ps_if (pt_not (pt_val (pe_callB call_isi (by rfl) T.isi (by decide +kernel) (pa_cons (pv 0) (pa_cons (pe_bltn (v := .ty "tuple") (by rfl) T.tup (by decide +kernel) rfl) pa_nil)))))
        (pss_one (ps_ret pe_bl)) pss_nil)
      (pss_one (ps_ret (pe_and (pe_callB (cr_all rfl) (by rfl) T.all (by decide +kernel) (pa_cons
        (pe_lc (own := [("value", 2)]) (g := gName 2) (tt := tYes) rfl nd (pi_tup (pv 0)) (blkOk_by (N := ["values", "name", "value"]) (sc := defScope sOthers) (by decide +kernel))
          (fun _ _ _ _ _ => pg_name (i := 2) nd rfl (Or.inl rfl)) (fun _ _ _ _ _ => pts_nil)
          (fun _ _ _ _ _ => pe_and (pe_def dW hr rfl (pa_cons (pv 2) pa_nil)) (pe_one (pe_cmpR op_ne (pv 2) (pv 1) (nomark _))))) pa_nil))
        (pe_one (pe_def dA hr rfl (pa_cons (pv 0) pa_nil)))))), ?_⟩
    refine ⟨_, rfl, _, _, _, _, _, rfl, .ty _, tyT hS, kit_ty (r := true) (by decide +kernel), _, rfl, ?_⟩
    refine iteF ?_
    refine ⟨_, rfl, a, rfl, ⟨_, hS⟩, fun D hD => lc_it (walk_tup (xs := ss.map V.str)) (MapP H D (ss.map fun z => V.bl (isWord z && !decide (V.str z = V.str nm)))) (MapP.zero hD) (fun _ _ _ p => p.1.sqT hS) ?_ ?_⟩
    · rintro i x H1 H2 hi p ⟨rfl, hx⟩
      obtain ⟨z, hz, rfl⟩ := getE hx
      refine ⟨rfl, _, rfl, z, rfl, hw z (List.mem_of_getElem? hz), fun H3 s3 => ⟨_, rfl, ?_⟩⟩
      have fin : ∀ b, b = (isWord z && !decide (V.str z = V.str nm)) → ∃ acc, H3 D = some (.lst acc) ∧ acc.length < sizeLine ∧ MapP H D (ss.map fun z => V.bl (isWord z && !decide (V.str z = V.str nm))) (i + 1) (upd H3 D (.lst (acc ++ [V.bl b]))) := fun b e => by
        refine p.step hD ?_ (by rw [List.length_map]; omega) s3
        rw [List.getElem?_map, hz, e]
        rfl
      refine ite2 (fun c => ?_) (fun c => ?_)
      · refine ⟨_, rfl, _, rfl, rfl, ?_⟩
        exact fin _ (by rw [c, Bool.true_and])
      · have c' : isWord z = false := by simpa using c
        exact fin _ (by rw [c', Bool.false_and])
    · intro H2 p
      obtain ⟨s2, hl2⟩ := p.done (by rw [List.length_map, List.length_map])
      refine ⟨D, ss.map fun z => (isWord z && !decide (V.str z = V.str nm)), rfl, SqL.of (by rw [hl2, List.map_map]; rfl), _, rfl, ?_⟩
      rw [all_map_bl]
      refine ite2 (fun c => ?_) (fun c => ?_)
      · refine ⟨_, rfl, a, ss, rfl, s2.sqT hS, hl, fun H3 s3 => ?_⟩
        have e : areOthers ss nm = ascS ss := by unfold areOthers; rw [c, Bool.true_and]
        rw [← e]
        exact k H3 (s2.trans s3)
      · have c' : (ss.all fun z => (isWord z && !decide (V.str z = V.str nm))) = false := by simpa using c
        have e : areOthers ss nm = false := by unfold areOthers; rw [c', Bool.false_and]
        rw [← e]
        exact k H2 s2
theorem scPair : FnScope ["value"] ["value"] (defScope sPair) := ⟨rfl, rfl, rfl, by decide +kernel, rfl, by decide +kernel, by decide +kernel⟩
theorem ok_pair {f : Addr} {fd : FuncData} (F : Fun K "is_pair_with_version" "is_pair_with_version" sPair f fd) (T : TxtE K mg) (dV : Def P w K mg base 2 "is_version" ["value"] spVersion) : FnOk P w K mg base CX0 3 f fd ["value"] (spPair K) := by
  refine F.ok scPair (fun vs H Q E h => ?_) (fun cdv A outer s H vs Q E hr h => ?_)
  · obtain ⟨t, n, v, rfl, _⟩ := h
    rfl
  · obtain ⟨t, n, v, rfl, hS, k⟩ := h
    refine ⟨_, pss_one (ps_ret (pe_and (pe_callB call_isi (by rfl) T.isi (by decide +kernel) (pa_cons (pv 0) (pa_cons (pe_bltn (v := .ty "tuple") (by rfl) T.tup (by decide +kernel) rfl) pa_nil)))
      (pe_and (pe_cmpR op_eq (pe_callB call_len_seq (by rfl) T.d.len PySem.boot_len (pa_cons (pv 0) pa_nil)) pe_int (nomark _))
        (pe_one (pe_def dV hr rfl (pa_cons (pe_ix ix_tup (pv 0) pe_int (fun _ _ => rfl)) pa_nil)))))), ?_⟩
    refine ⟨_, rfl, _, _, _, _, _, rfl, .ty _, tyT hS, kit_ty (r := true) (by decide +kernel), _, rfl, ?_⟩
    refine iteT ?_
    refine ⟨_, rfl, t, _, rfl, .inr hS, rfl, true, rfl, ?_⟩
    refine iteT ?_
    exact ⟨_, rfl, t, _, _, _, rfl, rfl, hS, rfl, _, rfl, .inl ⟨_, rfl⟩, k⟩
theorem scNeeds : FnScope ["values", "name", "value"] ["values", "name"] (defScope sNeeds) := ⟨rfl, rfl, rfl, by decide +kernel, rfl, by decide +kernel, by decide +kernel⟩
theorem ok_needs {f : Addr} {fd : FuncData} (F : Fun K "are_needs" "are_needs" sNeeds f fd) (T : TxtE K mg) (dP : Def P w K mg base 3 "is_pair_with_version" ["value"] (spPair K)) (dO : Def P w K mg base 2 "are_other_names" ["values", "name"] (spOthers K)) : FnOk P w K mg base CX0 4 f fd ["values", "name"] (spNeeds K) := by
  refine F.ok scNeeds (fun vs H Q E h => ?_) (fun cdv A outer s H vs Q E hr h => ?_)
  · obtain ⟨a, ps, nm, rfl, _⟩ := h
    rfl
  · obtain ⟨a, ps, nm, rfl, hN, hl, hw, k⟩ := h
    have nd := scNeeds.nd
    obtain ⟨ts, hS, htl, hts⟩ := id hN
    refine ⟨_, pss_cons (ps_if (PW.pt (pw_or (pt_not (pt_val (pe_callB call_isi (by rfl) T.isi (by decide +kernel) (pa_cons (pv 0) (pa_cons (pe_bltn (v := .ty "tuple") (by rfl) T.tup (by decide +kernel) rfl) pa_nil)))))
        (pw_or1 (pt_not (pt_val (pe_callB (cr_all rfl) (by rfl) T.all (by decide +kernel) (pa_cons
          (pe_lc (own := [("value", 2)]) (g := gName 2) (tt := tYes) rfl nd (pi_tup (pv 0)) (blkOk_by (N := ["values", "name", "value"]) (sc := defScope sNeeds) (by decide +kernel))
            (fun _ _ _ _ _ => pg_name (i := 2) nd rfl (Or.inl rfl)) (fun _ _ _ _ _ => pts_nil)
            (fun _ _ _ _ _ => pe_def dP hr rfl (pa_cons (pv 2) pa_nil))) pa_nil)))))))
        (pss_one (ps_ret pe_bl)) pss_nil)
      (pss_one (ps_ret (pe_def dO (hr.mono (by decide)) rfl (pa_cons (pe_callTy call_tuple_of (by rfl) T.tup (by decide +kernel) (pa_cons
          (pe_lc (own := [("value", 2)]) (g := gName 2) (tt := tYes) rfl nd (pi_tup (pv 0)) (blkOk_by (N := ["values", "name", "value"]) (sc := defScope sNeeds) (by decide +kernel))
            (fun _ _ _ _ _ => pg_name (i := 2) nd rfl (Or.inl rfl)) (fun _ _ _ _ _ => pts_nil)
            (fun _ _ _ _ _ => pe_ix (ix_tup : IxR _ (rIxT K)) (pv 2) pe_int (fun _ _ => rfl))) pa_nil)) (pa_cons (pv 1) pa_nil))))), ?_⟩
    refine ⟨_, rfl, _, _, _, _, _, rfl, .ty _, tyT hS, kit_ty (r := true) (by decide +kernel), _, rfl, ?_⟩
    refine iteF ?_
    refine ⟨_, rfl, a, rfl, ⟨_, hS⟩, fun D hD => lc_it (walk_tup (xs := ts.map V.ref)) (MapP H D (ps.map fun p => V.bl (inR (.int p.2) 1 99))) (MapP.zero hD) (fun _ _ _ p => p.1.sqT hS) ?_ ?_⟩
    · rintro i x H1 H2 hi p ⟨rfl, hx⟩
      obtain ⟨t, ht, rfl⟩ := getE hx
      have hip : i < ps.length := by rw [List.length_map] at hi; omega
      refine ⟨rfl, _, rfl, t, _, _, rfl, p.1.sqT (hts i t _ ht (List.getElem?_eq_getElem hip)), ?_⟩
      refine p.step hD ?_ (by rw [List.length_map]; omega) (Same.refl _)
      rw [List.getElem?_map, List.getElem?_eq_getElem hip]
      rfl
    · intro H2 p
      obtain ⟨s2, hl2⟩ := p.done (by rw [List.length_map, List.length_map, htl])
      refine ⟨D, ps.map fun p => inR (.int p.2) 1 99, rfl, SqL.of (by rw [hl2, List.map_map]; rfl), _, rfl, ?_⟩
      rw [all_map_bl]
      cases c : (ps.all fun p => inR (.int p.2) 1 99) with
      | false =>
        refine iteT ?_
        have e : areNeeds ps nm = false := by unfold areNeeds; rw [c, Bool.false_and]
        have q := k H2 s2
        rw [e] at q
        exact q
      | true =>
        refine iteF ?_
        refine ⟨_, rfl, a, rfl, ⟨_, s2.sqT hS⟩, fun D2 hD2 => lc_it (walk_tup (xs := ts.map V.ref)) (MapP H2 D2 (ps.map fun p => V.str p.1)) (MapP.zero hD2) (fun _ _ _ p => (s2.trans p.1).sqT hS) ?_ ?_⟩
        · rintro i x H3 H4 hi p2 ⟨rfl, hx⟩
          obtain ⟨t, ht, rfl⟩ := getE hx
          have hip : i < ps.length := by rw [List.length_map] at hi; omega
          refine ⟨rfl, _, rfl, t, _, _, _, rfl, rfl, (s2.trans p2.1).sqT (hts i t _ ht (List.getElem?_eq_getElem hip)), rfl, ?_⟩
          refine p2.step hD2 ?_ (by rw [List.length_map]; omega) (Same.refl _)
          rw [List.getElem?_map, List.getElem?_eq_getElem hip]
          rfl
        · intro H3 p2
          obtain ⟨s3, hl3⟩ := p2.done (by rw [List.length_map, List.length_map, htl])
          refine ⟨D2, _, rfl, .inl ⟨SqL.of hl3, fun tp htp => ⟨_, rfl, tp, ps.map (·.1), nm, rfl, .inl (.inl ?_), ?_, ?_, fun H5 s5 => ?_⟩⟩⟩
          · rw [upd_same, List.map_map]
            rfl
          · rw [List.length_map]
            exact hl
          · intro z hz
            obtain ⟨p, hp, rfl⟩ := List.mem_map.mp hz
            exact hw p hp
          · have e : areNeeds ps nm = areOthers (ps.map (·.1)) nm := by unfold areNeeds; rw [c, Bool.true_and]
            rw [← e]
            exact k H5 (s2.trans (s3.trans ((Same.upd_new htp).trans s5)))
end
end Half

namespace Half
open PySem PySem.Spec PyProof.Rows L2
abbrev sWrong : Stmt := top 27
/-- an edition's parameters -/
structure Ed where
  name : Str
  version : V
  scripts : List Str
  needs : List (Str × Int)
  first : List (Str × Int)
  against : List Str
def Ed.checks (e : Ed) : List (Str × Bool) := [("name", isWord e.name), ("version", inR e.version 1 99), ("scripts", areScripts e.scripts), ("needs", areNeeds e.needs e.name), ("first", areNeeds e.first e.name), ("against", areOthers e.against e.name)]
def Ed.wrong (e : Ed) : Option Str := (e.checks.find? fun q => !q.2).map (·.1)
def optV : Option Str → V
  | none => .non
  | some x => .str x
/-- sizes that no check is beyond -/
structure Ed.Small (e : Ed) : Prop where
  name : e.name.length ≤ 1000
  version : (∃ n, e.version = .int n) ∨ ∃ b, e.version = .bl b
  scripts : e.scripts.length ≤ 100
  needs : e.needs.length ≤ 100 ∧ ∀ p ∈ e.needs, p.1.length ≤ 1000
  first : e.first.length ≤ 100 ∧ ∀ p ∈ e.first, p.1.length ≤ 1000
  against : e.against.length ≤ 100 ∧ ∀ z ∈ e.against, z.length ≤ 1000
/-- its six values -/
structure EdAt (K : PySem.W.Frag) (H : Hp) (e : Ed) (s n f g : Addr) : Prop where
  scripts : SqT K H s (e.scripts.map V.str)
  needs : NeedsAt K H n e.needs
  first : NeedsAt K H f e.first
  against : SqT K H g (e.against.map V.str)
theorem EdAt.same {K : PySem.W.Frag} {H H' : Hp} {e : Ed} {s n f g : Addr} (S : Same H H') (h : EdAt K H e s n f g) : EdAt K H' e s n f g :=
  ⟨S.sqT h.scripts, h.needs.same S, h.first.same S, S.sqT h.against⟩
theorem find_first {l : List (Str × Bool)} {i : Nat} {p : Str × Bool} (h : ∀ j q, j < i → l[j]? = some q → q.2 = true) (hi : l[i]? = some p) (hp : p.2 = false) : l.find? (fun q => !q.2) = some p := by
  induction l generalizing i with
  | nil => simp at hi
  | cons a l ih =>
    cases i with
    | zero =>
      have e : a = p := by simpa using hi
      subst e
      simp [hp]
    | succ i =>
      have ha : a.2 = true := h 0 a (Nat.succ_pos _) rfl
      rw [List.find?_cons_of_neg (by simp [ha])]
      exact ih (i := i) (fun j q hj e => h (j + 1) q (Nat.succ_lt_succ hj) (by simpa using e)) (by simpa using hi)
theorem find_none {l : List (Str × Bool)} (h : ∀ j q, j < l.length → l[j]? = some q → q.2 = true) : l.find? (fun q => !q.2) = none := by
  rw [List.find?_eq_none]
  intro q hq
  obtain ⟨j, hj, e⟩ := List.mem_iff_getElem.mp hq
  have := h j q hj (by rw [List.getElem?_eq_getElem hj, e])
  simp [this]
def spWrong (K : PySem.W.Frag) : Sp := fun vs H Q _ => ∃ (e : Ed) (s n f g : Addr), vs = [.str e.name, e.version, .ref s, .ref n, .ref f, .ref g] ∧ EdAt K H e s n f g ∧ e.Small ∧ ∀ H', Same H H' → Q (optV e.wrong) H'
structure Checks (P : Program) (w : World) (K : PySem.W.Frag) (mg : Str → Option Value) (base : Heap) : Prop where
  wo : Def P w K mg base 1 "is_word" ["text"] spWord
  ve : Def P w K mg base 2 "is_version" ["value"] spVersion
  sc : Def P w K mg base 2 "are_scripts" ["values"] (spScripts K)
  ne : Def P w K mg base 4 "are_needs" ["values", "name"] (spNeeds K)
  ot : Def P w K mg base 2 "are_other_names" ["values", "name"] (spOthers K)
section
variable {P : Program} {w : World} {K : PySem.W.Frag} {mg : Str → Option Value} {base : Heap}
theorem scWrong : FnScope ["name", "version", "scripts", "needs", "first", "against", "checked", "part", "right"] ["name", "version", "scripts", "needs", "first", "against"] (defScope sWrong) := ⟨rfl, rfl, rfl, by decide +kernel, rfl, by decide +kernel, by decide +kernel⟩
theorem two_le : 2 ≤ sizeLine := by decide
theorem ok_wrong {f : Addr} {fd : FuncData} (F : Fun K "wrong_part" "wrong_part" sWrong f fd) (T : TxtE K mg) (C : Checks P w K mg base) : FnOk P w K mg base CX0 5 f fd ["name", "version", "scripts", "needs", "first", "against"] (spWrong K) := by
  refine F.ok scWrong (fun vs H Q E h => ?_) (fun cdv A outer s H vs Q E hr h => ?_)
  · obtain ⟨e, s, n, f, g, rfl, _⟩ := h
    rfl
  · obtain ⟨e, as, an, af, ag, rfl, hE, hz, k⟩ := h
    have nd := scWrong.nd
    have r1 : Room 1 _ := hr.mono (by decide)
    have r2 : Room 2 _ := hr.mono (by decide)
    refine ⟨_, pss_cons (ps_set (i := 6) nd rfl (Or.inl rfl) (pe_tup
        (pa_cons (pe_tup (pa_cons pe_str (pa_cons (pe_def C.wo r1 rfl (pa_cons (pv 0) pa_nil)) pa_nil)))
        (pa_cons (pe_tup (pa_cons pe_str (pa_cons (pe_def C.ve r2 rfl (pa_cons (pv 1) pa_nil)) pa_nil)))
        (pa_cons (pe_tup (pa_cons pe_str (pa_cons (pe_def C.sc r2 rfl (pa_cons (pv 2) pa_nil)) pa_nil)))
        (pa_cons (pe_tup (pa_cons pe_str (pa_cons (pe_def C.ne hr rfl (pa_cons (pv 3) (pa_cons (pv 0) pa_nil))) pa_nil)))
        (pa_cons (pe_tup (pa_cons pe_str (pa_cons (pe_def C.ne hr rfl (pa_cons (pv 4) (pa_cons (pv 0) pa_nil))) pa_nil)))
        (pa_cons (pe_tup (pa_cons pe_str (pa_cons (pe_def C.ot r2 rfl (pa_cons (pv 5) (pa_cons (pv 0) pa_nil))) pa_nil))) pa_nil))))))))
      (pss_cons (ps_for PassesOwn.never rfl (pi_tup (pv 6)) (pg_tup rfl (pgs_cons (pg_name (i := 7) nd rfl (Or.inl rfl)) (pgs_cons (pg_name (i := 8) nd rfl (Or.inl rfl)) pgs_nil)))
        (pss_one (ps_if (pt_not (pt_val (pv 8))) (pss_one (ps_ret (pv 7))) pss_nil)))
      (pss_one (ps_ret pe_non))), ?_⟩
    refine ⟨_, rfl, e.name, rfl, hz.name, fun H1 s1 => ⟨two_le, fun t1 n1 => ?_⟩⟩
    refine ⟨_, rfl, e.version, rfl, hz.version, two_le, fun t2 n2 => ?_⟩
    have s2 := (s1.trans (Same.upd_new (o := .tup [.str "name", .bl (isWord e.name)]) n1)).trans (Same.upd_new (o := .tup [.str "version", .bl (inR e.version 1 99)]) n2)
    refine ⟨_, rfl, as, _, rfl, s2.sqT hE.scripts, hz.scripts, fun H3 s3 => ⟨two_le, fun t3 n3 => ?_⟩⟩
    have s3' := (s2.trans s3).trans (Same.upd_new (o := .tup [.str "scripts", .bl (areScripts e.scripts)]) n3)
    refine ⟨_, rfl, _, rfl, an, _, _, rfl, hE.needs.same s3', hz.needs.1, hz.needs.2, fun H4 s4 => ⟨two_le, fun t4 n4 => ?_⟩⟩
    have s4' := (s3'.trans s4).trans (Same.upd_new (o := .tup [.str "needs", .bl (areNeeds e.needs e.name)]) n4)
    refine ⟨_, rfl, _, rfl, af, _, _, rfl, hE.first.same s4', hz.first.1, hz.first.2, fun H5 s5 => ⟨two_le, fun t5 n5 => ?_⟩⟩
    have s5' := (s4'.trans s5).trans (Same.upd_new (o := .tup [.str "first", .bl (areNeeds e.first e.name)]) n5)
    refine ⟨_, rfl, _, rfl, ag, _, _, rfl, s5'.sqT hE.against, hz.against.1, hz.against.2, fun H6 s6 => ⟨two_le, fun t6 n6 => ⟨(by show 6 ≤ sizeLine; decide), fun TT nT => ?_⟩⟩⟩
    have z6 := Same.upd_new (o := .tup [.str "against", .bl (areOthers e.against e.name)]) n6
    have zT := Same.upd_new (o := .tup [.ref t1, .ref t2, .ref t3, .ref t4, .ref t5, .ref t6]) nT
    have zz := z6.trans zT
    have z5 := ((Same.upd_new (o := .tup [.str "first", .bl (areNeeds e.first e.name)]) n5).trans s6).trans zz
    have z4 := ((Same.upd_new (o := .tup [.str "needs", .bl (areNeeds e.needs e.name)]) n4).trans s5).trans z5
    have z3 := ((Same.upd_new (o := .tup [.str "scripts", .bl (areScripts e.scripts)]) n3).trans s4).trans z4
    have z2 := ((Same.upd_new (o := .tup [.str "version", .bl (inR e.version 1 99)]) n2).trans s3).trans z3
    have z1 := (Same.upd_new (o := .tup [.str "name", .bl (isWord e.name)]) n1).trans z2
    have hAll := (s5'.trans s6).trans zz
    generalize hHF : upd (upd H6 t6 _) TT _ = HF at *
    have hts : ∀ (i : Nat) x p, ([t1, t2, t3, t4, t5, t6] : List Addr)[i]? = some x → e.checks[i]? = some p → SqT K HF x [.str p.1, .bl p.2] := by
      have a1 : HF t1 = _ := z2 _ _ upd_same
      have a2 : HF t2 = _ := z3 _ _ (s3 _ _ upd_same)
      have a3 : HF t3 = _ := z4 _ _ (s4 _ _ upd_same)
      have a4 : HF t4 = _ := z5 _ _ (s5 _ _ upd_same)
      have a5 : HF t5 = _ := zz _ _ (s6 _ _ upd_same)
      have a6 : HF t6 = _ := zT _ _ upd_same
      intro i x p hx hp
      match i with
      | 0 => cases hx; cases hp; exact .inl (.inl a1)
      | 1 => cases hx; cases hp; exact .inl (.inl a2)
      | 2 => cases hx; cases hp; exact .inl (.inl a3)
      | 3 => cases hx; cases hp; exact .inl (.inl a4)
      | 4 => cases hx; cases hp; exact .inl (.inl a5)
      | 5 => cases hx; cases hp; exact .inl (.inl a6)
      | i + 6 => simp at hx
    have hTT : SqT K HF TT ([t1, t2, t3, t4, t5, t6].map V.ref) := .inl (.inl (by rw [← hHF]; exact upd_same))
    refine ⟨_, rfl, TT, rfl, ⟨_, hTT⟩, for_it (walk_tup (xs := [t1, t2, t3, t4, t5, t6].map V.ref)) (fun i σ H' => H' = HF ∧ (∃ v7 v8, σ = [some (.str e.name), some e.version, some (.ref as), some (.ref an), some (.ref af), some (.ref ag), some (.ref TT), v7, v8]) ∧ ∀ j q, j < i → e.checks[j]? = some q → q.2 = true)
      ⟨rfl, ⟨none, none, rfl⟩, fun j q hj => absurd hj (Nat.not_lt_zero _)⟩ (fun i σ H' _ h => by rw [h.1]; exact hTT) ?_ ?_⟩
    · rintro i x σ H' H'' hi ⟨rfl, ⟨v7, v8, rfl⟩, hbef⟩ ⟨rfl, hx⟩
      obtain ⟨t, ht, rfl⟩ := getE hx
      have hip : i < e.checks.length := hi
      have hp := List.getElem?_eq_getElem hip
      refine ⟨t, _, rfl, hts i t _ ht hp, rfl, _, _, rfl, _, _, rfl, rfl, ?_⟩
      refine ⟨_, rfl, _, rfl, ?_⟩
      cases c : e.checks[i].2 with
      | false =>
        refine iteT ?_
        refine ⟨_, rfl, ?_⟩
        have e1 : e.wrong = some e.checks[i].1 := by
          unfold Ed.wrong
          rw [find_first hbef hp c]
          rfl
        have q := k H'' hAll
        rw [e1] at q
        exact q
      | true =>
        refine iteF ?_
        refine ⟨rfl, ⟨_, _, rfl⟩, fun j q hj hq => ?_⟩
        by_cases hji : j = i
        · subst hji
          rw [hp] at hq
          rw [← Option.some.inj hq]
          exact c
        · exact hbef j q (by omega) hq
    · rintro σ H' ⟨rfl, _, hbef⟩
      have e1 : e.wrong = none := by
        unfold Ed.wrong
        rw [find_none fun j q hj hq => hbef j q hj hq]
        rfl
      have q := k H' hAll
      rw [e1] at q
      exact q
end
end Half

namespace Half
open PySem PySem.Spec PyProof.Rows L2
abbrev sIe : Stmt := inClass (top 12) 0
/-- what stands of an error class with its own __init__ (one parameter, super().__init__(..), one field fl) -/
def spErr (C : Addr) (fl : Str) : Sp := fun vs H Q _ => ∃ (a : Addr) (p : Str), vs = [.ref a, .str p] ∧ H a = some (exo a C none) ∧ p.length ≤ 1000 ∧
  ∀ dx, H dx = none → dx ≠ a → Q .non (upd (upd H dx (exd dx [(fl, .str p)])) a (exo a C (some dx)))
/-- the __init__ at f as the top has made it -/
structure ErrFn (P : Program) (K : PySem.W.Frag) (C : Addr) (qual : Str) (st : Stmt) (f : Addr) (fd : FuncData) : Prop where
  ex : ∃ (oc : Value) (od : Option Addr) (kV doc pm : Value) (an : Option Addr) (cda cc : Addr) (ct : Value) (osl : Array (Option Value)) (ccl : Value) (cdd : Option Addr) (vsc : Array Value) (ccs : Array (Option Value)) (file : Str) (tf : Tok) (cl : Value) (cld : Option Addr) (csl : Array (Option Value)),
    fd = PySem.W.ksFn "__init__" qual (defArgs st) (defBody st) (defScope st) .none kV doc pm an (.ref cda) ct cc ∧ K.lookup f = some ⟨oc, od, .func fd, osl⟩ ∧ PySem.W.codeIn K (.ref cda) qual = true ∧
    K.lookup cda = some ⟨ccl, cdd, .fields vsc, ccs⟩ ∧ vsc[2]? = some (.str file tf) ∧ ((P.main.file : Str) == file) = true ∧ K.lookup cc = some ⟨cl, cld, .cell (some (.ref C)), csl⟩
theorem scIe : SupScope ["self", "part"] ["self", "part"] (defScope sIe) := ⟨rfl, rfl, rfl, by decide +kernel, rfl, by decide +kernel, by decide +kernel, by decide +kernel, rfl, rfl⟩
theorem app_len (a b : Str) : (a ++ b).length = a.length + b.length := by
  show (a.cps ++ b.cps).size = _
  rw [Array.size_append]
  rfl
section
variable {P : Program} {w : World} {K : PySem.W.Frag} {mg : Str → Option Value} {base : Heap}
theorem ok_ie {C f : Addr} {fd : FuncData} (F : ErrFn P K C "InvalidEdition.__init__" sIe f fd) (T : SupC P K mg C) (nF : PySem.W.findIn K (.ref C) "part" = some none) : FnOk P w K mg base CX0 1 f fd ["self", "part"] (spErr C "part") := by
  obtain ⟨oc, od, kV, doc, pm, an, cda, cc, ct, osl, ccl, cdd, vsc, ccs, file, tf, cl, cld, csl, rfl, lk, hcd, hcode, hvs, hfile, hcell⟩ := F.ex
  refine fn_sup (N := ["self", "part"]) lk hcd scIe rfl rfl rfl hcode hvs hfile hcell T (fun vs H Q E h => ?_) (fun _ => rfl) (fun _ => rfl) (fun _ => rfl) (fun A outer s H vs Q E hr h => ?_)
  · obtain ⟨a, p, rfl, _⟩ := h
    rfl
  · obtain ⟨a, p, rfl, ha, hp, k⟩ := h
    refine ⟨a, _, _, rfl, ha, pa_cons (pe_joined (.cons pe_str (.cons (pe_fmt (pv 1)) (.cons pe_str .nil)))) pa_nil, pss_one (ps_ost (pv 0) (pv 1)), ?_⟩
    have l1 : ∀ x y : Str, x.length ≤ 100 → y.length ≤ 1200 → (x ++ y).length ≤ sizeLine := fun x y hx hy => by rw [app_len, sizeLine_eq]; omega
    refine ⟨_, rfl, (by decide), _, rfl, .inl ⟨p, rfl, Nat.le_trans hp (by decide), p, rfl, ?_, _, rfl, ?_, ?_⟩⟩
    · rw [app_len, app_len, sizeLine_eq]
      have : ("this cannot be the " : Str).length = 19 := by decide
      have e0 : (Str.empty).length = 0 := by decide
      omega
    · rw [app_len, app_len, app_len, sizeLine_eq]
      have : ("this cannot be the " : Str).length = 19 := by decide
      have : (" of an edition" : Str).length = 14 := by decide
      have e0 : (Str.empty).length = 0 := by decide
      omega
    · refine ⟨by show 1 ≤ 1000; decide, ha, ?_⟩
      refine ⟨_, rfl, _, rfl, a, C, rfl, T.oex, nF, .inl ⟨ha, fun dx h1 h2 => k dx h1 h2⟩⟩
end
end Half

namespace Half
open PySem PySem.Spec PyProof.Rows L2
abbrev sEi : Stmt := inClass (top 28) 0
abbrev sGet (i : Nat) : Stmt := inClass (top 28) (i + 1)
abbrev sEq : Stmt := inClass (top 28) 7
/-- all but the object at x stands as it stood -/
def SameBut (x : Addr) (H H' : Hp) : Prop := ∀ b o, b ≠ x → H b = some o → H' b = some o
/-- an edition at a -/
structure EdObj (K : PySem.W.Frag) (H : Hp) (C : Addr) (a : Addr) (e : Ed) (s n f g : Addr) : Prop where
  ob : ∃ dx p, H a = some (.ins C dx [("parts", .ref p)]) ∧ H p = some (.tup [.str e.name, e.version, .ref s, .ref n, .ref f, .ref g])
  at_ : EdAt K H e s n f g
theorem EdObj.same {K : PySem.W.Frag} {H H' : Hp} {C a : Addr} {e : Ed} {s n f g : Addr} (S : Same H H') (h : EdObj K H C a e s n f g) : EdObj K H' C a e s n f g := by
  obtain ⟨⟨dx, p, h1, h2⟩, h3⟩ := h
  exact ⟨⟨dx, p, S _ _ h1, S _ _ h2⟩, h3.same S⟩
def EiNames : List Str := ["self", "name", "version", "scripts", "needs", "first", "against"]
def spEi (K : PySem.W.Frag) (C CE : Addr) : Sp := fun vs H Q E => ∃ (x dx : Addr) (e : Ed) (s n f g : Addr), vs = [.ref x, .str e.name, e.version, .ref s, .ref n, .ref f, .ref g] ∧ H x = some (.ins C dx []) ∧ EdAt K H e s n f g ∧ e.Small ∧
  (e.wrong = none → ∀ H', SameBut x H H' → EdObj K H' C x e s n f g → Q .non H') ∧
  (∀ p, e.wrong = some p → ∀ H' d, Same H H' → H' d = some (.xd [("part", .str p)]) → E (.ref CE) (some d) H')
structure TxtG (P : Program) (K : PySem.W.Frag) (mg : Str → Option Value) (C CE fI : Addr) (fdI : FuncData) : Prop where
  cl : Cls K C
  nP : NoAttr K C "parts"
  mgC : mg "Edition" = some (.ref C)
  mgE : mg "InvalidEdition" = some (.ref CE)
  sup : SupC P K mg CE
  nF : PySem.W.findIn K (.ref CE) "part" = some none
  iC : PySem.W.findIn K (.ref CE) "__init__" = some (some (.ref fI))
  tI : PySem.W.typeIn K (.ref fI) = some (.type "function")
  er : ErrFn P K CE "InvalidEdition.__init__" sIe fI fdI
  bI : Binds K fdI ["self", "part"] []
section
variable {P : Program} {w : World} {K : PySem.W.Frag} {mg : Str → Option Value} {base : Heap} {C CE fI : Addr} {fdI : FuncData}
theorem scEi : FnScope ["self", "name", "version", "scripts", "needs", "first", "against", "part"] ["self", "name", "version", "scripts", "needs", "first", "against"] (defScope sEi) := ⟨rfl, rfl, rfl, by decide +kernel, rfl, by decide +kernel, by decide +kernel⟩
theorem wrong_small (e : Ed) {p : Str} (h : e.wrong = some p) : p.length ≤ 1000 := by
  unfold Ed.wrong at h
  cases q : e.checks.find? (fun q => !q.2) with
  | none => rw [q] at h; cases h
  | some r =>
    rw [q] at h
    have hp : r.1 = p := by simpa using h
    have hm := List.mem_of_find?_eq_some q
    rw [← hp]
    unfold Ed.checks at hm
    simp only [List.mem_cons, List.not_mem_nil, or_false] at hm
    rcases hm with rfl | rfl | rfl | rfl | rfl | rfl <;> (dsimp only; decide)
theorem ok_ei {f : Addr} {fd : FuncData} {kws : List (Str × V)} (F : FunD K "__init__" "Edition.__init__" (defArgs sEi) (defBody sEi) (defScope sEi) [] kws f fd) (T : TxtG P K mg C CE fI fdI) (dW : Def P w K mg base 5 "wrong_part" ["name", "version", "scripts", "needs", "first", "against"] (spWrong K)) :
    FnOk P w K mg base (L2.CX P w) 6 f fd ["self", "name", "version", "scripts", "needs", "first", "against"] (spEi K C CE) := by
  refine F.ok scEi (fun vs H Q E h => ?_) (fun cdv A outer s H vs Q E hr h => ?_)
  · obtain ⟨x, dx, e, s, n, f, g, rfl, _⟩ := h
    rfl
  · obtain ⟨x, dx, e, as, an, af, ag, rfl, hx, hE, hz, kOk, kBad⟩ := h
    have nd := scEi.nd
    have FI : FnOk P w K mg base CX0 1 fI fdI ["self", "part"] (spErr CE "part") := ok_ie T.er T.sup T.nF
    refine ⟨_, pss_cons (ps_set (i := 7) nd rfl (Or.inl rfl) (pe_def dW hr rfl (pa_cons (pv 1) (pa_cons (pv 2) (pa_cons (pv 3) (pa_cons (pv 4) (pa_cons (pv 5) (pa_cons (pv 6) pa_nil))))))))
      (pss_cons (ps_if (pt_cmp (pc_notN (pv 7))) (pss_one (ps_raise rfl (takes_of rfl rfl rfl rfl) (pmk_oex T.sup.oex T.iC T.tI FI (hr.mono (by decide)) T.bI .nil (fun _ _ _ _ _ _ _ h => h.elim) rfl T.mgE (pa_cons (pv 7) pa_nil)))) pss_nil)
      (pss_one (ps_fld (pv 0) (pe_tup (pa_cons (pv 1) (pa_cons (pv 2) (pa_cons (pv 3) (pa_cons (pv 4) (pa_cons (pv 5) (pa_cons (pv 6) pa_nil))))))) rfl))), ?_⟩
    refine ⟨_, rfl, _, rfl, _, rfl, _, rfl, _, rfl, _, rfl, e, as, an, af, ag, rfl, hE, hz, fun H1 s1 => ?_⟩
    cases hw : e.wrong with
    | some p =>
      refine ⟨_, rfl, true, rfl, ?_⟩
      refine iteT ?_
      refine ⟨_, rfl, (by show 1 ≤ 1000; decide), fun a ha => ⟨a, p, rfl, upd_same, wrong_small e hw, fun d hd1 hd2 => ⟨rfl, d, [("part", .str p)], upd_same, ?_, ?_, ?_⟩⟩⟩
      · rw [upd_ne hd2, upd_same]
      · rw [upd_ne hd2] at hd1
        exact hd1
      · rw [upd_ne hd2] at hd1
        refine kBad p hw _ d (fun b o q => ?_) upd_same
        have q1 := s1 b o q
        have nb : b ≠ d := ne_of_none q1 hd1
        have na : b ≠ a := ne_of_none q1 ha
        rw [upd_ne nb, del_ne na, upd_ne na, upd_ne nb, upd_ne na]
        exact q1
    | none =>
      refine ⟨_, rfl, false, rfl, ?_⟩
      refine iteF ?_
      refine ⟨_, rfl, _, rfl, _, rfl, _, rfl, _, rfl, _, rfl, (by show 6 ≤ sizeLine; decide), fun p hp => ?_⟩
      have nx : x ≠ p := ne_of_none (s1 _ _ hx) hp
      refine ⟨_, rfl, x, C, dx, [], rfl, (by rw [upd_ne nx]; exact s1 _ _ hx), T.cl, T.nP, (by show 0 < 1000; decide), ?_⟩
      have sb : SameBut x H (upd (upd H1 p (.tup [.str e.name, e.version, .ref as, .ref an, .ref af, .ref ag])) x (.ins C dx (putF "parts" (.ref p) []))) := fun b o hb q => by
        rw [upd_ne hb, upd_ne (ne_of_none (s1 _ _ q) hp)]
        exact s1 _ _ q
      refine kOk hw _ sb ⟨⟨dx, p, upd_same, by rw [upd_ne (Ne.symm nx), upd_same]⟩, ?_⟩
      have hE1 : EdAt K (upd H1 p (.tup [.str e.name, e.version, .ref as, .ref an, .ref af, .ref ag])) e as an af ag := hE.same (s1.trans (Same.upd_new hp))
      have tr : ∀ {a xs}, SqT K (upd H1 p (.tup [.str e.name, e.version, .ref as, .ref an, .ref af, .ref ag])) a xs → SqT K (upd (upd H1 p (.tup [.str e.name, e.version, .ref as, .ref an, .ref af, .ref ag])) x (.ins C dx (putF "parts" (.ref p) []))) a xs := fun {a xs} h => by
        have hxx : (upd H1 p (.tup [.str e.name, e.version, .ref as, .ref an, .ref af, .ref ag])) x = some (.ins C dx []) := by rw [upd_ne nx]; exact s1 _ _ hx
        rcases h with (h | ⟨o, h⟩) | h
        · exact .inl (.inl (by rw [upd_ne (ne_of h hxx (by intro z; cases z))]; exact h))
        · exact .inl (.inr ⟨o, by rw [upd_ne (ne_of h hxx (by intro z; cases z))]; exact h⟩)
        · exact .inr h
      have trN : ∀ {a ps}, NeedsAt K (upd H1 p (.tup [.str e.name, e.version, .ref as, .ref an, .ref af, .ref ag])) a ps → NeedsAt K (upd (upd H1 p (.tup [.str e.name, e.version, .ref as, .ref an, .ref af, .ref ag])) x (.ins C dx (putF "parts" (.ref p) []))) a ps := fun {a ps} h => by
        obtain ⟨ts, h1, h2, h3⟩ := h
        exact ⟨ts, tr h1, h2, fun i t p q r => tr (h3 i t p q r)⟩
      exact ⟨tr hE1.scripts, trN hE1.needs, trN hE1.first, tr hE1.against⟩
end
end Half

namespace Half
open PySem PySem.Spec PyProof.Rows L2
/-! ### the six properties -/
def spGet (C : Addr) (i : Nat) : Sp := fun vs H Q _ => ∃ (a dx p : Addr) (xs : List V) (v : V), vs = [.ref a] ∧ H a = some (.ins C dx [("parts", .ref p)]) ∧ H p = some (.tup xs) ∧ xs[i]? = some v ∧ Q v H
section
variable {P : Program} {w : World} {K : PySem.W.Frag} {mg : Str → Option Value} {base : Heap} {C : Addr}
theorem scGet {i : Nat} (h : i < 6) : FnScope ["self"] ["self"] (defScope (sGet i)) := by
  match i, h with
  | 0, _ => exact ⟨rfl, rfl, rfl, by decide +kernel, rfl, by decide +kernel, by decide +kernel⟩
  | 1, _ => exact ⟨rfl, rfl, rfl, by decide +kernel, rfl, by decide +kernel, by decide +kernel⟩
  | 2, _ => exact ⟨rfl, rfl, rfl, by decide +kernel, rfl, by decide +kernel, by decide +kernel⟩
  | 3, _ => exact ⟨rfl, rfl, rfl, by decide +kernel, rfl, by decide +kernel, by decide +kernel⟩
  | 4, _ => exact ⟨rfl, rfl, rfl, by decide +kernel, rfl, by decide +kernel, by decide +kernel⟩
  | 5, _ => exact ⟨rfl, rfl, rfl, by decide +kernel, rfl, by decide +kernel, by decide +kernel⟩
theorem getBody {i : Nat} (h : i < 6) : ∃ p1 p2 p3 p4 p5 : Pos, ∃ j, defBody (sGet i) = [.Return (some (.Subscript (.Attribute (.Name "self" p1) "parts" p2) (.Constant (.int i) j p3) p4)) p5] := by
  match i, h with
  | 0, _ => exact ⟨_, _, _, _, _, _, rfl⟩
  | 1, _ => exact ⟨_, _, _, _, _, _, rfl⟩
  | 2, _ => exact ⟨_, _, _, _, _, _, rfl⟩
  | 3, _ => exact ⟨_, _, _, _, _, _, rfl⟩
  | 4, _ => exact ⟨_, _, _, _, _, _, rfl⟩
  | 5, _ => exact ⟨_, _, _, _, _, _, rfl⟩
theorem ok_get {f : Addr} {fd : FuncData} {x qual : Str} {i : Nat} (hi : i < 6) (F : Fun K x qual (sGet i) f fd) (cl : Cls K C) (nP : NoAttr K C "parts") : FnOk P w K mg base CX0 1 f fd ["self"] (spGet C i) := by
  refine F.ok (scGet hi) (fun vs H Q E h => ?_) (fun cdv A outer s H vs Q E hr h => ?_)
  · obtain ⟨a, dx, p, xs, v, rfl, _⟩ := h
    rfl
  · obtain ⟨a, dx, p, xs, v, rfl, ha, hp, hv, k⟩ := h
    obtain ⟨p1, p2, p3, p4, p5, j, hb⟩ := getBody hi
    rw [hb]
    have hvis : Vis (defScope (sGet i)) "self" := ((scGet hi).par "self" (List.Mem.head _)).elim (fun z => .inl z) (fun z => .inr (.inl z))
    refine ⟨_, pss_one (ps_ret (pe_ix ix_tup (pe_fld (pe_var (i := 0) rfl hvis) rfl) pe_int (fun _ _ => rfl))), ?_⟩
    exact ⟨_, rfl, a, C, dx, _, _, rfl, ha, cl, nP, rfl, p, xs, _, v, rfl, rfl, .inl (.inl hp), atI_nat hv, k⟩
/-! ### == -/
def pairD (p : Str × Int) : PyData := .tuple [.str p.1, .int p.2]
def verD : V → PyData
  | .int n => .int n
  | .bl b => .bool b
  | _ => .none
def Ed.data (e : Ed) : PyData := .tuple [.str e.name, verD e.version, .tuple (e.scripts.map PyData.str), .tuple (e.needs.map pairD), .tuple (e.first.map pairD), .tuple (e.against.map PyData.str)]
theorem dpStrs {H : Hp} : ∀ l : List Str, DpAll K H (l.map V.str) (l.map PyData.str)
  | [] => .nil
  | x :: l => .cons (.str x) (dpStrs l)
theorem dpPairs {H : Hp} : ∀ (ts : List Addr) (ps : List (Str × Int)), ts.length = ps.length → (∀ (i : Nat) t p, ts[i]? = some t → ps[i]? = some p → SqT K H t [.str p.1, .int p.2]) → DpAll K H (ts.map V.ref) (ps.map pairD)
  | [], [], _, _ => .nil
  | t :: ts, p :: ps, hl, h => .cons (.tup (h 0 t p rfl rfl) (.cons (.str _) (.cons (.int _) .nil))) (dpPairs ts ps (by simpa using hl) fun i t' p' h1 h2 => h (i + 1) t' p' (by simpa using h1) (by simpa using h2))
  | [], _ :: _, hl, _ => by simp at hl
  | _ :: _, [], hl, _ => by simp at hl
theorem NeedsAt.dp {H : Hp} {a : Addr} {ps : List (Str × Int)} (h : NeedsAt K H a ps) : Dp K H (.ref a) (.tuple (ps.map pairD)) := by
  obtain ⟨ts, h1, h2, h3⟩ := h
  exact .tup h1 (dpPairs ts ps h2 h3)
theorem verDp {H : Hp} {v : V} (h : (∃ n, v = .int n) ∨ ∃ b, v = .bl b) : Dp K H v (verD v) := by
  rcases h with ⟨n, rfl⟩ | ⟨b, rfl⟩
  · exact .int n
  · exact .bl b
theorem EdObj.dp {H : Hp} {p s n f g : Addr} {e : Ed} (hp : H p = some (.tup [.str e.name, e.version, .ref s, .ref n, .ref f, .ref g])) (hE : EdAt K H e s n f g) (hv : (∃ n, e.version = .int n) ∨ ∃ b, e.version = .bl b) : Dp K H (.ref p) e.data :=
  .tup (.inl (.inl hp)) (.cons (.str _) (.cons (verDp hv) (.cons (.tup hE.scripts (dpStrs _)) (.cons hE.needs.dp (.cons hE.first.dp (.cons (.tup hE.against (dpStrs _)) .nil))))))
/-- an edition's promise of ==: what the data say -/
def EdIs (K : PySem.W.Frag) (H : Hp) (C a : Addr) (e : Ed) : Prop := (∃ s n f g, EdObj K H C a e s n f g) ∧ ((∃ n, e.version = .int n) ∨ ∃ b, e.version = .bl b) ∧ SeqAt.shaped e.data = true
theorem EdIs.same {H H' : Hp} {a : Addr} {e : Ed} (S : Same H H') (h : EdIs K H C a e) : EdIs K H' C a e := by
  obtain ⟨⟨s, n, f, g, h1⟩, h2⟩ := h
  exact ⟨⟨s, n, f, g, h1.same S⟩, h2⟩
def spEq (K : PySem.W.Frag) (C : Addr) : Sp := fun vs H Q _ => ∃ (a b : Addr) (e e' : Ed), vs = [.ref a, .ref b] ∧ EdIs K H C a e ∧ EdIs K H C b e' ∧ Q (.bl (PyData.eqv e.data e'.data)) H
structure TxtI (K : PySem.W.Frag) (mg : Str → Option Value) (C : Addr) : Prop where
  cl : Cls K C
  nP : NoAttr K C "parts"
  mgC : mg "Edition" = some (.ref C)
  isi : mg "isinstance" = none
  ha : PySem.W.findIn K (.ref C) "__class__" = some (some (.builtin "object.__class__"))
  hn : PySem.W.specialIn K (.builtin "object.__class__") "__get__" = some (some (.builtin "getset_descriptor.__get__"))
  ht : PySem.W.takesIn K (.builtin "object.__class__") = some true
  hm : PySem.W.mroIn K C (.type "object") = some true
  ki : PySem.W.kitOne K (.ref C) (.ref C) = some true
theorem scEq : FnScope ["self", "other"] ["self", "other"] (defScope sEq) := ⟨rfl, rfl, rfl, by decide +kernel, rfl, by decide +kernel, by decide +kernel⟩
theorem ok_eq {f : Addr} {fd : FuncData} (F : Fun K "__eq__" "Edition.__eq__" sEq f fd) (T : TxtI K mg C) : FnOk P w K mg base CX0 1 f fd ["self", "other"] (spEq K C) := by
  refine F.ok scEq (fun vs H Q E h => ?_) (fun cdv A outer s H vs Q E hr h => ?_)
  · obtain ⟨a, b, e, e', rfl, _⟩ := h
    rfl
  · obtain ⟨a, b, e, e', rfl, ⟨⟨s1, n1, f1, g1, ⟨dx, p, ha, hp⟩, hE⟩, hv, hs⟩, ⟨⟨s2, n2, f2, g2, ⟨dy, q, hb, hq⟩, hE'⟩, hv', hs'⟩, k⟩ := h
    refine ⟨_, pss_one (ps_ret (pe_and (pe_callB call_isi (by rfl) T.isi (by decide +kernel) (pa_cons (pv 1) (pa_cons (pe_glob (v := .ref C) rfl T.mgC rfl) pa_nil)))
      (pe_one (pe_cmpR (op_eqD hr.units) (pe_fld (pv 0) rfl) (pe_fld (pv 1) rfl) (nomark _))))), ?_⟩
    refine ⟨_, rfl, _, _, _, _, _, rfl, .own C, .base (.ins hb T.cl T.ha T.hn T.ht T.hm), T.ki, _, rfl, ?_⟩
    refine iteT ?_
    refine ⟨_, rfl, a, C, dx, _, _, rfl, ha, T.cl, T.nP, rfl, _, rfl, b, C, dy, _, _, rfl, hb, T.cl, T.nP, rfl, _, _, EdObj.dp hp hE hv, EdObj.dp hq hE' hv', hs, hs', k⟩
end
end Half

/-! sets whose items are tuples of ints and texts: s.add(t), t in s -/
namespace L2
open PySem PySem.Spec PyProof.Rows
abbrev kh (P : Program) (w : World) (k : List Key) : Int := tupleKeyHash (mixKind P w) k
abbrev TupK (P : Program) (w : World) (h : Heap) (k : List Key) (a : Addr) : Prop := IsTupleKey (mixKind P w) h k a
section
variable {P : Program} {w : World} {A : Around} {E : Value → Shared → Prop} {s : Shared}
def flatKey (v : Value) : Prop := (∃ i t, v = Value.int i t) ∨ ∃ x t, v = Value.str x t
theorem items_flat {k : List Key} {vs : List Value} (h : ItemsAre (mixKind P w) k vs) : ∀ v ∈ vs, flatKey v := by
  induction h with
  | nil => exact fun v hv => nomatch hv
  | @cons c u ks us one _ more =>
    intro v hv
    rcases List.mem_cons.mp hv with rfl | hv
    · rcases keyIs_shape (k := c) (v := v) one with ⟨i, t, _, e⟩ | ⟨x, t, _, e⟩
      · exact .inl ⟨i, t, e⟩
      · exact .inr ⟨x, t, e⟩
    · exact more v hv
theorem cls_flat {n : Nat} {v : Value} (h : flatKey v) : ofAClassStatement n v = pure false := by
  rcases h with ⟨i, t, rfl⟩ | ⟨x, t, rfl⟩ <;> cases n <;> rfl
theorem val_flat {n : Nat} {v : Value} (h : flatKey v) : ∃ b, hashByValue n v = pure b := by
  rcases h with ⟨i, t, rfl⟩ | ⟨x, t, rfl⟩
  · exact ⟨true, by cases n <;> rfl⟩
  · exact ⟨false, by cases n <;> rfl⟩
theorem cls_tup {k : List Key} {b : Addr} {Q : Bool → Shared → Prop} (T : TupK P w s.heap k b) (q : Q false s) : wpAny (model P w) A (ofAClassStatement 8 (.ref b)) Q E s := by
  have ty := T.typeIs
  obtain ⟨o, its, n, go, _, gd, gi⟩ := T
  unfold ofAClassStatement
  refine wpAny_bind (wpAny_typeOf ty ?_)
  dsimp only
  simp only [show (("tuple" : String) == "tuple") = true by decide, if_true, Bool.not_true, Bool.false_eq_true, if_false]
  first
    | refine wpAny_bind (wpAny_pure ?_)
    | skip
  try simp only [Bool.not_true, Bool.false_eq_true, if_false]
  show wpAny _ _ (seqItems? (.ref b) >>= _) _ _ s
  refine wpAny_bind (wpAny_seqItems go gd ?_)
  dsimp only
  refine wpAny_bind ?_
  show wpAny _ _ (forIn its _ _) _ _ s
  rw [← Array.forIn_toList]
  refine wpAny_forIn_list _ (fun rest r s' => r.1 = none ∧ s' = s ∧ ∀ v ∈ rest, flatKey v) _ ?_ ?_ _ _ ⟨rfl, rfl, items_flat gi⟩
  · rintro v rest r z ⟨hr, rfl, hall⟩
    rw [cls_flat (hall v List.mem_cons_self)]
    refine wpAny_bind (wpAny_pure ?_)
    simp only [Bool.false_eq_true, if_false]
    exact wpAny_pure ⟨rfl, rfl, fun u hu' => hall u (.tail _ hu')⟩
  · rintro ⟨r1, r2⟩ z ⟨hr, rfl, _⟩
    simp only at hr
    subst hr
    exact wpAny_pure q
theorem val_tup {k : List Key} {b : Addr} {Q : Bool → Shared → Prop} (T : TupK P w s.heap k b) (q : ∀ c, Q c s) : wpAny (model P w) A (hashByValue 8 (.ref b)) Q E s := by
  have ty := T.typeIs
  obtain ⟨o, its, n, go, _, gd, gi⟩ := T
  unfold hashByValue
  refine wpAny_bind (wpAny_specialOf ty F.slot_tuple_hash.lookup ?_)
  show wpAny _ _ (seqItems? (.ref b) >>= _) _ _ s
  refine wpAny_bind (wpAny_seqItems go gd ?_)
  refine wpAny_bind ?_
  show wpAny _ _ (forIn its _ _) _ _ s
  rw [← Array.forIn_toList]
  refine wpAny_forIn_list _ (fun rest r s' => (∀ c, r.1 = some c → c = false) ∧ s' = s ∧ ∀ v ∈ rest, flatKey v) _ ?_ ?_ _ _ ⟨(fun c h => nomatch h), rfl, items_flat gi⟩
  · rintro v rest r z ⟨hr, rfl, hall⟩
    obtain ⟨c, e⟩ := val_flat (n := 7) (hall v List.mem_cons_self)
    rw [e]
    refine wpAny_bind (wpAny_pure ?_)
    cases c
    · simp only [Bool.not_false, if_true]
      exact wpAny_pure (wpAny_pure (q false))
    · simp only [Bool.not_true, Bool.false_eq_true, if_false]
      exact wpAny_pure ⟨(fun c h => nomatch h), rfl, fun u hu' => hall u (.tail _ hu')⟩
  · rintro ⟨r1, r2⟩ z ⟨hr, rfl, _⟩
    cases r1 with
    | none => exact wpAny_pure (q true)
    | some c => exact wpAny_pure (q c)
theorem unseen {k : List Key} {b : Addr} {Q : Bool → Shared → Prop} (T : TupK P w s.heap k b) {ys : List Value} (hy : ∀ y ∈ ys, ∃ k' c, y = Value.ref c ∧ TupK P w s.heap k' c) (q : Q false s) :
    wpAny (model P w) A (searchCouldBeSeen (.ref b) ys) Q E s := by
  unfold searchCouldBeSeen
  refine wpAny_bind ?_
  refine wpAny_forIn_list _ (fun rest r s' => r.1 = none ∧ s' = s ∧ ∀ y ∈ rest, ∃ k' c, y = Value.ref c ∧ TupK P w s.heap k' c) _ ?_ ?_ _ _ ⟨rfl, rfl, hy⟩
  · rintro v rest r z ⟨hr, rfl, hall⟩
    obtain ⟨k', c, rfl, hc⟩ := hall v List.mem_cons_self
    have more : ∀ y ∈ rest, ∃ k' c, y = Value.ref c ∧ TupK P w z.heap k' c := fun u m => hall u (.tail _ m)
    dsimp only
    by_cases hv : (b == c || (carriedByValue (.ref b) && carriedByValue (.ref c))) = true
    · exact wp_if_pos hv (wpAny_pure ⟨rfl, rfl, more⟩)
    · refine wp_if_neg hv (wpAny_bind (wpAny_eqIsQuiet_tuple T ?_))
      simp only [Bool.not_true, Bool.false_eq_true, if_false]
      refine wpAny_bind (wpAny_eqIsQuiet_tuple hc ?_)
      simp only [Bool.not_true, Bool.false_eq_true, if_false]
      refine wpAny_bind (cls_tup T ?_)
      simp only [Bool.false_eq_true, if_false]
      refine wpAny_bind (cls_tup hc ?_)
      simp only [Bool.false_eq_true, if_false]
      exact wpAny_pure ⟨rfl, rfl, more⟩
  · rintro ⟨r1, r2⟩ z ⟨hr, rfl, _⟩
    simp only at hr
    subst hr
    exact wpAny_pure q
/-! the table of such a set -/
def ents (P : Program) (w : World) (L : List (Addr × List Key)) : List (Int × Value) := L.map fun p => (kh P w p.2, Value.ref p.1)
structure SetTK (P : Program) (w : World) (h : Heap) (a : Addr) (L : List (Addr × List Key)) (es : Array (Int × Value)) (ep : Nat) (t : SetTable) : Prop where
  ob : ∃ o, h.get? a = some o ∧ o.ExactSet ∧ o.data = .set es ep t
  row : es.toList = ents P w L
  tab : TabOk t (L.map fun p => kh P w p.2)
  one : (L.map (·.2)).Nodup
  room : L.length * 5 < t.mask * 3
  few : L.length < 64
  led : w.params.followText "set-order" = true ∨ t.led = true
variable {a : Addr} {L : List (Addr × List Key)} {es : Array (Int × Value)} {ep : Nat} {t : SetTable} {h : Heap}
theorem ents_len (e : es.toList = ents P w L) : es.size = L.length := by
  have z := congrArg List.length e
  unfold ents at z
  rwa [Array.length_toList, List.length_map] at z
theorem fit_of (n : es.size = L.length) (z : t.place.size = L.length) (d : t.dummies = #[]) (r : L.length ≤ t.mask) : t.fits es.size = true := by
  unfold SetTable.fits SetTable.fill
  rw [d, Bool.and_eq_true, beq_iff_eq, decide_eq_true_eq]
  exact ⟨z.trans n.symm, by show t.place.size + 0 ≤ t.mask; omega⟩
theorem SetTK.psz (R : SetTK P w h a L es ep t) : t.place.size = L.length := by
  have z := R.tab.sz
  rwa [List.length_map] at z
theorem SetTK.fit (R : SetTK P w h a L es ep t) : t.fits es.size = true := fit_of (ents_len R.row) R.psz R.tab.dm (by have := R.room; omega)
theorem SetTK.at (R : SetTK P w h a L es ep t) {i : Nat} {p : Addr × List Key} (m : L[i]? = some p) : es[i]? = some (kh P w p.2, Value.ref p.1) := by
  rw [← Array.getElem?_toList, R.row]
  unfold ents
  rw [List.getElem?_map, m] <;> rfl
theorem SetTK.odd (R : SetTK P w h a L es ep t) : ¬ t.gaveWay = true := by
  unfold SetTable.gaveWay
  rw [mask_odd R.tab.mok] <;> decide
/-- the c-th probe of the key -/
abbrev prb (P : Program) (w : World) (t : SetTable) (k : List Key) (c : Nat) : SetTable.Probe := nth t.mask (runAt t.mask (SetTable.bits (kh P w k) % (t.mask + 1)) (SetTable.bits (kh P w k))) c
theorem nth_dummy (m : Nat) : ∀ (n : Nat) (p : SetTable.Probe), p.dummy = none → (nth m p n).dummy = none
  | 0, _, e => e
  | n + 1, p, e => nth_dummy m n (adv m p) (by unfold adv; split <;> exact e)
/-- a search for a key, in a table that has its first free place at the K-th step -/
theorem look_from {ad : Bool} (R : SetTK P w s.heap a L es ep t) (TT : ∀ p ∈ L, TupK P w s.heap p.2 p.1) {x : Addr} {k : List Key} (hx : TupK P w s.heap k x) (hu : A.units < cLine) {K : Nat} (hKf : K < 10 * SetTable.turns t.mask)
    (free : way t.mask (kh P w k) K ∉ t.place.toList) (busy : ∀ c, c < K → way t.mask (kh P w k) c ∈ t.place.toList) {Q : SetFound → Shared → Prop}
    (yes : ∀ r, (ad = false → r.isSome = true) → k ∈ L.map (·.2) → Q (.there r) s) (no : k ∉ L.map (·.2) → Q (.free (way t.mask (kh P w k) K) false) s) :
    ∀ (f c : Nat) (stand : Option SetTable.Probe), stand.getD (t.probeStart (kh P w k)) = prb P w t k c → c ≤ K → K - c < f →
      (∀ (i : Nat) p, L[i]? = some p → p.2 = k → ∃ c', c ≤ c' ∧ c' < K ∧ t.place.toList[i]? = some (way t.mask (kh P w k) c')) →
      wpAny (model P w) A (setSearchFrom a (.ref x) (kh P w k) ad f stand) Q E s
  | 0, c, stand, _, _, hf, _ => absurd hf (Nat.not_lt_zero _)
  | f + 1, c, stand, hst, hc, hf, hre => by
    obtain ⟨o, go, gx, gd⟩ := R.ob
    rw [setSearchFrom_succ]
    refine wpAny_bind (wpAny_setState_of go gd R.fit ?_)
    dsimp only
    refine wp_if_neg R.odd ?_
    first
      | refine wpAny_bind (wpAny_pure ?_)
      | skip
    have nod : (prb P w t k c).dummy = none := nth_dummy t.mask c _ rfl
    have sh : ∀ q, nth t.mask (prb P w t k c) q = prb P w t k (c + q) := fun q => (nth_add t.mask c _ q).symm
    have e1 : ∀ q, (nth t.mask (prb P w t k c) q).j = way t.mask (kh P w k) (c + q) := fun q => congrArg SetTable.Probe.j (sh q)
    have spec := go_spec t R.tab.ris R.tab.dm (fun i => (es[i]?.map (·.1)).getD 0) (kh P w k) (10 * SetTable.turns t.mask) (K - c) _ nod (by omega)
      (fun q hq => by rw [e1]; exact busy (c + q) (by omega)) (by rw [e1, show c + (K - c) = K by omega]; exact free)
    have hsh : ∀ (i : Nat) p, L[i]? = some p → (fun i => (es[i]?.map (·.1)).getD 0) i = kh P w p.2 := fun i p hp => by
      show (es[i]?.map (·.1)).getD 0 = _
      rw [R.at hp] <;> rfl
    rcases spec with ⟨q, i, hq, hi, hh, hno, hpr⟩ | ⟨hno, hpr⟩
    · have met : t.probe (fun i => (es[i]?.map (·.1)).getD 0) (kh P w k) (stand.getD (t.probeStart (kh P w k))) = some (.candidate (way t.mask (kh P w k) (c + q)) i (prb P w t k (c + (q + 1)))) := by
        rw [hst, ← e1, ← sh]
        exact hpr
      rw [met]
      dsimp only
      rw [e1] at hi
      have hil : i < L.length := by
        have h1 := (List.getElem?_eq_some_iff.mp hi).1
        rw [Array.length_toList, R.psz] at h1
        exact h1
      have hp : L[i]? = some L[i] := List.getElem?_eq_getElem hil
      generalize L[i] = p at hp
      have hm : p ∈ L := List.mem_of_getElem? hp
      have live : t.slot (way t.mask (kh P w k) (c + q)) = .live i := slot_live R.tab.ris hi
      have rest : wpAny (model P w) A (searchRest a (.ref x) (kh P w k) ad f es t (way t.mask (kh P w k) (c + q)) i (prb P w t k (c + (q + 1)))) Q E s := by
        unfold searchRest
        rw [R.at hp]
        dsimp only
        refine wpAny_bind (wpAny_holding (wpAny_eqBool_tuple hu (TT p hm) hx ?_))
        refine wpAny_bind (wpAny_setState_of go gd R.fit ?_)
        dsimp only
        by_cases both : (ad && decide (p.2 = k)) = true
        · refine wp_if_pos both (wpAny_pure (yes none (fun z => ?_) ?_))
          · rw [z] at both; exact nomatch both
          · exact List.mem_map.mpr ⟨p, hm, of_decide_eq_true (Bool.and_eq_true _ _ ▸ both).2⟩
        · refine wp_if_neg both ?_
          first
            | refine wpAny_bind (wpAny_pure ?_)
            | skip
          rw [sameMem]
          dsimp only
          simp only [if_true, live, R.at hp]
          refine wpAny_bind (wpAny_isSame_ref_self (wpAny_bind (wpAny_pure ?_)))
          simp only [if_true]
          by_cases same : p.2 = k
          · exact wp_if_pos (by simp [same]) (wpAny_pure (yes (some i) (fun _ => rfl) (List.mem_map.mpr ⟨p, hm, same⟩)))
          · refine wp_if_neg (by simp [same]) ?_
            refine look_from R TT hx hu hKf free busy yes no f (c + (q + 1)) _ rfl (by omega) (by omega) fun i0 p0 h0 hk0 => ?_
            obtain ⟨c', a1, a2, a3⟩ := hre i0 p0 h0 hk0
            refine ⟨c', ?_, a2, a3⟩
            rcases Nat.lt_trichotomy c' (c + q) with z | z | z
            · exact (hno (c' - c) i0 (by omega) (by rw [e1, show c + (c' - c) = c' by omega]; exact a3) ((hsh i0 p0 h0).trans (congrArg (kh P w) hk0))).elim
            · rw [z] at a3
              have s0 := live.symm.trans (slot_live R.tab.ris a3)
              injection s0 with s0
              rw [← s0, hp] at h0
              exact absurd ((congrArg Prod.snd (Option.some.inj h0)).trans hk0) same
            · omega
      by_cases hl : t.led = true
      · refine wp_if_neg (by simp [hl]) ?_
        first
          | exact rest
          | exact wpAny_bind (wpAny_pure rest)
      · refine wp_if_pos (by simp [hl]) (wpAny_bind (unseen hx (fun y hy => ?_) ?_))
        · obtain ⟨e, he, ee⟩ := List.mem_map.mp hy
          have he1 : e ∈ es ∧ e.1 = kh P w k := by simpa using he
          have he2 : e ∈ es.toList := by simpa using he1.1
          rw [R.row] at he2
          obtain ⟨p2, hp2, e2⟩ := List.mem_map.mp he2
          exact ⟨p2.2, p2.1, by rw [← ee, ← e2], TT p2 hp2⟩
        · refine wp_if_neg (by decide) ?_
          first
            | exact rest
            | exact wpAny_bind (wpAny_pure rest)
    · have met : t.probe (fun i => (es[i]?.map (·.1)).getD 0) (kh P w k) (stand.getD (t.probeStart (kh P w k))) = some (.empty (way t.mask (kh P w k) K) none) := by
        have e2 : way t.mask (kh P w k) K = (nth t.mask (prb P w t k c) (K - c)).j := by rw [e1, show c + (K - c) = K by omega]
        rw [hst, e2]
        exact hpr
      rw [met]
      dsimp only
      refine wpAny_pure (no fun hm => ?_)
      obtain ⟨p0, h0, hk0⟩ := List.mem_map.mp hm
      obtain ⟨i0, hi0, e0⟩ := List.getElem_of_mem h0
      have h00 : L[i0]? = some p0 := by rw [List.getElem?_eq_getElem hi0, e0]
      obtain ⟨c', a1, a2, a3⟩ := hre i0 p0 h00 hk0
      exact hno (c' - c) i0 (by omega) (by rw [e1, show c + (c' - c) = c' by omega]; exact a3) ((hsh i0 p0 h00).trans (congrArg (kh P w) hk0))
theorem look_at {ad : Bool} (R : SetTK P w s.heap a L es ep t) (TT : ∀ p ∈ L, TupK P w s.heap p.2 p.1) {x : Addr} {k : List Key} (hx : TupK P w s.heap k x) (hu : A.units < cLine) {Q : SetFound → Shared → Prop}
    (yes : ∀ r, (ad = false → r.isSome = true) → k ∈ L.map (·.2) → Q (.there r) s)
    (no : ∀ K, k ∉ L.map (·.2) → way t.mask (kh P w k) K ∉ t.place.toList → (∀ c, c < K → way t.mask (kh P w k) c ∈ t.place.toList) → Q (.free (way t.mask (kh P w k) K) false) s) :
    wpAny (model P w) A (setSearch a (.ref x) (kh P w k) ad) Q E s := by
  have hroom := R.room
  obtain ⟨K, hKf, free, busy⟩ := R.tab.first (by rw [List.length_map]; omega) (kh P w k)
  have small : 10 * SetTable.turns t.mask ≤ 1420 := by
    unfold SetTable.turns
    rcases R.tab.mok with e | e | e <;> omega
  unfold setSearch
  refine look_from R TT hx hu hKf free busy yes (fun hn => no K hn free busy) 100000 0 none rfl (Nat.zero_le _) (by omega) fun i p hp hk => ?_
  have hil : i < t.place.toList.length := by
    rw [Array.length_toList, R.psz]
    exact (List.getElem?_eq_some_iff.mp hp).1
  have hj := List.getElem?_eq_getElem hil
  obtain ⟨c, hc, e⟩ := R.tab.before free (by rw [List.getElem?_map, hp, ← hk] <;> rfl) hj
  exact ⟨c, Nat.zero_le _, hc, by rw [hj, e]⟩
/-! adding -/
theorem tup_same {h h' : Heap} {k : List Key} {a b : Addr} {o : Obj} {es : Array (Int × Value)} {ep : Nat} {t : SetTable} (T : TupK P w h k b) (ho : h.get? a = some o) (hd : o.data = .set es ep t) (sb : Heap.SameBut a h h') : TupK P w h' k b := by
  obtain ⟨z, its, n, go, gc, gd, gi⟩ := T
  have ne : b ≠ a := by
    rintro rfl
    obtain rfl : z = o := Option.some.inj (go.symm.trans ho)
    rw [hd] at gd
    exact nomatch gd
  exact ⟨z, its, n, (sb.2 b ne).trans go, gc, gd, gi⟩
theorem ents_put (L : List (Addr × List Key)) (p : Nat) (x : Addr) (k : List Key) : ents P w (L.take p ++ (x, k) :: L.drop p) = (ents P w L).take p ++ (kh P w k, Value.ref x) :: (ents P w L).drop p := by
  unfold ents
  rw [List.map_append, List.map_cons, List.map_take, List.map_drop]
theorem pick_all {α : Type} (L : List α) : (List.range L.length).filterMap (fun i => L[i]?) = L := by
  have key : ∀ n, n ≤ L.length → (List.range n).filterMap (fun i => L[i]?) = L.take n := by
    intro n
    induction n with
    | zero => exact fun _ => rfl
    | succ n more =>
      intro hn
      rw [List.range_succ, List.filterMap_append, more (Nat.le_of_succ_le hn), List.take_succ, List.getElem?_eq_getElem hn, List.filterMap_cons_some (List.getElem?_eq_getElem hn)] <;> rfl
  rw [key _ (Nat.le_refl _), List.take_length]
theorem ents_order (L : List (Addr × List Key)) (es : Array (Int × Value)) (order : Array Nat) (hr : es.toList = ents P w L) (hp : order.toList.Perm (List.range L.length)) :
    ∃ L2, (order.filterMap (es[·]?)).toList = ents P w L2 ∧ L2.Perm L ∧ (L2.map fun p => kh P w p.2) = order.toList.map fun i => (es.map (·.1)).getD i 0 := by
  have sz := ents_len hr
  have ent : ∀ i (h : i < L.length), es[i]? = some (kh P w (L[i]).2, Value.ref (L[i]).1) := fun i h => by
    rw [← Array.getElem?_toList, hr]
    unfold ents
    rw [List.getElem?_map, List.getElem?_eq_getElem h] <;> rfl
  have key : ∀ l : List Nat, (∀ i ∈ l, i < L.length) → l.filterMap (fun i => es[i]?) = ents P w (l.filterMap (fun i => L[i]?)) ∧ ((l.filterMap (fun i => L[i]?)).map fun p => kh P w p.2) = l.map fun i => (es.map (·.1)).getD i 0 := by
    intro l
    induction l with
    | nil => exact fun _ => ⟨rfl, rfl⟩
    | cons i l more =>
      intro hl
      have hi := hl i List.mem_cons_self
      obtain ⟨e1, e2⟩ := more fun j hj => hl j (.tail _ hj)
      have e4 : (es.map (·.1)).getD i 0 = kh P w (L[i]).2 := by
        have e5 : (es.map (·.1))[i]? = some (kh P w (L[i]).2) := by rw [Array.getElem?_map, ent i hi] <;> rfl
        simp [Array.getD_eq_getD_getElem?, e5]
      rw [List.filterMap_cons_some (List.getElem?_eq_getElem hi), List.filterMap_cons_some (ent i hi), e1, List.map_cons, List.map_cons, e2, e4]
      exact ⟨rfl, rfl⟩
  obtain ⟨e1, e2⟩ := key order.toList fun i hi => List.mem_range.mp (hp.mem_iff.mp hi)
  refine ⟨_, by first | (rw [Array.toList_filterMap]; exact e1) | simpa using e1, ?_, e2⟩
  have h1 := hp.filterMap (fun i => L[i]?)
  rwa [pick_all] at h1
theorem relay_key {o : Obj} (ho : s.heap.get? a = some o) (hex : o.ExactSet) (hd : o.data = .set es ep t) (row : es.toList = ents P w L) (psz : t.place.size = L.length) (hdm : t.dummies = #[]) (hfl : L.length ≤ t.mask)
    (one : (L.map (·.2)).Nodup) (few : L.length < 64) (ld : w.params.followText "set-order" = true ∨ t.led = true) {wanted M : Nat} (hw : SetTable.sizeAbove wanted - 1 = M) (hM : MaskOk M) (hw2 : SetTable.sizeAbove wanted ≤ 128) (hn : L.length * 5 < M * 3) {Q : Unit → Shared → Prop}
    (q : ∀ h' L' es' ep' t', Heap.SameBut a s.heap h' → SetTK P w h' a L' es' ep' t' → L'.Perm L → Q () { s with heap := h' }) : wpAny (model P w) A (setRelay a wanted) Q E s := by
  have sz := ents_len row
  obtain ⟨t', order, e, hp, T, em, el, _, ed⟩ := relaid_ok t (hs := es.map (·.1)) (wanted := wanted) hw hM (by rw [Array.size_map, sz]; omega)
  rw [Array.size_map, sz] at hp
  obtain ⟨L2, r1, r2, r3⟩ := ents_order L es order row hp
  rw [← r3] at T
  have hs2 : (order.filterMap (es[·]?)).size = es.size := by rw [ents_len r1, r2.length_eq, sz]
  rw [setRelay_eq]
  refine wpAny_bind (wpAny_setState_of ho hd (fit_of sz psz hdm hfl) ?_)
  dsimp only
  refine wp_if_neg (by rw [sizeLine_eq]; omega) ?_
  first
    | refine wpAny_bind (wpAny_pure ?_)
    | skip
  rw [e]
  dsimp only
  refine wpAny_bind (wp_if_neg (by rw [hs2]; simp) ?_)
  first
    | refine wpAny_bind (wpAny_pure (wpAny_pure ?_))
    | refine wpAny_pure ?_
  dsimp only
  refine wpAny_storeSet_of ho hd ?_ (by rw [hs2, sz, sizeLine_eq]; omega)
  refine q _ L2 (order.filterMap (es[·]?)) (ep + 1) t' (Heap.SameBut.update ..) ⟨⟨_, store_at ho hd, ⟨hex.1, hex.2.1, hex.2.2⟩, rfl⟩, r1, T, (r2.map (·.2)).nodup_iff.mpr one, ?_, by rw [r2.length_eq]; exact few, by rw [el]; exact ld⟩ r2
  rw [r2.length_eq, em]
  exact hn
theorem add_key (R : SetTK P w s.heap a L es ep t) (TT : ∀ p ∈ L, TupK P w s.heap p.2 p.1) {x : Addr} {k : List Key} (hx : TupK P w s.heap k x) (hu : A.units < cLine) (hfew : L.length + 1 < 64) {Q : Bool → Shared → Prop}
    (q : ∀ b h' L' es' ep' t', Heap.SameBut a s.heap h' → SetTK P w h' a L' es' ep' t' → (k ∈ L.map (·.2) → L' = L) → (k ∉ L.map (·.2) → L'.Perm ((x, k) :: L)) → Q b { s with heap := h' }) :
    wpAny (model P w) A (setAddHashed a (.ref x) (kh P w k)) Q E s := by
  obtain ⟨o, go, gx, gd⟩ := R.ob
  have sz := ents_len R.row
  have room := R.room
  unfold setAddHashed
  refine wpAny_holding ?_
  rw [show (100000 : Nat) = 99999 + 1 from rfl, setAddHashedIn_succ]
  refine wpAny_bind (wpAny_setState_of go gd R.fit ?_)
  dsimp only
  refine wp_if_neg (by simp [byScan, Value.scannable]) ?_
  first
    | refine wpAny_bind (wpAny_pure ?_)
    | skip
  refine wpAny_bind (look_at R TT hx hu (fun r _ hm => ?_) fun K hm free busy => ?_)
  · exact wpAny_pure (q false s.heap L es ep t (Heap.SameBut.refl a s.heap) R (fun _ => rfl) fun z => absurd hm z)
  · dsimp only
    refine wpAny_bind (wpAny_setState_of go gd R.fit ?_)
    dsimp only
    obtain ⟨q1, q2, q3, q4, q5, q6, q7, q8, q9⟩ := R.tab.put free busy
    generalize t.put (way t.mask (kh P w k) K) = pt at q1 q3 q4 q5 q6 q7 q8 q9 ⊢
    obtain ⟨t1, p⟩ := pt
    dsimp only at q1 q3 q4 q5 q6 q7 q8 q9 ⊢
    subst q1
    have ins : (SetTable.insertAt es (SetTable.below t.place (way t.mask (kh P w k) K)) (kh P w k, Value.ref x)).toList = ents P w (L.take (SetTable.below t.place (way t.mask (kh P w k) K)) ++ (x, k) :: L.drop (SetTable.below t.place (way t.mask (kh P w k) K))) := by
      rw [SetTable.toList_insertAt, ents_put, R.row]
    generalize SetTable.below t.place (way t.mask (kh P w k) K) = p at q2 q3 ins ⊢
    have pm := put_perm L p (x, k)
    have hhs : (L.take p ++ (x, k) :: L.drop p).map (fun p => kh P w p.2) = (L.map fun p => kh P w p.2).take p ++ kh P w k :: (L.map fun p => kh P w p.2).drop p := by
      rw [List.map_append, List.map_cons, List.map_take, List.map_drop]
    rw [← hhs] at q3
    generalize L.take p ++ (x, k) :: L.drop p = L1 at pm q3 ins hhs
    have len1 : L1.length = L.length + 1 := pm.length_eq
    have one1 : (L1.map (·.2)).Nodup := (pm.map (·.2)).nodup_iff.mpr (by rw [List.map_cons]; exact List.nodup_cons.mpr ⟨hm, R.one⟩)
    have hes := (ents_len ins).trans len1
    generalize SetTable.insertAt es p (kh P w k, Value.ref x) = es1 at ins hes ⊢
    have body : ∀ t2 : SetTable, t2 = t1 ∨ t2 = { t1 with plain := false } → wpAny (model P w) A (do
        storeSet a es1 t2
        if !false && t2.tooFull then setRelay a (SetTable.grown (es.size + 1))
        return true) Q E s := fun t2 ht2 => by
      have q32 : TabOk t2 (L1.map fun p => kh P w p.2) := by
        rcases ht2 with rfl | rfl
        · exact q3
        · exact ⟨q3.ris, q3.dm, q3.sz, q3.mok, q3.bd, q3.reach⟩
      have q42 : t2.mask = t.mask := by rcases ht2 with rfl | rfl <;> exact q4
      have ld2 : w.params.followText "set-order" = true ∨ t2.led = true := by
        have e : t2.led = t.led := by rcases ht2 with rfl | rfl <;> exact q5
        rw [e]
        exact R.led
      have full : t2.tooFull = t1.tooFull := by rcases ht2 with rfl | rfl <;> rfl
      refine wpAny_bind (wpAny_storeSet_of go gd ?_ (by rw [hes, sizeLine_eq]; omega))
      have sb : Heap.SameBut a s.heap (s.heap.update a (Obj.putSet es1 t2)) := Heap.SameBut.update ..
      have ho1 := store_at (es' := es1) (t' := t2) go gd
      generalize s.heap.update a (Obj.putSet es1 t2) = h1 at sb ho1 ⊢
      have psz2 : t2.place.size = L1.length := by
        have z := q32.sz
        rwa [List.length_map] at z
      have say : t1.tooFull = decide ((L.length + 1) * 5 ≥ t1.mask * 3) := by
        unfold SetTable.tooFull
        rw [q9, List.length_map]
      by_cases hf : t2.tooFull = true
      · first
          | (refine wpAny_bind ?_; refine wp_if_pos (by simp [hf]) ?_)
          | (refine wp_if_pos (by simp [hf]) ?_; refine wpAny_bind ?_)
        have big : (L.length + 1) * 5 ≥ t.mask * 3 := by
          rw [full, say, decide_eq_true_eq, q4] at hf
          exact hf
        rw [sz]
        have two : (t.mask = 7 ∧ L.length = 4) ∨ (t.mask = 31 ∧ L.length = 18) := by
          rcases R.tab.mok with e | e | e
          · exact .inl ⟨e, by rw [e] at big room; omega⟩
          · exact .inr ⟨e, by rw [e] at big room; omega⟩
          · rw [e] at big; omega
        have go2 : ∀ M, SetTable.sizeAbove (SetTable.grown (L.length + 1)) - 1 = M → MaskOk M → SetTable.sizeAbove (SetTable.grown (L.length + 1)) ≤ 128 → (L.length + 1) * 5 < M * 3 →
            wpAny (model P w) A (setRelay a (SetTable.grown (L.length + 1))) (fun _ s' => wpAny (model P w) A (pure true) Q E s') E { s with heap := h1 } := fun M b1 b2 b3 b4 =>
          relay_key (s := { s with heap := h1 }) ho1 ⟨gx.1, gx.2.1, gx.2.2⟩ rfl ins psz2 q32.dm (by rw [len1, q42]; rcases two with ⟨e, e2⟩ | ⟨e, e2⟩ <;> omega) one1 (by rw [len1]; exact hfew) ld2 b1 b2 b3 (by rw [len1]; exact b4)
            fun h2 L2 es2 ep2 t2 sb2 R2 pm2 => wpAny_pure (q true h2 L2 es2 ep2 t2 (sb.trans sb2) R2 (fun z => absurd z hm) fun _ => pm2.trans pm)
        rcases two with ⟨_, e2⟩ | ⟨_, e2⟩
        · exact go2 31 (by rw [e2, size_20]) (.inr (.inl rfl)) (by rw [e2, size_20]; decide) (by omega)
        · exact go2 127 (by rw [e2, size_76]) (.inr (.inr rfl)) (by rw [e2, size_76]; decide) (by omega)
      · first
          | refine wp_if_neg (by simp [hf]) ?_
          | (refine wpAny_bind ?_; refine wp_if_neg (by simp [hf]) ?_; refine wpAny_pure ?_)
        refine wpAny_pure (q true h1 L1 es1 (ep + 1) t2 sb ⟨⟨_, ho1, ⟨gx.1, gx.2.1, gx.2.2⟩, rfl⟩, ins, q32, one1, ?_, by rw [len1]; exact hfew, ld2⟩ (fun z => absurd z hm) fun _ => pm)
        rw [full, say, decide_eq_true_eq, q4] at hf
        rw [len1, q42]
        omega
    by_cases hp1 : t1.plain = true
    · first
        | (refine wpAny_bind ?_; refine wp_if_pos hp1 ?_; refine val_tup hx fun c => ?_)
        | refine wp_if_pos hp1 (wpAny_bind (val_tup hx fun c => ?_))
      cases c
      · exact body _ (.inr rfl)
      · exact body _ (.inl rfl)
    · first
        | (refine wpAny_bind ?_; refine wp_if_neg hp1 ?_; refine wpAny_pure ?_)
        | refine wp_if_neg hp1 (wpAny_bind (wpAny_pure ?_))
      exact body _ (.inl rfl)
end
end L2

namespace L2
open PySem PySem.Spec PyProof.Rows
/-- the set at a: tuples of ints and texts, each with its address -/
def TsO (P : Program) (w : World) (a : Addr) (L : List (Addr × List Key)) : HO := .ext fun h => ∃ es ep t, SetTK P w h a L es ep t
/-- its tuples stand where they stood -/
def TupsIn (H : Hp) (L : List (Addr × List Key)) : Prop := ∀ p ∈ L, H p.1 = some (.tup (p.2.map kV))
/-- the key is among them -/
def hasK (L : List (Addr × List Key)) (k : List Key) : Bool := L.any fun p => decide (p.2 = k)
theorem hasK_iff {L : List (Addr × List Key)} {k : List Key} : hasK L k = true ↔ k ∈ L.map (·.2) := by simp [hasK]
theorem hasK_no {L : List (Addr × List Key)} {k : List Key} (h : k ∉ L.map (·.2)) : hasK L k = false := by
  cases e : hasK L k
  · rfl
  · exact absurd (hasK_iff.mp e) h
section
variable {X : Cx} {P : Program} {w : World}
theorem setTK_move {h h' : Heap} {a : Addr} {L : List (Addr × List Key)} {es : Array (Int × Value)} {ep : Nat} {t : SetTable} (R : SetTK P w h a L es ep t) (k : ∀ o, h.get? a = some o → h'.get? a = some o) : SetTK P w h' a L es ep t := by
  obtain ⟨o, go, r⟩ := R.ob
  exact ⟨⟨o, k o go, r⟩, R.row, R.tab, R.one, R.room, R.few, R.led⟩
theorem tsO_new {H : Hp} {h : Heap} {a : Addr} {L : List (Addr × List Key)} {es : Array (Int × Value)} {ep : Nat} {t : SetTable} (R : SetTK P w h a L es ep t) : ObjOk P w H h a (TsO P w a L) := by
  have ⟨o, go, _⟩ := R.ob
  exact ⟨⟨es, ep, t, R⟩, ⟨o, go⟩, fun h1 h2 ⟨e1, p1, t1, p⟩ k => ⟨e1, p1, t1, setTK_move p k⟩⟩
theorem tsO_get {pins : List (Addr × Obj)} {σ : St} {H : Hp} {s : Shared} {a : Addr} {L : List (Addr × List Key)} (I : Inv X pins σ H s) (ha : H a = some (TsO X.prog X.w a L)) : ∃ es ep t, SetTK X.prog X.w s.heap a L es ep t := (I.hok a _ ha).1
theorem setTK_type {s : Shared} {a : Addr} {L : List (Addr × List Key)} {es : Array (Int × Value)} {ep : Nat} {t : SetTable} (R : SetTK P w s.heap a L es ep t) : s.TypeIs (.ref a) "set" := by
  obtain ⟨o, go, gx, _⟩ := R.ob
  exact ⟨o, go, gx.1⟩
/-- set(), that tuples will be put into -/
def rSet0T (P : Program) (w : World) : List V → Hp → VK → Prop := fun xs H Q => xs = [] ∧ ∀ p, H p = none → Q (.ref p) (upd H p (TsO P w p []))
theorem setTK_nil {h : Heap} {a : Addr} (ho : h.get? a = some { cls := .type "set", dict := none, data := .set #[] 0 (.fresh 0 0 (!w.params.followText "set-order")) }) : SetTK P w h a [] #[] 0 (.fresh 0 0 (!w.params.followText "set-order")) :=
  ⟨⟨_, ho, ⟨rfl, rfl, rfl⟩, rfl⟩, rfl, ⟨.nil, rfl, rfl, .inl rfl, (fun x hx => nomatch hx), fun i h j hi => by simp at hi⟩, .nil, by show 0 * 5 < 7 * 3; decide, by show 0 < 64; decide, by show _ ∨ (!w.params.followText "set-order") = true; cases w.params.followText "set-order" <;> simp⟩
theorem cr_set0T : CallR X (.type "set") (rSet0T X.prog X.w) := by
  intro pins s σ H xs us Q I r h
  obtain ⟨rfl, q⟩ := h
  cases r
  refine setR_new fun _ => ?_
  refine ⟨.ref _, upd H s.heap.objs.size (TsO X.prog X.w s.heap.objs.size []), I.laid (t' := s.toks) (fun b u e => Heap.get?_push_of_some _ e) (Nat.le_refl _) (tsO_new (setTK_nil (Heap.get?_push_size _ rfl))), rfl, q _ (I.hok.fresh (Nat.le_refl _))⟩
theorem tupK_of {pins : List (Addr × Obj)} {σ : St} {H : Hp} {s : Shared} {b : Addr} {k : List Key} (I : Inv X pins σ H s) (e : H b = some (.tup (k.map kV))) : TupK X.prog X.w s.heap k b := key_of I.hok e
/-- s.add(t) -/
def rSAddT (P : Program) (w : World) : V → List V → Hp → VK → Prop := fun x xs H Q => ∃ (a b : Addr) (k : List Key) (L : List (Addr × List Key)), x = V.ref a ∧ xs = [.ref b] ∧ H b = some (.tup (k.map kV)) ∧ H a = some (TsO P w a L) ∧ TupsIn H L ∧ L.length + 1 < 64 ∧
  (k ∈ L.map (·.2) → Q .non (upd H a (TsO P w a L))) ∧ (k ∉ L.map (·.2) → ∀ L', L'.Perm ((b, k) :: L) → Q .non (upd H a (TsO P w a L')))
theorem mt_saddT (hu : X.A.units + 1 < cLine) : MtR X "set.add" (rSAddT X.prog X.w) := by
  intro pins s σ H x xs v us Q I rx rxs h
  obtain ⟨a, b, k, L, rfl, rfl, hb, ha, hL, room, q1, q2⟩ := h
  cases rx
  obtain ⟨u, rfl, ru⟩ := rxs.one
  cases ru
  obtain ⟨es, ep, t, R⟩ := tsO_get I ha
  have T := tupK_of I hb
  refine wpAny_call_entry F.slot_set_add (setTK_type R) F.entry_set_add ?_ (F.args_set_add_2 _ _)
  simp only [Builtin.«set.add», Builtin.Frozenset.oneOther, Builtin.Frozenset.addrOf, setAdd, List.isEmpty_nil, bind_assoc]
  refine wpAny_bind (wpAny_pure (wpAny_bind (wpAny_pure (wpAny_bind (wpAny_holding (wpAny_bind (wpAny_pyHash_tuple (A := X.A.in1) hu T ?_)))))))
  refine add_key (s := { s with toks := s.toks + (k.length + 1) }) R (fun p hp => tupK_of (s := s) I (hL p hp)) T (by exact hu) room fun c h' L' es' ep' t' sb R' y n => ?_
  show wpAny _ _ (ret Value.none) _ _ _
  refine wpAny_pure ⟨_, rfl, ?_⟩
  have he : ∃ u, h'.get? a = some u := by
    have ⟨o, go, _⟩ := R'.ob
    exact ⟨o, go⟩
  refine ⟨.non, upd H a (TsO X.prog X.w a L'), I.write (e := a) (t' := s.toks + (k.length + 1)) (by rw [ha]; trivial) (.inl rfl) (fun b u hb hu => (sb.2 b hb).trans hu) he (tsO_new R'), rfl, ?_⟩
  by_cases m : k ∈ L.map (·.2)
  · rw [y m]; exact q1 m
  · exact q2 m L' (n m)
def tSAddT (P : Program) (w : World) (to : TE) (t : TA) : TE := fun σ H Q => to σ H fun x H1 => (∃ a L, x = V.ref a ∧ H1 a = some (TsO P w a L)) ∧ t σ H1 fun xs H2 => rSAddT P w x xs H2 Q
theorem pe_saddT {o e : Expr} {es : List Expr} {to : TE} {t : TA} {apos cpos : Pos} (hu : X.A.units + 1 < cLine) (ho : PE X o to) (ha : PA X (e :: es) t)
    (h1 : attributeBase o "add" X.env (eval o X.env) = eval o X.env := by rfl)
    (h2 : ((backTo cpos (starEach (e :: es) X.env)).all (fun x => !x.1) && (backToKw cpos (keywordEach [] X.env)).all (fun x => x.1.isSome) && decide ((e :: es).length + ([] : List Keyword).length + (if ([] : List Keyword).isEmpty then 0 else 1) < 30)) = true := by rfl)
    (h3 : (apos.endLine == cpos.line) = true := by rfl) (h4 : starEach (e :: es) X.env = (false, eval e X.env) :: starEach es X.env := by rfl) (h5 : (backTo cpos (starEach es X.env)).any (·.1) = false := by rfl) :
    PE X (.Call (.Attribute o "add" apos) (e :: es) [] cpos) (tSAddT X.prog X.w to t) := by
  refine ⟨fun pins s σ H Q I h => ?_⟩
  refine wpAny_Call_method_late h1 h2 h3 rfl (thn (ho.run pins s σ H _ I h) fun v s1 ⟨x, H1, I1, r1, ty, q1⟩ => ?_)
  obtain ⟨a, L, rfl, hka⟩ := ty
  obtain ⟨ee, ep, tt, R⟩ := tsO_get I1 hka
  cases r1
  refine ⟨"set", "set.add", F.plainAttrs_set, F.slot_set_add, F.type_set_add, setTK_type R, (fun b e => ?_), ?_⟩
  · injection e with e
    subst e
    have ⟨o, go, gx, _⟩ := R.ob
    exact ⟨o, go, gx.2.1⟩
  have hA := ha.run cpos pins s1 σ H1 _ I1 q1
  rw [h4] at hA ⊢
  refine Calls.callWith_builtin (by show (false || (backTo cpos (starEach es X.env)).any (·.1)) = false; rw [h5] <;> rfl) (Calls.evalArgs_plain ?_)
  exact thn hA fun us s2 ⟨vs, H2, I2, r2, q2⟩ => mt_saddT hu pins s2 σ H2 (.ref a) vs (.ref a) us Q I2 rfl r2 q2
/-- t in s -/
def rSInT (P : Program) (w : World) : V → V → Hp → VK → Prop := fun x y H Q => ∃ (a b : Addr) (k : List Key) (L : List (Addr × List Key)), x = .ref b ∧ y = .ref a ∧ H b = some (.tup (k.map kV)) ∧ H a = some (TsO P w a L) ∧ TupsIn H L ∧ Q (.bl (hasK L k)) H
theorem find_key {A : Around} {E : Value → Shared → Prop} {s : Shared} {a : Addr} {L : List (Addr × List Key)} {es : Array (Int × Value)} {ep : Nat} {t : SetTable} (R : SetTK P w s.heap a L es ep t) (TT : ∀ p ∈ L, TupK P w s.heap p.2 p.1) {x : Addr} {k : List Key} (hx : TupK P w s.heap k x) (hu : A.units < cLine) {Q : Option Nat → Shared → Prop}
    (q : ∀ r : Option Nat, r.isSome = hasK L k → Q r s) : wpAny (model P w) A (setFind a (.ref x) (kh P w k)) Q E s := by
  obtain ⟨o, go, gx, gd⟩ := R.ob
  unfold setFind setFindIn
  refine wpAny_bind (wpAny_setState_of go gd R.fit ?_)
  dsimp only
  refine wp_if_neg (by simp [byScan, Value.scannable]) ?_
  first
    | refine wpAny_bind (wpAny_pure ?_)
    | skip
  refine wpAny_bind (look_at (ad := false) R TT hx hu (fun r hr m => ?_) fun K m _ _ => ?_)
  · exact wpAny_pure (q r (by rw [hr rfl, hasK_iff.mpr m]))
  · exact wpAny_pure (q none (by rw [hasK_no m] <;> rfl))
/-- x in s, s a set: the set's own __contains__ is asked -/
theorem set_asked {A : Around} {E : Value → Shared → Prop} {s : Shared} {a b : Addr} {Q : Bool → Shared → Prop} (ty : s.TypeIs (.ref a) "set") (h : ∀ X, wpAny (model P w) A.in1 (setContains a (.ref b)) Q X s) : wpAny (model P w) A (contains (.ref a) (.ref b)) Q E s := by
  have own : ¬ (some (Value.builtin "set.__contains__") == some Value.none) = true := by rw [beq_builtin_none]; exact Bool.false_ne_true
  refine wpAny_holding ?_
  refine wpAny_bind (wpAny_specialOf ty F.slot_set_contains.lookup ?_)
  refine wp_if_neg own (wpAny_bind (wpAny_callSpecialUnlessNone?_slot (name := Str.ofString "__contains__") ty F.slot_set_contains (wpAny_call_entry F.slot_set_contains ty entry_set_contains ?_ (F.args_set_contains_2 _ _))))
  simp only [Builtin.«frozenset.__contains__», Builtin.Frozenset.oneOther, Builtin.Frozenset.addrOf, Builtin.Frozenset.withSetAsKey, List.isEmpty_nil, bind_assoc]
  exact wpAny_bind (wpAny_pure (wpAny_bind (wpAny_pure (wpAny_bind (wpAny_tryCatch (wpAny_mono (h _) (fun r z q => wpAny_pure ⟨_, rfl, wpAny_truthy_bool q⟩) fun _ _ q => q))))))
theorem or_sinT (hu : X.A.units + 1 < cLine) : OpR X (compareOp .In) (rSInT X.prog X.w) := by
  intro pins s σ H x y v u Q I rx ry h
  obtain ⟨a, b, k, L, rfl, rfl, hb, ha, hL, q⟩ := h
  cases rx
  cases ry
  obtain ⟨es, ep, t, R⟩ := tsO_get I ha
  have T := tupK_of I hb
  have ty := setTK_type R
  refine wpAny_bind (set_asked ty fun _ => wpAny_holding (wpAny_bind (wpAny_pyHash_tuple (A := X.A.in1) hu T ?_)))
  refine wpAny_bind (find_key (s := { s with toks := s.toks + (k.length + 1) }) R (fun p hp => tupK_of (s := s) I (hL p hp)) T (by exact hu) fun r hr => ?_)
  exact wpAny_pure (wpAny_pure ⟨.bl (hasK L k), H, I.tok _, by rw [hr]; rfl, q⟩)
/-- len(s), a set of ints and texts -/
def rLenSK (P : Program) (w : World) : List V → Hp → VK → Prop := fun xs H Q => ∃ (a : Addr) (S : Key → Bool) (n : Nat), xs = [.ref a] ∧ H a = some (SetK P w a S n) ∧ Q (.int n) H
theorem call_lenSK : CallR X (.builtin "len") (rLenSK X.prog X.w) := by
  intro pins s σ H xs us Q I r h
  obtain ⟨a, S, n, rfl, ha, q⟩ := h
  rw [Vals.ref1 r]
  obtain ⟨o, es, ep, t, ho, hex, hd, _, _, hb, hf, hn⟩ := setK_get I ha
  have hb' : es.size < 4096 := hb
  refine call_len_set ho hex hd hf (by omega) ⟨.int n, H, I.tok _, ⟨_, by rw [hn]⟩, q⟩
end
end L2

/-! set(l) of a list: the shell, and the loop that puts the items in -/
namespace L2
open PySem PySem.Froz PyProof.Rows PySem.Spec
section
variable {P : Program} {w : World} {A : Around} {E : Value → Shared → Prop} {s : Shared}
/-- the set that set() begins with -/
def bareSet (w : World) : Obj := { cls := .type "set", dict := none, data := .set #[] 0 (.fresh 0 0 (!w.params.followText "set-order")) }
/-- set(l): what the loop that puts the items in makes of the bare set is the set -/
theorem set_made {l : Addr} {xs : Array Value} {Q : Value → Shared → Prop} (Gd : Heap → Prop) (hl : s.heap.IsList l xs) (hh : A.handled = none)
    (loop : ∀ B : Around, B.handled = none → codeAny (model P w) B (.builtin "set.update.loop" ⟨[.ref s.heap.objs.size, .ref (s.heap.objs.size + 1)], []⟩)
      (fun r z => r = .ok (.ret .none) ∧ ∃ h' tk, z = { s with heap := h', toks := tk } ∧ Gd h' ∧ ∀ b o, s.heap.get? b = some o → h'.get? b = some o)
      { s with heap := (s.heap.push (bareSet w)).push { cls := .type "list_iterator", data := .fields #[.ref l, .int 0 0] } })
    (q : ∀ h' tk, Gd h' → (∀ b o, s.heap.get? b = some o → h'.get? b = some o) → Q (.ref s.heap.objs.size) { s with heap := h', toks := tk }) : wpAny (model P w) A (call (.type "set") [.ref l]) Q E s := by
  obtain ⟨c, tl, hmro⟩ := F.called_set.mro
  have f1 := F.called_set.made
  have f2 := F.called_set.sub
  have f3 := F.called_set.notType
  have f4 := F.called_set.canCreate
  have f5 := F.typeCall_set_1 (.ref l)
  refine wpAny_call (codeAny_of_tree (?_ : wpAny _ _ (callAny (.type "set") _) _ _ _))
  refine wpAny_pure ⟨Code.quiet_builtin _ (by decide +kernel), codeAny_builtin F.entry_type_call ?_⟩
  rw [Around.under_plain (weight_type_call_type "set" [.ref l] []) rfl]
  repeat (any_goals (first | assumption | wp_step))
  refine codeAny_mono (code_set_led1 (.ref l) (E := E) (Q₁ := fun v z => v = .ref s.heap.objs.size ∧ z = { s with heap := s.heap.push (bareSet w) }) ⟨rfl, rfl⟩) fun r z hr => ?_
  match r, hr with
  | .error e, hr => exact hr
  | .ok .next, hr => exact hr.elim
  | .ok .brk, hr => exact hr.elim
  | .ok .cont, hr => exact hr.elim
  | .ok (.ret v), hr =>
    obtain ⟨rfl, rfl⟩ := hr
    have own : (s.heap.push (bareSet w)).get? s.heap.objs.size = some (bareSet w) := Heap.get?_push_size _ rfl
    have ty : Shared.TypeIs { s with heap := s.heap.push (bareSet w) } (.ref s.heap.objs.size) "set" := ⟨_, own, rfl⟩
    have f6 := F.called_set.init.lookup
    have f7 := F.called_set.init.bind (.ref s.heap.objs.size)
    repeat (any_goals (first | assumption | wp_step))
    refine codeAny_mono (codeAny_call_builtin (R := wants (fun v z => v = .none ∧ ∃ h' tk, z = { s with heap := h', toks := tk } ∧ Gd h' ∧ ∀ b o, s.heap.get? b = some o → h'.get? b = some o) E) F.called_set.init.plain F.entry_set_init (check_set_init_1 ty ?init)) fun r2 z2 hr2 => ?_
    case init =>
      obtain ⟨⟨cl, dc, dt, sl⟩, g, gc, n, gd⟩ := hl
      simp only at gc gd
      subst gc gd
      have g1 : (s.heap.push (bareSet w)).get? l = some ⟨.type "list", dc, .seq xs n, sl⟩ := Heap.get?_push_of_some _ g
      have li : (s.heap.push (bareSet w)).IsList l xs := ⟨_, g1, rfl, n, rfl⟩
      have k1 := F.sub_list_set
      have k2 := F.sub_list_frozenset
      have k3 : (Value.type "list" == Value.type "dict") = false := by decide
      unfold Builtin.«set.__init__» noKeywords Builtin.Frozenset.updateFrom
      generalize hi : pyIter = PI
      wp_walk
      subst hi
      refine wpAny_pyIter_list li (wpAny_bind (wpAny_runValue ?_))
      have lo := loop A.in1.in1 (by simp [hh])
      rw [Heap.size_push]
      refine codeAny_mono lo fun r3 z3 h3 => ?_
      obtain ⟨rfl, h', tk, rfl, gd, keep⟩ := h3
      exact wpAny_pure (wpAny_pure ⟨rfl, h', tk, rfl, gd, keep⟩)
    match r2, hr2 with
    | .error e, hr2 => exact hr2
    | .ok .next, hr2 => exact hr2.elim
    | .ok .brk, hr2 => exact hr2.elim
    | .ok .cont, hr2 => exact hr2.elim
    | .ok (.ret v), hr2 =>
      obtain ⟨rfl, h', tk, rfl, gd, keep⟩ := hr2
      repeat (any_goals (first | assumption | wp_step))
      exact q h' tk gd keep
/-- the loop over a list: J tells what the set at S is behind i items -/
theorem fill_list {S I l : Addr} {items : Array Value} (J : Nat → Heap → Prop) (calm : A.handled = none) (apart : S ≠ I ∧ S ≠ l ∧ l ≠ I) (stay : ∀ i h h', (∀ o, h.get? S = some o → h'.get? S = some o) → J i h → J i h')
    (add : ∀ i x (z : Shared) (Q : Bool → Shared → Prop) (X : Value → Shared → Prop), items[i]? = some x → J i z.heap → (∀ b h', Heap.SameBut S z.heap h' → J (i + 1) h' → Q b { z with heap := h', toks := z.toks + 1 }) → wpAny (model P w) A.in1 (setAdd S x) Q X z) :
    ∀ (n i : Nat) (z : Shared), n + i = items.size → z.heap.IsListIter I l i → z.heap.IsList l items → J i z.heap → codeAny (model P w) A (.builtin "set.update.loop" ⟨[.ref S, .ref I], []⟩)
      (fun r y => r = .ok (.ret .none) ∧ ∃ h' tk, y = { z with heap := h', toks := tk } ∧ J items.size h' ∧ ∀ b o, b ≠ S → b ≠ I → z.heap.get? b = some o → h'.get? b = some o) z := by
  intro n
  induction n with
  | zero =>
    intro i z en it li j
    obtain rfl : i = items.size := by omega
    exact codeAny_builtin F.entry_set_update_loop ((Around.under_plainId F.plain_set_update_loop _).symm ▸ wpAny_bind (wpAny_pyNext_list_end calm it li (Array.getElem?_eq_none (Nat.le_refl _)) fun h' ext => wpAny_pure ⟨rfl, h', z.toks, rfl, stay _ _ _ (fun o e => ext S o apart.1 e) j, fun b o _ bI e => ext b o bI e⟩))
  | succ n more =>
    intro i z en it li j
    have lt : i < items.size := by omega
    refine codeAny_builtin F.entry_set_update_loop ((Around.under_plainId F.plain_set_update_loop _).symm ▸ wpAny_bind (wpAny_pyNext_list_item it li (Array.getElem?_eq_getElem lt) fun h1 it1 sb1 => ?_))
    refine wpAny_bind (wpAny_holding (add i _ { z with heap := h1 } _ _ (Array.getElem?_eq_getElem lt) (stay _ _ _ (fun o e => (sb1.2 S apart.1).trans e) j) fun b h2 sb2 j2 => wpAny_pure ⟨plainId_quiet F.plain_set_update_loop _, ?_⟩))
    have li1 : h1.IsList l items := li.at fun o e => (sb1.2 l apart.2.2).trans e
    refine codeAny_mono (more (i + 1) { z with heap := h2, toks := z.toks + 1 } (by omega) (it1.at fun o e => (sb2.2 I (Ne.symm apart.1)).trans e) (li1.at fun o e => (sb2.2 l (Ne.symm apart.2.1)).trans e) j2) ?_
    rintro r y ⟨rfl, h', tk, rfl, jn, far⟩
    exact ⟨rfl, h', tk, rfl, jn, fun b o bS bI e => far b o bS bI ((sb2.2 b bS).trans ((sb1.2 b bI).trans e))⟩
end
end L2

/-! sets of texts, made of a list; sorted of them -/
namespace L2
open PySem PySem.Spec PyProof.Rows PySem.Froz
/-- the payload of a set of the texts l -/
structure TxS (P : Program) (w : World) (D : SD) (l : List Str) : Prop where
  ok : TxOk P w D l
  one : l.Nodup
  ris : Ris D.2.2.place.toList
  led : w.params.followText "set-order" = true ∨ D.2.2.led = true
section
variable {P : Program} {w : World} {A : Around} {E : Value → Shared → Prop} {s : Shared}
theorem add_tab (D : SD) (h : Int) (v : Value) (r : Ris D.2.2.place.toList) : Ris (addTx h v D).2.2.place.toList ∧ (addTx h v D).2.2.led = D.2.2.led := by
  obtain ⟨es, ep, t⟩ := D
  have a1 := layNew_ris t es h v r
  have a2 := layNew_led t es h v
  unfold addTx
  dsimp only
  generalize layNew t es h v = L at a1 a2
  obtain ⟨es1, t1, wd, gv⟩ := L
  dsimp only at a1 a2 ⊢
  have b1 : Ris (if t1.plain = true then { t1 with plain := false } else t1).place.toList := by split <;> exact a1
  have b2 : (if t1.plain = true then { t1 with plain := false } else t1).led = t.led := by split <;> exact a2
  generalize (if t1.plain = true then { t1 with plain := false } else t1) = t2 at b1 b2
  unfold tailTx
  split
  · exact ⟨relayAll_ris _ _ _, (relayAll_led _ _ _).trans b2⟩
  · exact ⟨b1, b2⟩
theorem TxS.more {D : SD} {l : List Str} (R : TxS P w D l) {k : Str} (u : Tok) (hk : k ∉ l) : TxS P w (addTx (hashStr w k) (.str k u) D) (k :: l) := by
  obtain ⟨a, b⟩ := add_tab D (hashStr w k) (.str k u) R.ris
  exact ⟨add_ok u R.ok, List.nodup_cons.mpr ⟨hk, R.one⟩, a, by rw [b]; exact R.led⟩
/-- adding a text that is there -/
theorem add_there {a : Addr} {D : SD} {l : List Str} {k : Str} {u : Tok} {Q : Bool → Shared → Prop} (ho : s.heap.get? a = some (sObj "set" D)) (F : TxOk P w D l) (hk : k ∈ l) (hb : l.length < scanBound) (q : Q false s) :
    wpAny (model P w) A (setAddHashed a (.str k u) (hashStr w k)) Q E s := by
  obtain ⟨es, ep, t⟩ := D
  have gd : (sObj "set" (es, ep, t)).data = .set es ep t := rfl
  have gf : t.fits es.size = true := F.fit
  have gel : ElemsOf (strKind P w) es.toList := F.el
  have gsz : es.size = l.length := F.sz
  have gk : (strKind P w).is k (.str k u) = true := is_str k u
  obtain ⟨j, hj⟩ : ∃ j, List.findIdx? (fun e => (strKind P w).is k e.2) es.toList = some j := by
    cases hr : List.findIdx? (fun e => (strKind P w).is k e.2) es.toList with
    | some j => exact ⟨j, rfl⟩
    | none =>
      obtain ⟨e, he, z⟩ := (F.mem k).mp hk
      have z' := List.findIdx?_eq_none_iff.mp hr e he
      rw [z] at z'
      exact nomatch z'
  unfold setAddHashed setAddHashedIn
  refine wpAny_holding (wpAny_bind (wpAny_setState_of ho gd gf ?_))
  dsimp only
  rw [byScan_of rfl (by omega) gel]
  simp only [↓reduceIte]
  unfold setAddByScan
  refine wpAny_bind (wpAny_bind (wpAny_rule ?_))
  refine wpAny_bind (wpAny_setScan_of (knd := strKind P w) (k := k) gk ho gd gf gel ?_)
  rw [hj]
  dsimp only
  exact wpAny_pure (wpAny_pure q)
/-- a text is put in, be it there or not -/
theorem add_text {S : Addr} {D : SD} {l : List Str} {x : Str} {u : Tok} {Q : Bool → Shared → Prop} (at_ : s.heap.get? S = some (sObj "set" D)) (T : TxS P w D l) (few : l.length + 1 < scanBound)
    (q : ∀ b h' D' l', Heap.SameBut S s.heap h' → h'.get? S = some (sObj "set" D') → TxS P w D' l' → l'.length ≤ l.length + 1 → (∀ z, z ∈ l' ↔ z = x ∨ z ∈ l) → Q b { s with heap := h', toks := s.toks + 1 }) :
    wpAny (model P w) A (setAdd S (.str x u)) Q E s := by
  refine wpAny_holding (wpAny_bind ((strKind P w).pyHash (is_str x u) ?_))
  by_cases there : x ∈ l
  · refine add_there (s := { s with toks := s.toks + 1 }) at_ T.ok there (by omega) (q _ s.heap D l (Heap.SameBut.refl S _) at_ T (by omega) fun z => ⟨.inr, ?_⟩)
    rintro (rfl | h)
    · exact there
    · exact h
  · exact add_x (s := { s with toks := s.toks + 1 }) at_ T.ok there few (q _ _ _ (x :: l) (Heap.SameBut.update ..) (get_upd _ at_ rfl) (T.more u there) (Nat.le_refl _) fun z => List.mem_cons)
/-- set(xs), xs a list of texts -/
theorem set_texts {l : Addr} {items : Array Value} (xs : List Str) {Q : Value → Shared → Prop} (hh : A.handled = none) (hl : s.heap.IsList l items) (hit : StrsAre items.toList xs) (few : xs.length < 64)
    (q : ∀ (h' : Heap) (tk : Nat) D ys, h'.get? s.heap.objs.size = some (sObj "set" D) → TxS P w D ys → ys.length ≤ xs.length → (∀ z, z ∈ ys ↔ z ∈ xs) → (∀ b o, s.heap.get? b = some o → h'.get? b = some o) → Q (.ref s.heap.objs.size) { s with heap := h', toks := tk }) :
    wpAny (model P w) A (call (.type "set") [.ref l]) Q E s := by
  have size : items.size = xs.length := by rw [← Array.length_toList]; exact hit.length
  have low : l < s.heap.objs.size := let ⟨_, g, _⟩ := hl; Heap.lt_size g
  have led : w.params.followText "set-order" = true ∨ (!w.params.followText "set-order") = true := by cases w.params.followText "set-order" <;> simp
  refine set_made (fun h' => ∃ D ys, h'.get? s.heap.objs.size = some (sObj "set" D) ∧ TxS P w D ys ∧ ys.length ≤ items.size ∧ ∀ z, z ∈ ys ↔ z ∈ xs.take items.size) hl hh (fun B hB => ?_) fun h' tk ⟨D, ys, g, T, le, mem⟩ keep => ?_
  · have top : ((s.heap.push (bareSet w)).push { cls := .type "list_iterator", data := .fields #[.ref l, .int 0 0] }).get? (s.heap.objs.size + 1) = some { cls := .type "list_iterator", data := .fields #[.ref l, .int 0 0] } := by
      rw [← Heap.size_push s.heap (bareSet w)]
      exact Heap.get?_push_size _ rfl
    refine codeAny_mono (fill_list (A := B) (fun i h => ∃ D ys, h.get? s.heap.objs.size = some (sObj "set" D) ∧ TxS P w D ys ∧ ys.length ≤ i ∧ ∀ z, z ∈ ys ↔ z ∈ xs.take i) hB ⟨Nat.ne_of_lt (Nat.lt_succ_self _), Nat.ne_of_gt low, Nat.ne_of_lt (Nat.lt_succ_of_lt low)⟩
      (fun i h h' k ⟨D, ys, g, r⟩ => ⟨D, ys, k _ g, r⟩) (fun i x z Q' X hx ⟨D, ys, g, T, le, mem⟩ k => ?_) items.size 0 _ rfl ⟨_, top, rfl, rfl⟩ ((hl.push _).push _) ?_) ?_
    · have lt : i < xs.length := by rw [← size]; exact (Array.getElem?_eq_some_iff.mp hx).1
      obtain ⟨t, e⟩ := SS.strs_at hit i x (by rw [Array.getElem?_toList]; exact hx)
      have e' : x = .str xs[i] t := by rw [e, List.getD_eq_getElem?_getD, List.getElem?_eq_getElem lt] <;> rfl
      rw [e']
      refine add_text g T (by unfold scanBound; omega) fun b h' D' l' sb g' T' le' mem' => k b h' sb ⟨D', l', g', T', by omega, fun z => ?_⟩
      rw [mem', mem, take_next (List.getElem?_eq_getElem lt), List.mem_append, List.mem_singleton, or_comm]
    · exact ⟨(#[], 0, .fresh 0 0 (!w.params.followText "set-order")), [], Heap.get?_push_of_some _ (Heap.get?_push_size _ rfl), ⟨TxOk.nil rfl, .nil, .nil, led⟩, Nat.le_refl _, fun z => by rw [List.take_zero]⟩
    · rintro r y ⟨rfl, h', tk, rfl, J, far⟩
      exact ⟨rfl, h', tk, rfl, J, fun b o e => far b o (Nat.ne_of_lt (Heap.lt_size e)) (Nat.ne_of_lt (Nat.lt_succ_of_lt (Heap.lt_size e))) (Heap.get?_push_of_some _ (Heap.get?_push_of_some _ e))⟩
  · refine q h' tk D ys g T (by rw [← size]; exact le) (fun z => ?_) keep
    rw [mem, size, List.take_length]
end
end L2

namespace L2
open PySem PySem.Spec PyProof.Rows PySem.Froz
/-- a set of the texts l -/
def TxO (P : Program) (w : World) (a : Addr) (l : List Str) : HO := .ext fun h => ∃ D, h.get? a = some (sObj "set" D) ∧ TxS P w D l
section
variable {X : Cx} {P : Program} {w : World} {A : Around} {E : Value → Shared → Prop} {s : Shared}
theorem txO_new {H : Hp} {h : Heap} {a : Addr} {l : List Str} {D : SD} (g : h.get? a = some (sObj "set" D)) (T : TxS P w D l) : ObjOk P w H h a (TxO P w a l) :=
  ⟨⟨D, g, T⟩, ⟨_, g⟩, fun h1 h2 ⟨D', g', T'⟩ k => ⟨D', k _ g', T'⟩⟩
/-- set(xs), xs a list of texts -/
def rSetTx (K : PySem.W.Frag) (P : Program) (w : World) : List V → Hp → VK → Prop := fun vs H Q => ∃ (p : Addr) (xs : List Str), vs = [.ref p] ∧ SqL K H p (xs.map V.str) ∧ xs.length < 64 ∧
  ∀ (a : Addr) (l : List Str), l.Nodup → (∀ z, z ∈ l ↔ z ∈ xs) → l.length ≤ xs.length → H a = none → Q (.ref a) (upd H a (TxO P w a l))
theorem cr_setTx (hc : X.calm = true) : CallR X (.type "set") (rSetTx X.K X.prog X.w) := by
  intro pins s σ H vs us Q I r h
  obtain ⟨p, xs, rfl, hs, few, q⟩ := h
  obtain ⟨its, rv, hl, _⟩ := I.list hs
  rw [Vals.ref1 r]
  refine set_texts xs (I.ok.hd hc) hl.isList (by simpa using rv.strs) few fun h' tk D ys g T hlen hm keep => ?_
  exact ⟨.ref _, upd H s.heap.objs.size (TxO X.prog X.w s.heap.objs.size ys), I.laid (t' := tk) (fun b u e => keep b u e) (Nat.le_refl _) (txO_new g T), rfl, q _ ys T.one hm hlen (I.hok.fresh (Nat.le_refl _))⟩
theorem texts_of {D : SD} {l : List Str} (T : TxOk P w D l) : ∃ ss, StrsAre (D.1.toList.map (·.2)) ss ∧ (∀ z, z ∈ ss ↔ z ∈ l) ∧ ss.length = l.length := by
  have key : ∀ es : List (Int × Value), ElemsOf (strKind P w) es → ∃ ss, StrsAre (es.map (·.2)) ss ∧ (∀ z, z ∈ ss ↔ ∃ e ∈ es, (strKind P w).is z e.2 = true) ∧ ss.length = es.length := by
    intro es
    induction es with
    | nil => exact fun _ => ⟨[], .nil, fun z => by simp, rfl⟩
    | cons e es more =>
      intro h
      obtain ⟨ss, h1, h2, h3⟩ := more h.tail
      obtain ⟨⟨k, hk, _⟩, _⟩ := h.head
      obtain ⟨t, et⟩ := Value.isStrOf_shape (x := k) (v := e.2) hk
      refine ⟨k :: ss, by rw [List.map_cons, et]; exact .cons k t h1, fun z => ?_, by rw [List.length_cons, List.length_cons, h3]⟩
      rw [List.mem_cons, h2 z]
      constructor
      · rintro (rfl | ⟨f, hf, q⟩)
        · exact ⟨e, List.mem_cons_self, hk⟩
        · exact ⟨f, .tail _ hf, q⟩
      · rintro ⟨f, hf, q⟩
        rcases List.mem_cons.mp hf with rfl | hf
        · exact .inl ((strKind P w).inj f.2 z k q hk)
        · exact .inr ⟨f, hf, q⟩
  obtain ⟨ss, h1, h2, h3⟩ := key D.1.toList T.el
  exact ⟨ss, h1, fun z => (h2 z).trans (T.mem z).symm, by rw [h3, Array.length_toList, T.sz]⟩
/-- as many different ones as there are: one order of the others -/
theorem perm_of_len {α : Type} [DecidableEq α] : ∀ {l m : List α}, l.Nodup → (∀ z, z ∈ l → z ∈ m) → m.length ≤ l.length → m.Perm l
  | [], [], _, _, _ => .nil
  | [], _ :: _, _, _, h => absurd h (by simp)
  | x :: l, m, hn, hs, hle => by
    have hx := hs x List.mem_cons_self
    obtain ⟨n1, n2⟩ := List.nodup_cons.mp hn
    have hm := List.perm_cons_erase hx
    have hlen := hm.length_eq
    rw [List.length_cons] at hlen hle
    refine hm.trans (.cons x (perm_of_len n2 (fun z hz => ?_) (by omega)))
    have hne : z ≠ x := fun e => n1 (e ▸ hz)
    exact (List.mem_erase_of_ne hne).mpr (hs z (.tail _ hz))
/-- sorted(s), s a set of texts -/
def rSortTx (P : Program) (w : World) : List V → Hp → VK → Prop := fun vs H Q => ∃ (a : Addr) (l : List Str), vs = [.ref a] ∧ H a = some (TxO P w a l) ∧ l.length < 64 ∧
  ∀ (ys : List Str) (p : Addr), ys.Perm l → sortedS ys = true → H p = none → Q (.ref p) (upd H p (.lst (ys.map V.str)))
theorem cr_sortTx (hc : X.calm = true) : CallR X (.builtin "sorted") (rSortTx X.prog X.w) := by
  intro pins s σ H vs us Q I r h
  obtain ⟨a, l, rfl, ha, few, q⟩ := h
  obtain ⟨D, g, T⟩ : ∃ D, s.heap.get? a = some (sObj "set" D) ∧ TxS X.prog X.w D l := (I.hok a _ ha).1
  rw [Vals.ref1 r]
  obtain ⟨es, ep, t⟩ := D
  have sz : es.size = l.length := T.ok.sz
  obtain ⟨ss, s1, s2, s3⟩ := texts_of T.ok
  refine Calls.call_function_entry kind_sorted plain_sorted entry_sorted (args_sorted1 _) ?_
  unfold Builtin.«sorted»
  refine wpAny_bind (m := checkCount "sorted" 1 1 _) (wpAny_pure ?_)
  refine wpAny_bind (collect_set (A := X.A.in1) (I.ok.hd hc) ⟨_, g, rfl, rfl⟩ T.ok.fit (by show es.size < 4096; omega) T.ris T.led fun z vs keep hz g1 o1 pm => ?_)
  have vlen : vs.length = l.length := by rw [pm.length_eq, List.length_map, Array.length_toList, sz]
  obtain ⟨ss', p1, p2⟩ : ∃ ss', StrsAre vs ss' ∧ ss'.Perm ss := by
    refine ⟨vs.map strOf, strsAre_map vs fun v hv => s1.all _ (pm.mem_iff.mp hv), ?_⟩
    have e := pm.map strOf
    rwa [s1.strs] at e
  have pl : ss.Perm l := perm_of_len T.one (fun z hz => (s2 z).mpr hz) (Nat.le_of_eq s3)
  refine wpAny_bind (wpAny_newList ?_ (by rw [vlen, sizeLine_eq]; omega))
  have hoL : (z.heap.push (seqObj "list" vs.toArray 0)).get? z.heap.objs.size = some (seqObj "list" vs.toArray 0) := Heap.get?_push_size _ rfl
  refine wpAny_bind (wpAny_holding (wpAny_call_entry slot_list_sort ⟨_, hoL, rfl⟩ entry_list_sort (list_sort_treeKAny strKind_oneLt hoL p1.keysOf (fun v₁ v₂ rest e => keyKind_strs (by rw [← e]; exact p1)) (by rw [vlen, sizeLine_eq]; omega) fun st' a1 a2 => ⟨_, rfl, ?_⟩) (args_list_sort _)))
  obtain ⟨ys, b1, b2, b3⟩ := sorted_out_str p1 a1 a2
  obtain ⟨c, hcn⟩ := sortedHeap_at (vs := vs) (out := (arrOf st').map (·.2)) hoL
  refine wpAny_pure ⟨_, rfl, ?_⟩
  generalize (arrOf st').map (·.2) = out at b1 hcn ⊢
  have perm : ys.Perm l := b2.trans (p2.trans pl)
  have hlen : (ys.map V.str).length ≤ sizeLine := by rw [List.length_map, perm.length_eq, sizeLine_eq]; omega
  have hn : H z.heap.objs.size = none := I.hok.fresh hz
  have keep2 : ∀ b u, s.heap.get? b = some u → (sortedHeap (z.heap.push (seqObj "list" vs.toArray 0)) z.heap.objs.size vs out).get? b = some u := fun b u e => by
    have k := keep b u e
    have hlt := Heap.lt_size k
    rw [sortedHeap_old (Nat.ne_of_lt hlt) (by rw [size_push']; exact Nat.lt_succ_of_lt hlt)]
    exact Heap.get?_push_of_some _ k
  obtain ⟨zh, zg, zd, zt, zo⟩ := z
  dsimp only at *
  subst g1 o1
  refine ⟨.ref zh.objs.size, upd H zh.objs.size (.lst (ys.map V.str)), ?_, rfl, q ys _ perm b3 hn⟩
  exact I.call (ch := []) (d' := zd) (t' := zt) (Un.laid keep2 hz hn) (I.hok.laid (o := .lst (ys.map V.str)) keep2 hz ⟨hlen, out.toList, c, vals_of_strs b1, hcn⟩) I.bare (fun _ z => nomatch z)
end
end L2

/-! sorted(xs), xs a list of pairs of a text and an int -/
namespace L2
open PySem PySem.Spec PyProof.Rows
def txLt (x y : Str) : Bool := decide (x.cps.toList < y.cps.toList)
theorem tx_irr (x : Str) : txLt x x = false := PyProof.Rows.strKind.irrefl x.cps.toList
theorem tx_tr {x y z : Str} (h1 : txLt x y = true) (h2 : txLt y z = true) : txLt x z = true := PyProof.Rows.strKind.trans x.cps.toList y.cps.toList z.cps.toList h1 h2
theorem str_ext {x y : Str} (h : x.cps.toList = y.cps.toList) : x = y := by
  cases x; cases y
  congr 1
  exact Array.toList_inj.mp h
theorem tx_tot {x y : Str} (h1 : txLt x y = false) (h2 : txLt y x = false) : x = y := str_ext (PyProof.Rows.strKind.total x.cps.toList y.cps.toList h1 h2)
theorem tx_as {x y : Str} (h : txLt x y = true) : txLt y x = false := by
  cases e : txLt y x
  · rfl
  · have z := tx_tr h e
    rw [tx_irr] at z
    exact nomatch z
/-- x before y: by the text, then by the number -/
def pLt (p q : Str × Int) : Bool := if p.1 = q.1 then decide (p.2 < q.2) else txLt p.1 q.1
theorem pLt_iff {p q : Str × Int} : pLt p q = true ↔ txLt p.1 q.1 = true ∨ (p.1 = q.1 ∧ p.2 < q.2) := by
  unfold pLt
  by_cases e : p.1 = q.1
  · rw [if_pos e, decide_eq_true_eq, e, tx_irr]
    simp
  · rw [if_neg e]
    simp [e]
theorem pLt_as {p q : Str × Int} (h : pLt p q = true) : pLt q p = false := by
  cases e : pLt q p
  · rfl
  · rcases pLt_iff.mp h with a | ⟨a, b⟩ <;> rcases pLt_iff.mp e with c | ⟨c, d⟩
    · rw [tx_as a] at c; exact nomatch c
    · rw [c, tx_irr] at a; exact nomatch a
    · rw [a, tx_irr] at c; exact nomatch c
    · omega
theorem pLt_no {p q : Str × Int} (h : pLt p q = false) : txLt q.1 p.1 = true ∨ (q.1 = p.1 ∧ q.2 ≤ p.2) := by
  unfold pLt at h
  by_cases e : p.1 = q.1
  · rw [if_pos e] at h
    exact .inr ⟨e.symm, Int.not_lt.mp (of_decide_eq_false h)⟩
  · rw [if_neg e] at h
    cases c : txLt q.1 p.1
    · exact absurd (tx_tot h c) e
    · exact .inl rfl
theorem pLt_ge {p q : Str × Int} (h : txLt q.1 p.1 = true ∨ (q.1 = p.1 ∧ q.2 ≤ p.2)) : pLt p q = false := by
  cases e : pLt p q
  · rfl
  · rcases pLt_iff.mp e with a | ⟨a, b⟩ <;> rcases h with c | ⟨c, d⟩
    · rw [tx_as a] at c; exact nomatch c
    · rw [c, tx_irr] at a; exact nomatch a
    · rw [a, tx_irr] at c; exact nomatch c
    · omega
theorem pLt_swo {α : Type} (k : α → Str × Int) : SrtO.Swo fun x y => pLt (k x) (k y) := by
  refine ⟨fun x y h => pLt_as h, fun x y z h1 h2 => pLt_ge ?_⟩
  rcases pLt_no h1 with a | ⟨a, b⟩ <;> rcases pLt_no h2 with c | ⟨c, d⟩
  · exact .inl (tx_tr a c)
  · exact .inl (by rw [← c]; exact a)
  · exact .inl (by rw [a]; exact c)
  · exact .inr ⟨a.trans c, Int.le_trans b d⟩
def PairTI (h : Heap) (v : Value) (x : Str) (y : Int) : Prop := ∃ a o t u n, v = .ref a ∧ h.get? a = some o ∧ o.cls = .type "tuple" ∧ o.data = .seq #[.str x t, .int y u] n
section
variable {prog : Program} {w : World} {A : Around} {E : Value → Shared → Prop} {s : Shared}
theorem pairTI_firsts {h : Heap} : ∀ {vs : List Value}, (∀ v ∈ vs, ∃ x y, PairTI h v x y) → ∃ fs : List Value, PySem.W.KatTups h vs fs ∧ fs.length = vs.length ∧ ∀ f ∈ fs, ∃ x t, f = Value.str x t
  | [], _ => ⟨[], .nil, rfl, fun _ hm => nomatch hm⟩
  | v :: vs, hp => by
    obtain ⟨fs, h1, h2, h3⟩ := pairTI_firsts (vs := vs) fun v' hm => hp v' (.tail _ hm)
    obtain ⟨x, y, a, o, t, u, n, e, ho, hc, hd⟩ := hp v List.mem_cons_self
    subst e
    exact ⟨.str x t :: fs, PySem.W.KatTups.cons ho hc hd rfl h1, congrArg (· + 1) h2, fun f hm => (List.mem_cons.mp hm).elim (fun z => ⟨x, t, z⟩) (h3 f)⟩
theorem pairTI_cmp {vs : List Value} {k : Value → Str × Int} (hp : ∀ v ∈ vs, PairTI s.heap v (k v).1 (k v).2) : SrtO.Cmp prog w A s (tuples' true) (fun p => p.1 ∈ vs) (SrtO.lt2 fun v u => pLt (k v) (k u)) := by
  rintro ⟨v, v0⟩ ⟨v', v0'⟩ m m'
  have goal : ∀ (P1 P2 : Str × Int), PairTI s.heap v P1.1 P1.2 → PairTI s.heap v' P2.1 P2.2 → wpAny (model prog w) A (keyLt' (tuples' true) v v') (fun r s' => s' = s ∧ r = pLt P1 P2) (fun _ _ => False) s := by
    rintro ⟨x, y⟩ ⟨x', y'⟩ ⟨a, o, t, u, n, rfl, ho, -, hd⟩ ⟨a', o', t', u', n', rfl, ho', -, hd'⟩
    refine PySem.W.kat_lt ho hd ho' hd' (PySem.W.kat_cons (SeqAt.EqAt.str_str x t x' t' prog w _ _ (PySem.W.kat_go (fun same => ?_) fun less => ?_)))
    · obtain rfl : x = x' := by simpa using same
      refine PySem.W.kat_yes (PySem.W.kat_cons (SeqAt.EqAt.int_int y u y' u' prog w _ _ (PySem.W.kat_go (fun same2 => ?_) fun _ => PySem.W.kat_no (PySem.W.kat_one _ _ (PyProof.Rows.lt_int ⟨rfl, (if_pos rfl).symm⟩)))))
      obtain rfl : y = y' := by simpa using same2
      refine PySem.W.kat_yes (PySem.W.kat_nil ⟨rfl, ?_⟩)
      rw [pLt, if_pos rfl, decide_eq_false (Int.lt_irrefl y)]
      rfl
    · have diff : ¬ x = x' := by simpa using less
      exact PySem.W.kat_no (PyProof.Rows.strKind_oneLt _ _ _ _ _ _ _ x.cps.toList x'.cps.toList rfl rfl ⟨rfl, (if_neg diff).symm⟩)
  exact goal (k v) (k v') (hp v m) (hp v' m')
theorem pairTI_sortable {a : Addr} {vs : List Value} {k : Value → Str × Int} (h0 : 0 < vs.length) (hp : ∀ v ∈ vs, PairTI s.heap v (k v).1 (k v).2) (ha : ∀ o, s.heap.get? a = some o → o.cls ≠ .type "tuple") : SrtO.SortableO prog w A s a vs fun v u => pLt (k v) (k u) := by
  intro h' keep
  have hp' : ∀ v ∈ vs, PairTI h' v (k v).1 (k v).2 := fun v hm => by
    obtain ⟨b, o, t, u, n, e, ho, hc, hd⟩ := hp v hm
    exact ⟨b, o, t, u, n, e, keep b o (fun z => by subst z; exact ha o ho hc) ho, hc, hd⟩
  obtain ⟨fs, h1, h2, h3⟩ := pairTI_firsts fun v hm => ⟨_, _, hp' v hm⟩
  refine ⟨tuples' true, fun Q E hq => ?_, pairTI_cmp hp'⟩
  refine PySem.W.kat_kind (T := .type "str") h1 (by omega) (fun f hm => ?_) (by rfl) ?_
  · obtain ⟨x, t, rfl⟩ := h3 f hm
    exact PySem.W.Looks.now
  · rw [show (Value.type "str" != Value.type "tuple") = true by first | decide +kernel | rfl | decide]
    exact hq
end
def rSortTI (K : PySem.W.Frag) : List V → Hp → VK → Prop := fun vs H Q => ∃ (a : Addr) (xs : List V) (k : V → Str × Int), vs = [V.ref a] ∧ SqL K H a xs ∧ (∀ x ∈ xs, ∃ t, x = V.ref t ∧ H t = some (.tup [.str (k x).1, .int (k x).2])) ∧
  ∀ ys p, ys.Pairwise (fun x y => pLt (k y) (k x) = false) → ys.Perm xs → H p = none → Q (.ref p) (upd H p (.lst ys))
section
variable {X : Cx}
theorem cr_sortTI : CallR X (.builtin "sorted") (rSortTI X.K) := by
  intro pins s σ H vs us Q I r h
  obtain ⟨a, xs, k, rfl, hs, hx, q⟩ := h
  obtain ⟨its, rv, hl, hz⟩ := I.list hs
  rw [Vals.ref1 r]
  obtain ⟨e1, e2⟩ := refs_back rv fun x m => by
    obtain ⟨t, e, _⟩ := hx x m
    exact ⟨t, e⟩
  have hp : ∀ v ∈ its, PairTI s.heap v (k (backV v)).1 (k (backV v)).2 := fun v hv => by
    obtain ⟨t, rfl⟩ := e2 v hv
    obtain ⟨t', e, ht⟩ := hx (.ref t) (by rw [e1]; exact List.mem_map.mpr ⟨_, hv, rfl⟩)
    cases e
    obtain ⟨_, its2, r2, o, ho, hc, n, hd⟩ := I.hok _ _ ht
    obtain ⟨u1, u2, rfl, ri, rj⟩ := vals2 r2
    obtain ⟨t1, rfl⟩ := ri
    obtain ⟨t2, rfl⟩ := rj
    exact ⟨t, o, t1, t2, n, rfl, ho, hc, hd⟩
  refine SrtO.sorted_ord (pLt_swo fun u => k (backV u)) hl.isList (by rw [← rv.length]; exact hz) (fun h2 h₁ a ha kk => ?_) fun out h1 h2 => ?_
  · refine pairTI_sortable (k := fun u => k (backV u)) (s := { s with heap := h₁ }) (by omega) (fun v hm => ?_) fun o e => ?_
    · obtain ⟨b, o, t, u, n, e, ho, hc, hd⟩ := hp v hm
      exact ⟨b, o, t, u, n, e, (kk b o ho).2, hc, hd⟩
    · cases (e.symm.trans ha : some o = some (seqObj "list" its.toArray 0))
      exact fun c => absurd (Value.type.inj c) (by decide)
  · have same : (out.map backV).Perm xs := e1 ▸ h2.perm.map backV
    have ⟨n, hn⟩ := sortedAll_at s.heap its out.toArray
    exact ⟨.ref _, upd H _ (.lst (out.map backV)), I.laid (t' := s.toks) (fun _ _ e => sortedAll_old e) (Nat.le_succ _) ⟨same.length_eq ▸ hz, out, n, vals_back fun u hu => e2 u (h2.perm.mem_iff.mp hu), hn⟩, rfl, q _ _ (List.pairwise_map.mpr h1) same (I.hok.fresh (Nat.le_succ _))⟩
end
end L2

/-! {k: v for x in xs} of any keys that a dict can have: ints and texts, or tuples of them -/
namespace L2
open PySem PySem.Spec PyProof.Rows
/-- an entry put in, as a display or a comprehension does it -/
theorem dput_any {X : Cx} {pins : List (Addr × Obj)} {σ : St} {H H' : Hp} {s : Shared} {A : Around} {E : Value → Shared → Prop} {D : Addr} {y v : V} {u r : Value} {Q : Unit → Shared → Prop} (hu : A.units + 1 < cLine) (I : Inv X pins σ H s) (g : DPut H D y v H') (ry : RelV y u) (rv : RelV v r)
    (q : ∀ z, Inv X pins σ H' z → Q () z) : wpAny (model X.prog X.w) A (dictSet D u r) Q E s := by
  rcases g with ⟨kvs, k, e, rfl, l, rfl⟩ | ⟨kvs, k, b, e, rfl, eb, l, rfl⟩
  · obtain ⟨z, hd, vs, rel, dd⟩ := dk_of I.hok e
    have sml : (putK kvs k v).length ≤ sizeLine := Nat.le_trans (length_putK kvs k v) l
    refine wpAny_dictSet_pairs (hsz := by rw [← rel.length]; exact z) (kV_is ry) dd fun h' dd' hs => q _ ?_
    exact d_write I (by rw [e]; exact True.intro) hs (let ⟨q, _, _, hq, _⟩ := dd'; ⟨q, hq⟩) (dk_new sml hd (rel.put k rv) dd')
  · cases (show u = Value.ref b from ry)
    obtain ⟨z, hd, xs, rel, dd⟩ := dt_of I.hok e
    have sml : (putK kvs k v).length ≤ sizeLine := Nat.le_trans (length_putK kvs k v) l
    refine wpAny_dictSet_heap (hsz := by rw [← Paired.length rel]; exact z) (show A.units < cLine by omega) (key_of I.hok eb) dd fun h' dd' hs => q _ ?_
    obtain ⟨o, es, ep, hq, h2, h3, h4, _, h5⟩ := dd'
    refine d_write I (by rw [e]; exact True.intro) hs ⟨o, hq⟩ ⟨sml, hd, _, (rel.put k eb rv).keeps fun c ys ec => ?_, o, es, ep, hq, h2, h3, h4, h5⟩
    rw [upd_ne (ne_of ec e (fun z => nomatch z))]
    exact ec
/-- the dict that is begun with -/
inductive Bare : HO → Prop
  | k : Bare (.dK [])
  | t : Bare (.dT [])
theorem bare_ok {P : Program} {w : World} {H : Hp} {o : HO} (b : Bare o) (h : Heap) (hb : sysModules < h.objs.size) : ObjOk P w H (h.push { cls := .type "dict", data := .dict #[] }) h.objs.size o := by
  cases b
  · exact dk_empty h hb
  · exact dt_empty h hb
section
variable {X : Cx}
def tDcG (o : HO) (wi : TI) (g : TG) (tt : TT) (tk tv : TE) (vs : List Nat) : TE := fun σ H Q => wi σ H fun J H1 => ∀ D, H1 D = none → ∃ W : Nat → Nat → Hp → Prop, (∃ m, W 0 m (upd H1 D o)) ∧ ∀ i m H, W i m H →
  (J.stop i H ∧ Q (.ref D) H) ∨ (J.go i H ∧ ∃ Nx : Hp → Prop, (∀ H', Nx H' → ∃ m', m' < m ∧ W (i + 1) m' H') ∧ ∀ x H', J.yld i H x H' → g x (wipe σ vs) H' fun σ2 H2 => wipe σ2 vs = wipe σ vs ∧ tt σ2 H2 fun b H3 =>
    if b = true then tk σ2 H3 fun y H4 => tv σ2 H4 fun z H5 => ∃ H6, DPut H5 D y z H6 ∧ Nx H6 else Nx H3)
abbrev InBlk (X : Cx) (scope : Scope) (T : Cx → Prop) : Prop := ∀ (s : Shared) (H : Hp) (C : Addr) (cl : List (Str × Addr)) (fp : List Addr), T (X.blk s H scope (compEnvC scope cl C X.env) fp)
theorem pe_dcG {o : HO} {kx vx tg iter : Expr} {ifs : List Expr} {scope : Scope} {own : List (Str × Nat)} {pos : Pos} {wi : TI} {g : TG} {tt : TT} {tk tv : TE} (bo : Bare o) (hu : X.A.units + 1 < cLine) (hc : X.calm = true) (hN : X.N.Nodup) (hi : PI X tg iter wi) (ok : BlkOk X.N X.env.scope scope own)
    (hg : InBlk X scope fun B => PG B tg g) (ht : InBlk X scope fun B => PTs B ifs tt) (hk : InBlk X scope fun B => PE B kx tk) (he : InBlk X scope fun B => PE B vx tv) (hs : ∀ x, foldedSetIterable iter X.env x = pure x := by intro _; rfl) :
    PE X (.DictComp kx vx [⟨tg, iter, ifs, 0⟩] scope pos) (tDcG o wi g tt tk tv (own.map (·.2))) := by
  refine ⟨fun pins s σ H Q I h => ?_⟩
  rw [arm_eval_DictComp]
  have frees : ∀ y ∈ scope.names, y.2 = .free → ∃ c, X.env.cells.lookup y.1 = some c := fun y hy e => (ok.free y hy e).elim (fun k => I.ok.has _ (.inl k)) fun k => I.ok.has _ (.inr k)
  refine wpAny_comprehension_free (use := none) rfl hs (closure_ok frees) ok.kind (fun y hy e => by rw [ok.uniq y hy, e]) (thn (hi.run pins s σ H _ I h) fun xv s1 hx => thn hx fun itv s2 h2 => ?_)
  obtain ⟨it, fp, tn, J, H2, rfl, I2, T, st2, f2, q⟩ := h2
  refine wpAny_newObj_type (newEnv_comp ?_)
  generalize hD : s2.heap.objs.size = D
  have new : H2 D = none := I2.hok.fresh (Nat.le_of_eq hD)
  obtain ⟨W, ⟨m0, w0⟩, turn⟩ := q D new
  generalize es3 : ({ s2 with heap := s2.heap.push { cls := .type "dict", data := .dict #[] } } : Shared) = s3
  have h3 : s3.heap = s2.heap.push { cls := .type "dict", data := .dict #[] } := by rw [← es3]
  have I3 : Inv X pins σ (upd H2 D o) s3 := by
    rw [← es3]
    refine I2.laid (t' := s2.toks) (fun b u e => Heap.get?_push_of_some _ e) (Nat.le_of_eq hD) ?_
    rw [← hD]
    exact bare_ok bo s2.heap I2.big
  have low : ∀ b ∈ fp, b < s2.heap.objs.size := fun b hb => by
    obtain ⟨u, e, _⟩ := T.obj _ _ st2 b hb
    exact Heap.lt_size e
  have f3 : ∀ b ∈ fp, FpOk X pins (upd H2 D o) b ∧ b < s3.heap.objs.size := fun b hb => by
    refine ⟨⟨?_, (f2 b hb).2⟩, by rw [h3, Heap.size_push]; exact Nat.lt_succ_of_lt (low b hb)⟩
    rw [upd_ne (by rw [← hD]; exact Nat.ne_of_lt (low b hb))]
    exact (f2 b hb).1
  have st3 : tn 0 s3.heap := T.keep _ _ _ st2 fun b _ u e => by rw [h3]; exact Heap.get?_push_of_some _ e
  have I4 := block_start I3 ok hN f3
  have pg := hg s3 (upd H2 D o) s3.heap.objs.size (cellsFrom (s3.heap.objs.size + 1) scope.names (cloFrom X.env.cells scope.names [])) fp
  have pt := ht s3 (upd H2 D o) s3.heap.objs.size (cellsFrom (s3.heap.objs.size + 1) scope.names (cloFrom X.env.cells scope.names [])) fp
  have pk := hk s3 (upd H2 D o) s3.heap.objs.size (cellsFrom (s3.heap.objs.size + 1) scope.names (cloFrom X.env.cells scope.names [])) fp
  have pe := he s3 (upd H2 D o) s3.heap.objs.size (cellsFrom (s3.heap.objs.size + 1) scope.names (cloFrom X.env.cells scope.names [])) fp
  have nfp : ∀ b ∈ fp, (upd H2 D o) b = none := fun b hb => (f3 b hb).1.1
  show codeAny _ _ (.compStart (.DictComp kx vx [⟨tg, iter, ifs, 0⟩] scope pos) 0 (.ref it) (.ref D) (compEnvC scope (cellsFrom (s3.heap.objs.size + 1) scope.names (cloFrom X.env.cells scope.names [])) s3.heap.objs.size X.env)) (compPost (model X.prog X.w) X.A X.xe none _ (.ref D) s3.heap.objs.size) { s3 with heap := pushCells (s3.heap.push { cls := .type "dict", data := .dict #[] }) scope.names }
  generalize ece : compEnvC scope (cellsFrom (s3.heap.objs.size + 1) scope.names (cloFrom X.env.cells scope.names [])) s3.heap.objs.size X.env = ce at I4 pg pt pk pe ⊢
  have loc : ce.locals = s3.heap.objs.size := by subst ece; rfl
  generalize upd H2 D o = H3 at I3 I4 pg pt pk pe w0 nfp f3
  generalize es4 : ({ s3 with heap := pushCells (s3.heap.push { cls := .type "dict", data := .dict #[] }) scope.names } : Shared) = s4 at I4 ⊢
  have st4 : tn 0 s4.heap := T.keep _ _ _ st3 fun b _ u e => by rw [← es4]; exact pushCells_keeps _ _ _ _ (Heap.get?_push_of_some _ e)
  have quiet : ∀ {σ' : St} {H' : Hp} {z : Shared}, Inv (X.blk s3 H3 scope ce fp) [] σ' H' z → (∀ b ∈ fp, H' b = none) → ∀ b ∈ fp, FpOk (X.blk s3 H3 scope ce fp) [] H' b := fun {σ' H' z} I' hn b hb =>
    ⟨hn b hb, (I'.ok.exf b hb).1, I'.ok.exfs b hb, .inl hb, fun x c e => (I'.ok.exf b hb).2 x c e, fun p hp => absurd (show p ∈ ([] : List (Addr × Obj)) ++ [] from hp) (by simp)⟩
  have loop : codeAny (model X.prog X.w) X.A (.compLoop (.DictComp kx vx [⟨tg, iter, ifs, 0⟩] scope pos) 0 (.ref it) (.ref D) ce) (compPost (model X.prog X.w) X.A X.xe none (EP X pins σ Q) (.ref D) s3.heap.objs.size) s4 := by
    refine compLoop_anyD (fun n z => ∃ i H', Inv (X.blk s3 H3 scope ce fp) [] (wipe σ (own.map (·.2))) H' z ∧ tn i z.heap ∧ (∀ b ∈ fp, H' b = none) ∧ W i n H') ?_ m0 ⟨0, H3, I4, st4, nfp, w0⟩
    rintro n s5 ⟨i, H5, I5, st5, n5, w5⟩
    rcases turn i n H5 w5 with ⟨stop, qq⟩ | ⟨go, Nx, hNx, step⟩
    · refine thnF (T.done (X.blk s3 H3 scope ce fp) rfl rfl rfl hc i [] s5 _ H5 (fun _ _ => False) I5 (quiet I5 n5) st5 stop) fun r s6 ⟨hr, I6⟩ => ?_
      subst hr
      have I7 : Inv X pins σ H5 s6 := I3.call' (ch := fp) I6.os I6.base I6.hok I6.bare fun b hb => ⟨(f3 b hb).1.2.2.2.1, (f3 b hb).1.2.1, (f3 b hb).1.2.2.2.2.1, (f3 b hb).1.2.2.2.2.2⟩
      have nC : H5 s3.heap.objs.size = none := by
        have z : H5 ce.locals = none := I6.free
        rwa [loc] at z
      obtain ⟨m, hn, _⟩ := I6.loc
      have hn : s6.heap.Ns ce.locals m := hn
      rw [loc] at hn
      refine ⟨m, hn, fun h'' sb => ?_⟩
      obtain ⟨f0, f1, f2, f3, f4, f5⟩ := I3.fpOk (Nat.le_refl _) nC
      exact ⟨.ref D, H5, I7.turned (t' := s6.toks) (fun b u hb e => (sb.2 b hb).trans e) f0 f1 f3 f4 f5, rfl, qq⟩
    · refine thnF (T.item (X.blk s3 H3 scope ce fp) rfl rfl rfl hc i [] s5 _ H5 (fun _ _ => False) I5 (quiet I5 n5) st5 go) fun r s6 ⟨u, hr, h6⟩ => ?_
      subst hr
      refine thnF h6 fun _ s7 ⟨x, H7, I7, r7, y7, st7, n7⟩ => ?_
      refine thnF (pg.run _ s7 _ H7 x u _ (I7.pinned (quiet I7 n7) (T.obj _ _ st7)) r7 (step x H7 y7)) fun _ s8 ⟨σ8, H8, I8, hw8, q8⟩ => ?_
      refine thnF (pt.run _ s8 σ8 H8 _ I8 q8) fun b s9 ⟨H9, I9, q9⟩ => ?_
      have fin : ∀ {z : Shared} {H' : Hp}, Inv (X.blk s3 H3 scope ce fp) ([] ++ pinsAt fp s7.heap) σ8 H' z → Nx H' → ∃ m, m < n ∧ ∃ i H', Inv (X.blk s3 H3 scope ce fp) [] (wipe σ (own.map (·.2))) H' z ∧ tn i z.heap ∧ (∀ b ∈ fp, H' b = none) ∧ W i m H' := fun {z H'} I' nx => by
        obtain ⟨m', hm, w'⟩ := hNx H' nx
        have pin' : ∀ b ∈ fp, ∀ u, s7.heap.get? b = some u → z.heap.get? b = some u ∧ H' b = none := fun b hb u e =>
          let k := I'.pin (b, u) (List.mem_append_right _ (List.mem_append_right _ (mem_pinsAt hb e)))
          ⟨k.1, k.2.1⟩
        refine ⟨m', hm, i + 1, H', (I'.unpinned (pins := [])).weak (by rw [← hw8, wipe_length]) (fun j v e => ?_), T.keep _ _ _ st7 fun b hb u e => (pin' b hb u e).1, fun b hb => ?_, w'⟩
        · rw [← hw8] at e
          exact (wipe_some e).1
        · obtain ⟨u, e, _⟩ := T.obj _ _ st7 b hb
          exact (pin' b hb u e).2
      cases b with
      | false =>
        simp only [Bool.false_eq_true, if_false] at q9 ⊢
        exact fin I9 q9
      | true =>
        simp only [if_true] at q9 ⊢
        refine thnF (pk.run _ s9 σ8 H9 _ I9 q9) fun z s10 ⟨yk, H10, I10, r10, q10⟩ => ?_
        refine thnF (pe.run _ s10 σ8 H10 _ I10 q10) fun z2 s11 ⟨yv, H11, I11, r11, H12, put, nx⟩ => ?_
        exact dput_any (X := X.blk s3 H3 scope ce fp) hu I11 put r10 r11 fun s12 I12 => fin I12 nx
  exact codeAny_compStart_dict loop (T.self X.A 0 _ _ _ st4 loop)
/-- the turns, by an invariant -/
theorem dcG_it {J : It} {n : Nat} {G : Hp → Prop} {Y : Nat → Hp → V → Hp → Prop} (w : Walk J n G Y) {o : HO} {g : TG} {tt : TT} {tk tv : TE} {vs : List Nat} {σ : St} {H1 : Hp} {D : Addr} {Qd : Hp → Prop} (Pv : Nat → Hp → Prop) (h0 : Pv 0 (upd H1 D o)) (hG : ∀ i H, i ≤ n → Pv i H → G H)
    (hs : ∀ i x H H', i < n → Pv i H → Y i H x H' → g x (wipe σ vs) H' fun σ2 H2 => wipe σ2 vs = wipe σ vs ∧ tt σ2 H2 fun b H3 =>
      if b = true then tk σ2 H3 fun y H4 => tv σ2 H4 fun z H5 => ∃ H6, DPut H5 D y z H6 ∧ Pv (i + 1) H6 else Pv (i + 1) H3) (hd : ∀ H, Pv n H → Qd H) :
    ∃ W : Nat → Nat → Hp → Prop, (∃ m, W 0 m (upd H1 D o)) ∧ ∀ i m H, W i m H →
      (J.stop i H ∧ Qd H) ∨ (J.go i H ∧ ∃ Nx : Hp → Prop, (∀ H', Nx H' → ∃ m', m' < m ∧ W (i + 1) m' H') ∧ ∀ x H', J.yld i H x H' → g x (wipe σ vs) H' fun σ2 H2 => wipe σ2 vs = wipe σ vs ∧ tt σ2 H2 fun b H3 =>
        if b = true then tk σ2 H3 fun y H4 => tv σ2 H4 fun z H5 => ∃ H6, DPut H5 D y z H6 ∧ Nx H6 else Nx H3) := by
  refine ⟨fun i m H => m = n - i ∧ i ≤ n ∧ Pv i H, ⟨n, by simp, Nat.zero_le _, h0⟩, ?_⟩
  rintro i m H ⟨rfl, hi, p⟩
  have q := hG i H hi p
  rcases Nat.lt_or_ge i n with hlt | hge
  · exact .inr ⟨w.goes i H hlt q, Pv (i + 1), fun H' p' => ⟨n - (i + 1), by omega, rfl, hlt, p'⟩, fun x H' y => hs i x H H' hlt p (w.yields i H x H' hlt q y)⟩
  · obtain rfl : i = n := Nat.le_antisymm hi hge
    exact .inl ⟨w.stops H q, hd H p⟩
end
end L2

/-! for i, x in enumerate(t), t a tuple: the library's Begins and Draws of a tuple, put together -/
namespace L2
open PySem PyProof.Rows PySem.Spec
/-- a new enumerate over the iterator at j -/
abbrev enObj (j : Addr) : Obj := { cls := .type "enumerate", data := .fields #[.none, .bool false, .ref j, rawInt 0, .none, .none] }
theorem enum_one {v : Value} {o : Obj} {G : Heap → Prop} (B : Begins v o G) : Meets (Builtin.«enumerate.__new__» ⟨[.type "enumerate", v], []⟩) fun _ R s =>
    G s.heap ∧ R (.ok (.ret (.ref (s.heap.push o).objs.size))) { s with heap := (s.heap.push o).push (enObj s.heap.objs.size) } :=
  .of_wp fun P w _ R ⟨h, gs, dr, tk, os⟩ ⟨g, q⟩ => by
    have sub0 := sub_enumerate
    have goes : ∀ {A' : Around} {E' : Value → Shared → Prop} {Q' : Value → Shared → Prop}, Q' (.ref h.objs.size) ⟨h.push o, gs, dr, tk, os⟩ → wpAny (model P w) A' (pyIter v) Q' E' ⟨h, gs, dr, tk, os⟩ := fun z => B.iter P w _ _ _ _ g z
    wp_walk using goes
    refine wpAny_stack_any fun _ => wpAny_pure ?_
    split
    all_goals first
      | (rename_i c _ _ _ _ _; cases (c == Value.type "enumerate") <;> (wp_walk using goes; exact ⟨_, rfl, q⟩))
      | (wp_walk using goes; exact ⟨_, rfl, q⟩)
theorem enum_call {P : Program} {w : World} {A : Around} {E : Value → Shared → Prop} {s : Shared} {v : Value} {o : Obj} {G : Heap → Prop} {Q : Value → Shared → Prop} (B : Begins v o G) (g : G s.heap)
    (q : ∀ n h', n = s.heap.objs.size → IsEnum h' (n + 1) n 0 .none → h'.get? n = some o → (∀ b u, s.heap.get? b = some u → h'.get? b = some u) → Q (.ref (n + 1)) { s with heap := h' }) :
    wpAny (model P w) A (call (.type "enumerate") [v]) Q E s := by
  have up : ∀ (b : Addr) (u : Obj), (s.heap.push o).get? b = some u → ((s.heap.push o).push (enObj s.heap.objs.size)).get? b = some u := fun b u e => Heap.get?_push_of_some _ e
  have top := Heap.get?_push_size (s.heap.push o) (o := enObj s.heap.objs.size) rfl
  refine callType_new F.called_enumerate (by decide) (F.typeCall_enumerate_1 _) (F.newCall_enumerate_1 _) (fun c => F.args_object_init_2 c _) F.entry_enumerate_new (enum_one B) ⟨g, ?_⟩
  rw [Heap.size_push] at top
  rw [show (s.heap.push o).objs.size = s.heap.objs.size + 1 from Heap.size_push ..]
  exact ⟨⟨_, top, rfl⟩, q _ _ rfl top (up _ _ (Heap.get?_push_size _ B.free)) fun b u e => up b u (Heap.get?_push_of_some _ e)⟩
/-- the tuple at a, each item in a new pair -/
def Itq (K : PySem.W.Frag) (a : Addr) : It :=
  ⟨fun i H => ∃ (xs : List V) (x : V), SqT K H a xs ∧ xs[i]? = some x, fun i H v H' => ∃ T x, v = .ref T ∧ H T = none ∧ H' = upd H T (.tup [.int (i : Nat), x]) ∧ ∀ xs, SqT K H a xs → xs[i]? = some x, fun i H => ∃ xs : List V, SqT K H a xs ∧ xs.length ≤ i⟩
/-- enumerate at e, its iterator at j, the tuple at a: i items are drawn -/
structure EnT (a e j : Addr) (i : Nat) (h : Heap) : Prop where
  en : ∃ old, IsEnum h e j ((i : Nat) : Int) old
  it : h.IsTupleIter j a i
  ne : e ≠ j
theorem EnT.apart {a e j : Addr} {i : Nat} {h : Heap} {xs : Array Value} (T : EnT a e j i h) (p : h.IsTuple a xs) : a ≠ j ∧ a ≠ e := by
  obtain ⟨o, ho, hc, -⟩ := p
  obtain ⟨u, hu, hk, -⟩ := T.it
  obtain ⟨old, he⟩ := T.en
  refine ⟨fun z => ?_, fun z => ?_⟩
  · rw [← z, ho] at hu
    rw [← Option.some.inj hu, hc] at hk
    exact absurd (Value.type.inj hk) (by decide)
  · have y : h.get? e = some _ := he
    rw [← z, ho] at y
    rw [Option.some.inj y] at hc
    exact absurd (Value.type.inj hc) (by decide)
theorem turn_enumT {P : Program} {w : World} {K : PySem.W.Frag} {elts : List Expr} {kk : Nat} {tpos : Pos} (a e j : Addr) : Turn P w K (.Tuple elts kk tpos) (Itq K a) [e, j] e (EnT a e j) where
  mem := List.mem_cons_self ..
  obj i h T b hb := by
    rcases List.mem_cons.mp hb with z | z
    · rw [z]
      exact ⟨_, T.en.choose_spec, fun _ y => nomatch y⟩
    · rw [List.mem_singleton.mp z]
      obtain ⟨o, ho, -, hd⟩ := T.it
      exact ⟨o, ho, fun _ y => nomatch (hd.symm.trans y)⟩
  keep _ _ _ T k := ⟨T.en.imp fun _ y => k e (List.mem_cons_self ..) _ y, T.it.at fun o y => k j (List.mem_cons_of_mem _ (List.mem_cons_self ..)) o y, T.ne⟩
  item := by
    rintro X rfl rfl rfl calm i pins s σ H E I fp T ⟨xs, x, hq, hx⟩
    obtain ⟨us, rel, isT, -⟩ := I.tuple hq
    obtain ⟨u, hu, ru⟩ := rel.get hx
    obtain ⟨aj, ae⟩ := T.apart isT
    obtain ⟨old, en⟩ := T.en
    have lt : i < us.toArray.size := by rw [List.size_toArray]; exact (List.getElem?_eq_some_iff.mp hu).1
    have low : ∀ b ∈ [e, j], b < s.heap.objs.size := fun b hb => by
      rcases List.mem_cons.mp hb with z | z
      · rw [z]; exact Heap.lt_size en
      · rw [List.mem_singleton.mp z]; exact Heap.lt_size T.it.choose_spec.1
    have out : e ∉ [j, a] := fun z => by
      rcases List.mem_cons.mp z with z | z
      · exact T.ne z
      · exact ae (List.mem_singleton.mp z).symm
    refine wpAny_pyNext_enum_itemD (Draws.tuple (A := X.A.in1) (I.ok.hd calm) j a aj us.toArray) en ⟨T.it, isT⟩ lt T.ne out fun y h1 tk hy eo T1 pr _ kp => ⟨_, rfl, wpAny_letOwnedTupleGo_enum (s := { s with heap := h1, toks := tk + 1 }) eo fun h2 e2 sb => ?_⟩
    have ey : y = u := Option.some.inj (hy.symm.trans (by rw [List.getElem?_toArray]; exact hu))
    rw [ey] at pr e2
    have far : ∀ b, b ∉ [e, j] → b ≠ e ∧ b ≠ j := fun b hb => ⟨fun z => hb (by rw [z]; exact List.mem_cons_self ..), fun z => hb (by rw [z]; exact List.mem_cons_of_mem _ (List.mem_cons_self ..))⟩
    have keeps : ∀ b o, b ∉ [e, j] → s.heap.get? b = some o → h2.get? b = some o := fun b o hb y => (sb.2 b (far b hb).1).trans (kp b o (far b hb).1 (far b hb).2 y)
    have at2 := (sb.2 _ (Nat.ne_of_gt (low e (List.mem_cons_self ..)))).trans pr
    have ok2 : ObjOk X.prog X.w (upd H s.heap.objs.size (.tup [.int (i : Nat), x])) h2 s.heap.objs.size (.tup [.int (i : Nat), x]) := ⟨(by decide : 2 ≤ sizeLine), [_, u], .cons ⟨tk, rfl⟩ (.cons ru .nil), _, at2, rfl, _, rfl⟩
    exact ⟨.ref s.heap.objs.size, _, I.turnedNew keeps fp (Nat.le_refl _) ok2, rfl, ⟨_, x, rfl, I.hok.fresh (Nat.le_refl _), rfl, fun zs hz => I.tuple_inj hz hq ▸ hx⟩,
      ⟨⟨u, by rw [show ((i + 1 : Nat) : Int) = (i : Int) + 1 from rfl]; exact e2⟩, T1.1.at fun o z => (sb.2 j (Ne.symm T.ne)).trans z, T.ne⟩, fun b hb => (upd_ne (Nat.ne_of_lt (low b hb))).trans (fp b hb).1⟩
  done := by
    rintro X rfl rfl rfl calm i pins s σ H E I fp T ⟨xs, hq, hl⟩
    obtain ⟨us, rel, isT, -⟩ := I.tuple hq
    obtain ⟨old, en⟩ := T.en
    obtain ⟨n1, n2, -, n3, n4, n5⟩ := fp j (List.mem_cons_of_mem _ (List.mem_cons_self ..))
    have D : Draws X.prog X.w X.A.in1 j [j, a] i (fun _ _ => False) (fun n h => n = i ∧ h.IsTupleIter j a i ∧ h.IsTuple a us.toArray) :=
      ⟨fun _ _ st => ⟨_, st.2.1.choose_spec.1⟩, fun _ _ _ st k => ⟨st.1, st.2.1.at fun o z => k j (List.mem_cons_self ..) o z, st.2.2.at fun o z => k a (List.mem_cons_of_mem _ (List.mem_cons_self ..)) o z⟩,
        fun n _ _ _ lt st _ => absurd st.1 (Nat.ne_of_lt lt), fun _ _ _ st k => wpAny_nextOf_tuple_end (I.ok.hd calm) st.2.1 st.2.2 (by rw [List.getElem?_toArray, List.getElem?_eq_none]; rw [← rel.length]; exact hl) k⟩
    exact wpAny_pyNext_enum_endD D en ⟨rfl, T.it, isT⟩ fun h1 k => ⟨rfl, I.turned (t' := s.toks) k n1 n2 n3 n4 n5⟩
  self _ _ _ _ _ T q := wpAny_pyIter_enum T.en.choose_spec q
def iEnumT (K : PySem.W.Frag) (ta : TA) : TI := fun σ H R => ta σ H fun vs H1 => ∃ a xs, vs = [.ref a] ∧ SqT K H1 a xs ∧ R (Itq K a) H1
theorem pi_enumT {X : Cx} {e : Expr} {ta : TA} {p pos tpos : Pos} {elts : List Expr} {kk : Nat} (hg : Gl X "enumerate") (hm : X.mg "enumerate" = none) (ha : PA X [e] ta) (hs : starEach [e] X.env = [(false, eval e X.env)] := by rfl) :
    PI X (.Tuple elts kk tpos) (.Call (.Name "enumerate" p) [e] [] pos) (iEnumT X.K ta) where
  run pins s σ H R I h := by
    refine Call_ (ld_blt I hg hm boot_enumerate (PyProof.Rows.callWith_type1 (thn (ha.run pos pins s σ H _ I h) ?_) hs rfl))
    rintro us s1 ⟨vs, H1, I1, rel, a, xs, rfl, hq, k⟩
    rw [Vals.ref1 rel]
    obtain ⟨its, -, isT, -⟩ := I1.tuple hq
    refine enum_call (begins_tuple a its.toArray) isT fun n h' hn en it0 kp => wpAny_pyIter_enum en ⟨n + 1, [n + 1, n], EnT a (n + 1) n, Itq X.K a, H1, rfl, I1.kept (t' := s1.toks) kp, turn_enumT a (n + 1) n, ⟨⟨_, en⟩, ⟨_, it0, rfl, rfl⟩, Nat.succ_ne_self n⟩, ?_, k⟩
    intro b hb
    have le : s1.heap.objs.size ≤ b := by
      rcases List.mem_cons.mp hb with z | z
      · rw [z, ← hn]; exact Nat.le_succ _
      · rw [List.mem_singleton.mp z, hn]; exact Nat.le_refl _
    exact I1.fpOk le (I1.hok.fresh le)
theorem walk_enumT {K : PySem.W.Frag} {a : Addr} {xs : List V} : Walk (Itq K a) xs.length (fun H => SqT K H a xs) (YPair (fun i => some (.int (i : Nat))) (fun i => xs[i]?)) where
  goes i H lt g := ⟨xs, xs[i], g, List.getElem?_eq_getElem lt⟩
  stops H g := ⟨xs, g, Nat.le_refl _⟩
  yields i H x H' lt g y := let ⟨T, z, e, n, e', h⟩ := y; ⟨T, .int (i : Nat), z, e, n, e', rfl, h xs g⟩
end L2

/-! tuple(d), d a dict of ints and texts -/
namespace L2
open PySem PySem.Spec PyProof.Rows
section
variable {prog : Program} {w : World} {A : Around} {E : Value → Shared → Prop} {s : Shared} {T : String} {r d : Addr} {n : Nat} {P : Nat → Value → Prop} {OK : Heap → Prop}
theorem collect_src {Q : List Value → Shared → Prop} (K : PySem.W.KdlSrc prog w T r d n P OK) (hh : A.handled = none) (hok : OK s.heap) (hn : n ≤ sizeLine)
    (q : ∀ (h' : Heap) (tk : Nat) (acc : Array Value), (∀ b o, s.heap.get? b = some o → h'.get? b = some o) → ItemsOf P acc n → Q acc.toList { s with heap := h', toks := tk }) : wpAny (model prog w) A (collect (.ref r)) Q E s := by
  have lt := K.there _ hok
  unfold collect
  refine wpAny_bind (wpAny_runValue (codeAny_builtin F.entry_proto_collect ?_))
  rw [Around.under_plainId F.plain_proto_collect _]
  show wpAny _ A.in1 (newList [] >>= fun l => again (.builtin "list.__iadd__" ⟨[l, .ref r], []⟩)) _ _ s
  refine wpAny_bind (wpAny_newObj_type (wpAny_pure ⟨plainId_quiet F.plain_list_iadd _, codeAny_builtin F.entry_list_iadd ?_⟩))
  rw [Around.under_plainId F.plain_list_iadd _]
  show wpAny _ A.in1 (Builtin.List.listExtendWith (.ref s.heap.objs.size) (.ref r) (.ref s.heap.objs.size)) _ _ _
  have gS : (s.heap.push { cls := .type "list", data := .seq ([] : List Value).toArray }).get? s.heap.objs.size = some { cls := .type "list", data := .seq #[] 0 } := Heap.get?_push_size _ rfl
  have go := PySem.W.kdl_extend (A := A) (R := fun rr z => rr = .ok (.ret (.ref s.heap.objs.size)) ∧ ∃ (h' : Heap) (tk : Nat) (acc : Array Value) (c' : Nat), z = { s with heap := h', toks := tk } ∧
      (∀ b o, s.heap.get? b = some o → h'.get? b = some o) ∧ h'.get? s.heap.objs.size = some { cls := .type "list", dict := none, data := .seq acc c', slots := #[] } ∧ ItemsOf P acc n)
    (s := { s with heap := s.heap.push { cls := .type "list", data := .seq ([] : List Value).toArray } }) K hh (K.keep _ _ hok fun b _ o e => Heap.get?_push_of_some _ e) s.heap.objs.size (Nat.ne_of_gt lt.1) (Nat.ne_of_gt lt.2) (.ref s.heap.objs.size) 0 gS
    (fun h' tk acc c' hk e hi => ⟨rfl, h', tk, acc, c', rfl, fun b o y => hk b o (Nat.ne_of_lt (Heap.lt_size y)) (Heap.get?_push_of_some _ y), e, hi⟩) hn
  refine wpAny_mono go (fun fin z x => ?_) fun e z x => absurd x.1 (by simp)
  cases fin with
  | done f =>
    obtain ⟨e, h', tk, acc, c', rfl, hk, hS', hi⟩ := x
    cases e
    show wpAny _ A (load s.heap.objs.size >>= _) _ _ _
    exact wpAny_bind (wpAny_load hS' (wpAny_pure (q h' tk acc hk hi)))
  | again c =>
    refine ⟨x.1, codeAny_mono x.2 fun rr y hr' => ?_⟩
    obtain ⟨rfl, h', tk, acc, c', rfl, hk, hS', hi⟩ := hr'
    show wpAny _ A (load s.heap.objs.size >>= _) _ _ _
    exact wpAny_bind (wpAny_load hS' (wpAny_pure (q h' tk acc hk hi)))
theorem tuple_src {Q : Value → Shared → Prop} (K : PySem.W.KdlSrc prog w T r d n P OK) (hh : A.handled = none) (hok : OK s.heap) (hn : n ≤ sizeLine)
    (q : ∀ (h' : Heap) (tk : Nat) (acc : Array Value), (∀ b o, s.heap.get? b = some o → h'.get? b = some o) → ItemsOf P acc n → Q (.ref h'.objs.size) { s with heap := h'.push { cls := .type "tuple", data := .seq acc }, toks := tk }) :
    wpAny (model prog w) A (call (.type "tuple") [.ref r]) Q E s := by
  refine callType_codes (Q₁ := fun obj s₁ => s₁.TypeIs obj "tuple" ∧ Q obj s₁) F.called_tuple (F.typeCall_tuple_1 _) F.entry_object_init (codeAny_of_tree ?_) fun obj s₁ h₁ => ⟨h₁.1, F.args_object_init_2 obj _, object_init_meets F.called_tuple.init.lookup F.called_tuple.made (by decide) prog w A.in1 _ s₁ ⟨h₁.1, rfl, h₁.2⟩⟩
  show wpAny _ A.in1.in1 (do checkBuiltinCall "tuple.__new__" ⟨[.type "tuple", .ref r], []⟩; again (.builtin "tuple.__new__" ⟨[.type "tuple", .ref r], []⟩)) _ _ s
  refine wpAny_bind (wpAny_of_eq (F.newCall_tuple_1 _) (wpAny_pure ⟨plainId_quiet F.plain_tuple_new _, codeAny_builtin F.entry_tuple_new ?_⟩))
  rw [Around.under_plainId F.plain_tuple_new _]
  have hsub := sub_tuple_self
  have hinit := init_tuple_lookup
  have hmh := madeHere_tuple
  have ty : s.TypeIs (.ref r) T := K.type s hok
  have nt := K.notTuple
  have nl := K.notList
  have hh2 : A.in1.in1.handled = none := hh
  wp_walk using wpAny_typeOf ty, collect_src (A := A.in1.in1) K hh2 hok hn
  intro h' tk acc hk hacc
  show wpAny _ _ (Builtin.Tuple.tupleExact acc.toList.toArray >>= fun v => ret v) _ _ _
  unfold Builtin.Tuple.tupleExact
  rw [Array.toArray_toList]
  refine wpAny_bind (wpAny_newObj_type (wpAny_pure ?_) (by show acc.size ≤ sizeLine; rw [hacc.1]; exact hn))
  exact ⟨⟨_, Heap.get?_push_size _ rfl, rfl⟩, q h' tk acc hk hacc⟩
end
theorem dk_items {P : Program} {w : World} {kvs : List (Key × V)} {vs : List (Key × Value)} {acc : Array Value} (rk : KV kvs vs) (ia : ItemsOf (fun i v => ∃ k x, vs[i]? = some (k, x) ∧ (mixKind P w).is k v = true) acc vs.length) : Vals (kvs.map fun kv => kV kv.1) acc.toList := by
  refine vals_of_at (by rw [List.length_map]; exact (Paired.length rk).trans (ia.1.symm.trans Array.length_toList.symm)) fun j x u h1 h2 => ?_
  obtain ⟨k, y, hky, hi⟩ := ia.2 j u (by rw [← Array.getElem?_toList]; exact h2)
  have e1 : (kvs.map (·.1))[j]? = some k := by rw [KV.keys rk, List.getElem?_map, hky] <;> rfl
  rw [show (kvs.map fun kv => kV kv.1) = (kvs.map (·.1)).map kV by rw [List.map_map] <;> rfl, List.getElem?_map, e1] at h1
  cases h1
  exact keyIs_rel hi
def rTupD : List V → Hp → VK → Prop := fun xs H Q => ∃ p kvs, xs = [.ref p] ∧ H p = some (.dK kvs) ∧ ∀ q, H q = none → Q (.ref q) (upd H q (.tup (kvs.map fun kv => kV kv.1)))
theorem call_tuple_dK {X : Cx} (hc : X.calm = true) : CallR X (.type "tuple") rTupD := by
  intro pins s σ H xs us Q I r h
  obtain ⟨p, kvs, rfl, hk, q⟩ := h
  rw [Vals.ref1 r]
  obtain ⟨z, lo, vs, rk, hd⟩ := (show ObjOk X.prog X.w H s.heap p (.dK kvs) from I.hok p _ hk)
  obtain ⟨ep, hat⟩ := hd.dictAt
  have hl : kvs.length = vs.length := Paired.length rk
  refine tuple_src (PySem.W.kdl_dict (knd := mixKind X.prog X.w) (kvs := vs) (ep := ep) lo) (I.ok.hd hc) hat (by rw [← hl]; exact z) fun h' tk acc keep ia => ?_
  have I1 : Inv X pins σ H { s with heap := h', toks := tk } := I.kept (t' := tk) keep
  refine ⟨.ref h'.objs.size, upd H h'.objs.size (.tup (kvs.map fun kv => kV kv.1)), I1.laid (t' := tk) (fun b o e => Heap.get?_push_of_some _ e) (Nat.le_refl _) (show ObjOk X.prog X.w _ _ _ (.tup (kvs.map fun kv => kV kv.1)) from ⟨?_, acc.toList, dk_items rk ia, by rw [Array.toArray_toList]; exact IsTup.new _ _⟩), rfl, q _ (I1.hok.fresh (Nat.le_refl _))⟩
  rw [List.length_map]
  exact z
end L2

/-! len(o), k in o, o[k] by own __len__, __contains__, __getitem__ -/
namespace L2
open PySem PySem.Spec PyProof.Rows
section
variable {X : Cx} {CX : CXT} {C f : Addr} {fd : FuncData} {ps : List Str} {sp : Sp} {k : Nat} {E : XK}
theorem call_ownA (F : FnOk X.prog X.w X.K X.mg X.base CX k f fd ps sp) (hb : Binds X.K fd ps []) {A : Around} (hr : Room k A) (hA : A.frames = X.A.frames) (hx : Passes CX X E) {pins : List (Addr × Obj)} {s : Shared} {σ : St} {H : Hp} {us : List Value} {vs : List V} {Q : VK}
    (I : Inv X pins σ H s) (r : Vals vs us) (h : sp vs H Q E) : wpAny (model X.prog X.w) A (call (.ref f) us) (EP X pins σ Q) X.xe s := by
  have e := I.env0
  have e0 : Env0 X.prog X.w X.K X.mg X.base A X.stack s H := ⟨by rw [hA]; exact e.frames, e.mod, e.bs, e.bsz, e.funs, e.frf, e.hok, e.bare⟩
  have hl : us.length = ps.length := by rw [← r.length]; exact F.len _ _ _ _ h
  have hbd := hb s us I.kIn (by simpa using hl)
  rw [List.append_nil] at hbd
  refine wpAny_call (codeAny_mono (F.run A X.stack s H ⟨us, []⟩ us vs Q E hr e0 hbd r h) fun r z hq => ?_)
  cases r with
  | error e => exact hx pins σ H s e z I hq
  | ok fl =>
    cases fl with
    | ret w => exact I.after hq
    | next => exact False.elim hq
    | brk => exact False.elim hq
    | cont => exact False.elim hq
/-- an own special method -/
structure OwnSp (K : PySem.W.Frag) (C f : Addr) (name : Str) : Prop where
  fi : PySem.W.findIn K (.ref C) name = some (some (.ref f))
  fn : PySem.W.isFn K (.ref f) = true
def rInO (C : Addr) (sp : Sp) (E : XK) (fl : Bool → Bool) : R2 := fun x y H Q => ∃ a dx fs, y = .ref a ∧ H a = some (.ins C dx fs) ∧ sp [.ref a, x] H (fun v H' => ∃ r, v = .bl r ∧ Q (.bl (fl r)) H') E
theorem has_own (F : FnOk X.prog X.w X.K X.mg X.base CX k f fd ps sp) (T : OwnSp X.K C f "__contains__") (hb : Binds X.K fd ps []) (hr : Room k X.A) (hx : Passes CX X E) {pins : List (Addr × Obj)} {s : Shared} {σ : St} {H : Hp} {a dx : Addr} {fs : List (Str × V)} {x : V} {v : Value} {Q : Bool → Shared → Prop} {R : Bool → Hp → Prop} (I : Inv X pins σ H s) (rx : RelV x v) (ha : H a = some (.ins C dx fs))
    (h : sp [.ref a, x] H (fun v H' => ∃ r, v = .bl r ∧ R r H') E) (q : ∀ r z H', Inv X pins σ H' z → R r H' → Q r z) : wpAny (model X.prog X.w) X.A (contains (.ref a) v) Q X.xe s := by
  obtain ⟨mA, J, _⟩ := ins_get I.hok ha
  obtain ⟨od, J, _⟩ := J.look
  have KX := I.kIn
  have sp : PySem.W.Looks (model X.prog X.w) s.heap (specialOf (.ref a) "__contains__") (some (.ref f)) := J.type.andThen (PySem.W.looks_findIn KX T.fi)
  unfold contains
  refine wpAny_holding ?_
  rw [show stdlibNamesSay? (.ref a) v = none by rfl]
  dsimp only
  refine wpAny_bind (sp.here ?_)
  refine wp_if_neg (by rw [show ((some (Value.ref f) : Option Value) == some Value.none) = false by rfl]; exact Bool.false_ne_true) ?_
  first
    | refine wpAny_bind ?_
    | refine wpAny_bind (wpAny_pure (wpAny_bind ?_))
  unfold callSpecialUnlessNone?
  refine wpAny_bind (sp.here (wpAny_holding (wpAny_bind ((PySem.W.bind_fn KX _ (beq_iff_eq.mp T.fn)).here ?_))))
  dsimp only
  refine wp_if_neg (by rw [show (Value.ref f == Value.none) = false by rfl]; exact Bool.false_ne_true) ?_
  first
    | refine wpAny_bind ?_
    | refine wpAny_bind (wpAny_pure (wpAny_bind ?_))
  refine thn (call_ownA F hb hr rfl hx I (.cons (show RelV (.ref a) (.ref a) from rfl) (.cons rx .nil)) h) fun w z hw => ?_
  obtain ⟨y, H', I', ry, r, rfl, qq⟩ := hw
  obtain rfl : w = Value.bool r := ry
  exact wpAny_pure (wpAny_truthy_bool (q r z H' I' qq))
theorem op_inO (F : FnOk X.prog X.w X.K X.mg X.base CX k f fd ps sp) (T : OwnSp X.K C f "__contains__") (hb : Binds X.K fd ps []) (hr : Room k X.A) (hx : Passes CX X E) : OpR X (compareOp .In) (rInO C sp E id) := by
  intro pins s σ H x y v u Q I rx ry h
  obtain ⟨a, dx, fs, rfl, ha, h⟩ := h
  cases ry
  show wpAny _ _ (do return Value.bool (← contains (.ref a) v)) _ _ s
  exact wpAny_bind (has_own (R := fun r H' => Q (.bl r) H') F T hb hr hx I rx ha h fun r z H' I' q => wpAny_pure ⟨.bl r, H', I', rfl, q⟩)
theorem op_notinO (F : FnOk X.prog X.w X.K X.mg X.base CX k f fd ps sp) (T : OwnSp X.K C f "__contains__") (hb : Binds X.K fd ps []) (hr : Room k X.A) (hx : Passes CX X E) : OpR X (compareOp .NotIn) (rInO C sp E not) := by
  intro pins s σ H x y v u Q I rx ry h
  obtain ⟨a, dx, fs, rfl, ha, h⟩ := h
  cases ry
  show wpAny _ _ (do return Value.bool (!(← contains (.ref a) v))) _ _ s
  exact wpAny_bind (has_own (R := fun r H' => Q (.bl (!r)) H') F T hb hr hx I rx ha h fun r z H' I' q => wpAny_pure ⟨.bl (!r), H', I', rfl, q⟩)
/-- len(o) -/
def rLenO (C : Addr) (sp : Sp) (E : XK) : List V → Hp → VK → Prop := fun xs H Q => ∃ a dx fs, xs = [.ref a] ∧ H a = some (.ins C dx fs) ∧ sp [.ref a] H (fun v H' => ∃ n : Nat, v = .int n ∧ n < 2 ^ 62 ∧ Q (.int n) H') E
theorem call_lenO (F : FnOk X.prog X.w X.K X.mg X.base CX k f fd ps sp) (T : OwnSp X.K C f "__len__") (hb : Binds X.K fd ps []) (hr : Room k X.A.in1) (hx : Passes CX X E) : CallR X (.builtin "len") (rLenO C sp E) := by
  intro pins s σ H xs us Q I r h
  obtain ⟨a, dx, fs, rfl, ha, h⟩ := h
  rw [Vals.ref1 r]
  obtain ⟨mA, J, _⟩ := ins_get I.hok ha
  obtain ⟨od, J, _⟩ := J.look
  refine Calls.call_function_entry kind_len plain_len entry_len (args_len1 _) ?_
  unfold Builtin.«len»
  refine wpAny_bind (m := oneArg "len" _) (wpAny_pure ?_)
  refine wpAny_bind (m := callSpecial? (.ref a) (Str.ofString "__len__")) (PySem.W.special_fn (name := Str.ofString "__len__") I.kIn J T.fi (beq_iff_eq.mp T.fn) ?_)
  refine thn (call_ownA (A := X.A.in1) F hb hr rfl hx I (.cons (show RelV (.ref a) (.ref a) from rfl) .nil) h) fun w z hw => ?_
  obtain ⟨y, H', I', ry, n, rfl, hn, q⟩ := hw
  obtain ⟨t, rfl⟩ := ry
  dsimp only
  refine wpAny_bind (wpAny_holding (wpAny_pure ?_))
  refine wpAny_bind (wpAny_letGo ?_)
  have h1 : ¬ ((n : Int) < 0) := by omega
  have h2 : ¬ ((n : Int) ≥ 2 ^ 63) := by omega
  refine wp_if_neg h1 ?_
  first
    | refine wp_if_neg h2 ?_
    | refine wpAny_bind (wpAny_pure (wp_if_neg h2 ?_))
  first
    | exact wpAny_bind (wpAny_mkInt (wpAny_pure ⟨_, rfl, .int n, H', I'.tok _, ⟨_, rfl⟩, q⟩))
    | exact wpAny_bind (wpAny_pure (wpAny_bind (wpAny_mkInt (wpAny_pure ⟨_, rfl, .int n, H', I'.tok _, ⟨_, rfl⟩, q⟩))))
/-- o[k] -/
def rIxO (C : Addr) (sp : Sp) (E : XK) : R2 := fun x y H Q => ∃ a dx fs, x = .ref a ∧ H a = some (.ins C dx fs) ∧ sp [.ref a, y] H Q E
theorem pe_ixO {a b : Expr} {ta tb : TE} {pos : Pos} (F : FnOk X.prog X.w X.K X.mg X.base CX k f fd ps sp) (T : OwnSp X.K C f "__getitem__") (hf : PySem.W.fnIn X.K f = true) (hb : Binds X.K fd ps []) (hr : Room k X.A.in1) (hx : Passes CX X E) (ha : PE X a ta) (hbb : PE X b tb)
    (hs : ∀ o i, subscripted b true o i = runValue (.builtin "lifetime.subscript" ⟨[o, i], []⟩) := by intro _ _; rfl) : PE X (.Subscript a b pos) (tOp (rIxO C sp E) ta tb) := by
  refine ⟨fun pins s σ H Q I h => ?_⟩
  refine Subscript_ (binT ha hbb I h fun v u s2 x y H2 I2 rx ry q => ?_)
  obtain ⟨p, dx, fs, rfl, hp, q⟩ := q
  cases rx
  obtain ⟨mA, J, _⟩ := ins_get I2.hok hp
  obtain ⟨od, J, _⟩ := J.look
  obtain ⟨m, hF⟩ := I2.fr
  exact PySem.W.sub_K hF I2.ok.mod.kin J T.fi hf T.fn (call_ownA (A := X.A.in1) F hb hr rfl hx I2 (.cons (show RelV (.ref p) (.ref p) from rfl) (.cons ry .nil)) q) (hs _ _)
end
end L2

/-! == of two dicts with tuple keys that hold the very same objects, or that are of unlike lengths -/
namespace L2
open PySem PySem.Spec PyProof.Rows
section
variable {prog : Program} {w : World} {K : Type} [DecidableEq K] {knd : HeapKind prog w K} {A : Around} {E : Value → Shared → Prop} {s : Shared}
theorem same_objs {nm : String} {a b : Addr} {xa xb : List (K × Addr × Value)} {Q : Bool → Shared → Prop} (hu : knd.room A) (ha : (a == sysModules) = false) (hb : (b == sysModules) = false) (da : s.heap.DictOfH knd a xa) (db : s.heap.DictOfH knd b xb)
    (hits : xa.length = xb.length → ∀ x ∈ xa, ∃ q r, x.2.2 = .ref r ∧ (x.1, q, Value.ref r) ∈ xb) (q : Q (decide (xa.length = xb.length)) s) : wpAny (model prog w) A (Builtin.Dict.samePairs nm a b) Q E s := by
  obtain ⟨oa, ea, pa, goa, _, gda, hea, hia, hna⟩ := da
  obtain ⟨ob, eb, pb, gob, _, gdb, heb, hib, hnb⟩ := db
  have sa : ea.size = xa.length := size_of_entries hea
  have sb : eb.size = xb.length := size_of_entries heb
  unfold Builtin.Dict.samePairs Builtin.Dict.showsAll
  rw [if_neg (show ¬ (a == sysModules) = true by rw [ha]; exact Bool.false_ne_true), if_neg (show ¬ (b == sysModules) = true by rw [hb]; exact Bool.false_ne_true)]
  refine wpAny_bind (wpAny_pure (wpAny_bind (wpAny_pure ?_)))
  refine wpAny_bind (wpAny_dictEntries goa gda ?_)
  dsimp only
  refine wpAny_bind (wpAny_dictEntries gob gdb ?_)
  by_cases hsz : xa.length = xb.length
  case neg =>
    rw [decide_eq_false hsz] at q
    refine wp_if_pos (by rw [sa, sb]; simpa using hsz) ?_
    exact wpAny_bind (wpAny_rule (wpAny_pure q))
  case pos =>
    rw [decide_eq_true hsz] at q
    have hits := hits hsz
    refine wp_if_neg (by rw [sa, sb, hsz]; simp) ?_
    first
      | refine wpAny_bind (wpAny_dictEpoch goa gda ?_)
      | refine wpAny_bind (wpAny_pure (wpAny_bind (wpAny_dictEpoch goa gda ?_)))
    refine wpAny_bind ?_
    rw [Std.Legacy.Range.forIn_eq_forIn_range']
    simp only [Std.Legacy.Range.size, Nat.sub_zero, Nat.add_sub_cancel, Nat.div_one]
    refine wpAny_forIn_list _ (fun rest r z => z = s ∧ r = (none, ()) ∧ ∀ i ∈ rest, i < xa.length) _ ?_ ?_ _ _ ⟨rfl, rfl, fun i hi => ?_⟩
    · rintro i rest r z ⟨rfl, rfl, hall⟩
      have hlt := hall i List.mem_cons_self
      have hx : xa[i]? = some xa[i] := List.getElem?_eq_getElem hlt
      have hm : xa[i] ∈ xa := List.getElem_mem hlt
      generalize xa[i] = x at hx hm
      obtain ⟨k, p, v⟩ := x
      obtain ⟨y, t, e, hy⟩ := hits _ hm
      dsimp only at e hy
      subst e
      refine wpAny_bind (wpAny_dictEntries goa gda ?_)
      rw [entry_at hea i, hx]
      show wpAny _ _ (holding [Value.ref p, Value.ref t] _ >>= _) _ _ _
      obtain ⟨j, hj, ej⟩ := List.getElem_of_mem hy
      have hjj : xb[j]? = some (k, y, Value.ref t) := by rw [List.getElem?_eq_getElem hj, ej]
      refine wpAny_bind (wpAny_holding (wpAny_bind (wpAny_dictFind_heap hu (hia _ hm) gob gdb heb hib hnb (fun no => absurd hjj (no j _)) fun j' pq hj' => ?_)))
      obtain rfl : j' = j := idxH_unique hnb hj' hjj
      refine wpAny_bind (wpAny_dictEntries gob gdb ?_)
      rw [entry_at heb j', hjj]
      refine wpAny_holding ?_
      show wpAny _ _ (eqBool (.ref t) (.ref t)) _ _ _
      unfold eqBool
      refine wpAny_holding (wp_if_pos (by simp) (wpAny_bind (wpAny_rule (wpAny_pure ?_))))
      simp only [Bool.not_true, Bool.false_eq_true, if_false]
      first
        | refine wpAny_bind (wpAny_dictEpoch goa gda ?_)
        | refine wpAny_bind (wpAny_pure (wpAny_bind (wpAny_dictEpoch goa gda ?_)))
      refine wp_if_neg (by simp) ?_
      first
        | exact wpAny_pure ⟨rfl, rfl, fun i hi => hall i (.tail _ hi)⟩
        | exact wpAny_bind (wpAny_pure (wpAny_pure ⟨rfl, rfl, fun i hi => hall i (.tail _ hi)⟩))
    · rintro r z ⟨rfl, rfl, _⟩
      exact wpAny_pure q
    · rw [sa] at hi
      have := List.mem_range'.mp hi
      omega
theorem eq_objs {a b : Addr} {xa xb : List (K × Addr × Value)} {Q : Value → Shared → Prop} (hu : knd.room A.in1) (hu2 : A.units < cLine) (ha : (a == sysModules) = false) (hb : (b == sysModules) = false) (da : s.heap.DictOfH knd a xa) (db : s.heap.DictOfH knd b xb)
    (hits : xa.length = xb.length → ∀ x ∈ xa, ∃ q r, x.2.2 = .ref r ∧ (x.1, q, Value.ref r) ∈ xb) (q : Q (.bool (decide (xa.length = xb.length))) s) : wpAny (model prog w) A (compareOp .Eq (.ref a) (.ref b)) Q E s := by
  have ta : s.TypeIs (.ref a) "dict" := let ⟨o, _, _, ho, hx, _⟩ := da; ⟨o, ho, hx.1⟩
  have tb : s.TypeIs (.ref b) "dict" := let ⟨o, _, _, ho, hx, _⟩ := db; ⟨o, ho, hx.1⟩
  refine wpAny_richCompare_same_room (op := .Eq) ta tb PySem.F.slot_dict_eq (wpAny_call_entry PySem.F.slot_dict_eq ta PySem.F.entry_dict_eq ?_ (PySem.F.args_dict_eq_2 _ _)) hu2
  show wpAny _ _ (Builtin.Dict.dictSlotArgs "__eq__" ⟨[.ref a, .ref b], []⟩ >>= _) _ _ s
  refine wpAny_bind ?_
  unfold Builtin.Dict.dictSlotArgs
  refine wpAny_bind (wpAny_notOrdered_dict ta ?_)
  show wpAny _ _ (pure (Value.ref a, Value.ref b)) _ _ s
  refine wpAny_pure (wpAny_bind (wpAny_isInstance (T := "dict") tb PySem.F.sub_dict_dict ?_))
  simp only [Bool.not_true, Bool.false_eq_true, if_false]
  refine wpAny_bind (wpAny_pure (wpAny_bind (wpAny_pure ?_)))
  refine wpAny_bind (same_objs hu ha hb da db hits ?_)
  refine wpAny_pure ⟨_, rfl, (fun x => nomatch x), ?_⟩
  simpa using q
end
theorem kt_hits {H : Hp} {ls : List (List Key × V)} {xb : List (List Key × Addr × Value)} (rb : KT H ls xb) : ∀ {ks : List (List Key × V)} {xa : List (List Key × Addr × Value)}, KT H ks xa → (∀ p ∈ ks, ∃ r, p.2 = .ref r ∧ valV ls p.1 = some (.ref r)) → ∀ x ∈ xa, ∃ q r, x.2.2 = Value.ref r ∧ (x.1, q, Value.ref r) ∈ xb := by
  intro ks xa ra
  induction ra with
  | nil => exact fun _ x hx => nomatch hx
  | @cons p x ks xa h _ more =>
    intro hp y hy
    rcases List.mem_cons.mp hy with rfl | hy
    · obtain ⟨r, e, hv⟩ := hp p List.mem_cons_self
      obtain ⟨e1, _, e3⟩ := h
      rw [e] at e3
      have ev : y.2.2 = Value.ref r := e3
      have z := rb.val p.1
      rw [hv] at z
      cases hk : atKey xb p.1 with
      | none => rw [hk] at z; exact (show False from z).elim
      | some m =>
        rw [hk] at z
        have z : m.2 = Value.ref r := z
        refine ⟨m.1, r, ev, ?_⟩
        unfold atKey at hk
        obtain ⟨t, ht, et⟩ := Option.map_eq_some_iff.mp hk
        have h1 := List.mem_of_find?_eq_some ht
        have h2 : t.1 = p.1 := by simpa using List.find?_some ht
        rw [show (y.1, m.1, Value.ref r) = t by rw [← e1, ← h2, ← et, ← z, ← et]]
        exact h1
    · exact more (fun q hq => hp q (.tail _ hq)) y hy
/-- d == e -/
def rEqT : R2 := fun x y H Q => ∃ a b ks ls, x = .ref a ∧ y = .ref b ∧ H a = some (.dT ks) ∧ H b = some (.dT ls) ∧ (ks.length = ls.length → ∀ p ∈ ks, ∃ r, p.2 = .ref r ∧ valV ls p.1 = some (.ref r)) ∧ Q (.bl (decide (ks.length = ls.length))) H
theorem op_eqT {X : Cx} (hu : X.A.units + 1 < cLine) : OpR X (compareOp .Eq) rEqT := by
  intro pins s σ H x y v u Q I rx ry h
  obtain ⟨a, b, ks, ls, rfl, rfl, ha, hb, hits, q⟩ := h
  cases rx
  cases ry
  obtain ⟨_, ya, xa, ra, da⟩ := dt_of I.hok ha
  obtain ⟨_, yb, xb, rb, db⟩ := dt_of I.hok hb
  have la : ks.length = xa.length := Paired.length ra
  have lb : ls.length = xb.length := Paired.length rb
  refine eq_objs (show X.A.in1.units < cLine from hu) (by omega) ya yb da db (fun e => kt_hits rb ra (hits (by omega))) ⟨.bl (decide (ks.length = ls.length)), H, I, ?_, q⟩
  rw [la, lb]
  rfl
end L2

/-! x(lambda a=e: body): a lambda with one default that it does not read -/
namespace LamX
open L2 PySem PyProof.Rows PySem.Spec
/-- the lambda's name in the tables of code, and what it holds of the names around it -/
abbrev lq (X : Cx) : Str := X.env.qual ++ "<lambda>"
abbrev lclo (X : Cx) (scope : Scope) : List (Str × Addr) := cloFrom X.env.cells scope.names []
/-- the lambda at f, its code at c, the tuple of its default u at D; nobody holds f and D -/
structure LamAt (X : Cx) (H : Hp) (h : Heap) (params : Arguments) (body : Expr) (scope : Scope) (u : Value) (f c D : Addr) : Prop where
  fn : ∃ doc pm ct, h.get? f = some (PySem.W.kdv_obj "<lambda>" (lq X) params (.expr body) scope (lclo X scope) (.ref D) doc pm c ct)
  tup : h.get? D = some (PySem.W.kdv_tup [u])
  off : ∀ b, b = f ∨ b = D → H b = none ∧ b ∉ frs X.stack
/-- a table of codes with one row more -/
def grown (H : Hp) (P : Addr) (ps : Array Value) (pos : Pos) (c : Addr) (q : Str) : Hp := upd (upd H P (.tbl (ps ++ #[rawInt pos.line, rawInt pos.col, .ref c]))) c (CodeO c q)
section
variable {T : List (Addr × Str)} {H : Hp} {P c : Addr} {ps : Array Value} {pos : Pos} {q : Str}
theorem grown_ext (hP : H P = some (.tbl ps)) (new : H c = none) : ExtN H (grown H P ps pos c q) := by
  intro b o hb nt
  have b1 : b ≠ c := ne_of_none hb new
  have b2 : b ≠ P := by
    intro z
    rw [z] at hb
    exact nt ps (Option.some.inj (hb.symm.trans hP))
  exact (upd_ne b1).trans ((upd_ne b2).trans hb)
theorem grown_tabs (hT : Tabs T H) (hP : H P = some (.tbl ps)) (ok : TriplesOk ps.toList) (one : ∀ p ∈ T, p.1 = P → p.2 = q) (new : H c = none) : Tabs T (grown H P ps pos c q) := by
  intro p hp
  obtain ⟨rs, at0, ok0, codes⟩ := hT p hp
  have old : ∀ {d : Addr}, H d = some (CodeO d p.2) → grown H P ps pos c q d = some (CodeO d p.2) := fun h => grown_ext hP new _ _ h codeO_ne
  by_cases same : p.1 = P
  · have er : rs = ps := by
      rw [same, hP] at at0
      injection at0 with z
      injection z with z
      exact z.symm
    subst er
    have el : (rs ++ #[rawInt pos.line, rawInt pos.col, Value.ref c]).toList = rs.toList ++ [rawInt pos.line, rawInt pos.col, .ref c] := Array.toList_append
    refine ⟨_, ?_, by rw [el]; exact PySem.TriplesOk_snoc _ _ _ _ ok, ?_⟩
    · rw [same]
      exact (upd_ne (ne_of_none hP new)).trans upd_same
    · intro p' cv found
      rw [el] at found
      refine (among_app _ ok found).elim (fun z => ?_) fun z => ⟨c, z, by rw [one p hp same]; exact upd_same⟩
      obtain ⟨d, e, k⟩ := codes p' cv z
      exact ⟨d, e, old k⟩
  · refine ⟨rs, (upd_ne (ne_of_none at0 new)).trans ((upd_ne same).trans at0), ok0, fun p' cv found => ?_⟩
    obtain ⟨d, e, k⟩ := codes p' cv found
    exact ⟨d, e, old k⟩
end
section
variable {X : Cx} {pins : List (Addr × Obj)} {σ : L2.St} {H : Hp} {s : Shared}
/-- a new address is nobody's and no frame -/
theorem new_off (I : Inv X pins σ H s) {b : Addr} (le : s.heap.objs.size ≤ b) : H b = none ∧ b ∉ frs X.stack := by
  refine ⟨I.hok.fresh le, fun z => ?_⟩
  cases List.mem_cons.mp (I.stkSub b z) with
  | inl e => exact absurd I.lt (by rw [← e]; exact Nat.not_lt_of_le le)
  | inr e => exact I.nofs le e
theorem lam_made {T : List (Addr × Str)} {c P : Addr} {params : Arguments} {body : Expr} {scope : Scope} {pos : Pos} {E : Value → Shared → Prop} {Q : Value → Shared → Prop} {u : Value} (I : Inv X pins σ H s) (TB : TabB X.base X.mg c P) (code : X.env.code = .ref c)
    (mem : (P, lq X) ∈ T) (one : ∀ p ∈ T, p.1 = P → p.2 = lq X) (hT : Tabs T H) (frees : ∀ y ∈ scope.names, y.2 = .free → ∃ c, X.env.cells.lookup y.1 = some c) (kw : params.kwonlyargs = [])
    (q : ∀ f d D H1 s1, Inv X pins σ H1 s1 → ExtN H H1 → Tabs T H1 → H1 d = some (CodeO d (lq X)) → LamAt X H1 s1.heap params body scope u f d D → Q (.ref f) s1) :
    wpAny (model X.prog X.w) X.A (makeFunction "<lambda>" (lq X) params (.expr body) scope X.env [u] [] [] pos pos.line) Q E s := by
  rw [makeFunction_eq]
  simp only [kw, List.zip_nil_left, List.filterMap_nil, List.isEmpty_nil, List.isEmpty_cons, Bool.false_eq_true, if_false, if_true, pure_bind]
  have I0 : Inv X pins σ H { s with heap := s.heap.push (PySem.W.kdv_tup [u]), toks := s.toks } := I.kept fun _ _ e => Heap.get?_push_of_some _ e
  have hD : (s.heap.push (PySem.W.kdv_tup [u])).get? s.heap.objs.size = some (PySem.W.kdv_tup [u]) := Heap.get?_push_size _ rfl
  have oD := new_off I (Nat.le_refl s.heap.objs.size)
  refine wpAny_bind (wpAny_newTextTuple ?_)
  have sz0 : s.heap.objs.size < (s.heap.push (PySem.W.kdv_tup [u])).objs.size := Heap.lt_size hD
  show wpAny _ _ _ _ _ { s with heap := s.heap.push (PySem.W.kdv_tup [u]), toks := s.toks }
  generalize hz : ({ s with heap := s.heap.push (PySem.W.kdv_tup [u]), toks := s.toks } : Shared) = z at I0
  have ez : z.heap = s.heap.push (PySem.W.kdv_tup [u]) := by rw [← hz]
  rw [← ez] at hD sz0
  generalize s.heap.objs.size = D at hD oD sz0
  obtain ⟨ps, hP, ok, codes⟩ := hT _ mem
  have gP : z.heap.get? P = some (PySem.W.tabObj ps) := I0.hok P _ hP
  have main := I0.mod.glob.keeps I0.bk
  have code0 := TB.code.keeps I0.bk
  have bts := TB.bm.keeps I0.bk
  cases found : codeAmong pos ps.toList with
  | some cv =>
    obtain ⟨d, rfl, hd⟩ := codes pos cv found
    refine PySem.W.kdv_makeTailHit (closure_ok frees) I0.ok.glob main code code0 gP ok found bts fun ct doc h' tk kp le => ?_
    have up : ∀ b o, z.heap.get? b = some o → (h'.push (PySem.W.kdv_obj "<lambda>" (lq X) params (.expr body) scope (lclo X scope) (.ref D) doc ((X.mg "__name__").getD .none) d ct)).get? b = some o := fun b o e => Heap.get?_push_of_some _ (kp b o e)
    refine q _ d D H _ (I0.kept up) (ExtN.refl H) hT hd ⟨⟨doc, _, ct, Heap.get?_push_size _ rfl⟩, up _ _ hD, fun b hb => ?_⟩
    rcases hb with rfl | rfl
    · exact new_off I0 le
    · exact oD
  | none =>
    refine PySem.W.kdv_makeTail (closure_ok frees) I0.ok.glob main code code0 gP ok found TB.gP bts fun d ct doc h' tk ext ge lt rec tab => ?_
    obtain ⟨d', oc, vs, t, e, r1, r2, r3⟩ := rec
    injection e with e
    subst e
    have nd := I0.hok.fresh ge
    have nP : D ≠ P := fun y => by
      rw [y, hP] at oD
      exact nomatch oD.1
    have lay := inv_table (h' := h'.push (PySem.W.kdv_obj "<lambda>" (lq X) params (.expr body) scope (lclo X scope) (.ref D) doc ((X.mg "__name__").getD .none) d ct)) (t' := tk) I0 hP (fun b o nb e => Heap.get?_push_of_some _ (ext b o nb e)) (Heap.get?_push_of_some _ tab) ge ⟨oc, vs, t, Heap.get?_push_of_some _ r1, r2, r3⟩
    have big := Nat.le_trans ge (Nat.le_of_lt lt)
    refine q _ d D (grown H P ps pos d (lq X)) _ lay (grown_ext hP nd) (grown_tabs hT hP ok one nd) upd_same ⟨⟨doc, _, ct, Heap.get?_push_size _ rfl⟩, Heap.get?_push_of_some _ (ext D _ nP hD), fun b hb => ?_⟩
    rcases hb with rfl | rfl
    · exact ⟨(upd_ne (Nat.ne_of_gt lt)).trans ((upd_ne (Nat.ne_of_gt (Nat.lt_of_lt_of_le (Heap.lt_size gP) big))).trans (I0.hok.fresh big)), (new_off I0 big).2⟩
    · exact ⟨(upd_ne (Nat.ne_of_lt (Nat.lt_of_lt_of_le sz0 ge))).trans ((upd_ne nP).trans oD.1), oD.2⟩
/-- one parameter a that the def around does not have, no other own names -/
structure LamD (N : List Str) (a : Str) (sc scope : Scope) : Prop where
  fun_ : scope.kind = .function ∧ scope.isCoroutine = false ∧ scope.isGenerator = false
  own : ∀ y ∈ scope.names, y.2 ≠ .cell ∧ (y.2 = .local → y.1 = a)
  held : ∀ y ∈ scope.names, y.2 = .free → (sc.names.lookup y.1 = some .cell ∨ sc.names.lookup y.1 = some .free)
  par : scope.names.lookup a = some .local
  out : a ∉ N
def lamDB (N : List Str) (a : Str) (sc scope : Scope) : Bool :=
  decide (scope.kind = .function) && !scope.isCoroutine && !scope.isGenerator && (scope.names.all fun y => !decide (y.2 = .cell) && (!decide (y.2 = .local) || y.1 == a) && (!decide (y.2 = .free) || decide (sc.names.lookup y.1 = some .cell) || decide (sc.names.lookup y.1 = some .free))) && decide (scope.names.lookup a = some .local) && !N.any (· == a)
theorem lamD_by {N : List Str} {a : Str} {sc scope : Scope} (h : lamDB N a sc scope = true) : LamD N a sc scope := by
  unfold lamDB at h
  simp only [Bool.and_eq_true, Bool.or_eq_true, Bool.not_eq_true', decide_eq_true_eq, decide_eq_false_iff_not, List.all_eq_true, beq_iff_eq] at h
  obtain ⟨⟨⟨⟨⟨h1, h2⟩, h3⟩, h4⟩, h5⟩, h6⟩ := h
  refine ⟨⟨h1, h2, h3⟩, fun y hy => ⟨(h4 y hy).1.1, fun e => (h4 y hy).1.2.resolve_left fun k => k e⟩, fun y hy e => ?_, h5, fun hm => ?_⟩
  · exact (or_assoc.mp (h4 y hy).2).resolve_left fun k => k e
  · have h7 : (N.any fun x => x == a) = true := List.any_eq_true.mpr ⟨a, hm, beq_self_eq_true a⟩
    exact nomatch h7.symm.trans h6
theorem LamD.has {N : List Str} {a : Str} {scope : Scope} (L : LamD N a X.env.scope scope) (ok : X.Ok) : ∀ y ∈ scope.names, y.2 = .free → ∃ c, X.env.cells.lookup y.1 = some c := fun y hy e => ok.has _ (L.held y hy e)
/-- a cell that the lambda holds is the cell around it, and each free name has one -/
theorem LamD.cell {N : List Str} {a : Str} {scope : Scope} (L : LamD N a X.env.scope scope) (ok : X.Ok) {y : Str} {c : Addr} (h : (lclo X scope).lookup y = some c) : X.env.cells.lookup y = some c := by
  rcases cloFrom_mem (PySem.mem_of_lookup h) with z | ⟨m, e⟩
  · exact nomatch z
  · have ⟨c1, h1⟩ := L.has ok _ m rfl
    rw [e, show X.env.cells.lookup y = some c1 from h1]
    rfl
theorem clo_has {scope : Scope} {y : Str} (h : scope.names.lookup y = some .free) : ∃ c, (lclo X scope).lookup y = some c := mem_lookup (cloFrom_has (acc := []) (PySem.mem_of_lookup h))
/-- the context of the body, when the call has laid its frame -/
theorem lam_entered {HZ : Hp} {s1 : Shared} {a : Str} {m : Str → Option Value} {A : Around} {outer : List Env} {E : XK} {scope : Scope} {f c : Addr} {h1 : Heap} {tk : Nat} (I : Inv X pins σ H s) (L : LamD X.N a X.env.scope scope) (e0 : Env0 X.prog X.w X.K X.mg X.base A outer s1 HZ) (calm : A.handled = none)
    (un : Un (frs X.stack) [] H HZ s.heap s1.heap) (ns : h1.Ns s1.heap.objs.size m) (kp : ∀ b o, s1.heap.get? b = some o → h1.get? b = some o) : Inv (lamCx X A outer s1 HZ E scope f c) [] σ HZ { s1 with heap := h1, toks := tk } := by
  have none_ : ∀ {b : Addr}, b ∉ ([] : List Addr) := fun z => nomatch z
  have through : ∀ {d : Addr} {v : Option Value}, H d = none → s.heap.IsCell d v → h1.IsCell d v := by
    rintro d v n ⟨o, ho, hd⟩
    obtain ⟨sl, ho'⟩ := un.any ho n none_
    exact ⟨_, kp _ _ ho', hd⟩
  have okL : (lamCx X A outer s1 HZ E scope f c).Ok :=
    { mod := e0.mod, kind := L.fun_.1, glob := rfl, blt := rfl, above := Nat.le_refl _, inj := fun x y d h1 h2 => I.ok.inj x y d (L.cell I.ok h1) (L.cell I.ok h2),
      has := fun x hx => (show scope.names.lookup x = some .cell ∨ scope.names.lookup x = some .free from hx).elim (fun z => absurd rfl (L.own _ (PySem.mem_of_lookup z)).1) clo_has,
      cab := fun _ _ z => (nomatch z), hd := fun _ => calm, frames := Around.frames_deeper e0.frames, stk := .inr ⟨rfl, rfl⟩, exf := fun _ z => absurd z none_, bs := e0.bs, bsz := e0.bsz, noex := fun _ _ _ => none_, exfs := fun _ z => absurd z none_, funs := e0.funs, frf := e0.frf }
  refine { ok := okL, os := rfl, bare := e0.bare, base := Un.kept kp, loc := ⟨_, ns, fun i y v hy hv vis => ?_⟩, cell := fun y d h => ?_, free := e0.hok.fresh (Nat.le_refl _), freeC := fun y d h => ?_, pin := fun p hp => (nomatch hp), hok := e0.hok.kept kp, len := I.len }
  · have vis : Vis scope y := vis
    have hy : X.N[i]? = some y := hy
    rcases vis with k | k | k
    · have ea : y = a := (L.own _ (PySem.mem_of_lookup k)).2 rfl
      exact absurd (List.mem_of_getElem? (ea ▸ hy)) L.out
    · exact absurd rfl (L.own _ (PySem.mem_of_lookup k)).1
    · have up := L.held _ (PySem.mem_of_lookup k) rfl
      obtain ⟨m0, -, look⟩ := I.loc
      obtain ⟨r, hr, at0⟩ := look i y v hy hv (.inr up)
      obtain ⟨d, hd⟩ := clo_has (X := X) k
      have hd0 := L.cell I.ok hd
      refine ⟨r, hr, .inr ⟨.inr k, d, hd, ?_⟩⟩
      rcases at0 with ⟨loc, -⟩ | ⟨-, d1, h2, isc⟩
      · have loc : X.env.scope.names.lookup y = some .local := loc
        rcases up with z | z <;> exact nomatch loc.symm.trans z
      · obtain rfl : d = d1 := Option.some.inj (hd0.symm.trans h2)
        exact through (I.freeC y d hd0) isc
  · have hd := L.cell I.ok h
    exact (I.cell y d hd).imp fun v z => through (I.freeC y d hd) z
  · have hd := L.cell I.ok h
    obtain ⟨v, o, ho, -⟩ := I.cell y d hd
    exact un.free d o ho (I.freeC y d hd) none_
/-- what a call ends in is the value of the call's expression -/
theorem call_ends {CX : CXT} {E : XK} {Q : VK} {Y : Cx} {pinsY : List (Addr × Obj)} {τ : L2.St} {G : Hp} {z : Shared} {v : Value} {us : List Value} (J : Inv Y pinsY τ G z) (pass : Passes CX Y E)
    (run : codeAny (model Y.prog Y.w) Y.A (.call v ⟨us, []⟩) (CR CX Y.stack Y.prog Y.w G z Q E) z) : wpAny (model Y.prog Y.w) Y.A (call v us) (EP Y pinsY τ Q) Y.xe z := by
  refine wpAny_call (codeAny_mono run ?_)
  rintro (e | fl) z' k
  · exact pass pinsY τ G z e z' J k
  · cases fl with
    | ret r => exact J.after k
    | _ => exact k.elim
/-- the lambda called with nothing, in the def that got it -/
theorem pe_actD {CXg : CXT} {Eg : XK} {Ng : List Str} {qg : Str} {sg : Scope} {g f c D : Addr} {cdg u : Value} {params : Arguments} {body : Expr} {scope : Scope} {k i : Nat} {a par : Str} {pn : List (Addr × Obj)} {xe : Value → Shared → Prop} {W : WX} {E : XK} {tb : TE} {p1 p2 : Pos} {Y : Cx}
    (eY : Y = (cxOf CXg X.prog X.w X.K X.mg X.base Ng qg sg g cdg X.A X.stack s H Eg).tr pn xe) (I : Inv X pins σ H s) (L : LamD X.N par X.env.scope scope) (F : LamAt X H s.heap params body scope u f c D)
    (binds : ∀ doc pm ct, ∃ k, bindArgs (PySem.W.kdv_fn "<lambda>" (lq X) params (.expr body) scope (lclo X scope) (.ref D) doc pm (.ref c) ct) ⟨[], []⟩ = seqItems? (.ref D) >>= k ∧ k (some #[u]) = pure [(par, u)])
    (tk : Takes Y W) (up : ∀ cls d τ G, E cls d G → W cls d τ G) (room : Room (k + 1) (X.A.deeper (envOfC qg sg s.heap.objs.size g cdg)))
    (hb : ∀ A outer s H, Room k (A.deeper (lamEnv X scope s.heap.objs.size f c)) → PE (lamCx X A outer s H E scope f c) body tb)
    (hN : Ng[i]? = some a) (vis : Vis sg a) (hd : (a == ("__debug__" : Str)) = false) (hcd : (a == ("__classdict__" : Str)) = false) :
    PE Y (.Call (.Name a p1) [] [] p2) fun τ G Q => τ[i]? = some (some (.ref f)) ∧ G c = some (CodeO c (lq X)) ∧ tb σ G Q := by
  subst eY
  constructor
  rintro pinsY sY τ G Q J ⟨at0, cod, rd⟩
  refine wpAny_Call_Name_kw (thn ((pe_var (pos := p1) hN vis hd hcd).run pinsY sY τ G (fun v G' => v = .ref f ∧ G' = G) J ⟨_, at0, rfl, rfl⟩) ?_)
  rintro y s1 ⟨v, G1, J1, rel, rfl, rfl⟩
  obtain rfl : y = Value.ref f := rel
  obtain ⟨doc, pm, ct, hf⟩ := F.fn
  have un : Un (frs X.stack) [] H G1 s.heap s1.heap := J1.base
  have hf1 := un.keep f _ hf (F.off f (.inl rfl)).1 (F.off f (.inl rfl)).2 (fun z => nomatch z)
  have hD1 := un.keep D _ F.tup (F.off D (.inr rfl)).1 (F.off D (.inr rfl)).2 (fun z => nomatch z)
  obtain ⟨⟨oc, vs, t, k1, k2, k3⟩, -, -⟩ := J1.hok c _ cod
  refine PySem.W.callWith_F0 ⟨_, _, _, _, hf1⟩ ?_
  refine call_ends (us := []) J1 (passes_call tk up) (PySem.W.kla_callFunE room.depth hf1 rfl L.fun_.2.1 L.fun_.2.2 rfl ⟨c, oc, vs, t, rfl, k1, k2, k3⟩ ?_)
  obtain ⟨kk, b1, b2⟩ := binds doc pm ct
  rw [b1]
  refine wpAny_bind (wpAny_seqItems hD1 rfl ?_)
  rw [show [u].toArray = #[u] from rfl, b2]
  refine wpAny_pure (wpAny_newFunctionEnv (fun y hy => (L.own y hy).1) (fun y hy => List.mem_singleton.mp hy ▸ L.par) (fun h1 ns sb => ⟨J1.nolimit.fresh _ sb, ?_⟩) L.fun_.1)
  have ent := lam_entered (E := E) (f := f) (c := c) (tk := s1.toks + [(par, u)].length) I L J1.env0 room.hd un ns fun b o e => sb.extBut b o (Nat.ne_of_lt (Heap.lt_size e)) (Heap.get?_push_of_some _ e)
  exact PySem.W.kla_codeExpr (wpAny_mono ((hb _ _ s1 G1 (room.deeper _)).run [] _ _ G1 Q ent rd) (fun _ _ ⟨w', G2, J2, rv, fin⟩ => ⟨w', G2, J2.os, J2.bare, J2.base, J2.hok, rv, fin⟩) fun _ _ z => z)
/-- x(lambda par=e: body) -/
theorem pe_lamcallD {T : List (Addr × Str)} {TT : (XK → Hp → VK → Prop) → Hp → VK → Prop} {x a par : Str} {g c P : Addr} {k : Nat} {pg : Arguments} {bg : List Stmt} {sg : Scope} {dV kV doc pm cdv ct oc : Value} {an od : Option Addr} {osl : Array (Option Value)} {Ng : List Str}
    {params : Arguments} {body e : Expr} {scope : Scope} {t : XK → TE} {p lpos pos : Pos} {n : Int} (hg : Gl X x) (hm : X.mg x = some (.ref g)) (hk : PySem.W.keepIn X.K (.ref g) = true)
    (lk : X.K.lookup g = some ⟨oc, od, .func (PySem.W.fnOf x x pg bg sg dV kV doc pm an cdv ct), osl⟩) (cg : PySem.W.codeIn X.K cdv x = true) (bs : L2.Binds X.K (PySem.W.fnOf x x pg bg sg dV kV doc pm an cdv ct) [a] []) (Sg : FnScope Ng [a] sg) (hNg : Ng[0]? = some a) (vis : Vis sg a)
    (hG : GivesTo X Ng x sg g cdv bg a (lq X) TT) (TB : TabB X.base X.mg c P) (code : X.env.code = .ref c) (mem : (P, lq X) ∈ T) (one : ∀ p ∈ T, p.1 = P → p.2 = lq X) (room : Room (k + 2) X.A) (L : LamD X.N par X.env.scope scope) (he : PE X e (tC (.int n))) (dfs : defaultsOf params X.env = ([eval e X.env], [])) (kw : params.kwonlyargs = [])
    (binds : ∀ (q : Str) (cl : List (Str × Addr)) (pm cv ctv u : Value) (D : Addr) (doc : Value), ∃ k, bindArgs (PySem.W.kdv_fn "<lambda>" q params (.expr body) scope cl (.ref D) doc pm cv ctv) ⟨[], []⟩ = seqItems? (.ref D) >>= k ∧ k (some #[u]) = pure [(par, u)])
    (hb : ∀ (A : Around) (outer : List Env) (s : Shared) (H : Hp) (E : XK) (f c : Addr), Room k (A.deeper (lamEnv X scope s.heap.objs.size f c)) → PE (lamCx X A outer s H E scope f c) body (t E))
    (h1 : (x == ("__debug__" : Str)) = false := by decide) (h2 : (a == ("__debug__" : Str)) = false := by decide) (h3 : (a == ("__classdict__" : Str)) = false := by decide) : PE X (.Call (.Name x p) [.Lambda params body scope lpos] [] pos) (tLam T TT t) where
  run pins s σ H Q I := by
    rintro ⟨tabs, give⟩
    have arm : wpAny (model X.prog X.w) X.A (eval (.Lambda params body scope lpos) X.env) (fun v s1 => ∃ f d D H1, v = .ref f ∧ Inv X pins σ H1 s1 ∧ ExtN H H1 ∧ Tabs T H1 ∧ H1 d = some (CodeO d (lq X)) ∧ ∃ u, LamAt X H1 s1.heap params body scope u f d D) X.xe s := by
      rw [arm_eval_Lambda, dfs]
      refine wpAny_bind (wpAny_bind (thn (he.run pins s σ H (fun _ G => G = H) I rfl) ?_))
      rintro u s0 ⟨_, _, I0, -, rfl⟩
      refine wpAny_bind (wpAny_holding (wpAny_pure (wpAny_pure (wpAny_bind (wpAny_holding (wpAny_pure ?_))))))
      exact lam_made I0 TB code mem one tabs (L.has I0.ok) kw fun f d D H1 s1 I1 ext tabs1 cod F => ⟨f, d, D, H1, rfl, I1, ext, tabs1, cod, u, F⟩
    refine wpAny_Call_Name_kw (ld_glob I hg hm (PySem.W.callWith_K (h₀ := X.base) I.ok.mod.kin hk ?_ (by rfl) (by rfl)) h1)
    show wpAny _ _ (spliced ((false, eval (.Lambda params body scope lpos) X.env) :: backTo pos (starEach [] X.env))) _ _ s
    refine Calls.spliced_cons (thn arm ?_)
    rintro v s1 ⟨f, d, D, H1, rfl, I1, ext, tabs1, cod, u, F⟩
    refine Calls.spliced_nil ⟨I1.kIn, call_ends (CX := C8.CX0) (E := C8.E0) I1 pass0 (run_ofS (N := Ng) (ps := [a]) (us := [.ref f]) (vs := [.ref f]) lk cg Sg room I1.env0 (bs s1 [.ref f] I1.kIn rfl) (.cons rfl .nil) rfl fun room1 => ?_)⟩
    obtain ⟨t1, ps1, rd1⟩ := hG f d s1 H1 Q (fun E G Q' => t E σ G Q') (fun W pn xe E p1 p2 tk up => pe_actD rfl I1 L F (fun doc pm ct => binds _ _ pm _ ct u D doc) tk up room1 (fun A outer s H r => hb A outer s H E f d r) hNg vis h2 h3) cod (give H1 ext tabs1)
    exact ⟨t1, ps1.nox, rd1⟩
end
end LamX

/-! t[::-1], t a tuple -/
namespace L2
open PySem PySem.Spec PyProof.Rows
section
variable {prog : Program} {w : World} {A : Around} {E : Value → Shared → Prop} {s : Shared}
theorem adjust_back (n : Nat) : Builtin.Slice.sliceAdjust none none (-1) (n : Int) = ((n : Int) - 1, -1) := by
  unfold Builtin.Slice.sliceAdjust
  simp
theorem places_back (n : Nat) : Builtin.Slice.slicePlaces ((n : Int) - 1) (-1) (-1) = n := by
  unfold Builtin.Slice.slicePlaces
  simp only [show ¬ ((-1 : Int) > 0) by decide, if_false, show (- -1 : Int) = 1 by decide, Int.ediv_one]
  split <;> omega
theorem pick_back (xs : Array Value) : ((List.range xs.size).filterMap fun (k : Nat) => xs[(((xs.size : Int) - 1) + (k : Int) * -1).toNat]?).toArray = xs.toList.reverse.toArray := by
  rw [← PySem.W.krv_pick]
  unfold slicePick
  rw [PySem.W.krv_bounds]
  show _ = ((sliceRange ((xs.size : Int) - 1) (-1) (-1)).filterMap (xs[·]?)).toArray
  rw [PySem.W.krv_sliceRange, List.filterMap_map]
  have same : ∀ l : List Nat, (∀ k ∈ l, k < xs.size) → l.filterMap (fun (k : Nat) => xs[(((xs.size : Int) - 1) + (k : Int) * -1).toNat]?) = l.filterMap ((fun x => xs[x]?) ∘ fun k => xs.size - 1 - k) := by
    intro l
    induction l with
    | nil => exact fun _ => rfl
    | cons k l more =>
      intro h
      have hk := h k List.mem_cons_self
      rw [List.filterMap_cons, List.filterMap_cons, more fun j hj => h j (.tail _ hj), show (((xs.size : Int) - 1) + (k : Int) * -1).toNat = xs.size - 1 - k by omega]
      rfl
  rw [same _ fun k hk => List.mem_range.mp hk]
theorem getItem_tuple_back {t sl : Addr} {items : Array Value} {vl vu vs : Value} {Q : Value → Shared → Prop} (ht : IsTup s.heap t items) (hs : s.heap.IsSliceOf sl vl vu vs) (pl : IsPart vl none) (pu : IsPart vu none) (ps : IsPart vs (some (-1)))
    (h : Q (.ref s.heap.objs.size) { s with heap := s.heap.push { cls := .type "tuple", data := .seq items.toList.reverse.toArray } }) (hsz : items.size ≤ sizeLine) : wpAny (model prog w) A (getItem (.ref t) (.ref sl)) Q E s := by
  have fit : sizeOk (.seq items.toList.reverse.toArray) := by
    show items.toList.reverse.toArray.size ≤ sizeLine
    rwa [List.size_toArray, List.length_reverse, Array.length_toList]
  obtain ⟨os, gos, gcs, gds⟩ := id hs
  have tys : s.TypeIs (.ref sl) "slice" := ⟨os, gos, gcs⟩
  unfold getItem
  try with_reducible refine wpAny_holding ?_
  first | refine wpAny_bind (wpAny_pure ?_) | skip
  refine wpAny_bind (wpAny_sequenceKey ht.typeIs (by decide) ?_)
  refine wpAny_bind (wpAny_callSpecial?_slot (name := Str.ofString "__getitem__") ht.typeIs PyProof.Rows.slot_tuple_getitem (wpAny_call_entry PyProof.Rows.slot_tuple_getitem ht.typeIs entry_tuple_getitem ?_ (args_tuple_getitem _ _)))
  show wpAny _ _ (Builtin.Tuple.tupleItemsOf (.ref t) >>= _) _ _ s
  refine wpAny_bind (tupleItemsOf_ ht (wpAny_bind (wpAny_typeOf tys ?_)))
  rw [if_pos (by decide)]
  refine wpAny_bind (m := Builtin.Slice.sliceApplied (.ref sl) (pure ((items.size : Nat) : Int))) ?_
  unfold Builtin.Slice.sliceApplied Builtin.Slice.sliceFields
  refine wpAny_bind (wpAny_bind (wpAny_field gos gds (x := vl) rfl (wpAny_bind (wpAny_field gos gds (x := vu) rfl (wpAny_bind (wpAny_field gos gds (x := vs) rfl (wpAny_pure ?_)))))))
  refine wpAny_bind (HT.slicePart_ ps ?_)
  refine wp_if_neg (by decide) ?_
  refine wpAny_bind (HT.slicePart_ pl (wpAny_bind (HT.slicePart_ pu (wpAny_bind (wpAny_pure ?_)))))
  show wpAny _ _ (match Builtin.Slice.sliceAdjust none none (-1) (items.size : Int) with | (lo, hi) => pure (lo, (-1 : Int), Builtin.Slice.slicePlaces lo hi (-1))) _ _ s
  rw [adjust_back]
  show wpAny _ _ (pure ((items.size : Int) - 1, (-1 : Int), Builtin.Slice.slicePlaces ((items.size : Int) - 1) (-1) (-1))) _ _ s
  rw [places_back]
  refine wpAny_pure ?_
  dsimp only
  refine wp_if_neg (by simp) ?_
  rw [pick_back]
  first
    | exact wpAny_bind (m := Builtin.Tuple.tupleExact _) (wpAny_newObj_type (wpAny_pure ⟨_, rfl, wpAny_pure h⟩) fit)
    | exact wpAny_bind (m := Builtin.Tuple.tupleExact _) (wpAny_newObj_type (wpAny_bind (wpAny_pure (wpAny_pure ⟨_, rfl, wpAny_pure h⟩))) fit)
    | exact wpAny_bind (wpAny_bind (m := Builtin.Tuple.tupleExact _) (wpAny_newObj_type (wpAny_pure (wpAny_pure ⟨_, rfl, wpAny_pure h⟩)) fit))
    | exact wpAny_bind (wpAny_bind (m := Builtin.Tuple.tupleExact _) (wpAny_newObj_type (wpAny_pure ⟨_, rfl, wpAny_pure h⟩) fit))
end
section
variable {X : Cx}
def tRevT (K : PySem.W.Frag) (te : TE) : TE := fun σ H Q => te σ H fun x H1 => ∃ a xs, x = .ref a ∧ SqT K H1 a xs ∧ ∀ p, H1 p = none → Q (.ref p) (upd H1 p (.tup xs.reverse))
theorem pe_revT {e : Expr} {te : TE} {k : Nat} {p1 p2 p3 pos : Pos} (he : PE X e te) : PE X (.Subscript e (.Slice none none (some (.UnaryOp .USub (.Constant (.int 1) k p1) p2)) p3) pos) (tRevT X.K te) := by
  refine ⟨fun pins s σ H Q I h => ?_⟩
  refine Subscript_ (thn (he.run pins s σ H _ I h) fun v s1 ⟨x, H1, I1, r1, q1⟩ => ?_)
  obtain ⟨a, xs, rfl, hx, q⟩ := q1
  cases r1
  have back : PO X (some (.UnaryOp .USub (.Constant (.int 1) k p1) p2)) (tPart (tUn (rU fun i => .int (-i)) (tC (.int 1)))) := po_some (pe_un un_neg pe_int)
  refine wpAny_Slice (thn (po_none.run pins s1 σ H1 (fun o H2 => o = none ∧ H2 = H1) I1 ⟨rfl, rfl⟩) fun vl s2 ⟨l, H2, I2, pl, el, e2⟩ => ?_)
  subst el e2
  refine thn (po_none.run pins s2 σ H2 (fun o H3 => o = none ∧ H3 = H2) I2 ⟨rfl, rfl⟩) fun vu s3 ⟨u, H3, I3, pu, eu, e3⟩ => ?_
  subst eu e3
  refine thn (back.run pins s3 σ H3 (fun o H4 => o = some (-1) ∧ H4 = H3) I3 ⟨1, rfl, -1, rfl, rfl, rfl⟩) fun vs s4 ⟨o, H4, I4, ps, eo, e4⟩ => ?_
  subst eo e4
  have I5 : Inv X pins σ H4 { s4 with heap := s4.heap.push { cls := .type "slice", data := .fields #[vl, vu, vs] } } := I4.kept (t' := s4.toks) fun b ob q => Heap.get?_push_of_some _ q
  obtain ⟨its, r, ht, hz⟩ := I5.tuple hx
  show wpAny (model X.prog X.w) X.A (subscriptTail e (.Slice none none (some (.UnaryOp .USub (.Constant (.int 1) k p1) p2)) p3) (.ref a) (.ref s4.heap.objs.size)) (EP X pins σ Q) X.xe { s4 with heap := s4.heap.push { cls := .type "slice", data := .fields #[vl, vu, vs] } }
  refine tail_any (ops := [.ref a, .ref s4.heap.objs.size]) ht.typeIs PyProof.Rows.slot_tuple_getitem.lookup ?_ (by with_unfolding_all rfl)
  have hlen := r.length
  refine getItem_tuple_back ht (Heap.IsSliceOf.new _ vl vu vs) pl pu ps ?_ (by rw [List.size_toArray]; omega)
  refine ⟨.ref _, _, I5.laid (t' := s4.toks) (o := .tup xs.reverse) (fun b ob q => Heap.get?_push_of_some _ q) (Nat.le_refl _) ?_, rfl, q _ (I5.hok.fresh (Nat.le_refl _))⟩
  exact ⟨by rw [List.length_reverse]; exact hz, _, r.reverse, IsTup.new _ _⟩
end
end L2

namespace Half
open PySem PySem.Spec PyProof.Rows L2
/-! ### data of texts, numbers and tuples -/
mutual
inductive TD (K : PySem.W.Frag) (H : Hp) : V → PyData → Prop
  | bl (b : Bool) : TD K H (.bl b) (.bool b)
  | int (i : Int) : TD K H (.int i) (.int i)
  | str (x : Str) : TD K H (.str x) (.str x)
  | tup {a : Addr} {xs : List V} {ds : List PyData} : SqT K H a xs → TDAll K H xs ds → TD K H (.ref a) (.tuple ds)
inductive TDAll (K : PySem.W.Frag) (H : Hp) : List V → List PyData → Prop
  | nil : TDAll K H [] []
  | cons {v : V} {vs : List V} {d : PyData} {ds : List PyData} : TD K H v d → TDAll K H vs ds → TDAll K H (v :: vs) (d :: ds)
end
/-- every tuple stands -/
def Kp (K : PySem.W.Frag) (H H' : Hp) : Prop := ∀ a xs, SqT K H a xs → SqT K H' a xs
theorem _root_.L2.Same.kp {K : PySem.W.Frag} {H H' : Hp} (s : Same H H') : Kp K H H' := fun _ _ h => s.sqT h
theorem Kp.refl {K : PySem.W.Frag} {H : Hp} : Kp K H H := fun _ _ h => h
theorem Kp.trans {K : PySem.W.Frag} {H H1 H2 : Hp} (a : Kp K H H1) (b : Kp K H1 H2) : Kp K H H2 := fun _ _ h => b _ _ (a _ _ h)
theorem Kp.upd {K : PySem.W.Frag} {H : Hp} {p : Addr} {o u : HO} (hp : H p = some o) (h1 : ∀ xs, o ≠ .tup xs) (h2 : ∀ q xs, o ≠ .frz q (.tup xs)) : Kp K H (L2.upd H p u) := fun a xs h => by
  rcases h with (h | ⟨q, h⟩) | h
  · exact .inl (.inl (by rw [upd_ne (ne_of h hp (fun z => h1 _ z.symm))]; exact h))
  · exact .inl (.inr ⟨q, by rw [upd_ne (ne_of h hp (fun z => h2 _ _ z.symm))]; exact h⟩)
  · exact .inr h
mutual
theorem TD.kp {K : PySem.W.Frag} {H H' : Hp} (k : Kp K H H') : ∀ {v : V} {d : PyData}, TD K H v d → TD K H' v d
  | _, _, .bl b => .bl b
  | _, _, .int i => .int i
  | _, _, .str x => .str x
  | _, _, .tup h hs => .tup (k _ _ h) (TDAll.kp k hs)
theorem TDAll.kp {K : PySem.W.Frag} {H H' : Hp} (k : Kp K H H') : ∀ {vs : List V} {ds : List PyData}, TDAll K H vs ds → TDAll K H' vs ds
  | _, _, .nil => .nil
  | _, _, .cons h hs => .cons (TD.kp k h) (TDAll.kp k hs)
end
mutual
theorem TD.dp {K : PySem.W.Frag} {H : Hp} : ∀ {v : V} {d : PyData}, TD K H v d → Dp K H v d
  | _, _, .bl b => .bl b
  | _, _, .int i => .int i
  | _, _, .str x => .str x
  | _, _, .tup h hs => .tup h (TDAll.dp hs)
theorem TDAll.dp {K : PySem.W.Frag} {H : Hp} : ∀ {vs : List V} {ds : List PyData}, TDAll K H vs ds → DpAll K H vs ds
  | _, _, .nil => .nil
  | _, _, .cons h hs => .cons (TD.dp h) (TDAll.dp hs)
end
theorem TDAll.len {K : PySem.W.Frag} {H : Hp} : ∀ {vs : List V} {ds : List PyData}, TDAll K H vs ds → vs.length = ds.length
  | _, _, .nil => rfl
  | _, _, .cons _ hs => congrArg Nat.succ hs.len
theorem TDAll.strs {K : PySem.W.Frag} {H : Hp} : ∀ {vs : List V} {ss : List Str}, TDAll K H vs (ss.map PyData.str) → vs = ss.map V.str
  | _, [], h => by cases h; rfl
  | _, z :: ss, h => by
    cases h with
    | cons h hs =>
      cases h
      rw [TDAll.strs hs]
      rfl
theorem TDAll.pairs {K : PySem.W.Frag} {H : Hp} : ∀ {vs : List V} {ps : List (Str × Int)}, TDAll K H vs (ps.map pairD) → ∃ ts : List Addr, vs = ts.map V.ref ∧ ts.length = ps.length ∧ ∀ (i : Nat) t p, ts[i]? = some t → ps[i]? = some p → SqT K H t [.str p.1, .int p.2]
  | _, [], h => by cases h; exact ⟨[], rfl, rfl, fun i t p h _ => by simp at h⟩
  | _, q :: ps, h => by
    cases h with
    | cons h hs =>
      obtain ⟨ts, rfl, hl, ht⟩ := TDAll.pairs hs
      cases h with
      | @tup a xs ds hq hd =>
        cases hd with
        | cons h1 hd =>
          cases hd with
          | cons h2 hd =>
            cases hd
            cases h1
            cases h2
            refine ⟨a :: ts, rfl, by simp [hl], fun i t p e1 e2 => ?_⟩
            cases i with
            | zero =>
              have z1 : a = t := by simpa using e1
              have z2 : q = p := by simpa using e2
              subst z1 z2
              exact hq
            | succ i => exact ht i t p (by simpa using e1) (by simpa using e2)
theorem TD.strs {K : PySem.W.Frag} {H : Hp} {v : V} {ss : List Str} (h : TD K H v (.tuple (ss.map PyData.str))) : ∃ a, v = .ref a ∧ SqT K H a (ss.map V.str) := by
  cases h with
  | tup hq hd =>
    rw [hd.strs] at hq
    exact ⟨_, rfl, hq⟩
theorem TD.needs {K : PySem.W.Frag} {H : Hp} {v : V} {ps : List (Str × Int)} (h : TD K H v (.tuple (ps.map pairD))) : ∃ a, v = .ref a ∧ NeedsAt K H a ps := by
  cases h with
  | tup hq hd =>
    obtain ⟨ts, rfl, hl, ht⟩ := hd.pairs
    exact ⟨_, rfl, ts, hq, hl, ht⟩
/-! ### displays of written data -/
def Y (K : PySem.W.Frag) (t : TE) (d : PyData) : Prop := ∀ σ H Q, (∀ v H', Same H H' → TD K H' v d → Q v H') → t σ H Q
def YA (K : PySem.W.Frag) (t : TA) (ds : List PyData) : Prop := ∀ σ H Q, (∀ vs H', Same H H' → TDAll K H' vs ds → Q vs H') → t σ H Q
section
variable {K : PySem.W.Frag}
theorem Y.str {z : Str} : Y K (tC (.str z)) (.str z) := fun _ H _ h => h _ H (Same.refl H) (.str z)
theorem Y.int {i : Int} : Y K (tC (.int i)) (.int i) := fun _ H _ h => h _ H (Same.refl H) (.int i)
theorem Y.bl {b : Bool} : Y K (tC (.bl b)) (.bool b) := fun _ H _ h => h _ H (Same.refl H) (.bl b)
theorem YA.nil : YA K tNil [] := fun _ H _ h => h _ H (Same.refl H) .nil
theorem YA.cons {t : TE} {ts : TA} {d : PyData} {ds : List PyData} (a : Y K t d) (b : YA K ts ds) : YA K (tCons t ts) (d :: ds) := fun σ H Q h =>
  a σ H _ fun v H1 s1 t1 => b σ H1 _ fun vs H2 s2 t2 => h (v :: vs) H2 (s1.trans s2) (.cons (t1.kp s2.kp) t2)
theorem Y.tup {ta : TA} {ds : List PyData} (a : YA K ta ds) (hl : ds.length ≤ 100 := by simp) : Y K (tTup ta) (.tuple ds) := fun σ H Q h =>
  a σ H _ fun vs H1 s1 t1 => ⟨by rw [t1.len, sizeLine_eq]; omega, fun p hp => h (.ref p) _ (s1.trans (Same.upd_new hp)) (.tup (.inl (.inl upd_same)) (t1.kp (Same.upd_new hp).kp))⟩
end
/-! ### d[k] = v as a target -/
theorem set_dict {X : Cx} (hu : X.A.units + 1 < cLine) : PSet X (fun o i v H Q => ∃ a H4, o = .ref a ∧ DPut H a i v H4 ∧ Q H4) := by
  intro pins s σ H o i v ov iv u Q I ro ri rv h
  obtain ⟨a, H4, rfl, g, q⟩ := h
  cases ro
  exact d_setItem hu I g ri rv fun s4 I4 => ⟨H4, I4, q⟩
end Half

namespace Half
open PySem PySem.Spec PyProof.Rows L2
abbrev EiPs : List Str := ["self", "name", "version", "scripts", "needs", "first", "against"]
/-- Edition's __init__ as the top has made it, with its defaults -/
structure EdF (P : Program) (w : World) (K : PySem.W.Frag) (mg : Str → Option Value) (base : Heap) (C CE : Addr) (f : Addr) (fd : FuncData) (aS z1 z2 z3 : Addr) : Prop where
  ok : FnOk P w K mg base (L2.CX P w) 6 f fd EiPs (spEi K C CE)
  fn : FunD K "__init__" "Edition.__init__" (defArgs sEi) (defBody sEi) (defScope sEi) [] [("scripts", .ref aS), ("needs", .ref z1), ("first", .ref z2), ("against", .ref z3)] f fd
  make : Mk K C f
  mgC : mg "Edition" = some (.ref C)
  tS : ∀ H, SqT K H aS (SCR.map V.str)
  t1 : ∀ H, SqT K H z1 []
  t2 : ∀ H, SqT K H z2 []
  t3 : ∀ H, SqT K H z3 []
section
variable {P : Program} {w : World} {K : PySem.W.Frag} {mg : Str → Option Value} {base : Heap} {C CE : Addr} {f : Addr} {fd : FuncData} {aS z1 z2 z3 : Addr}
theorem EdF.kb4 (D : EdF P w K mg base C CE f fd aS z1 z2 z3) : ∃ g, KBn K fd EiPs 3 ["scripts", "needs", "first", "against"] g (fun vs zs => vs ++ zs) := by
  obtain ⟨mv, h⟩ := D.fn.kbinds0 (ps := EiPs) 3 ["scripts", "needs", "first", "against"] [] (fun us _ ws => us ++ ws) (by simp) (fun q h => by cases h) (fun r1 _ r3 => r1.append r3)
    (fun D doc pm an cdv ct us mv ws h1 h2 h3 => match us, ws, h1, h3 with | [_, _, _], [_, _, _, _], _, _ => rfl)
  exact ⟨_, h⟩
theorem EdF.kb1 (D : EdF P w K mg base C CE f fd aS z1 z2 z3) : ∃ g, KBn K fd EiPs 3 ["scripts"] g (fun vs zs => vs ++ zs ++ [.ref z1, .ref z2, .ref z3]) := by
  obtain ⟨mv, h⟩ := D.fn.kbinds0 (ps := EiPs) 3 ["scripts"] [("needs", .ref z1), ("first", .ref z2), ("against", .ref z3)] (fun us mv ws => us ++ ws ++ mv) (by simp) (fun q h => List.mem_cons_of_mem _ h) (fun r1 r2 r3 => (r1.append r3).append r2)
    (fun D doc pm an cdv ct us mv ws h1 h2 h3 => match us, mv, ws, h1, h2, h3 with | [_, _, _], [_, _, _], [_], _, _, _ => ⟨_, _, _, _, _, _, rfl, rfl, _, _, _, _, _, _, rfl, rfl, _, _, _, _, _, _, rfl, rfl, rfl⟩)
  exact ⟨_, h⟩
theorem EdF.b0 (D : EdF P w K mg base C CE f fd aS z1 z2 z3) : ∃ ds, Vals [.ref aS, .ref z1, .ref z2, .ref z3] ds ∧ Binds K fd EiPs ds :=
  D.fn.binds0 (ps := EiPs) 3 (by simp) rfl (fun D doc pm an cdv ct us ks h1 h2 => match us, ks, h1, h2 with | [_, _, _], [_, _, _, _], _, _ => ⟨_, _, _, _, _, _, rfl, rfl, _, _, _, _, _, _, rfl, rfl, _, _, _, _, _, _, rfl, rfl, _, _, _, _, _, _, rfl, rfl, rfl⟩)
end
end Half

namespace Half
open PySem PySem.Spec PyProof.Rows L2
/-- a property -/
structure Prp (P : Program) (w : World) (K : PySem.W.Frag) (mg : Str → Option Value) (base : Heap) (C : Addr) (x : Str) (i : Nat) : Prop where
  ex : ∃ p g fd, PropOf K C x p g ∧ FnOk P w K mg base CX0 1 g fd ["self"] (spGet C i) ∧ Binds K fd ["self"] []
theorem pe_prp {X : Cx} {C : Addr} {x : Str} {i : Nat} {e : Expr} {pos : Pos} {ta : TE} (D : Prp X.prog X.w X.K X.mg X.base C x i) (cl : Cls X.K C) (hr : Room 2 X.A) (he : PE X e ta) (hab : attributeBase e x X.env (eval e X.env) = eval e X.env := by rfl) :
    PE X (.Attribute e x pos) (tProp C (spGet C i) [] E0 ta) := by
  obtain ⟨p, g, fd, h1, h2, h3⟩ := D.ex
  exact pe_prop he cl h1 h2 hr h3 .nil pass0 hab
/-- == of editions -/
structure EqF (P : Program) (w : World) (K : PySem.W.Frag) (mg : Str → Option Value) (base : Heap) (C : Addr) : Prop where
  ex : ∃ f fd, FnOk P w K mg base CX0 1 f fd ["self", "other"] (spEq K C) ∧ OwnEqC K C f ∧ Binds K fd ["self", "other"] []
theorem op_eqE {X : Cx} {C : Addr} (D : EqF X.prog X.w X.K X.mg X.base C) (hr : Room 2 X.A) : OpR X (compareOp .Eq) (rEqO C (spEq X.K C) id) := by
  obtain ⟨f, fd, h1, h2, h3⟩ := D.ex
  exact op_eqO h1 h2 h3 (hr.mono (by decide))
theorem op_neE {X : Cx} {C : Addr} (D : EqF X.prog X.w X.K X.mg X.base C) (hr : Room 2 X.A) : OpR X (compareOp .NotEq) (rEqO C (spEq X.K C) not) := by
  obtain ⟨f, fd, h1, h2, h3⟩ := D.ex
  exact op_neO h1 h2 h3 hr
/-- all that the law asks of Edition -/
structure EdAll (P : Program) (w : World) (K : PySem.W.Frag) (mg : Str → Option Value) (base : Heap) (C CE : Addr) : Prop where
  ei : ∃ f fd aS z1 z2 z3, EdF P w K mg base C CE f fd aS z1 z2 z3
  eq : EqF P w K mg base C
  cl : Cls K C
  p0 : Prp P w K mg base C "name" 0
  p1 : Prp P w K mg base C "version" 1
  p2 : Prp P w K mg base C "scripts" 2
  p3 : Prp P w K mg base C "needs" 3
  p4 : Prp P w K mg base C "first" 4
  p5 : Prp P w K mg base C "against" 5
theorem EdIs.ins {K : PySem.W.Frag} {H : Hp} {C a : Addr} {e : Ed} (h : EdIs K H C a e) : ∃ dx fs, H a = some (.ins C dx fs) := by
  obtain ⟨⟨s, n, f, g, ⟨dx, p, h1, h2⟩, h3⟩, _⟩ := h
  exact ⟨dx, _, h1⟩
/-- how a == b of editions is read -/
theorem eqO_read {K : PySem.W.Frag} {H : Hp} {C a b : Addr} {e e' : Ed} {fl : Bool → Bool} {Q : VK} (h1 : EdIs K H C a e) (h2 : EdIs K H C b e') (q : Q (.bl (fl (PyData.eqv e.data e'.data))) H) : rEqO C (spEq K C) fl (.ref a) (.ref b) H Q := by
  obtain ⟨dx, fs, ha⟩ := h1.ins
  obtain ⟨dy, gs, hb⟩ := h2.ins
  exact ⟨a, b, dx, dy, fs, gs, rfl, rfl, ha, hb, a, b, e, e', rfl, h1, h2, _, rfl, q⟩
/-- an edition with nothing but its name and version -/
def edP (nm : Str) (v : Int) : Ed := ⟨nm, .int v, SCR, [], [], []⟩
theorem edP_ok {nm : Str} {v : Int} (h1 : isWord nm = true) (h2 : 1 ≤ v) (h3 : v ≤ 99) : (edP nm v).wrong = none := by
  have a1 : inR (.int v) 1 99 = true := by show (decide (1 ≤ v) && decide (v ≤ 99)) = true; rw [decide_eq_true h2, decide_eq_true h3]; rfl
  have a2 : areScripts SCR = true := by decide +kernel
  have a3 : areNeeds [] nm = true := by rfl
  have a4 : areOthers [] nm = true := by rfl
  unfold Ed.wrong Ed.checks edP
  simp only [h1, a1, a2, a3, a4]
  rfl
theorem edP_small {nm : Str} {v : Int} (h : nm.length ≤ 1000) : (edP nm v).Small := ⟨h, .inl ⟨v, rfl⟩, (by decide : SCR.length ≤ 100), ⟨Nat.zero_le _, fun p hp => by cases hp⟩, ⟨Nat.zero_le _, fun p hp => by cases hp⟩, ⟨Nat.zero_le _, fun p hp => by cases hp⟩⟩
theorem NeedsAt.nil {K : PySem.W.Frag} {H : Hp} {a : Addr} (h : SqT K H a []) : NeedsAt K H a [] := ⟨[], h, rfl, fun i t p h _ => by simp at h⟩
theorem ite_no {b : Bool} {A B : Prop} (hb : b = false) (h : B) : if b = true then A else B := by
  rw [hb]
  exact iteF h
theorem ite_yes {b : Bool} {A B : Prop} (hb : b = true) (h : A) : if b = true then A else B := by
  rw [hb]
  exact iteT h
/-- an edition is made that has nothing wrong -/
theorem mk_read {K : PySem.W.Frag} {H : Hp} {C CE x dx s n f g : Addr} {e : Ed} {Q : Hp → Prop} {E : XK} (nx : H x = none) (ndx : H dx = none) (hE : EdAt K H e s n f g) (sm : e.Small) (hw : e.wrong = none) (k : ∀ H', Same H H' → EdObj K H' C x e s n f g → Q H') :
    spEi K C CE [.ref x, .str e.name, e.version, .ref s, .ref n, .ref f, .ref g] (upd (upd H dx (.own x)) x (.ins C dx [])) (fun v H3 => v = .non ∧ Q H3) E := by
  have sx : Same H (upd (upd H dx (.own x)) x (.ins C dx [])) := fun b o q => by
    rw [upd_ne (ne_of_none q nx), upd_ne (ne_of_none q ndx)]
    exact q
  refine ⟨x, dx, e, s, n, f, g, rfl, upd_same, hE.same sx, sm, fun _ H' sb ho => ⟨rfl, k H' (fun b o q => sb _ _ (ne_of_none q nx) (sx _ _ q)) ho⟩, fun p hp => ?_⟩
  rw [hw] at hp
  cases hp
theorem edP_is {K : PySem.W.Frag} {H : Hp} {C a s n f g : Addr} {nm : Str} {v : Int} (h : EdObj K H C a (edP nm v) s n f g) (hs : PyData.strOk nm = true) : EdIs K H C a (edP nm v) := by
  refine ⟨⟨s, n, f, g, h⟩, .inl ⟨v, rfl⟩, ?_⟩
  have a1 : PyData.strOk "clean" = true := by decide +kernel
  have a2 : PyData.strOk "enter" = true := by decide +kernel
  have a3 : PyData.strOk "leave" = true := by decide +kernel
  have a4 : PyData.strOk "setup" = true := by decide +kernel
  simp [SeqAt.shaped, edP, Ed.data, verD, SCR, PyData.canLay0, PyData.canLayAll0, PyData.depth, PyData.depthAll, hs, a1, a2, a3, a4]
end Half

namespace Half
open PySem PySem.Spec PyProof.Rows L2
/-! ### different ones, in the order in which they are met -/
section
variable {α : Type} [DecidableEq α]
def has (l : List α) (x : α) : Bool := l.any fun y => decide (y = x)
theorem has_iff {l : List α} {x : α} : has l x = true ↔ x ∈ l := by
  unfold has
  rw [List.any_eq_true]
  exact ⟨fun ⟨y, h, e⟩ => of_decide_eq_true e ▸ h, fun h => ⟨x, h, decide_eq_true rfl⟩⟩
theorem has_no {l : List α} {x : α} (h : x ∉ l) : has l x = false := by
  cases e : has l x
  · rfl
  · exact absurd (has_iff.mp e) h
theorem not_has {l : List α} {x : α} (h : has l x = false) : x ∉ l := fun m => by
  rw [has_iff.mpr m] at h
  exact nomatch h
def dstep (acc : List α) (x : α) : List α := if has acc x = true then acc else acc ++ [x]
def dset (l : List α) : List α := l.foldl dstep []
theorem dset_snoc (l : List α) (x : α) : dset (l ++ [x]) = dstep (dset l) x := by
  unfold dset
  rw [List.foldl_append]
  rfl
theorem snoc_ind {p : List α → Prop} (h0 : p []) (h1 : ∀ l x, p l → p (l ++ [x])) (l : List α) : p l := by
  have key : ∀ n (l : List α), l.length = n → p l := by
    intro n
    induction n with
    | zero => intro l e; rw [List.eq_nil_of_length_eq_zero e]; exact h0
    | succ n ih =>
      intro l e
      have hne : l ≠ [] := fun z => by rw [z] at e; cases e
      rw [← List.dropLast_concat_getLast hne]
      exact h1 _ _ (ih _ (by rw [List.length_dropLast, e]; rfl))
  exact key _ l rfl
theorem mem_dstep {acc : List α} {x y : α} : y ∈ dstep acc x ↔ y ∈ acc ∨ y = x := by
  unfold dstep
  split
  · rename_i h
    exact ⟨.inl, fun z => z.elim id fun e => e ▸ has_iff.mp h⟩
  · rw [List.mem_append, List.mem_singleton]
theorem mem_dset (l : List α) (y : α) : y ∈ dset l ↔ y ∈ l := by
  induction l using snoc_ind with
  | h0 => simp [dset]
  | h1 l x ih => rw [dset_snoc, mem_dstep, ih, List.mem_append, List.mem_singleton]
theorem dset_nodup (l : List α) : (dset l).Nodup := by
  induction l using snoc_ind with
  | h0 => exact .nil
  | h1 l x ih =>
    rw [dset_snoc]
    unfold dstep
    split
    · exact ih
    · rename_i h
      refine List.nodup_append.mpr ⟨ih, List.nodup_cons.mpr ⟨by simp, .nil⟩, fun a ha b hb e => ?_⟩
      rw [List.mem_singleton.mp hb] at e
      subst e
      exact h (has_iff.mpr ha)
def nd (l : List α) : Nat := (dset l).length
theorem nd_snoc (l : List α) (x : α) : nd (l ++ [x]) = if has l x = true then nd l else nd l + 1 := by
  unfold nd
  rw [dset_snoc]
  unfold dstep
  have e : has (dset l) x = has l x := by
    cases q : has l x
    · exact has_no fun z => not_has q ((mem_dset l x).mp z)
    · exact has_iff.mpr ((mem_dset l x).mpr (has_iff.mp q))
  rw [e]
  split <;> simp
theorem nd_le (l : List α) : nd l ≤ l.length := by
  induction l using snoc_ind with
  | h0 => exact Nat.le_refl _
  | h1 l x ih =>
    rw [nd_snoc, List.length_append, List.length_singleton]
    split <;> omega
theorem nd_perm {l m : List α} (hm : m.Nodup) (h : ∀ x, x ∈ m ↔ x ∈ l) : m.length = nd l :=
  ((List.perm_ext_iff_of_nodup hm (dset_nodup l)).mpr fun x => (h x).trans (mem_dset l x).symm).length_eq
end
/-! ### a store's editions -/
abbrev Kk : Type := Str × Int
/-- the i-th key stands before, its name is one too many, or it stands too late -/
def badB (ks : List Kk) (i : Nat) : Bool := match ks[i]? with
  | none => false
  | some k => has (ks.take i) k || (decide (4 < nd ((ks.take (i + 1)).map (·.1))) || decide (12 ≤ i))
def wrongAt (ks : List Kk) : Option Nat := if ks.isEmpty = true then some 0 else (List.range ks.length).find? (badB ks)
/-- as the law says it -/
def lawB (ks : List Kk) (i : Nat) : Bool := match ks[i]? with
  | none => false
  | some k => has (ks.take i) k || (decide (i = 12) || (!has ((ks.take i).map (·.1)) k.1 && decide (nd ((ks.take i).map (·.1)) = 4)))
theorem take_snoc {α : Type} {l : List α} {i : Nat} {x : α} (h : l[i]? = some x) : l.take (i + 1) = l.take i ++ [x] := take_next h
theorem bad_few {ks : List Kk} : ∀ i, (∀ j, j < i → badB ks j = false) → nd ((ks.take i).map (·.1)) ≤ 4
  | 0, _ => by simp [nd, dset]
  | i + 1, h => by
    cases e : ks[i]? with
    | none =>
      have ih := bad_few i fun j hj => h j (Nat.lt_succ_of_lt hj)
      rw [List.take_of_length_le (Nat.le_succ_of_le (List.getElem?_eq_none_iff.mp e))]
      rwa [List.take_of_length_le (List.getElem?_eq_none_iff.mp e)] at ih
    | some k =>
      have hb := h i (Nat.lt_succ_self _)
      unfold badB at hb
      rw [e] at hb
      simp only [Bool.or_eq_false_iff, decide_eq_false_iff_not] at hb
      omega
theorem bad_law {ks : List Kk} {i : Nat} (h : ∀ j, j < i → badB ks j = false) (hi : i ≤ 12) : badB ks i = lawB ks i := by
  unfold badB lawB
  cases e : ks[i]? with
  | none => rfl
  | some k =>
    have few := bad_few i h
    simp only
    congr 1
    rw [Bool.or_comm]
    congr 1
    · rw [decide_eq_decide]; omega
    · rw [take_snoc e, List.map_append, List.map_singleton, nd_snoc]
      cases has ((ks.take i).map (·.1)) k.1
      · simp only [Bool.false_eq_true, if_false, Bool.not_false, Bool.true_and, decide_eq_decide]; omega
      · simp only [if_true, Bool.not_true, Bool.false_and]
        exact decide_eq_false (by omega)
theorem bad_late {ks : List Kk} {i : Nat} (h1 : i < ks.length) (h2 : 12 ≤ i) : badB ks i = true := by
  unfold badB
  rw [List.getElem?_eq_getElem h1]
  simp [h2]
theorem law_late {ks : List Kk} (h1 : 12 < ks.length) : lawB ks 12 = true := by
  unfold lawB
  rw [List.getElem?_eq_getElem h1]
  simp
/-- the first bad one is the same -/
theorem first_law {ks : List Kk} {i : Nat} (h : ∀ j, j < i → lawB ks j = false) (hi : i ≤ ks.length) : ∀ j, j < i → badB ks j = false := by
  intro j
  induction j using Nat.strongRecOn with
  | ind j ih =>
    intro hj
    have hb : ∀ m, m < j → badB ks m = false := fun m hm => ih m hm (Nat.lt_trans hm hj)
    rcases Nat.lt_or_ge 12 j with c | c
    · have z := h 12 (by omega)
      rw [law_late (by omega)] at z
      exact nomatch z
    · rw [bad_law hb c]
      exact h j hj
theorem first_bad {ks : List Kk} {i : Nat} (h : ∀ j, j < i → badB ks j = false) (hi : i ≤ ks.length) : ∀ j, j < i → lawB ks j = false := by
  intro j hj
  have hb : ∀ m, m < j → badB ks m = false := fun m hm => h m (Nat.lt_trans hm hj)
  rcases Nat.lt_or_ge 12 j with c | c
  · have z := h 12 (by omega)
    rw [bad_late (by omega) (Nat.le_refl _)] at z
    exact nomatch z
  · rw [← bad_law hb c]
    exact h j hj
theorem find_eq {p q : Nat → Bool} {n : Nat} (h1 : ∀ i, i ≤ n → (∀ j, j < i → p j = false) → ∀ j, j < i → q j = false) (h2 : ∀ i, i ≤ n → (∀ j, j < i → q j = false) → ∀ j, j < i → p j = false) : (List.range n).find? p = (List.range n).find? q := by
  cases e : (List.range n).find? p with
  | none =>
    have hp : ∀ j, j < n → p j = false := fun j hj => by simpa using List.find?_eq_none.mp e j (List.mem_range.mpr hj)
    rw [find_range_none q (h1 n (Nat.le_refl _) hp)]
  | some i =>
    have hi : i < n := List.mem_range.mp (List.mem_of_find?_eq_some e)
    have hpi : p i = true := by simpa using List.find?_some e
    have hb : ∀ j, j < i → p j = false := fun j hj => by
      cases c : p j
      · rfl
      · obtain ⟨l1, l2, e1, e2⟩ := (List.find?_eq_some_iff_append.mp e).2
        have hjm : j ∈ List.range n := List.mem_range.mpr (by omega)
        rw [e1] at hjm
        rcases List.mem_append.mp hjm with m | m
        · have z := e2 j m; rw [c] at z; exact nomatch z
        · have srt : (l1 ++ i :: l2).Pairwise (· < ·) := by rw [← e1]; exact List.pairwise_lt_range
          rcases List.mem_cons.mp m with z | z
          · omega
          · have := (List.pairwise_append.mp srt).2.1
            have := List.rel_of_pairwise_cons this z
            omega
    have hq := h1 i (Nat.le_of_lt hi) hb
    have hqi : q i = true := by
      cases c : q i
      · have z := h2 (i + 1) hi (fun j hj => by
          rcases Nat.lt_or_ge j i with m | m
          · exact hq j m
          · rw [show j = i by omega]; exact c) i (Nat.lt_succ_self _)
        rw [hpi] at z
        exact nomatch z
      · rfl
    rw [find_range q hi hqi hq]
theorem wrong_law (ks : List Kk) : wrongAt ks = if ks.isEmpty = true then some 0 else (List.range ks.length).find? (lawB ks) := by
  unfold wrongAt
  split
  · rfl
  · exact find_eq (fun i hi h => first_bad h hi) (fun i hi h => first_law h hi)
/-! ### in order -/
theorem sorted_uniq {α : Type} {le : α → α → Prop} (as : ∀ x y, le x y → le y x → x = y) : ∀ {l m : List α}, l.Pairwise le → m.Pairwise le → l.Perm m → l = m
  | [], m, _, _, p => p.nil_eq
  | x :: l, [], _, _, p => absurd p.length_eq (by simp)
  | x :: l, y :: m, h1, h2, p => by
    have e : x = y := by
      have hx : x ∈ y :: m := p.mem_iff.mp List.mem_cons_self
      have hy : y ∈ x :: l := p.mem_iff.mpr List.mem_cons_self
      rcases List.mem_cons.mp hx with rfl | hx
      · rfl
      · rcases List.mem_cons.mp hy with rfl | hy
        · rfl
        · exact as _ _ (List.rel_of_pairwise_cons h1 hy) (List.rel_of_pairwise_cons h2 hx)
    subst e
    rw [sorted_uniq as (List.pairwise_cons.mp h1).2 (List.pairwise_cons.mp h2).2 (List.Perm.cons_inv p)]
def txLe (x y : Str) : Prop := txLt y x = false
theorem txLe_as (x y : Str) (h1 : txLe x y) (h2 : txLe y x) : x = y := tx_tot h2 h1
theorem txLe_tr {x y z : Str} (h1 : txLe x y) (h2 : txLe y z) : txLe x z := by
  unfold txLe at *
  cases e : txLt z x
  · rfl
  · cases c : txLt x y
    · rw [tx_tot c h1] at e; rw [e] at h2; exact nomatch h2
    · have := tx_tr e c
      rw [h2] at this
      exact nomatch this
theorem rising_pw : ∀ (p : Str) (l : List Str), risingS p l = true → (p :: l).Pairwise txLe
  | p, [], _ => List.pairwise_singleton _ _
  | p, x :: l, h => by
    have h : (!ltCps x.cps.toList p.cps.toList && risingS x l) = true := h
    rw [Bool.and_eq_true, Bool.not_eq_true'] at h
    have ih := rising_pw x l h.2
    have hx : txLe p x := by
      have e := h.1
      rw [ltCps_eq] at e
      exact e
    refine List.pairwise_cons.mpr ⟨fun y hy => ?_, ih⟩
    rcases List.mem_cons.mp hy with rfl | hy
    · exact hx
    · exact txLe_tr hx (List.rel_of_pairwise_cons ih hy)
theorem sortedS_pw : ∀ {l : List Str}, sortedS l = true → l.Pairwise txLe
  | [], _ => .nil
  | x :: l, h => rising_pw x l h
/-- different ones of a list in order are in order -/
theorem dset_sub {α : Type} [DecidableEq α] (l : List α) : (dset l).Sublist l := by
  induction l using snoc_ind with
  | h0 => exact .slnil
  | h1 l x ih =>
    rw [dset_snoc]
    unfold dstep
    split
    · exact ih.trans (List.sublist_append_left _ _)
    · exact ih.append (List.Sublist.refl _)
end Half

namespace Half
open PySem PySem.Spec PyProof.Rows L2
/-! ### InvalidStore -/
abbrev sIs : Stmt := inClass (top 13) 0
def spErrI (C : Addr) (fl : Str) : Sp := fun vs H Q _ => ∃ (a : Addr) (n : Nat), vs = [.ref a, .int n] ∧ H a = some (exo a C none) ∧ n ≤ 1000 ∧
  ∀ dx, H dx = none → dx ≠ a → Q .non (upd (upd H dx (exd dx [(fl, .int n)])) a (exo a C (some dx)))
theorem scIs : SupScope ["self", "index"] ["self", "index"] (defScope sIs) := ⟨rfl, rfl, rfl, by decide +kernel, rfl, by decide +kernel, by decide +kernel, by decide +kernel, rfl, rfl⟩
theorem small_text : ∀ n : Nat, n ≤ 1000 → (Str.ofString (toString (n : Int))).length ≤ 10 ∧ ((n : Int)).natAbs.log2 < 1920 := by
  have key : (List.range 1001).all (fun n => decide ((Str.ofString (toString (n : Int))).length ≤ 10) && decide (((n : Int)).natAbs.log2 < 1920)) = true := by decide +kernel
  intro n hn
  have z := List.all_eq_true.mp key n (List.mem_range.mpr (by omega))
  simpa using z
section
variable {P : Program} {w : World} {K : PySem.W.Frag} {mg : Str → Option Value} {base : Heap}
theorem ok_is {C f : Addr} {fd : FuncData} (F : ErrFn P K C "InvalidStore.__init__" sIs f fd) (T : SupC P K mg C) (nF : PySem.W.findIn K (.ref C) "index" = some none) : FnOk P w K mg base CX0 1 f fd ["self", "index"] (spErrI C "index") := by
  obtain ⟨oc, od, kV, doc, pm, an, cda, cc, ct, osl, ccl, cdd, vsc, ccs, file, tf, cl, cld, csl, rfl, lk, hcd, hcode, hvs, hfile, hcell⟩ := F.ex
  refine fn_sup (N := ["self", "index"]) lk hcd scIs rfl rfl rfl hcode hvs hfile hcell T (fun vs H Q E h => ?_) (fun _ => rfl) (fun _ => rfl) (fun _ => rfl) (fun A outer s H vs Q E hr h => ?_)
  · obtain ⟨a, p, rfl, _⟩ := h
    rfl
  · obtain ⟨a, n, rfl, ha, hn, k⟩ := h
    refine ⟨a, _, _, rfl, ha, pa_cons (pe_joined (.cons pe_str (.cons (pe_fmt (pv 1)) .nil))) pa_nil, pss_one (ps_ost (pv 0) (pv 1)), ?_⟩
    obtain ⟨l1, l2⟩ := small_text n hn
    refine ⟨_, rfl, (by decide), _, rfl, .inr ⟨(n : Int), rfl, l2, _, rfl, ?_, ?_⟩⟩
    · rw [app_len, app_len, sizeLine_eq]
      have : ("no store can be made of these editions, because of index " : Str).length = 57 := by decide
      have e0 : (Str.empty).length = 0 := by decide
      have : (Str.ofString (toString (n : Int))).length ≤ 10 := l1
      omega
    · refine ⟨by show 1 ≤ 1000; decide, ha, ?_⟩
      refine ⟨_, rfl, _, rfl, a, C, rfl, T.oex, nF, .inl ⟨ha, fun dx h1 h2 => k dx h1 h2⟩⟩
end
theorem ne_of_none' {H : Hp} {a b : Addr} {o : HO} (h : H a = some o) (n : H b = none) : b ≠ a := fun z => by rw [z, h] at n; cases n
/-! ### wrong_index -/
abbrev sWi : Stmt := top 32
/-- an edition that has this name and this version -/
def EdK (C : Addr) (H : Hp) (a : Addr) (k : Kk) : Prop := ∃ dx p xs, H a = some (.ins C dx [("parts", .ref p)]) ∧ H p = some (.tup (.str k.1 :: .int k.2 :: xs))
theorem EdK.same {C : Addr} {H H' : Hp} {a : Addr} {k : Kk} (S : Same H H') (h : EdK C H a k) : EdK C H' a k := by
  obtain ⟨dx, p, xs, h1, h2⟩ := h
  exact ⟨dx, p, xs, S _ _ h1, S _ _ h2⟩
/-- editions one after another -/
abbrev Eds : Type := List (Addr × Kk)
def EdsAt (K : PySem.W.Frag) (C : Addr) (H : Hp) (t : Addr) (es : Eds) : Prop := SqT K H t (es.map fun e => .ref e.1) ∧ ∀ e ∈ es, EdK C H e.1 e.2
theorem EdsAt.same {K : PySem.W.Frag} {C : Addr} {H H' : Hp} {t : Addr} {es : Eds} (S : Same H H') (h : EdsAt K C H t es) : EdsAt K C H' t es := ⟨S.sqT h.1, fun e he => (h.2 e he).same S⟩
abbrev keysOf (es : Eds) : List Kk := es.map (·.2)
def kk (k : Kk) : List Key := [.inr k.1, .inl k.2]
theorem kk_inj {a b : Kk} (h : kk a = kk b) : a = b := by
  unfold kk at h
  injection h with h1 h2
  injection h2 with h2 _
  injection h1 with h1
  injection h2 with h2
  exact Prod.ext h1 h2
def optI : Option Nat → V
  | none => .non
  | some i => .int i
def spWi (K : PySem.W.Frag) (C : Addr) : Sp := fun vs H Q _ => ∃ (t : Addr) (es : Eds), vs = [.ref t] ∧ EdsAt K C H t es ∧ es.length ≤ 40 ∧ ∀ H', Same H H' → Q (optI (wrongAt (keysOf es))) H'
structure TxtW (P : Program) (w : World) (K : PySem.W.Frag) (mg : Str → Option Value) (base : Heap) (C : Addr) : Prop where
  set : mg "set" = none
  len : mg "len" = none
  enum : mg "enumerate" = none
  mE : ∃ t, mg "MOST_EDITIONS" = some (.int 12 t)
  mN : ∃ t, mg "MOST_NAMES" = some (.int 4 t)
  p0 : Prp P w K mg base C "name" 0
  p1 : Prp P w K mg base C "version" 1
  cl : Cls K C
theorem scWi : FnScope ["editions", "keys", "names", "at", "edition", "key"] ["editions"] (defScope sWi) := ⟨rfl, rfl, rfl, by decide +kernel, rfl, by decide +kernel, by decide +kernel⟩
section
variable {P : Program} {w : World} {K : PySem.W.Frag} {mg : Str → Option Value} {base : Heap} {C : Addr}
/-- what stands before the i-th turn -/
structure WiI (P : Program) (w : World) (K : PySem.W.Frag) (C t ka na : Addr) (es : Eds) (H0 : Hp) (i : Nat) (σ : L2.St) (H : Hp) : Prop where
  sl : ∃ x3 x4 x5, σ = [some (.ref t), some (.ref ka), some (.ref na), x3, x4, x5]
  sm : Same H0 H
  n1 : H0 ka = none
  n2 : H0 na = none
  ts : ∃ L, H ka = some (TsO P w ka L) ∧ TupsIn H L ∧ L.length = i ∧ ∀ k, kk k ∈ L.map (·.2) ↔ k ∈ (keysOf es).take i
  nm : ∃ S n, H na = some (SetK P w na S n) ∧ (∀ x, S (.inr x) = has (((keysOf es).take i).map (·.1)) x) ∧ n = nd (((keysOf es).take i).map (·.1))
  ok : ∀ j, j < i → badB (keysOf es) j = false
theorem prp_read {H : Hp} {a : Addr} {k : Kk} {Q : VK} (h : EdK C H a k) (q : Q (.str k.1) H) : ∃ p dx fs, V.ref a = .ref p ∧ H p = some (.ins C dx fs) ∧ spGet C 0 [.ref p] H Q E0 := by
  obtain ⟨dx, p, xs, h1, h2⟩ := h
  exact ⟨a, dx, _, rfl, h1, a, dx, p, _, _, rfl, h1, h2, rfl, q⟩
theorem ok_wi {f : Addr} {fd : FuncData} (F : Fun K "wrong_index" "wrong_index" sWi f fd) (T : TxtW P w K mg base C) : FnOk P w K mg base CX0 3 f fd ["editions"] (spWi K C) := by
  refine F.ok scWi (fun vs H Q E h => ?_) (fun cdv A outer s H vs Q E hr h => ?_)
  · obtain ⟨t, es, rfl, _⟩ := h
    rfl
  · obtain ⟨t, es, rfl, hE, hz, k⟩ := h
    have nd' := scWi.nd
    have hu := hu_of hr
    have r2 : Room 2 _ := hr.mono (by decide)
    obtain ⟨tE, mE⟩ := T.mE
    obtain ⟨tN, mN⟩ := T.mN
    refine ⟨_, pss_cons (ps_if (pt_not (pt_truth (pv 0) (by intro _; rfl))) (pss_one (ps_ret pe_int)) pss_nil)
      (pss_cons (ps_set (i := 1) nd' rfl (Or.inl rfl) (pe_callTy0 cr_set0T (by rfl) T.set (by decide +kernel)))
      (pss_cons (ps_set (i := 2) nd' rfl (Or.inl rfl) (pe_callTy0 cr_set0K (by rfl) T.set (by decide +kernel)))
      (pss_cons (ps_for PassesOwn.never rfl (pi_enumT (by rfl) T.enum (pa_cons (pv 0) pa_nil)) (pg_tup rfl (pgs_cons (pg_name (i := 3) nd' rfl (Or.inl rfl)) (pgs_cons (pg_name (i := 4) nd' rfl (Or.inl rfl)) pgs_nil)))
        (pss_cons (ps_set (i := 5) nd' rfl (Or.inl rfl) (pe_tup (pa_cons (pe_prp T.p0 T.cl r2 (pv 4)) (pa_cons (pe_prp T.p1 T.cl r2 (pv 4)) pa_nil))))
        (pss_cons (ps_expr (pe_saddK (pv 2) (pa_cons (pe_prp T.p0 T.cl r2 (pv 4)) pa_nil)))
        (pss_cons (ps_if (PW.pt (pw_or (pt_cmpR (or_sinT hu) (pv 5) (pv 1) (by rfl)) (pw_or (pt_cmpR op_gt (pe_callB call_lenSK (by rfl) T.len PySem.boot_len (pa_cons (pv 2) pa_nil)) (pe_glob (v := .int 4) rfl mN ⟨_, rfl⟩) (nomark _)) (pw_or1 (pt_cmpR op_ge (pv 3) (pe_glob (v := .int 12) rfl mE ⟨_, rfl⟩) (nomark _)))))) (pss_one (ps_ret (pv 3))) pss_nil)
        (pss_one (ps_expr (pe_saddT hu (pv 1) (pa_cons (pv 5) pa_nil))))))))
      (pss_one (ps_ret pe_non))))), ?_⟩
    refine ⟨_, rfl, !es.isEmpty, .inr (.inl ⟨_, hE.1, by simp⟩), ?_⟩
    by_cases he : es.isEmpty = true
    · refine ite_yes (by rw [he]; rfl) ?_
      have e : wrongAt (keysOf es) = some 0 := by
        unfold wrongAt
        rw [if_pos (by simpa using he)]
      have z := k H (Same.refl H)
      rw [e] at z
      exact z
    refine ite_no (by simp at he ⊢; exact he) ?_
    have wrong : wrongAt (keysOf es) = (List.range (keysOf es).length).find? (badB (keysOf es)) := by
      unfold wrongAt
      rw [if_neg (by simpa using he)]
    refine ⟨rfl, fun ka n1 => ⟨rfl, fun na n2 => ?_⟩⟩
    have nka : na ≠ ka := fun z => by rw [z, upd_same] at n2; cases n2
    have n2' : H na = none := by rwa [upd_ne nka] at n2
    refine ⟨_, rfl, t, _, rfl, (hE.same ((Same.upd_new n1).trans (Same.upd_new n2))).1, ?_⟩
    refine for_it (walk_enumT (K := K) (a := t) (xs := es.map fun e => .ref e.1)) (WiI P w K C t ka na es H) ?_ ?_ ?_ ?_
    · exact ⟨⟨_, _, _, rfl⟩, (Same.upd_new n1).trans (Same.upd_new n2), n1, n2', ⟨[], by rw [upd_ne (Ne.symm nka), upd_same]; rfl, (fun p hp => nomatch hp), rfl, fun k => by simp⟩, ⟨_, _, upd_same, fun x => rfl, rfl⟩, fun j hj => absurd hj (Nat.not_lt_zero _)⟩
    · exact fun i σ H' _ I => (hE.same I.sm).1
    · intro i x σ H1 H2 hi I y
      obtain ⟨T', a, b, rfl, nT, rfl, ha, hb⟩ := y
      cases ha
      obtain ⟨e, he, rfl⟩ : ∃ e, es[i]? = some e ∧ b = .ref e.1 := by
        have hb : (es.map fun e => V.ref e.1)[i]? = some b := hb
        rw [List.getElem?_map] at hb
        obtain ⟨e, h1, h2⟩ := Option.map_eq_some_iff.mp hb
        exact ⟨e, h1, h2.symm⟩
      obtain ⟨⟨x3, x4, x5, rfl⟩, sm, _, _, ⟨L, hka, hL, hLl, hLm⟩, ⟨S, n, hna, hS, hn⟩, hok⟩ := I
      have hi' : i < es.length := (List.getElem?_eq_some_iff.mp he).1
      have hke : (keysOf es)[i]? = some e.2 := by rw [List.getElem?_map, he] <;> rfl
      refine ⟨T', _, rfl, .inl (.inl upd_same), rfl, _, _, rfl, _, _, rfl, rfl, ?_⟩
      have s1 : Same H1 (upd H1 T' (.tup [.int (i : Nat), .ref e.1])) := Same.upd_new nT
      obtain ⟨dx, p, xs, h1, h2⟩ := ((hE.2 e (List.mem_of_getElem? he)).same sm).same s1
      refine ⟨_, rfl, e.1, dx, _, rfl, h1, e.1, dx, p, _, _, rfl, h1, h2, rfl, _, rfl, e.1, dx, _, rfl, h1, e.1, dx, p, _, _, rfl, h1, h2, rfl, two_le, fun tk ntk => ?_⟩
      have s2 := s1.trans (Same.upd_new (o := .tup [.str e.2.1, .int e.2.2]) ntk)
      have h1' := (Same.upd_new (o := .tup [.str e.2.1, .int e.2.2]) ntk) _ _ h1
      have h2' := (Same.upd_new (o := .tup [.str e.2.1, .int e.2.2]) ntk) _ _ h2
      have hnl : n ≤ 40 := by
        rw [hn]
        refine Nat.le_trans (nd_le _) ?_
        rw [List.length_map, List.length_take]
        omega
      refine ⟨_, rfl, ⟨na, S, n, rfl, s2 _ _ hna⟩, _, rfl, e.1, dx, _, rfl, h1', e.1, dx, p, _, _, rfl, h1', h2', rfl, na, .inr e.2.1, S, n, rfl, rfl, s2 _ _ hna, (by show n + 1 < 4096; omega), ?_⟩
      have ntka : tk ≠ ka := ne_of_none' (s1 _ _ hka) ntk
      have ntna : tk ≠ na := ne_of_none' (s1 _ _ hna) ntk
      have kna : ka ≠ na := Ne.symm nka
      have nmE : ((keysOf es).take (i + 1)).map (·.1) = ((keysOf es).take i).map (·.1) ++ [e.2.1] := by rw [take_snoc hke, List.map_append] <;> rfl
      have cnt : (if S (.inr e.2.1) = true then n else n + 1) = nd (((keysOf es).take (i + 1)).map (·.1)) := by rw [nmE, nd_snoc, hS, hn]
      generalize (if S (.inr e.2.1) = true then n else n + 1) = n' at cnt ⊢
      generalize hS' : (fun j => S j || decide (j = Sum.inr e.2.1)) = S'
      have hS2 : ∀ x, S' (.inr x) = has (((keysOf es).take (i + 1)).map (·.1)) x := fun x => by
        rw [← hS', nmE]
        show (S (.inr x) || decide ((Sum.inr x : Key) = Sum.inr e.2.1)) = _
        rw [hS]
        unfold has
        rw [List.any_append]
        congr 1
        simp only [List.any_cons, List.any_nil, Bool.or_false]
        rw [decide_eq_decide]
        exact ⟨fun z => by injection z with z; exact z.symm, fun z => by rw [z]⟩
      have big : Same H (upd (upd (upd H1 T' (.tup [.int (i : Nat), .ref e.1])) tk (.tup [.str e.2.1, .int e.2.2])) na (SetK P w na S' n')) := fun b o q => by
        rw [upd_ne (ne_of_none q n2')]
        exact s2 _ _ (sm _ _ q)
      have tups : TupsIn (upd (upd (upd H1 T' (.tup [.int (i : Nat), .ref e.1])) tk (.tup [.str e.2.1, .int e.2.2])) na (SetK P w na S' n')) L := fun q hq => by
        rw [upd_ne (ne_of (s2 _ _ (hL q hq)) (s2 _ _ hna) (by intro z; cases z))]
        exact s2 _ _ (hL q hq)
      have gka : (upd (upd (upd H1 T' (.tup [.int (i : Nat), .ref e.1])) tk (.tup [.str e.2.1, .int e.2.2])) na (SetK P w na S' n')) ka = some (TsO P w ka L) := by
        rw [upd_ne kna]
        exact s2 _ _ hka
      have gtk : (upd (upd (upd H1 T' (.tup [.int (i : Nat), .ref e.1])) tk (.tup [.str e.2.1, .int e.2.2])) na (SetK P w na S' n')) tk = some (.tup ((kk e.2).map kV)) := by
        rw [upd_ne ntna, upd_same]
        rfl
      have gna : (upd (upd (upd H1 T' (.tup [.int (i : Nat), .ref e.1])) tk (.tup [.str e.2.1, .int e.2.2])) na (SetK P w na S' n')) na = some (SetK P w na S' n') := upd_same
      have hk : hasK L (kk e.2) = has ((keysOf es).take i) e.2 := by
        cases q : has ((keysOf es).take i) e.2
        · exact hasK_no fun z => not_has q ((hLm e.2).mp z)
        · exact hasK_iff.mpr ((hLm e.2).mpr (has_iff.mp q))
      have bad : badB (keysOf es) i = (hasK L (kk e.2) || (decide (4 < n') || decide (12 ≤ i))) := by
        unfold badB
        rw [hke, hk, cnt]
      have out : badB (keysOf es) i = true → Q (.int (i : Nat)) (upd (upd (upd H1 T' (.tup [.int (i : Nat), .ref e.1])) tk (.tup [.str e.2.1, .int e.2.2])) na (SetK P w na S' n')) := fun hb => by
        have e0 : wrongAt (keysOf es) = some i := by
          rw [wrong]
          exact find_range _ (by simpa using hi') hb hok
        have z := k _ big
        rw [e0] at z
        exact z
      refine ⟨_, rfl, _, rfl, ka, tk, kk e.2, L, rfl, rfl, gtk, gka, tups, _, rfl, ?_⟩
      cases c1 : hasK L (kk e.2)
      case true => exact iteT (⟨_, rfl, out (by rw [bad, c1]; rfl)⟩)
      refine iteF ?_
      refine ⟨_, rfl, na, S', n', rfl, gna, _, _, rfl, rfl, _, rfl, ?_⟩
      cases c2 : decide (4 < n')
      case true => exact ite_yes (by rw [decide_eq_true_eq] at c2 ⊢; omega) ⟨_, rfl, out (by rw [bad, c1, c2]; rfl)⟩
      refine ite_no (by rw [decide_eq_false_iff_not] at c2 ⊢; omega) ?_
      refine ⟨_, rfl, _, _, rfl, rfl, _, rfl, ?_⟩
      cases c3 : decide (12 ≤ i)
      case true => exact ite_yes (by rw [decide_eq_true_eq] at c3 ⊢; omega) ⟨_, rfl, out (by rw [bad, c1, c2, c3]; rfl)⟩
      refine ite_no (by rw [decide_eq_false_iff_not] at c3 ⊢; omega) ?_
      refine ⟨_, rfl, ⟨ka, L, rfl, gka⟩, _, rfl, ka, tk, kk e.2, L, rfl, rfl, gtk, gka, tups, by omega, fun z => ?_, fun _ L' pm => ?_⟩
      · rw [hasK_iff.mpr z] at c1
        exact nomatch c1
      · refine ⟨⟨_, _, _, rfl⟩, fun b o q => ?_, n1, n2', ⟨L', upd_same, fun q hq => ?_, ?_, fun k2 => ?_⟩, ⟨S', n', ?_, hS2, cnt⟩, fun j hj => ?_⟩
        · rw [upd_ne (ne_of_none q n1)]
          exact big _ _ q
        · have old : ∀ y : Addr × List Key, (upd (upd (upd H1 T' (.tup [.int (i : Nat), .ref e.1])) tk (.tup [.str e.2.1, .int e.2.2])) na (SetK P w na S' n')) y.1 = some (.tup (y.2.map kV)) → (upd (upd (upd (upd H1 T' (.tup [.int (i : Nat), .ref e.1])) tk (.tup [.str e.2.1, .int e.2.2])) na (SetK P w na S' n')) ka (TsO P w ka L')) y.1 = some (.tup (y.2.map kV)) := fun y hy => by
            rw [upd_ne (ne_of hy gka (by intro z; cases z))]
            exact hy
          rcases List.mem_cons.mp (pm.mem_iff.mp hq) with rfl | hq
          · exact old _ gtk
          · exact old _ (tups q hq)
        · rw [pm.length_eq, List.length_cons, hLl]
        · rw [(pm.map (·.2)).mem_iff, List.map_cons, List.mem_cons, hLm k2, take_snoc hke, List.mem_append, List.mem_singleton]
          exact ⟨fun z => z.elim (fun z => .inr (kk_inj z)) .inl, fun z => z.elim .inr fun z => .inl (by rw [z])⟩
        · rw [upd_ne nka]
          exact gna
        · rcases Nat.lt_or_ge j i with m | m
          · exact hok j m
          · rw [show j = i by omega, bad, c1, c2, c3]
            rfl
    · intro σ H' I
      have e : wrongAt (keysOf es) = none := by
        rw [wrong]
        exact find_range_none _ fun j hj => I.ok j (by simpa using hj)
      have z := k H' I.sm
      rw [e] at z
      exact z
end
end Half

namespace Half
open PySem PySem.Spec PyProof.Rows L2
abbrev sVn : Stmt := top 33
theorem put_keys {κ : Type} [DecidableEq κ] (kvs : List (κ × V)) (k : κ) (v : V) : (putK kvs k v).map (·.1) = dstep (kvs.map (·.1)) k := by
  unfold putK dstep
  have e : (kvs.any fun kv => decide (kv.1 = k)) = has (kvs.map (·.1)) k := by
    unfold has
    rw [List.any_map]
    rfl
  rw [e]
  split
  · rw [List.map_map]
    refine List.map_congr_left fun p hp => ?_
    show (if p.1 = k then (p.1, v) else p).1 = p.1
    split <;> rfl
  · rw [List.map_append]
    rfl
/-- which numbers a name has -/
def numsOf (ys : List Kk) (nm : Str) : List V := (ys.filter fun y => decide (y.1 = nm)).map fun y => .int y.2
/-- the dict at d tells ys name by name -/
def Nums0 (H : Hp) (d : Addr) (ys : List Kk) : Prop := ∃ kvs, H d = some (.dK kvs) ∧ kvs.map (·.1) = (dset (ys.map (·.1))).map Sum.inr ∧ ∀ nm ∈ ys.map (·.1), ∃ t, valV kvs (.inr nm) = some (.ref t) ∧ H t = some (.tup (numsOf ys nm))
def Asc (ys : List Kk) : Prop := ys.Pairwise fun x y => pLt y x = false
def NumsAt (H : Hp) (d : Addr) (ks : List Kk) : Prop := ∃ ys, ys.Perm ks ∧ Asc ys ∧ Nums0 H d ys
theorem Nums0.same {H H' : Hp} {d : Addr} {ys : List Kk} (S : Same H H') (h : Nums0 H d ys) : Nums0 H' d ys := by
  obtain ⟨kvs, h1, h2, h3⟩ := h
  exact ⟨kvs, S _ _ h1, h2, fun nm hm => let ⟨t, a, b⟩ := h3 nm hm; ⟨t, a, S _ _ b⟩⟩
theorem NumsAt.same {H H' : Hp} {d : Addr} {ks : List Kk} (S : Same H H') (h : NumsAt H d ks) : NumsAt H' d ks := by
  obtain ⟨ys, a, b, c⟩ := h
  exact ⟨ys, a, b, c.same S⟩
/-- the key that the tuple x holds -/
def keyAt (H : Hp) : V → Kk
  | .ref t => match H t with
    | some (.tup [.str a, .int b]) => (a, b)
    | _ => ("", 0)
  | _ => ("", 0)
theorem keyAt_of {H : Hp} {t : Addr} {k : Kk} (h : H t = some (.tup [.str k.1, .int k.2])) : keyAt H (.ref t) = k := by
  show (match H t with
    | some (.tup [.str a, .int b]) => (a, b)
    | _ => (("", 0) : Kk)) = k
  rw [h]
def KeysIn (H : Hp) (bs : List (Addr × Kk)) : Prop := ∀ b ∈ bs, H b.1 = some (.tup [.str b.2.1, .int b.2.2])
def spVn (K : PySem.W.Frag) : Sp := fun vs H Q _ => ∃ (l : Addr) (bs : List (Addr × Kk)), vs = [.ref l] ∧ SqL K H l (bs.map fun b => .ref b.1) ∧ KeysIn H bs ∧ bs.length ≤ 40 ∧ ∀ d H', Same H H' → H d = none → NumsAt H' d (bs.map (·.2)) → Q (.ref d) H'
theorem scVn : FnScope ["keys", "versions", "name", "version"] ["keys"] (defScope sVn) := ⟨rfl, rfl, rfl, by decide +kernel, rfl, by decide +kernel, by decide +kernel⟩
theorem nums_snoc {ys : List Kk} {y : Kk} {nm : Str} : numsOf (ys ++ [y]) nm = if y.1 = nm then numsOf ys nm ++ [.int y.2] else numsOf ys nm := by
  unfold numsOf
  rw [List.filter_append, List.map_append]
  by_cases e : y.1 = nm
  · rw [if_pos e, List.filter_cons_of_pos (by simpa using e)]
    rfl
  · rw [if_neg e, List.filter_cons_of_neg (by simpa using e)]
    simp
theorem nums_none {ys : List Kk} {nm : Str} (h : nm ∉ ys.map (·.1)) : numsOf ys nm = [] := by
  unfold numsOf
  rw [List.map_eq_nil_iff, List.filter_eq_nil_iff]
  intro y hy z
  exact h (List.mem_map.mpr ⟨y, hy, of_decide_eq_true z⟩)
section
variable {P : Program} {w : World} {K : PySem.W.Frag} {mg : Str → Option Value} {base : Heap}
theorem ok_vn {f : Addr} {fd : FuncData} (F : Fun K "versions_by_name" "versions_by_name" sVn f fd) (hS : mg "sorted" = none) : FnOk P w K mg base CX0 1 f fd ["keys"] (spVn K) := by
  refine F.ok scVn (fun vs H Q E h => ?_) (fun cdv A outer s H vs Q E hr h => ?_)
  · obtain ⟨l, bs, rfl, _⟩ := h
    rfl
  · obtain ⟨l, bs, rfl, hl, hb, hz, k⟩ := h
    have nd' := scVn.nd
    have hu := hu_of hr
    refine ⟨_, pss_cons (ps_set (i := 1) nd' rfl (Or.inl rfl) pe_dnewK)
      (pss_cons (ps_for PassesOwn.never rfl (pi_list (pe_callB cr_sortTI (by rfl) hS (by decide +kernel) (pa_cons (pv 0) pa_nil))) (pg_tup rfl (pgs_cons (pg_name (i := 2) nd' rfl (Or.inl rfl)) (pgs_cons (pg_name (i := 3) nd' rfl (Or.inl rfl)) pgs_nil)))
        (pss_one (ps_dput hu (pv 1) (pv 2) (pe_tup (StX.pa_star (pe_dget2 hu (pv 1) (pv 2) (pe_tup pa_nil) ⟨rfl, rfl, rfl, rfl⟩) (pa_cons (pv 3) pa_nil))) rfl)))
      (pss_one (ps_ret (pv 1)))), ?_⟩
    refine fun d nd1 => ?_
    have s1 : Same H (upd H d (.dK [])) := Same.upd_new nd1
    refine ⟨_, rfl, l, _, keyAt (upd H d (.dK [])), rfl, s1.seq hl, fun x hx => ?_, fun ys p hs hp np => ?_⟩
    · obtain ⟨b, hb', rfl⟩ := List.mem_map.mp hx
      have g := s1 _ _ (hb b hb')
      refine ⟨b.1, rfl, ?_⟩
      rw [keyAt_of g]
      exact g
    · have zs : (ys.map (keyAt (upd H d (.dK [])))).Perm (bs.map (·.2)) := by
        have e := hp.map (keyAt (upd H d (.dK [])))
        rw [List.map_map] at e
        rw [show bs.map (·.2) = bs.map (keyAt (upd H d (.dK [])) ∘ fun b => V.ref b.1) from List.map_congr_left fun b hb' => (keyAt_of (s1 _ _ (hb b hb'))).symm]
        exact e
      have asc : Asc (ys.map (keyAt (upd H d (.dK [])))) := List.pairwise_map.mpr hs
      have tups : ∀ y ∈ ys, ∃ t, y = .ref t ∧ (upd H d (.dK [])) t = some (.tup [.str (keyAt (upd H d (.dK [])) y).1, .int (keyAt (upd H d (.dK [])) y).2]) := fun y hy => by
        obtain ⟨b, hb', rfl⟩ := List.mem_map.mp (hp.mem_iff.mp hy)
        have g := s1 _ _ (hb b hb')
        refine ⟨b.1, rfl, ?_⟩
        rw [keyAt_of g]
        exact g
      have yl : ys.length ≤ 40 := by rw [hp.length_eq, List.length_map]; exact hz
      have hdp : d ≠ p := fun z => by rw [← z, upd_same] at np; cases np
      generalize keyAt (upd H d (.dK [])) = key at zs asc tups
      refine ⟨p, rfl, ⟨_, SqL.of upd_same⟩, ?_⟩
      refine for_it (walk_list (K := K) (a := p) (xs := ys)) (fun i σ H' => (∃ x2 x3, σ = [some (.ref l), some (.ref d), x2, x3]) ∧ Same H H' ∧ H' p = some (.lst ys) ∧ (∀ y ∈ ys, ∃ t, y = .ref t ∧ H' t = some (.tup [.str (key y).1, .int (key y).2])) ∧ Nums0 H' d ((ys.take i).map key)) ?_ ?_ ?_ ?_
      · refine ⟨⟨_, _, rfl⟩, s1.trans (Same.upd_new np), upd_same, fun y hy => ?_, ⟨[], by rw [upd_ne hdp, upd_same], rfl, fun nm hm => by simp at hm⟩⟩
        obtain ⟨t, e, g⟩ := tups y hy
        exact ⟨t, e, (Same.upd_new np) _ _ g⟩
      · exact fun i σ H' _ I => SqL.of I.2.2.1
      · rintro i x σ H1 H2 hi ⟨⟨x2, x3, rfl⟩, sm, gp, gt, ⟨kvs, gd, gk, gv⟩⟩ ⟨rfl, hx⟩
        obtain ⟨t, rfl, ht⟩ := gt x (List.mem_of_getElem? hx)
        have tk : (ys.take (i + 1)).map key = (ys.take i).map key ++ [key (.ref t)] := by rw [take_snoc hx, List.map_append] <;> rfl
        have il : i ≤ 40 := by omega
        have kl : kvs.length ≤ 40 := by
          have e := congrArg List.length gk
          rw [List.length_map, List.length_map] at e
          have := nd_le (((ys.take i).map key).map (·.1))
          unfold nd at this
          rw [List.length_map, List.length_map, List.length_take] at this
          omega
        refine ⟨t, _, rfl, .inl (.inl ht), rfl, _, _, rfl, _, _, rfl, rfl, ?_⟩
        generalize key (.ref t) = y at ht tk
        refine ⟨_, rfl, d, rfl, .inl ⟨kvs, .inl gd⟩, _, rfl, Nat.zero_le _, fun te nte => ?_⟩
        have se : Same H2 (upd H2 te (.tup [])) := Same.upd_new nte
        have wh : ∃ u, ((valV kvs (.inr y.1)).getD (.ref te)) = .ref u ∧ (upd H2 te (.tup [])) u = some (.tup (numsOf ((ys.take i).map key) y.1)) := by
          by_cases hm : y.1 ∈ ((ys.take i).map key).map (·.1)
          · obtain ⟨u, a, b⟩ := gv y.1 hm
            exact ⟨u, by rw [a]; rfl, se _ _ b⟩
          · have e : valV kvs (.inr y.1) = none := by
              cases c : valV kvs (.inr y.1) with
              | none => rfl
              | some v =>
                have z := valV_in c
                rw [gk] at z
                obtain ⟨q, hq, eq⟩ := List.mem_map.mp z
                injection eq with eq
                subst eq
                exact absurd ((mem_dset _ _).mp hq) hm
            exact ⟨te, by rw [e]; rfl, by rw [nums_none hm, upd_same]⟩
        obtain ⟨u, eu, hu'⟩ := wh
        refine ⟨_, DGet.k (k := .inr y.1) (se _ _ gd), ?_⟩
        refine ⟨u, _, eu, .inl (.inl (.inl hu')), _, rfl, ?_, fun tt ntt => ?_⟩
        · rw [List.length_append]
          have : (numsOf ((ys.take i).map key) y.1).length ≤ 40 := by
            unfold numsOf
            rw [List.length_map]
            refine Nat.le_trans (List.length_filter_le _ _) ?_
            rw [List.length_map, List.length_take]
            omega
          show _ + 1 ≤ sizeLine
          rw [sizeLine_eq]
          omega
        have st := Same.upd_new (o := .tup (numsOf ((ys.take i).map key) y.1 ++ [.int y.2])) ntt
        have gd2 := st _ _ (se _ _ gd)
        refine ⟨_, rfl, _, rfl, d, _, rfl, DPut.k (k := .inr y.1) gd2 (by rw [sizeLine_eq]; omega), ?_⟩
        have ne : ∀ {b o}, (∀ kvs, o ≠ .dK kvs) → H2 b = some o → (upd (upd (upd H2 te (.tup [])) tt (.tup (numsOf ((ys.take i).map key) y.1 ++ [.int y.2]))) d (.dK (putK kvs (.inr y.1) (.ref tt)))) b = some o := fun {b o} hk q => by
          rw [upd_ne (ne_of (st _ _ (se _ _ q)) gd2 (hk _))]
          exact st _ _ (se _ _ q)
        refine ⟨⟨_, _, rfl⟩, fun b o q => ?_, ne (by intro z e; cases e) gp, fun y' hy' => ?_, ?_⟩
        · have nb : b ≠ d := ne_of_none q nd1
          rw [upd_ne nb]
          exact st _ _ (se _ _ (sm _ _ q))
        · obtain ⟨t', e', g'⟩ := gt y' hy'
          exact ⟨t', e', ne (by intro z e; cases e) g'⟩
        · refine ⟨_, upd_same, ?_, fun nm hm => ?_⟩
          · rw [put_keys, gk, tk, List.map_append, List.map_singleton, dset_snoc]
            unfold dstep
            have e : has ((dset (((ys.take i).map key).map (·.1))).map (Sum.inr : Str → Key)) (.inr y.1) = has (dset (((ys.take i).map key).map (·.1))) y.1 := by
              unfold has
              rw [List.any_map]
              congr 1
              funext z
              show decide ((Sum.inr z : Key) = .inr y.1) = decide (z = y.1)
              rw [decide_eq_decide]
              exact ⟨fun q => by injection q, fun q => by rw [q]⟩
            rw [e]
            split
            · rfl
            · rw [List.map_append]
              rfl
          · rw [tk, List.map_append, List.mem_append] at hm
            rw [valV_put, tk, nums_snoc]
            by_cases e : y.1 = nm
            · subst e
              refine ⟨tt, by rw [if_pos rfl], ?_⟩
              rw [if_pos rfl, upd_ne (fun z => by rw [z, se _ _ gd] at ntt; cases ntt), upd_same]
            · rw [if_neg e, if_neg (fun q => e (by injection q with q; exact q.symm))]
              obtain ⟨t', a, b⟩ := gv nm (hm.resolve_right fun z => e (List.mem_singleton.mp (show nm ∈ [y.1] from z)).symm)
              exact ⟨t', a, ne (by intro z e; cases e) b⟩
      · rintro σ H' ⟨⟨x2, x3, rfl⟩, sm, gp, gt, gn⟩
        rw [List.take_length] at gn
        exact ⟨_, rfl, k d H' sm nd1 ⟨_, zs, asc, gn⟩⟩
end
end Half

namespace Half
open PySem PySem.Spec PyProof.Rows L2
abbrev sSt (i : Nat) : Stmt := inClass (top 34) i
/-! ### what a store holds -/
def tabOf (es : Eds) : List (List Key × V) := es.map fun e => (kk e.2, .ref e.1)
structure StObj (CT : Addr) (H : Hp) (a : Addr) (es : Eds) : Prop where
  ob : ∃ dx tb nb, H a = some (.ins CT dx [("table", .ref tb), ("numbers", .ref nb)]) ∧ H tb = some (.dT (tabOf es)) ∧ NumsAt H nb (keysOf es)
  one : (keysOf es).Nodup
theorem StObj.same {CT : Addr} {H H' : Hp} {a : Addr} {es : Eds} (S : Same H H') (h : StObj CT H a es) : StObj CT H' a es := by
  obtain ⟨⟨dx, tb, nb, h1, h2, h3⟩, one⟩ := h
  exact ⟨⟨dx, tb, nb, S _ _ h1, S _ _ h2, h3.same S⟩, one⟩
theorem wrong_none {ks : List Kk} (h : wrongAt ks = none) : ks ≠ [] ∧ ∀ i, i < ks.length → badB ks i = false := by
  unfold wrongAt at h
  split at h
  · cases h
  · rename_i he
    exact ⟨fun z => he (by rw [z]; rfl), fun i hi => by simpa using List.find?_eq_none.mp h i (List.mem_range.mpr hi)⟩
theorem bad_has {ks : List Kk} {i : Nat} {k : Kk} (h : badB ks i = false) (hk : ks[i]? = some k) : k ∉ ks.take i := by
  unfold badB at h
  rw [hk] at h
  simp only [Bool.or_eq_false_iff] at h
  exact not_has h.1
theorem wrong_nodup {ks : List Kk} (h : wrongAt ks = none) : ks.Nodup := by
  have hb := (wrong_none h).2
  have key : ∀ i, i ≤ ks.length → (ks.take i).Nodup := by
    intro i
    induction i with
    | zero => intro _; exact .nil
    | succ i ih =>
      intro hi
      have e : ks[i]? = some ks[i] := List.getElem?_eq_getElem hi
      rw [take_snoc e]
      refine List.nodup_append.mpr ⟨ih (Nat.le_of_succ_le hi), List.nodup_cons.mpr ⟨by simp, .nil⟩, fun a ha b hb' z => ?_⟩
      rw [List.mem_singleton.mp hb'] at z
      rw [z] at ha
      exact bad_has (hb i hi) e ha
  have := key ks.length (Nat.le_refl _)
  rwa [List.take_length] at this
theorem tab_none {es : Eds} {k : Kk} (h : k ∉ keysOf es) : valV (tabOf es) (kk k) = none := by
  cases c : valV (tabOf es) (kk k) with
  | none => rfl
  | some v =>
    have z := valV_in c
    unfold tabOf at z
    rw [List.map_map] at z
    obtain ⟨e, he, ee⟩ := List.mem_map.mp z
    exact absurd (List.mem_map.mpr ⟨e, he, kk_inj ee⟩) h
theorem tab_some {es : Eds} (one : (keysOf es).Nodup) {e : Addr × Kk} (h : e ∈ es) : valV (tabOf es) (kk e.2) = some (.ref e.1) := by
  have nd : ((tabOf es).map (·.1)).Nodup := by
    unfold tabOf
    rw [List.map_map]
    have : (es.map ((fun x : List Key × V => x.1) ∘ fun e => (kk e.2, V.ref e.1))) = (keysOf es).map kk := by rw [List.map_map] <;> rfl
    rw [this]
    exact List.pairwise_map.mpr (one.imp fun hne e => hne (kk_inj e))
  exact val_nodup nd (kk e.2, .ref e.1) (List.mem_map.mpr ⟨e, h, rfl⟩)
def spSi (K : PySem.W.Frag) (C CT CI : Addr) : Sp := fun vs H Q E => ∃ (x t dx : Addr) (es : Eds), vs = [.ref x, .ref t] ∧ H x = some (.ins CT dx []) ∧ EdsAt K C H t es ∧ es.length ≤ 40 ∧
  (wrongAt (keysOf es) = none → ∀ H', SameBut x H H' → StObj CT H' x es → Q .non H') ∧ (∀ i, wrongAt (keysOf es) = some i → ∀ H' d, Same H H' → H' d = some (.xd [("index", .int i)]) → E (.ref CI) (some d) H')
structure TxtS (P : Program) (w : World) (K : PySem.W.Frag) (mg : Str → Option Value) (base : Heap) (C CT CI fI : Addr) (fdI : FuncData) : Prop where
  cl : Cls K CT
  nT : NoAttr K CT "table"
  nN : NoAttr K CT "numbers"
  lst : mg "list" = none
  mgE : mg "InvalidStore" = some (.ref CI)
  sup : SupC P K mg CI
  nF : PySem.W.findIn K (.ref CI) "index" = some none
  iC : PySem.W.findIn K (.ref CI) "__init__" = some (some (.ref fI))
  tI : PySem.W.typeIn K (.ref fI) = some (.type "function")
  er : ErrFn P K CI "InvalidStore.__init__" sIs fI fdI
  bI : Binds K fdI ["self", "index"] []
  p0 : Prp P w K mg base C "name" 0
  p1 : Prp P w K mg base C "version" 1
  ce : Cls K C
  dW : Def P w K mg base 3 "wrong_index" ["editions"] (spWi K C)
  dV : Def P w K mg base 1 "versions_by_name" ["keys"] (spVn K)
abbrev SiN : List Str := ["self", "editions", "index", "edition"]
theorem scSi : FnScope SiN ["self", "editions"] (defScope (sSt 0)) := ⟨rfl, rfl, rfl, by decide +kernel, rfl, by decide +kernel, by decide +kernel⟩
theorem wrong_bound {ks : List Kk} {i : Nat} (h : wrongAt ks = some i) : i ≤ ks.length := by
  unfold wrongAt at h
  split at h
  · cases h; exact Nat.zero_le _
  · exact Nat.le_of_lt (List.mem_range.mp (List.mem_of_find?_eq_some h))
section
variable {P : Program} {w : World} {K : PySem.W.Frag} {mg : Str → Option Value} {base : Heap} {C CT CI fI : Addr} {fdI : FuncData}
theorem ok_si {f : Addr} {fd : FuncData} (F : Fun K "__init__" "Store.__init__" (sSt 0) f fd) (T : TxtS P w K mg base C CT CI fI fdI) : FnOk P w K mg base (L2.CX P w) 4 f fd ["self", "editions"] (spSi K C CT CI) := by
  refine F.okX scSi (fun vs H Q E h => ?_) (fun cdv A outer s H vs Q E hr h => ?_)
  · obtain ⟨x, t, dx, es, rfl, _⟩ := h
    rfl
  · obtain ⟨x, t, dx, es, rfl, hx, hE, hz, kOk, kBad⟩ := h
    have nd' := scSi.nd
    have hu := hu_of hr
    have r2 : Room 2 _ := hr.mono (by decide)
    have FI : FnOk P w K mg base CX0 1 fI fdI ["self", "index"] (spErrI CI "index") := ok_is T.er T.sup T.nF
    refine ⟨_, pss_cons (ps_set (i := 2) nd' rfl (Or.inl rfl) (pe_def T.dW hr rfl (pa_cons (pv 1) pa_nil)))
      (pss_cons (ps_if (pt_cmp (pc_notN (pv 2))) (pss_one (ps_raise rfl (takes_of rfl rfl rfl rfl) (pmk_oex T.sup.oex T.iC T.tI FI (hr.mono (by decide)) T.bI .nil (fun _ _ _ _ _ _ _ h => h.elim) rfl T.mgE (pa_cons (pv 2) pa_nil)))) pss_nil)
      (pss_cons (ps_fld (pv 0) (pe_dcG (own := [("edition", 3)]) (g := gName 3) (tt := tYes) Bare.t hu rfl nd' (pi_tup (pv 1)) (blkOk_by (N := SiN) (sc := defScope (sSt 0)) (by decide +kernel)) (fun _ _ _ _ _ => pg_name (i := 3) nd' rfl (Or.inl rfl)) (fun _ _ _ _ _ => pts_nil)
          (fun _ _ _ _ _ => pe_tup (pa_cons (pe_prp T.p0 T.ce r2 (pv 3)) (pa_cons (pe_prp T.p1 T.ce r2 (pv 3)) pa_nil))) (fun _ _ _ _ _ => pv 3)) rfl)
      (pss_one (ps_fld (pv 0) (pe_def T.dV (hr.mono (by decide)) rfl (pa_cons (pe_callTy (call_list_dT rfl) (by rfl) T.lst (by decide +kernel) (pa_cons (pe_fld (pv 0) rfl) pa_nil)) pa_nil)) rfl)))), ?_⟩
    refine ⟨_, rfl, t, es, rfl, hE, hz, fun H1 s1 => ?_⟩
    cases hw : wrongAt (keysOf es) with
    | some i =>
      refine ⟨_, rfl, true, rfl, ?_⟩
      refine iteT ?_
      have hi : i ≤ 1000 := by
        have := wrong_bound hw
        rw [List.length_map] at this
        omega
      refine ⟨_, rfl, (by show 1 ≤ 1000; decide), fun a ha => ⟨a, i, rfl, upd_same, hi, fun d hd1 hd2 => ⟨rfl, d, [("index", .int i)], upd_same, ?_, ?_, ?_⟩⟩⟩
      · rw [upd_ne hd2, upd_same]
      · rw [upd_ne hd2] at hd1
        exact hd1
      · rw [upd_ne hd2] at hd1
        refine kBad i hw _ d (fun b o q => ?_) upd_same
        have q1 := s1 b o q
        have nb : b ≠ d := ne_of_none q1 hd1
        have na : b ≠ a := ne_of_none q1 ha
        rw [upd_ne nb, del_ne na, upd_ne na, upd_ne nb, upd_ne na]
        exact q1
    | none =>
      refine ⟨_, rfl, false, rfl, ?_⟩
      refine iteF ?_
      have one := wrong_nodup hw
      refine ⟨_, rfl, t, rfl, ⟨_, (hE.same s1).1⟩, fun D nD => ?_⟩
      refine dcG_it (walk_tup (K := K) (a := t) (xs := es.map fun e => .ref e.1)) (fun i H' => Same H1 H' ∧ H' D = some (.dT (tabOf (es.take i)))) ⟨Same.upd_new nD, upd_same⟩ (fun i H' _ I => ((hE.same s1).same I.1).1) ?_ ?_
      · rintro i v H2 H2' hi ⟨sm, gD⟩ ⟨rfl, hv⟩
        obtain ⟨e, he, rfl⟩ : ∃ e, es[i]? = some e ∧ v = .ref e.1 := by
          rw [List.getElem?_map] at hv
          obtain ⟨e, h1, h2⟩ := Option.map_eq_some_iff.mp hv
          exact ⟨e, h1, h2.symm⟩
        obtain ⟨dy, p, xs, h1, h2⟩ := ((hE.2 e (List.mem_of_getElem? he)).same s1).same sm
        refine ⟨rfl, ?_⟩
        refine ⟨_, rfl, e.1, dy, _, rfl, h1, e.1, dy, p, _, _, rfl, h1, h2, rfl, _, rfl, e.1, dy, _, rfl, h1, e.1, dy, p, _, _, rfl, h1, h2, rfl, two_le, fun tk ntk => ?_⟩
        have st := Same.upd_new (o := .tup [.str e.2.1, .int e.2.2]) ntk
        have hi' : i < es.length := (List.getElem?_eq_some_iff.mp he).1
        refine ⟨_, rfl, _, DPut.t (k := kk e.2) (st _ _ gD) upd_same (by unfold tabOf; rw [List.length_map, List.length_take, sizeLine_eq]; omega), ?_, ?_⟩
        · intro b o q
          rw [upd_ne (ne_of_none q nD)]
          exact st _ _ (sm _ _ q)
        · have new : valV (tabOf (es.take i)) (kk e.2) = none := by
            refine tab_none fun z => ?_
            have hke : (keysOf es)[i]? = some e.2 := by rw [List.getElem?_map, he] <;> rfl
            refine bad_has ((wrong_none hw).2 i (by rw [List.length_map]; exact hi')) hke ?_
            rw [← List.map_take]
            exact z
          rw [putK_new _ new, upd_same, take_snoc he]
          unfold tabOf
          rw [List.map_append]
          rfl
      · rintro H2 ⟨sm, gD⟩
        rw [List.length_map, List.take_length] at gD
        have hx2 := sm _ _ (s1 _ _ hx)
        refine ⟨_, rfl, x, CT, dx, [], rfl, hx2, T.cl, T.nT, (by show 0 < 1000; decide), ?_⟩
        have nxD : D ≠ x := ne_of gD hx2 (by intro z; cases z)
        have gx3 : (upd H2 x (.ins CT dx (putF "table" (.ref D) []))) x = some (.ins CT dx [("table", .ref D)]) := upd_same
        have gD3 : (upd H2 x (.ins CT dx (putF "table" (.ref D) []))) D = some (.dT (tabOf es)) := by rw [upd_ne nxD]; exact gD
        refine ⟨_, rfl, x, CT, dx, _, _, rfl, gx3, T.cl, T.nT, rfl, D, _, rfl, .inl gD3, fun pl bs npl hbs => ?_⟩
        have sl := Same.upd_new (o := .lst (bs.map V.ref)) npl
        have lb : (tabOf es).length = bs.length := Paired.length hbs
        have lb' : bs.length = (keysOf es).length := by
          rw [← lb]
          unfold tabOf
          rw [List.length_map, List.length_map]
        have zip1 : (bs.zip (keysOf es)).map (fun b => V.ref b.1) = bs.map V.ref := by
          rw [show (fun b : Addr × Kk => V.ref b.1) = V.ref ∘ Prod.fst from rfl, ← List.map_map, List.map_fst_zip (Nat.le_of_eq lb')]
        have zip2 : (bs.zip (keysOf es)).map (·.2) = keysOf es := List.map_snd_zip (Nat.le_of_eq lb'.symm)
        have hk : ∀ {es : Eds} {bs : List Addr} {H : Hp}, IsKeys H (tabOf es) bs → KeysIn H (bs.zip (keysOf es)) := by
          intro es
          induction es with
          | nil => intro bs H _ b hb; simp at hb
          | cons e es ih =>
            intro bs H h
            cases h with
            | cons h t =>
              intro b hb
              rcases List.mem_cons.mp hb with rfl | hb
              · exact h
              · exact ih t b hb
        refine ⟨pl, bs.zip (keysOf es), rfl, by rw [zip1]; exact SqL.of upd_same, fun b hb => sl _ _ (hk hbs b hb), by rw [List.length_zip, List.length_map]; omega, fun d H5 s5 nd5 nums => ?_⟩
        rw [zip2] at nums
        have gx5 := s5 _ _ (sl _ _ gx3)
        refine ⟨_, rfl, x, CT, dx, _, rfl, gx5, T.cl, T.nN, (by show 1 < 1000; decide), ?_⟩
        have keep : SameBut x H (upd H5 x (.ins CT dx (putF "numbers" (.ref d) [("table", .ref D)]))) := fun b o hb q => by
          rw [upd_ne hb]
          refine s5 _ _ (sl _ _ ?_)
          rw [upd_ne hb]
          exact sm _ _ (s1 _ _ q)
        have sx : ∀ b o, (∀ fs, o ≠ .ins CT dx fs) → H5 b = some o → (upd H5 x (.ins CT dx (putF "numbers" (.ref d) [("table", .ref D)]))) b = some o := fun b o ho q => by
          rw [upd_ne (ne_of q gx5 (ho _))]
          exact q
        refine kOk hw _ keep ⟨⟨dx, D, d, upd_same, sx _ _ (by intro fs z; cases z) (s5 _ _ (sl _ _ gD3)), ?_⟩, one⟩
        obtain ⟨ys, a1, a2, kvs, a3, a4, a5⟩ := nums
        refine ⟨ys, a1, a2, kvs, sx _ _ (by intro fs z; cases z) a3, a4, fun nm hm => ?_⟩
        obtain ⟨tt, b1, b2⟩ := a5 nm hm
        exact ⟨tt, b1, sx _ _ (by intro fs z; cases z) b2⟩
end
end Half

namespace Half
open PySem PySem.Spec PyProof.Rows L2
/-- an error class without an own __init__ -/
structure ErrC (K : PySem.W.Frag) (mg : Str → Option Value) (x : Str) (C : Addr) : Prop where
  g : mg x = some (.ref C)
  x : PySem.W.excIn K C [.type "ValueError", .type "Exception", .type "BaseException", .type "object"] "ValueError.__new__" = true
  k : PySem.W.keepIn K (.ref C) = true
  b : PySem.W.subIn K (.ref C) (.type "BaseException") = some true
  t : PySem.W.typeIn K (.ref C) = some (.type "type")
structure TxtT (K : PySem.W.Frag) (mg : Str → Option Value) (CT CN CU : Addr) : Prop where
  cl : Cls K CT
  nT : NoAttr K CT "table"
  nN : NoAttr K CT "numbers"
  tup : mg "tuple" = none
  len : mg "len" = none
  isi : mg "isinstance" = none
  boo : mg "bool" = none
  mgC : mg "Store" = some (.ref CT)
  en : ErrC K mg "UnknownName" CN
  eu : ErrC K mg "UnknownEdition" CU
  ha : PySem.W.findIn K (.ref CT) "__class__" = some (some (.builtin "object.__class__"))
  hn : PySem.W.specialIn K (.builtin "object.__class__") "__get__" = some (some (.builtin "getset_descriptor.__get__"))
  ht : PySem.W.takesIn K (.builtin "object.__class__") = some true
  hm : PySem.W.mroIn K CT (.type "object") = some true
  ki : PySem.W.kitOne K (.ref CT) (.ref CT) = some true
def spNames (CT : Addr) : Sp := fun vs H Q _ => ∃ (a : Addr) (es : Eds), vs = [.ref a] ∧ StObj CT H a es ∧ ∀ ys p, ys.Perm (keysOf es) → Asc ys → H p = none → Q (.ref p) (upd H p (.tup ((dset (ys.map (·.1))).map V.str)))
def spVers (CT CN : Addr) : Sp := fun vs H Q E => ∃ (a : Addr) (es : Eds) (nm : Str), vs = [.ref a, .str nm] ∧ StObj CT H a es ∧
  (nm ∈ (keysOf es).map (·.1) → ∀ ys t, ys.Perm (keysOf es) → Asc ys → H t = some (.tup (numsOf ys nm)) → Q (.ref t) H) ∧ (nm ∉ (keysOf es).map (·.1) → (reprText nm).length ≤ 1000 ∧ E (.ref CN) none H)
def spLen (CT : Addr) : Sp := fun vs H Q _ => ∃ (a : Addr) (es : Eds), vs = [.ref a] ∧ StObj CT H a es ∧ Q (.int (es.length : Nat)) H
def spHas (CT : Addr) : Sp := fun vs H Q _ => ∃ (a b : Addr) (es : Eds) (k : Kk), vs = [.ref a, .ref b] ∧ StObj CT H a es ∧ H b = some (.tup [.str k.1, .int k.2]) ∧ Q (.bl (has (keysOf es) k)) H
def spItem (CT CU : Addr) : Sp := fun vs H Q E => ∃ (a b : Addr) (es : Eds) (k : Kk), vs = [.ref a, .ref b] ∧ StObj CT H a es ∧ H b = some (.tup [.str k.1, .int k.2]) ∧ (∀ e ∈ es, e.2 = k → Q (.ref e.1) H) ∧ (k ∉ keysOf es → E (.ref CU) none H)
def spStEq (CT : Addr) : Sp := fun vs H Q _ => ∃ (a b : Addr) (es es' : Eds), vs = [.ref a, .ref b] ∧ StObj CT H a es ∧ StObj CT H b es' ∧ (es.length = es'.length → ∀ e ∈ es, e ∈ es') ∧ Q (.bl (decide (es.length = es'.length))) H
section
variable {P : Program} {w : World} {K : PySem.W.Frag} {mg : Str → Option Value} {base : Heap} {CT CN CU : Addr}
theorem scNames : FnScope ["self"] ["self"] (defScope (sSt 1)) := ⟨rfl, rfl, rfl, by decide +kernel, rfl, by decide +kernel, by decide +kernel⟩
theorem ok_names {f : Addr} {fd : FuncData} (F : Fun K "names" "Store.names" (sSt 1) f fd) (T : TxtT K mg CT CN CU) : FnOk P w K mg base CX0 1 f fd ["self"] (spNames CT) := by
  refine F.ok scNames (fun vs H Q E h => ?_) (fun cdv A outer s H vs Q E hr h => ?_)
  · obtain ⟨a, es, rfl, _⟩ := h
    rfl
  · obtain ⟨a, es, rfl, ⟨⟨dx, tb, nb, h1, h2, ys, p1, p2, kvs, h3, h4, h5⟩, one⟩, k⟩ := h
    refine ⟨_, pss_one (ps_ret (pe_callTy (call_tuple_dK rfl) (by rfl) T.tup (by decide +kernel) (pa_cons (pe_fld (pv 0) rfl) pa_nil))), ?_⟩
    refine ⟨_, rfl, a, CT, dx, _, _, rfl, h1, T.cl, T.nN, rfl, nb, kvs, rfl, h3, fun q nq => ?_⟩
    have e : kvs.map (fun kv => kV kv.1) = (dset (ys.map (·.1))).map V.str := by
      rw [show (fun kv : Key × V => kV kv.1) = kV ∘ Prod.fst from rfl, ← List.map_map, h4, List.map_map]
      rfl
    rw [e]
    exact k ys q p1 p2 nq
theorem scVers : FnScope ["self", "name"] ["self", "name"] (defScope (sSt 2)) := ⟨rfl, rfl, rfl, by decide +kernel, rfl, by decide +kernel, by decide +kernel⟩
theorem ok_vers {f : Addr} {fd : FuncData} (F : Fun K "versions" "Store.versions" (sSt 2) f fd) (T : TxtT K mg CT CN CU) : FnOk P w K mg base (L2.CX P w) 1 f fd ["self", "name"] (spVers CT CN) := by
  refine F.okX scVers (fun vs H Q E h => ?_) (fun cdv A outer s H vs Q E hr h => ?_)
  · obtain ⟨a, es, nm, rfl, _⟩ := h
    rfl
  · obtain ⟨a, es, nm, rfl, ⟨⟨dx, tb, nb, h1, h2, ys, p1, p2, kvs, h3, h4, h5⟩, one⟩, kY, kN⟩ := h
    have hu := hu_of hr
    refine ⟨_, pss_cons (ps_if (pt_cmp (pc_dnotin hu (pv 1) (pe_fld (pv 0) rfl))) (pss_one (ps_raise rfl (takes_of rfl rfl rfl rfl) (SkE.pmk_own1 PySem.F.excBase_ValueError T.en.x T.en.g T.en.k (raises_own T.en.b T.en.t) rfl (pe_joined (.cons pe_str (.cons (pe_fmtR (pv 1)) .nil)))))) pss_nil)
      (pss_one (ps_ret (pe_dget hu (pe_fld (pv 0) rfl) (pv 1) (fun _ _ => rfl)))), ?_⟩
    have mem : ∀ x, x ∈ ys.map (·.1) ↔ x ∈ (keysOf es).map (·.1) := fun x => (p1.map (·.1)).mem_iff
    refine ⟨_, rfl, _, rfl, a, CT, dx, _, _, rfl, h1, T.cl, T.nN, rfl, nb, _, rfl, DGet.k (k := .inr nm) h3, _, rfl, ?_⟩
    by_cases hm : nm ∈ (keysOf es).map (·.1)
    · obtain ⟨t, e1, e2⟩ := h5 nm ((mem nm).mpr hm)
      refine ite_no (by rw [e1]; rfl) ?_
      refine ⟨_, rfl, a, CT, dx, _, _, rfl, h1, T.cl, T.nN, rfl, _, rfl, nb, .ref t, rfl, ?_, kY hm ys t p1 p2 e2⟩
      rw [← e1]
      exact DGet.k (k := .inr nm) h3
    · have e : valV kvs (.inr nm) = none := by
        cases c : valV kvs (.inr nm) with
        | none => rfl
        | some v =>
          have z := valV_in c
          rw [h4] at z
          obtain ⟨q, hq, eq⟩ := List.mem_map.mp z
          injection eq with eq
          subst eq
          exact absurd ((mem q).mp ((mem_dset _ _).mp hq)) hm
      refine ite_yes (by rw [e]; rfl) ?_
      obtain ⟨lr, kE⟩ := kN hm
      refine ⟨_, rfl, (by decide), _, rfl, .inl ⟨nm, rfl, by rw [sizeLine_eq]; omega, _, rfl, ?_, kE⟩⟩
      rw [app_len, app_len, sizeLine_eq]
      have : ("the store has no package " : Str).length = 25 := by decide
      have e0 : (Str.empty).length = 0 := by decide
      omega
theorem scLen : FnScope ["self"] ["self"] (defScope (sSt 3)) := ⟨rfl, rfl, rfl, by decide +kernel, rfl, by decide +kernel, by decide +kernel⟩
theorem ok_len {f : Addr} {fd : FuncData} (F : Fun K "__len__" "Store.__len__" (sSt 3) f fd) (T : TxtT K mg CT CN CU) : FnOk P w K mg base CX0 1 f fd ["self"] (spLen CT) := by
  refine F.ok scLen (fun vs H Q E h => ?_) (fun cdv A outer s H vs Q E hr h => ?_)
  · obtain ⟨a, es, rfl, _⟩ := h
    rfl
  · obtain ⟨a, es, rfl, ⟨⟨dx, tb, nb, h1, h2, _⟩, one⟩, k⟩ := h
    refine ⟨_, pss_one (ps_ret (pe_callB call_len_dT (by rfl) T.len PySem.boot_len (pa_cons (pe_fld (pv 0) rfl) pa_nil))), ?_⟩
    refine ⟨_, rfl, a, CT, dx, _, _, rfl, h1, T.cl, T.nT, rfl, tb, _, rfl, h2, ?_⟩
    have e : (tabOf es).length = es.length := List.length_map _
    rw [e]
    exact k
theorem scHas : FnScope ["self", "x"] ["self", "x"] (defScope (sSt 4)) := ⟨rfl, rfl, rfl, by decide +kernel, rfl, by decide +kernel, by decide +kernel⟩
theorem tab_has {es : Eds} (one : (keysOf es).Nodup) (k : Kk) : (valV (tabOf es) (kk k)).isSome = has (keysOf es) k := by
  by_cases h : k ∈ keysOf es
  · obtain ⟨e, he, rfl⟩ := List.mem_map.mp h
    rw [tab_some one he, has_iff.mpr h]
    rfl
  · rw [tab_none h, has_no h]
    rfl
theorem ok_has {f : Addr} {fd : FuncData} (F : Fun K "__contains__" "Store.__contains__" (sSt 4) f fd) (T : TxtT K mg CT CN CU) : FnOk P w K mg base CX0 1 f fd ["self", "x"] (spHas CT) := by
  refine F.ok scHas (fun vs H Q E h => ?_) (fun cdv A outer s H vs Q E hr h => ?_)
  · obtain ⟨a, b, es, k, rfl, _⟩ := h
    rfl
  · obtain ⟨a, b, es, k, rfl, ⟨⟨dx, tb, nb, h1, h2, _⟩, one⟩, hb, q⟩ := h
    have hu := hu_of hr
    refine ⟨_, pss_one (ps_ret (pe_and (pe_cmp (pc_din hu (pv 1) (pe_fld (pv 0) rfl)) rfl) (pe_one (pe_not (pe_callB call_isi (by rfl) T.isi (by decide +kernel) (pa_cons (pe_ix ix_tup (pv 1) pe_int (fun _ _ => rfl)) (pa_cons (pe_bltn (v := .ty "bool") (by rfl) T.boo (by decide +kernel) rfl) pa_nil))))))), ?_⟩
    refine ⟨_, rfl, _, rfl, a, CT, dx, _, _, rfl, h1, T.cl, T.nT, rfl, tb, _, rfl, DGet.t (k := kk k) h2 hb, _, rfl, ?_⟩
    rw [tab_has one]
    cases c : has (keysOf es) k
    · rw [c] at q
      exact iteF q
    · refine iteT ?_
      rw [c] at q
      refine ⟨_, rfl, b, _, 1, _, rfl, rfl, .inl (.inl hb), rfl, _, _, _, _, _, rfl, .ty _, .base (.int _), kit_ty (r := false) (by decide +kernel), _, rfl, q⟩
theorem scItem : FnScope ["self", "at"] ["self", "at"] (defScope (sSt 5)) := ⟨rfl, rfl, rfl, by decide +kernel, rfl, by decide +kernel, by decide +kernel⟩
theorem ok_item {f : Addr} {fd : FuncData} (F : Fun K "__getitem__" "Store.__getitem__" (sSt 5) f fd) (T : TxtT K mg CT CN CU) {fh : Addr} {fdh : FuncData} (FH : FnOk P w K mg base CX0 1 fh fdh ["self", "x"] (spHas CT)) (hO : OwnSp K CT fh "__contains__") (bh : Binds K fdh ["self", "x"] []) :
    FnOk P w K mg base (L2.CX P w) 2 f fd ["self", "at"] (spItem CT CU) := by
  refine F.okX scItem (fun vs H Q E h => ?_) (fun cdv A outer s H vs Q E hr h => ?_)
  · obtain ⟨a, b, es, k, rfl, _⟩ := h
    rfl
  · obtain ⟨a, b, es, k, rfl, hS, hb, kY, kN⟩ := h
    have hu := hu_of hr
    refine ⟨_, pss_cons (ps_if (pt_cmpR (op_notinO FH hO bh hr pass0) (pv 1) (pv 0) (by rfl)) (pss_one (ps_raise rfl (takes_of rfl rfl rfl rfl) (pmk_own PySem.F.excBase_ValueError T.eu.x T.eu.g T.eu.k (raises_own T.eu.b T.eu.t) rfl))) pss_nil)
      (pss_one (ps_ret (pe_dget hu (pe_fld (pv 0) rfl) (pv 1) (fun _ _ => rfl)))), ?_⟩
    obtain ⟨⟨dx, tb, nb, h1, h2, _⟩, one⟩ := id hS
    refine ⟨_, rfl, _, rfl, a, dx, _, rfl, h1, a, b, es, k, rfl, hS, hb, _, rfl, _, rfl, ?_⟩
    by_cases hm : k ∈ keysOf es
    · rw [has_iff.mpr hm]
      refine ite_no rfl ?_
      obtain ⟨e, he, rfl⟩ := List.mem_map.mp hm
      refine ⟨_, rfl, a, CT, dx, _, _, rfl, h1, T.cl, T.nT, rfl, _, rfl, tb, .ref e.1, rfl, ?_, kY e he rfl⟩
      rw [← tab_some one he]
      exact DGet.t (k := kk e.2) h2 hb
    · rw [has_no hm]
      refine ite_yes rfl ?_
      exact kN hm
theorem scStEq : FnScope ["self", "other"] ["self", "other"] (defScope (sSt 7)) := ⟨rfl, rfl, rfl, by decide +kernel, rfl, by decide +kernel, by decide +kernel⟩
theorem ok_steq {f : Addr} {fd : FuncData} (F : Fun K "__eq__" "Store.__eq__" (sSt 7) f fd) (T : TxtT K mg CT CN CU) : FnOk P w K mg base CX0 1 f fd ["self", "other"] (spStEq CT) := by
  refine F.ok scStEq (fun vs H Q E h => ?_) (fun cdv A outer s H vs Q E hr h => ?_)
  · obtain ⟨a, b, es, es', rfl, _⟩ := h
    rfl
  · obtain ⟨a, b, es, es', rfl, ⟨⟨dx, tb, nb, h1, h2, _⟩, one⟩, ⟨⟨dy, tc, nc, g1, g2, _⟩, one'⟩, hs, k⟩ := h
    have hu := hu_of hr
    refine ⟨_, pss_one (ps_ret (pe_and (pe_callB call_isi (by rfl) T.isi (by decide +kernel) (pa_cons (pv 1) (pa_cons (pe_glob (v := .ref CT) rfl T.mgC rfl) pa_nil)))
      (pe_one (pe_cmpR (op_eqT hu) (pe_fld (pv 0) rfl) (pe_fld (pv 1) rfl) (nomark _))))), ?_⟩
    refine ⟨_, rfl, _, _, _, _, _, rfl, .own CT, .base (.ins g1 T.cl T.ha T.hn T.ht T.hm), T.ki, _, rfl, ?_⟩
    refine iteT ?_
    have e1 : (tabOf es).length = es.length := List.length_map _
    have e2 : (tabOf es').length = es'.length := List.length_map _
    refine ⟨_, rfl, a, CT, dx, _, _, rfl, h1, T.cl, T.nT, rfl, _, rfl, b, CT, dy, _, _, rfl, g1, T.cl, T.nT, rfl, tb, tc, _, _, rfl, rfl, h2, g2, fun hl p hp => ?_, ?_⟩
    · rw [e1, e2] at hl
      obtain ⟨e, he, rfl⟩ := List.mem_map.mp hp
      exact ⟨e.1, rfl, tab_some one' (hs hl e he)⟩
    · rw [e1, e2]
      exact k
end
end Half

/-! == and != of two dicts with flat keys whose values are data -/
namespace L2
open PySem PySem.Spec PyProof.Rows
inductive DpM (K : PySem.W.Frag) (H : Hp) : List (Key × V) → List (Key × PyData) → Prop
  | nil : DpM K H [] []
  | cons {k : Key} {v : V} {d : PyData} {ks : List (Key × V)} {ds : List (Key × PyData)} : Dp K H v d → SeqAt.shaped d = true → DpM K H ks ds → DpM K H ((k, v) :: ks) ((k, d) :: ds)
def datAt (ds : List (Key × PyData)) (k : Key) : Option PyData := (ds.find? fun q => decide (q.1 = k)).map (·.2)
def hitM (dl : List (Key × PyData)) (p : Key × PyData) : Bool := match datAt dl p.1 with
  | some d => PyData.eqv p.2 d
  | none => false
def eqM (dk dl : List (Key × PyData)) : Bool := decide (dk.length = dl.length) && dk.all (hitM dl)
theorem DpM.len {K : PySem.W.Frag} {H : Hp} {ks : List (Key × V)} {ds : List (Key × PyData)} (h : DpM K H ks ds) : ks.length = ds.length := by
  induction h with
  | nil => rfl
  | cons _ _ _ ih => simp [ih]
theorem DpM.at {K : PySem.W.Frag} {H : Hp} {ks : List (Key × V)} {ds : List (Key × PyData)} (h : DpM K H ks ds) (k : Key) : (valV ks k = none ∧ datAt ds k = none) ∨ ∃ v d, valV ks k = some v ∧ datAt ds k = some d ∧ Dp K H v d ∧ SeqAt.shaped d = true := by
  induction h with
  | nil => exact .inl ⟨rfl, rfl⟩
  | @cons k' v d ks ds h1 h2 _ ih =>
    by_cases c : k' = k
    · refine .inr ⟨v, d, ?_, ?_, h1, h2⟩
      · unfold valV; rw [List.find?_cons, decide_eq_true c]; rfl
      · unfold datAt; rw [List.find?_cons, decide_eq_true c]; rfl
    · have e1 : valV ((k', v) :: ks) k = valV ks k := by unfold valV; rw [List.find?_cons, decide_eq_false c]
      have e2 : datAt ((k', d) :: ds) k = datAt ds k := by unfold datAt; rw [List.find?_cons, decide_eq_false c]
      rw [e1, e2]
      exact ih
section
variable {X : Cx}
theorem hits_dat {pins : List (Addr × Obj)} {σ : St} {H : Hp} {s : Shared} {A : Around} (I : Inv X pins σ H s) (hu : A.units + 64 < cLine) {ls : List (Key × V)} {dl : List (Key × PyData)} {vb : List (Key × Value)} (rb : KV ls vb) (hb : DpM X.K H ls dl) :
    ∀ {ks : List (Key × V)} {dk : List (Key × PyData)} {va : List (Key × Value)}, KV ks va → DpM X.K H ks dk → PySem.W.KeqHits A s vb va (dk.all (hitM dl)) := by
  intro ks dk va ra ha
  induction ha generalizing va with
  | nil =>
    cases ra
    exact .nil
  | @cons k v d ks ds h1 h2 _ ih =>
    cases ra with
    | @cons _ q _ qs h t =>
      obtain ⟨e1, e2⟩ := h
      obtain ⟨k', u⟩ := q
      have e1 : k = k' := e1
      subst e1
      have e2 : RelV v u := e2
      have ih := ih t
      have z := rb.val k
      rw [List.all_cons]
      rcases hb.at k with ⟨n1, n2⟩ | ⟨v', d', n1, n2, n3, n4⟩
      · rw [n1] at z
        have z : valueAt vb k = none := by
          cases q : valueAt vb k with
          | none => rfl
          | some m => rw [q] at z; exact (show False from z).elim
        have e : hitM dl (k, d) = false := by unfold hitM; rw [show datAt dl (k, d).1 = none from n2]
        rw [e, Bool.false_and]
        exact .miss z
      · rw [n1] at z
        obtain ⟨y, hy, ry⟩ := RelO.some_of z
        have e : hitM dl (k, d) = PyData.eqv d d' := by unfold hitM; rw [show datAt dl (k, d).1 = some d' from n2]
        rw [e]
        obtain ⟨as, r1⟩ := Dp.reads I d v u h1 e2
        obtain ⟨bs, r2⟩ := Dp.reads I d' v' y n3 ry
        exact .hit hy (SeqAt.eqAt_reads d d' A s u y as bs r1 r2 (SeqAt.canLay_of_shaped h2) (SeqAt.canLay_of_shaped n4) (SeqAt.room_of_shaped h2 hu)) ih
def rEqM (K : PySem.W.Frag) (fl : Bool → Bool) : R2 := fun x y H Q => ∃ a b ks ls dk dl, x = .ref a ∧ y = .ref b ∧ H a = some (.dK ks) ∧ H b = some (.dK ls) ∧ DpM K H ks dk ∧ DpM K H ls dl ∧ Q (.bl (fl (eqM dk dl))) H
theorem eqM_len {K : PySem.W.Frag} {H : Hp} {ks ls : List (Key × V)} {dk dl : List (Key × PyData)} {va vb : List (Key × Value)} (ra : KV ks va) (rb : KV ls vb) (ha : DpM K H ks dk) (hb : DpM K H ls dl) : (va.length == vb.length && dk.all (hitM dl)) = eqM dk dl := by
  unfold eqM
  rw [← ra.length, ← rb.length, ha.len, hb.len]
  congr 1
theorem op_eqM (hu : X.A.units + 66 < cLine) : OpR X (compareOp .Eq) (rEqM X.K id) := by
  intro pins s σ H x y v u Q I rx ry h
  obtain ⟨a, b, ks, ls, dk, dl, rfl, rfl, ea, eb, ma, mb, q⟩ := h
  cases rx
  cases ry
  obtain ⟨_, ya, va, ra, da⟩ := dk_of I.hok ea
  obtain ⟨_, yb, vb, rb, db⟩ := dk_of I.hok eb
  refine PySem.W.keq_eq (knd := mixKind X.prog X.w) ya yb da db (by omega) (fun _ => hits_dat I (show X.A.in1.units + 64 < cLine by show X.A.units + 1 + 64 < cLine; omega) rb mb ra ma) ?_
  rw [eqM_len ra rb ma mb]
  exact ⟨.bl _, H, I, rfl, q⟩
theorem op_neM (hu : X.A.units + 66 < cLine) : OpR X (compareOp .NotEq) (rEqM X.K not) := by
  intro pins s σ H x y v u Q I rx ry h
  obtain ⟨a, b, ks, ls, dk, dl, rfl, rfl, ea, eb, ma, mb, q⟩ := h
  cases rx
  cases ry
  obtain ⟨_, ya, va, ra, da⟩ := dk_of I.hok ea
  obtain ⟨_, yb, vb, rb, db⟩ := dk_of I.hok eb
  refine PySem.W.keq_ne (knd := mixKind X.prog X.w) ya yb da db (by omega) (fun _ => hits_dat I (show X.A.in1.units + 64 < cLine by show X.A.units + 1 + 64 < cLine; omega) rb mb ra ma) ?_
  rw [eqM_len ra rb ma mb]
  exact ⟨.bl _, H, I, rfl, q⟩
end
end L2

/-! a dict of flat keys taken into another one, pair by pair, as {**d, ..} does it -/
namespace L2
open PySem PySem.Spec PyProof.Rows
section
variable {P : Program} {w : World} {A : Around} {E : Value → Shared → Prop} {s : Shared}
/-- the place of a key, by the entries and by the pairs -/
theorem place_same {κ : Type} [DecidableEq κ] {kd : KeyKind P w κ} {es : Array DictEntry} {ps : List (κ × Value)} {x : κ} (hp : ∀ y, (es.toList.findIdx? fun e => kd.is y e.key) = ps.findIdx? fun q => decide (q.1 = y)) : (es.findIdx? fun e => kd.is x e.key) = ps.findIdx? fun q => decide (q.1 = x) := by
  have z := hp x
  obtain ⟨l⟩ := es
  simpa using z
/-- one pair -/
theorem put_one {κ : Type} [DecidableEq κ] {kd : KeyKind P w κ} {D : Addr} {ps : List (κ × Value)} {x : κ} {u y : Value} {Q : Unit → Shared → Prop} (hx : kd.is x u = true) (dd : s.heap.DictOf kd D ps) (few : ps.length ≤ sizeLine)
    (q : ∀ h', h'.DictOf kd D (stored ps x y) → Heap.SameBut D s.heap h' → Q () { s with heap := h' }) : wpAny (model P w) A (dictPut D (kd.hash x) u y) Q E s := by
  obtain ⟨ob, es, ep, g1, g2, g3, g4, g5, g6⟩ := dd
  have pl := place_same (x := x) g5.findIdx
  have size : es.size = ps.length := by rw [← g5.length, Array.length_toList]
  unfold dictPut
  refine wpAny_bind (wpAny_dictFind_of hx g1 g3 g4 ?_)
  by_cases there : x ∈ ps.map (·.1)
  · obtain ⟨i, ei⟩ : ∃ i, (ps.findIdx? fun q => decide (q.1 = x)) = some i := by
      cases c : ps.findIdx? fun q => decide (q.1 = x) with
      | some i => exact ⟨i, rfl⟩
      | none => exact absurd there (not_mem_of_findIdx_none c)
    have st : stored ps x y = ps.map fun q => if q.1 = x then (q.1, y) else q := by unfold stored; rw [if_pos (any_of_findIdx_some ei)]
    rw [pl, ei]
    have l1 : (es.toList.findIdx? fun e => kd.is x e.key) = some i := by rw [g5.findIdx x, ei]
    have pairs := g5.modify g6 l1 y
    refine wpAny_updateDict g1 g3 (q _ ⟨_, _, ep, Heap.get?_update_self _ g1 (Obj.isFreed_of_dict (Obj.data_mapDict g3 _)), g2.mapDict _, Obj.data_mapDict g3 _, g4.modify _ _, ?p, ?n⟩ (Heap.SameBut.update ..))
    case p =>
      obtain ⟨l⟩ := es
      rw [st]
      simpa using pairs
    case n =>
      rw [st, keys_map_store]
      exact g6
  · have none_ : (ps.findIdx? fun q => decide (q.1 = x)) = none := by
      refine List.findIdx?_eq_none_iff.mpr fun q hq => decide_eq_false fun e => there ?_
      exact List.mem_map.mpr ⟨q, hq, e⟩
    have st : stored ps x y = ps ++ [(x, y)] := by
      unfold stored
      rw [if_neg]
      intro z
      obtain ⟨q, hq, e⟩ := List.any_eq_true.mp z
      exact there (List.mem_map.mpr ⟨q, hq, of_decide_eq_true e⟩)
    rw [pl, none_]
    have pairs := g5.append hx (kd.hash x) y
    refine wpAny_updateDictKeys (hz := by rw [size]; exact few) g1 g3 (q _ ⟨_, _, ep + 1, Heap.get?_update_self _ g1 (Obj.isFreed_of_dict (Obj.data_mapDictKeys g3 _)), g2.mapDictKeys _, Obj.data_mapDictKeys g3 _, g4.push hx _, ?p, ?n⟩ (Heap.SameBut.update ..))
    case p =>
      obtain ⟨l⟩ := es
      rw [st]
      simpa using pairs
    case n =>
      rw [st, List.map_append]
      refine List.nodup_append.mpr ⟨g6, by simp, fun a ha b hb e => there ?_⟩
      have : b = x := by simpa using hb
      rw [← this, ← e]
      exact ha
theorem flat_of {k : Key} {v : Value} (h : (mixKind P w).is k v = true) (a : Addr) : v ≠ .ref a := by
  rintro rfl
  cases k <;> exact absurd h (by simp [mixKind, keyIs, Value.isInt, Value.isStrOf])
/-- one pair of the source, behind those that were taken -/
def oneMore (D S : Addr) (ep i : Nat) : Sem (ForInStep PUnit) := do
  match (← dictEntries S)[i]? with
  | some e => do
    holding [e.key, e.val] (dictPut D e.hash e.key e.val)
    if ((← dictEpoch S) != ep) = true then do
      (unsupported "dict.changed-during-merge" : Sem PUnit)
      pure (.yield .unit)
    else pure (.yield .unit)
  | _ => do
    (unsupported "dict.changed-during-merge" : Sem PUnit)
    pure (.yield .unit)
/-- an entry and its pair -/
def Goes (P : Program) (w : World) (e : DictEntry) (q : Key × Value) : Prop := (mixKind P w).is q.1 e.key = true ∧ e.hash = (mixKind P w).hash q.1 ∧ e.val = q.2
theorem goes_of {h : Heap} {S : Addr} {ps : List (Key × Value)} (dd : h.DictOf (mixKind P w) S ps) : ∃ ob es ep, h.get? S = some ob ∧ ob.data = .dict es ep ∧ es.size = ps.length ∧ ∀ (i : Nat) (q : Key × Value), ps[i]? = some q → ∃ e, es[i]? = some e ∧ Goes P w e q := by
  obtain ⟨ob, es, ep, g1, _, g3, g4, g5, _⟩ := dd
  have size : es.size = ps.length := by rw [← g5.length, Array.length_toList]
  refine ⟨ob, es, ep, g1, g3, size, fun i q hq => ?_⟩
  have lt : i < es.size := by rw [size]; exact (List.getElem?_eq_some_iff.mp hq).1
  refine ⟨es[i], Array.getElem?_eq_getElem lt, ?_⟩
  obtain ⟨a, b⟩ := g5.get? (i := i) (e := es[i]) (k := q.1) (v := q.2) (by rw [Array.getElem?_toList, Array.getElem?_eq_getElem lt]) hq
  obtain ⟨k2, c, d⟩ := g4 _ (Array.getElem_mem lt)
  rw [(mixKind P w).inj _ _ _ c a] at d
  exact ⟨a, d, b⟩
theorem take_rest {D S : Addr} {ob : Obj} {es : Array DictEntry} {ep : Nat} {ps : List (Key × Value)} (ne : S ≠ D) (hd : ob.data = .dict es ep) (go : ∀ (i : Nat) (q : Key × Value), ps[i]? = some q → ∃ e, es[i]? = some e ∧ Goes P w e q) : ∀ (n i : Nat) (s : Shared) (acc : List (Key × Value)) (Q : PUnit → Shared → Prop), n + i = ps.length →
    s.heap.get? S = some ob → s.heap.DictOf (mixKind P w) D acc → acc.length + n ≤ sizeLine →
    (∀ h', h'.get? S = some ob → h'.DictOf (mixKind P w) D (merged acc (ps.drop i)) → Heap.SameBut D s.heap h' → Q .unit { s with heap := h' }) →
    wpAny (model P w) A (forIn (List.range' i n) PUnit.unit fun j (_ : PUnit) => oneMore D S ep j) Q E s := by
  intro n
  induction n with
  | zero =>
    intro i s acc Q en gS gD _ q
    have z := q s.heap gS (by rw [List.drop_of_length_le (by omega)]; exact gD) (Heap.SameBut.refl D _)
    exact wpAny_pure z
  | succ n more =>
    intro i s acc Q en gS gD few q
    have lt : i < ps.length := by omega
    obtain ⟨e, ee, a1, a2, a3⟩ := go i ps[i] (List.getElem?_eq_getElem lt)
    rw [List.range'_succ, List.forIn_cons]
    refine wpAny_bind ?_
    unfold oneMore
    refine wpAny_bind (wpAny_dictEntries gS hd ?_)
    rw [ee]
    dsimp only
    rw [a2, a3]
    refine wpAny_bind (wpAny_holding (put_one a1 gD (by omega) fun h1 d1 b1 => ?_))
    have gS1 : h1.get? S = some ob := by rw [b1.2 S ne]; exact gS
    refine wpAny_bind (wpAny_dictEpoch gS1 hd ?_)
    rw [bne_self_eq_false, if_neg Bool.false_ne_true]
    refine wpAny_pure ?_
    dsimp only
    have l1 := stored_length_le acc ps[i].1 ps[i].2
    refine more (i + 1) { s with heap := h1 } _ Q (by omega) gS1 d1 (by omega) fun h2 c1 c2 c3 => q h2 c1 ?_ (b1.trans c3)
    rw [List.drop_eq_getElem_cons lt]
    exact c2
/-- all pairs of the dict at S are put into the dict at D -/
theorem merge_map {D S : Addr} {acc ps : List (Key × Value)} {Q : Unit → Shared → Prop} (ne : S ≠ D) (hS : (S == sysModules) = false) (gD : s.heap.DictOf (mixKind P w) D acc) (gS : s.heap.DictOf (mixKind P w) S ps) (few : acc.length + ps.length ≤ sizeLine)
    (q : ∀ h', h'.DictOf (mixKind P w) D (merged acc ps) → Heap.SameBut D s.heap h' → Q () { s with heap := h' }) : wpAny (model P w) A (mergeMapping D (.ref S) false) Q E s := by
  obtain ⟨ob, es, ep, gob, hd, size, go⟩ := goes_of gS
  obtain ⟨obD, esD, epD, gobD, hdD, _, _⟩ := goes_of gD
  have ty := gS.typeIs
  have main : wpAny (model P w) A (forIn (List.range es.size) PUnit.unit (fun j (_ : PUnit) => oneMore D S ep j) >>= fun _ => pure ()) Q E s := by
    rw [List.range_eq_range', size]
    refine wpAny_bind (take_rest ne hd go ps.length 0 s acc _ (Nat.add_zero _) gob gD few fun h' _ d sb => ?_)
    exact wpAny_pure (q h' d sb)
  unfold mergeMapping
  refine wpAny_bind (wpAny_isInstance ty isSubtype_dict_dict ?_)
  show wpAny _ _ (specialOf (.ref S) "__iter__" >>= _) _ _ s
  refine wpAny_bind (wpAny_specialOf ty F.slot_dict_iter.lookup ?_)
  show wpAny _ _ (pure (some (Value.builtin "dict.__iter__") == some (Value.builtin "dict.__iter__")) >>= _) _ _ s
  refine wpAny_bind (wpAny_pure ?_)
  have yes : (some (Value.builtin "dict.__iter__") == some (Value.builtin "dict.__iter__")) = true := by decide +kernel
  rw [yes]
  dsimp only
  rw [hS, if_neg Bool.false_ne_true]
  refine wpAny_bind (wpAny_dictEntries gobD hdD ?_)
  have tail : wpAny (model P w) A (do
      let l ← dictEntries S
      let e ← dictEpoch S
      forIn (List.range l.size) PUnit.unit fun j (_ : PUnit) => oneMore D S e j
      pure ()) Q E s := wpAny_bind (wpAny_dictEntries gob hd (wpAny_bind (wpAny_dictEpoch gob hd main)))
  by_cases em : esD.isEmpty = true
  · rw [if_pos em]
    refine wpAny_bind (wpAny_dictEntries gob hd (wpAny_bind ?_))
    rw [← Array.forIn_toList]
    have all : ∀ (l : List DictEntry) (Q' : PUnit → Shared → Prop), (∀ e ∈ l, ∀ a, e.key ≠ .ref a) → Q' .unit s → wpAny (model P w) A (forIn l PUnit.unit fun e (_ : PUnit) => (match e.key with
        | Value.ref a => do
          if ((← specialOf e.key (Str.ofString "__eq__")) != some (Value.builtin "object.__eq__")) = true then
            if (es.filter fun x => x.hash == e.hash).size > 1 then do
              (unsupported "dict.merge-into-an-empty-dict:keys-of-equal-hash" : Sem PUnit)
              pure (.yield .unit)
            else pure (.yield .unit)
          else pure (.yield .unit)
        | _ => pure (.yield .unit) : Sem (ForInStep PUnit))) Q' E s := by
      intro l
      induction l with
      | nil => exact fun Q' _ z => wpAny_pure z
      | cons e l ih =>
        intro Q' nr z
        rw [List.forIn_cons]
        refine wpAny_bind ?_
        have n0 := nr e List.mem_cons_self
        cases c : e.key with
        | ref a => exact absurd c (n0 a)
        | _ => exact wpAny_pure (ih Q' (fun f hf => nr f (List.mem_cons_of_mem _ hf)) z)
    refine all es.toList _ (fun e he a => ?_) tail
    obtain ⟨i, hi, e1⟩ := List.getElem_of_mem he
    have lt : i < ps.length := by rw [← size]; simpa using hi
    obtain ⟨e2, h2, h3, _⟩ := go i ps[i] (List.getElem?_eq_getElem lt)
    have : e2 = e := by
      rw [Array.getElem?_eq_getElem (by simpa using hi)] at h2
      rw [← e1, ← Option.some.inj h2]
      simp
    rw [← this]
    exact flat_of h3 a
  · rw [if_neg em]
    exact tail
end
end L2

namespace L2
open PySem PySem.Spec PyProof.Rows
section
variable {prog : Program} {w : World} {A : Around} {E : Value → Shared → Prop} {s : Shared}
theorem display_star {m k v : Sem Value} {Q : Value → Shared → Prop}
    (h : wpAny (model prog w) A m (fun x s1 => ∃ o more, x = .ref o ∧ s.heap.objs.size ≠ o ∧ (o == sysModules) = false ∧ s1.heap.DictOf (mixKind prog w) s.heap.objs.size [] ∧ s1.heap.DictOf (mixKind prog w) o more ∧ more.length + 16 ≤ sizeLine ∧
      ∀ h', h'.DictOf (mixKind prog w) s.heap.objs.size (merged [] more) → Heap.SameBut s.heap.objs.size s1.heap h' →
        wpAny (model prog w) A (evalPairs [(k, v)]) (fun vs s2 => ∃ kvs cur, Carries (mixKind prog w) vs kvs ∧ kvs.length ≤ 15 ∧ cur.length + 16 ≤ sizeLine ∧ s2.heap.DictOf (mixKind prog w) h'.objs.size [] ∧ s2.heap.DictOf (mixKind prog w) s.heap.objs.size cur ∧ s.heap.objs.size ≠ h'.objs.size ∧ (h'.objs.size == sysModules) = false ∧
          ∀ h2 h3 t, h2.DictOf (mixKind prog w) h'.objs.size (merged [] kvs) → Heap.SameBut h'.objs.size s2.heap h2 → h3.DictOf (mixKind prog w) s.heap.objs.size (merged cur (merged [] kvs)) → Heap.SameBut s.heap.objs.size h2 h3 → Q (.ref s.heap.objs.size) { s2 with heap := h3, toks := t }) E { s1 with heap := h'.push { cls := .type "dict", data := .dict #[] } }) E { s with heap := s.heap.push { cls := .type "dict", data := .dict #[] } }) :
    wpAny (model prog w) A (dictDisplay [(none, m), (some k, v)]) Q E s := by
  unfold dictDisplay
  dsimp only
  rw [List.forIn_cons]
  refine wpAny_bind (wpAny_bind ?_)
  dsimp only
  rw [if_pos (show ([] : List (Sem Value × Sem Value)).isEmpty = true from rfl)]
  refine wpAny_bind (wpAny_pure ?_)
  dsimp only
  refine wpAny_bind (wpAny_alloc ?_)
  refine wpAny_bind (wpAny_holding (wpAny_mono h (fun x s1 hx => ?_) (fun _ _ e => e)))
  obtain ⟨o, more, rfl, hne, hsys, hd, ho, hsz, hx⟩ := hx
  refine wpAny_bind (wpAny_onRaise (wpAny_tryCatch (wpAny_onRaise (wpAny_holding (merge_map (Ne.symm hne) hsys hd ho (by simp; omega) (fun h' d1 sb => ?_))))))
  refine wpAny_pure ?_
  dsimp only
  rw [List.forIn_cons]
  refine wpAny_bind ?_
  dsimp only
  rw [if_neg (by simp)]
  refine wpAny_pure ?_
  dsimp only
  rw [List.forIn_nil]
  refine wpAny_pure ?_
  dsimp only
  rw [if_neg (by simp)]
  have hx := hx h' d1 sb
  refine wpAny_bind (wpAny_bind (wpAny_holding (wpAny_subDict (knd := mixKind prog w) (by simp) (wpAny_mono hx (fun vs s2 h2 => ?_) (fun _ _ e => e)))))
  obtain ⟨kvs, cur, hc, h15, hcur, hd2, hd3, hne2, hsys2, hq⟩ := h2
  refine ⟨kvs, hc, hd2, fun h2 dd sb2 => ?_⟩
  have l1 := merged_length_le [] more
  have l2 := merged_length_le [] kvs
  simp only [List.length_nil] at l1 l2
  refine wpAny_bind (wpAny_onRaise (wpAny_holding (merge_map (Ne.symm hne2) hsys2 (hd3.sameBut sb2 hne2) dd (by omega) (fun h3 d3 sb3 => ?_))))
  refine wpAny_pure ?_
  exact wpAny_pure (hq h2 h3 _ dd sb2 d3 sb3)
/-- {**d, k: v} -/
def tDStar (td tk tv : TE) : TE := fun σ H Q => ∀ p, H p = none → td σ (upd H p (.dK [])) fun x H1 => ∃ a kvs, x = .ref a ∧ H1 a = some (.dK kvs) ∧ H1 p = some (.dK []) ∧ a ≠ p ∧ kvs.length ≤ 1000 ∧
  ∀ q, H1 q = none → q ≠ p → tk σ (upd (upd H1 p (.dK kvs)) q (.dK [])) fun y H2 => tv σ H2 fun z H3 => ∃ k, y = kV k ∧ H3 p = some (.dK kvs) ∧ H3 q = some (.dK []) ∧ Q (.ref p) (upd (upd H3 q (.dK [(k, z)])) p (.dK (putK kvs k z)))
end
section
variable {X : Cx}
theorem pe_dstar {dx ke ve : Expr} {td tk tv : TE} {pos : Pos} (hd : PE X dx td) (hk : PE X ke tk) (hv : PE X ve tv) : PE X (.Dict [none, some ke] [dx, ve] pos) (tDStar td tk tv) := by
  refine ⟨fun pins s σ H Q I h => ?_⟩
  have new := dk_empty (P := X.prog) (w := X.w) (H := upd H s.heap.objs.size (.dK [])) s.heap I.big
  have I1 := I.laid (t' := s.toks) (fun _ _ z => Heap.get?_push_of_some _ z) (Nat.le_refl _) new
  have hn := I.hok.fresh (a := s.heap.objs.size) (Nat.le_refl _)
  rw [arm_eval_Dict]
  refine wpAny_bind (wpAny_standAt ?_)
  show wpAny _ _ (dictDisplay [(none, do let x ← eval dx X.env; standAt pos; pure x), (some (eval ke X.env), do let x ← eval ve X.env; standAt pos; pure x)]) _ _ s
  refine display_star ?_
  refine wpAny_bind (thn (hd.run pins _ σ _ _ I1 (h _ hn)) fun u s1 ⟨x, H1, I1', rx, a, kvs, ex, ha, hp, nap, few, hq⟩ => ?_)
  subst ex
  cases rx
  refine wpAny_bind (wpAny_standAt (wpAny_pure ?_))
  obtain ⟨z1, hd1, vs1, r1, dd1⟩ := dk_of I1'.hok hp
  obtain ⟨z2, hd2, vs2, r2, dd2⟩ := dk_of I1'.hok ha
  cases r1
  refine ⟨a, vs2, rfl, Ne.symm nap, hd2, dd1, dd2, ?_, fun h' dd' sb => ?_⟩
  · rw [← r2.length, sizeLine_eq]; omega
  have hnd : merged [] vs2 = vs2 := by
    obtain ⟨_, _, _, _, _, _, _, _, hno⟩ := dd2
    exact merged_nil_of_nodup vs2 hno
  rw [hnd] at dd'
  have he : ∃ o, h'.get? s.heap.objs.size = some o := by
    obtain ⟨o, _, _, ho, _⟩ := dd'
    exact ⟨o, ho⟩
  have I2 := d_write (t' := s1.toks) I1' (by rw [hp]; exact True.intro) sb he (dk_new (kvs := kvs) (by rw [sizeLine_eq]; omega) hd1 r2 dd')
  have hq0 := I2.hok.fresh (Nat.le_refl h'.objs.size)
  have nqp : h'.objs.size ≠ s.heap.objs.size := fun e => by
    rw [show ({ s1 with heap := h' } : Shared).heap.objs.size = h'.objs.size from rfl] at *
    rw [e, upd_same] at hq0
    cases hq0
  have hq1 : H1 h'.objs.size = none := by rw [upd_ne nqp] at hq0; exact hq0
  have I3 := I2.laid (a := h'.objs.size) (o := .dK []) (h' := h'.push { cls := .type "dict", data := .dict #[] }) (t' := s1.toks) (fun _ _ q => Heap.get?_push_of_some _ q) (Nat.le_refl _) (dk_empty h' I2.big)
  refine thn ((pps_cons (pos := pos) hk hv pps_nil).run pins _ σ _ (fun ps H3 => match ps with
    | [(y, z)] => ∃ k, y = kV k ∧ H3 s.heap.objs.size = some (.dK kvs) ∧ H3 h'.objs.size = some (.dK []) ∧ Q (.ref s.heap.objs.size) (upd (upd H3 h'.objs.size (.dK [(k, z)])) s.heap.objs.size (.dK (putK kvs k z)))
    | _ => False) I3 (hq _ hq1 nqp)) fun ws s2 ⟨ps, H3, I3', rel, q3⟩ => ?_
  obtain ⟨y, z, rfl⟩ : ∃ y z, ps = [(y, z)] := by
    match ps, q3 with
    | [(y, z)], _ => exact ⟨y, z, rfl⟩
    | [], q => exact q.elim
    | _ :: _ :: _, q => exact q.elim
  obtain ⟨k, rfl, e1, e2, q3⟩ := q3
  obtain ⟨rs, c, rk⟩ := carries_of (P := X.prog) (w := X.w) (kvs := [(k, z)]) rel
  obtain ⟨_, hdq, vq, rq, ddq⟩ := dk_of I3'.hok e2
  obtain ⟨_, hdp, vp, rp, ddp⟩ := dk_of I3'.hok e1
  cases rq
  obtain ⟨r, rfl, er⟩ : ∃ r, rs = [(k, r)] ∧ RelV z r := by
    cases rk with
    | @cons _ q _ qs h t =>
      cases t
      obtain ⟨k', u⟩ := q
      obtain ⟨e1, e2⟩ := h
      have e1 : k = k' := e1
      subst e1
      exact ⟨u, rfl, e2⟩
  have hl : (putK kvs k z).length ≤ sizeLine := by have := length_putK kvs k z; rw [sizeLine_eq]; omega
  refine ⟨[(k, r)], vp, c, (by show 1 ≤ 15; decide), by rw [← rp.length, sizeLine_eq]; omega, ddq, ddp, Ne.symm nqp, hdq, fun h2 h3 t dd2 sb2 dd3 sb3 => ?_⟩
  have hz1 : ([(k, z)] : List (Key × V)).length ≤ sizeLine := by show 1 ≤ sizeLine; decide
  have Ia := d_write (t' := t) I3' (by rw [e2]; exact True.intro) sb2 (let ⟨q, _, _, hq, _⟩ := dd2; ⟨q, hq⟩) (dk_new (kvs := [(k, z)]) hz1 hdq (.cons ⟨rfl, er⟩ .nil) dd2)
  have ep : (upd H3 h'.objs.size (.dK [(k, z)])) s.heap.objs.size = some (.dK kvs) := by rw [upd_ne (Ne.symm nqp)]; exact e1
  have Ib := d_write (t' := t) Ia (by rw [ep]; exact True.intro) sb3 (let ⟨q, _, _, hq, _⟩ := dd3; ⟨q, hq⟩) (dk_new (kvs := putK kvs k z) hl hdp (rp.put k er) dd3)
  exact ⟨.ref s.heap.objs.size, _, Ib, rfl, q3⟩
end
end L2

namespace Half
open PySem PySem.Spec PyProof.Rows L2
/-! ### states -/
abbrev St3 : Type := Str × Int × Int
def stV (s : St3) : List V := [.str s.1, .int s.2.1, .int s.2.2]
def stD (s : St3) : PyData := .tuple [.str s.1, .int s.2.1, .int s.2.2]
def THR : List Str := ["failed", "half", "ready", "unpacked"]
def STA : List Str := ["absent", "failed", "half", "left", "ready", "unpacked"]
def UNS : List Str := ["failed", "half", "unpacked"]
def AB : St3 := ("absent", 0, 0)
def isState (ks : List Kk) (nm : Str) (s : St3) : Bool :=
  if decide (s.1 = "absent") = true then inR (.int s.2.1) 0 0 && inR (.int s.2.2) 0 0
  else if ((!has THR s.1 && !decide (s.1 = "left")) || !has ks (nm, s.2.1)) = true then false
  else if decide (s.1 = "ready") = true then inR (.int s.2.2) s.2.1 s.2.1
  else inR (.int s.2.2) 0 0 || has ks (nm, s.2.2)
theorem sta_has {x : Str} (h : decide (x = "absent") = false) : (!has STA x) = (!has THR x && !decide (x = "left")) := by
  have h' : ¬ x = "absent" := of_decide_eq_false h
  unfold has STA THR
  simp only [List.any_cons, List.any_nil, Bool.or_false]
  by_cases a : x = "left"
  · subst a; decide
  · have q : ∀ y : Str, (y == x) = decide (y = x) := fun y => by
      by_cases z : y = x
      · subst z; simp
      · rw [decide_eq_false z]; simpa using z
    have r : ∀ y : Str, (x == y) = decide (x = y) := fun y => by
      by_cases z : x = y
      · subst z; simp
      · rw [decide_eq_false z]; simpa using z
    have a' : ¬ ("left" : Str) = x := fun z => a z.symm
    have h'' : ¬ ("absent" : Str) = x := fun z => h' z.symm
    simp [q, r, h', h'', a, a']
abbrev sIst : Stmt := top 38
theorem inV_str (x : Str) : ∀ ys : List Str, inV (.str x) (ys.map V.str) = has ys x
  | [] => rfl
  | y :: ys => by
    have ih := inV_str x ys
    unfold inV at ih ⊢
    unfold has at ih ⊢
    rw [List.map_cons, List.any_cons, List.any_cons, ih]
    congr 1
theorem dec_str {x y : Str} : decide (V.str x = V.str y) = decide (x = y) := by
  by_cases h : x = y
  · subst h; simp
  · rw [decide_eq_false h, decide_eq_false (fun z => h (by cases z; rfl))]
theorem next_read {D : Ends} {σ : L2.St} {H : Hp} (h : D.nx σ H) : tNext D σ H := h
theorem seq_read {t u : TS} {D : Ends} {σ : L2.St} {H : Hp} (h : t { D with nx := u D } σ H) : tSeq t u D σ H := h
theorem if_read {c : TT} {t u : TS} {D : Ends} {σ : L2.St} {H : Hp} (h : c σ H fun b H1 => if b = true then t D σ H1 else u D σ H1) : tIfS c t u D σ H := h
theorem and_read {ta tb : TT} {σ : L2.St} {H : Hp} {Q : Bool → Hp → Prop} {b c : Bool} (h1 : ∀ Q' : Bool → Hp → Prop, Q' b H → ta σ H Q') (h2 : ∀ Q' : Bool → Hp → Prop, Q' c H → tb σ H Q') (q : Q (b && c) H) : tAnd ta tb σ H Q := by
  refine h1 _ ?_
  cases b
  · exact iteF q
  · exact iteT (h2 _ q)
theorem or1_read {ta tb : TT} {σ : L2.St} {H : Hp} {Q : Bool → Hp → Prop} {b : Bool} (h1 : ∀ Q' : Bool → Hp → Prop, Q' b H → ta σ H Q') (q1 : b = true → Q true H) (q2 : b = false → tb σ H Q) : tOr ta tb σ H Q := by
  refine h1 _ ?_
  cases b
  · exact iteF (q2 rfl)
  · exact iteT (q1 rfl)
/-- the store's `in`, known by its promise -/
structure HasF (P : Program) (w : World) (K : PySem.W.Frag) (mg : Str → Option Value) (base : Heap) (CT : Addr) : Prop where
  ex : ∃ f fd, OwnSp K CT f "__contains__" ∧ FnOk P w K mg base CX0 1 f fd ["self", "x"] (spHas CT) ∧ Binds K fd ["self", "x"] []
theorem op_inS {X : Cx} {CT : Addr} (D : HasF X.prog X.w X.K X.mg X.base CT) (hr : Room 1 X.A) : OpR X (compareOp .In) (rInO CT (spHas CT) E0 id) := by
  obtain ⟨f, fd, O, F, b⟩ := D.ex
  exact op_inO F O b hr pass0
theorem op_notinS {X : Cx} {CT : Addr} (D : HasF X.prog X.w X.K X.mg X.base CT) (hr : Room 1 X.A) : OpR X (compareOp .NotIn) (rInO CT (spHas CT) E0 not) := by
  obtain ⟨f, fd, O, F, b⟩ := D.ex
  exact op_notinO F O b hr pass0
theorem StObj.ins {CT : Addr} {H : Hp} {a : Addr} {es : Eds} (h : StObj CT H a es) : ∃ dx fs, H a = some (.ins CT dx fs) := by
  obtain ⟨⟨dx, tb, nb, h1, _⟩, _⟩ := h
  exact ⟨dx, _, h1⟩
theorem inS_read {CT : Addr} {H : Hp} {a t : Addr} {es : Eds} {k : Kk} {fl : Bool → Bool} {Q : VK} (h : StObj CT H a es) (ht : H t = some (.tup [.str k.1, .int k.2])) (q : Q (.bl (fl (has (keysOf es) k))) H) : rInO CT (spHas CT) E0 fl (.ref t) (.ref a) H Q := by
  obtain ⟨dx, fs, ha⟩ := h.ins
  exact ⟨a, dx, fs, rfl, ha, a, t, es, k, rfl, h, ht, _, rfl, q⟩
structure TxtY (P : Program) (w : World) (K : PySem.W.Frag) (mg : Str → Option Value) (base : Heap) (CT : Addr) : Prop where
  isi : mg "isinstance" = none
  tup : mg "tuple" = none
  len : mg "len" = none
  srt : mg "sorted" = none
  abs : ∃ a, mg "ABSENT" = some (.ref a) ∧ ∀ H, SqT K H a (stV AB)
  dN : Def P w K mg base 1 "is_number" ["value", "least", "most"] spNumber
  hs : HasF P w K mg base CT
  sta : ∃ a, mg "STATUSES" = some (.ref a) ∧ ∀ H, SqT K H a (STA.map V.str)
def spIst (K : PySem.W.Frag) (CT : Addr) : Sp := fun vs H Q _ => ∃ (a t : Addr) (es : Eds) (nm : Str) (s : St3), vs = [.ref a, .str nm, .ref t] ∧ StObj CT H a es ∧ SqT K H t (stV s) ∧ ∀ H', Same H H' → Q (.bl (isState (keysOf es) nm s)) H'
section
variable {P : Program} {w : World} {K : PySem.W.Frag} {mg : Str → Option Value} {base : Heap} {CT : Addr}
abbrev IstN : List Str := ["store", "name", "state", "status", "version", "done"]
theorem scIst : FnScope IstN ["store", "name", "state"] (defScope sIst) := ⟨rfl, rfl, rfl, by decide +kernel, rfl, by decide +kernel, by decide +kernel⟩
theorem ok_ist {f : Addr} {fd : FuncData} (F : Fun K "is_state" "is_state" sIst f fd) (T : TxtY P w K mg base CT) : FnOk P w K mg base CX0 2 f fd ["store", "name", "state"] (spIst K CT) := by
  refine F.ok scIst (fun vs H Q E h => ?_) (fun cdv A outer s H vs Q E hr h => ?_)
  · obtain ⟨a, t, es, nm, s, rfl, _⟩ := h
    rfl
  · obtain ⟨a, t, es, nm, ⟨stt, ver, don⟩, rfl, hO, hS, k⟩ := h
    have nd := scIst.nd
    obtain ⟨aT, gT, hT⟩ := T.sta
    refine ⟨_, pss_cons (ps_if (PW.pt (pw_or (pt_not (pt_val (pe_callB call_isi (by rfl) T.isi (by decide +kernel) (pa_cons (pv 2) (pa_cons (pe_bltn (v := .ty "tuple") (by rfl) T.tup (by decide +kernel) rfl) pa_nil)))))
          (pw_or1 (pt_cmpR op_ne (pe_callB call_len_seq (by rfl) T.len PySem.boot_len (pa_cons (pv 2) pa_nil)) pe_int (nomark _))))) (pss_one (ps_ret pe_bl)) pss_nil)
      (pss_cons (ps_asg (pv 2) (pg_tup rfl (pgs_cons (pg_name (i := 3) nd rfl (Or.inl rfl)) (pgs_cons (pg_name (i := 4) nd rfl (Or.inl rfl)) (pgs_cons (pg_name (i := 5) nd rfl (Or.inl rfl)) pgs_nil)))))
      (pss_cons (ps_if (pt_cmpR op_eq (pv 3) pe_str (nomark _)) (pss_one (ps_ret (pe_and (pe_def T.dN hr rfl (pa_cons (pv 4) (pa_cons pe_int (pa_cons pe_int pa_nil)))) (pe_one (pe_def T.dN hr rfl (pa_cons (pv 5) (pa_cons pe_int (pa_cons pe_int pa_nil)))))))) pss_nil)
      (pss_cons (ps_if (PW.pt (pw_or (pt_cmpR (op_notIn_seq : OpR _ _ (rIn K true)) (pv 3) (pe_glob (v := .ref aT) rfl gT rfl) (by rfl))
          (pw_or1 (pt_cmpR (op_notinS T.hs hr) (pe_tup (pa_cons (pv 1) (pa_cons (pv 4) pa_nil))) (pv 0) (by rfl))))) (pss_one (ps_ret pe_bl)) pss_nil)
      (pss_cons (ps_if (pt_cmpR op_eq (pv 3) pe_str (nomark _)) (pss_one (ps_ret (pe_def T.dN hr rfl (pa_cons (pv 5) (pa_cons (pv 4) (pa_cons (pv 4) pa_nil)))))) pss_nil)
      (pss_one (ps_ret (pe_or (pe_def T.dN hr rfl (pa_cons (pv 5) (pa_cons pe_int (pa_cons pe_int pa_nil)))) (pe_one (pe_cmpR (op_inS T.hs hr) (pe_tup (pa_cons (pv 1) (pa_cons (pv 5) pa_nil))) (pv 0) (by rfl)))))))))), ?_⟩
    unfold isState at k
    refine ⟨_, rfl, _, _, _, _, _, rfl, .ty _, tyT hS, kit_ty (r := true) (by decide +kernel), _, rfl, ?_⟩
    refine iteF ?_
    refine ⟨_, rfl, t, _, rfl, .inr hS, rfl, _, rfl, ?_⟩
    refine iteF ?_
    refine ⟨_, rfl, t, _, rfl, hS, rfl, _, _, rfl, _, _, rfl, _, _, rfl, rfl, ?_⟩
    refine ⟨_, rfl, rfl, _, rfl, ?_⟩
    rw [dec_str]
    dsimp only at k
    cases c1 : decide (stt = "absent") with
    | true =>
      refine iteT ?_
      refine ⟨_, rfl, .int ver, 0, 0, rfl, .inl ⟨_, rfl⟩, _, rfl, ?_⟩
      have k := fun H' s => k H' s
      rw [c1] at k
      simp only [if_true] at k
      cases c2 : inR (.int ver) 0 0 with
      | true =>
        refine iteT ?_
        refine ⟨_, rfl, .int don, 0, 0, rfl, .inl ⟨_, rfl⟩, ?_⟩
        rw [c2, Bool.true_and] at k
        exact k _ (Same.refl _)
      | false =>
        refine iteF ?_
        rw [c2, Bool.false_and] at k
        exact k _ (Same.refl _)
    | false =>
      refine iteF ?_
      rw [c1] at k
      simp only [Bool.false_eq_true, if_false] at k
      rw [← sta_has c1] at k
      refine next_read ?_
      dsimp only
      refine seq_read (if_read (or1_read (b := !has STA stt) (fun Q' q' => ?_) (fun e => ?_) (fun e => ?_)))
      · refine ⟨_, rfl, aT, _, rfl, .inr (hT _), rfl, flat_strs STA, _, rfl, ?_⟩
        rw [if_pos rfl, inV_str]
        exact q'
      · rw [e, Bool.true_or] at k
        exact iteT (k _ (Same.refl _))
      · rw [e, Bool.false_or] at k
        refine ⟨_, rfl, _, rfl, two_le, fun t1 n1 => ⟨_, rfl, inS_read (k := (nm, ver)) (hO.same (Same.upd_new n1)) upd_same ⟨_, rfl, ?_⟩⟩⟩
        have s1 := Same.upd_new (o := .tup [.str nm, .int ver]) n1
        have hO1 := hO.same s1
        cases c2 : !has (keysOf es) (nm, ver) with
        | true =>
          rw [c2] at k
          exact iteT (k _ s1)
        | false =>
          rw [c2] at k
          simp only [Bool.false_eq_true, if_false] at k
          refine iteF ?_
          refine ⟨_, rfl, rfl, _, rfl, ?_⟩
          rw [dec_str]
          cases c3 : decide (stt = "ready") with
          | true =>
            rw [c3] at k
            simp only [if_true] at k
            refine iteT ?_
            exact ⟨_, rfl, _, rfl, _, rfl, .int don, ver, ver, rfl, .inl ⟨_, rfl⟩, k _ s1⟩
          | false =>
            rw [c3] at k
            simp only [Bool.false_eq_true, if_false] at k
            refine iteF ?_
            refine ⟨_, rfl, .int don, 0, 0, rfl, .inl ⟨_, rfl⟩, _, rfl, ?_⟩
            cases c4 : inR (.int don) 0 0 with
            | true =>
              rw [c4, Bool.true_or] at k
              exact iteT (k _ s1)
            | false =>
              rw [c4, Bool.false_or] at k
              refine iteF ?_
              refine ⟨_, rfl, _, rfl, two_le, fun t2 n2 => ⟨_, rfl, inS_read (k := (nm, don)) (hO1.same (Same.upd_new n2)) upd_same ?_⟩⟩
              exact k _ (s1.trans (Same.upd_new n2))
end
end Half

namespace Half
open PySem PySem.Spec PyProof.Rows L2
/-! ### a dict of states -/
inductive SL (K : PySem.W.Frag) (H : Hp) : List (Key × V) → List (Str × St3) → Prop
  | nil : SL K H [] []
  | cons {n : Str} {t : Addr} {s : St3} {kvs : List (Key × V)} {ss : List (Str × St3)} : SqT K H t (stV s) → SL K H kvs ss → SL K H ((.inr n, .ref t) :: kvs) ((n, s) :: ss)
def stOf (ss : List (Str × St3)) (n : Str) : Option St3 := (ss.find? fun p => decide (p.1 = n)).map (·.2)
section
variable {K : PySem.W.Frag} {H H' : Hp} {kvs : List (Key × V)} {ss : List (Str × St3)}
theorem SL.kp (k : Kp K H H') (h : SL K H kvs ss) : SL K H' kvs ss := by
  induction h with
  | nil => exact .nil
  | cons a _ ih => exact .cons (k _ _ a) ih
theorem SL.same (s : Same H H') (h : SL K H kvs ss) : SL K H' kvs ss := h.kp s.kp
theorem SL.len (h : SL K H kvs ss) : kvs.length = ss.length := by
  induction h with
  | nil => rfl
  | cons _ _ ih => simp [ih]
theorem SL.keys (h : SL K H kvs ss) : kvs.map (·.1) = (ss.map (·.1)).map Sum.inr := by
  induction h with
  | nil => rfl
  | cons _ _ ih => simp [ih]
theorem stOf_cons {n m : Str} {s : St3} : stOf ((n, s) :: ss) m = if n = m then some s else stOf ss m := by
  unfold stOf
  rw [List.find?_cons]
  by_cases c : n = m
  · rw [if_pos c, decide_eq_true c]; rfl
  · rw [if_neg c, decide_eq_false c]
theorem SL.at (h : SL K H kvs ss) (n : Str) : (valV kvs (.inr n) = none ∧ stOf ss n = none) ∨ ∃ t s, valV kvs (.inr n) = some (.ref t) ∧ stOf ss n = some s ∧ SqT K H t (stV s) := by
  induction h with
  | nil => exact .inl ⟨rfl, rfl⟩
  | @cons m t s kvs ss a _ ih =>
    rw [stOf_cons]
    by_cases c : m = n
    · subst c
      refine .inr ⟨t, s, ?_, if_pos rfl, a⟩
      unfold valV; rw [List.find?_cons, decide_eq_true rfl]; rfl
    · rw [if_neg c]
      have e : valV ((Sum.inr m, V.ref t) :: kvs) (.inr n) = valV kvs (.inr n) := by
        unfold valV; rw [List.find?_cons, decide_eq_false (fun z => c (by injection z))]
      rw [e]
      exact ih
theorem stOf_mem {n : Str} : (stOf ss n = none ↔ n ∉ ss.map (·.1)) := by
  induction ss with
  | nil => simp [stOf]
  | cons p ss ih =>
    obtain ⟨m, s⟩ := p
    rw [stOf_cons]
    by_cases c : m = n
    · simp [c]
    · rw [if_neg c, ih]
      simp [Ne.symm c]
def putS (ss : List (Str × St3)) (n : Str) (s : St3) : List (Str × St3) := if has (ss.map (·.1)) n = true then ss.map (fun p => if p.1 = n then (p.1, s) else p) else ss ++ [(n, s)]
theorem SL.map {n : Str} {t : Addr} {s : St3} (a : SqT K H t (stV s)) (h : SL K H kvs ss) : SL K H (kvs.map (fun kv => if kv.1 = Sum.inr n then (kv.1, V.ref t) else kv)) (ss.map (fun p => if p.1 = n then (p.1, s) else p)) := by
  induction h with
  | nil => exact .nil
  | @cons m t' s' kvs ss b _ ih =>
    rw [List.map_cons, List.map_cons]
    by_cases c : m = n
    · rw [if_pos c, if_pos (by rw [c])]
      exact .cons a ih
    · rw [if_neg c, if_neg (fun z => c (by injection z))]
      exact .cons b ih
theorem SL.snoc {n : Str} {t : Addr} {s : St3} (a : SqT K H t (stV s)) (h : SL K H kvs ss) : SL K H (kvs ++ [(.inr n, .ref t)]) (ss ++ [(n, s)]) := by
  induction h with
  | nil => exact .cons a .nil
  | cons b _ ih => exact .cons b ih
theorem SL.any (h : SL K H kvs ss) (n : Str) : (kvs.any fun kv => decide (kv.1 = Sum.inr n)) = has (ss.map (·.1)) n := by
  induction h with
  | nil => rfl
  | @cons m t s kvs ss _ _ ih =>
    unfold has at ih ⊢
    rw [List.any_cons, List.map_cons, List.any_cons, ih]
    congr 1
    by_cases c : m = n
    · rw [decide_eq_true c, decide_eq_true (by rw [c])]
    · rw [decide_eq_false c, decide_eq_false (fun z => c (by injection z))]
theorem SL.put {n : Str} {t : Addr} {s : St3} (a : SqT K H t (stV s)) (h : SL K H kvs ss) : SL K H (putK kvs (.inr n) (.ref t)) (putS ss n s) := by
  unfold putK putS
  rw [h.any n]
  by_cases c : has (ss.map (·.1)) n = true
  · rw [if_pos c, if_pos c]
    exact h.map a
  · rw [if_neg c, if_neg c]
    exact h.snoc a
theorem putS_at (ss : List (Str × St3)) (n m : Str) (s : St3) : stOf (putS ss n s) m = if m = n then some s else stOf ss m := by
  unfold putS
  by_cases c : has (ss.map (·.1)) n = true
  · rw [if_pos c]
    replace c := has_iff.mp c
    induction ss with
    | nil => simp at c
    | cons p ss ih =>
      obtain ⟨k, s'⟩ := p
      rw [List.map_cons]
      by_cases e : k = n
      · rw [if_pos e, stOf_cons, stOf_cons]
        by_cases e2 : m = n
        · rw [if_pos (by rw [e, e2]), if_pos e2]
        · rw [if_neg (fun z => e2 (by rw [← z, e])), if_neg e2, if_neg (fun z => e2 (by rw [← z, e]))]
          by_cases c' : n ∈ ss.map (·.1)
          · rw [ih c', if_neg e2]
          · have : ss.map (fun p => if p.1 = n then (p.1, s) else p) = ss := by
              conv => rhs; rw [← List.map_id ss]
              refine List.map_congr_left fun p hp => ?_
              rw [if_neg (fun z => c' (List.mem_map.mpr ⟨p, hp, z⟩))]
              rfl
            rw [this]
      · rw [if_neg e, stOf_cons, stOf_cons]
        have c' : n ∈ ss.map (·.1) := by simpa [Ne.symm e] using c
        rw [ih c']
        by_cases e3 : k = m
        · rw [if_pos e3, if_pos e3, if_neg (fun z => e (by rw [e3, z]))]
        · rw [if_neg e3, if_neg e3]
  · rw [if_neg c]
    replace c := not_has (by simpa using c)
    induction ss with
    | nil => rw [List.nil_append, stOf_cons]; by_cases e : m = n <;> simp [e, stOf, Ne.symm]
    | cons p ss ih =>
      obtain ⟨k, s'⟩ := p
      rw [List.cons_append, stOf_cons, stOf_cons]
      have e : ¬ k = n := fun z => c (by simp [z])
      have c' : n ∉ ss.map (·.1) := fun z => c (by simp only [List.map_cons]; exact List.mem_cons_of_mem _ z)
      rw [ih c']
      by_cases e3 : k = m
      · rw [if_pos e3, if_pos e3, if_neg (fun z => e (by rw [e3, z]))]
      · rw [if_neg e3, if_neg e3]
theorem putS_keys (ss : List (Str × St3)) (n : Str) (s : St3) : (putS ss n s).map (·.1) = dstep (ss.map (·.1)) n := by
  unfold putS dstep
  by_cases c : has (ss.map (·.1)) n = true
  · rw [if_pos c, if_pos c, List.map_map]
    refine List.map_congr_left fun p _ => ?_
    show (if p.1 = n then (p.1, s) else p).1 = p.1
    split <;> rfl
  · rw [if_neg c, if_neg c, List.map_append]
    rfl
theorem SL.dpm (h : SL K H kvs ss) (ok : ∀ p ∈ ss, PyData.strOk p.2.1 = true) : DpM K H kvs (ss.map fun p => (.inr p.1, stD p.2)) := by
  induction h with
  | nil => exact .nil
  | @cons n t s kvs ss a _ ih =>
    refine .cons (.tup a (.cons (.str _) (.cons (.int _) (.cons (.int _) .nil)))) ?_ (ih fun p hp => ok p (List.mem_cons_of_mem _ hp))
    have := ok (n, s) List.mem_cons_self
    simp [SeqAt.shaped, stD, PyData.canLay0, PyData.canLayAll0, PyData.depth, PyData.depthAll, this]
end
end Half

namespace Half
open PySem PySem.Spec PyProof.Rows L2
/-! ### the first wrong package -/
abbrev sWp : Stmt := top 39
def optS : Option Str → V
  | some x => .str x
  | none => .non
def badP (ks : List Kk) (ss : List (Str × St3)) (n : Str) : Bool := !has (ks.map (·.1)) n || !isState ks n ((stOf ss n).getD AB)
theorem find_at {α : Type} {p : α → Bool} : ∀ {l : List α} {i : Nat} {x : α}, (∀ z ∈ l.take i, p z = false) → l[i]? = some x → p x = true → l.find? p = some x
  | [], _, _, _, h, _ => by simp at h
  | y :: l, 0, x, _, h, hp => by
    have e : y = x := by simpa using h
    subst e
    rw [List.find?_cons, hp]
  | y :: l, i + 1, x, hl, h, hp => by
    rw [List.find?_cons, hl y (by simp)]
    exact find_at (fun z hz => hl z (by rw [List.take_succ_cons]; exact List.mem_cons_of_mem _ hz)) (by simpa using h) hp
theorem find_no {α : Type} {p : α → Bool} {l : List α} (h : ∀ z ∈ l, p z = false) : l.find? p = none := List.find?_eq_none.mpr fun x hx => by simp [h x hx]
/-- the store's names, known by their promise -/
structure NamF (P : Program) (w : World) (K : PySem.W.Frag) (mg : Str → Option Value) (base : Heap) (CT : Addr) : Prop where
  cl : Cls K CT
  ex : ∃ p g fd, PropOf K CT "names" p g ∧ FnOk P w K mg base CX0 1 g fd ["self"] (spNames CT) ∧ Binds K fd ["self"] []
def tNam (CT : Addr) (te : TE) : TE := tProp CT (spNames CT) [] E0 te
theorem pe_nam {X : Cx} {CT : Addr} {e : Expr} {te : TE} {pos : Pos} (D : NamF X.prog X.w X.K X.mg X.base CT) (hr : Room 2 X.A) (he : PE X e te) (hab : attributeBase e "names" X.env (eval e X.env) = eval e X.env := by rfl) : PE X (.Attribute e "names" pos) (tNam CT te) := by
  obtain ⟨p, g, fd, h1, h2, h3⟩ := D.ex
  exact pe_prop he D.cl h1 h2 hr h3 .nil pass0 hab
theorem has_congr {α : Type} [DecidableEq α] {l m : List α} (h : ∀ x, x ∈ l ↔ x ∈ m) (x : α) : has l x = has m x := by
  cases c : has m x
  · exact has_no fun z => not_has c ((h x).mp z)
  · exact has_iff.mpr ((h x).mpr (has_iff.mp c))
theorem nam_mem {ks ys : List Kk} (hp : ys.Perm ks) (x : Str) : x ∈ dset (ys.map (·.1)) ↔ x ∈ ks.map (·.1) := by
  rw [mem_dset]
  exact (hp.map _).mem_iff
def spWp (K : PySem.W.Frag) (CT : Addr) : Sp := fun vs H Q _ => ∃ (a d : Addr) (es : Eds) (kvs : List (Key × V)) (ss : List (Str × St3)), vs = [.ref a, .ref d] ∧ StObj CT H a es ∧ H d = some (.dK kvs) ∧ SL K H kvs ss ∧ ss.length < 64 ∧
  ∀ ys H', ys.Perm (ss.map (·.1)) → sortedS ys = true → Same H H' → Q (optS (ys.find? (badP (keysOf es) ss))) H'
section
variable {P : Program} {w : World} {K : PySem.W.Frag} {mg : Str → Option Value} {base : Heap} {CT : Addr}
abbrev WpN : List Str := ["store", "states", "name"]
theorem scWp : FnScope WpN ["store", "states"] (defScope sWp) := ⟨rfl, rfl, rfl, by decide +kernel, rfl, by decide +kernel, by decide +kernel⟩
theorem ok_wp {f : Addr} {fd : FuncData} (F : Fun K "wrong_package" "wrong_package" sWp f fd) (T : TxtY P w K mg base CT) (N : NamF P w K mg base CT) (dI : Def P w K mg base 2 "is_state" ["store", "name", "state"] (spIst K CT)) : FnOk P w K mg base CX0 3 f fd ["store", "states"] (spWp K CT) := by
  refine F.ok scWp (fun vs H Q E h => ?_) (fun cdv A outer s H vs Q E hr h => ?_)
  · obtain ⟨a, d, es, kvs, ss, rfl, _⟩ := h
    rfl
  · obtain ⟨a, d, es, kvs, ss, rfl, hO, hd, hS, few, k⟩ := h
    have nd := scWp.nd
    have hu := hu_of hr
    refine ⟨_, pss_cons (ps_for PassesOwn.never rfl (pi_list (pe_callB (call_sortedD rfl) (by rfl) T.srt (by decide +kernel) (pa_cons (pv 1) pa_nil))) (pg_name (i := 2) nd rfl (Or.inl rfl))
        (pss_one (ps_if (PW.pt (pw_or (pt_cmpR (op_notIn_seq : OpR _ _ (rIn K true)) (pv 2) (pe_nam N hr (pv 0)) (by rfl)) (pw_or1 (pt_not (pt_val (pe_def dI hr rfl (pa_cons (pv 0) (pa_cons (pv 2) (pa_cons (pe_dget hu (pv 1) (pv 2) (fun _ _ => rfl)) pa_nil)))))))))
          (pss_one (ps_ret (pv 2))) pss_nil)))
      (pss_one (ps_ret pe_non)), ?_⟩
    refine ⟨_, rfl, d, kvs, ss.map (·.1), rfl, .inl hd, hS.keys, by rw [List.length_map]; exact few, fun ys p hp hs np => ?_⟩
    have s1 := Same.upd_new (o := .lst (ys.map V.str)) np
    refine ⟨p, rfl, ⟨_, SqL.of upd_same⟩, ?_⟩
    refine for_it (walk_list (xs := ys.map V.str)) (fun i σ H' => Same (upd H p (.lst (ys.map V.str))) H' ∧ (∃ x, σ = [some (.ref a), some (.ref d), x]) ∧ ∀ z ∈ ys.take i, badP (keysOf es) ss z = false) ?_ ?_ ?_ ?_
    · exact ⟨Same.refl _, ⟨none, rfl⟩, fun z hz => by simp at hz⟩
    · rintro i σ H1 _ ⟨s2, _⟩
      exact SqL.of (s2 _ _ upd_same)
    · rintro i x σ H1 H2 hi ⟨s2, ⟨x2, rfl⟩, hb⟩ ⟨rfl, hx⟩
      obtain ⟨nm, hnm, rfl⟩ := getE hx
      have s02 := s1.trans s2
      have hO2 := hO.same s02
      have hS2 := hS.same s02
      have hd2 := s02 _ _ hd
      have hmem : nm ∈ ss.map (·.1) := (hp.mem_iff).mp (List.mem_of_getElem? hnm)
      have bad : badP (keysOf es) ss nm = true → ∀ H', Same H H' → Q (.str nm) H' := fun e H' s' => by
        have q := k ys H' hp hs s'
        rw [find_at hb hnm e] at q
        exact q
      have good : badP (keysOf es) ss nm = false → ∀ z ∈ ys.take (i + 1), badP (keysOf es) ss z = false := fun e z hz => by
        rw [take_next hnm] at hz
        rcases List.mem_append.mp hz with q | q
        · exact hb z q
        · rw [List.mem_singleton.mp q]; exact e
      obtain ⟨dx, fs, ha⟩ := hO2.ins
      refine ⟨_, rfl, _, rfl, a, dx, fs, rfl, ha, a, es, rfl, hO2, fun zs q hzp hza nq => ?_⟩
      have s3 := Same.upd_new (o := .tup ((dset (zs.map (·.1))).map V.str)) nq
      refine ⟨q, _, rfl, .inr (.inl (.inl upd_same)), rfl, flat_strs _, _, rfl, ?_⟩
      rw [if_pos rfl, inV_str, has_congr (nam_mem hzp) nm]
      cases c1 : !has ((keysOf es).map (·.1)) nm with
      | true =>
        refine iteT (iteT ?_)
        exact ⟨_, rfl, bad (by unfold badP; rw [c1, Bool.true_or]) _ (s02.trans s3)⟩
      | false =>
        refine iteF ?_
        obtain ⟨t, st, e1, e2, e3⟩ : ∃ t s, valV kvs (.inr nm) = some (.ref t) ∧ stOf ss nm = some s ∧ SqT K H2 t (stV s) := by
          rcases hS2.at nm with ⟨_, z⟩ | z
          · exact absurd hmem (stOf_mem.mp z)
          · exact z
        refine ⟨_, rfl, _, rfl, _, rfl, _, rfl, d, .ref t, rfl, ?_, a, t, es, nm, st, rfl, hO2.same s3, s3.sqT e3, fun H4 s4 => ⟨_, rfl, ?_⟩⟩
        · rw [← e1]
          exact DGet.k (k := .inr nm) (s3 _ _ hd2)
        have eb : badP (keysOf es) ss nm = !isState (keysOf es) nm st := by unfold badP; rw [c1, Bool.false_or, e2]; rfl
        cases c2 : !isState (keysOf es) nm st with
        | true =>
          refine ite_yes c2 ?_
          exact ⟨_, rfl, bad (by rw [eb, c2]) _ (s02.trans (s3.trans s4))⟩
        | false =>
          refine ite_no c2 ?_
          exact ⟨s2.trans (s3.trans s4), ⟨_, rfl⟩, good (by rw [eb, c2])⟩
    · rintro σ H1 ⟨s2, ⟨x2, rfl⟩, hb⟩
      rw [show (ys.map V.str).length = ys.length from List.length_map .., List.take_length] at hb
      have q := k ys H1 hp hs (s1.trans s2)
      rw [find_no hb] at q
      exact q
end
end Half

namespace Half
open PySem PySem.Spec PyProof.Rows L2
/-! ### InvalidSystem -/
abbrev sIy : Stmt := inClass (top 16) 0
def spErrR (C : Addr) (fl : Str) : Sp := fun vs H Q _ => ∃ (a : Addr) (p : Str), vs = [.ref a, .str p] ∧ H a = some (exo a C none) ∧ (reprText p).length ≤ 1000 ∧
  ∀ dx, H dx = none → dx ≠ a → Q .non (upd (upd H dx (exd dx [(fl, .str p)])) a (exo a C (some dx)))
theorem scIy : SupScope ["self", "package"] ["self", "package"] (defScope sIy) := ⟨rfl, rfl, rfl, by decide +kernel, rfl, by decide +kernel, by decide +kernel, by decide +kernel, rfl, rfl⟩
section
variable {P : Program} {w : World} {K : PySem.W.Frag} {mg : Str → Option Value} {base : Heap}
theorem ok_iy {C f : Addr} {fd : FuncData} (F : ErrFn P K C "InvalidSystem.__init__" sIy f fd) (T : SupC P K mg C) (nF : PySem.W.findIn K (.ref C) "package" = some none) : FnOk P w K mg base CX0 1 f fd ["self", "package"] (spErrR C "package") := by
  obtain ⟨oc, od, kV, doc, pm, an, cda, cc, ct, osl, ccl, cdd, vsc, ccs, file, tf, cl, cld, csl, rfl, lk, hcd, hcode, hvs, hfile, hcell⟩ := F.ex
  refine fn_sup (N := ["self", "package"]) lk hcd scIy rfl rfl rfl hcode hvs hfile hcell T (fun vs H Q E h => ?_) (fun _ => rfl) (fun _ => rfl) (fun _ => rfl) (fun A outer s H vs Q E hr h => ?_)
  · obtain ⟨a, p, rfl, _⟩ := h
    rfl
  · obtain ⟨a, p, rfl, ha, hp, k⟩ := h
    refine ⟨a, _, _, rfl, ha, pa_cons (pe_joined (.cons pe_str (.cons (pe_fmtR (pv 1)) (.cons pe_str .nil)))) pa_nil, pss_one (ps_ost (pv 0) (pv 1)), ?_⟩
    refine ⟨_, rfl, (by decide), _, rfl, .inl ⟨p, rfl, Nat.le_trans hp (by decide), _, rfl, ?_, _, rfl, ?_, ?_⟩⟩
    · rw [app_len, app_len, sizeLine_eq]
      have : ("no such state of the package " : Str).length = 29 := by decide
      have e0 : (Str.empty).length = 0 := by decide
      omega
    · rw [app_len, app_len, app_len, sizeLine_eq]
      have : ("no such state of the package " : Str).length = 29 := by decide
      have : (" can be" : Str).length = 7 := by decide
      have e0 : (Str.empty).length = 0 := by decide
      omega
    · refine ⟨by show 1 ≤ 1000; decide, ha, ?_⟩
      refine ⟨_, rfl, _, rfl, a, C, rfl, T.oex, nF, .inl ⟨ha, fun dx h1 h2 => k dx h1 h2⟩⟩
end
/-! ### the names, ascending -/
structure IsNm (ks : List Kk) (ns : List Str) : Prop where
  nd : ns.Nodup
  asc : ns.Pairwise txLe
  mem : ∀ x, x ∈ ns ↔ x ∈ ks.map (·.1)
theorem len_sub {α : Type} [DecidableEq α] {l m : List α} (h : l.Nodup) (s : ∀ z, z ∈ l → z ∈ m) : l.length ≤ m.length := by
  rcases Nat.lt_or_ge m.length l.length with c | c
  · have := (perm_of_len h s (Nat.le_of_lt c)).length_eq
    omega
  · exact c
theorem same_perm {α : Type} [DecidableEq α] {l m : List α} (hl : l.Nodup) (hm : m.Nodup) (h : ∀ z, z ∈ l ↔ z ∈ m) : m.Perm l := perm_of_len hl (fun z => (h z).mp) (len_sub hm fun z => (h z).mpr)
theorem IsNm.uniq {ks : List Kk} {ns ms : List Str} (h1 : IsNm ks ns) (h2 : IsNm ks ms) : ns = ms :=
  sorted_uniq txLe_as h1.asc h2.asc (same_perm h2.nd h1.nd fun z => (h2.mem z).trans (h1.mem z).symm)
theorem names_asc {ys : List Kk} (h : Asc ys) : (dset (ys.map (·.1))).Pairwise txLe := by
  refine List.Pairwise.sublist (dset_sub _) ?_
  rw [List.pairwise_map]
  refine h.imp fun {a b} hab => ?_
  unfold txLe
  rcases pLt_no hab with q | ⟨q, _⟩
  · exact tx_as q
  · rw [q]; exact tx_irr _
theorem isNm_of {ks ys : List Kk} (hp : ys.Perm ks) (ha : Asc ys) : IsNm ks (dset (ys.map (·.1))) := ⟨dset_nodup _, names_asc ha, nam_mem hp⟩
/-! ### a system -/
abbrev sSy (i : Nat) : Stmt := inClass (top 40) i
structure SysAt (K : PySem.W.Frag) (CY : Addr) (H : Hp) (a st : Addr) (ss : List (Str × St3)) : Prop where
  ex : ∃ dx d kvs, H a = some (.ins CY dx [("held_store", .ref st), ("held_states", .ref d)]) ∧ H d = some (.dK kvs) ∧ SL K H kvs ss
theorem SysAt.same {K : PySem.W.Frag} {CY : Addr} {H H' : Hp} {a st : Addr} {ss : List (Str × St3)} (S : Same H H') (h : SysAt K CY H a st ss) : SysAt K CY H' a st ss := by
  obtain ⟨dx, d, kvs, h1, h2, h3⟩ := h.ex
  exact ⟨dx, d, kvs, S _ _ h1, S _ _ h2, h3.same S⟩
/-- all packages, in the order of the names -/
def allOf (ns : List Str) (ss : List (Str × St3)) : List (Str × St3) := ns.map fun n => (n, (stOf ss n).getD AB)
def spYi (K : PySem.W.Frag) (CT CY CI : Addr) : Sp := fun vs H Q E => ∃ (x st d dx : Addr) (es : Eds) (kvs : List (Key × V)) (ss : List (Str × St3)), vs = [.ref x, .ref st, .ref d] ∧ H x = some (.ins CY dx []) ∧ StObj CT H st es ∧ es.length ≤ 40 ∧ H d = some (.dK kvs) ∧ SL K H kvs ss ∧ ss.length < 64 ∧
  ((∀ n ∈ ss.map (·.1), badP (keysOf es) ss n = false) → ∀ ns H', IsNm (keysOf es) ns → SameBut x H H' → SysAt K CY H' x st (allOf ns ss) → Q .non H') ∧
  (∀ n, n ∈ ss.map (·.1) → badP (keysOf es) ss n = true → (∀ m ∈ ss.map (·.1), badP (keysOf es) ss m = true → txLe n m) → (reprText n).length ≤ 1000 ∧ ∀ H' dd, Same H H' → H' dd = some (.xd [("package", .str n)]) → E (.ref CI) (some dd) H')
structure TxtZ (P : Program) (w : World) (K : PySem.W.Frag) (mg : Str → Option Value) (base : Heap) (CT CY CI fI : Addr) (fdI : FuncData) : Prop where
  y : TxtY P w K mg base CT
  n : NamF P w K mg base CT
  cl : Cls K CY
  nS : NoAttr K CY "held_store"
  nT : NoAttr K CY "held_states"
  mgE : mg "InvalidSystem" = some (.ref CI)
  sup : SupC P K mg CI
  nF : PySem.W.findIn K (.ref CI) "package" = some none
  iC : PySem.W.findIn K (.ref CI) "__init__" = some (some (.ref fI))
  tI : PySem.W.typeIn K (.ref fI) = some (.type "function")
  er : ErrFn P K CI "InvalidSystem.__init__" sIy fI fdI
  bI : Binds K fdI ["self", "package"] []
  dW : Def P w K mg base 3 "wrong_package" ["store", "states"] (spWp K CT)
theorem find_least {p : Str → Bool} : ∀ {l : List Str} {n : Str}, l.Pairwise txLe → l.find? p = some n → ∀ m ∈ l, p m = true → txLe n m
  | [], _, _, h, _, _, _ => by simp at h
  | y :: l, n, hp, h, m, hm, hpm => by
    rw [List.find?_cons] at h
    cases c : p y with
    | true =>
      rw [c] at h
      have e : y = n := by simpa using h
      subst e
      rcases List.mem_cons.mp hm with rfl | q
      · exact tx_irr _
      · exact (List.pairwise_cons.mp hp).1 m q
    | false =>
      rw [c] at h
      rcases List.mem_cons.mp hm with rfl | q
      · rw [c] at hpm; cases hpm
      · exact find_least (List.pairwise_cons.mp hp).2 (by simpa using h) m q hpm
section
variable {P : Program} {w : World} {K : PySem.W.Frag} {mg : Str → Option Value} {base : Heap} {CT CY CI fI : Addr} {fdI : FuncData}
abbrev YiN : List Str := ["self", "store", "states", "package", "name"]
theorem scYi : FnScope YiN ["self", "store", "states"] (defScope (sSy 0)) := ⟨rfl, rfl, rfl, by decide +kernel, rfl, by decide +kernel, by decide +kernel⟩
theorem SL.ofNames {H : Hp} {kvs : List (Key × V)} {ss : List (Str × St3)} {n : Str} {v : V} {aA : Addr} (h : SL K H kvs ss) (hA : SqT K H aA (stV AB)) (e : v = (valV kvs (.inr n)).getD (.ref aA)) : ∃ t, v = .ref t ∧ SqT K H t (stV ((stOf ss n).getD AB)) := by
  rcases h.at n with ⟨h1, h2⟩ | ⟨t, s, h1, h2, h3⟩
  · rw [h1] at e
    rw [h2]
    exact ⟨aA, e, hA⟩
  · rw [h1] at e
    rw [h2]
    exact ⟨t, e, h3⟩
theorem ok_yi {f : Addr} {fd : FuncData} (F : Fun K "__init__" "System.__init__" (sSy 0) f fd) (T : TxtZ P w K mg base CT CY CI fI fdI) : FnOk P w K mg base (L2.CX P w) 4 f fd ["self", "store", "states"] (spYi K CT CY CI) := by
  refine F.okX scYi (fun vs H Q E h => ?_) (fun cdv A outer s H vs Q E hr h => ?_)
  · obtain ⟨x, st, d, dx, es, kvs, ss, rfl, _⟩ := h
    rfl
  · obtain ⟨x, st, d, dx, es, kvs, ss, rfl, hx, hO, few0, hd, hS, few, kOk, kBad⟩ := h
    have nd' := scYi.nd
    have hu := hu_of hr
    have r2 : Room 2 _ := hr.mono (by decide)
    obtain ⟨aA, gA, hA⟩ := T.y.abs
    have FI : FnOk P w K mg base CX0 1 fI fdI ["self", "package"] (spErrR CI "package") := ok_iy T.er T.sup T.nF
    refine ⟨_, pss_cons (ps_set (i := 3) nd' rfl (Or.inl rfl) (pe_def T.dW hr rfl (pa_cons (pv 1) (pa_cons (pv 2) pa_nil))))
      (pss_cons (ps_if (pt_cmp (pc_notN (pv 3))) (pss_one (ps_raise rfl (takes_of rfl rfl rfl rfl) (pmk_oex T.sup.oex T.iC T.tI FI (hr.mono (by decide)) T.bI .nil (fun _ _ _ _ _ _ _ h => h.elim) rfl T.mgE (pa_cons (pv 3) pa_nil)))) pss_nil)
      (pss_cons (ps_fld (pv 0) (pv 1) rfl)
      (pss_one (ps_fld (pv 0) (pe_dcG (own := [("name", 4)]) (g := gName 4) (tt := tYes) Bare.k hu rfl nd' (pi_tup (pe_nam T.n r2 (pv 1))) (blkOk_by (N := YiN) (sc := defScope (sSy 0)) (by decide +kernel)) (fun _ _ _ _ _ => pg_name (i := 4) nd' rfl (Or.inl rfl)) (fun _ _ _ _ _ => pts_nil)
          (fun _ _ _ _ _ => pv 4) (fun _ _ _ _ _ => pe_dget2 hu (pv 2) (pv 4) (pe_glob (v := .ref aA) rfl gA rfl) ⟨rfl, rfl, rfl, rfl⟩)) rfl)))), ?_⟩
    refine ⟨_, rfl, _, rfl, st, d, es, kvs, ss, rfl, hO, hd, hS, few, fun ys H1 hp hs s1 => ?_⟩
    cases hw : ys.find? (badP (keysOf es) ss) with
    | some n =>
      have hn : n ∈ ss.map (·.1) := (hp.mem_iff).mp (List.mem_of_find?_eq_some hw)
      obtain ⟨lr, kE⟩ := kBad n hn (List.find?_some hw) (fun m hm hb => find_least (sortedS_pw hs) hw m ((hp.mem_iff).mpr hm) hb)
      refine ⟨_, rfl, true, rfl, ?_⟩
      refine iteT ?_
      refine ⟨_, rfl, (by show 1 ≤ 1000; decide), fun a ha => ⟨a, n, rfl, upd_same, lr, fun dd hd1 hd2 => ⟨rfl, dd, [("package", .str n)], upd_same, ?_, ?_, ?_⟩⟩⟩
      · rw [upd_ne hd2, upd_same]
      · rw [upd_ne hd2] at hd1
        exact hd1
      · rw [upd_ne hd2] at hd1
        refine kE _ dd (fun b o q => ?_) upd_same
        have q1 := s1 b o q
        have nb : b ≠ dd := ne_of_none q1 hd1
        have na : b ≠ a := ne_of_none q1 ha
        rw [upd_ne nb, del_ne na, upd_ne na, upd_ne nb, upd_ne na]
        exact q1
    | none =>
      refine ⟨_, rfl, false, rfl, ?_⟩
      refine iteF ?_
      have hx1 := s1 _ _ hx
      refine ⟨_, rfl, _, rfl, x, CY, dx, [], rfl, hx1, T.cl, T.nS, (by show 0 < 1000; decide), ?_⟩
      have hxg : (upd H1 x (.ins CY dx (putF "held_store" (.ref st) []))) x = some (.ins CY dx [("held_store", .ref st)]) := upd_same
      have sb1 : SameBut x H (upd H1 x (.ins CY dx (putF "held_store" (.ref st) []))) := fun b o nb q => by rw [upd_ne nb]; exact s1 _ _ q
      generalize upd H1 x (.ins CY dx (putF "held_store" (.ref st) [])) = H2 at hxg sb1 ⊢
      have hO2 : StObj CT H2 st es := by
        obtain ⟨⟨dy, tb, nb, h1, h2, h3⟩, one⟩ := hO
        have n1 : st ≠ x := ne_of h1 hx (by intro z; cases z)
        have n2 : tb ≠ x := ne_of h2 hx (by intro z; cases z)
        obtain ⟨ys', a, b, kvs', g1, g2, g3⟩ := h3
        have n3 : nb ≠ x := ne_of g1 hx (by intro z; cases z)
        exact ⟨⟨dy, tb, nb, sb1 _ _ n1 h1, sb1 _ _ n2 h2, ys', a, b, kvs', sb1 _ _ n3 g1, g2, fun nm hm => let ⟨t, a, b⟩ := g3 nm hm; ⟨t, a, sb1 _ _ (ne_of b hx (by intro z; cases z)) b⟩⟩, one⟩
      have kp2 : Kp K H H2 := fun a xs h => by
        rcases h with (h | ⟨q, h⟩) | h
        · exact .inl (.inl (sb1 _ _ (ne_of h hx (by intro z; cases z)) h))
        · exact .inl (.inr ⟨q, sb1 _ _ (ne_of h hx (by intro z; cases z)) h⟩)
        · exact .inr h
      have hd2 : H2 d = some (.dK kvs) := sb1 _ _ (ne_of hd hx (by intro z; cases z)) hd
      have hS2 := hS.kp kp2
      obtain ⟨dy, fs, ha⟩ := hO2.ins
      refine ⟨_, rfl, st, dy, fs, rfl, ha, st, es, rfl, hO2, fun zs q hzp hza nq => ?_⟩
      have s3 := Same.upd_new (o := .tup ((dset (zs.map (·.1))).map V.str)) nq
      have nm := isNm_of hzp hza
      have nlen : (dset (zs.map (·.1))).length ≤ 40 := by
        have := nd_le (zs.map (·.1))
        unfold Half.nd at this
        rw [List.length_map, hzp.length_eq, List.length_map] at this
        omega
      generalize dset (zs.map (·.1)) = ns at s3 nm nlen
      refine ⟨q, rfl, ⟨_, .inl (.inl upd_same)⟩, fun D nD => ?_⟩
      refine dcG_it (walk_tup (K := K) (a := q) (xs := ns.map V.str)) (fun i H' => Same (upd H2 q (.tup (ns.map V.str))) H' ∧ ∃ kvs', H' D = some (.dK kvs') ∧ SL K H' kvs' (allOf (ns.take i) ss)) ⟨Same.upd_new nD, [], upd_same, .nil⟩ (fun i H' _ I => .inl (.inl (I.1 _ _ upd_same))) ?_ ?_
      · rintro i v H3 H3' hi ⟨sm, kvs', gD, gS⟩ ⟨rfl, hv⟩
        obtain ⟨n, hn, rfl⟩ := getE hv
        have s23 := s3.trans sm
        refine ⟨rfl, ?_⟩
        refine ⟨_, rfl, _, rfl, d, rfl, .inl ⟨kvs, .inl (s23 _ _ hd2)⟩, _, rfl, _, DGet.k (k := .inr n) (s23 _ _ hd2), ?_⟩
        obtain ⟨t, et, ht⟩ := (hS2.same s23).ofNames (n := n) (hA _) rfl
        rw [et]
        have kl : kvs'.length ≤ 40 := by
          rw [gS.len]
          unfold allOf
          rw [List.length_map, List.length_take]
          omega
        refine ⟨_, DPut.k (k := .inr n) gD (by rw [sizeLine_eq]; omega), ?_, ?_⟩
        · intro b o qq
          rw [upd_ne (ne_of_none qq nD)]
          exact sm _ _ qq
        · have kpD : Kp K H3' (upd H3' D (.dK (putK kvs' (.inr n) (.ref t)))) := Kp.upd gD (fun xs z => by cases z) (fun q xs z => by cases z)
          have gS' := (gS.kp kpD).put (n := n) (kpD _ _ ht)
          have en : n ∉ ns.take i := fun z => by
            have nd2 := nm.nd
            rw [← List.take_append_drop i ns] at nd2
            obtain ⟨_, _, qq⟩ := List.nodup_append.mp nd2
            have hi' := (List.getElem?_eq_some_iff.mp hn).1
            refine qq _ z _ ?_ rfl
            rw [List.drop_eq_getElem_cons hi', (List.getElem?_eq_some_iff.mp hn).2]
            exact List.mem_cons_self
          have ea : (allOf (ns.take i) ss).map (·.1) = ns.take i := by
            unfold allOf
            rw [List.map_map]
            exact List.map_id _
          have e : putS (allOf (ns.take i) ss) n ((stOf ss n).getD AB) = allOf (ns.take (i + 1)) ss := by
            unfold putS
            rw [ea, has_no en, if_neg (by decide), take_next hn]
            unfold allOf
            rw [List.map_append]
            rfl
          rw [e] at gS'
          exact ⟨_, upd_same, gS'⟩
      · rintro H3 ⟨sm, kvs', gD, gS⟩
        rw [show (ns.map V.str).length = ns.length from List.length_map .., List.take_length] at gS
        have s23 := s3.trans sm
        have hx3 := s23 _ _ hxg
        refine ⟨_, rfl, x, CY, dx, _, rfl, hx3, T.cl, T.nT, (by show 1 < 1000; decide), ?_⟩
        have nxD : D ≠ x := ne_of gD hx3 (by intro z; cases z)
        have kpx : Kp K H3 (upd H3 x (.ins CY dx (putF "held_states" (.ref D) [("held_store", .ref st)]))) := Kp.upd hx3 (fun xs z => by cases z) (fun q xs z => by cases z)
        refine kOk (fun n hn => ?_) ns _ nm (fun b o nb qq => ?_) ⟨dx, D, kvs', upd_same, by rw [upd_ne nxD]; exact gD, gS.kp kpx⟩
        · have := List.find?_eq_none.mp hw n ((hp.mem_iff).mpr hn)
          simpa using this
        · rw [upd_ne nb]
          exact s23 _ _ (sb1 _ _ nb qq)
end
end Half

namespace Half
open PySem PySem.Spec PyProof.Rows L2
/-! ### System's methods -/
structure TxtA (K : PySem.W.Frag) (mg : Str → Option Value) (CY CN : Addr) : Prop where
  cl : Cls K CY
  nS : NoAttr K CY "held_store"
  nT : NoAttr K CY "held_states"
  dic : mg "dict" = none
  isi : mg "isinstance" = none
  mgC : mg "System" = some (.ref CY)
  en : ErrC K mg "UnknownName" CN
  ha : PySem.W.findIn K (.ref CY) "__class__" = some (some (.builtin "object.__class__"))
  hn : PySem.W.specialIn K (.builtin "object.__class__") "__get__" = some (some (.builtin "getset_descriptor.__get__"))
  ht : PySem.W.takesIn K (.builtin "object.__class__") = some true
  hm : PySem.W.mroIn K CY (.type "object") = some true
  ki : PySem.W.kitOne K (.ref CY) (.ref CY) = some true
def datS (ss : List (Str × St3)) : List (Key × PyData) := ss.map fun p => (.inr p.1, stD p.2)
def spYs (K : PySem.W.Frag) (CY : Addr) : Sp := fun vs H Q _ => ∃ (a st : Addr) (ss : List (Str × St3)), vs = [.ref a] ∧ SysAt K CY H a st ss ∧ Q (.ref st) H
def spYt (K : PySem.W.Frag) (CY : Addr) : Sp := fun vs H Q _ => ∃ (a st : Addr) (ss : List (Str × St3)), vs = [.ref a] ∧ SysAt K CY H a st ss ∧ ∀ d kvs, H d = none → SL K H kvs ss → Q (.ref d) (upd H d (.dK kvs))
def spYg (K : PySem.W.Frag) (CY CN : Addr) : Sp := fun vs H Q E => ∃ (a st : Addr) (ss : List (Str × St3)) (nm : Str), vs = [.ref a, .str nm] ∧ SysAt K CY H a st ss ∧ (∀ t s, stOf ss nm = some s → SqT K H t (stV s) → Q (.ref t) H) ∧ (stOf ss nm = none → E (.ref CN) none H)
def spYw (K : PySem.W.Frag) (CT CY CI CN : Addr) : Sp := fun vs H Q E => ∃ (a st t : Addr) (ss : List (Str × St3)) (es : Eds) (nm : Str) (s : St3), vs = [.ref a, .str nm, .ref t] ∧ SysAt K CY H a st ss ∧ StObj CT H st es ∧ es.length ≤ 40 ∧ ss.length ≤ 40 ∧ SqT K H t (stV s) ∧
  (nm ∉ ss.map (·.1) → (reprText nm).length ≤ 1000 ∧ E (.ref CN) none H) ∧
  (nm ∈ ss.map (·.1) → (∀ n ∈ (putS ss nm s).map (·.1), badP (keysOf es) (putS ss nm s) n = false) → ∀ x ns H', IsNm (keysOf es) ns → Same H H' → SysAt K CY H' x st (allOf ns (putS ss nm s)) → Q (.ref x) H') ∧
  (nm ∈ ss.map (·.1) → ∀ n, n ∈ (putS ss nm s).map (·.1) → badP (keysOf es) (putS ss nm s) n = true → (∀ m ∈ (putS ss nm s).map (·.1), badP (keysOf es) (putS ss nm s) m = true → txLe n m) → (reprText n).length ≤ 1000 ∧ ∀ H' dd, Same H H' → H' dd = some (.xd [("package", .str n)]) → E (.ref CI) (some dd) H')
def spYe (K : PySem.W.Frag) (CT CY : Addr) : Sp := fun vs H Q _ => ∃ (a b st st' : Addr) (ss ss' : List (Str × St3)) (es es' : Eds), vs = [.ref a, .ref b] ∧ SysAt K CY H a st ss ∧ SysAt K CY H b st' ss' ∧ StObj CT H st es ∧ StObj CT H st' es' ∧ (es.length = es'.length → ∀ e ∈ es, e ∈ es') ∧
  (∀ p ∈ ss, PyData.strOk p.2.1 = true) ∧ (∀ p ∈ ss', PyData.strOk p.2.1 = true) ∧ Q (.bl (decide (es.length = es'.length) && eqM (datS ss) (datS ss'))) H
/-- the store's ==, known by its promise -/
structure StEqF (P : Program) (w : World) (K : PySem.W.Frag) (mg : Str → Option Value) (base : Heap) (CT : Addr) : Prop where
  ex : ∃ f fd, OwnEqC K CT f ∧ FnOk P w K mg base CX0 1 f fd ["self", "other"] (spStEq CT) ∧ Binds K fd ["self", "other"] []
theorem stEq_read {CT : Addr} {H : Hp} {a b : Addr} {es es' : Eds} {fl : Bool → Bool} {Q : VK} (h1 : StObj CT H a es) (h2 : StObj CT H b es') (hs : es.length = es'.length → ∀ e ∈ es, e ∈ es') (q : Q (.bl (fl (decide (es.length = es'.length)))) H) : rEqO CT (spStEq CT) fl (.ref a) (.ref b) H Q := by
  obtain ⟨dx, fs, ha⟩ := h1.ins
  obtain ⟨dy, gs, hb⟩ := h2.ins
  exact ⟨a, b, dx, dy, fs, gs, rfl, rfl, ha, hb, a, b, es, es', rfl, h1, h2, hs, _, rfl, q⟩
/-- System(..), known by its promise -/
structure MkY (P : Program) (w : World) (K : PySem.W.Frag) (mg : Str → Option Value) (base : Heap) (CT CY CI : Addr) : Prop where
  ex : ∃ f fd, FnOk P w K mg base (L2.CX P w) 4 f fd ["self", "store", "states"] (spYi K CT CY CI) ∧ Mk K CY f ∧ Binds K fd ["self", "store", "states"] [] ∧ mg "System" = some (.ref CY)
theorem pe_mkY {X : Cx} {CT CY CI : Addr} {E : XK} {e : Expr} {es : List Expr} {t : TA} {p pos : Pos} (D : MkY X.prog X.w X.K X.mg X.base CT CY CI) (hr : Room 5 X.A) (hg : Gl X "System") (hx : Passes (L2.CX X.prog X.w) X E) (ha : PA X (e :: es) t)
    (he : starEach (e :: es) X.env = (false, eval e X.env) :: starEach es X.env := by rfl) (hpl : (backTo pos (starEach es X.env)).any (·.1) = false := by rfl) : PE X (.Call (.Name "System" p) (e :: es) [] pos) (tMake CY (spYi X.K CT CY CI) [] E t) := by
  obtain ⟨f, fd, F, M, b, g⟩ := D.ex
  exact pe_make M F hr hg g b .nil hx ha (by decide) he hpl
/-- how System(store, states) is read -/
theorem mkY_read {K : PySem.W.Frag} {CT CY CI x dx st d : Addr} {H : Hp} {es : Eds} {kvs : List (Key × V)} {ss : List (Str × St3)} {Q : Hp → Prop} {E : XK} (nx : H x = none) (ndx : H dx = none) (hO : StObj CT H st es) (few : es.length ≤ 40) (hd : H d = some (.dK kvs)) (hS : SL K H kvs ss) (fs : ss.length < 64)
    (ok : (∀ n ∈ ss.map (·.1), badP (keysOf es) ss n = false) → ∀ ns H', IsNm (keysOf es) ns → Same H H' → SysAt K CY H' x st (allOf ns ss) → Q H')
    (bad : ∀ n, n ∈ ss.map (·.1) → badP (keysOf es) ss n = true → (∀ m ∈ ss.map (·.1), badP (keysOf es) ss m = true → txLe n m) → (reprText n).length ≤ 1000 ∧ ∀ H' dd, Same H H' → H' dd = some (.xd [("package", .str n)]) → E (.ref CI) (some dd) H') :
    spYi K CT CY CI [.ref x, .ref st, .ref d] (upd (upd H dx (.own x)) x (.ins CY dx [])) (fun v H3 => v = .non ∧ Q H3) E := by
  have sx : Same H (upd (upd H dx (.own x)) x (.ins CY dx [])) := fun b o q => by
    rw [upd_ne (ne_of_none q nx), upd_ne (ne_of_none q ndx)]
    exact q
  refine ⟨x, st, d, dx, es, kvs, ss, rfl, upd_same, hO.same sx, few, sx _ _ hd, hS.same sx, fs, fun h ns H' hn sb hs => ⟨rfl, ok h ns H' hn (fun b o q => sb _ _ (ne_of_none q nx) (sx _ _ q)) hs⟩, fun n h1 h2 h3 => ?_⟩
  obtain ⟨lr, k⟩ := bad n h1 h2 h3
  exact ⟨lr, fun H' dd s' hx => k H' dd (sx.trans s') hx⟩
section
variable {P : Program} {w : World} {K : PySem.W.Frag} {mg : Str → Option Value} {base : Heap} {CT CY CI CN : Addr}
theorem scYs : FnScope ["self"] ["self"] (defScope (sSy 1)) := ⟨rfl, rfl, rfl, by decide +kernel, rfl, by decide +kernel, by decide +kernel⟩
theorem ok_ys {f : Addr} {fd : FuncData} (F : Fun K "store" "System.store" (sSy 1) f fd) (T : TxtA K mg CY CN) : FnOk P w K mg base CX0 1 f fd ["self"] (spYs K CY) := by
  refine F.ok scYs (fun vs H Q E h => ?_) (fun cdv A outer s H vs Q E hr h => ?_)
  · obtain ⟨a, st, ss, rfl, _⟩ := h
    rfl
  · obtain ⟨a, st, ss, rfl, ⟨dx, d, kvs, h1, h2, h3⟩, k⟩ := h
    refine ⟨_, pss_one (ps_ret (pe_fld (pv 0) rfl)), ?_⟩
    exact ⟨_, rfl, a, CY, dx, _, _, rfl, h1, T.cl, T.nS, rfl, k⟩
theorem scYt : FnScope ["self"] ["self"] (defScope (sSy 2)) := ⟨rfl, rfl, rfl, by decide +kernel, rfl, by decide +kernel, by decide +kernel⟩
theorem ok_yt {f : Addr} {fd : FuncData} (F : Fun K "states" "System.states" (sSy 2) f fd) (T : TxtA K mg CY CN) : FnOk P w K mg base CX0 1 f fd ["self"] (spYt K CY) := by
  refine F.ok scYt (fun vs H Q E h => ?_) (fun cdv A outer s H vs Q E hr h => ?_)
  · obtain ⟨a, st, ss, rfl, _⟩ := h
    rfl
  · obtain ⟨a, st, ss, rfl, ⟨dx, d, kvs, h1, h2, h3⟩, k⟩ := h
    refine ⟨_, pss_one (ps_ret (pe_callTy call_dictD (by rfl) T.dic (by decide +kernel) (pa_cons (pe_fld (pv 0) rfl) pa_nil))), ?_⟩
    exact ⟨_, rfl, a, CY, dx, _, _, rfl, h1, T.cl, T.nT, rfl, d, kvs, rfl, .inl h2, fun p np => k p kvs np h3⟩
theorem scYg : FnScope ["self", "at"] ["self", "at"] (defScope (sSy 4)) := ⟨rfl, rfl, rfl, by decide +kernel, rfl, by decide +kernel, by decide +kernel⟩
theorem ok_yg {f : Addr} {fd : FuncData} (F : Fun K "__getitem__" "System.__getitem__" (sSy 4) f fd) (T : TxtA K mg CY CN) : FnOk P w K mg base (L2.CX P w) 1 f fd ["self", "at"] (spYg K CY CN) := by
  refine F.okX scYg (fun vs H Q E h => ?_) (fun cdv A outer s H vs Q E hr h => ?_)
  · obtain ⟨a, st, ss, nm, rfl, _⟩ := h
    rfl
  · obtain ⟨a, st, ss, nm, rfl, ⟨dx, d, kvs, h1, h2, h3⟩, kY, kN⟩ := h
    have hu := hu_of hr
    refine ⟨_, pss_cons (ps_if (pt_cmp (pc_dnotin hu (pv 1) (pe_fld (pv 0) rfl))) (pss_one (ps_raise rfl (takes_of rfl rfl rfl rfl) (pmk_own PySem.F.excBase_ValueError T.en.x T.en.g T.en.k (raises_own T.en.b T.en.t) rfl))) pss_nil)
      (pss_one (ps_ret (pe_dget hu (pe_fld (pv 0) rfl) (pv 1) (fun _ _ => rfl)))), ?_⟩
    refine ⟨_, rfl, _, rfl, a, CY, dx, _, _, rfl, h1, T.cl, T.nT, rfl, d, _, rfl, DGet.k (k := .inr nm) h2, _, rfl, ?_⟩
    rcases h3.at nm with ⟨e1, e2⟩ | ⟨t, s, e1, e2, e3⟩
    · refine ite_yes (by rw [e1]; rfl) ?_
      exact kN e2
    · refine ite_no (by rw [e1]; rfl) ?_
      refine ⟨_, rfl, a, CY, dx, _, _, rfl, h1, T.cl, T.nT, rfl, _, rfl, d, .ref t, rfl, ?_, kY t s e2 e3⟩
      rw [← e1]
      exact DGet.k (k := .inr nm) h2
theorem scYe : FnScope ["self", "other"] ["self", "other"] (defScope (sSy 6)) := ⟨rfl, rfl, rfl, by decide +kernel, rfl, by decide +kernel, by decide +kernel⟩
theorem ok_ye {f : Addr} {fd : FuncData} (F : Fun K "__eq__" "System.__eq__" (sSy 6) f fd) (T : TxtA K mg CY CN) (S : StEqF P w K mg base CT) : FnOk P w K mg base CX0 2 f fd ["self", "other"] (spYe K CT CY) := by
  refine F.ok scYe (fun vs H Q E h => ?_) (fun cdv A outer s H vs Q E hr h => ?_)
  · obtain ⟨a, b, st, st', ss, ss', es, es', rfl, _⟩ := h
    rfl
  · obtain ⟨a, b, st, st', ss, ss', es, es', rfl, ⟨dx, d, kvs, h1, h2, h3⟩, ⟨dy, d', kvs', g1, g2, g3⟩, hO, hO', hs, ok, ok', k⟩ := h
    obtain ⟨fe, fde, Oe, Fe, be⟩ := S.ex
    have hu : (A.deeper (envOfC "System.__eq__" (defScope (sSy 6)) s.heap.objs.size f cdv)).units + 66 < cLine := by have := hr.un; omega
    refine ⟨_, pss_one (ps_ret (pe_and (pe_callB call_isi (by rfl) T.isi (by decide +kernel) (pa_cons (pv 1) (pa_cons (pe_glob (v := .ref CY) rfl T.mgC rfl) pa_nil)))
      (pe_and (pe_cmpR (op_eqO Fe Oe be hr) (pe_fld (pv 0) rfl) (pe_fld (pv 1) rfl) (nomark _)) (pe_one (pe_cmpR (op_eqM hu) (pe_fld (pv 0) rfl) (pe_fld (pv 1) rfl) (nomark _)))))), ?_⟩
    refine ⟨_, rfl, _, _, _, _, _, rfl, .own CY, .base (.ins g1 T.cl T.ha T.hn T.ht T.hm), T.ki, _, rfl, ?_⟩
    refine iteT ?_
    refine ⟨_, rfl, a, CY, dx, _, _, rfl, h1, T.cl, T.nS, rfl, _, rfl, b, CY, dy, _, _, rfl, g1, T.cl, T.nS, rfl, ?_⟩
    refine stEq_read hO hO' hs ?_
    refine ⟨_, rfl, ?_⟩
    show if decide (es.length = es'.length) = true then _ else _
    cases c : decide (es.length = es'.length) with
    | false =>
      rw [c, Bool.false_and] at k
      exact iteF k
    | true =>
      rw [c, Bool.true_and] at k
      refine iteT ?_
      exact ⟨_, rfl, a, CY, dx, _, _, rfl, h1, T.cl, T.nT, rfl, _, rfl, b, CY, dy, _, _, rfl, g1, T.cl, T.nT, rfl, d, d', kvs, kvs', _, _, rfl, rfl, h2, g2, h3.dpm ok, g3.dpm ok', k⟩
end
end Half

namespace Half
open PySem PySem.Spec PyProof.Rows L2
/-! ### numerals, rising numbers -/
abbrev sNml : Stmt := top 8
def DIG : Str := "0123456789"
def isNum (z : Str) : Bool := decide (1 ≤ (z.length : Int)) && decide ((z.length : Int) ≤ 2) && (z.cps.toList.all fun c => decide (c ∈ DIG.cps.toList)) && (decide (z = "0") || !decide (z.cps.toList.headD 0 = 48))
def numOf (z : Str) : Nat := NumText.digitsVal z.cps.toList
theorem num_int {z : Str} (h : isNum z = true) : PySem.intText? z = some ((numOf z : Nat) : Int) ∧ z.length ≤ 2 := by
  unfold isNum at h
  simp only [Bool.and_eq_true] at h
  obtain ⟨⟨⟨h1, h2⟩, h3⟩, _⟩ := h
  have l1 : 1 ≤ (z.length : Int) := of_decide_eq_true h1
  have l2 : (z.length : Int) ≤ 2 := of_decide_eq_true h2
  have hl : z.length = z.cps.toList.length := by rw [Array.length_toList]; rfl
  refine ⟨?_, by omega⟩
  have e : z = SX.S z.cps.toList := by first | rfl | (unfold SX.S; rfl)
  refine Eq.trans (congrArg PySem.intText? e) (SX.int_S ?_ (fun q => ?_) (by omega))
  · refine List.all_eq_true.mpr fun c hc => ?_
    have m : c ∈ DIG.cps.toList := of_decide_eq_true (List.all_eq_true.mp h3 c hc)
    have : ∀ c ∈ DIG.cps.toList, (decide (48 ≤ c) && decide (c ≤ 57)) = true := by decide
    exact this c m
  · rw [q] at hl
    simp only [List.length_nil] at hl
    omega
def spNml : Sp := fun vs H Q _ => ∃ z : Str, vs = [.str z] ∧ z.length ≤ 1000 ∧ ∀ H', Same H H' → Q (.bl (isNum z)) H'
structure TxtN (mg : Str → Option Value) : Prop where
  len : mg "len" = none
  all : mg "all" = none
  ran : mg "range" = none
  dig : ∃ t, mg "DIGITS" = some (.str DIG t)
  lon : ∃ t, mg "LONGEST_NUMERAL" = some (.int 2 t)
section
variable {P : Program} {w : World} {K : PySem.W.Frag} {mg : Str → Option Value} {base : Heap}
theorem scNml : FnScope ["text", "digit"] ["text"] (defScope sNml) := ⟨rfl, rfl, rfl, by decide +kernel, rfl, by decide +kernel, by decide +kernel⟩
theorem ok_nml {f : Addr} {fd : FuncData} (F : Fun K "is_numeral" "is_numeral" sNml f fd) (T : TxtN mg) : FnOk P w K mg base CX0 1 f fd ["text"] spNml := by
  refine F.ok scNml (fun vs H Q E h => ?_) (fun cdv A outer s H vs Q E hr h => ?_)
  · obtain ⟨z, rfl, _⟩ := h
    rfl
  · obtain ⟨z, rfl, hz, k⟩ := h
    obtain ⟨tl, gl⟩ := T.dig
    obtain ⟨t8, g8⟩ := T.lon
    have nd := scNml.nd
    refine ⟨_, pss_cons (ps_if (PW.pt (pw_or (pt_not (pt_chain op_le op_le pe_int (pe_callB call_len_str (by rfl) T.len PySem.boot_len (pa_cons (pv 0) pa_nil)) (pe_glob (v := .int 2) rfl g8 ⟨_, rfl⟩)))
        (pw_or1 (pt_not (pt_val (pe_callB (cr_all rfl) (by rfl) T.all (by decide +kernel) (pa_cons
        (pe_lc (own := [("digit", 1)]) (g := gName 1) (tt := tYes) rfl nd (pi_str (pv 0)) (blkOk_by (N := ["text", "digit"]) (sc := defScope sNml) (by decide +kernel))
          (fun _ _ _ _ _ => pg_name (i := 1) nd rfl (Or.inl rfl)) (fun _ _ _ _ _ => pts_nil)
          (fun _ _ _ _ _ => pe_cmpR op_in_sign (pv 1) (pe_glob (v := .str DIG) rfl gl ⟨_, rfl⟩) rfl)) pa_nil)))))))
        (pss_one (ps_ret pe_bl)) pss_nil)
      (pss_one (ps_ret (pe_or (pe_cmpR op_eq (pv 0) pe_str (nomark _)) (pe_one (pe_cmpR op_ne (pe_item_str (pv 0) pe_int (fun _ _ => rfl)) pe_str (nomark _)))))), ?_⟩
    have bad : isNum z = false → ∀ H', Same H H' → Q (.bl false) H' := fun e H' s => by
      have q := k H' s
      rw [e] at q
      exact q
    refine ⟨_, rfl, _, rfl, Nat.le_trans hz (by decide), _, _, rfl, rfl, _, rfl, ?_⟩
    refine ite2 (fun c1 => ?_) (fun c1 => ?_)
    · refine ⟨_, _, rfl, rfl, _, rfl, ?_⟩
      by_cases c2 : (z.length : Int) ≤ 2
      · refine iteNS c2 ?_
        refine ⟨_, rfl, z, rfl, fun D hD => lc_it walk_str (MapP H D (z.cps.toList.map fun c => V.bl (decide (c ∈ DIG.cps.toList)))) (MapP.zero hD) (fun _ _ _ _ => trivial) ?_ ?_⟩
        · rintro i x H1 H2 hi p ⟨rfl, c, hc, rfl⟩
          refine ⟨rfl, _, rfl, c, _, rfl, rfl, ?_⟩
          refine p.step hD ?_ (by rw [List.length_map, Array.length_toList]; exact hz) (Same.refl _)
          rw [List.getElem?_map, Array.getElem?_toList, hc]
          rfl
        · intro H2 p
          obtain ⟨s2, hl⟩ := p.done (by rw [List.length_map, Array.length_toList])
          refine ⟨D, z.cps.toList.map fun c => decide (c ∈ DIG.cps.toList), rfl, SqL.of (by rw [hl, List.map_map]; rfl), ?_⟩
          have e : isNum z = ((z.cps.toList.map fun c => decide (c ∈ DIG.cps.toList)).all id && (decide (z = "0") || !decide (z.cps.toList.headD 0 = 48))) := by
            unfold isNum
            rw [c1, decide_eq_true c2, List.all_map]
            rfl
          refine ⟨_, rfl, ?_⟩
          cases c3 : (z.cps.toList.map fun c => decide (c ∈ DIG.cps.toList)).all id with
          | false =>
            refine iteT ?_
            exact bad (by rw [e, c3, Bool.false_and]) H2 s2
          | true =>
            refine iteF ?_
            rw [c3, Bool.true_and] at e
            refine ⟨_, rfl, rfl, _, rfl, ?_⟩
            rw [dec_str]
            cases c4 : decide (z = ("0" : Str)) with
            | true =>
              rw [c4, Bool.true_or] at e
              refine iteT ?_
              have q := k H2 s2
              rw [e] at q
              exact q
            | false =>
              rw [c4, Bool.false_or] at e
              refine iteF ?_
              have l1 : 1 ≤ (z.length : Int) := of_decide_eq_true c1
              have lz : z.length = z.cps.size := rfl
              have hc : z.cps[0]? = some (z.cps.toList.headD 0) := by
                have h0 : 0 < z.cps.size := by omega
                rw [Array.getElem?_eq_getElem h0]
                congr 1
                have : z.cps.toList = z.cps[0] :: z.cps.toList.drop 1 := by
                  have := List.drop_eq_getElem_cons (l := z.cps.toList) (i := 0) (by rw [Array.length_toList]; exact h0)
                  rw [List.drop_zero] at this
                  simpa using this
                rw [this]
                rfl
              refine ⟨_, rfl, z, 0, _, rfl, rfl, by decide, by decide, by omega, hc, rfl, ?_⟩
              have q := k H2 s2
              rw [e] at q
              have e5 : decide (V.str ⟨#[z.cps.toList.headD 0]⟩ = V.str ("0" : Str)) = decide (z.cps.toList.headD 0 = 48) := by
                rw [dec_str]
                refine decide_eq_decide.mpr ⟨fun h => ?_, fun h => by rw [h]; rfl⟩
                have := congrArg (fun t : Str => t.cps.toList) h
                have e0 : ("0" : Str).cps.toList = [48] := by decide
                simp only [e0] at this
                simpa using this
              rw [e5]
              exact q
      · refine iteNT c2 ?_
        exact bad (by unfold isNum; rw [decide_eq_false c2, Bool.and_false, Bool.false_and, Bool.false_and]) _ (Same.refl _)
    · have c1' : decide (1 ≤ (z.length : Int)) = false := by simpa using c1
      refine ⟨_, rfl, iteT ?_⟩
      exact bad (by unfold isNum; rw [c1', Bool.false_and, Bool.false_and, Bool.false_and]) _ (Same.refl _)
end
end Half

namespace Half
open PySem PySem.Spec PyProof.Rows L2
/-! ### InvalidText; a row's words -/
abbrev sIt : Stmt := inClass (top 17) 0
abbrev sRw (i : Nat) : Stmt := inClass (top 45) i
def spErrT (C : Addr) : Sp := fun vs H Q _ => ∃ (a : Addr) (n k : Nat), vs = [.ref a, .int n, .int k] ∧ H a = some (exo a C none) ∧ n ≤ 1000 ∧ k ≤ 1000 ∧
  ∀ dx, H dx = none → dx ≠ a → Q .non (upd (upd (upd H dx (exd dx [("row", .int n)])) a (exo a C (some dx))) dx (exd dx [("word", .int k), ("row", .int n)]))
theorem scIt : SupScope ["self", "row", "word"] ["self", "row", "word"] (defScope sIt) := ⟨rfl, rfl, rfl, by decide +kernel, rfl, by decide +kernel, by decide +kernel, by decide +kernel, rfl, rfl⟩
def rowO (CR dx : Addr) (p : Nat) (lw : Addr) (t : Nat) : HO := .ins CR dx [("place", .int (p : Nat)), ("words", .ref lw), ("taken", .int (t : Nat))]
structure RowIs (CR : Addr) (H : Hp) (r dx lw : Addr) (p : Nat) (ws : List Str) (t : Nat) : Prop where
  at_ : H r = some (rowO CR dx p lw t)
  words : H lw = some (.lst (ws.map V.str))
  le : t ≤ ws.length
  few : p ≤ 900
  fewW : ws.length ≤ 900
  small : ∀ z ∈ ws, z.length ≤ 1000
def ErrAt (CV : Addr) (H : Hp) (r : Addr) (E : XK) (p k : Nat) : Prop := ∀ H' dd, SameBut r H H' → H' dd = some (.xd [("word", .int (k : Nat)), ("row", .int (p : Nat))]) → E (.ref CV) (some dd) H'
section
variable {CR CV : Addr} {H H' H2 : Hp} {r dx lw : Addr} {p t : Nat} {ws : List Str} {E : XK}
theorem SameBut.refl {x : Addr} {H : Hp} : SameBut x H H := fun _ _ _ e => e
theorem SameBut.trans {x : Addr} {H H1 H2 : Hp} (a : SameBut x H H1) (b : SameBut x H1 H2) : SameBut x H H2 := fun c o n e => b c o n (a c o n e)
theorem sb_of {x : Addr} {H H1 : Hp} (a : Same H H1) : SameBut x H H1 := fun c o _ e => a c o e
theorem sb_upd {x : Addr} {H : Hp} {o : HO} : SameBut x H (upd H x o) := fun c u n e => by rw [upd_ne n]; exact e
theorem RowIs.ne (h : RowIs CR H r dx lw p ws t) : lw ≠ r := fun e => by
  have a := h.at_
  have b := h.words
  rw [e, a] at b
  cases b
theorem RowIs.mv (h : RowIs CR H r dx lw p ws t) (sb : SameBut r H H') {t' : Nat} (g : H' r = some (rowO CR dx p lw t')) (le : t' ≤ ws.length) : RowIs CR H' r dx lw p ws t' :=
  ⟨g, sb _ _ h.ne h.words, le, h.few, h.fewW, h.small⟩
theorem RowIs.same (h : RowIs CR H r dx lw p ws t) (s : Same H H') : RowIs CR H' r dx lw p ws t := ⟨s _ _ h.at_, s _ _ h.words, h.le, h.few, h.fewW, h.small⟩
theorem RowIs.step (h : RowIs CR H r dx lw p ws t) {z : Str} (e : ws[t]? = some z) : RowIs CR (upd H r (rowO CR dx p lw (t + 1))) r dx lw p ws (t + 1) := h.mv sb_upd upd_same (by have := (List.getElem?_eq_some_iff.mp e).1; omega)
theorem ErrAt.of {k : Nat} (h : ErrAt CV H r E p k) (sb : SameBut r H H') : ErrAt CV H' r E p k := fun H2 dd s2 hd => h H2 dd (sb.trans s2) hd
end
section
variable (CR CV : Addr)
def spIse : Sp := fun vs H Q E => ∃ (r dx lw : Addr) (p t : Nat) (ws : List Str), vs = [.ref r] ∧ RowIs CR H r dx lw p ws t ∧ Q (.bl (decide (t = ws.length))) H
def spTke : Sp := fun vs H Q E => ∃ (r dx lw : Addr) (p t : Nat) (ws : List Str), vs = [.ref r] ∧ RowIs CR H r dx lw p ws t ∧ (∀ z, ws[t]? = some z → Q (.str z) (upd H r (rowO CR dx p lw (t + 1)))) ∧ (ws[t]? = none → ErrAt CV H r E p t)
def spApr : Sp := fun vs H Q E => ∃ (r dx lw : Addr) (p t : Nat) (ws : List Str) (b : Bool), vs = [.ref r, .bl b] ∧ RowIs CR H r dx lw p ws (t + 1) ∧ (b = true → Q .non H) ∧ (b = false → ErrAt CV H r E p t)
def spFsh : Sp := fun vs H Q E => ∃ (r dx lw : Addr) (p t : Nat) (ws : List Str), vs = [.ref r] ∧ RowIs CR H r dx lw p ws t ∧ (t = ws.length → Q .non H) ∧ (t ≠ ws.length → ErrAt CV H r E p t)
def spRwi : Sp := fun vs H Q _ => ∃ (x dx : Addr) (p : Nat) (z : Str), vs = [.ref x, .int (p : Nat), .str z] ∧ H x = some (.ins CR dx []) ∧ p ≤ 900 ∧ z.length ≤ 100000 ∧ (Txt.split z " ").length ≤ 900 ∧ (∀ y ∈ Txt.split z " ", y.length ≤ 1000) ∧
  ∀ H' lw, SameBut x H H' → RowIs CR H' x dx lw p (Txt.split z " ") 0 → Q .non H'
end
structure TxtR (P : Program) (w : World) (K : PySem.W.Frag) (mg : Str → Option Value) (base : Heap) (CR CV fE : Addr) (fdE : FuncData) : Prop where
  cl : Cls K CR
  nP : NoAttr K CR "place"
  nW : NoAttr K CR "words"
  nT : NoAttr K CR "taken"
  len : mg "len" = none
  mgE : mg "InvalidText" = some (.ref CV)
  sup : SupC P K mg CV
  n1 : PySem.W.findIn K (.ref CV) "row" = some none
  n2 : PySem.W.findIn K (.ref CV) "word" = some none
  iC : PySem.W.findIn K (.ref CV) "__init__" = some (some (.ref fE))
  tI : PySem.W.typeIn K (.ref fE) = some (.type "function")
  er : ErrFn P K CV "InvalidText.__init__" sIt fE fdE
  bI : Binds K fdE ["self", "row", "word"] []
structure MtR (K : PySem.W.Frag) (CX : Addr) (x qual : Str) (stm : Stmt) (ps : List Str) : Prop where
  ex : ∃ f fd, Meth K CX x f ∧ Fun K x qual stm f fd ∧ Binds K fd ps []
section
variable {P : Program} {w : World} {K : PySem.W.Frag} {mg : Str → Option Value} {base : Heap} {CR CV fE : Addr} {fdE : FuncData}
theorem ok_it {C f : Addr} {fd : FuncData} (F : ErrFn P K C "InvalidText.__init__" sIt f fd) (T : SupC P K mg C) (n1 : PySem.W.findIn K (.ref C) "row" = some none) (n2 : PySem.W.findIn K (.ref C) "word" = some none) : FnOk P w K mg base CX0 1 f fd ["self", "row", "word"] (spErrT C) := by
  obtain ⟨oc, od, kV, doc, pm, an, cda, cc, ct, osl, ccl, cdd, vsc, ccs, file, tf, cl, cld, csl, rfl, lk, hcd, hcode, hvs, hfile, hcell⟩ := F.ex
  refine fn_sup (N := ["self", "row", "word"]) lk hcd scIt rfl rfl rfl hcode hvs hfile hcell T (fun vs H Q E h => ?_) (fun _ => rfl) (fun _ => rfl) (fun _ => rfl) (fun A outer s H vs Q E hr h => ?_)
  · obtain ⟨a, n, k, rfl, _⟩ := h
    rfl
  · obtain ⟨a, n, k, rfl, ha, hn, hk, q⟩ := h
    refine ⟨a, _, _, rfl, ha, pa_cons (pe_joined (.cons pe_str (.cons (pe_fmt (pv 1)) (.cons pe_str (.cons (pe_fmt (pv 2)) .nil))))) pa_nil, pss_cons (ps_ost (pv 0) (pv 1)) (pss_one (ps_ost (pv 0) (pv 2))), ?_⟩
    obtain ⟨l1, l2⟩ := small_text n hn
    obtain ⟨l3, l4⟩ := small_text k hk
    have e1 : ("row " : Str).length = 4 := by decide
    have e2 : (" of the text is wrong at word " : Str).length = 30 := by decide
    have e0 : (Str.empty).length = 0 := by decide
    have l1' : (Str.ofString (toString (n : Int))).length ≤ 10 := l1
    have l3' : (Str.ofString (toString (k : Int))).length ≤ 10 := l3
    refine ⟨_, rfl, (by decide), _, rfl, .inr ⟨(n : Int), rfl, l2, _, rfl, ?_, _, rfl, ?_, _, rfl, .inr ⟨(k : Int), rfl, l4, _, rfl, ?_, ?_⟩⟩⟩
    · rw [app_len, app_len, sizeLine_eq]
      omega
    · rw [app_len, app_len, app_len, sizeLine_eq]
      omega
    · rw [app_len, app_len, app_len, app_len, sizeLine_eq]
      omega
    refine ⟨by show 1 ≤ 1000; decide, ha, ?_⟩
    refine ⟨_, rfl, _, rfl, a, C, rfl, T.oex, n1, .inl ⟨ha, fun dx h1 h2 => ?_⟩⟩
    refine ⟨_, rfl, _, rfl, a, C, rfl, T.oex, n2, .inr ⟨dx, [("row", .int n)], upd_same, by rw [upd_ne h2, upd_same], (by show 1 ≤ 900; decide), ?_⟩⟩
    exact q dx h1 h2
theorem dec_int {a b : Int} : decide (V.int a = V.int b) = decide (a = b) := decide_eq_decide.mpr ⟨fun h => by injection h, fun h => by rw [h]⟩
/-- raise InvalidText(self.place, self.taken ..) -/
theorem mkT_read {r : Addr} {H : Hp} {E : XK} {p k : Nat} (hp : p ≤ 1000) (hk : k ≤ 1000) (h : ErrAt CV H r E p k) : ∀ a, H a = none → spErrT CV [.ref a, .int (p : Nat), .int (k : Nat)] (upd H a (exo a CV none))
    (fun v H2 => v = .non ∧ ∃ (d : Addr) (fs : List (Str × V)), H2 a = some (exo a CV (some d)) ∧ H2 d = some (exd d fs) ∧ H d = none ∧ E (.ref CV) (some d) (upd (del H2 a) d (.xd fs))) (fun _ _ _ => False) := fun a ha =>
  ⟨a, p, k, rfl, upd_same, hp, hk, fun d hd1 hd2 => by
    have hd : H d = none := by
      rw [upd_ne hd2] at hd1
      exact hd1
    refine ⟨rfl, d, [("word", .int k), ("row", .int p)], ?_, upd_same, hd, ?_⟩
    · rw [upd_ne (Ne.symm hd2), upd_same]
    · refine h _ d (fun b o _ q1 => ?_) upd_same
      have nb : b ≠ d := ne_of_none q1 hd
      have na : b ≠ a := ne_of_none q1 ha
      rw [upd_ne nb, del_ne na, upd_ne nb, upd_ne na, upd_ne nb, upd_ne na]
      exact q1⟩
theorem scIseR : FnScope ["self"] ["self"] (defScope (sRw 1)) := ⟨rfl, rfl, rfl, by decide +kernel, rfl, by decide +kernel, by decide +kernel⟩
theorem ok_ise {f : Addr} {fd : FuncData} (F : Fun K "is_ended" "Row.is_ended" (sRw 1) f fd) (T : TxtR P w K mg base CR CV fE fdE) : FnOk P w K mg base CX0 1 f fd ["self"] (spIse CR) := by
  refine F.ok scIseR (fun vs H Q E h => ?_) (fun cdv A outer s H vs Q E hr h => ?_)
  · obtain ⟨r, dx, lw, p, t, ws, rfl, _⟩ := h
    rfl
  · obtain ⟨r, dx, lw, p, t, ws, rfl, hR, k⟩ := h
    refine ⟨_, pss_one (ps_ret (pe_cmpR op_eq (pe_fld (pv 0) rfl) (pe_callB call_len_seq (by rfl) T.len PySem.boot_len (pa_cons (pe_fld (pv 0) rfl) pa_nil)) (nomark _))), ?_⟩
    refine ⟨_, rfl, r, CR, dx, _, _, rfl, hR.at_, T.cl, T.nT, rfl, _, rfl, r, CR, dx, _, _, rfl, hR.at_, T.cl, T.nW, rfl, lw, _, rfl, .inl (SqL.of hR.words), rfl, ?_⟩
    rw [List.length_map]
    have e : decide (V.int ((t : Nat) : Int) = V.int ((ws.length : Nat) : Int)) = decide (t = ws.length) := by
      rw [dec_int]
      exact decide_eq_decide.mpr ⟨fun h => by omega, fun h => by omega⟩
    have k2 := k
    rw [← e] at k2
    exact k2
end
end Half

namespace Half
open PySem PySem.Spec PyProof.Rows L2
/-! ### take, approve, finish, Row(..) -/
section
variable {P : Program} {w : World} {K : PySem.W.Frag} {mg : Str → Option Value} {base : Heap} {CR CV fE : Addr} {fdE : FuncData}
theorem scTke : FnScope ["self"] ["self"] (defScope (sRw 2)) := ⟨rfl, rfl, rfl, by decide +kernel, rfl, by decide +kernel, by decide +kernel⟩
theorem ok_tke {f : Addr} {fd : FuncData} (F : Fun K "take" "Row.take" (sRw 2) f fd) (T : TxtR P w K mg base CR CV fE fdE) (mI : MtR K CR "is_ended" "Row.is_ended" (sRw 1) ["self"]) : FnOk P w K mg base (L2.CX P w) 3 f fd ["self"] (spTke CR CV) := by
  refine F.okX scTke (fun vs H Q E h => ?_) (fun cdv A outer s H vs Q E hr h => ?_)
  · obtain ⟨r, dx, lw, p, t, ws, rfl, _⟩ := h
    rfl
  · obtain ⟨r, dx, lw, p, t, ws, rfl, hR, kO, kE⟩ := h
    have r1 : Room 1 _ := hr.mono (by decide)
    have r2 : Room 2 _ := hr.mono (by decide)
    have FI : FnOk P w K mg base CX0 1 fE fdE ["self", "row", "word"] (spErrT CV) := ok_it T.er T.sup T.n1 T.n2
    obtain ⟨fI, fdI, MI, FnI, bI⟩ := mI.ex
    refine ⟨_, pss_cons (ps_if (pt_val (pe_meth0 (pv 0) T.cl MI (ok_ise FnI T) r1 bI .nil pass0)) (pss_one (ps_raise rfl (takes_of rfl rfl rfl rfl) (pmk_oex T.sup.oex T.iC T.tI FI r2 T.bI .nil (fun _ _ _ _ _ _ _ h => h.elim) rfl T.mgE (pa_cons (pe_fld (pv 0) rfl) (pa_cons (pe_fld (pv 0) rfl) pa_nil))))) pss_nil)
      (pss_cons (ps_fldaug (pv 0) pe_int in_add)
      (pss_one (ps_ret (pe_ix (ix_list : IxR _ (rIxL K)) (pe_fld (pv 0) rfl) (pe_op op_sub (pe_fld (pv 0) rfl) pe_int) (fun _ _ => rfl))))), ?_⟩
    have h1 := hR.at_
    refine ⟨_, rfl, r, dx, _, rfl, h1, rfl, r, dx, lw, p, t, ws, rfl, hR, _, rfl, ?_⟩
    by_cases c : t = ws.length
    · refine ite_yes (decide_eq_true c) ?_
      have eN : ws[t]? = none := List.getElem?_eq_none (by omega)
      have := hR.fewW
      have := hR.few
      refine ⟨_, rfl, r, CR, dx, _, _, rfl, h1, T.cl, T.nP, rfl, _, rfl, r, CR, dx, _, _, rfl, h1, T.cl, T.nT, rfl, (by show 2 ≤ 1000; decide), ?_⟩
      exact mkT_read (by omega) (by omega) (kE eN)
    · refine ite_no (decide_eq_false c) ?_
      have lt : t < ws.length := by have := hR.le; omega
      obtain ⟨z, hz⟩ : ∃ z, ws[t]? = some z := ⟨ws[t], List.getElem?_eq_getElem lt⟩
      refine ⟨_, rfl, r, CR, dx, _, _, rfl, h1, T.cl, T.nT, rfl, _, _, rfl, rfl, dx, _, h1, (by show 3 < 1000; decide), ?_⟩
      have e : (.ins CR dx (putF "taken" (.int (((t : Nat) : Int) + 1)) [("place", .int (p : Nat)), ("words", .ref lw), ("taken", .int (t : Nat))]) : HO) = rowO CR dx p lw (t + 1) := by
        show HO.ins CR dx [("place", .int (p : Nat)), ("words", .ref lw), ("taken", .int (((t : Nat) : Int) + 1))] = _
        unfold rowO
        congr 5
      rw [e]
      have hS := hR.step hz
      have at1 : atI (ws.map V.str) (((t + 1 : Nat) : Int) - 1) = some (.str z) := by
        rw [show (((t + 1 : Nat) : Int) - 1) = ((t : Nat) : Int) by omega]
        exact atI_nat (by rw [List.getElem?_map, hz]; rfl)
      refine ⟨_, rfl, r, CR, dx, _, _, rfl, hS.at_, T.cl, T.nW, rfl, _, rfl, r, CR, dx, _, _, rfl, hS.at_, T.cl, T.nT, rfl, _, _, rfl, rfl, lw, _, _, _, rfl, rfl, SqL.of hS.words, at1, ?_⟩
      exact kO z hz
theorem scApr : FnScope ["self", "right"] ["self", "right"] (defScope (sRw 3)) := ⟨rfl, rfl, rfl, by decide +kernel, rfl, by decide +kernel, by decide +kernel⟩
theorem ok_apr {f : Addr} {fd : FuncData} (F : Fun K "approve" "Row.approve" (sRw 3) f fd) (T : TxtR P w K mg base CR CV fE fdE) : FnOk P w K mg base (L2.CX P w) 3 f fd ["self", "right"] (spApr CR CV) := by
  refine F.okX scApr (fun vs H Q E h => ?_) (fun cdv A outer s H vs Q E hr h => ?_)
  · obtain ⟨r, dx, lw, p, t, ws, b, rfl, _⟩ := h
    rfl
  · obtain ⟨r, dx, lw, p, t, ws, b, rfl, hR, kO, kE⟩ := h
    have r2 : Room 2 _ := hr.mono (by decide)
    have FI : FnOk P w K mg base CX0 1 fE fdE ["self", "row", "word"] (spErrT CV) := ok_it T.er T.sup T.n1 T.n2
    refine ⟨_, pss_one (ps_if (pt_not (pt_val (pv 1))) (pss_one (ps_raise rfl (takes_of rfl rfl rfl rfl) (pmk_oex T.sup.oex T.iC T.tI FI r2 T.bI .nil (fun _ _ _ _ _ _ _ h => h.elim) rfl T.mgE (pa_cons (pe_fld (pv 0) rfl) (pa_cons (pe_op op_sub (pe_fld (pv 0) rfl) pe_int) pa_nil))))) pss_nil), ?_⟩
    have h1 := hR.at_
    refine ⟨_, rfl, _, rfl, ?_⟩
    cases b with
    | true =>
      refine iteF ?_
      exact kO rfl
    | false =>
      refine iteT ?_
      have := hR.fewW
      have := hR.few
      have := hR.le
      refine ⟨_, rfl, r, CR, dx, _, _, rfl, h1, T.cl, T.nP, rfl, _, rfl, r, CR, dx, _, _, rfl, h1, T.cl, T.nT, rfl, _, _, rfl, rfl, (by show 2 ≤ 1000; decide), ?_⟩
      have q := mkT_read (by omega) (by omega) (kE rfl)
      have e : ((fun i j : Int => V.int (i - j)) ((t + 1 : Nat) : Int) 1) = V.int ((t : Nat) : Int) := by show V.int _ = _; congr 1; omega
      rw [e]
      exact q
theorem scFsh : FnScope ["self"] ["self"] (defScope (sRw 4)) := ⟨rfl, rfl, rfl, by decide +kernel, rfl, by decide +kernel, by decide +kernel⟩
theorem ok_fsh {f : Addr} {fd : FuncData} (F : Fun K "finish" "Row.finish" (sRw 4) f fd) (T : TxtR P w K mg base CR CV fE fdE) (mI : MtR K CR "is_ended" "Row.is_ended" (sRw 1) ["self"]) : FnOk P w K mg base (L2.CX P w) 3 f fd ["self"] (spFsh CR CV) := by
  refine F.okX scFsh (fun vs H Q E h => ?_) (fun cdv A outer s H vs Q E hr h => ?_)
  · obtain ⟨r, dx, lw, p, t, ws, rfl, _⟩ := h
    rfl
  · obtain ⟨r, dx, lw, p, t, ws, rfl, hR, kO, kE⟩ := h
    have r1 : Room 1 _ := hr.mono (by decide)
    have r2 : Room 2 _ := hr.mono (by decide)
    have FI : FnOk P w K mg base CX0 1 fE fdE ["self", "row", "word"] (spErrT CV) := ok_it T.er T.sup T.n1 T.n2
    obtain ⟨fI, fdI, MI, FnI, bI⟩ := mI.ex
    refine ⟨_, pss_one (ps_if (pt_not (pt_val (pe_meth0 (pv 0) T.cl MI (ok_ise FnI T) r1 bI .nil pass0))) (pss_one (ps_raise rfl (takes_of rfl rfl rfl rfl) (pmk_oex T.sup.oex T.iC T.tI FI r2 T.bI .nil (fun _ _ _ _ _ _ _ h => h.elim) rfl T.mgE (pa_cons (pe_fld (pv 0) rfl) (pa_cons (pe_fld (pv 0) rfl) pa_nil))))) pss_nil), ?_⟩
    have h1 := hR.at_
    refine ⟨_, rfl, r, dx, _, rfl, h1, rfl, r, dx, lw, p, t, ws, rfl, hR, _, rfl, ?_⟩
    by_cases c : t = ws.length
    · rw [decide_eq_true c]
      refine iteF ?_
      exact kO c
    · rw [decide_eq_false c]
      refine iteT ?_
      have := hR.fewW
      have := hR.few
      have := hR.le
      refine ⟨_, rfl, r, CR, dx, _, _, rfl, h1, T.cl, T.nP, rfl, _, rfl, r, CR, dx, _, _, rfl, h1, T.cl, T.nT, rfl, (by show 2 ≤ 1000; decide), ?_⟩
      exact mkT_read (by omega) (by omega) (kE c)
theorem scRwi : FnScope ["self", "place", "text"] ["self", "place", "text"] (defScope (sRw 0)) := ⟨rfl, rfl, rfl, by decide +kernel, rfl, by decide +kernel, by decide +kernel⟩
theorem ok_rwi {f : Addr} {fd : FuncData} (F : Fun K "__init__" "Row.__init__" (sRw 0) f fd) (T : TxtR P w K mg base CR CV fE fdE) : FnOk P w K mg base CX0 1 f fd ["self", "place", "text"] (spRwi CR) := by
  refine F.ok scRwi (fun vs H Q E h => ?_) (fun cdv A outer s H vs Q E hr h => ?_)
  · obtain ⟨x, dx, p, z, rfl, _⟩ := h
    rfl
  · obtain ⟨x, dx, p, z, rfl, hx, hp, hz, hf, hs, k⟩ := h
    refine ⟨_, pss_cons (ps_fld (pv 0) (pv 1) rfl) (pss_cons (ps_fld (pv 0) (pe_split (pv 2) pe_str) rfl) (pss_one (ps_fld (pv 0) pe_int rfl))), ?_⟩
    refine ⟨_, rfl, _, rfl, x, CR, dx, _, rfl, hx, T.cl, T.nP, (by show 0 < 1000; decide), ?_⟩
    have g1 : (upd H x (.ins CR dx (putF "place" (.int (p : Nat)) []))) x = some (.ins CR dx [("place", .int (p : Nat))]) := upd_same
    have b1 : SameBut x H (upd H x (.ins CR dx (putF "place" (.int (p : Nat)) []))) := sb_upd
    generalize upd H x (.ins CR dx (putF "place" (.int (p : Nat)) [])) = H1 at g1 b1 ⊢
    refine ⟨_, rfl, ⟨z, rfl⟩, z, " ", rfl, rfl, by decide, by rw [sizeLine_eq]; omega, fun lw nl => ?_⟩
    have nlx : lw ≠ x := fun e => by rw [e, g1] at nl; cases nl
    have s2 := Same.upd_new (o := .lst ((Txt.split z " ").map V.str)) nl
    have gl : (upd H1 lw (.lst ((Txt.split z " ").map V.str))) lw = some (.lst ((Txt.split z " ").map V.str)) := upd_same
    generalize upd H1 lw (.lst ((Txt.split z " ").map V.str)) = H2 at s2 gl ⊢
    refine ⟨_, rfl, x, CR, dx, _, rfl, s2 _ _ g1, T.cl, T.nW, (by show 1 < 1000; decide), ?_⟩
    refine ⟨_, rfl, x, CR, dx, _, rfl, upd_same, T.cl, T.nT, (by show 2 < 1000; decide), ?_⟩
    refine k _ lw (fun b o n q => ?_) ⟨upd_same, ?_, Nat.zero_le _, hp, hf, hs⟩
    · rw [upd_ne n, upd_ne n]
      exact s2 _ _ (b1 _ _ n q)
    · rw [upd_ne nlx, upd_ne nlx]
      exact gl
end
end Half

namespace Half
open PySem PySem.Spec PyProof.Rows L2
/-! ### take_name, take_number -/
abbrev TR (α : Type) := Except Nat (α × Nat)
def nameM (ws : List Str) (t : Nat) (b : Str) : TR Str := match ws[t]? with
  | none => .error t
  | some z => if (isWord z && strLt b z) = true then .ok (z, t + 1) else .error t
def numM (ws : List Str) (t : Nat) : TR Nat := match ws[t]? with
  | none => .error t
  | some z => if isNum z = true then .ok (numOf z, t + 1) else .error t
/-- what a reader of a row comes to -/
def RdAt {α : Type} (CR CV : Addr) (H : Hp) (r dx lw : Addr) (p : Nat) (ws : List Str) (E : XK) (k : α → Hp → Prop) : TR α → Prop
  | .error j => ErrAt CV H r E p j
  | .ok (v, t) => ∀ H', SameBut r H H' → RowIs CR H' r dx lw p ws t → k v H'
section
variable (CR CV : Addr)
def spTkn : Sp := fun vs H Q E => ∃ (r dx lw : Addr) (p t : Nat) (ws : List Str) (b : Str), vs = [.ref r, .str b] ∧ RowIs CR H r dx lw p ws t ∧ RdAt CR CV H r dx lw p ws E (fun v H' => Q (.str v) H') (nameM ws t b)
def spTku : Sp := fun vs H Q E => ∃ (r dx lw : Addr) (p t : Nat) (ws : List Str), vs = [.ref r] ∧ RowIs CR H r dx lw p ws t ∧ RdAt CR CV H r dx lw p ws E (fun v H' => Q (.int (v : Nat)) H') (numM ws t)
end
structure RowF (P : Program) (w : World) (K : PySem.W.Frag) (mg : Str → Option Value) (base : Heap) (CR CV fE : Addr) (fdE : FuncData) : Prop where
  T : TxtR P w K mg base CR CV fE fdE
  mI : MtR K CR "is_ended" "Row.is_ended" (sRw 1) ["self"]
  mT : MtR K CR "take" "Row.take" (sRw 2) ["self"]
  mA : MtR K CR "approve" "Row.approve" (sRw 3) ["self", "right"]
  mF : MtR K CR "finish" "Row.finish" (sRw 4) ["self"]
  dW : Def P w K mg base 1 "is_word" ["text"] spWord
  dN : Def P w K mg base 1 "is_numeral" ["text"] spNml
  int : mg "int" = none
  tup : mg "tuple" = none
section
variable {P : Program} {w : World} {K : PySem.W.Frag} {mg : Str → Option Value} {base : Heap} {CR CV fE : Addr} {fdE : FuncData}
abbrev sTkn : Stmt := top 46
abbrev sTku : Stmt := top 47
theorem scTkn : FnScope ["row", "before", "name"] ["row", "before"] (defScope sTkn) := ⟨rfl, rfl, rfl, by decide +kernel, rfl, by decide +kernel, by decide +kernel⟩
theorem ok_tkn {f : Addr} {fd : FuncData} (F : Fun K "take_name" "take_name" sTkn f fd) (D : RowF P w K mg base CR CV fE fdE) : FnOk P w K mg base (L2.CX P w) 4 f fd ["row", "before"] (spTkn CR CV) := by
  refine F.okX scTkn (fun vs H Q E h => ?_) (fun cdv A outer s H vs Q E hr h => ?_)
  · obtain ⟨r, dx, lw, p, t, ws, b, rfl, _⟩ := h
    rfl
  · obtain ⟨r, dx, lw, p, t, ws, b, rfl, hR, k⟩ := h
    have nd := scTkn.nd
    have T := D.T
    have r1 : Room 1 _ := hr.mono (by decide)
    have r3 : Room 3 _ := hr.mono (by decide)
    obtain ⟨fT, fdT, MT, FT, bT⟩ := D.mT.ex
    obtain ⟨fA, fdA, MA, FA, bA⟩ := D.mA.ex
    refine ⟨_, pss_cons (ps_set (i := 2) nd rfl (Or.inl rfl) (pe_meth0 (pv 0) T.cl MT (ok_tke FT T D.mI) r3 bT .nil (passes_call (takes_of rfl rfl rfl rfl) (fun _ _ _ _ h => h))))
      (pss_cons (ps_expr (pe_meth (pv 0) T.cl MA (ok_apr FA T) r3 bA .nil (passes_call (takes_of rfl rfl rfl rfl) (fun _ _ _ _ h => h)) (pa_cons (pe_and (pe_def D.dW r1 rfl (pa_cons (pv 2) pa_nil)) (pe_one (pe_cmpR op_gt_str (pv 2) (pv 1) (nomark _)))) pa_nil)))
      (pss_one (ps_ret (pv 2)))), ?_⟩
    have h1 := hR.at_
    refine ⟨_, rfl, r, dx, _, rfl, h1, rfl, r, dx, lw, p, t, ws, rfl, hR, fun z hz => ?_, fun hz => ?_⟩
    · have hS := hR.step hz
      have sm := hR.small z (List.mem_of_getElem? hz)
      have e1 : nameM ws t b = if (isWord z && strLt b z) = true then .ok (z, t + 1) else .error t := by unfold nameM; rw [hz]
      rw [e1] at k
      have sb : SameBut r H (upd H r (rowO CR dx p lw (t + 1))) := sb_upd
      generalize upd H r (rowO CR dx p lw (t + 1)) = H1 at hS sb ⊢
      refine ⟨_, rfl, r, dx, _, rfl, hS.at_, rfl, ?_⟩
      refine ⟨_, rfl, z, rfl, sm, fun H2 s2 => ?_⟩
      have hS2 := hS.same s2
      have sb2 := sb.trans (sb_of s2)
      have fin : ∀ c : Bool, c = (isWord z && strLt b z) → (c = true → Q (.str z) H2) ∧ (c = false → ErrAt CV H2 r E p t) := fun c hc => by
        cases c with
        | true =>
          rw [if_pos hc.symm] at k
          exact ⟨fun _ => k H2 sb2 hS2, fun z => nomatch z⟩
        | false =>
          rw [if_neg (by rw [← hc]; decide)] at k
          exact ⟨fun z => (nomatch z), fun _ => ErrAt.of k sb2⟩
      cases cw : isWord z with
      | false =>
        obtain ⟨f1, f2⟩ := fin false (by rw [cw]; rfl)
        exact ⟨_, rfl, iteF ⟨r, dx, lw, p, t, ws, false, rfl, hS2, fun z => (nomatch z), fun _ => f2 rfl⟩⟩
      | true =>
        obtain ⟨f1, f2⟩ := fin (strLt b z) (by rw [cw]; rfl)
        refine ⟨_, rfl, iteT ⟨_, rfl, _, rfl, z, b, rfl, rfl, r, dx, lw, p, t, ws, strLt b z, rfl, hS2, fun c => ⟨_, rfl, f1 c⟩, f2⟩⟩
    · have e1 : nameM ws t b = .error t := by unfold nameM; rw [hz]
      rw [e1] at k
      exact k
theorem scTku : FnScope ["row", "word"] ["row"] (defScope sTku) := ⟨rfl, rfl, rfl, by decide +kernel, rfl, by decide +kernel, by decide +kernel⟩
theorem ok_tku {f : Addr} {fd : FuncData} (F : Fun K "take_number" "take_number" sTku f fd) (D : RowF P w K mg base CR CV fE fdE) : FnOk P w K mg base (L2.CX P w) 4 f fd ["row"] (spTku CR CV) := by
  refine F.okX scTku (fun vs H Q E h => ?_) (fun cdv A outer s H vs Q E hr h => ?_)
  · obtain ⟨r, dx, lw, p, t, ws, rfl, _⟩ := h
    rfl
  · obtain ⟨r, dx, lw, p, t, ws, rfl, hR, k⟩ := h
    have nd := scTku.nd
    have T := D.T
    have r1 : Room 1 _ := hr.mono (by decide)
    have r3 : Room 3 _ := hr.mono (by decide)
    obtain ⟨fT, fdT, MT, FT, bT⟩ := D.mT.ex
    obtain ⟨fA, fdA, MA, FA, bA⟩ := D.mA.ex
    refine ⟨_, pss_cons (ps_set (i := 1) nd rfl (Or.inl rfl) (pe_meth0 (pv 0) T.cl MT (ok_tke FT T D.mI) r3 bT .nil (passes_call (takes_of rfl rfl rfl rfl) (fun _ _ _ _ h => h))))
      (pss_cons (ps_expr (pe_meth (pv 0) T.cl MA (ok_apr FA T) r3 bA .nil (passes_call (takes_of rfl rfl rfl rfl) (fun _ _ _ _ h => h)) (pa_cons (pe_def D.dN r1 rfl (pa_cons (pv 1) pa_nil)) pa_nil)))
      (pss_one (ps_ret (pe_callTy call_int_str (by rfl) D.int (by decide +kernel) (pa_cons (pv 1) pa_nil))))), ?_⟩
    have h1 := hR.at_
    refine ⟨_, rfl, r, dx, _, rfl, h1, rfl, r, dx, lw, p, t, ws, rfl, hR, fun z hz => ?_, fun hz => ?_⟩
    · have hS := hR.step hz
      have sm := hR.small z (List.mem_of_getElem? hz)
      have e1 : numM ws t = if isNum z = true then .ok (numOf z, t + 1) else .error t := by unfold numM; rw [hz]
      rw [e1] at k
      have sb : SameBut r H (upd H r (rowO CR dx p lw (t + 1))) := sb_upd
      generalize upd H r (rowO CR dx p lw (t + 1)) = H1 at hS sb ⊢
      refine ⟨_, rfl, r, dx, _, rfl, hS.at_, rfl, ?_⟩
      refine ⟨_, rfl, z, rfl, sm, fun H2 s2 => ?_⟩
      have hS2 := hS.same s2
      have sb2 := sb.trans (sb_of s2)
      cases c : isNum z with
      | false =>
        rw [if_neg (by rw [c]; decide)] at k
        exact ⟨r, dx, lw, p, t, ws, false, rfl, hS2, fun z => (nomatch z), fun _ => ErrAt.of k sb2⟩
      | true =>
        rw [if_pos c] at k
        obtain ⟨n1, n2⟩ := num_int c
        refine ⟨r, dx, lw, p, t, ws, true, rfl, hS2, fun _ => ?_, fun z => (nomatch z)⟩
        exact ⟨_, rfl, z, ((numOf z : Nat) : Int), rfl, n1, by omega, k H2 sb2 hS2⟩
    · have e1 : numM ws t = .error t := by unfold numM; rw [hz]
      rw [e1] at k
      exact k
end
end Half

namespace Half
open PySem PySem.Spec PyProof.Rows L2
/-! ### take_scripts, take_needs, take_names -/
def scrF (ws : List Str) : Nat → Nat → Str → List Str → TR (List Str)
  | 0, t, _, acc => .ok (acc, t)
  | n + 1, t, b, acc => if t = ws.length then .ok (acc, t) else match ws[t]? with
    | none => .error t
    | some z => if (inV (.str z) (SCR.map V.str) && strLt b z) = true then scrF ws n (t + 1) z (acc ++ [z]) else .error t
def needF (ws : List Str) : Nat → Nat → Str → List (Str × Int) → TR (List (Str × Int))
  | 0, t, _, acc => .ok (acc, t)
  | n + 1, t, b, acc => if acc ≠ [] ∧ t = ws.length then .ok (acc, t) else match nameM ws t b with
    | .error k => .error k
    | .ok (z, t1) => match numM ws t1 with
      | .error k => .error k
      | .ok (v, t2) => needF ws n t2 z (acc ++ [(z, ((v : Nat) : Int))])
def namF (ws : List Str) : Nat → Nat → Str → List Str → TR (List Str)
  | 0, t, _, acc => .ok (acc, t)
  | n + 1, t, b, acc => if acc ≠ [] ∧ t = ws.length then .ok (acc, t) else match nameM ws t b with
    | .error k => .error k
    | .ok (z, t1) => namF ws n t1 z (acc ++ [z])
theorem name_adv {ws : List Str} {t t1 : Nat} {b z : Str} (h : nameM ws t b = .ok (z, t1)) : t1 = t + 1 := by
  unfold nameM at h
  split at h
  · cases h
  · split at h
    · cases h
      rfl
    · cases h
theorem num_adv {ws : List Str} {t t1 v : Nat} (h : numM ws t = .ok (v, t1)) : t1 = t + 1 := by
  unfold numM at h
  split at h
  · cases h
  · split at h
    · cases h
      rfl
    · cases h
section
variable (K : PySem.W.Frag) (CR CV : Addr)
def spTks : Sp := fun vs H Q E => ∃ (r dx lw : Addr) (p t : Nat) (ws : List Str), vs = [.ref r] ∧ RowIs CR H r dx lw p ws t ∧ RdAt CR CV H r dx lw p ws E (fun v H' => ∀ a, SqT K H' a (v.map V.str) → Q (.ref a) H') (scrF ws (ws.length + 1 - t) t "" [])
def spTkd : Sp := fun vs H Q E => ∃ (r dx lw : Addr) (p t : Nat) (ws : List Str), vs = [.ref r] ∧ RowIs CR H r dx lw p ws t ∧ RdAt CR CV H r dx lw p ws E (fun v H' => ∀ a, NeedsAt K H' a v → Q (.ref a) H') (needF ws (ws.length + 1 - t) t "" [])
def spTka : Sp := fun vs H Q E => ∃ (r dx lw : Addr) (p t : Nat) (ws : List Str), vs = [.ref r] ∧ RowIs CR H r dx lw p ws t ∧ RdAt CR CV H r dx lw p ws E (fun v H' => ∀ a, SqT K H' a (v.map V.str) → Q (.ref a) H') (namF ws (ws.length + 1 - t) t "" [])
end
theorem RdAt.of {α : Type} {CR CV : Addr} {H H' : Hp} {r dx lw : Addr} {p : Nat} {ws : List Str} {E : XK} {k : α → Hp → Prop} (sb : SameBut r H H') : ∀ {x : TR α}, RdAt CR CV H r dx lw p ws E k x → RdAt CR CV H' r dx lw p ws E k x
  | .error _, h => ErrAt.of h sb
  | .ok (_, _), h => fun H2 s2 => h H2 (sb.trans s2)
section
variable {P : Program} {w : World} {K : PySem.W.Frag} {mg : Str → Option Value} {base : Heap} {CR CV fE : Addr} {fdE : FuncData}
abbrev sTks : Stmt := top 48
theorem scTks : FnScope ["row", "scripts", "before", "script"] ["row"] (defScope sTks) := ⟨rfl, rfl, rfl, by decide +kernel, rfl, by decide +kernel, by decide +kernel⟩
theorem ok_tks {f : Addr} {fd : FuncData} (F : Fun K "take_scripts" "take_scripts" sTks f fd) (D : RowF P w K mg base CR CV fE fdE) (gS : ∃ a, mg "SCRIPTS" = some (.ref a) ∧ ∀ H, SqT K H a (SCR.map V.str)) : FnOk P w K mg base (L2.CX P w) 4 f fd ["row"] (spTks K CR CV) := by
  refine F.okX scTks (fun vs H Q E h => ?_) (fun cdv A outer s H vs Q E hr h => ?_)
  · obtain ⟨r, dx, lw, p, t, ws, rfl, _⟩ := h
    rfl
  · obtain ⟨r, dx, lw, p, t, ws, rfl, hR, k⟩ := h
    have nd := scTks.nd
    have T := D.T
    have r1 : Room 1 _ := hr.mono (by decide)
    have r3 : Room 3 _ := hr.mono (by decide)
    obtain ⟨aS, gS, hS⟩ := gS
    obtain ⟨fI, fdI, MI, FnI, bI⟩ := D.mI.ex
    obtain ⟨fT, fdT, MT, FT, bT⟩ := D.mT.ex
    obtain ⟨fA, fdA, MA, FA, bA⟩ := D.mA.ex
    refine ⟨_, pss_cons (ps_set (i := 1) nd rfl (Or.inl rfl) (pe_lst pa_nil))
      (pss_cons (ps_set (i := 2) nd rfl (Or.inl rfl) pe_str)
      (pss_cons (ps_while (passes_of rfl) (pt_not (pt_val (pe_meth0 (pv 0) T.cl MI (ok_ise FnI T) r1 bI .nil pass0)))
        (pss_cons (ps_set (i := 3) nd rfl (Or.inl rfl) (pe_meth0 (pv 0) T.cl MT (ok_tke FT T D.mI) r3 bT .nil (passes_call (takes_of rfl rfl rfl rfl) (fun _ _ _ _ h => h))))
        (pss_cons (ps_expr (pe_meth (pv 0) T.cl MA (ok_apr FA T) r3 bA .nil (passes_call (takes_of rfl rfl rfl rfl) (fun _ _ _ _ h => h)) (pa_cons (pe_and (pe_cmpR (op_in_seq : OpR _ _ (rIn K false)) (pv 3) (pe_glob (v := .ref aS) rfl gS rfl) (by rfl)) (pe_one (pe_cmpR op_gt_str (pv 3) (pv 2) (nomark _)))) pa_nil)))
        (pss_cons (ps_expr (pe_bm PySem.F.plainAttrs_list PySem.F.slot_list_append PySem.F.type_list_append mt_append (pv 1) (pa_cons (pv 3) pa_nil)))
        (pss_one (ps_set (i := 2) nd rfl (Or.inl rfl) (pv 3)))))))
      (pss_one (ps_ret (pe_callTy call_tuple_of (by rfl) D.tup (by decide +kernel) (pa_cons (pv 1) pa_nil)))))), ?_⟩
    have few := hR.fewW
    refine ⟨Nat.zero_le _, fun D1 n1 => ?_⟩
    have s0 := Same.upd_new (o := .lst []) n1
    have g0 : (upd H D1 (.lst [])) D1 = some (.lst (([] : List Str).map V.str)) := upd_same
    have hR0 := hR.same s0
    have nr : D1 ≠ r := fun e => by rw [e, hR.at_] at n1; cases n1
    have nlw : D1 ≠ lw := fun e => by rw [e, hR.words] at n1; cases n1
    generalize upd H D1 (.lst []) = H0 at s0 g0 hR0 ⊢
    refine ⟨fun m σ H' => ∃ (t' : Nat) (b : Str) (acc : List Str) (x3 : Option V) (n : Nat), m = ws.length - t' ∧ σ = [some (.ref r), some (.ref D1), some (.str b), x3] ∧ SameBut r H H' ∧ RowIs CR H' r dx lw p ws t' ∧ H' D1 = some (.lst (acc.map V.str)) ∧ acc.length ≤ t' ∧ ws.length + 1 - t' ≤ n ∧
      scrF ws (ws.length + 1 - t) t "" [] = scrF ws n t' b acc, ⟨_, t, "", [], none, _, rfl, rfl, sb_of s0, hR0, g0, Nat.zero_le _, Nat.le_refl _, rfl⟩, ?_⟩
    rintro m σ H1 ⟨t', b, acc, x3, n, rfl, rfl, sb1, hR1, g1, la, hn, em⟩
    refine ⟨_, rfl, r, dx, _, rfl, hR1.at_, rfl, r, dx, lw, p, t', ws, rfl, hR1, _, rfl, ?_⟩
    rw [em] at k
    have k1 := RdAt.of sb1 k
    have le := hR1.le
    obtain ⟨n, rfl⟩ : ∃ n', n = n' + 1 := ⟨n - 1, by omega⟩
    unfold scrF at k1
    by_cases c : t' = ws.length
    · rw [if_pos c] at k1
      rw [decide_eq_true c]
      refine iteF ?_
      refine ⟨_, rfl, D1, _, rfl, .inl ⟨SqL.of g1, fun a na => ?_⟩⟩
      have s2 := Same.upd_new (o := .tup (acc.map V.str)) na
      exact k1 _ (sb_of s2) (hR1.same s2) a (SqT.of upd_same)
    · rw [if_neg c] at k1
      rw [decide_eq_false c]
      refine iteT ?_
      obtain ⟨z, hz⟩ : ∃ z, ws[t']? = some z := ⟨ws[t'], List.getElem?_eq_getElem (by omega)⟩
      rw [hz] at k1
      dsimp only at k1
      have e0 : scrF ws (n + 1) t' b acc = if (inV (.str z) (SCR.map V.str) && strLt b z) = true then scrF ws n (t' + 1) z (acc ++ [z]) else .error t' := by
        rw [scrF, if_neg c, hz]
      rw [e0] at em
      have h1 := hR1.at_
      refine ⟨fun σ' H' => ∃ (z : Str) (x3 : Option V), σ' = [some (.ref r), some (.ref D1), some (.str z), x3] ∧ SameBut r H H' ∧ RowIs CR H' r dx lw p ws (t' + 1) ∧ H' D1 = some (.lst ((acc ++ [z]).map V.str)) ∧ scrF ws (ws.length + 1 - t) t "" [] = scrF ws n (t' + 1) z (acc ++ [z]),
        fun σ' H' ⟨z, x3, a1, a2, a3, a4, a5⟩ => ⟨_, by omega, t' + 1, z, _, x3, n, rfl, a1, a2, a3, a4, by rw [List.length_append]; show acc.length + 1 ≤ t' + 1; omega, by omega, a5⟩, ?_⟩
      refine ⟨_, rfl, r, dx, _, rfl, h1, rfl, r, dx, lw, p, t', ws, rfl, hR1, fun z' hz' => ?_, fun hz' => by rw [hz] at hz'; cases hz'⟩
      rw [hz] at hz'
      cases hz'
      have hS1 := hR1.step hz
      have sb : SameBut r H1 (upd H1 r (rowO CR dx p lw (t' + 1))) := sb_upd
      have g2 := sb _ _ nr g1
      generalize upd H1 r (rowO CR dx p lw (t' + 1)) = H2 at hS1 sb g2 ⊢
      refine ⟨_, rfl, r, dx, _, rfl, hS1.at_, rfl, ?_⟩
      refine ⟨_, rfl, aS, _, rfl, .inr (hS _), rfl, flat_strs SCR, ?_⟩
      have fin : ∀ c : Bool, c = (inV (.str z) (SCR.map V.str) && strLt b z) → (c = true → scrF ws (ws.length + 1 - t) t "" [] = scrF ws n (t' + 1) z (acc ++ [z])) ∧ (c = false → ErrAt CV H2 r E p t') := fun c hc => by
        cases c with
        | true =>
          rw [if_pos hc.symm] at em
          exact ⟨fun _ => em, fun z => nomatch z⟩
        | false =>
          rw [if_neg (by rw [← hc]; decide)] at k1
          exact ⟨fun z => (nomatch z), fun _ => ErrAt.of k1 sb⟩
      have go : ∀ cc : Bool, cc = true → (scrF ws (ws.length + 1 - t) t "" [] = scrF ws n (t' + 1) z (acc ++ [z])) → True := fun _ _ _ => trivial
      cases cw : inV (.str z) (SCR.map V.str) with
      | false =>
        obtain ⟨f1, f2⟩ := fin false (by rw [cw]; rfl)
        exact ⟨_, rfl, iteF ⟨r, dx, lw, p, t', ws, false, rfl, hS1, fun z => (nomatch z), fun _ => f2 rfl⟩⟩
      | true =>
        obtain ⟨f1, f2⟩ := fin (strLt b z) (by rw [cw]; rfl)
        refine ⟨_, rfl, iteT ⟨_, rfl, _, rfl, z, b, rfl, rfl, r, dx, lw, p, t', ws, strLt b z, rfl, hS1, fun c => ?_, f2⟩⟩
        refine ⟨_, rfl, .inl ⟨rfl, _, SqL.of g2⟩, _, rfl, D1, acc.map V.str, .str z, rfl, rfl, g2, by rw [List.length_map, sizeLine_eq]; omega, ?_⟩
        refine ⟨_, rfl, z, _, rfl, fun b' o nb q => ?_, ?_, ?_, f1 c⟩
        · by_cases cb : b' = D1
          · rw [cb, n1] at q
            cases q
          · rw [upd_ne cb]
            exact sb _ _ nb (sb1 _ _ nb q)
        · exact ⟨by rw [upd_ne (Ne.symm nr)]; exact hS1.at_, by rw [upd_ne (Ne.symm nlw)]; exact hS1.words, hS1.le, hS1.few, hS1.fewW, hS1.small⟩
        · rw [upd_same, List.map_append]
          rfl
end
end Half

namespace Half
open PySem PySem.Spec PyProof.Rows L2
/-! ### take_needs, take_names -/
structure DefX (P : Program) (w : World) (K : PySem.W.Frag) (mg : Str → Option Value) (base : Heap) (k : Nat) (x : Str) (ps : List Str) (sp : Sp) : Prop where
  ex : ∃ f fd, FnOk P w K mg base (L2.CX P w) k f fd ps sp ∧ mg x = some (.ref f) ∧ PySem.W.keepIn K (.ref f) = true ∧ Binds K fd ps []
theorem pe_defX {X : Cx} {k : Nat} {x : Str} {ps : List Str} {sp : Sp} {e : Expr} {es : List Expr} {t : TA} {p pos : Pos} {E : XK} (D : DefX X.prog X.w X.K X.mg X.base k x ps sp) (hr : Room k X.A) (hg : Gl X x) (hx : Passes (L2.CX X.prog X.w) X E) (ha : PA X (e :: es) t)
    (h1 : (x == ("__debug__" : Str)) = false := by decide) (h2 : starEach (e :: es) X.env = (false, eval e X.env) :: starEach es X.env := by rfl) (h3 : (backTo pos (starEach es X.env)).any (·.1) = false := by rfl) : PE X (.Call (.Name x p) (e :: es) [] pos) (tCall sp [] E t) :=
  let ⟨_, _, F, hm, hk, hb⟩ := D.ex; pe_call F hr hg hm hk hb .nil hx ha h1 h2 h3
theorem or2_read {ta tb : TT} {σ : L2.St} {H : Hp} {Q : Bool → Hp → Prop} {b c : Bool} (h1 : ∀ Q' : Bool → Hp → Prop, Q' b H → ta σ H Q') (h2 : ∀ Q' : Bool → Hp → Prop, Q' c H → tb σ H Q') (q : Q (b || c) H) : tOr ta tb σ H Q := by
  refine h1 _ ?_
  cases b with
  | true => exact iteT q
  | false => exact iteF (h2 _ q)
section
variable {P : Program} {w : World} {K : PySem.W.Frag} {mg : Str → Option Value} {base : Heap} {CR CV fE : Addr} {fdE : FuncData}
abbrev sTkd : Stmt := top 49
theorem PairsIn.snoc {H : Hp} {ts : List Addr} {ps : List (Str × Int)} (h : Paired (fun t (p : Str × Int) => SqT K H t [.str p.1, .int p.2]) ts ps) {t : Addr} {p : Str × Int} (a : SqT K H t [.str p.1, .int p.2]) : Paired (fun t (p : Str × Int) => SqT K H t [.str p.1, .int p.2]) (ts ++ [t]) (ps ++ [p]) := by
  induction h with
  | nil => exact .cons a .nil
  | cons x _ ih => exact .cons x ih
theorem needs_of {H : Hp} {a : Addr} {ts : List Addr} {ps : List (Str × Int)} (ha : SqT K H a (ts.map V.ref)) (h : Paired (fun t (p : Str × Int) => SqT K H t [.str p.1, .int p.2]) ts ps) : NeedsAt K H a ps := by
  refine ⟨ts, ha, h.length, ?_⟩
  clear ha
  induction h with
  | nil =>
    intro i t p e
    simp at e
  | cons x _ ih =>
    intro i t p e1 e2
    cases i with
    | zero =>
      cases e1
      cases e2
      exact x
    | succ i => exact ih i t p e1 e2
theorem sqt_sb {H H' : Hp} {r : Addr} {C dx : Addr} {fs : List (Str × V)} (hr : H r = some (.ins C dx fs)) (sb : SameBut r H H') {a : Addr} {xs : List V} (h : SqT K H a xs) : SqT K H' a xs := by
  rcases h with (h | ⟨q, h⟩) | h
  · exact .inl (.inl (sb _ _ (fun e => by rw [e, hr] at h; cases h) h))
  · exact .inl (.inr ⟨q, sb _ _ (fun e => by rw [e, hr] at h; cases h) h⟩)
  · exact .inr h
theorem scTkd : FnScope ["row", "needs", "before"] ["row"] (defScope sTkd) := ⟨rfl, rfl, rfl, by decide +kernel, rfl, by decide +kernel, by decide +kernel⟩
theorem ok_tkd {f : Addr} {fd : FuncData} (F : Fun K "take_needs" "take_needs" sTkd f fd) (D : RowF P w K mg base CR CV fE fdE) (dN : DefX P w K mg base 4 "take_name" ["row", "before"] (spTkn CR CV)) (dU : DefX P w K mg base 4 "take_number" ["row"] (spTku CR CV)) : FnOk P w K mg base (L2.CX P w) 5 f fd ["row"] (spTkd K CR CV) := by
  refine F.okX scTkd (fun vs H Q E h => ?_) (fun cdv A outer s H vs Q E hr h => ?_)
  · obtain ⟨r, dx, lw, p, t, ws, rfl, _⟩ := h
    rfl
  · obtain ⟨r, dx, lw, p, t, ws, rfl, hR, k⟩ := h
    have nd := scTkd.nd
    have T := D.T
    have r1 : Room 1 _ := hr.mono (by decide)
    have r4 : Room 4 _ := hr.mono (by decide)
    obtain ⟨fI, fdI, MI, FnI, bI⟩ := D.mI.ex
    refine ⟨_, pss_cons (ps_set (i := 1) nd rfl (Or.inl rfl) (pe_lst pa_nil))
      (pss_cons (ps_set (i := 2) nd rfl (Or.inl rfl) pe_str)
      (pss_cons (ps_while (passes_of rfl) (PW.pt (pw_or (pt_not (pt_truth (pv 1) (fun _ => rfl))) (pw_or1 (pt_not (pt_val (pe_meth0 (pv 0) T.cl MI (ok_ise FnI T) r1 bI .nil pass0))))))
        (pss_cons (ps_set (i := 2) nd rfl (Or.inl rfl) (pe_defX dN r4 rfl (passes_call (takes_of rfl rfl rfl rfl) (fun _ _ _ _ h => h)) (pa_cons (pv 0) (pa_cons (pv 2) pa_nil))))
        (pss_one (ps_expr (pe_bm PySem.F.plainAttrs_list PySem.F.slot_list_append PySem.F.type_list_append mt_append (pv 1) (pa_cons (pe_tup (pa_cons (pv 2) (pa_cons (pe_defX dU r4 rfl (passes_call (takes_of rfl rfl rfl rfl) (fun _ _ _ _ h => h)) (pa_cons (pv 0) pa_nil)) pa_nil))) pa_nil))))))
      (pss_one (ps_ret (pe_callTy call_tuple_of (by rfl) D.tup (by decide +kernel) (pa_cons (pv 1) pa_nil)))))), ?_⟩
    have few := hR.fewW
    refine ⟨Nat.zero_le _, fun D1 n1 => ?_⟩
    have s0 := Same.upd_new (o := .lst []) n1
    have g0 : (upd H D1 (.lst [])) D1 = some (.lst (([] : List Addr).map V.ref)) := upd_same
    have hR0 := hR.same s0
    have nr : D1 ≠ r := fun e => by rw [e, hR.at_] at n1; cases n1
    have nlw : D1 ≠ lw := fun e => by rw [e, hR.words] at n1; cases n1
    generalize upd H D1 (.lst []) = H0 at s0 g0 hR0 ⊢
    refine ⟨fun m σ H' => ∃ (t' : Nat) (b : Str) (ts : List Addr) (acc : List (Str × Int)) (n : Nat), m = ws.length - t' ∧ σ = [some (.ref r), some (.ref D1), some (.str b)] ∧ SameBut r H H' ∧ RowIs CR H' r dx lw p ws t' ∧ H' D1 = some (.lst (ts.map V.ref)) ∧ Paired (fun t (p : Str × Int) => SqT K H' t [.str p.1, .int p.2]) ts acc ∧ acc.length ≤ t' ∧ ws.length + 1 - t' ≤ n ∧
      needF ws (ws.length + 1 - t) t "" [] = needF ws n t' b acc, ⟨_, t, "", [], [], _, rfl, rfl, sb_of s0, hR0, g0, .nil, Nat.zero_le _, Nat.le_refl _, rfl⟩, ?_⟩
    rintro m σ H1 ⟨t', b, ts, acc, n, rfl, rfl, sb1, hR1, g1, pT, la, hn, em⟩
    rw [em] at k
    have k1 := RdAt.of sb1 k
    have le := hR1.le
    have lts := pT.length
    obtain ⟨n, rfl⟩ : ∃ n', n = n' + 1 := ⟨n - 1, by omega⟩
    have h1 := hR1.at_
    have eE : (!(ts.map V.ref).isEmpty) = decide (acc ≠ []) := by
      cases pT with
      | nil => rfl
      | cons _ _ => rfl
    refine or2_read (b := !(!(ts.map V.ref).isEmpty)) (c := !decide (t' = ws.length)) (fun Q' q => ⟨_, rfl, _, .inl ⟨_, SqL.of g1, rfl⟩, q⟩) (fun Q' q => ⟨_, rfl, r, dx, _, rfl, h1, rfl, r, dx, lw, p, t', ws, rfl, hR1, _, rfl, q⟩) ?_
    rw [eE]
    unfold needF at k1
    by_cases c : acc ≠ [] ∧ t' = ws.length
    · rw [if_pos c] at k1
      rw [decide_eq_true c.1, decide_eq_true c.2]
      refine iteF ?_
      refine ⟨_, rfl, D1, _, rfl, .inl ⟨SqL.of g1, fun a na => ?_⟩⟩
      have s2 := Same.upd_new (o := .tup (ts.map V.ref)) na
      exact k1 _ (sb_of s2) (hR1.same s2) a (needs_of (SqT.of upd_same) (Paired.mapP pT fun _ _ q => s2.sqT q))
    · rw [if_neg c] at k1
      have ec : (!decide (acc ≠ []) || !decide (t' = ws.length)) = true := by
        by_cases c1 : acc ≠ []
        · rw [decide_eq_false (fun q => c ⟨c1, q⟩)]
          simp
        · rw [decide_eq_false c1]
          rfl
      rw [ec]
      refine iteT ?_
      have e0 : needF ws (n + 1) t' b acc = match nameM ws t' b with
        | .error k => .error k
        | .ok (z, t1) => match numM ws t1 with
          | .error k => .error k
          | .ok (v, t2) => needF ws n t2 z (acc ++ [(z, ((v : Nat) : Int))]) := by
        rw [needF, if_neg c]
        first | done | rfl
      rw [e0] at em
      refine ⟨fun σ' H' => ∃ (z : Str) (v t1 : Nat) (ts : List Addr), σ' = [some (.ref r), some (.ref D1), some (.str z)] ∧ t1 = t' + 2 ∧ SameBut r H H' ∧ RowIs CR H' r dx lw p ws t1 ∧ H' D1 = some (.lst (ts.map V.ref)) ∧ Paired (fun t (p : Str × Int) => SqT K H' t [.str p.1, .int p.2]) ts (acc ++ [(z, ((v : Nat) : Int))]) ∧ needF ws (ws.length + 1 - t) t "" [] = needF ws n t1 z (acc ++ [(z, ((v : Nat) : Int))]),
        fun σ' H' ⟨z, v, t1, ts, a1, a2, a3, a4, a5, a6, a7⟩ => ⟨_, by have := a4.le; omega, t1, z, ts, _, n, rfl, a1, a3, a4, a5, a6, by rw [List.length_append]; show acc.length + 1 ≤ t1; omega, by omega, a7⟩, ?_⟩
      refine ⟨_, rfl, _, rfl, r, dx, lw, p, t', ws, b, rfl, hR1, ?_⟩
      cases c1 : nameM ws t' b with
      | error j =>
        rw [c1] at k1
        exact k1
      | ok q1 =>
        obtain ⟨z, t1⟩ := q1
        rw [c1] at k1 em
        dsimp only at k1 em
        have a1 := name_adv c1
        intro H2 sb2 hR2
        refine ⟨_, rfl, .inl ⟨rfl, _, SqL.of (sb2 _ _ nr g1)⟩, _, rfl, _, rfl, r, dx, lw, p, t1, ws, rfl, hR2, ?_⟩
        cases c2 : numM ws t1 with
        | error j =>
          rw [c2] at k1
          exact ErrAt.of k1 sb2
        | ok q2 =>
          obtain ⟨v, t2⟩ := q2
          rw [c2] at k1 em
          dsimp only at k1 em
          have a2 := num_adv c2
          intro H3 sb3 hR3
          have sb13 : SameBut r H1 H3 := sb2.trans sb3
          have g3 := sb13 _ _ nr g1
          refine ⟨two_le, fun tp ntp => ?_⟩
          have s4 := Same.upd_new (o := .tup [.str z, .int (v : Nat)]) ntp
          have gt : SqT K (upd H3 tp (.tup [.str z, .int (v : Nat)])) tp [.str z, .int (v : Nat)] := SqT.of upd_same
          have g4 := s4 _ _ g3
          have hR4 := hR3.same s4
          generalize upd H3 tp (.tup [.str z, .int (v : Nat)]) = H4 at s4 gt g4 hR4 ⊢
          refine ⟨D1, ts.map V.ref, .ref tp, rfl, rfl, g4, by rw [List.length_map, sizeLine_eq]; omega, ?_⟩
          have kpD : ∀ a xs, SqT K H4 a xs → SqT K (upd H4 D1 (.lst (ts.map V.ref ++ [.ref tp]))) a xs := fun a xs h => (Kp.upd g4 (fun _ z => by cases z) (fun _ _ z => by cases z)) _ _ h
          refine ⟨z, v, t2, ts ++ [tp], rfl, by omega, fun b' o nb q => ?_, ?_, ?_, ?_, em⟩
          · by_cases cb : b' = D1
            · rw [cb, n1] at q
              cases q
            · rw [upd_ne cb]
              exact s4 _ _ (sb13 _ _ nb (sb1 _ _ nb q))
          · exact ⟨by rw [upd_ne (Ne.symm nr)]; exact hR4.at_, by rw [upd_ne (Ne.symm nlw)]; exact hR4.words, hR4.le, hR4.few, hR4.fewW, hR4.small⟩
          · rw [upd_same, List.map_append]
            rfl
          · refine PairsIn.snoc (Paired.mapP pT fun _ _ q => kpD _ _ (s4.sqT (sqt_sb h1 sb13 q))) (kpD _ _ gt)
abbrev sTka : Stmt := top 50
theorem scTka : FnScope ["row", "names"] ["row"] (defScope sTka) := ⟨rfl, rfl, rfl, by decide +kernel, rfl, by decide +kernel, by decide +kernel⟩
theorem ok_tka {f : Addr} {fd : FuncData} (F : Fun K "take_names" "take_names" sTka f fd) (D : RowF P w K mg base CR CV fE fdE) (dN : DefX P w K mg base 4 "take_name" ["row", "before"] (spTkn CR CV)) : FnOk P w K mg base (L2.CX P w) 5 f fd ["row"] (spTka K CR CV) := by
  refine F.okX scTka (fun vs H Q E h => ?_) (fun cdv A outer s H vs Q E hr h => ?_)
  · obtain ⟨r, dx, lw, p, t, ws, rfl, _⟩ := h
    rfl
  · obtain ⟨r, dx, lw, p, t, ws, rfl, hR, k⟩ := h
    have nd := scTka.nd
    have T := D.T
    have r1 : Room 1 _ := hr.mono (by decide)
    have r4 : Room 4 _ := hr.mono (by decide)
    obtain ⟨fI, fdI, MI, FnI, bI⟩ := D.mI.ex
    refine ⟨_, pss_cons (ps_set (i := 1) nd rfl (Or.inl rfl) (pe_lst (pa_cons (pe_defX dN r4 rfl (passes_call (takes_of rfl rfl rfl rfl) (fun _ _ _ _ h => h)) (pa_cons (pv 0) (pa_cons pe_str pa_nil))) pa_nil)))
      (pss_cons (ps_while (passes_of rfl) (pt_not (pt_val (pe_meth0 (pv 0) T.cl MI (ok_ise FnI T) r1 bI .nil pass0)))
        (pss_one (ps_expr (pe_bm PySem.F.plainAttrs_list PySem.F.slot_list_append PySem.F.type_list_append mt_append (pv 1) (pa_cons (pe_defX dN r4 rfl (passes_call (takes_of rfl rfl rfl rfl) (fun _ _ _ _ h => h)) (pa_cons (pv 0) (pa_cons (pe_ix (ix_list : IxR _ (rIxL K)) (pv 1) (pe_un un_neg pe_int) (fun _ _ => rfl)) pa_nil))) pa_nil)))))
      (pss_one (ps_ret (pe_callTy call_tuple_of (by rfl) D.tup (by decide +kernel) (pa_cons (pv 1) pa_nil))))), ?_⟩
    have few := hR.fewW
    have lt0 := hR.le
    have h0 := hR.at_
    refine ⟨_, rfl, r, dx, lw, p, t, ws, "", rfl, hR, ?_⟩
    have e1 : namF ws (ws.length + 1 - t) t "" [] = match nameM ws t "" with
        | .error k => .error k
        | .ok (z, t1) => namF ws (ws.length - t) t1 z ([] ++ [z]) := by
      rw [show ws.length + 1 - t = (ws.length - t) + 1 by omega, namF, if_neg (fun q => q.1 rfl)]
      first | done | rfl
    cases c0 : nameM ws t "" with
    | error j =>
      rw [e1, c0] at k
      exact k
    | ok q0 =>
      obtain ⟨z0, t0⟩ := q0
      rw [c0] at e1
      dsimp only at e1
      have a0 := name_adv c0
      intro H0' sb0 hR0'
      refine ⟨(by show 1 ≤ sizeLine; decide), fun D1 n1' => ?_⟩
      have nr : D1 ≠ r := fun e => by rw [e, hR0'.at_] at n1'; cases n1'
      have n1 : H D1 = none := by
        cases c : H D1 with
        | none => rfl
        | some o => rw [sb0 _ _ nr c] at n1'; cases n1'
      have s0 := Same.upd_new (o := .lst [.str z0]) n1'
      have g0 : (upd H0' D1 (.lst [.str z0])) D1 = some (.lst (([] ++ [z0] : List Str).map V.str)) := upd_same
      have hR0 := hR0'.same s0
      have sb00 : SameBut r H (upd H0' D1 (.lst [.str z0])) := sb0.trans (sb_of s0)
      have nlw : D1 ≠ lw := fun e => by rw [e, hR0'.words] at n1'; cases n1'
      generalize upd H0' D1 (.lst [.str z0]) = H0 at s0 g0 hR0 sb00 ⊢
      refine ⟨fun m σ H' => ∃ (t' : Nat) (z : Str) (acc : List Str) (n : Nat), m = ws.length - t' ∧ σ = [some (.ref r), some (.ref D1)] ∧ SameBut r H H' ∧ RowIs CR H' r dx lw p ws t' ∧ H' D1 = some (.lst ((acc ++ [z]).map V.str)) ∧ acc.length + 1 ≤ t' ∧ ws.length + 1 - t' ≤ n ∧
        namF ws (ws.length + 1 - t) t "" [] = namF ws n t' z (acc ++ [z]), ⟨_, t0, z0, [], _, rfl, rfl, sb00, hR0, g0, by show 0 + 1 ≤ t0; omega, by omega, e1⟩, ?_⟩
      rintro m σ H1 ⟨t', z, acc, n, rfl, rfl, sb1, hR1, g1, la, hn, em⟩
      rw [em] at k
      have k1 := RdAt.of sb1 k
      have le := hR1.le
      obtain ⟨n, rfl⟩ : ∃ n', n = n' + 1 := ⟨n - 1, by omega⟩
      have h1 := hR1.at_
      have ne : acc ++ [z] ≠ [] := by simp
      refine ⟨_, rfl, r, dx, _, rfl, h1, rfl, r, dx, lw, p, t', ws, rfl, hR1, _, rfl, ?_⟩
      unfold namF at k1
      by_cases c : t' = ws.length
      · rw [if_pos ⟨ne, c⟩] at k1
        rw [decide_eq_true c]
        refine iteF ?_
        refine ⟨_, rfl, D1, _, rfl, .inl ⟨SqL.of g1, fun a na => ?_⟩⟩
        have s2 := Same.upd_new (o := .tup ((acc ++ [z]).map V.str)) na
        exact k1 _ (sb_of s2) (hR1.same s2) a (SqT.of upd_same)
      · rw [if_neg (fun q => c q.2)] at k1
        rw [decide_eq_false c]
        refine iteT ?_
        have e0 : namF ws (n + 1) t' z (acc ++ [z]) = match nameM ws t' z with
          | .error k => .error k
          | .ok (z2, t1) => namF ws n t1 z2 ((acc ++ [z]) ++ [z2]) := by
          rw [namF, if_neg (fun q => c q.2)]
          first | done | rfl
        rw [e0] at em
        refine ⟨fun σ' H' => ∃ (z2 : Str) (t1 : Nat), σ' = [some (.ref r), some (.ref D1)] ∧ t1 = t' + 1 ∧ SameBut r H H' ∧ RowIs CR H' r dx lw p ws t1 ∧ H' D1 = some (.lst (((acc ++ [z]) ++ [z2]).map V.str)) ∧ namF ws (ws.length + 1 - t) t "" [] = namF ws n t1 z2 ((acc ++ [z]) ++ [z2]),
          fun σ' H' ⟨z2, t1, a1, a2, a3, a4, a5, a6⟩ => ⟨_, by have := a4.le; omega, t1, z2, acc ++ [z], n, rfl, a1, a3, a4, a5, by rw [List.length_append]; show acc.length + 1 + 1 ≤ t1; omega, by omega, a6⟩, ?_⟩
        have atl : atI ((acc ++ [z]).map V.str) (-1) = some (.str z) := by
          rw [List.map_append]
          exact atI_last _ _
        refine ⟨_, rfl, .inl ⟨rfl, _, SqL.of g1⟩, _, rfl, _, rfl, 1, rfl, D1, _, -1, _, rfl, rfl, SqL.of g1, atl, r, dx, lw, p, t', ws, z, rfl, hR1, ?_⟩
        cases c1 : nameM ws t' z with
        | error j =>
          rw [c1] at k1
          exact k1
        | ok q1 =>
          obtain ⟨z2, t1⟩ := q1
          rw [c1] at k1 em
          dsimp only at k1 em
          have a1 := name_adv c1
          intro H2 sb2 hR2
          have g2 := sb2 _ _ nr g1
          refine ⟨D1, (acc ++ [z]).map V.str, .str z2, rfl, rfl, g2, by rw [List.length_map, List.length_append, sizeLine_eq]; show acc.length + 1 < _; omega, ?_⟩
          refine ⟨z2, t1, rfl, a1, fun b' o nb q => ?_, ?_, ?_, em⟩
          · by_cases cb : b' = D1
            · rw [cb, n1] at q
              cases q
            · rw [upd_ne cb]
              exact sb2 _ _ nb (sb1 _ _ nb q)
          · exact ⟨by rw [upd_ne (Ne.symm nr)]; exact hR2.at_, by rw [upd_ne (Ne.symm nlw)]; exact hR2.words, hR2.le, hR2.few, hR2.fewW, hR2.small⟩
          · rw [upd_same]
            simp
end
end Half

/-! the least of two things, of a list of things: data that are alike; dicts with tuple keys, walked by their pairs -/
namespace L2
open PySem PySem.Spec PyProof.Rows
section
variable {prog : Program} {w : World} {A : Around} {E : Value → Shared → Prop} {s : Shared}
/-- min(a, b): b where it is the less -/
theorem min2_data {a b : Value} {x y : PyData} {as bs : List Addr} {Q : Value → Shared → Prop} (calm : A.handled = none) (ra : Reads s.heap a x as) (rb : Reads s.heap b y bs) (al : PySem.W.AlikeAll [x, y]) (room : A.units + 1 + PyData.depthAll [x, y] < cLine)
    (q : ∀ h' tk, (∀ c o, s.heap.get? c = some o → h'.get? c = some o) → Q (if PySem.W.dataLt y x = true then b else a) { s with heap := h', toks := tk }) : wpAny (model prog w) A (call (.builtin "min") [a, b]) Q E s := by
  have nm : (toString "min" ++ toString ".loop" : String) = "min.loop" := by decide
  refine call_function_tree F.kind_min F.plain_min F.entry_min (F.args_min2 _ _) ?_
  show wpAny _ A.in1 (Builtin.Builtins.bindParams "min" ["key", "default"] 0 ⟨[], []⟩ >>= _) _ _ s
  refine wpAny_bind (wpAny_of_eq (show Builtin.Builtins.bindParams "min" ["key", "default"] 0 ⟨[], []⟩ = pure [none, none] from rfl) ?_)
  show wpAny _ A.in1 (newTuple [a, b] >>= _) _ _ s
  refine wpAny_bind (wpAny_newObj_type ?_)
  have up1 : ∀ c o, s.heap.get? c = some o → (s.heap.push { cls := .type "tuple", data := .seq #[a, b] }).get? c = some o := fun c o e => Heap.get?_push_of_some _ e
  have tup : (s.heap.push { cls := .type "tuple", data := .seq #[a, b] }).IsTuple s.heap.objs.size #[a, b] := ⟨_, Heap.get?_push_size _ rfl, rfl, 0, rfl⟩
  have rd : ReadsAll s.heap (#[a, b] : Array Value).toList [x, y] (as ++ (bs ++ [])) := .cons ra (.cons rb .nil)
  refine wpAny_bind (PySem.W.iter_tupleW (A := A.in1) (s := { s with heap := s.heap.push { cls := .type "tuple", data := .seq #[a, b] } }) calm tup fun s2 e W st hfp hw hk => ?_)
  refine wpAny_bind (wpAny_newObj_type ?_)
  have off : s2.heap.objs.size ∉ [(s.heap.push { cls := .type "tuple", data := .seq #[a, b] }).objs.size, s.heap.objs.size] := fun m => Nat.lt_irrefl _ (hfp _ m)
  rw [nm]
  refine wpAny_pure ⟨plainId_quiet F.plain_min_loop _, codeAny_min_loop_firstH W s.heap (fun c o z => hw c o (up1 c o z)) _ (PySem.W.cmpIn_lt (A := A.in1) rd al room) s2.heap.objs.size off (fresh_in fun c o z => hk c o (up1 c o z)) _ (Nat.succ_pos _) (fun c o z => Heap.get?_push_of_some _ (hk c o (up1 c o z)))
    (W.frame 0 s2 _ s2.toks st (Nat.le_refl _) fun c _ o z => Heap.get?_push_of_some _ z) (Heap.get?_push_size _ rfl) fun v s' hP mv => ?_⟩
  obtain ⟨h', tk, rfl, hk'⟩ := PySem.W.moved_old e rfl (Moved.drop_new (tk := s2.toks) mv (Nat.le_refl _))
  have fin := q h' tk fun c o z => hk' c o (up1 c o z)
  have hv : v = if PySem.W.dataLt y x = true then b else a := by
    have hP : (#[a, b] : Array Value)[argBest (fun i j => PySem.W.dataLt (([x, y] : List PyData).getD i .none) (([x, y] : List PyData).getD j .none)) 1]? = some v := hP
    cases c : PySem.W.dataLt y x with
    | true =>
      have e1 : argBest (fun i j => PySem.W.dataLt (([x, y] : List PyData).getD i .none) (([x, y] : List PyData).getD j .none)) 1 = 1 := by simp [argBest, c]
      rw [e1] at hP
      simpa using hP.symm
    | false =>
      have e1 : argBest (fun i j => PySem.W.dataLt (([x, y] : List PyData).getD i .none) (([x, y] : List PyData).getD j .none)) 1 = 0 := by simp [argBest, c]
      rw [e1] at hP
      simpa using hP.symm
  rw [hv]
  exact fin
end
section
variable {X : Cx}
/-- min(x, y) of data -/
def rMin2 (K : PySem.W.Frag) : List V → Hp → VK → Prop := fun vs H Q => ∃ (x y : V) (dx dy : PyData), vs = [x, y] ∧ Dp K H x dx ∧ Dp K H y dy ∧ PySem.W.AlikeAll [dx, dy] ∧ PyData.depthAll [dx, dy] ≤ 20 ∧ Q (if PySem.W.dataLt dy dx = true then y else x) H
theorem cr_min2 (hc : X.calm = true) (hu : X.A.units + 40 < cLine) : CallR X (.builtin "min") (rMin2 X.K) := by
  rintro pins s σ H vs us Q I r ⟨x, y, dx, dy, rfl, h1, h2, al, dp, q⟩
  cases r with
  | @cons _ u _ us r1 r2 =>
    cases r2 with
    | @cons _ u' _ _ r2 r3 =>
      cases r3
      obtain ⟨as, ra⟩ := Dp.readsAll I _ _ [u, u'] (.cons h1 (.cons h2 .nil)) (.cons r1 (.cons r2 .nil))
      cases ra with
      | cons ra rb =>
        cases rb with
        | cons rb _ =>
          refine min2_data (I.ok.hd hc) ra rb al (by omega) fun h' tk kp => ?_
          cases c : PySem.W.dataLt dy dx with
          | true =>
            rw [c] at q
            exact ⟨y, H, I.kept kp, r2, q⟩
          | false =>
            rw [c] at q
            exact ⟨x, H, I.kept kp, r1, q⟩
theorem minD_mem (d : PyData) (ds : List PyData) : PySem.W.minD d ds ∈ d :: ds := by
  unfold PySem.W.minD
  induction ds generalizing d with
  | nil => exact List.mem_singleton.mpr rfl
  | cons y ys ih =>
    rw [List.foldl_cons]
    have h := ih (if PySem.W.dataLt y d = true then y else d)
    rcases List.mem_cons.mp h with e | e
    · rw [e]
      split
      · exact .tail _ (.head _)
      · exact .head _
    · exact .tail _ (.tail _ e)
theorem vals_back_at : ∀ {xs : List V} {us : List Value} {i : Nat} {u : Value}, Vals xs us → us[i]? = some u → ∃ x, xs[i]? = some x ∧ RelV x u
  | _, _, _, _, .nil, h => by simp at h
  | x :: _, _, 0, _, .cons r _, h => by
    cases h
    exact ⟨x, rfl, r⟩
  | _ :: _, _, i + 1, _, .cons _ t, h => vals_back_at (i := i) t h
/-- min(xs), xs a list of data -/
def rMinD (K : PySem.W.Frag) : List V → Hp → VK → Prop := fun vs H Q => ∃ (a : Addr) (xs : List V) (d : PyData) (ds : List PyData), vs = [.ref a] ∧ SqL K H a xs ∧ DpAll K H xs (d :: ds) ∧ PySem.W.AlikeAll (d :: ds) ∧ PyData.depthAll (d :: ds) ≤ 20 ∧
  ∀ (i : Nat) (x : V), xs[i]? = some x → (d :: ds)[i]? = some (PySem.W.minD d ds) → Q x H
theorem cr_minD (hc : X.calm = true) (hu : X.A.units + 40 < cLine) : CallR X (.builtin "min") (rMinD X.K) := by
  rintro pins s σ H vs us Q I r ⟨a, xs, d, ds, rfl, hs, hd, al, dp, q⟩
  obtain ⟨its, rv, hl, -⟩ := I.list hs
  rw [Vals.ref1 r]
  obtain ⟨as, ra⟩ := Dp.readsAll I _ _ its hd rv
  refine PySem.W.min_list_data (I.ok.hd hc) hl.isList (by rw [List.toList_toArray]; exact ra) al (by omega) fun i v h' tk bs hv rd kp => ?_
  rw [List.getElem?_toArray] at hv
  obtain ⟨bs', r1, lt, mem, _⟩ := PySem.W.readsAll_at ra i v hv
  have e : (d :: ds).getD i .none = PySem.W.minD d ds := by
    exact PySem.W.alike_unique _ _ v bs' bs (al.1 _ mem _ (minD_mem d ds)) (PyProof.Rows.Reads.keeps kp r1) rd
  obtain ⟨x, hx, rx⟩ := vals_back_at rv hv
  refine ⟨x, H, I.kept kp, rx, q i x hx ?_⟩
  rw [← e, List.getD_eq_getElem?_getD, List.getElem?_eq_getElem lt]
  rfl
end
end L2

/-! x < y of data; a list comprehension of two clauses, by invariants -/
namespace L2
open PySem PySem.Spec PyProof.Rows
section
variable {X : Cx}
def rLtD (K : PySem.W.Frag) : R2 := fun x y H Q => ∃ d e, Dp K H x d ∧ Dp K H y e ∧ PySem.W.alike d e = true ∧ d ≠ .none ∧ d.depth ≤ 20 ∧ Q (.bl (PySem.W.dataLt d e)) H
theorem op_ltD (hu : X.A.units + 40 < cLine) : OpR X (compareOp .Lt) (rLtD X.K) := by
  intro pins s σ H x y v u Q I rx ry h
  obtain ⟨d, e, hd, he, al, nn, dp, q⟩ := h
  obtain ⟨as, r1⟩ := Dp.reads I d x v hd rx
  obtain ⟨bs, r2⟩ := Dp.reads I e y u he ry
  show wpAny (model X.prog X.w) X.A (richCompare .Lt v u) (EP X pins σ Q) X.xe s
  refine PySem.W.rcLt_alike d e X.A s v u _ _ r1 r2 al nn ?_ X.prog X.w _ _ ⟨.bl _, H, I, rfl, q⟩
  have := Nat.min_le_left d.depth e.depth
  omega
end
/-- the inner clause's turns -/
theorem lc2_in {J1 : It} {n1 : Nat} {G1 : Hp → Prop} {Y1 : Nat → Hp → V → Hp → Prop} (w1 : Walk J1 n1 G1 Y1) {g1 : TG} {tt1 : TT} {te : TE} {vs1 : List Nat} {σ2 : St} {H4 : Hp} {D : Addr} {Nx : Hp → Prop} (Pv : Nat → Hp → Prop) (h0 : Pv 0 H4) (hG : ∀ i H, i ≤ n1 → Pv i H → G1 H)
    (hs : ∀ i x H H', i < n1 → Pv i H → Y1 i H x H' → g1 x (wipe σ2 vs1) H' fun σ3 H5 => wipe σ3 vs1 = wipe σ2 vs1 ∧ tt1 σ3 H5 fun b H6 =>
      if b = true then te σ3 H6 fun y H7 => ∃ acc, H7 D = some (.lst acc) ∧ acc.length < sizeLine ∧ Pv (i + 1) (upd H7 D (.lst (acc ++ [y]))) else Pv (i + 1) H6) (hd : ∀ H, Pv n1 H → Nx H) :
    ∃ W1 : Nat → Nat → Hp → Prop, (∃ m, W1 0 m H4) ∧ ∀ j k H, W1 j k H →
      (J1.stop j H ∧ Nx H) ∨ (J1.go j H ∧ ∃ Nx1 : Hp → Prop, (∀ H', Nx1 H' → ∃ k', k' < k ∧ W1 (j + 1) k' H') ∧ ∀ x H', J1.yld j H x H' → g1 x (wipe σ2 vs1) H' fun σ3 H5 => wipe σ3 vs1 = wipe σ2 vs1 ∧ tt1 σ3 H5 fun b H6 =>
        if b = true then te σ3 H6 fun y H7 => ∃ acc, H7 D = some (.lst acc) ∧ acc.length < sizeLine ∧ Nx1 (upd H7 D (.lst (acc ++ [y]))) else Nx1 H6) := by
  refine ⟨fun j k H => k = n1 - j ∧ j ≤ n1 ∧ Pv j H, ⟨n1, by omega, Nat.zero_le _, h0⟩, fun j k H hW => ?_⟩
  obtain ⟨rfl, le, p⟩ := hW
  rcases Nat.lt_or_ge j n1 with lt | ge
  · exact .inr ⟨w1.goes j H lt (hG j H le p), Pv (j + 1), fun H' p' => ⟨n1 - (j + 1), by omega, rfl, lt, p'⟩, fun x H' y => hs j x H H' lt p (w1.yields j H x H' lt (hG j H le p) y)⟩
  · obtain rfl : j = n1 := Nat.le_antisymm le ge
    exact .inl ⟨w1.stops H (hG j H le p), hd H p⟩
/-- the outer clause's turns -/
theorem lc2_it {J : It} {n : Nat} {G : Hp → Prop} {Y : Nat → Hp → V → Hp → Prop} (w : Walk J n G Y) {g g1 : TG} {tt tt1 : TT} {wi1 : TI} {te : TE} {vs vs1 : List Nat} {σ : St} {H1 : Hp} {D : Addr} {Qd : Hp → Prop} (Pv : Nat → Hp → Prop) (h0 : Pv 0 (upd H1 D (.lst []))) (hG : ∀ i H, i ≤ n → Pv i H → G H)
    (hs : ∀ i x H H', i < n → Pv i H → Y i H x H' → g x (wipe σ vs) H' fun σ2 H2 => wipe σ2 vs = wipe σ vs ∧ tt σ2 H2 fun b H3 =>
      if b = true then wi1 σ2 H3 fun J1 H4 => ∃ W1 : Nat → Nat → Hp → Prop, (∃ m, W1 0 m H4) ∧ ∀ j k H, W1 j k H →
        (J1.stop j H ∧ Pv (i + 1) H) ∨ (J1.go j H ∧ ∃ Nx1 : Hp → Prop, (∀ H', Nx1 H' → ∃ k', k' < k ∧ W1 (j + 1) k' H') ∧ ∀ x H', J1.yld j H x H' → g1 x (wipe σ2 vs1) H' fun σ3 H5 => wipe σ3 vs1 = wipe σ2 vs1 ∧ tt1 σ3 H5 fun b H6 =>
          if b = true then te σ3 H6 fun y H7 => ∃ acc, H7 D = some (.lst acc) ∧ acc.length < sizeLine ∧ Nx1 (upd H7 D (.lst (acc ++ [y]))) else Nx1 H6)
      else Pv (i + 1) H3) (hd : ∀ H, Pv n H → Qd H) :
    ∃ W : Nat → Nat → Hp → Prop, (∃ m, W 0 m (upd H1 D (.lst []))) ∧ ∀ i m H, W i m H →
      (J.stop i H ∧ Qd H) ∨ (J.go i H ∧ ∃ Nx : Hp → Prop, (∀ H', Nx H' → ∃ m', m' < m ∧ W (i + 1) m' H') ∧ ∀ x H', J.yld i H x H' → g x (wipe σ vs) H' fun σ2 H2 => wipe σ2 vs = wipe σ vs ∧ tt σ2 H2 fun b H3 =>
        if b = true then wi1 σ2 H3 fun J1 H4 => ∃ W1 : Nat → Nat → Hp → Prop, (∃ m, W1 0 m H4) ∧ ∀ j k H, W1 j k H →
          (J1.stop j H ∧ Nx H) ∨ (J1.go j H ∧ ∃ Nx1 : Hp → Prop, (∀ H', Nx1 H' → ∃ k', k' < k ∧ W1 (j + 1) k' H') ∧ ∀ x H', J1.yld j H x H' → g1 x (wipe σ2 vs1) H' fun σ3 H5 => wipe σ3 vs1 = wipe σ2 vs1 ∧ tt1 σ3 H5 fun b H6 =>
            if b = true then te σ3 H6 fun y H7 => ∃ acc, H7 D = some (.lst acc) ∧ acc.length < sizeLine ∧ Nx1 (upd H7 D (.lst (acc ++ [y]))) else Nx1 H6)
        else Nx H3) := by
  refine ⟨fun i m H => m = n - i ∧ i ≤ n ∧ Pv i H, ⟨n, by omega, Nat.zero_le _, h0⟩, fun i m H hW => ?_⟩
  obtain ⟨rfl, le, p⟩ := hW
  rcases Nat.lt_or_ge i n with lt | ge
  · exact .inr ⟨w.goes i H lt (hG i H le p), Pv (i + 1), fun H' p' => ⟨n - (i + 1), by omega, rfl, lt, p'⟩, fun x H' y => hs i x H H' lt p (w.yields i H x H' lt (hG i H le p) y)⟩
  · obtain rfl : i = n := Nat.le_antisymm le ge
    exact .inl ⟨w.stops H (hG i H le p), hd H p⟩
end L2

/-! x > y of data -/
namespace L2
open PySem PySem.Spec PyProof.Rows
section
variable {X : Cx}
def rGtD (K : PySem.W.Frag) : R2 := fun x y H Q => ∃ d e, Dp K H x d ∧ Dp K H y e ∧ PySem.W.alike d e = true ∧ d ≠ .none ∧ d.depth ≤ 20 ∧ Q (.bl (PySem.W.dataLt e d)) H
theorem op_gtD (hu : X.A.units + 40 < cLine) : OpR X (compareOp .Gt) (rGtD X.K) := by
  intro pins s σ H x y v u Q I rx ry given
  obtain ⟨d, e, hd, he, same, some_, low, q⟩ := given
  obtain ⟨as, r1⟩ := Dp.reads I d x v hd rx
  obtain ⟨bs, r2⟩ := Dp.reads I e y u he ry
  have least := Nat.min_le_left d.depth e.depth
  have room : X.A.units + min d.depth e.depth < cLine := by omega
  exact PySem.W.rcGt_alike d e X.A s v u _ _ r1 r2 same some_ room X.prog X.w _ _ ⟨.bl _, H, I, rfl, q⟩
end
end L2

namespace Half
open PySem PySem.Spec PyProof.Rows L2
/-! ### take_key, take_state, part_in -/
def kD (k : Kk) : PyData := .tuple [.str k.1, .int k.2]
def kGt (k b : Kk) : Bool := PySem.W.dataLt (kD b) (kD k)
def keyM (ws : List Str) (t : Nat) (b : Kk) : TR Kk := match ws[t]? with
  | none => .error t
  | some z => if (isWord z && !strLt z b.1) = true then match numM ws (t + 1) with
      | .error k => .error k
      | .ok (v, t2) => if kGt (z, ((v : Nat) : Int)) b = true then .ok ((z, ((v : Nat) : Int)), t2) else .error (t + 1)
    else .error t
def stateM (ws : List Str) (t : Nat) : TR St3 := match ws[t]? with
  | none => .error t
  | some z => if (inV (.str z) (STA.map V.str) && !decide (z = "absent")) = true then match numM ws (t + 1) with
      | .error k => .error k
      | .ok (v, t2) => match numM ws t2 with
        | .error k => .error k
        | .ok (d, t3) => .ok ((z, ((v : Nat) : Int), ((d : Nat) : Int)), t3)
    else .error t
inductive Prt
  | nms (l : List Str)
  | nds (l : List (Str × Int))
def PrtAt (K : PySem.W.Frag) (H : Hp) (a : Addr) : Prt → Prop
  | .nms l => SqT K H a (l.map V.str)
  | .nds l => NeedsAt K H a l
def mapT {α β : Type} (f : α → β) : TR α → TR β
  | .error k => .error k
  | .ok (v, t) => .ok (f v, t)
def partM (ws : List Str) (t : Nat) (w : Str) : TR Prt := if w = "scripts" then mapT Prt.nms (scrF ws (ws.length + 1 - t) t "" []) else if w = "against" then mapT Prt.nms (namF ws (ws.length + 1 - t) t "" []) else mapT Prt.nds (needF ws (ws.length + 1 - t) t "" [])
example : kGt ("db", 2) ("db", 1) = true := by decide +kernel
example : kGt ("da", 9) ("db", 1) = false := by decide +kernel
section
variable (K : PySem.W.Frag) (CR CV : Addr)
def spTky : Sp := fun vs H Q E => ∃ (r dx lw : Addr) (p t : Nat) (ws : List Str) (bt : Addr) (b : Kk), vs = [.ref r, .ref bt] ∧ RowIs CR H r dx lw p ws t ∧ SqT K H bt [.str b.1, .int b.2] ∧ RdAt CR CV H r dx lw p ws E (fun v H' => ∀ a, SqT K H' a [.str v.1, .int v.2] → Q (.ref a) H') (keyM ws t b)
def spTst : Sp := fun vs H Q E => ∃ (r dx lw : Addr) (p t : Nat) (ws : List Str), vs = [.ref r] ∧ RowIs CR H r dx lw p ws t ∧ RdAt CR CV H r dx lw p ws E (fun v H' => ∀ a, SqT K H' a (stV v) → Q (.ref a) H') (stateM ws t)
def spPin : Sp := fun vs H Q E => ∃ (r dx lw : Addr) (p t : Nat) (ws : List Str) (w : Str), vs = [.ref r, .str w] ∧ RowIs CR H r dx lw p ws t ∧ RdAt CR CV H r dx lw p ws E (fun v H' => ∀ a, PrtAt K H' a v → Q (.ref a) H') (partM ws t w)
end
theorem RdAt.map {α β : Type} {f : α → β} {CR CV : Addr} {H : Hp} {r dx lw : Addr} {p : Nat} {ws : List Str} {E : XK} {k : β → Hp → Prop} : ∀ {x : TR α}, RdAt CR CV H r dx lw p ws E k (mapT f x) → RdAt CR CV H r dx lw p ws E (fun v H' => k (f v) H') x
  | .error _, h => h
  | .ok (_, _), h => h
section
variable {P : Program} {w : World} {K : PySem.W.Frag} {mg : Str → Option Value} {base : Heap} {CR CV fE : Addr} {fdE : FuncData}
abbrev sTky : Stmt := top 51
abbrev sTst : Stmt := top 52
abbrev sPin : Stmt := top 54
theorem scTky : FnScope ["row", "before", "name", "version"] ["row", "before"] (defScope sTky) := ⟨rfl, rfl, rfl, by decide +kernel, rfl, by decide +kernel, by decide +kernel⟩
theorem ok_tky {f : Addr} {fd : FuncData} (F : Fun K "take_key" "take_key" sTky f fd) (D : RowF P w K mg base CR CV fE fdE) (dU : DefX P w K mg base 4 "take_number" ["row"] (spTku CR CV)) : FnOk P w K mg base (L2.CX P w) 5 f fd ["row", "before"] (spTky K CR CV) := by
  refine F.okX scTky (fun vs H Q E h => ?_) (fun cdv A outer s H vs Q E hr h => ?_)
  · obtain ⟨r, dx, lw, p, t, ws, bt, b, rfl, _⟩ := h
    rfl
  · obtain ⟨r, dx, lw, p, t, ws, bt, b, rfl, hR, hb, k⟩ := h
    have nd := scTky.nd
    have T := D.T
    have r1 : Room 1 _ := hr.mono (by decide)
    have r3 : Room 3 _ := hr.mono (by decide)
    have r4 : Room 4 _ := hr.mono (by decide)
    have hu2 := Nat.lt_of_le_of_lt (Nat.add_le_add_left (by decide : 40 ≤ 64) _) hr.units
    obtain ⟨fT, fdT, MT, FT, bT⟩ := D.mT.ex
    obtain ⟨fA, fdA, MA, FA, bA⟩ := D.mA.ex
    refine ⟨_, pss_cons (ps_set (i := 2) nd rfl (Or.inl rfl) (pe_meth0 (pv 0) T.cl MT (ok_tke FT T D.mI) r3 bT .nil (passes_call (takes_of rfl rfl rfl rfl) (fun _ _ _ _ h => h))))
      (pss_cons (ps_expr (pe_meth (pv 0) T.cl MA (ok_apr FA T) r3 bA .nil (passes_call (takes_of rfl rfl rfl rfl) (fun _ _ _ _ h => h)) (pa_cons (pe_and (pe_def D.dW r1 rfl (pa_cons (pv 2) pa_nil)) (pe_one (pe_cmpR op_ge_str (pv 2) (pe_ix (ix_tup : IxR _ (rIxT K)) (pv 1) pe_int (fun _ _ => rfl)) (nomark _)))) pa_nil)))
      (pss_cons (ps_set (i := 3) nd rfl (Or.inl rfl) (pe_defX dU r4 rfl (passes_call (takes_of rfl rfl rfl rfl) (fun _ _ _ _ h => h)) (pa_cons (pv 0) pa_nil)))
      (pss_cons (ps_expr (pe_meth (pv 0) T.cl MA (ok_apr FA T) r3 bA .nil (passes_call (takes_of rfl rfl rfl rfl) (fun _ _ _ _ h => h)) (pa_cons (pe_cmpR (op_gtD hu2) (pe_tup (pa_cons (pv 2) (pa_cons (pv 3) pa_nil))) (pv 1) (nomark _)) pa_nil)))
      (pss_one (ps_ret (pe_tup (pa_cons (pv 2) (pa_cons (pv 3) pa_nil)))))))), ?_⟩
    have h1 := hR.at_
    refine ⟨_, rfl, r, dx, _, rfl, h1, rfl, r, dx, lw, p, t, ws, rfl, hR, fun z hz => ?_, fun hz => ?_⟩
    · have hS := hR.step hz
      have sm := hR.small z (List.mem_of_getElem? hz)
      have sb : SameBut r H (upd H r (rowO CR dx p lw (t + 1))) := sb_upd
      unfold keyM at k
      rw [hz] at k
      dsimp only at k
      generalize upd H r (rowO CR dx p lw (t + 1)) = H1 at hS sb ⊢
      refine ⟨_, rfl, r, dx, _, rfl, hS.at_, rfl, ?_⟩
      refine ⟨_, rfl, z, rfl, sm, fun H2 s2 => ?_⟩
      have hS2 := hS.same s2
      have sb2 := sb.trans (sb_of s2)
      have hb2 := sqt_sb h1 sb2 hb
      cases cw : isWord z with
      | false =>
        rw [if_neg (by rw [cw]; exact Bool.false_ne_true)] at k
        exact ⟨_, rfl, iteF ⟨r, dx, lw, p, t, ws, false, rfl, hS2, fun z => (nomatch z), fun _ => ErrAt.of k sb2⟩⟩
      | true =>
        refine ⟨_, rfl, iteT ⟨_, rfl, _, rfl, bt, _, 0, _, rfl, rfl, hb2, rfl, z, b.1, rfl, rfl, r, dx, lw, p, t, ws, !strLt z b.1, rfl, hS2, fun c => ?_, fun c => ?_⟩⟩
        · rw [if_pos (by rw [cw, c]; rfl)] at k
          refine ⟨_, rfl, r, dx, lw, p, t + 1, ws, rfl, hS2, ?_⟩
          cases c2 : numM ws (t + 1) with
          | error j =>
            rw [c2] at k
            exact ErrAt.of k sb2
          | ok q2 =>
            obtain ⟨v, t2⟩ := q2
            have a2 := num_adv c2
            subst a2
            rw [c2] at k
            dsimp only at k
            intro H3 sb3 hR3
            have sb13 := sb2.trans sb3
            refine ⟨_, rfl, r, dx, _, rfl, hR3.at_, rfl, _, rfl, _, rfl, two_le, fun tp ntp => ?_⟩
            have s4 := Same.upd_new (o := .tup [.str z, .int (v : Nat)]) ntp
            have gt : SqT K (upd H3 tp (.tup [.str z, .int (v : Nat)])) tp [.str z, .int (v : Nat)] := SqT.of upd_same
            have hR4 := hR3.same s4
            have sb14 := sb13.trans (sb_of s4)
            have hb4 := sqt_sb h1 sb14 hb
            generalize upd H3 tp (.tup [.str z, .int (v : Nat)]) = H4 at s4 gt hR4 sb14 hb4 ⊢
            have al : PySem.W.alike (kD (z, ((v : Nat) : Int))) (kD b) = true := by simp [kD, PySem.W.alike, PySem.W.alikeAll]
            have dp : (kD (z, ((v : Nat) : Int))).depth ≤ 20 := by simp [kD, PyData.depth, PyData.depthAll]
            refine ⟨_, rfl, kD (z, ((v : Nat) : Int)), kD b, .tup gt (.cons (.str _) (.cons (.int _) .nil)), .tup hb4 (.cons (.str _) (.cons (.int _) .nil)), al, (fun z => by cases z), dp, r, dx, lw, p, t + 1, ws, kGt (z, ((v : Nat) : Int)) b, rfl, hR4, fun c3 => ?_, fun c3 => ?_⟩
            · rw [if_pos c3] at k
              refine ⟨_, rfl, _, rfl, two_le, fun tq ntq => ?_⟩
              have s5 := Same.upd_new (o := .tup [.str z, .int (v : Nat)]) ntq
              exact k _ (sb14.trans (sb_of s5)) (hR4.same s5) tq (SqT.of upd_same)
            · rw [if_neg (by rw [c3]; decide)] at k
              exact ErrAt.of k sb14
        · rw [if_neg (by rw [cw, c]; decide)] at k
          exact ErrAt.of k sb2
    · unfold keyM at k
      rw [hz] at k
      exact k
theorem scTst : FnScope ["row", "status", "version"] ["row"] (defScope sTst) := ⟨rfl, rfl, rfl, by decide +kernel, rfl, by decide +kernel, by decide +kernel⟩
theorem ok_tst {f : Addr} {fd : FuncData} (F : Fun K "take_state" "take_state" sTst f fd) (D : RowF P w K mg base CR CV fE fdE) (gS : ∃ a, mg "STATUSES" = some (.ref a) ∧ ∀ H, SqT K H a (STA.map V.str)) (dU : DefX P w K mg base 4 "take_number" ["row"] (spTku CR CV)) : FnOk P w K mg base (L2.CX P w) 5 f fd ["row"] (spTst K CR CV) := by
  refine F.okX scTst (fun vs H Q E h => ?_) (fun cdv A outer s H vs Q E hr h => ?_)
  · obtain ⟨r, dx, lw, p, t, ws, rfl, _⟩ := h
    rfl
  · obtain ⟨r, dx, lw, p, t, ws, rfl, hR, k⟩ := h
    have nd := scTst.nd
    have T := D.T
    have r3 : Room 3 _ := hr.mono (by decide)
    have r4 : Room 4 _ := hr.mono (by decide)
    obtain ⟨aS, gS, hS0⟩ := gS
    obtain ⟨fT, fdT, MT, FT, bT⟩ := D.mT.ex
    obtain ⟨fA, fdA, MA, FA, bA⟩ := D.mA.ex
    refine ⟨_, pss_cons (ps_set (i := 1) nd rfl (Or.inl rfl) (pe_meth0 (pv 0) T.cl MT (ok_tke FT T D.mI) r3 bT .nil (passes_call (takes_of rfl rfl rfl rfl) (fun _ _ _ _ h => h))))
      (pss_cons (ps_expr (pe_meth (pv 0) T.cl MA (ok_apr FA T) r3 bA .nil (passes_call (takes_of rfl rfl rfl rfl) (fun _ _ _ _ h => h)) (pa_cons (pe_and (pe_cmpR (op_in_seq : OpR _ _ (rIn K false)) (pv 1) (pe_glob (v := .ref aS) rfl gS rfl) (by rfl)) (pe_one (pe_cmpR op_ne (pv 1) pe_str (nomark _)))) pa_nil)))
      (pss_cons (ps_set (i := 2) nd rfl (Or.inl rfl) (pe_defX dU r4 rfl (passes_call (takes_of rfl rfl rfl rfl) (fun _ _ _ _ h => h)) (pa_cons (pv 0) pa_nil)))
      (pss_one (ps_ret (pe_tup (pa_cons (pv 1) (pa_cons (pv 2) (pa_cons (pe_defX dU r4 rfl (passes_call (takes_of rfl rfl rfl rfl) (fun _ _ _ _ h => h)) (pa_cons (pv 0) pa_nil)) pa_nil)))))))), ?_⟩
    have h1 := hR.at_
    refine ⟨_, rfl, r, dx, _, rfl, h1, rfl, r, dx, lw, p, t, ws, rfl, hR, fun z hz => ?_, fun hz => ?_⟩
    · have hS := hR.step hz
      have sm := hR.small z (List.mem_of_getElem? hz)
      have sb : SameBut r H (upd H r (rowO CR dx p lw (t + 1))) := sb_upd
      unfold stateM at k
      rw [hz] at k
      dsimp only at k
      generalize upd H r (rowO CR dx p lw (t + 1)) = H1 at hS sb ⊢
      refine ⟨_, rfl, r, dx, _, rfl, hS.at_, rfl, ?_⟩
      refine ⟨_, rfl, aS, _, rfl, .inr (hS0 _), rfl, flat_strs STA, ?_⟩
      cases cw : inV (.str z) (STA.map V.str) with
      | false =>
        rw [if_neg (by rw [cw]; exact Bool.false_ne_true)] at k
        exact ⟨_, rfl, iteF ⟨r, dx, lw, p, t, ws, false, rfl, hS, fun z => (nomatch z), fun _ => ErrAt.of k sb⟩⟩
      | true =>
        refine ⟨_, rfl, iteT ⟨_, rfl, rfl, r, dx, lw, p, t, ws, !decide (V.str z = V.str "absent"), rfl, hS, fun c => ?_, fun c => ?_⟩⟩
        · rw [dec_str] at c
          rw [if_pos (by rw [cw, c]; rfl)] at k
          refine ⟨_, rfl, r, dx, lw, p, t + 1, ws, rfl, hS, ?_⟩
          cases c2 : numM ws (t + 1) with
          | error j =>
            rw [c2] at k
            exact ErrAt.of k sb
          | ok q2 =>
            obtain ⟨v, t2⟩ := q2
            rw [c2] at k
            dsimp only at k
            intro H3 sb3 hR3
            have sb13 := sb.trans sb3
            refine ⟨_, rfl, _, rfl, _, rfl, r, dx, lw, p, t2, ws, rfl, hR3, ?_⟩
            cases c3 : numM ws t2 with
            | error j =>
              rw [c3] at k
              exact ErrAt.of k sb13
            | ok q3 =>
              obtain ⟨d, t3⟩ := q3
              rw [c3] at k
              dsimp only at k
              intro H4 sb4 hR4
              refine ⟨(by show 3 ≤ sizeLine; decide), fun tq ntq => ?_⟩
              have s5 := Same.upd_new (o := .tup [.str z, .int (v : Nat), .int (d : Nat)]) ntq
              exact k _ ((sb13.trans sb4).trans (sb_of s5)) (hR4.same s5) tq (SqT.of upd_same)
        · rw [dec_str] at c
          rw [if_neg (by rw [cw, c]; decide)] at k
          exact ErrAt.of k sb
    · unfold stateM at k
      rw [hz] at k
      exact k
theorem scPin : FnScope ["row", "word"] ["row", "word"] (defScope sPin) := ⟨rfl, rfl, rfl, by decide +kernel, rfl, by decide +kernel, by decide +kernel⟩
theorem ok_pin {f : Addr} {fd : FuncData} (F : Fun K "part_in" "part_in" sPin f fd) (dS : DefX P w K mg base 4 "take_scripts" ["row"] (spTks K CR CV)) (dD : DefX P w K mg base 5 "take_needs" ["row"] (spTkd K CR CV)) (dA : DefX P w K mg base 5 "take_names" ["row"] (spTka K CR CV)) : FnOk P w K mg base (L2.CX P w) 6 f fd ["row", "word"] (spPin K CR CV) := by
  refine F.okX scPin (fun vs H Q E h => ?_) (fun cdv A outer s H vs Q E hr h => ?_)
  · obtain ⟨r, dx, lw, p, t, ws, w, rfl, _⟩ := h
    rfl
  · obtain ⟨r, dx, lw, p, t, ws, z, rfl, hR, k⟩ := h
    have nd := scPin.nd
    have r4 : Room 4 _ := hr.mono (by decide)
    have r5 : Room 5 _ := hr.mono (by decide)
    refine ⟨_, pss_cons (ps_if (pt_cmpR op_eq (pv 1) pe_str (nomark _)) (pss_one (ps_ret (pe_defX dS r4 rfl (passes_call (takes_of rfl rfl rfl rfl) (fun _ _ _ _ h => h)) (pa_cons (pv 0) pa_nil)))) pss_nil)
      (pss_one (ps_ret (pe_ifExp (pt_cmpR op_eq (pv 1) pe_str (nomark _)) (pe_defX dA r5 rfl (passes_call (takes_of rfl rfl rfl rfl) (fun _ _ _ _ h => h)) (pa_cons (pv 0) pa_nil)) (pe_defX dD r5 rfl (passes_call (takes_of rfl rfl rfl rfl) (fun _ _ _ _ h => h)) (pa_cons (pv 0) pa_nil))))), ?_⟩
    refine ⟨_, rfl, rfl, _, rfl, ?_⟩
    rw [dec_str]
    unfold partM at k
    by_cases c1 : z = "scripts"
    · rw [if_pos c1] at k
      refine ite_yes (decide_eq_true c1) ?_
      exact ⟨_, rfl, r, dx, lw, p, t, ws, rfl, hR, RdAt.map k⟩
    · rw [if_neg c1] at k
      refine ite_no (decide_eq_false c1) ?_
      refine ⟨_, rfl, rfl, _, rfl, ?_⟩
      rw [dec_str]
      by_cases c2 : z = "against"
      · rw [if_pos c2] at k
        refine ite_yes (decide_eq_true c2) ?_
        exact ⟨_, rfl, r, dx, lw, p, t, ws, rfl, hR, RdAt.map k⟩
      · rw [if_neg c2] at k
        refine ite_no (decide_eq_false c2) ?_
        exact ⟨_, rfl, r, dx, lw, p, t, ws, rfl, hR, RdAt.map k⟩
end
end Half

/-! sets of tuples of ints and texts, wherever these stand: set(l), l a list of such -/
namespace L2
open PySem PySem.Froz PyProof.Rows PySem.Spec
/-- tuples, each with what it holds -/
def TupsAt (K : PySem.W.Frag) (H : Hp) (L : List (Addr × List Key)) : Prop := ∀ p ∈ L, SqT K H p.1 (p.2.map kV)
section
variable {X : Cx} {P : Program} {w : World} {A : Around} {E : Value → Shared → Prop} {s : Shared}
theorem tupK_sq {pins : List (Addr × Obj)} {σ : St} {H : Hp} {s : Shared} {b : Addr} {k : List Key} (I : Inv X pins σ H s) (h : SqT X.K H b (k.map kV)) : TupK X.prog X.w s.heap k b := by
  obtain ⟨us, r, ⟨o, g, c, n, d⟩, -⟩ := I.tuple h
  exact ⟨o, us.toArray, n, g, c, d, by simpa using items_are r⟩
/-- s.add(t) -/
def rSAddQ (P : Program) (w : World) (K : PySem.W.Frag) : V → List V → Hp → VK → Prop := fun x xs H Q => ∃ (a b : Addr) (k : List Key) (L : List (Addr × List Key)), x = V.ref a ∧ xs = [.ref b] ∧ SqT K H b (k.map kV) ∧ H a = some (TsO P w a L) ∧ TupsAt K H L ∧ L.length + 1 < 64 ∧
  (k ∈ L.map (·.2) → Q .non (upd H a (TsO P w a L))) ∧ (k ∉ L.map (·.2) → ∀ L', L'.Perm ((b, k) :: L) → Q .non (upd H a (TsO P w a L')))
theorem mt_saddQ (hu : X.A.units + 1 < cLine) : MtR X "set.add" (rSAddQ X.prog X.w X.K) := by
  intro pins s σ H x xs v us Q I rx rxs h
  obtain ⟨a, b, k, L, rfl, rfl, hb, ha, hL, room, q1, q2⟩ := h
  cases rx
  obtain ⟨u, rfl, ru⟩ := rxs.one
  cases ru
  obtain ⟨es, ep, t, R⟩ := tsO_get I ha
  have T := tupK_sq I hb
  refine wpAny_call_entry F.slot_set_add (setTK_type R) F.entry_set_add ?_ (F.args_set_add_2 _ _)
  simp only [Builtin.«set.add», Builtin.Frozenset.oneOther, Builtin.Frozenset.addrOf, setAdd, List.isEmpty_nil, bind_assoc]
  refine wpAny_bind (wpAny_pure (wpAny_bind (wpAny_pure (wpAny_bind (wpAny_holding (wpAny_bind (wpAny_pyHash_tuple (A := X.A.in1) hu T ?_)))))))
  refine add_key (s := { s with toks := s.toks + (k.length + 1) }) R (fun p hp => tupK_sq (s := s) I (hL p hp)) T (by exact hu) room fun c h' L' es' ep' t' sb R' y n => ?_
  show wpAny _ _ (ret Value.none) _ _ _
  refine wpAny_pure ⟨_, rfl, ?_⟩
  have he : ∃ u, h'.get? a = some u := by
    have ⟨o, go, _⟩ := R'.ob
    exact ⟨o, go⟩
  refine ⟨.non, upd H a (TsO X.prog X.w a L'), I.write (e := a) (t' := s.toks + (k.length + 1)) (by rw [ha]; trivial) (.inl rfl) (fun b u hb hu => (sb.2 b hb).trans hu) he (tsO_new R'), rfl, ?_⟩
  by_cases m : k ∈ L.map (·.2)
  · rw [y m]; exact q1 m
  · exact q2 m L' (n m)
/-! set(l) -/
/-- set(l), with the room that the loop has: what the loop that puts the items in makes of the bare set is the set -/
theorem set_madeU {l : Addr} {xs : Array Value} {Q : Value → Shared → Prop} (Gd : Heap → Prop) (hl : s.heap.IsList l xs) (hh : A.handled = none)
    (loop : ∀ B : Around, B.handled = none → B.units = A.units + 2 → codeAny (model P w) B (.builtin "set.update.loop" ⟨[.ref s.heap.objs.size, .ref (s.heap.objs.size + 1)], []⟩)
      (fun r z => r = .ok (.ret .none) ∧ ∃ h' tk, z = { s with heap := h', toks := tk } ∧ Gd h' ∧ ∀ b o, s.heap.get? b = some o → h'.get? b = some o)
      { s with heap := (s.heap.push (bareSet w)).push { cls := .type "list_iterator", data := .fields #[.ref l, .int 0 0] } })
    (q : ∀ h' tk, Gd h' → (∀ b o, s.heap.get? b = some o → h'.get? b = some o) → Q (.ref s.heap.objs.size) { s with heap := h', toks := tk }) : wpAny (model P w) A (call (.type "set") [.ref l]) Q E s := by
  obtain ⟨c, tl, hmro⟩ := F.called_set.mro
  have f1 := F.called_set.made
  have f2 := F.called_set.sub
  have f3 := F.called_set.notType
  have f4 := F.called_set.canCreate
  have f5 := F.typeCall_set_1 (.ref l)
  refine wpAny_call (codeAny_of_tree (?_ : wpAny _ _ (callAny (.type "set") _) _ _ _))
  refine wpAny_pure ⟨Code.quiet_builtin _ (by decide +kernel), codeAny_builtin F.entry_type_call ?_⟩
  rw [Around.under_plain (weight_type_call_type "set" [.ref l] []) rfl]
  repeat (any_goals (first | assumption | wp_step))
  refine codeAny_mono (code_set_led1 (.ref l) (E := E) (Q₁ := fun v z => v = .ref s.heap.objs.size ∧ z = { s with heap := s.heap.push (bareSet w) }) ⟨rfl, rfl⟩) fun r z hr => ?_
  match r, hr with
  | .error e, hr => exact hr
  | .ok .next, hr => exact hr.elim
  | .ok .brk, hr => exact hr.elim
  | .ok .cont, hr => exact hr.elim
  | .ok (.ret v), hr =>
    obtain ⟨rfl, rfl⟩ := hr
    have own : (s.heap.push (bareSet w)).get? s.heap.objs.size = some (bareSet w) := Heap.get?_push_size _ rfl
    have ty : Shared.TypeIs { s with heap := s.heap.push (bareSet w) } (.ref s.heap.objs.size) "set" := ⟨_, own, rfl⟩
    have f6 := F.called_set.init.lookup
    have f7 := F.called_set.init.bind (.ref s.heap.objs.size)
    repeat (any_goals (first | assumption | wp_step))
    refine codeAny_mono (codeAny_call_builtin (R := wants (fun v z => v = .none ∧ ∃ h' tk, z = { s with heap := h', toks := tk } ∧ Gd h' ∧ ∀ b o, s.heap.get? b = some o → h'.get? b = some o) E) F.called_set.init.plain F.entry_set_init (check_set_init_1 ty ?init)) fun r2 z2 hr2 => ?_
    case init =>
      obtain ⟨⟨cl, dc, dt, sl⟩, g, gc, n, gd⟩ := hl
      simp only at gc gd
      subst gc gd
      have g1 : (s.heap.push (bareSet w)).get? l = some ⟨.type "list", dc, .seq xs n, sl⟩ := Heap.get?_push_of_some _ g
      have li : (s.heap.push (bareSet w)).IsList l xs := ⟨_, g1, rfl, n, rfl⟩
      have k1 := F.sub_list_set
      have k2 := F.sub_list_frozenset
      have k3 : (Value.type "list" == Value.type "dict") = false := by decide
      unfold Builtin.«set.__init__» noKeywords Builtin.Frozenset.updateFrom
      generalize hi : pyIter = PI
      wp_walk
      subst hi
      refine wpAny_pyIter_list li (wpAny_bind (wpAny_runValue ?_))
      have lo := loop A.in1.in1 (by simp [hh]) rfl
      rw [Heap.size_push]
      refine codeAny_mono lo fun r3 z3 h3 => ?_
      obtain ⟨rfl, h', tk, rfl, gd, keep⟩ := h3
      exact wpAny_pure (wpAny_pure ⟨rfl, h', tk, rfl, gd, keep⟩)
    match r2, hr2 with
    | .error e, hr2 => exact hr2
    | .ok .next, hr2 => exact hr2.elim
    | .ok .brk, hr2 => exact hr2.elim
    | .ok .cont, hr2 => exact hr2.elim
    | .ok (.ret v), hr2 =>
      obtain ⟨rfl, h', tk, rfl, gd, keep⟩ := hr2
      repeat (any_goals (first | assumption | wp_step))
      exact q h' tk gd keep
/-- the loop over a list, as fill_list, where J may speak of all but the iterator -/
theorem fill_listB {S I l : Addr} {items : Array Value} (J : Nat → Heap → Prop) (calm : A.handled = none) (apart : S ≠ I ∧ S ≠ l ∧ l ≠ I) (stay : ∀ i h h', (∀ b o, b ≠ I → h.get? b = some o → h'.get? b = some o) → J i h → J i h')
    (add : ∀ i x (z : Shared) (Q : Bool → Shared → Prop) (X : Value → Shared → Prop), items[i]? = some x → J i z.heap → (∀ b h' tk, Heap.SameBut S z.heap h' → J (i + 1) h' → Q b { z with heap := h', toks := tk }) → wpAny (model P w) A.in1 (setAdd S x) Q X z) :
    ∀ (n i : Nat) (z : Shared), n + i = items.size → z.heap.IsListIter I l i → z.heap.IsList l items → J i z.heap → codeAny (model P w) A (.builtin "set.update.loop" ⟨[.ref S, .ref I], []⟩)
      (fun r y => r = .ok (.ret .none) ∧ ∃ h' tk, y = { z with heap := h', toks := tk } ∧ J items.size h' ∧ ∀ b o, b ≠ S → b ≠ I → z.heap.get? b = some o → h'.get? b = some o) z := by
  intro n
  induction n with
  | zero =>
    intro i z en it li j
    obtain rfl : i = items.size := by omega
    refine codeAny_builtin F.entry_set_update_loop ((Around.under_plainId F.plain_set_update_loop _).symm ▸ wpAny_bind (wpAny_pyNext_list_end calm it li (Array.getElem?_eq_none (Nat.le_refl _)) fun h' ext => ?_))
    exact wpAny_pure ⟨rfl, h', z.toks, rfl, stay _ _ _ (fun b o bI e => ext b o bI e) j, fun b o _ bI e => ext b o bI e⟩
  | succ n more =>
    intro i z en it li j
    have lt : i < items.size := by omega
    have hx := Array.getElem?_eq_getElem lt
    generalize items[i] = x at hx
    refine codeAny_builtin F.entry_set_update_loop ((Around.under_plainId F.plain_set_update_loop _).symm ▸ wpAny_bind (wpAny_pyNext_list_item it li hx fun h1 it1 sb1 => ?_))
    have j1 : J i h1 := stay _ _ _ (fun b o bI e => (sb1.2 b bI).trans e) j
    refine wpAny_bind (wpAny_holding (add i _ { z with heap := h1 } _ _ hx j1 fun b h2 tk2 sb2 j2 => wpAny_pure ⟨plainId_quiet F.plain_set_update_loop _, ?_⟩))
    have li1 : h1.IsList l items := li.at fun o e => (sb1.2 l apart.2.2).trans e
    refine codeAny_mono (more (i + 1) { z with heap := h2, toks := tk2 } (by omega) (it1.at fun o e => (sb2.2 I (Ne.symm apart.1)).trans e) (li1.at fun o e => (sb2.2 l (Ne.symm apart.2.1)).trans e) j2) ?_
    rintro r y ⟨rfl, h', tk, rfl, jn, far⟩
    exact ⟨rfl, h', tk, rfl, jn, fun b o bS bI e => far b o bS bI ((sb2.2 b bS).trans ((sb1.2 b bI).trans e))⟩
def rSetQ (P : Program) (w : World) (K : PySem.W.Frag) : List V → Hp → VK → Prop := fun vs H Q => ∃ (p : Addr) (xs : List (Addr × List Key)) (D : List (List Key)), vs = [.ref p] ∧ SqL K H p (xs.map fun x => V.ref x.1) ∧ TupsAt K H xs ∧ (∀ x ∈ xs, x.2 ∈ D) ∧ D.length < 63 ∧
  ∀ (a : Addr) (L : List (Addr × List Key)), (L.map (·.2)).Nodup → (∀ q ∈ L, q ∈ xs) → (∀ x ∈ xs, x.2 ∈ L.map (·.2)) → H a = none → Q (.ref a) (upd H a (TsO P w a L))
theorem sub_len {α : Type} [DecidableEq α] : ∀ {l m : List α}, l.Nodup → (∀ z ∈ l, z ∈ m) → l.length ≤ m.length
  | [], _, _, _ => Nat.zero_le _
  | x :: l, m, hn, hs => by
    obtain ⟨n1, n2⟩ := List.nodup_cons.mp hn
    have hx := hs x (.head _)
    have ih := sub_len (l := l) (m := m.erase x) n2 fun z hz => (List.mem_erase_of_ne fun e => n1 (by rw [← e]; exact hz)).mpr (hs z (.tail _ hz))
    rw [List.length_erase_of_mem hx] at ih
    have := List.length_pos_of_mem hx
    rw [List.length_cons]
    omega
/-- what the set holds behind i items -/
structure SetQ (P : Program) (w : World) (xs : List (Addr × List Key)) (S : Addr) (i : Nat) (h : Heap) : Prop where
  tup : ∀ x ∈ xs, TupK P w h x.2 x.1
  ex : ∃ L es ep t, SetTK P w h S L es ep t ∧ (∀ q ∈ L, q ∈ xs) ∧ ∀ x ∈ xs.take i, x.2 ∈ L.map (·.2)
theorem vals_from : ∀ {xs : List V} {us : List Value} {i : Nat} {u : Value}, Vals xs us → us[i]? = some u → ∃ x, xs[i]? = some x ∧ RelV x u
  | _, _, _, _, .nil, h => by simp at h
  | x :: _, _, 0, _, .cons r _, h => by cases h; exact ⟨x, rfl, r⟩
  | _ :: _, _, i + 1, _, .cons _ t, h => vals_from (i := i) t h
theorem tupK_stay {h h' : Heap} {k : List Key} {b : Addr} (T : TupK P w h k b) (keep : ∀ o, h.get? b = some o → h'.get? b = some o) : TupK P w h' k b := by
  obtain ⟨o, its, n, g, r⟩ := T
  exact ⟨o, its, n, keep _ g, r⟩
theorem cr_setQ (hc : X.calm = true) (hu : X.A.units + 9 < cLine) : CallR X (.type "set") (rSetQ X.prog X.w X.K) := by
  intro pins s σ H vs us Q I r h
  obtain ⟨p, xs, D, rfl, hs, hT, hD, few, q⟩ := h
  obtain ⟨its, rv, hl, _⟩ := I.list hs
  rw [Vals.ref1 r]
  have li := hl.isList
  have lt : p < s.heap.objs.size := by obtain ⟨o, g, _⟩ := li; exact Heap.lt_size g
  have ilen : its.length = xs.length := by have := rv.length; rw [List.length_map] at this; exact this.symm
  have tup0 : ∀ x ∈ xs, TupK X.prog X.w s.heap x.2 x.1 := fun x hx => tupK_sq I (hT x hx)
  have ne1 : s.heap.objs.size ≠ s.heap.objs.size + 1 := Nat.ne_of_lt (Nat.lt_succ_self _)
  refine set_madeU (fun h' => SetQ X.prog X.w xs s.heap.objs.size its.toArray.size h') li (I.ok.hd hc) (fun B hB uB => ?_) (fun h' tk J keep => ?_)
  · have top : ((s.heap.push (bareSet X.w)).push { cls := .type "list_iterator", data := .fields #[.ref p, .int 0 0] }).get? (s.heap.objs.size + 1) = some { cls := .type "list_iterator", data := .fields #[.ref p, .int 0 0] } := by
      rw [← Heap.size_push s.heap (bareSet X.w)]
      exact Heap.get?_push_size _ rfl
    have old : ∀ b o, s.heap.get? b = some o → ((s.heap.push (bareSet X.w)).push { cls := .type "list_iterator", data := .fields #[.ref p, .int 0 0] }).get? b = some o := fun b o e => Heap.get?_push_of_some _ (Heap.get?_push_of_some _ e)
    have new0 : ((s.heap.push (bareSet X.w)).push { cls := .type "list_iterator", data := .fields #[.ref p, .int 0 0] }).get? s.heap.objs.size = some (bareSet X.w) := Heap.get?_push_of_some _ (Heap.get?_push_size _ rfl)
    refine codeAny_mono (fill_listB (A := B) (fun i h => SetQ X.prog X.w xs s.heap.objs.size i h ∧ ∀ x ∈ xs, x.1 < s.heap.objs.size) hB ⟨ne1, Nat.ne_of_gt lt, Nat.ne_of_lt (Nat.lt_succ_of_lt lt)⟩ (fun i h h' k J => ?_) (fun i x z Q' X' hx J k => ?_) its.toArray.size 0 _ rfl ⟨_, top, rfl, rfl⟩ ((li.push _).push _) ?_) ?_
    · obtain ⟨⟨t1, L, es, ep, t, R, a1, a2⟩, a3⟩ := J
      refine ⟨⟨fun x hx => tupK_stay (t1 x hx) fun o e => k _ _ (Nat.ne_of_lt (Nat.lt_succ_of_lt (a3 x hx))) e, L, es, ep, t, setTK_move R (fun o e => k _ _ ne1 e), a1, a2⟩, a3⟩
    · obtain ⟨⟨t1, L, es, ep, t, R, a1, a2⟩, a3⟩ := J
      rw [List.getElem?_toArray] at hx
      obtain ⟨v, hv, rx⟩ := vals_from rv hx
      rw [List.getElem?_map] at hv
      obtain ⟨y, hy, rfl⟩ := Option.map_eq_some_iff.mp hv
      cases (show x = Value.ref y.1 from rx)
      have ym := List.mem_of_getElem? hy
      have T := t1 y ym
      refine wpAny_holding (wpAny_bind (wpAny_pyHash_tuple (A := B.in1) (by show B.units + 1 < cLine; omega) T ?_))
      have Llen : L.length + 1 < 64 := by
        have := sub_len (m := D) R.one fun z hz => by
          obtain ⟨e, he, rfl⟩ := List.mem_map.mp hz
          exact hD e (a1 e he)
        rw [List.length_map] at this
        omega
      refine add_key (s := { z with toks := z.toks + (y.2.length + 1) }) R (fun e he => t1 e (a1 e he)) T (by show B.units + 1 < cLine; omega) Llen fun c h' L' es' ep' t' sb R' there new => ?_
      have so : ∃ o, z.heap.get? s.heap.objs.size = some o ∧ o.data = .set es ep t := let ⟨o, g, _, d⟩ := R.ob; ⟨o, g, d⟩
      refine k _ h' _ sb ⟨⟨fun e he => ?_, L', es', ep', t', R', fun e he => ?_, fun e he => ?_⟩, a3⟩
      · obtain ⟨o, g, d⟩ := so
        exact tup_same (t1 e he) g d sb
      · by_cases m : y.2 ∈ L.map (·.2)
        · rw [there m] at he
          exact a1 e he
        · rcases List.mem_cons.mp ((new m).mem_iff.mp he) with rfl | q
          · exact ym
          · exact a1 e q
      · rw [take_next hy] at he
        by_cases m : y.2 ∈ L.map (·.2)
        · rw [there m]
          rcases List.mem_append.mp he with q | q
          · exact a2 e q
          · rw [List.mem_singleton.mp q]; exact m
        · refine ((new m).map (·.2)).mem_iff.mpr ?_
          rcases List.mem_append.mp he with q | q
          · exact .tail _ (a2 e q)
          · rw [List.mem_singleton.mp q]; exact .head _
    · exact ⟨⟨fun x hx => tupK_stay (tup0 x hx) fun o e => old _ _ e, [], #[], 0, _, setTK_nil new0, fun e he => (nomatch he), fun e he => (nomatch he)⟩, fun x hx => let ⟨o, _, _, g, _⟩ := tup0 x hx; Heap.lt_size g⟩
    · rintro r y ⟨rfl, h', tk, rfl, J, far⟩
      exact ⟨rfl, h', tk, rfl, J.1, fun b o e => far b o (Nat.ne_of_lt (Heap.lt_size e)) (Nat.ne_of_lt (Nat.lt_succ_of_lt (Heap.lt_size e))) (old _ _ e)⟩
  · obtain ⟨-, L, es, ep, t, R, a1, a2⟩ := J
    refine ⟨.ref _, upd H s.heap.objs.size (TsO X.prog X.w s.heap.objs.size L), I.laid (t' := tk) keep (Nat.le_refl _) (tsO_new R), rfl, q _ L R.one a1 (fun x hx => a2 x ?_) (I.hok.fresh (Nat.le_refl _))⟩
    have e : its.toArray.size = xs.length := by rw [List.size_toArray, ilen]
    rw [e, List.take_length]
    exact hx
end
end L2

/-! sorted(xs), xs a list of things that read as data, in the order of the data -/
namespace L2
open PySem PySem.Spec PyProof.Rows
theorem all_refs {β : Type} {g : β → Addr} : ∀ {xs : List β} {us : List Value}, Vals (xs.map fun x => V.ref (g x)) us → PySem.W.EachIs (fun v x => v = Value.ref (g x)) us xs
  | [], _, r => by
    cases r
    exact .nil
  | x :: xs, _, r => by
    cases r with
    | cons r1 r2 => exact .cons r1 (all_refs r2)
theorem refs_vals {β : Type} {g : β → Addr} {us : List Value} {xs : List β} (h : PySem.W.EachIs (fun v x => v = Value.ref (g x)) us xs) : Vals (xs.map fun x => V.ref (g x)) us := by
  induction h with
  | nil => exact .nil
  | cons h _ ih => exact .cons h ih
theorem dps_of {K : PySem.W.Frag} {H : Hp} : ∀ {xs : List (Addr × PyData)}, (∀ x ∈ xs, Dp K H (.ref x.1) x.2) → DpAll K H (xs.map fun x => V.ref x.1) (xs.map fun x => x.2)
  | [], _ => .nil
  | x :: xs, h => .cons (h x (.head _)) (dps_of fun y hy => h y (.tail _ hy))
def rSortRd (K : PySem.W.Frag) : List V → Hp → VK → Prop := fun vs H Q => ∃ (a : Addr) (xs : List (Addr × PyData)), vs = [V.ref a] ∧ SqL K H a (xs.map fun x => V.ref x.1) ∧ (∀ x ∈ xs, Dp K H (.ref x.1) x.2) ∧ PySem.W.AllAlike (xs.map fun x => x.2) ∧ PySem.W.Sortable (xs.map fun x => x.2) ∧ (∀ x ∈ xs, x.2.depth ≤ 20) ∧
  ∀ (ys : List (Addr × PyData)) (p : Addr), ys.Perm xs → (ys.Pairwise fun x y => PySem.W.dataLt y.2 x.2 = false) → H p = none → Q (.ref p) (upd H p (.lst (ys.map fun x => V.ref x.1)))
section
variable {X : Cx}
theorem cr_sortRd (hu : X.A.units + 40 < cLine) : CallR X (.builtin "sorted") (rSortRd X.K) := by
  intro pins s σ H vs us Q I r h
  obtain ⟨a, xs, rfl, hs, hd, hal, hk, dp, q⟩ := h
  obtain ⟨its, rv, hl, hz⟩ := I.list hs
  rw [Vals.ref1 r]
  rw [List.length_map] at hz
  obtain ⟨as, ra⟩ := Dp.readsAll I _ _ its (dps_of hd) rv
  refine PySem.W.sorted_data (R := fun v (x : Addr × PyData) => v = .ref x.1) (enc := fun x : Addr × PyData => x.2) hl.isList (all_refs rv) (PySem.W.readsAll_each (fun x : Addr × PyData => x.2) ra) hal hk hz (fun x hx => ?_) fun out lo eo => ?_
  · have := dp x hx
    show X.A.units + 2 + x.2.depth < cLine
    omega
  have pm := List.mergeSort_perm xs (PySem.W.dataLe false fun x : Addr × PyData => x.2)
  have ⟨n, hn⟩ := sortedAll_at s.heap its (List.toArray out)
  refine ⟨.ref _, upd H _ (.lst ((xs.mergeSort (PySem.W.dataLe false fun x : Addr × PyData => x.2)).map fun x => V.ref x.1)), I.laid (t' := s.toks) (fun _ _ e => sortedAll_old e) (Nat.le_succ _) ⟨by rw [List.length_map, pm.length_eq]; exact hz, _, n, refs_vals (g := fun x : Addr × PyData => x.1) eo, hn⟩, rfl, q _ _ pm ?_ (I.hok.fresh (Nat.le_succ _))⟩
  refine (PySem.W.sort_pairwise (PySem.W.sortLe_total _ false _) _).imp fun {x y} h => ?_
  have h' : PySem.W.dataLe false (fun x : Addr × PyData => x.2) x y = true := h
  rw [PySem.W.dataLe_eq] at h'
  have h2 : (!PySem.W.dataLt y.2 x.2) = true := h'
  cases c : PySem.W.dataLt y.2 x.2 with
  | false => rfl
  | true => rw [c] at h2; cases h2
end
end L2

/-! sorted(s), s a set of tuples of ints and texts -/
namespace L2
open PySem PySem.Froz PyProof.Rows PySem.Spec
def keyD : Key → PyData
  | .inl i => .int i
  | .inr x => .str x
def tupD (k : List Key) : PyData := .tuple (k.map keyD)
theorem dp_keys {K : PySem.W.Frag} {H : Hp} : ∀ k : List Key, DpAll K H (k.map kV) (k.map keyD)
  | [] => .nil
  | .inl i :: k => .cons (.int i) (dp_keys k)
  | .inr x :: k => .cons (.str x) (dp_keys k)
theorem dp_tup {K : PySem.W.Frag} {H : Hp} {t : Addr} {k : List Key} (h : SqT K H t (k.map kV)) : Dp K H (.ref t) (tupD k) := .tup h (dp_keys k)
theorem depth_keys : ∀ k : List Key, PyData.depthAll (k.map keyD) = 0
  | [] => rfl
  | .inl i :: k => by rw [List.map_cons, PyData.depthAll, depth_keys k]; rfl
  | .inr x :: k => by rw [List.map_cons, PyData.depthAll, depth_keys k]; rfl
theorem depth_tup (k : List Key) : (tupD k).depth = 1 := by
  show (PyData.tuple _).depth = 1
  rw [PyData.depth, depth_keys]
theorem perm_back {α β : Type} {f : α → β} : ∀ {m : List β} {l : List α}, m.Perm (l.map f) → ∃ l' : List α, l'.Perm l ∧ m = l'.map f
  | [], l, h => ⟨[], by
      have e := h.length_eq
      rw [List.length_map] at e
      rw [List.eq_nil_of_length_eq_zero e.symm], rfl⟩
  | x :: m, l, h => by
    have hx : x ∈ l.map f := h.mem_iff.mp (.head _)
    obtain ⟨a, ha, rfl⟩ := List.mem_map.mp hx
    obtain ⟨s, t, rfl⟩ := List.append_of_mem ha
    have h2 : (f a :: m).Perm (f a :: (s ++ t).map f) := h.trans (by rw [List.map_append, List.map_cons, List.map_append]; exact List.perm_middle)
    obtain ⟨l', p, e⟩ := perm_back h2.cons_inv
    exact ⟨a :: l', (p.cons a).trans List.perm_middle.symm, by rw [e]; rfl⟩
def rSortQ (P : Program) (w : World) (K : PySem.W.Frag) : List V → Hp → VK → Prop := fun vs H Q => ∃ (a : Addr) (L : List (Addr × List Key)), vs = [.ref a] ∧ H a = some (TsO P w a L) ∧ TupsAt K H L ∧ PySem.W.AllAlike (L.map fun x => tupD x.2) ∧ PySem.W.Sortable (L.map fun x => tupD x.2) ∧
  ∀ (ys : List (Addr × List Key)) (p : Addr), ys.Perm L → (ys.Pairwise fun x y => PySem.W.dataLt (tupD y.2) (tupD x.2) = false) → H p = none → Q (.ref p) (upd H p (.lst (ys.map fun x => V.ref x.1)))
section
variable {X : Cx}
theorem each_of_map {α β : Type} {R : β → α → Prop} {f : α → β} (h : ∀ x, R (f x) x) : ∀ l : List α, PySem.W.EachIs R (l.map f) l
  | [] => .nil
  | x :: l => .cons (h x) (each_of_map h l)
theorem each_all {α β : Type} {R : β → α → Prop} {f : α → β} : ∀ {l : List α}, (∀ x ∈ l, R (f x) x) → PySem.W.EachIs R (l.map f) l
  | [], _ => .nil
  | x :: l, h => .cons (h x (.head _)) (each_all fun y hy => h y (.tail _ hy))
theorem cr_sortQ (hc : X.calm = true) (hu : X.A.units + 40 < cLine) : CallR X (.builtin "sorted") (rSortQ X.prog X.w X.K) := by
  intro pins s σ H vs us Q I r h
  obtain ⟨a, L, rfl, ha, hT, hal, hk, q⟩ := h
  obtain ⟨es, ep, t, R⟩ := tsO_get I ha
  rw [Vals.ref1 r]
  have few := R.few
  have sz := ents_len R.row
  obtain ⟨o, go, gx, gd⟩ := R.ob
  refine Calls.call_function_entry kind_sorted plain_sorted entry_sorted (args_sorted1 _) ?_
  unfold Builtin.«sorted»
  refine wpAny_bind (m := checkCount "sorted" 1 1 _) (wpAny_pure ?_)
  refine wpAny_bind (collect_set (A := X.A.in1) (I.ok.hd hc) ⟨o, go, gx.1, gd⟩ R.fit (by show es.size < 4096; omega) R.tab.ris R.led fun z vs keep hz g1 o1 pm => ?_)
  have em : es.toList.map (·.2) = L.map fun p => Value.ref p.1 := by
    rw [R.row]
    unfold ents
    rw [List.map_map]
    rfl
  rw [em] at pm
  obtain ⟨ys0, pl, rfl⟩ := perm_back pm
  have vlen : (ys0.map fun p => Value.ref p.1).length = L.length := by rw [List.length_map, pl.length_eq]
  refine wpAny_bind (wpAny_newList ?_ (by rw [vlen, sizeLine_eq]; omega))
  have hoL : (z.heap.push (seqObj "list" (ys0.map fun p => Value.ref p.1).toArray 0)).get? z.heap.objs.size = some (seqObj "list" (ys0.map fun p => Value.ref p.1).toArray 0) := Heap.get?_push_size _ rfl
  have alp : PySem.W.AllAlike (ys0.map fun x => tupD x.2) := fun x hx y hy => hal x ((pl.map _).mem_iff.mp hx) y ((pl.map _).mem_iff.mp hy)
  have skp : PySem.W.Sortable (ys0.map fun x => tupD x.2) := by
    rcases hk with q | q
    · exact .inl fun d hd => q d ((pl.map _).mem_iff.mp hd)
    · exact .inr fun d hd => q d ((pl.map _).mem_iff.mp hd)
  have rd : ∀ p ∈ ys0, ∃ as, Reads (z.heap.push (seqObj "list" (ys0.map fun p => Value.ref p.1).toArray 0)) (.ref p.1) (tupD p.2) as ∧ z.heap.objs.size ∉ as := fun p hp => by
    obtain ⟨as, ra⟩ := (dp_tup (hT p (pl.mem_iff.mp hp))).reads I (tupD p.2) _ (.ref p.1) rfl
    have rz := PyProof.Rows.Reads.keeps keep ra
    exact ⟨as, PyProof.Rows.Reads.keeps (fun b u e => Heap.get?_push_of_some _ e) rz, fun m => by
      obtain ⟨u, e⟩ := PyProof.On.reads_mem_get rz _ m
      exact Nat.lt_irrefl _ (Heap.lt_size e)⟩
  refine wpAny_bind (wpAny_holding (PySem.W.list_sort_data (A := X.A.in1) (R := fun v (x : Addr × List Key) => v = .ref x.1) (enc := fun x : Addr × List Key => tupD x.2) hoL (each_of_map (f := fun p : Addr × List Key => Value.ref p.1) (fun _ => rfl) ys0) (each_all (f := fun p : Addr × List Key => Value.ref p.1) rd) alp skp (by rw [pl.length_eq, sizeLine_eq]; omega) (fun x hx => by
    show X.A.units + 1 + 1 + (tupD x.2).depth < cLine
    rw [depth_tup]
    omega) fun out lo eo => ?_))
  obtain ⟨c, hcn⟩ := sortedHeap_at (vs := ys0.map fun p => Value.ref p.1) (out := List.toArray out) hoL
  refine wpAny_pure ⟨_, rfl, ?_⟩
  have ms := List.mergeSort_perm ys0 (PySem.W.dataLe false fun x : Addr × List Key => tupD x.2)
  have keep2 : ∀ b u, s.heap.get? b = some u → (sortedHeap (z.heap.push (seqObj "list" (ys0.map fun p => Value.ref p.1).toArray 0)) z.heap.objs.size (ys0.map fun p => Value.ref p.1) (List.toArray out)).get? b = some u := fun b u e => by
    have k := keep b u e
    have hlt := Heap.lt_size k
    rw [sortedHeap_old (Nat.ne_of_lt hlt) (by rw [size_push']; exact Nat.lt_succ_of_lt hlt)]
    exact Heap.get?_push_of_some _ k
  have hn : H z.heap.objs.size = none := I.hok.fresh hz
  have fin := q _ z.heap.objs.size (ms.trans pl) ((PySem.W.sort_pairwise (PySem.W.sortLe_total _ false _) _).imp fun {x y} h => by
    have h' : PySem.W.dataLe false (fun x : Addr × List Key => tupD x.2) x y = true := h
    rw [PySem.W.dataLe_eq] at h'
    have h2 : (!PySem.W.dataLt (tupD y.2) (tupD x.2)) = true := h'
    cases c : PySem.W.dataLt (tupD y.2) (tupD x.2) with
    | false => rfl
    | true => rw [c] at h2; cases h2) hn
  have hlen : ((ys0.mergeSort (PySem.W.dataLe false fun x : Addr × List Key => tupD x.2)).map fun x => V.ref x.1).length ≤ sizeLine := by
    rw [List.length_map, ms.length_eq, pl.length_eq, sizeLine_eq]
    omega
  have rel := refs_vals (g := fun x : Addr × List Key => x.1) eo
  generalize sortedHeap (z.heap.push (seqObj "list" (ys0.map fun p => Value.ref p.1).toArray 0)) z.heap.objs.size (ys0.map fun p => Value.ref p.1) (List.toArray out) = hF at keep2 hcn ⊢
  obtain ⟨zh, zg, zd, zt, zo⟩ := z
  dsimp only at *
  subst g1 o1
  refine ⟨.ref zh.objs.size, upd H zh.objs.size (.lst ((ys0.mergeSort (PySem.W.dataLe false fun x : Addr × List Key => tupD x.2)).map fun x => V.ref x.1)), ?_, rfl, fin⟩
  exact I.call (ch := []) (d' := zd) (t' := zt) (Un.laid keep2 hz hn) (I.hok.laid keep2 hz ⟨hlen, out, c, rel, hcn⟩) I.bare (fun _ z => nomatch z)
end
end L2

/-! sorted(d), d a dict whose keys are tuples of texts and ints -/
namespace L2
open PySem PySem.Froz PyProof.Rows PySem.Spec
def rSortDT (K : PySem.W.Frag) : List V → Hp → VK → Prop := fun vs H Q => ∃ (d : Addr) (kvs : List (List Key × V)), vs = [.ref d] ∧ Rd H d (.dT kvs) ∧ kvs.length ≤ 4000 ∧ PySem.W.AllAlike (kvs.map fun x => tupD x.1) ∧ PySem.W.Sortable (kvs.map fun x => tupD x.1) ∧
  ∀ (ys : List (Addr × List Key)) (p : Addr), (ys.map (·.2)).Perm (kvs.map (·.1)) → (∀ y ∈ ys, H y.1 = some (.tup (y.2.map kV))) → (ys.Pairwise fun x y => PySem.W.dataLt (tupD y.2) (tupD x.2) = false) → H p = none → Q (.ref p) (upd H p (.lst (ys.map fun x => V.ref x.1)))
theorem kt_keys {H : Hp} {kvs : List (List Key × V)} {ks : List (List Key × Addr × Value)} (r : KT H kvs ks) : kvs.map (·.1) = ks.map (·.1) ∧ ∀ x ∈ ks, H x.2.1 = some (.tup (x.1.map kV)) := by
  induction r with
  | nil => exact ⟨rfl, fun _ h => (nomatch h)⟩
  | @cons p q _ _ h t ih =>
    obtain ⟨h1, h2, h3⟩ := h
    refine ⟨by rw [List.map_cons, List.map_cons, h1, ih.1], fun x hx => ?_⟩
    rcases List.mem_cons.mp hx with rfl | hx
    · rw [← h1]; exact h2
    · exact ih.2 x hx
theorem eq_of_at {α β : Type} {f : β → α} : ∀ {l : List α} {m : List β}, l.length = m.length → (∀ (j : Nat) a b, l[j]? = some a → m[j]? = some b → a = f b) → l = m.map f
  | [], [], _, _ => rfl
  | [], _ :: _, h, _ => nomatch h
  | _ :: _, [], h, _ => nomatch h
  | a :: l, b :: m, h, g => by
    rw [List.map_cons, ← g 0 a b rfl rfl, ← eq_of_at (Nat.succ.inj h) fun j x y e e' => g (j + 1) x y e e']
section
variable {X : Cx}
theorem cr_sortDT (hc : X.calm = true) (hu : X.A.units + 40 < cLine) : CallR X (.builtin "sorted") (rSortDT X.K) := by
  intro pins s σ H vs us Q I r h
  obtain ⟨d, kvs, rfl, hd, few, hal, hk, q⟩ := h
  rw [Vals.ref1 r]
  obtain ⟨z0, hs, ks, pr, o, es, ep, ho, hx, hdt, he, hn⟩ := (show ObjOk X.prog X.w H s.heap d (.dT kvs) from hd.ok I.hok)
  have l1 : es.size = ks.length := size_of_entries he
  have l2 : kvs.length = ks.length := Paired.length pr
  obtain ⟨ek, tk⟩ := kt_keys pr
  refine Calls.call_function_entry kind_sorted plain_sorted entry_sorted (args_sorted1 _) ?_
  unfold Builtin.«sorted»
  refine wpAny_bind (m := checkCount "sorted" 1 1 _) (wpAny_pure ?_)
  refine wpAny_bind (PySem.W.kdu_collect (A := X.A.in1) (kdl_raw hs hx hdt) (I.ok.hd hc) ho (by omega) fun h' tkk acc' keep it => ?_)
  have ea : acc'.toList = ks.map fun x => Value.ref x.2.1 := by
    refine eq_of_at (by rw [Array.length_toList, it.1, l1]) fun j u b hu hb => ?_
    rw [Array.getElem?_toList] at hu
    obtain ⟨en, hen, rfl⟩ := it.2 j u hu
    have same := entry_at he j
    rw [hen, hb] at same
    rw [Option.some.inj same]
    rfl
  have I1 : Inv X pins σ H { s with heap := h', toks := tkk } := I.kept keep
  generalize hL : ks.map (fun x => ((x.2.1, x.1) : Addr × List Key)) = L
  have eaL : acc'.toList = L.map fun p => Value.ref p.1 := by rw [ea, ← hL, List.map_map]; rfl
  have eL : L.map (·.2) = kvs.map (·.1) := by rw [ek, ← hL, List.map_map]; rfl
  have tL : ∀ y ∈ L, H y.1 = some (.tup (y.2.map kV)) := fun y hy => by
    rw [← hL] at hy
    obtain ⟨x, hx, rfl⟩ := List.mem_map.mp hy
    exact tk x hx
  have lL : L.length ≤ 4000 := by
    have := congrArg List.length eL
    rw [List.length_map, List.length_map] at this
    omega
  rw [eaL]
  clear ea eaL it hL
  refine wpAny_bind (wpAny_newList ?_ (by rw [List.length_map, sizeLine_eq]; omega))
  have hoL : (h'.push (seqObj "list" (L.map fun p => Value.ref p.1).toArray 0)).get? h'.objs.size = some (seqObj "list" (L.map fun p => Value.ref p.1).toArray 0) := Heap.get?_push_size _ rfl
  have eD : (kvs.map fun x => tupD x.1) = L.map fun x => tupD x.2 := by
    have := congrArg (List.map tupD) eL
    rw [List.map_map, List.map_map] at this
    exact this.symm
  rw [eD] at hal hk
  have rd : ∀ p ∈ L, ∃ as, Reads (h'.push (seqObj "list" (L.map fun p => Value.ref p.1).toArray 0)) (.ref p.1) (tupD p.2) as ∧ h'.objs.size ∉ as := fun p hp => by
    obtain ⟨as, ra⟩ := (dp_tup (SqT.of (tL p hp))).reads I1 (tupD p.2) _ (.ref p.1) rfl
    exact ⟨as, PyProof.Rows.Reads.keeps (fun b u e => Heap.get?_push_of_some _ e) ra, fun m => by
      obtain ⟨u, e⟩ := PyProof.On.reads_mem_get ra _ m
      exact Nat.lt_irrefl _ (Heap.lt_size e)⟩
  refine wpAny_bind (wpAny_holding (PySem.W.list_sort_data (A := X.A.in1) (R := fun v (x : Addr × List Key) => v = .ref x.1) (enc := fun x : Addr × List Key => tupD x.2) hoL (each_of_map (f := fun p : Addr × List Key => Value.ref p.1) (fun _ => rfl) L) (each_all (f := fun p : Addr × List Key => Value.ref p.1) rd) hal hk (by rw [sizeLine_eq]; omega) (fun x _ => by
    show X.A.units + 1 + 1 + (tupD x.2).depth < cLine
    rw [depth_tup]
    omega) fun out lo eo => ?_))
  obtain ⟨c, hcn⟩ := sortedHeap_at (vs := L.map fun p => Value.ref p.1) (out := List.toArray out) hoL
  refine wpAny_pure ⟨_, rfl, ?_⟩
  have ms := List.mergeSort_perm L (PySem.W.dataLe false fun x : Addr × List Key => tupD x.2)
  have keep2 : ∀ b u, h'.get? b = some u → (sortedHeap (h'.push (seqObj "list" (L.map fun p => Value.ref p.1).toArray 0)) h'.objs.size (L.map fun p => Value.ref p.1) (List.toArray out)).get? b = some u := fun b u k => by
    have hlt := Heap.lt_size k
    rw [sortedHeap_old (Nat.ne_of_lt hlt) (by rw [size_push']; exact Nat.lt_succ_of_lt hlt)]
    exact Heap.get?_push_of_some _ k
  have hn : H h'.objs.size = none := I1.hok.fresh (Nat.le_refl _)
  have fin := q _ h'.objs.size (by rw [← eL]; exact ms.map _) (fun y hy => tL y (ms.mem_iff.mp hy)) ((PySem.W.sort_pairwise (PySem.W.sortLe_total _ false _) _).imp fun {x y} h => by
    have h' : PySem.W.dataLe false (fun x : Addr × List Key => tupD x.2) x y = true := h
    rw [PySem.W.dataLe_eq] at h'
    have h2 : (!PySem.W.dataLt (tupD y.2) (tupD x.2)) = true := h'
    cases c : PySem.W.dataLt (tupD y.2) (tupD x.2) with
    | false => rfl
    | true => rw [c] at h2; cases h2) hn
  have hlen : ((L.mergeSort (PySem.W.dataLe false fun x : Addr × List Key => tupD x.2)).map fun x => V.ref x.1).length ≤ sizeLine := by
    rw [List.length_map, ms.length_eq, sizeLine_eq]
    omega
  have rel := refs_vals (g := fun x : Addr × List Key => x.1) eo
  generalize sortedHeap (h'.push (seqObj "list" (L.map fun p => Value.ref p.1).toArray 0)) h'.objs.size (L.map fun p => Value.ref p.1) (List.toArray out) = hF at keep2 hcn ⊢
  refine ⟨.ref h'.objs.size, upd H h'.objs.size (.lst ((L.mergeSort (PySem.W.dataLe false fun x : Addr × List Key => tupD x.2)).map fun x => V.ref x.1)), ?_, rfl, fin⟩
  exact I1.laid (t' := _) keep2 (Nat.le_refl _) ⟨hlen, out, c, rel, hcn⟩
end
end L2

/-! list(d.items()), d a dict whose keys are tuples of texts and ints -/
namespace L2
open PySem PySem.Spec PyProof.Rows
section
variable {prog : Program} {w : World} {A : Around} {E : Value → Shared → Prop} {s : Shared} {r d : Addr} {es : Array DictEntry} {ep : Nat}
/-- list(view): its pairs, each a new tuple, behind a new list -/
theorem list_items {Q : Value → Shared → Prop} (calm : A.handled = none) (hv : s.heap.IsItemsView r d) (raw : DT.Raw s.heap d es ep) (few : es.size ≤ sizeLine)
    (q : ∀ h' tk acc c as, (∀ b o, s.heap.get? b = some o → h'.get? b = some o) → h'.get? s.heap.objs.size = some { cls := .type "list", dict := none, data := .seq acc c, slots := #[] } → as.length = es.size → DT.Made es s.heap.objs.size h' as → acc.toList = as.map Value.ref → Q (.ref s.heap.objs.size) { s with heap := h', toks := tk }) :
    wpAny (model prog w) A (call (.type "list") [.ref r]) Q E s := by
  have rlt : r < s.heap.objs.size := by obtain ⟨_, ho, _⟩ := hv; exact Heap.lt_size ho
  have dlt : d < s.heap.objs.size := raw.lt
  refine callType_codes (Q₁ := fun v z => v = .ref s.heap.objs.size ∧ z = { s with heap := s.heap.push { cls := .type "list", data := .seq #[] } }) PySem.F.called_list (PySem.F.typeCall_list_1 _) PySem.F.entry_list_init (code_list_new _ ⟨rfl, rfl⟩) ?_
  rintro v z ⟨rfl, rfl⟩
  have bare : (s.heap.push { cls := .type "list", data := .seq #[] }).get? s.heap.objs.size = some { cls := .type "list", data := .seq #[] } := Heap.get?_push_size _ rfl
  refine ⟨⟨_, bare, rfl⟩, PySem.F.args_list_init_2 _ _, ?_⟩
  show wpAny _ _ (Builtin.List.listItems (.ref s.heap.objs.size) >>= fun old => Builtin.List.listUpdate (.ref s.heap.objs.size) (fun _ => #[]) >>= fun _ => letGo old.toList.reverse >>= fun _ => Builtin.List.listExtendWith (.ref s.heap.objs.size) (.ref r) .none) _ _ _
  unfold Builtin.List.listItems
  refine wpAny_bind (wpAny_bind (wpAny_seqItems bare rfl (wpAny_pure ?_)))
  refine wpAny_bind ?_
  show wpAny _ _ (updateSeq s.heap.objs.size (fun _ => #[])) _ _ _
  refine wpAny_updateSeq bare rfl ?_
  have bare2 := Heap.get?_update_self (Obj.mapSeq (fun _ => (#[] : Array Value))) bare rfl
  have far : ∀ b o, b ≠ s.heap.objs.size → (s.heap.push { cls := .type "list", data := .seq #[] }).get? b = some o → ((s.heap.push { cls := .type "list", data := .seq #[] }).update s.heap.objs.size (Obj.mapSeq (fun _ => (#[] : Array Value)))).get? b = some o :=
    fun b o n e => (Heap.get?_update_other _ _ (Ne.symm n)).trans e
  refine wpAny_bind (wpAny_letGo ?_)
  have old : ∀ b o, s.heap.get? b = some o → ((s.heap.push { cls := .type "list", data := .seq #[] }).update s.heap.objs.size (Obj.mapSeq (fun _ => (#[] : Array Value)))).get? b = some o := fun b o e => far b o (Nat.ne_of_lt (Heap.lt_size e)) (Heap.get?_push_of_some _ e)
  refine DT.extI (s := { s with heap := (s.heap.push { cls := .type "list", data := .seq #[] }).update s.heap.objs.size (Obj.mapSeq (fun _ => (#[] : Array Value))) }) (es := es) (ep := ep) (by simpa using calm) (let ⟨o, ho, x⟩ := hv; ⟨o, old _ _ ho, x⟩) (raw.at' fun o e => old _ _ e) s.heap.objs.size (Nat.ne_of_gt rlt) (Nat.ne_of_lt dlt) .none _ bare2 ?_ few
  intro h' tk acc c as keep own len made eq
  have sz : s.heap.objs.size ≤ ((s.heap.push { cls := .type "list", data := .seq #[] }).update s.heap.objs.size (Obj.mapSeq (fun _ => (#[] : Array Value)))).objs.size := Nat.le_of_lt (Heap.lt_size bare2)
  exact ⟨rfl, q h' tk acc c as (fun b o e => keep b o (Nat.ne_of_lt (Heap.lt_size e)) (old b o e)) own len (made.low sz) eq⟩
end
def rListIt (K : PySem.W.Frag) : List V → Hp → VK → Prop := fun vs H Q => ∃ (p d : Addr) (kvs : List (List Key × V)), vs = [.ref p] ∧ H p = some (DX.itemsO p d) ∧ H d = some (.dT kvs) ∧ kvs.length ≤ 4000 ∧
  ∀ H' l (as : List Addr), (∀ b o, H b = some o → H' b = some o) → H' l = some (.lst (as.map V.ref)) → Paired (fun a (kv : List Key × V) => ∃ q, H' a = some (.tup [.ref q, kv.2]) ∧ H' q = some (.tup (kv.1.map kV))) as kvs → Q (.ref l) H'
theorem paired_at {α β : Type} {R : α → β → Prop} : ∀ {l : List α} {m : List β}, l.length = m.length → (∀ (j : Nat) a b, l[j]? = some a → m[j]? = some b → R a b) → Paired R l m
  | [], [], _, _ => .nil
  | [], _ :: _, h, _ => nomatch h
  | _ :: _, [], h, _ => nomatch h
  | a :: l, b :: m, h, f => .cons (f 0 a b rfl rfl) (paired_at (Nat.succ.inj h) fun j x y e e' => f (j + 1) x y (by rw [List.getElem?_cons_succ]; exact e) (by rw [List.getElem?_cons_succ]; exact e'))
section
variable {X : Cx}
theorem cr_listItems (hc : X.calm = true) : CallR X (.type "list") (rListIt X.K) := by
  intro pins s σ H vs us Q I r h
  obtain ⟨p, d, kvs, rfl, hp, hd, few, q⟩ := h
  rw [Vals.ref1 r]
  have view : s.heap.IsItemsView p d := (show ObjOk X.prog X.w H s.heap p (DX.itemsO p d) from I.hok p _ hp).1
  obtain ⟨z0, hs, ks, pr, o, es, ep, ho, hx, hdt, he, hn⟩ := dt_of I.hok hd
  have l1 : es.size = ks.length := size_of_entries he
  have l2 : kvs.length = ks.length := Paired.length pr
  refine list_items (es := es) (ep := ep) (I.ok.hd hc) view ⟨o, ho, hx, hdt⟩ (by omega) fun h' tk acc c as keep own len made eq => ?_
  have hn0 : H s.heap.objs.size = none := I.hok.fresh (Nat.le_refl _)
  have nd : as.Nodup := made.rise.imp fun h => Nat.ne_of_lt h
  -- the pairs that were made
  have pairs : ∀ (j : Nat) (a : Addr) (kv : List Key × V), as[j]? = some a → kvs[j]? = some kv → ∃ (q : Addr) (u : Value), h'.get? a = some { cls := .type "tuple", data := .seq #[Value.ref q, u] } ∧ RelV kv.2 u ∧ H q = some (.tup (kv.1.map kV)) := by
    intro j a kv ha hkv
    obtain ⟨en, hen, hg⟩ := made.pairs j a ha
    obtain ⟨x, hx', e1, e2, e3⟩ := paired_get pr hkv
    have qe := entry_at he j
    rw [hx', hen] at qe
    have e4 : en = entryOfKey (tupleKind (mixKind X.prog X.w)) x := Option.some.inj qe
    rw [e4] at hg
    exact ⟨x.2.1, x.2.2, hg, e3, e2⟩
  have Il : Inv X pins σ (upd H s.heap.objs.size (.lst (as.map V.ref))) { s with heap := h', toks := tk } :=
    I.laid keep (Nat.le_refl _) ⟨by rw [List.length_map, len, l1, ← l2, sizeLine_eq]; omega, as.map Value.ref, c, vals_refs as, by rw [← eq]; simpa using own⟩
  obtain ⟨H2, I2, g2, t2⟩ := DX.takeT (P := fun a vs => ∃ (j : Nat) (kv : List Key × V) (q : Addr), as[j]? = some a ∧ kvs[j]? = some kv ∧ vs = [.ref q, kv.2] ∧ H q = some (.tup (kv.1.map kV))) I as _ Il nd fun a ha => by
    obtain ⟨j, hj⟩ := List.mem_iff_getElem?.mp ha
    have jl : j < as.length := (List.getElem?_eq_some_iff.mp hj).1
    have hkv := List.getElem?_eq_getElem (l := kvs) (i := j) (by omega)
    obtain ⟨q, u, hg, ru, hq⟩ := pairs j a _ hj hkv
    have lo : s.heap.objs.size ≤ a := Nat.le_of_lt (made.above a ha)
    refine ⟨lo, ?_, _, ⟨j, _, q, hj, hkv, rfl, hq⟩, fun H3 => ⟨(by rw [sizeLine_eq]; show 2 ≤ 16777216; omega), [Value.ref q, u], .cons rfl (.cons ru .nil), ⟨_, hg, rfl, 0, rfl⟩⟩⟩
    rw [upd_ne (Nat.ne_of_gt (made.above a ha))]
    exact I.hok.fresh lo
  have up : ∀ b o, H b = some o → H2 b = some o := fun b o e => g2 b o (by rw [upd_ne (ne_of_none e hn0)]; exact e)
  refine ⟨.ref s.heap.objs.size, H2, I2, rfl, q H2 _ as up (g2 _ _ upd_same) (paired_at (by omega) fun j a kv ha hkv => ?_)⟩
  obtain ⟨vs, ⟨i, kv', q', hi, hk', ev, hq'⟩, hH⟩ := t2 a (List.mem_of_getElem? ha)
  have eij : i = j := (List.getElem?_inj (List.getElem?_eq_some_iff.mp hi).1 nd).mp (hi.trans ha.symm)
  subst eij
  have ekv : kv' = kv := Option.some.inj (hk'.symm.trans hkv)
  subst ekv
  rw [ev] at hH
  exact ⟨q', hH, up _ _ hq'⟩
end
end L2

/-! dicts whose keys are texts: d.update(d2), sorted(d) -/
namespace L2
open PySem PySem.Spec PyProof.Rows PySem.Froz
/-- what a dict becomes by another -/
def mergeV (kvs more : List (Key × V)) : List (Key × V) := more.foldl (fun a p => putK a p.1 p.2) kvs
theorem kv_merge : ∀ {more : List (Key × V)} {mv : List (Key × Value)} {kvs : List (Key × V)} {vs : List (Key × Value)}, KV kvs vs → KV more mv → KV (mergeV kvs more) (merged vs mv)
  | _, _, _, _, r, .nil => r
  | (k, v) :: more, (k', u) :: mv, kvs, vs, r, .cons h t => by
    obtain ⟨e, rv⟩ := h
    cases (show k = k' from e)
    exact kv_merge (more := more) (mv := mv) (r.put k rv) t
theorem merge_len : ∀ (more kvs : List (Key × V)), (mergeV kvs more).length ≤ kvs.length + more.length
  | [], kvs => Nat.le_refl _
  | p :: more, kvs => by
    have h := merge_len more (putK kvs p.1 p.2)
    have := length_putK kvs p.1 p.2
    show (mergeV (putK kvs p.1 p.2) more).length ≤ _
    rw [List.length_cons]
    omega
section
variable {X : Cx}
def rUpdK : V → List V → Hp → VK → Prop := fun x vs H Q => ∃ (d b : Addr) (kvs more : List (Key × V)), x = .ref d ∧ vs = [.ref b] ∧ d ≠ b ∧ H d = some (.dK kvs) ∧ H b = some (.dK more) ∧ kvs.length + more.length ≤ sizeLine ∧ Q .non (upd H d (.dK (mergeV kvs more)))
theorem mt_updK : MtR X "dict.update" rUpdK := by
  intro pins s σ H x vs v us Q I rx rv h
  obtain ⟨d, b, kvs, more, rfl, rfl, ne, hd, hb, hz, q⟩ := h
  cases rx
  obtain ⟨u, rfl, ru⟩ := rv.one
  cases ru
  obtain ⟨z1, n1, v1, r1, d1⟩ := dk_of I.hok hd
  obtain ⟨z2, n2, v2, r2, d2⟩ := dk_of I.hok hb
  have l1 := r1.length
  have l2 := r2.length
  refine call_meetsIn PySem.F.slot_dict_update d1.typeIs PySem.F.entry_dict_update (PySem.F.args_dict_update_2 _ _) (meets_dict_update (mixKind X.prog X.w) d b ne n2) ⟨v1, v2, d1, d2, by omega, fun h' m1 m2 sb => ?_⟩
  refine ⟨.non, _, d_write I (by rw [hd]; exact True.intro) sb (let ⟨o, _, _, ho, _⟩ := m1; ⟨o, ho⟩) (dk_new ?_ n1 (kv_merge r1 r2) m1), rfl, q⟩
  exact Nat.le_trans (merge_len more kvs) hz
def rSortDS : List V → Hp → VK → Prop := fun vs H Q => ∃ (d : Addr) (kvs : List (Key × V)) (ks : List Str), vs = [.ref d] ∧ Rd H d (.dK kvs) ∧ kvs.map (·.1) = ks.map Sum.inr ∧ ks.length < 64 ∧
  ∀ (ys : List Str) (p : Addr), ys.Perm ks → sortedS ys = true → H p = none → Q (.ref p) (upd H p (.lst (ys.map V.str)))
theorem keys_text {P : Program} {w : World} : ∀ {es : List DictEntry} {vs : List (Key × Value)} {ks : List Str}, Pairs (mixKind P w) es vs → vs.map (·.1) = ks.map Sum.inr → StrsAre (es.map (·.key)) ks
  | _, _, [], .nil, _ => .nil
  | _, _, _ :: _, .nil, e => nomatch e
  | _, _, [], .cons _ _ _, e => nomatch e
  | _, _, k :: ks, .cons (e := en) (kv := kv) h _ t, e => by
    rw [List.map_cons, List.map_cons] at e
    injection e with e1 e2
    rw [e1] at h
    obtain ⟨tk, ek⟩ := Value.isStrOf_shape (x := k) (v := en.key) h
    rw [List.map_cons, ek]
    exact .cons k tk (keys_text t e2)
theorem kv_keys {kvs : List (Key × V)} {vs : List (Key × Value)} (r : KV kvs vs) : vs.map (·.1) = kvs.map (·.1) := by
  unfold KV at r
  induction r with
  | nil => rfl
  | cons h _ ih => rw [List.map_cons, List.map_cons, ih, h.1]
theorem cr_sortDS (hc : X.calm = true) : CallR X (.builtin "sorted") rSortDS := by
  intro pins s σ H vs us Q I r h
  obtain ⟨d, kvs, ks, rfl, hd, ek, few, q⟩ := h
  rw [Vals.ref1 r]
  obtain ⟨z0, hs, mv, pr, o, es, ep, ho, hx, hdt, hkk, hpp, hn⟩ := (show ObjOk X.prog X.w H s.heap d (.dK kvs) from hd.ok I.hok)
  have s1 : StrsAre (es.toList.map (·.key)) ks := keys_text hpp ((kv_keys pr).trans ek)
  have lk : es.size = ks.length := by
    have := s1.length
    rw [List.length_map, Array.length_toList] at this
    exact this
  refine Calls.call_function_entry kind_sorted plain_sorted entry_sorted (args_sorted1 _) ?_
  unfold Builtin.«sorted»
  refine wpAny_bind (m := checkCount "sorted" 1 1 _) (wpAny_pure ?_)
  refine wpAny_bind (PySem.W.kdu_collect (A := X.A.in1) (kdl_raw hs hx hdt) (I.ok.hd hc) ho (by rw [sizeLine_eq]; omega) fun h' tkk acc' keep it => ?_)
  have ea : acc'.toList = es.toList.map (·.key) := by
    refine eq_of_at (by rw [Array.length_toList, it.1, Array.length_toList]) fun j u b hu hb => ?_
    rw [Array.getElem?_toList] at hu
    obtain ⟨en, hen, rfl⟩ := it.2 j u hu
    rw [Array.getElem?_toList, hen] at hb
    rw [Option.some.inj hb]
  have I1 : Inv X pins σ H { s with heap := h', toks := tkk } := I.kept keep
  have p1 : StrsAre acc'.toList ks := by rw [ea]; exact s1
  generalize acc'.toList = vs at p1
  have vlen : vs.length = ks.length := p1.length
  refine wpAny_bind (wpAny_newList ?_ (by rw [vlen, sizeLine_eq]; omega))
  have hoL : (h'.push (seqObj "list" vs.toArray 0)).get? h'.objs.size = some (seqObj "list" vs.toArray 0) := Heap.get?_push_size _ rfl
  refine wpAny_bind (wpAny_holding (wpAny_call_entry slot_list_sort ⟨_, hoL, rfl⟩ entry_list_sort (list_sort_treeKAny strKind_oneLt hoL p1.keysOf (fun v₁ v₂ rest e => keyKind_strs (by rw [← e]; exact p1)) (by rw [vlen, sizeLine_eq]; omega) fun st' a1 a2 => ⟨_, rfl, ?_⟩) (args_list_sort _)))
  obtain ⟨ys, b1, b2, b3⟩ := sorted_out_str p1 a1 a2
  obtain ⟨c, hcn⟩ := sortedHeap_at (vs := vs) (out := (arrOf st').map (·.2)) hoL
  refine wpAny_pure ⟨_, rfl, ?_⟩
  generalize (arrOf st').map (·.2) = out at b1 hcn ⊢
  have hlen : (ys.map V.str).length ≤ sizeLine := by rw [List.length_map, b2.length_eq, sizeLine_eq]; omega
  have nw : H h'.objs.size = none := I1.hok.fresh (Nat.le_refl _)
  have keep2 : ∀ b u, h'.get? b = some u → (sortedHeap (h'.push (seqObj "list" vs.toArray 0)) h'.objs.size vs out).get? b = some u := fun b u k => by
    have hlt := Heap.lt_size k
    rw [sortedHeap_old (Nat.ne_of_lt hlt) (by rw [size_push']; exact Nat.lt_succ_of_lt hlt)]
    exact Heap.get?_push_of_some _ k
  refine ⟨.ref h'.objs.size, upd H h'.objs.size (.lst (ys.map V.str)), ?_, rfl, q ys _ b2 b3 nw⟩
  exact I1.laid (t' := _) keep2 (Nat.le_refl _) ⟨hlen, out.toList, c, vals_of_strs b1, hcn⟩
end
end L2

/-! d.items() and list(d.items()), d a dict whose keys are texts -/
namespace L2
open PySem PySem.Spec PyProof.Rows
theorem pairs_at {P : Program} {w : World} : ∀ {es : List DictEntry} {vs : List (Key × Value)}, Pairs (mixKind P w) es vs → es.length = vs.length ∧ ∀ {j : Nat} {e : DictEntry} {kv : Key × Value}, es[j]? = some e → vs[j]? = some kv → (mixKind P w).is kv.1 e.key = true ∧ e.val = kv.2
  | _, _, .nil => ⟨rfl, fun h _ => by cases h⟩
  | _, _, .cons h1 h2 t => by
    obtain ⟨l, f⟩ := pairs_at t
    refine ⟨by simp [l], fun {j e kv} he hv => ?_⟩
    cases j with
    | zero => cases he; cases hv; exact ⟨h1, h2⟩
    | succ j => exact f he hv
def rItemsK : V → List V → Hp → VK → Prop := fun x xs H Q => ∃ (a : Addr) (kvs : List (Key × V)), x = .ref a ∧ xs = [] ∧ H a = some (.dK kvs) ∧ ∀ p, H p = none → Q (.ref p) (upd H p (DX.itemsO p a))
def rListItK (K : PySem.W.Frag) : List V → Hp → VK → Prop := fun vs H Q => ∃ (p d : Addr) (kvs : List (Key × V)) (zs : List Str), vs = [.ref p] ∧ H p = some (DX.itemsO p d) ∧ H d = some (.dK kvs) ∧ kvs.map (·.1) = zs.map Sum.inr ∧ kvs.length ≤ 4000 ∧
  ∀ H' l (as : List Addr), (∀ b o, H b = some o → H' b = some o) → H' l = some (.lst (as.map V.ref)) → Paired (fun a (kv : Key × V) => H' a = some (.tup [kV kv.1, kv.2])) as kvs → Q (.ref l) H'
section
variable {X : Cx}
theorem mt_itemsK : MtR X "dict.items" rItemsK := by
  rintro pns st τ G x xs v us Q J rx rxs ⟨a, kvs, rfl, rfl, ha, q⟩
  cases rx
  cases rxs
  obtain ⟨_, nsm, vs, _, ob, es, ep, at_, exact_, data_, _⟩ := dk_of J.hok ha
  refine DT.callItems (es := es) (ep := ep) nsm ⟨ob, at_, exact_, data_⟩ ?_
  exact ⟨.ref st.heap.objs.size, upd G st.heap.objs.size (DX.itemsO st.heap.objs.size a), J.laid (t' := st.toks) (fun _ _ e => Heap.get?_push_of_some _ e) (Nat.le_refl _) (DX.itemsO_ok (Heap.get?_push_size _ rfl)), rfl, q _ (J.hok.fresh (Nat.le_refl _))⟩
theorem cr_listItemsK (calm : X.calm = true) : CallR X (.type "list") (rListItK X.K) := by
  rintro pns st τ G ws us Q J r ⟨p, d, kvs, zs, rfl, gp, gd, txt, few, q⟩
  rw [Vals.ref1 r]
  have view : st.heap.IsItemsView p d := (show ObjOk X.prog X.w G st.heap p (DX.itemsO p d) from J.hok p _ gp).1
  obtain ⟨_, nsm, vs, rel, ob, es, ep, at_, exact_, data_, _, prs, _⟩ := dk_of J.hok gd
  obtain ⟨len1, look⟩ := pairs_at prs
  rw [Array.length_toList] at len1
  have len2 : kvs.length = vs.length := Paired.length rel
  refine list_items (es := es) (ep := ep) (J.ok.hd calm) view ⟨ob, at_, exact_, data_⟩ (by rw [sizeLine_eq]; omega) fun hp tk acc c as keep own len made eq => ?_
  have fresh : G st.heap.objs.size = none := J.hok.fresh (Nat.le_refl _)
  have apart : as.Nodup := made.rise.imp fun h => Nat.ne_of_lt h
  have each : ∀ (j : Nat) (a : Addr) (kv : Key × V), as[j]? = some a → kvs[j]? = some kv → ∃ (y u : Value), hp.get? a = some { cls := .type "tuple", data := .seq #[y, u] } ∧ RelV (kV kv.1) y ∧ RelV kv.2 u := by
    intro j a kv ha hkv
    obtain ⟨en, hen, at2⟩ := made.pairs j a ha
    obtain ⟨kw, hkw, e1, e2⟩ := paired_get rel hkv
    obtain ⟨i1, i2⟩ := look (by rw [Array.getElem?_toList]; exact hen) hkw
    have tx : ∃ z, kv.1 = .inr z := by
      have e := congrArg (fun x => x[j]?) txt
      rw [List.getElem?_map, hkv, List.getElem?_map] at e
      cases cz : zs[j]? with
      | none => rw [cz] at e; cases e
      | some z => rw [cz] at e; exact ⟨z, Option.some.inj e⟩
    obtain ⟨z, hz⟩ := tx
    have hk : kw.1 = .inr z := by rw [← e1, hz]
    rw [hk] at i1
    obtain ⟨tk2, ek⟩ := Value.isStrOf_shape (x := z) (v := en.key) i1
    refine ⟨en.key, en.val, at2, ?_, by rw [i2]; exact e2⟩
    rw [hz, ek]
    exact ⟨tk2, rfl⟩
  have big : kvs.length = as.length := by rw [len, len1, len2]
  have Il : Inv X pns τ (upd G st.heap.objs.size (.lst (as.map V.ref))) { st with heap := hp, toks := tk } :=
    J.laid keep (Nat.le_refl _) ⟨by rw [List.length_map, ← big, sizeLine_eq]; omega, as.map Value.ref, c, vals_refs as, by rw [← eq]; simpa using own⟩
  obtain ⟨G2, I2, g2, t2⟩ := DX.takeT (P := fun a vs => ∃ (j : Nat) (kv : Key × V), as[j]? = some a ∧ kvs[j]? = some kv ∧ vs = [kV kv.1, kv.2]) J as _ Il apart fun a ha => by
    obtain ⟨j, hj⟩ := List.mem_iff_getElem?.mp ha
    have jl : j < as.length := (List.getElem?_eq_some_iff.mp hj).1
    have hkv := List.getElem?_eq_getElem (l := kvs) (i := j) (by omega)
    obtain ⟨y, u, at2, ry, ru⟩ := each j a _ hj hkv
    have lo : st.heap.objs.size ≤ a := Nat.le_of_lt (made.above a ha)
    refine ⟨lo, ?_, _, ⟨j, _, hj, hkv, rfl⟩, fun H3 => ⟨(by rw [sizeLine_eq]; show 2 ≤ 16777216; omega), [y, u], .cons ry (.cons ru .nil), ⟨_, at2, rfl, 0, rfl⟩⟩⟩
    rw [upd_ne (Nat.ne_of_gt (made.above a ha))]
    exact J.hok.fresh lo
  have up : ∀ b o, G b = some o → G2 b = some o := fun b o e => g2 b o (by rw [upd_ne (ne_of_none e fresh)]; exact e)
  refine ⟨.ref st.heap.objs.size, G2, I2, rfl, q G2 _ as up (g2 _ _ upd_same) (paired_at big.symm fun j a kv ha hkv => ?_)⟩
  obtain ⟨ws, ⟨i, kv', hi, hk', ev⟩, hH⟩ := t2 a (List.mem_of_getElem? ha)
  have eij : i = j := (List.getElem?_inj (List.getElem?_eq_some_iff.mp hi).1 apart).mp (hi.trans ha.symm)
  subst eij
  have ekv : kv' = kv := Option.some.inj (hk'.symm.trans hkv)
  subst ekv
  rw [ev] at hH
  exact hH
end
end L2

/-! dicts whose keys are tuples of any depth, wherever these stand (also constants of a module) -/
namespace L2
open PySem PySem.Spec PyProof.Rows
mutual
inductive NkV (K : PySem.W.Frag) (H : Hp) : NestedKey → V → Prop
  | non : NkV K H .none .non
  | int (i : Int) : NkV K H (.num i) (.int i)
  | str (x : Str) : NkV K H (.text x) (.str x)
  | tup {a : Addr} {vs : List V} {ks : List NestedKey} (h : SqT K H a vs) (hs : NkA K H ks vs) : NkV K H (.tup ks) (.ref a)
inductive NkA (K : PySem.W.Frag) (H : Hp) : List NestedKey → List V → Prop
  | nil : NkA K H [] []
  | cons {k : NestedKey} {v : V} {ks : List NestedKey} {vs : List V} (h : NkV K H k v) (hs : NkA K H ks vs) : NkA K H (k :: ks) (v :: vs)
end
mutual
theorem NkV.mono {K : PySem.W.Frag} {H H' : Hp} (f : ∀ a vs, SqT K H a vs → SqT K H' a vs) : ∀ (k : NestedKey) (v : V), NkV K H k v → NkV K H' k v
  | .none, _, h => by cases h; exact .non
  | .num i, _, h => by cases h; exact .int i
  | .text x, _, h => by cases h; exact .str x
  | .tup ks, _, h => by
    cases h with
    | tup h hs => exact .tup (f _ _ h) (NkA.mono f ks _ hs)
theorem NkA.mono {K : PySem.W.Frag} {H H' : Hp} (f : ∀ a vs, SqT K H a vs → SqT K H' a vs) : ∀ (ks : List NestedKey) (vs : List V), NkA K H ks vs → NkA K H' ks vs
  | [], _, h => by cases h; exact .nil
  | k :: ks, _, h => by
    cases h with
    | cons h hs => exact .cons (NkV.mono f k _ h) (NkA.mono f ks _ hs)
end
section
variable {X : Cx} {pins : List (Addr × Obj)} {σ : St} {H : Hp} {s : Shared}
mutual
theorem nkv_is (I : Inv X pins σ H s) : ∀ (k : NestedKey) (v : V) (u : Value), NkV X.K H k v → RelV v u → NestedIs s.heap k u
  | .none, _, u, h, r => by
    cases h
    obtain rfl : u = Value.none := r
    exact .none
  | .num i, _, u, h, r => by
    cases h
    obtain ⟨t, rfl⟩ : ∃ t, u = Value.int i t := r
    exact .int i t
  | .text x, _, u, h, r => by
    cases h
    obtain ⟨t, rfl⟩ : ∃ t, u = Value.str x t := r
    exact .text x t
  | .tup ks, _, u, h, r => by
    cases h with
    | @tup a vs _ h hs =>
      obtain rfl : u = Value.ref a := r
      obtain ⟨us, rv, ⟨o, g, c, n, d⟩, -⟩ := I.tuple h
      exact .tup g c d (nka_is I ks vs us hs rv)
theorem nka_is (I : Inv X pins σ H s) : ∀ (ks : List NestedKey) (vs : List V) (us : List Value), NkA X.K H ks vs → Vals vs us → NestedAll s.heap ks us
  | [], _, us, h, r => by
    cases h
    cases r
    exact .nil
  | k :: ks, _, us, h, r => by
    cases h with
    | cons h hs =>
      cases r with
      | cons r1 r2 => exact .cons (nkv_is I k _ _ h r1) (nka_is I ks _ _ hs r2)
end
end
/-- the tuple at a is the key k -/
def NkT (K : PySem.W.Frag) (H : Hp) (k : NestedKey) (a : Addr) : Prop := NkV K H k (.ref a) ∧ k.depth ≤ 8
abbrev NE := NestedKey × Addr × V
/-- the keys stand where they stood -/
def NksAt (K : PySem.W.Frag) (H : Hp) (xs : List NE) : Prop := ∀ x ∈ xs, NkT K H x.1 x.2.1
def valN (xs : List NE) (k : NestedKey) : Option V := (xs.find? fun x => decide (x.1 = k)).map (·.2.2)
def putN (xs : List NE) (k : NestedKey) (a : Addr) (v : V) : List NE := if (valN xs k).isSome then xs.map (fun x => if x.1 = k then (x.1, x.2.1, v) else x) else xs ++ [(k, a, v)]
abbrev NVs : List NE → List (NestedKey × Addr × Value) → Prop := Paired fun p q => p.1 = q.1 ∧ p.2.1 = q.2.1 ∧ RelV p.2.2 q.2.2
theorem NVs.val {xs : List NE} {ys : List (NestedKey × Addr × Value)} (r : NVs xs ys) (k : NestedKey) : RelO (valN xs k) ((atKey ys k).map (·.2)) := by
  unfold valN atKey
  induction r with
  | nil => exact trivial
  | @cons p q ps qs h t ih =>
    obtain ⟨e, e2, rv⟩ := h
    by_cases z : p.1 = k
    · rw [List.find?_cons_of_pos (by simp [z]), List.find?_cons_of_pos (by simp [← e, z])]
      exact rv
    · rw [List.find?_cons_of_neg (by simp [z]), List.find?_cons_of_neg (by simp [← e, z])]
      exact ih
theorem NVs.put {xs : List NE} {ys : List (NestedKey × Addr × Value)} (r : NVs xs ys) (k : NestedKey) (a : Addr) {v : V} {u : Value} (rv : RelV v u) : NVs (putN xs k a v) (storedH ys k a u) := by
  have e : (valN xs k).isSome = (atKey ys k).isSome := by
    have h := (r.val k).isSome_eq
    rw [Option.isSome_map] at h
    exact h
  unfold putN storedH
  rw [e]
  by_cases q : (atKey ys k).isSome = true
  · rw [if_pos q, if_pos q]
    clear e q
    induction r with
    | nil => exact .nil
    | @cons p q ps qs h t ih =>
      obtain ⟨e, e2, rv0⟩ := h
      refine .cons ?_ ih
      by_cases z : p.1 = k
      · have z2 : q.1 = k := e.symm.trans z
        simp only [putAt, if_pos z, if_pos z2]
        exact ⟨e, e2, rv⟩
      · have z2 : ¬ q.1 = k := fun y => z (e.trans y)
        simp only [putAt, if_neg z, if_neg z2]
        exact ⟨e, e2, rv0⟩
  · rw [if_neg q, if_neg q]
    exact Paired.snoc r ⟨rfl, rfl, rv⟩
theorem putN_len (xs : List NE) (k : NestedKey) (a : Addr) (v : V) : (putN xs k a v).length ≤ xs.length + 1 := by
  unfold putN
  split
  · rw [List.length_map]; omega
  · rw [List.length_append]; exact Nat.le_refl _
theorem NksAt.put {K : PySem.W.Frag} {H : Hp} {xs : List NE} {k : NestedKey} {a : Addr} (v : V) (h : NksAt K H xs) (hk : NkT K H k a) : NksAt K H (putN xs k a v) := by
  unfold putN
  split
  · intro x hx
    obtain ⟨y, hy, rfl⟩ := List.mem_map.mp hx
    have q := h y hy
    split <;> exact q
  · intro x hx
    rcases List.mem_append.mp hx with q | q
    · exact h x q
    · rw [List.mem_singleton.mp q]; exact hk
def DnIs (P : Program) (w : World) (h : Heap) (d : Addr) (xs : List NE) : Prop := xs.length ≤ sizeLine ∧ (d == sysModules) = false ∧ ∃ ys, NVs xs ys ∧ ∃ o es ep, h.get? d = some o ∧ o.ExactDict ∧ o.data = .dict es ep ∧ es.toList = ys.map (entryOfKey (nestedKind P w)) ∧ (ys.map (·.1)).Nodup
/-- the dict at d, with these keys, in the order of insertion -/
def DnO (P : Program) (w : World) (d : Addr) (xs : List NE) : HO := .ext fun h => DnIs P w h d xs
section
variable {X : Cx} {P : Program} {w : World} {pins : List (Addr × Obj)} {σ : St} {H : Hp} {s : Shared} {A : Around} {E : Value → Shared → Prop} {d : Addr} {xs : List NE}
theorem dnIs_move {h h' : Heap} (R : DnIs P w h d xs) (k : ∀ o, h.get? d = some o → h'.get? d = some o) : DnIs P w h' d xs := by
  obtain ⟨z, y, ys, r, o, es, ep, g, q⟩ := R
  exact ⟨z, y, ys, r, o, es, ep, k o g, q⟩
theorem dnO_new {h : Heap} (R : DnIs P w h d xs) : ObjOk P w H h d (DnO P w d xs) := by
  obtain ⟨z, y, ys, r, o, es, ep, g, q⟩ := id R
  exact ⟨R, ⟨o, g⟩, fun h1 h2 p k => dnIs_move p k⟩
theorem dn_at (I : Inv X pins σ H s) (h : Rd H d (DnO X.prog X.w d xs)) (hk : NksAt X.K H xs) : xs.length ≤ sizeLine ∧ (d == sysModules) = false ∧ ∃ ys, NVs xs ys ∧ s.heap.DictOfH (nestedKind X.prog X.w) d ys := by
  obtain ⟨⟨z, y, ys, r, o, es, ep, g, gx, gd, ge, nd⟩, -⟩ := h.ok I.hok
  refine ⟨z, y, ys, r, o, es, ep, g, gx, gd, ge, ?_, nd⟩
  intro q hq
  obtain ⟨i, hi⟩ := List.mem_iff_getElem?.mp hq
  have all : ∀ {l : List NE} {m : List (NestedKey × Addr × Value)}, NVs l m → (∀ x ∈ l, NkT X.K H x.1 x.2.1) → ∀ x ∈ m, (nestedKind X.prog X.w).is s.heap x.1 x.2.1 := by
    intro l m q
    induction q with
    | nil => intro _ x hx; exact nomatch hx
    | @cons p q ps qs hq t ih =>
      intro hl x hx
      rcases List.mem_cons.mp hx with e | hx
      · subst e
        have hp := hl p (.head _)
        rw [hq.1, hq.2.1] at hp
        exact ⟨nkv_is I _ _ _ hp.1 rfl, hp.2⟩
      · exact ih (fun x hx => hl x (.tail _ hx)) x hx
  exact all r hk q hq
theorem nkt_is (I : Inv X pins σ H s) {k : NestedKey} {a : Addr} (h : NkT X.K H k a) : (nestedKind X.prog X.w).is s.heap k a := ⟨nkv_is I _ _ _ h.1 rfl, h.2⟩
/-- {}, that such keys will be put into -/
def tDNewN (P : Program) (w : World) : TE := fun _ H Q => ∀ p, H p = none → Q (.ref p) (upd H p (DnO P w p []))
theorem pe_dnewN {pos : Pos} : PE X (.Dict [] [] pos) (tDNewN X.prog X.w) := ⟨fun pins s σ H Q I h =>
  wpAny_Dict_empty ⟨.ref s.heap.objs.size, _, I.laid (a := s.heap.objs.size) (o := DnO X.prog X.w s.heap.objs.size []) (t' := s.toks) (fun _ _ q => Heap.get?_push_of_some _ q) (Nat.le_refl _)
    (dnO_new ⟨Nat.zero_le _, beq_eq_false_iff_ne.mpr (Ne.symm (Nat.ne_of_lt I.big)), [], .nil, _, #[], 0, Heap.get?_push_size _ rfl, ⟨rfl, rfl, rfl⟩, rfl, rfl, List.nodup_nil⟩), rfl, h _ (I.hok.fresh (Nat.le_refl _))⟩⟩
/-- d[k], there -/
def rIxN (P : Program) (w : World) (K : PySem.W.Frag) : R2 := fun x y H Q => ∃ (d a : Addr) (xs : List NE) (k : NestedKey) (v : V), x = .ref d ∧ y = .ref a ∧ Rd H d (DnO P w d xs) ∧ NksAt K H xs ∧ NkT K H k a ∧ valN xs k = some v ∧ Q v H
theorem ix_dictN (hu : X.A.units + 9 < cLine) : IxR X (rIxN X.prog X.w X.K) := by
  intro value slice pins s σ H x y v u Q I rx ry h hs
  obtain ⟨d, a, xs, k, w1, rfl, rfl, hd, hk, ha, hv, q⟩ := h
  cases rx
  cases ry
  obtain ⟨z, y, ys, r, dd⟩ := dn_at I hd hk
  obtain ⟨w', hw, rw'⟩ := RelO.some_of (v := w1) (o := (atKey ys k).map (·.2)) (by rw [← hv]; exact r.val k)
  obtain ⟨p, hp, hp2⟩ := Option.map_eq_some_iff.mp hw
  refine tail_any dd.typeIs slot_dict_getitem.lookup (wpAny_getItem_heap (by show X.A.units + 1 + 8 < cLine; omega) (nkt_is I ha) dd hp ?_) hs
  rw [hp2]
  exact ⟨w1, H, I.tok _, rw', q⟩
/-- k in d, k not in d -/
def rInN (P : Program) (w : World) (K : PySem.W.Frag) : R2 := fun x y H Q => ∃ (d a : Addr) (xs : List NE) (k : NestedKey), x = .ref a ∧ y = .ref d ∧ Rd H d (DnO P w d xs) ∧ NksAt K H xs ∧ NkT K H k a ∧ Q (.bl (valN xs k).isSome) H
def rNinN (P : Program) (w : World) (K : PySem.W.Frag) : R2 := fun x y H Q => ∃ (d a : Addr) (xs : List NE) (k : NestedKey), x = .ref a ∧ y = .ref d ∧ Rd H d (DnO P w d xs) ∧ NksAt K H xs ∧ NkT K H k a ∧ Q (.bl !(valN xs k).isSome) H
theorem op_inN (hu : X.A.units + 9 < cLine) : OpR X (compareOp .In) (rInN X.prog X.w X.K) := by
  intro pins s σ H x y v u Q I rx ry h
  obtain ⟨d, a, xs, k, rfl, rfl, hd, hk, ha, q⟩ := h
  cases rx
  cases ry
  obtain ⟨z, y, ys, r, dd⟩ := dn_at I hd hk
  refine wpAny_in_heap (by show X.A.units + 1 + 8 < cLine; omega) (nkt_is I ha) y dd ?_
  have e := (r.val k).isSome_eq
  rw [Option.isSome_map] at e
  rw [← e]
  exact ⟨.bl _, _, I.tok _, rfl, q⟩
theorem op_ninN (hu : X.A.units + 9 < cLine) : OpR X (compareOp .NotIn) (rNinN X.prog X.w X.K) := by
  intro pins s σ H x y v u Q I rx ry h
  obtain ⟨d, a, xs, k, rfl, rfl, hd, hk, ha, q⟩ := h
  cases rx
  cases ry
  obtain ⟨z, y, ys, r, dd⟩ := dn_at I hd hk
  refine wpAny_notIn_heap (by show X.A.units + 1 + 8 < cLine; omega) (nkt_is I ha) y dd ?_
  have e := (r.val k).isSome_eq
  rw [Option.isSome_map] at e
  rw [← e]
  exact ⟨.bl _, _, I.tok _, rfl, q⟩
/-- d.get(k, x) -/
def rGetN (P : Program) (w : World) (K : PySem.W.Frag) : V → List V → Hp → VK → Prop := fun x vs H Q => ∃ (d a : Addr) (xs : List NE) (k : NestedKey) (v : V), x = .ref d ∧ vs = [.ref a, v] ∧ Rd H d (DnO P w d xs) ∧ NksAt K H xs ∧ NkT K H k a ∧ Q ((valN xs k).getD v) H
theorem mt_getN (hu : X.A.units + 9 < cLine) : MtR X "dict.get" (rGetN X.prog X.w X.K) := by
  intro pins s σ H x vs v us Q I rx rvs h
  obtain ⟨d, a, xs, k, dv, rfl, rfl, hd, hk, ha, q⟩ := h
  cases rx
  obtain ⟨z, y, ys, r, dd⟩ := dn_at I hd hk
  cases rvs with
  | cons r1 rr =>
    cases rr with
    | cons r2 rr =>
      cases rr
      cases r1
      refine call_meetsIn PySem.F.slot_dict_get dd.typeIs PySem.F.entry_dict_get (PySem.F.args_dict_get_3 _ _ _) (meetsH_dict_get_default (nestedKind X.prog X.w) d a y _) ⟨by show X.A.units + 1 + 8 < cLine; omega, k, ys, nkt_is I ha, dd, ?_⟩
      exact ⟨_, _, I.tok _, (r.val k).getD r2, q⟩
def tGetN (P : Program) (w : World) (K : PySem.W.Frag) (td ty tx : TE) : TE := fun σ H Q => td σ H fun x H1 => ∃ (d : Addr) (xs : List NE), x = .ref d ∧ Rd H1 d (DnO P w d xs) ∧ ty σ H1 fun y H2 => tx σ H2 fun z H3 => rGetN P w K (.ref d) [y, z] H3 Q
theorem pe_dgetN {o e f : Expr} {apos cpos : Pos} {td ty tx : TE} (hu : X.A.units + 9 < cLine) (ho : PE X o td) (he : PE X e ty) (hf : PE X f tx) (m : M2 X o "get" apos e f cpos) : PE X (.Call (.Attribute o "get" apos) [e, f] [] cpos) (tGetN X.prog X.w X.K td ty tx) := by
  refine ⟨fun pins s σ H Q I h => ?_⟩
  refine wpAny_Call_method m.base m.few m.line PySem.F.plainAttrs_dict PySem.F.slot_dict_get PySem.F.type_dict_get (thn (ho.run pins s σ H _ I h) fun u s1 ⟨x, H1, I1, rx, d, xs, ex, hd, q1⟩ => ?_)
  subst ex
  obtain rfl : u = Value.ref d := rx
  obtain ⟨⟨z, y, ys, r, ob, es, ep, g, gx, gd, ge, nd⟩, -⟩ := hd.ok I1.hok
  refine ⟨⟨ob, g, gx.1⟩, fun b q => by cases q; exact ⟨ob, g, gx.2.1⟩, ?_⟩
  rw [m.trees]
  refine Calls.callWith_builtin rfl (Calls.evalArgs_plain (Calls.spliced_cons (thn (he.run pins s1 σ H1 _ I1 q1) fun iv s2 ⟨y, H2, I2, ry, q2⟩ =>
    Calls.spliced_cons (thn (hf.run pins s2 σ H2 _ I2 q2) fun fv s3 ⟨z, H3, I3, rz, q3⟩ => Calls.spliced_nil ?_))))
  exact mt_getN hu pins s3 σ H3 (.ref d) [y, z] (.ref d) [iv, fv] Q I3 rfl (.cons ry (.cons rz .nil)) q3
/-- d[k] = v -/
def rSetN (P : Program) (w : World) (K : PySem.W.Frag) : TSet := fun o i v H Q => ∃ (d a : Addr) (xs : List NE) (k : NestedKey), o = .ref d ∧ i = .ref a ∧ H d = some (DnO P w d xs) ∧ NksAt K H xs ∧ NkT K H k a ∧ xs.length < sizeLine ∧ Q (upd H d (DnO P w d (putN xs k a v)))
theorem set_dictN (hu : X.A.units + 9 < cLine) : PSet X (rSetN X.prog X.w X.K) := by
  intro pins s σ H o i v ov iv u Q I ro ri rv h
  obtain ⟨d, a, xs, k, rfl, rfl, hd, hk, ha, l, q⟩ := h
  cases ro
  cases ri
  obtain ⟨z, y, ys, r, dd⟩ := dn_at I (.inl hd) hk
  have hz : ys.length ≤ sizeLine := by rw [← Paired.length r]; exact z
  refine wpAny_setItem_heap (hsz := hz) (by show X.A.units + 1 + 8 < cLine; omega) (nkt_is I ha) dd fun h' dd' hs => ⟨_, ?_, q⟩
  obtain ⟨o, es, ep, hq, h2, h3, h4, _, h5⟩ := dd'
  refine d_write I (by rw [hd]; exact True.intro) hs ⟨o, hq⟩ (dnO_new ⟨?_, y, _, r.put k a rv, o, es, ep, hq, h2, h3, h4, h5⟩)
  have := putN_len xs k a v
  omega
/-- the keys of the locked dict at d, in their order -/
def Itkn (P : Program) (w : World) (d : Addr) (o : Obj) (xs : List NE) : It :=
  ⟨fun i H => H d = some (.frz o (DnO P w d xs)) ∧ i < xs.length, fun i H x H' => H' = H ∧ ∃ (k : NestedKey) (v : V) (q : Addr), xs[i]? = some (k, q, v) ∧ x = .ref q, fun i H => H d = some (.frz o (DnO P w d xs)) ∧ xs.length ≤ i⟩
theorem frzN (I : Inv X pins σ H s) {o : Obj} (h : H d = some (.frz o (DnO X.prog X.w d xs))) : (d == sysModules) = false ∧ s.heap.get? d = some o ∧ o.ExactDict ∧ ∃ (es : Array DictEntry) (ep : Nat), o.data = .dict es ep ∧ es.size = xs.length ∧
    ∀ (i : Nat) (k : NestedKey) (q : Addr) (v : V), xs[i]? = some (k, q, v) → ∃ en : DictEntry, es[i]? = some en ∧ en.key = .ref q ∧ RelV v en.val := by
  obtain ⟨hd, ⟨z, y, ys, r, o', es, ep, g, gx, gd, ge, nd⟩, -⟩ := I.hok d _ h
  rw [hd] at g
  cases g
  refine ⟨y, hd, gx, es, ep, gd, ?_, fun i k q v e => ?_⟩
  · have l1 : es.size = ys.length := size_of_entries ge
    have l2 : xs.length = ys.length := Paired.length r
    omega
  · obtain ⟨b, hb, e1, e2, e3⟩ := paired_get r e
    have q' := entry_at ge i
    rw [hb] at q'
    exact ⟨_, q', by show Value.ref b.2.1 = _; rw [← e2], e3⟩
theorem turn_keysN {K : PySem.W.Frag} {tg : Expr} {o : Obj} {es : Array DictEntry} {ep : Nat} (it : Addr) (hod : o.data = .dict es ep) : Turn P w K tg (Itkn P w d o xs) [it] it (fun i h => h.IsKeyIter it d i xs.length ep) where
  mem := List.mem_singleton.mpr rfl
  obj := fun i h st b hb => by
    rw [List.mem_singleton.mp hb]
    obtain ⟨oi, e, c, dd⟩ := st
    exact ⟨oi, e, fun v z => by rw [dd] at z; cases z⟩
  keep := fun i h h' st k => st.at fun oi e => k it (List.mem_singleton.mpr rfl) oi e
  item := by
    rintro X rfl rfl rfl calm i pins s σ H E I own st ⟨hd, hi⟩
    obtain ⟨f0, f1, f2, f3, f4, f5⟩ := own it (List.mem_singleton.mpr rfl)
    obtain ⟨hs, hgd, hx, es', ep', hdt, hsz, ent⟩ := frzN I hd
    obtain ⟨rfl, rfl⟩ := dict_ep hod hdt
    obtain ⟨⟨k, q, v⟩, hkv⟩ : ∃ p, xs[i]? = some p := ⟨_, List.getElem?_eq_getElem hi⟩
    obtain ⟨en, hen, hkey, -⟩ := ent i k q v hkv
    refine next_key_item st hgd hdt hsz hen fun h' st' sb => ?_
    have I1 : Inv X pins σ H { s with heap := h' } := I.turned (t' := s.toks) (fun b ob hb e => (sb.2 b hb).trans e) f0 f1 f3 f4 f5
    obtain ⟨oi, e, c, dd⟩ := id st'
    rw [hkey]
    exact ⟨.ref q, rfl, go_of (s := { s with heap := h' }) e c dd (by decide) ⟨.ref q, H, I1, rfl, ⟨rfl, k, v, q, hkv, rfl⟩, st', fun b hb => (own b hb).1⟩⟩
  done := by
    rintro X rfl rfl rfl calm i pins s σ H E I own st ⟨hd, hi⟩
    obtain ⟨f0, f1, f2, f3, f4, f5⟩ := own it (List.mem_singleton.mpr rfl)
    obtain ⟨hs, hgd, hx, es', ep', hdt, hsz, ent⟩ := frzN I hd
    obtain ⟨rfl, rfl⟩ := dict_ep hod hdt
    exact next_key_end (I.ok.hd calm) st hgd hdt hsz hi fun h' eb => ⟨rfl, I.turned (t' := s.toks) (fun b ob hb e => eb b ob hb e) f0 f1 f3 f4 f5⟩
  self := fun A i s Q E st h => wpAny_pyIter_keyiter st h
def iKeysN (P : Program) (w : World) (td : TE) : TI := fun σ H R => td σ H fun x H1 => ∃ d o xs, x = .ref d ∧ H1 d = some (.frz o (DnO P w d xs)) ∧ R (Itkn P w d o xs) H1
theorem pi_keysN {tg e : Expr} {td : TE} (he : PE X e td) : PI X tg e (iKeysN X.prog X.w td) := by
  refine ⟨fun pins s σ H R I h => ?_⟩
  refine thn (he.run pins s σ H _ I h) fun u s1 ⟨x, H1, I1, rx, d, o, xs, ex, hd, q⟩ => ?_
  subst ex
  obtain rfl : u = Value.ref d := rx
  obtain ⟨hs, hgd, hx, es, ep, hdt, hsz, ent⟩ := frzN I1 hd
  refine iter_keys hs hgd hx hdt (pi_one (tk := s1.toks) I1 _ (turn_keysN _ hdt) ⟨_, Heap.get?_push_size _ rfl, rfl, ?_⟩ q)
  rw [hsz] <;> rfl
theorem walk_keysN {o : Obj} : Walk (Itkn P w d o xs) xs.length (fun H => H d = some (.frz o (DnO P w d xs))) (fun i H x H' => H' = H ∧ ∃ (k : NestedKey) (v : V) (q : Addr), xs[i]? = some (k, q, v) ∧ x = .ref q) :=
  ⟨fun _ _ hi q => ⟨q, hi⟩, fun _ q => ⟨q, Nat.le_refl _⟩, fun _ _ _ _ _ _ y => y⟩
end
end L2

/-! d.items() and list(d.items()), d a dict whose keys are tuples of any depth -/
namespace L2
open PySem PySem.Spec PyProof.Rows
def rItemsN (P : Program) (w : World) : V → List V → Hp → VK → Prop := fun x xs H Q => ∃ (a : Addr) (es : List NE), x = .ref a ∧ xs = [] ∧ H a = some (DnO P w a es) ∧ ∀ p, H p = none → Q (.ref p) (upd H p (DX.itemsO p a))
def rListItN (P : Program) (w : World) : List V → Hp → VK → Prop := fun vs H Q => ∃ (p d : Addr) (xs : List NE), vs = [.ref p] ∧ H p = some (DX.itemsO p d) ∧ H d = some (DnO P w d xs) ∧ xs.length ≤ 100000 ∧
  ∀ H' l (as : List Addr), (∀ b o, H b = some o → H' b = some o) → H l = none → H' l = some (.lst (as.map V.ref)) → Paired (fun a (x : NE) => H' a = some (.tup [.ref x.2.1, x.2.2])) as xs → Q (.ref l) H'
section
variable {X : Cx}
theorem mt_itemsN : MtR X "dict.items" (rItemsN X.prog X.w) := by
  rintro pns st τ G x xs v us Q J rx rxs ⟨a, es, rfl, rfl, ha, q⟩
  cases rx
  cases rxs
  obtain ⟨⟨z, nsm, ys, r, o', ds, ep, at_, exact_, data_, ge, nd⟩, -⟩ := J.hok a _ ha
  refine DT.callItems (es := ds) (ep := ep) nsm ⟨o', at_, exact_, data_⟩ ?_
  exact ⟨.ref st.heap.objs.size, upd G st.heap.objs.size (DX.itemsO st.heap.objs.size a), J.laid (t' := st.toks) (fun _ _ e => Heap.get?_push_of_some _ e) (Nat.le_refl _) (DX.itemsO_ok (Heap.get?_push_size _ rfl)), rfl, q _ (J.hok.fresh (Nat.le_refl _))⟩
theorem cr_listItemsN (calm : X.calm = true) : CallR X (.type "list") (rListItN X.prog X.w) := by
  rintro pns st τ G ws us Q J r ⟨p, d, xs, rfl, gp, gd, few, q⟩
  rw [Vals.ref1 r]
  have view : st.heap.IsItemsView p d := (show ObjOk X.prog X.w G st.heap p (DX.itemsO p d) from J.hok p _ gp).1
  obtain ⟨⟨z, nsm, ys, rel, o', es, ep, at_, exact_, data_, ge, nd⟩, -⟩ := J.hok d _ gd
  have len1 : es.size = ys.length := size_of_entries ge
  have len2 : xs.length = ys.length := Paired.length rel
  refine list_items (es := es) (ep := ep) (J.ok.hd calm) view ⟨o', at_, exact_, data_⟩ (by rw [sizeLine_eq]; omega) fun hp tk acc c as keep own len made eq => ?_
  have fresh : G st.heap.objs.size = none := J.hok.fresh (Nat.le_refl _)
  have apart : as.Nodup := made.rise.imp fun h => Nat.ne_of_lt h
  have each : ∀ (j : Nat) (a : Addr) (x : NE), as[j]? = some a → xs[j]? = some x → ∃ (y u : Value), hp.get? a = some { cls := .type "tuple", data := .seq #[y, u] } ∧ RelV (.ref x.2.1) y ∧ RelV x.2.2 u := by
    intro j a x ha hkv
    obtain ⟨en, hen, at2⟩ := made.pairs j a ha
    obtain ⟨b, hb, e0, e1, e2⟩ := paired_get rel hkv
    have q' := entry_at ge j
    rw [hb] at q'
    have ee := Option.some.inj (hen.symm.trans q')
    subst ee
    exact ⟨_, _, at2, by show Value.ref b.2.1 = _; rw [← e1], e2⟩
  have big : xs.length = as.length := by rw [len, len1, len2]
  have Il : Inv X pns τ (upd G st.heap.objs.size (.lst (as.map V.ref))) { st with heap := hp, toks := tk } :=
    J.laid keep (Nat.le_refl _) ⟨by rw [List.length_map, ← big, sizeLine_eq]; omega, as.map Value.ref, c, vals_refs as, by rw [← eq]; simpa using own⟩
  obtain ⟨G2, I2, g2, t2⟩ := DX.takeT (P := fun a vs => ∃ (j : Nat) (x : NE), as[j]? = some a ∧ xs[j]? = some x ∧ vs = [.ref x.2.1, x.2.2]) J as _ Il apart fun a ha => by
    obtain ⟨j, hj⟩ := List.mem_iff_getElem?.mp ha
    have jl : j < as.length := (List.getElem?_eq_some_iff.mp hj).1
    have hkv := List.getElem?_eq_getElem (l := xs) (i := j) (by omega)
    obtain ⟨y, u, at2, ry, ru⟩ := each j a _ hj hkv
    have lo : st.heap.objs.size ≤ a := Nat.le_of_lt (made.above a ha)
    refine ⟨lo, ?_, _, ⟨j, _, hj, hkv, rfl⟩, fun H3 => ⟨(by rw [sizeLine_eq]; show 2 ≤ 16777216; omega), [y, u], .cons ry (.cons ru .nil), ⟨_, at2, rfl, 0, rfl⟩⟩⟩
    rw [upd_ne (Nat.ne_of_gt (made.above a ha))]
    exact J.hok.fresh lo
  have up : ∀ b o, G b = some o → G2 b = some o := fun b o e => g2 b o (by rw [upd_ne (ne_of_none e fresh)]; exact e)
  refine ⟨.ref st.heap.objs.size, G2, I2, rfl, q G2 _ as up fresh (g2 _ _ upd_same) (paired_at big.symm fun j a x ha hkv => ?_)⟩
  obtain ⟨ws, ⟨i, x', hi, hk', ev⟩, hH⟩ := t2 a (List.mem_of_getElem? ha)
  have eij : i = j := (List.getElem?_inj (List.getElem?_eq_some_iff.mp hi).1 apart).mp (hi.trans ha.symm)
  subst eij
  have ekv : x' = x := Option.some.inj (hk'.symm.trans hkv)
  subst ekv
  rw [ev] at hH
  exact hH
def tItN (P : Program) (w : World) (to : TE) : TE := fun σ H Q => to σ H fun x H1 => rItemsN P w x [] H1 Q
theorem pe_itemsN {o : Expr} {to : TE} {apos cpos : Pos} (ho : PE X o to) (hbase : attributeBase o "items" X.env (eval o X.env) = eval o X.env := by rfl) (hline : (apos.endLine == cpos.line) = true := by rfl) :
    PE X (.Call (.Attribute o "items" apos) [] [] cpos) (tItN X.prog X.w to) := by
  refine ⟨fun pins s σ H Q I h => ?_⟩
  refine wpAny_Call_method0_late hbase hline (thn (ho.run pins s σ H _ I h) fun v s1 ⟨x, H1, I1, r1, q1⟩ => ?_)
  obtain ⟨a, es, rfl, _, ha, q⟩ := id q1
  obtain rfl : v = Value.ref a := r1
  obtain ⟨⟨z, y, ys, r, ob, ds, ep, g, gx, gd, ge, nd⟩, -⟩ := I1.hok a _ ha
  refine ⟨"dict", "dict.items", PySem.F.plainAttrs_dict, PySem.F.slot_dict_items, PySem.F.type_dict_items, ⟨ob, g, gx.1⟩, fun b q => by cases q; exact ⟨ob, g, gx.2.1⟩, Calls.callWith_builtin rfl (PySem.evalArgs_none (mt_itemsN pins s1 σ H1 (.ref a) [] (.ref a) [] Q I1 rfl .nil q1))⟩
end
end L2

/-! dicts with tuple keys: their pairs walked, their values as a list, a display of one pair -/
namespace L2
open PySem PySem.Spec PyProof.Rows
/-- the pairs of the locked dict at d, each a new tuple of the key's own tuple and the value -/
def Itit (d : Addr) (o : Obj) (kvs : List (List Key × V)) : It :=
  ⟨fun i H => H d = some (.frz o (.dT kvs)) ∧ i < kvs.length, fun i H x H' => ∃ (T q : Addr) (k : List Key) (v : V), kvs[i]? = some (k, v) ∧ x = .ref T ∧ H T = none ∧ H q = some (.tup (k.map kV)) ∧ H' = upd H T (.tup [.ref q, v]), fun i H => H d = some (.frz o (.dT kvs)) ∧ kvs.length ≤ i⟩
/-- what a locked dict of tuple keys is in the heap -/
theorem frzT_all {X : Cx} {pins : List (Addr × Obj)} {σ : St} {H : Hp} {s : Shared} {d : Addr} {o : Obj} {kvs : List (List Key × V)} (I : Inv X pins σ H s) (h : H d = some (.frz o (.dT kvs))) :
    (d == sysModules) = false ∧ ∃ (es : Array DictEntry) (ep : Nat), o.data = .dict es ep ∧ s.heap.DictRaw d es ep ∧ es.size = kvs.length ∧
      ∀ (i : Nat) (hi : i < es.size) (k : List Key) (v : V), kvs[i]? = some (k, v) → ∃ q : Addr, es[i].key = .ref q ∧ H q = some (.tup (k.map kV)) ∧ RelV v es[i].val := by
  obtain ⟨hd, z, hs, xs, pr, o', es, ep, ho, hx, hdt, he, _⟩ := I.hok d _ h
  rw [hd] at ho
  cases ho
  refine ⟨hs, es, ep, hdt, ⟨o, hd, hx, hdt⟩, ?_, fun i hi k v e => ?_⟩
  · have l1 : es.size = xs.length := size_of_entries he
    have l2 : kvs.length = xs.length := Paired.length pr
    omega
  · obtain ⟨b, hb, e1, e2, e3⟩ := paired_get pr e
    have q := entry_at he i
    rw [hb, Array.getElem?_eq_getElem hi] at q
    have q' : es[i] = entryOfKey (tupleKind (mixKind X.prog X.w)) b := Option.some.inj q
    exact ⟨b.2.1, by rw [q']; rfl, e2, by rw [q']; exact e3⟩
section
variable {P : Program} {w : World} {K : PySem.W.Frag} {d : Addr} {o : Obj} {es : Array DictEntry} {ep : Nat}
theorem turn_itemsT {kvs : List (List Key × V)} {elts : List Expr} {kk : Nat} {tpos : Pos} (it : Addr) (hod : o.data = .dict es ep) :
    Turn P w K (.Tuple elts kk tpos) (Itit d o kvs) [it] it (fun i h => ∃ ok ov, IsItemIter h it d i kvs.length ep ok ov) where
  mem := List.mem_singleton.mpr rfl
  obj := fun i h st b hb => by
    rw [List.mem_singleton.mp hb]
    obtain ⟨ok, ov, e⟩ := st
    exact ⟨_, e, fun v z => nomatch z⟩
  keep := fun i h h' st k => by
    obtain ⟨ok, ov, e⟩ := st
    exact ⟨ok, ov, k it (List.mem_singleton.mpr rfl) _ e⟩
  item := by
    rintro X rfl rfl rfl calm i pins s σ H E I own ⟨ok, ov, iter⟩ ⟨hd, hi⟩
    obtain ⟨hs, es', ep', hdt, raw, sz, ent⟩ := frzT_all I hd
    obtain ⟨rfl, rfl⟩ := dict_ep hod hdt
    obtain ⟨⟨k, v⟩, hkv⟩ : ∃ p, kvs[i]? = some p := ⟨_, List.getElem?_eq_getElem hi⟩
    have hi' : i < es'.size := by omega
    obtain ⟨q, e1, e2, e3⟩ := ent i hi' k v hkv
    rw [← sz] at iter
    have below : it < s.heap.objs.size := Heap.lt_size iter
    refine wpAny_pyNext_items_item_raw iter raw hi' fun h' out new size kp => ?_
    refine ⟨_, rfl, wpAny_letOwnedTupleGo_items (s := { s with heap := h' }) out fun h2 iter2 sb => ?_⟩
    have at2 : h2.get? s.heap.objs.size = some { cls := .type "tuple", data := .seq #[es'[i].key, es'[i].val] } := (sb.2 _ (Nat.ne_of_gt below)).trans new
    have made : ObjOk X.prog X.w (upd H s.heap.objs.size (.tup [.ref q, v])) h2 s.heap.objs.size (.tup [.ref q, v]) :=
      ⟨(by decide : 2 ≤ sizeLine), [es'[i].key, es'[i].val], .cons e1 (.cons e3 .nil), ⟨_, at2, rfl, _, rfl⟩⟩
    have I1 : Inv X pins σ (upd H s.heap.objs.size (.tup [.ref q, v])) { s with heap := h2 } :=
      I.turnedNew (t' := s.toks) (ch := [it]) (fun b ob hb e => (sb.2 b fun z => hb (List.mem_singleton.mpr z)).trans (kp b ob (fun z => hb (List.mem_singleton.mpr z)) e)) own (Nat.le_refl _) made
    refine ⟨.ref s.heap.objs.size, _, I1, rfl, ⟨_, q, k, v, hkv, rfl, I.hok.fresh (Nat.le_refl _), e2, rfl⟩, ⟨_, _, sz ▸ iter2⟩, fun b hb => ?_⟩
    rw [List.mem_singleton.mp hb, upd_ne (Nat.ne_of_lt below)]
    exact (own it (List.mem_singleton.mpr rfl)).1
  done := by
    rintro X rfl rfl rfl calm i pins s σ H E I own ⟨ok, ov, iter⟩ ⟨hd, hi⟩
    obtain ⟨f0, f1, f2, f3, f4, f5⟩ := own it (List.mem_singleton.mpr rfl)
    obtain ⟨hs, es', ep', hdt, raw, sz, ent⟩ := frzT_all I hd
    obtain ⟨rfl, rfl⟩ := dict_ep hod hdt
    rw [← sz] at iter
    exact wpAny_pyNext_items_end_raw (I.ok.hd calm) iter raw (by omega) fun h' eb => ⟨rfl, I.turned (t' := s.toks) (fun b ob hb e => eb b ob hb e) f0 f1 f3 f4 f5⟩
  self := fun A i s Q E st h => by
    obtain ⟨_, _, e⟩ := st
    exact PySem.W.kcp_self e h
theorem walk_itemsT {kvs : List (List Key × V)} : Walk (Itit d o kvs) kvs.length (fun H => H d = some (.frz o (.dT kvs)))
    (fun i H x H' => ∃ (T q : Addr) (k : List Key) (v : V), kvs[i]? = some (k, v) ∧ x = .ref T ∧ H T = none ∧ H q = some (.tup (k.map kV)) ∧ H' = upd H T (.tup [.ref q, v])) :=
  ⟨fun i H hi h => ⟨h, hi⟩, fun H h => ⟨h, Nat.le_refl _⟩, fun i H x H' _ _ h => h⟩
end
def iItemsT (td : TE) : TI := fun σ H R => td σ H fun x H1 => ∃ d o kvs, x = .ref d ∧ H1 d = some (.frz o (.dT kvs)) ∧ R (Itit d o kvs) H1
section
variable {X : Cx} {e : Expr} {td : TE} {apos cpos : Pos}
theorem pi_itemsT {elts : List Expr} {kk : Nat} {tpos : Pos} (he : PE X e td) (hbase : attributeBase e "items" X.env (eval e X.env) = eval e X.env := by rfl) (hline : (apos.endLine == cpos.line) = true := by rfl) :
    PI X (.Tuple elts kk tpos) (.Call (.Attribute e "items" apos) [] [] cpos) (iItemsT td) := by
  constructor
  intro pins s σ H R I h
  refine wpAny_Call_method (T := "dict") (id := "dict.items") hbase rfl hline F.plainAttrs_dict F.slot_dict_items F.type_dict_items (thn (he.run pins s σ H _ I h) ?_)
  rintro u s1 ⟨x, H1, I1, rx, d, o, kvs, rfl, hd, q⟩
  obtain rfl : u = Value.ref d := rx
  obtain ⟨hs, es, ep, hdt, raw, sz, ent⟩ := frzT_all I1 hd
  have ty := raw.typeIs
  refine ⟨ty, ?_, ?_⟩
  · obtain ⟨ob, g1, g2, g3⟩ := raw
    intro o' e'
    cases e'
    exact ⟨ob, g1, g2.2.1⟩
  · have I2 : Inv X pins σ H1 { s1 with heap := s1.heap.push { cls := .type "dict_items", data := .fields #[.ref d] } } := I1.kept (t' := s1.toks) fun b ob q => Heap.get?_push_of_some _ q
    have fin : wpAny (model X.prog X.w) X.A (pyIter (.ref s1.heap.objs.size)) (PIE X pins σ (.Tuple elts kk tpos) R) X.xe { s1 with heap := s1.heap.push { cls := .type "dict_items", data := .fields #[.ref d] } } := by
      refine wpAny_pyIter_items_raw (d := d) (es := es) (ep := ep) ⟨_, Heap.get?_push_size _ rfl, rfl, rfl⟩ (raw.push _) (pi_one (tk := s1.toks) I2 _ (turn_itemsT _ hdt) ⟨.none, .none, ?_⟩ q)
      rw [← sz]
      exact Heap.get?_push_size _ rfl
    show wpAny _ _ (callWith cpos (.builtin "dict.items") [.ref d] [] []) _ X.xe s1
    exact method_meetsIn F.slot_dict_items F.entry_dict_items rfl (PySem.evalArgs_none ⟨rfl, ty, F.args_dict_items_1 _, _, meets_dict_items_raw d hs, ⟨es, ep, raw⟩, fin⟩)
/-- {k: v}, k a tuple of ints and texts; the new dict stands empty while the pair is made -/
def tDisp1 (tk tv : TE) : TE := fun σ H Q => ∀ p, H p = none → tk σ (upd H p (.dT [])) fun x H1 => tv σ H1 fun v H2 => H2 p = some (.dT []) ∧ ∃ (b : Addr) (k : List Key), x = .ref b ∧ H2 b = some (.tup (k.map kV)) ∧ Q (.ref p) (upd H2 p (.dT [(k, v)]))
theorem pe_disp1 {pos : Pos} {k v : Expr} {tk tv : TE} (hu : X.A.units + 2 < cLine) (hk : PE X k tk) (hv : PE X v tv) : PE X (.Dict [some k] [v] pos) (tDisp1 tk tv) := by
  constructor
  intro pins s σ H Q I q
  have nw := I.hok.fresh (Nat.le_refl s.heap.objs.size)
  have I1 := I.laid (a := s.heap.objs.size) (o := .dT []) (h' := s.heap.push { cls := .type "dict", data := .dict #[] }) (t' := s.toks) (fun _ _ q => Heap.get?_push_of_some _ q) (Nat.le_refl _) (dt_empty s.heap I.big)
  rw [arm_eval_Dict, zip_pairTrees [some k] [v] X.env pos rfl rfl, dictDisplay_pairs (pairTrees [some k] [v] X.env pos) (fun z => nomatch z) (show 1 < 17 by decide)]
  refine wpAny_bind (wpAny_standAt (wpAny_bind (wpAny_subDictH (knd := tupleKind (mixKind X.prog X.w)) (show X.A.units < cLine by omega) (show 1 ≤ 15 by decide) ?_)))
  refine pairTrees_cons_walk (thn (hk.run pins _ σ _ _ I1 (q _ nw)) ?_)
  rintro u s2 ⟨x, H2, I2, rx, q2⟩
  refine thn (hv.run pins s2 σ H2 _ I2 q2) ?_
  rintro u' s3 ⟨y, H3, I3, ry, e, b, ks, rfl, hb, q3⟩
  refine pairTrees_nil_walk ?_
  obtain ⟨z, hd, xs, rel, dd⟩ := dt_of I3.hok e
  cases rel
  refine ⟨[(ks, b, u')], ⟨rx, rfl, key_of I3.hok hb, trivial⟩, dd, fun h' tk dd' hs => wpAny_pure ⟨.ref s.heap.objs.size, _, ?_, rfl, q3⟩⟩
  obtain ⟨o, es, ep, hq, h2, h3, h4, _, h5⟩ := dd'
  refine d_write I3 (by rw [e]; exact True.intro) hs ⟨o, hq⟩ ⟨(by decide : 1 ≤ sizeLine), hd, _, .cons ⟨rfl, ?_, ry⟩ .nil, o, es, ep, hq, h2, h3, h4, h5⟩
  rw [upd_ne (ne_of hb e fun z => nomatch z)]
  exact hb
/-- the view d.values() at p -/
def valsO (p d : Addr) : HO := .ext fun h => h.IsValuesView p d
/-- d.values() -/
def rValsT : V → List V → Hp → VK → Prop := fun x xs H Q => ∃ (a : Addr) (kvs : List (List Key × V)), x = .ref a ∧ xs = [] ∧ H a = some (.dT kvs) ∧ ∀ p, H p = none → Q (.ref p) (upd H p (valsO p a))
theorem mt_valsT : MtR X "dict.values" rValsT := by
  rintro pins s σ H x xs v us Q I rx rxs ⟨a, kvs, rfl, rfl, ha, q⟩
  cases rx
  cases rxs
  obtain ⟨z, hd, xs', rel, o, es, ep, ho, hx, hdat, _⟩ := dt_of I.hok ha
  have raw : s.heap.DictRaw a es ep := ⟨o, ho, hx, hdat⟩
  have at' : (s.heap.push { cls := .type "dict_values", data := .fields #[.ref a] }).get? s.heap.objs.size = some { cls := .type "dict_values", data := .fields #[.ref a] } := Heap.get?_push_size _ rfl
  refine call_meetsIn F.slot_dict_values raw.typeIs F.entry_dict_values (F.args_dict_values_1 _) (meets_dict_values_raw a hd) ⟨⟨es, ep, raw⟩, ?_⟩
  exact ⟨.ref s.heap.objs.size, upd H s.heap.objs.size (valsO s.heap.objs.size a), I.laid (t' := s.toks) (fun b u e => Heap.get?_push_of_some _ e) (Nat.le_refl _) ⟨⟨_, at', rfl, rfl⟩, ⟨_, at'⟩, fun h1 h2 ⟨o, ho, r⟩ k => ⟨o, k o ho, r⟩⟩, rfl, q _ (I.hok.fresh (Nat.le_refl _))⟩
theorem kt_vals {H : Hp} : ∀ {kvs : List (List Key × V)} {xs : List (List Key × Addr × Value)}, KT H kvs xs → Vals (kvs.map (·.2)) (xs.map fun x => x.2.2)
  | _, _, .nil => .nil
  | _, _, .cons h t => .cons h.2.2 (kt_vals t)
/-- list(d.values()) -/
theorem call_list_valsT (hc : X.calm = true) : CallR X (.type "list") (fun xs H Q => ∃ p d kvs, xs = [V.ref p] ∧ H p = some (valsO p d) ∧ H d = some (.dT kvs) ∧ ∀ r, H r = none → Q (.ref r) (upd H r (.lst (kvs.map (·.2))))) := by
  rintro pins s σ H xs us Q I r ⟨p, d, kvs, rfl, hp, hd, q⟩
  rw [Vals.ref1 r]
  obtain ⟨z, hs, xs, rel, o, es, ep, ho, hx, hdt, he, _⟩ := dt_of I.hok hd
  have view : s.heap.IsValuesView p d := (I.hok p _ hp).1
  have l1 : es.size = xs.length := size_of_entries he
  have l2 : kvs.length = xs.length := Paired.length rel
  refine PySem.W.kdl_call (KdlSrc.rawValues (r := p) (d := d) (es := es) (ep := ep)) (I.ok.hd hc) ⟨view, o, ho, hx, hdt⟩ (by omega) fun h' tk acc c kp at' it => ?_
  have ea : acc.toList = xs.map fun x => x.2.2 := by
    refine List.ext_getElem? fun j => ?_
    rw [List.getElem?_map]
    have la : acc.toList.length = xs.length := by rw [Array.length_toList, it.1, l1]
    rcases Nat.lt_or_ge j xs.length with lt | ge
    · have e1 : acc.toList[j]? = some acc.toList[j] := List.getElem?_eq_getElem (by omega)
      obtain ⟨hi, hv⟩ := it.2 j acc.toList[j] (by rw [← Array.getElem?_toList]; exact e1)
      have en := entry_at he j
      rw [Array.getElem?_eq_getElem hi, List.getElem?_eq_getElem lt] at en
      rw [e1, hv, Option.some.inj en, List.getElem?_eq_getElem lt]
      rfl
    · rw [List.getElem?_eq_none (by omega), List.getElem?_eq_none ge]
      rfl
  exact ⟨.ref _, upd H s.heap.objs.size (.lst (kvs.map (·.2))), I.laid (t' := tk) kp (Nat.le_refl _) ⟨by rw [List.length_map]; exact z, xs.map fun x => x.2.2, c, kt_vals rel, by rw [← ea, Array.toArray_toList]; exact at'⟩, rfl, q _ (I.hok.fresh (Nat.le_refl _))⟩
end
end L2

/-! tuple(d.values()), d a dict with texts as keys; list(d.values()), d.setdefault(k, x), d a dict whose keys are tuples of any depth -/
namespace L2
open PySem PySem.Spec PyProof.Rows
section
variable {prog : Program} {w : World} {A : Around} {E : Value → Shared → Prop} {s : Shared} {r d : Addr} {n : Nat} {P : Nat → Value → Prop} {OK : Heap → Prop}
theorem collect_kdl {Q : List Value → Shared → Prop} {T : String} (K : PySem.W.KdlSrc prog w T r d n P OK) (hh : A.handled = none) (hok : OK s.heap) (hn : n ≤ sizeLine)
    (hQ : ∀ (h' : Heap) (tk : Nat) (acc : Array Value), (∀ b o, s.heap.get? b = some o → h'.get? b = some o) → ItemsOf P acc n → Q acc.toList { s with heap := h', toks := tk }) :
    wpAny (model prog w) A (collect (.ref r)) Q E s := by
  unfold collect
  refine wpAny_bind (wpAny_runValue (codeAny_builtin F.entry_proto_collect ?_))
  rw [Around.under_plainId F.plain_proto_collect _]
  show wpAny _ A.in1 (newList [] >>= fun l => again (.builtin "list.__iadd__" ⟨[l, .ref r], []⟩)) _ _ s
  refine wpAny_bind (wpAny_newObj_type ?_)
  refine wpAny_pure ⟨plainId_quiet F.plain_list_iadd _, codeAny_builtin F.entry_list_iadd ?_⟩
  rw [Around.under_plainId F.plain_list_iadd _]
  show wpAny _ A.in1 (Builtin.List.listExtendWith (.ref s.heap.objs.size) (.ref r) (.ref s.heap.objs.size)) _ _ _
  have hS : (s.heap.push { cls := .type "list", data := .seq ([] : List Value).toArray }).get? s.heap.objs.size = some { cls := .type "list", data := .seq #[] 0 } := Heap.get?_push_size _ rfl
  have lt := K.there _ hok
  refine wpAny_mono (PySem.W.kdl_extend (A := A) (R := fun rr s' => rr = .ok (.ret (.ref s.heap.objs.size)) ∧ ∃ (h' : Heap) (tk : Nat) (acc : Array Value) (c' : Nat), s' = { s with heap := h', toks := tk } ∧
      (∀ b o, s.heap.get? b = some o → h'.get? b = some o) ∧ h'.get? s.heap.objs.size = some { cls := .type "list", dict := none, data := .seq acc c', slots := #[] } ∧ ItemsOf P acc n)
    (s := { s with heap := s.heap.push { cls := .type "list", data := .seq ([] : List Value).toArray } }) K hh (K.keep _ _ hok fun b _ o e => Heap.get?_push_of_some _ e) s.heap.objs.size (Nat.ne_of_gt lt.1) (Nat.ne_of_gt lt.2) _ 0 hS
    (fun h' tk acc c' hk e hi => ⟨rfl, h', tk, acc, c', rfl, fun b o q => hk b o (Nat.ne_of_lt (Heap.lt_size q)) (Heap.get?_push_of_some _ q), e, hi⟩) hn) (fun fin s' h => ?_) (fun e s' h => ?_)
  · cases fin with
    | done f =>
      obtain ⟨e, h', tk, acc, c', rfl, hk, hS', hi⟩ := h
      cases e
      show wpAny _ A (load s.heap.objs.size >>= _) _ _ _
      exact wpAny_bind (wpAny_load hS' (wpAny_pure (hQ h' tk acc hk hi)))
    | again c' =>
      refine ⟨h.1, codeAny_mono h.2 fun rr s'' hr' => ?_⟩
      obtain ⟨rfl, h', tk, acc, c', rfl, hk, hS', hi⟩ := hr'
      show wpAny _ A (load s.heap.objs.size >>= _) _ _ _
      exact wpAny_bind (wpAny_load hS' (wpAny_pure (hQ h' tk acc hk hi)))
  · exact absurd h.1 (by simp)
theorem code_tuple_new_vals {Q₁ : Value → Shared → Prop} (K : PySem.W.KdlSrc prog w "dict_values" r d n P OK) (hh : A.handled = none) (hok : OK s.heap) (hn : n ≤ sizeLine)
    (h : ∀ (h' : Heap) (tk : Nat) (acc : Array Value), (∀ b o, s.heap.get? b = some o → h'.get? b = some o) → ItemsOf P acc n →
      Q₁ (.ref h'.objs.size) { s with heap := h'.push { cls := .type "tuple", data := .seq acc }, toks := tk }) :
    codeAny (model prog w) A (.call (.builtin "tuple.__new__") ⟨[.type "tuple", .ref r], []⟩) (wants Q₁ E) s := by
  refine codeAny_of_tree ?_
  show wpAny _ A.in1 (do checkBuiltinCall "tuple.__new__" ⟨[.type "tuple", .ref r], []⟩; again (.builtin "tuple.__new__" ⟨[.type "tuple", .ref r], []⟩)) _ _ s
  refine wpAny_bind (wpAny_of_eq (F.newCall_tuple_1 _) (wpAny_pure ⟨plainId_quiet F.plain_tuple_new _, codeAny_builtin F.entry_tuple_new ?_⟩))
  rw [Around.under_plainId F.plain_tuple_new _]
  have hsub := sub_tuple_self
  have hinit := init_tuple_lookup
  have hmh := madeHere_tuple
  have hTI : s.TypeIs (.ref r) "dict_values" := K.type _ hok
  have hh1 : A.in1.handled = none := hh
  wp_walk using wpAny_typeOf hTI, collect_kdl (A := A.in1) K hh1 hok hn
  intro h' tk acc hk hacc
  show wpAny _ _ (Builtin.Tuple.tupleExact acc.toList.toArray >>= fun v => ret v) _ _ _
  unfold Builtin.Tuple.tupleExact
  refine wpAny_bind (wpAny_newObj_type ?_ (by show acc.toList.toArray.size ≤ sizeLine; simp only [Array.toArray_toList]; rw [hacc.1]; exact hn))
  refine wpAny_pure ?_
  have e : acc.toList.toArray = acc := by simp
  rw [e]
  exact h h' tk acc hk hacc
theorem call_tuple_vals {Q : Value → Shared → Prop} (K : PySem.W.KdlSrc prog w "dict_values" r d n P OK) (hh : A.handled = none) (hok : OK s.heap) (hn : n ≤ sizeLine)
    (hQ : ∀ (h' : Heap) (tk : Nat) (acc : Array Value), (∀ b o, s.heap.get? b = some o → h'.get? b = some o) → ItemsOf P acc n →
      Q (.ref h'.objs.size) { s with heap := h'.push { cls := .type "tuple", data := .seq acc }, toks := tk }) :
    wpAny (model prog w) A (call (.type "tuple") [.ref r]) Q E s := by
  refine callType_codes (Q₁ := fun obj s₁ => s₁.TypeIs obj "tuple" ∧ Q obj s₁) F.called_tuple (F.typeCall_tuple_1 _) F.entry_object_init
    (code_tuple_new_vals (A := A.in1) K hh hok hn fun h' tk acc hk hacc => ⟨⟨_, Heap.get?_push_size _ rfl, rfl⟩, hQ h' tk acc hk hacc⟩) fun obj s₁ h₁ => ?_
  exact ⟨h₁.1, F.args_object_init_2 obj _, object_init_meets F.called_tuple.init.lookup F.called_tuple.made (by decide) prog w A.in1 _ s₁ ⟨h₁.1, rfl, h₁.2⟩⟩
end
/-- d.values(), texts as keys -/
def rValsK : V → List V → Hp → VK → Prop := fun x xs H Q => ∃ (a : Addr) (kvs : List (Key × V)), x = .ref a ∧ xs = [] ∧ H a = some (.dK kvs) ∧ ∀ p, H p = none → Q (.ref p) (upd H p (valsO p a))
/-- tuple(d.values()) -/
def rTupVK : List V → Hp → VK → Prop := fun xs H Q => ∃ (p d : Addr) (kvs : List (Key × V)), xs = [V.ref p] ∧ H p = some (valsO p d) ∧ H d = some (.dK kvs) ∧ ∀ r, H r = none → Q (.ref r) (upd H r (.tup (kvs.map (·.2))))
def rValsN (P : Program) (w : World) : V → List V → Hp → VK → Prop := fun x xs H Q => ∃ (a : Addr) (es : List NE), x = .ref a ∧ xs = [] ∧ H a = some (DnO P w a es) ∧ ∀ p, H p = none → Q (.ref p) (upd H p (valsO p a))
def rListVN (P : Program) (w : World) : List V → Hp → VK → Prop := fun xs H Q => ∃ (p d : Addr) (es : List NE), xs = [V.ref p] ∧ H p = some (valsO p d) ∧ H d = some (DnO P w d es) ∧ ∀ r, H r = none → Q (.ref r) (upd H r (.lst (es.map (·.2.2))))
section
variable {X : Cx}
theorem vals_acc {ES : Array DictEntry} {m : Nat} {acc : Array Value} {ys : List Value} (l1 : ES.size = ys.length) (it : ItemsOf (fun i v => ∃ hi : i < ES.size, v = ES[i].val) acc ES.size) (at_ : ∀ (j : Nat) (u : Value), ys[j]? = some u → ∃ e : DictEntry, ES[j]? = some e ∧ e.val = u) : acc.toList = ys := by
  refine List.ext_getElem? fun j => ?_
  have la : acc.toList.length = ys.length := by rw [Array.length_toList, it.1, l1]
  rcases Nat.lt_or_ge j ys.length with lt | ge
  · have e1 : acc.toList[j]? = some acc.toList[j] := List.getElem?_eq_getElem (by omega)
    obtain ⟨hi, hv⟩ := it.2 j acc.toList[j] (by rw [← Array.getElem?_toList]; exact e1)
    obtain ⟨e, he, hv2⟩ := at_ j _ (List.getElem?_eq_getElem lt)
    rw [Array.getElem?_eq_getElem hi] at he
    rw [e1, hv, Option.some.inj he, hv2, List.getElem?_eq_getElem lt]
  · rw [List.getElem?_eq_none (by omega), List.getElem?_eq_none ge]
theorem mt_valsK : MtR X "dict.values" rValsK := by
  rintro pins s σ H x xs v us Q I rx rxs ⟨a, kvs, rfl, rfl, ha, q⟩
  cases rx
  cases rxs
  obtain ⟨_, hd, vs, _, ob, es, ep, at_, exact_, data_, _⟩ := dk_of I.hok ha
  have raw : s.heap.DictRaw a es ep := ⟨ob, at_, exact_, data_⟩
  have at' : (s.heap.push { cls := .type "dict_values", data := .fields #[.ref a] }).get? s.heap.objs.size = some { cls := .type "dict_values", data := .fields #[.ref a] } := Heap.get?_push_size _ rfl
  refine call_meetsIn F.slot_dict_values raw.typeIs F.entry_dict_values (F.args_dict_values_1 _) (meets_dict_values_raw a hd) ⟨⟨es, ep, raw⟩, ?_⟩
  exact ⟨.ref s.heap.objs.size, upd H s.heap.objs.size (valsO s.heap.objs.size a), I.laid (t' := s.toks) (fun b u e => Heap.get?_push_of_some _ e) (Nat.le_refl _) ⟨⟨_, at', rfl, rfl⟩, ⟨_, at'⟩, fun h1 h2 ⟨o, ho, r⟩ k => ⟨o, k o ho, r⟩⟩, rfl, q _ (I.hok.fresh (Nat.le_refl _))⟩
theorem kv_vals {kvs : List (Key × V)} {vs : List (Key × Value)} (h : KV kvs vs) : Vals (kvs.map (·.2)) (vs.map (·.2)) := by
  induction h with
  | nil => exact .nil
  | cons h _ ih => exact .cons h.2 ih
theorem call_tuple_valsK (hc : X.calm = true) : CallR X (.type "tuple") rTupVK := by
  rintro pins s σ H xs us Q I r ⟨p, d, kvs, rfl, hp, hd, q⟩
  rw [Vals.ref1 r]
  obtain ⟨z, hs, vs, rel, o, es, ep, ho, hx, hdt, _, prs, _⟩ := dk_of I.hok hd
  have view : s.heap.IsValuesView p d := (I.hok p _ hp).1
  obtain ⟨len1, look⟩ := pairs_at prs
  rw [Array.length_toList] at len1
  have l2 : kvs.length = vs.length := Paired.length rel
  refine call_tuple_vals (KdlSrc.rawValues (r := p) (d := d) (es := es) (ep := ep)) (I.ok.hd hc) ⟨view, o, ho, hx, hdt⟩ (by omega) fun h' tk acc kp it => ?_
  have ea : acc.toList = vs.map (·.2) := vals_acc (m := 0) (by rw [List.length_map]; exact len1) it fun j u hu => by
    rw [List.getElem?_map] at hu
    obtain ⟨kw, hkw, rfl⟩ := Option.map_eq_some_iff.mp hu
    have lt : j < es.size := by rw [len1]; exact (List.getElem?_eq_some_iff.mp hkw).1
    refine ⟨es[j], Array.getElem?_eq_getElem lt, (look (by rw [Array.getElem?_toList]; exact Array.getElem?_eq_getElem lt) hkw).2⟩
  have I1 : Inv X pins σ H { s with heap := h', toks := tk } := I.kept (t' := tk) kp
  refine ⟨.ref h'.objs.size, upd H h'.objs.size (.tup (kvs.map (·.2))), I1.laid (t' := tk) (fun b u e => Heap.get?_push_of_some _ e) (Nat.le_refl _) ⟨by rw [List.length_map]; exact z, vs.map (·.2), kv_vals rel, ?_⟩, rfl, q _ (I1.hok.fresh (Nat.le_refl _))⟩
  rw [← ea]
  simpa using IsTup.new h' acc
theorem mt_valsN : MtR X "dict.values" (rValsN X.prog X.w) := by
  rintro pins s σ H x xs v us Q I rx rxs ⟨a, es', rfl, rfl, ha, q⟩
  cases rx
  cases rxs
  obtain ⟨⟨z, hd, ys, r, o, es, ep, ho, hx, hdat, ge, nd⟩, -⟩ := I.hok a _ ha
  have raw : s.heap.DictRaw a es ep := ⟨o, ho, hx, hdat⟩
  have at' : (s.heap.push { cls := .type "dict_values", data := .fields #[.ref a] }).get? s.heap.objs.size = some { cls := .type "dict_values", data := .fields #[.ref a] } := Heap.get?_push_size _ rfl
  refine call_meetsIn F.slot_dict_values raw.typeIs F.entry_dict_values (F.args_dict_values_1 _) (meets_dict_values_raw a hd) ⟨⟨es, ep, raw⟩, ?_⟩
  exact ⟨.ref s.heap.objs.size, upd H s.heap.objs.size (valsO s.heap.objs.size a), I.laid (t' := s.toks) (fun b u e => Heap.get?_push_of_some _ e) (Nat.le_refl _) ⟨⟨_, at', rfl, rfl⟩, ⟨_, at'⟩, fun h1 h2 ⟨o, ho, r⟩ k => ⟨o, k o ho, r⟩⟩, rfl, q _ (I.hok.fresh (Nat.le_refl _))⟩
theorem nv_vals {kvs : List NE} {vs : List (NestedKey × Addr × Value)} (h : NVs kvs vs) : Vals (kvs.map (·.2.2)) (vs.map (·.2.2)) := by
  induction h with
  | nil => exact .nil
  | cons h _ ih => exact .cons h.2.2 ih
theorem call_list_valsN (hc : X.calm = true) : CallR X (.type "list") (rListVN X.prog X.w) := by
  rintro pins s σ H xs us Q I r ⟨p, d, kvs, rfl, hp, hd, q⟩
  rw [Vals.ref1 r]
  obtain ⟨⟨z, hs, ys, rel, o, es, ep, ho, hx, hdt, he, nd⟩, -⟩ := I.hok d _ hd
  have view : s.heap.IsValuesView p d := (I.hok p _ hp).1
  have l1 : es.size = ys.length := size_of_entries he
  have l2 : kvs.length = ys.length := Paired.length rel
  refine PySem.W.kdl_call (KdlSrc.rawValues (r := p) (d := d) (es := es) (ep := ep)) (I.ok.hd hc) ⟨view, o, ho, hx, hdt⟩ (by omega) fun h' tk acc c kp at' it => ?_
  have ea : acc.toList = ys.map (·.2.2) := vals_acc (m := 0) (by rw [List.length_map]; exact l1) it fun j u hu => by
    rw [List.getElem?_map] at hu
    obtain ⟨kw, hkw, rfl⟩ := Option.map_eq_some_iff.mp hu
    have en := entry_at he j
    rw [hkw] at en
    exact ⟨_, en, rfl⟩
  exact ⟨.ref _, upd H s.heap.objs.size (.lst (kvs.map (·.2.2))), I.laid (t' := tk) kp (Nat.le_refl _) ⟨by rw [List.length_map]; exact z, ys.map (·.2.2), c, nv_vals rel, by rw [← ea, Array.toArray_toList]; exact at'⟩, rfl, q _ (I.hok.fresh (Nat.le_refl _))⟩
def tValsN (P : Program) (w : World) (to : TE) : TE := fun σ H Q => to σ H fun x H1 => rValsN P w x [] H1 Q
theorem pe_valsN {o : Expr} {to : TE} {apos cpos : Pos} (ho : PE X o to) (hbase : attributeBase o "values" X.env (eval o X.env) = eval o X.env := by rfl) (hline : (apos.endLine == cpos.line) = true := by rfl) :
    PE X (.Call (.Attribute o "values" apos) [] [] cpos) (tValsN X.prog X.w to) := by
  refine ⟨fun pins s σ H Q I h => ?_⟩
  refine wpAny_Call_method0_late hbase hline (thn (ho.run pins s σ H _ I h) fun v s1 ⟨x, H1, I1, r1, q1⟩ => ?_)
  obtain ⟨a, es, rfl, _, ha, q⟩ := id q1
  obtain rfl : v = Value.ref a := r1
  obtain ⟨⟨z, y, ys, r, ob, ds, ep, g, gx, gd, ge, nd⟩, -⟩ := I1.hok a _ ha
  refine ⟨"dict", "dict.values", PySem.F.plainAttrs_dict, PySem.F.slot_dict_values, PySem.F.type_dict_values, ⟨ob, g, gx.1⟩, fun b q => by cases q; exact ⟨ob, g, gx.2.1⟩, Calls.callWith_builtin rfl (PySem.evalArgs_none (mt_valsN pins s1 σ H1 (.ref a) [] (.ref a) [] Q I1 rfl .nil q1))⟩
/-- d.setdefault(k, x) -/
def rSdN (P : Program) (w : World) (K : PySem.W.Frag) : V → List V → Hp → VK → Prop := fun x vs H Q => ∃ (d a : Addr) (xs : List NE) (k : NestedKey) (v : V), x = .ref d ∧ vs = [.ref a, v] ∧ H d = some (DnO P w d xs) ∧ NksAt K H xs ∧ NkT K H k a ∧ xs.length < sizeLine ∧
  (∀ u, valN xs k = some u → Q u H) ∧ (valN xs k = none → Q v (upd H d (DnO P w d (putN xs k a v))))
theorem mt_sdN (hu : X.A.units + 9 < cLine) : MtR X "dict.setdefault" (rSdN X.prog X.w X.K) := by
  intro pins s σ H x vs v us Q I rx rvs h
  obtain ⟨d, a, xs, k, dv, rfl, rfl, hd, hk, ha, l, q1, q2⟩ := h
  cases rx
  obtain ⟨z, y, ys, r, dd⟩ := dn_at I (.inl hd) hk
  cases rvs with
  | cons r1 rr =>
    cases rr with
    | cons r2 rr =>
      cases rr
      cases r1
      have hz : ys.length ≤ sizeLine := by rw [← Paired.length r]; exact z
      have ro := r.val k
      refine call_setdefault_heap (hsz := hz) (by show X.A.units + 1 + 8 < cLine; omega) (nkt_is I ha) y dd (fun p hp => ?_) fun hn h' dd' hs => ?_
      · rw [hp] at ro
        cases e : valN xs k with
        | none => rw [e] at ro; exact ro.elim
        | some u =>
          rw [e] at ro
          exact ⟨u, H, I.tok _, ro, q1 u e⟩
      · rw [hn] at ro
        cases e : valN xs k with
        | some u => rw [e] at ro; exact ro.elim
        | none =>
          refine ⟨dv, upd H d (DnO X.prog X.w d (putN xs k a dv)), ?_, r2, q2 e⟩
          obtain ⟨o, es, ep, hq, h2, h3, h4, _, h5⟩ := dd'
          refine d_write I (by rw [hd]; exact True.intro) hs ⟨o, hq⟩ (dnO_new ⟨?_, y, _, r.put k a r2, o, es, ep, hq, h2, h3, h4, h5⟩)
          have := putN_len xs k a dv
          omega
def tSdN (P : Program) (w : World) (K : PySem.W.Frag) (td ty tx : TE) : TE := fun σ H Q => td σ H fun x H1 => ∃ (d : Addr) (xs : List NE), x = .ref d ∧ H1 d = some (DnO P w d xs) ∧ ty σ H1 fun y H2 => tx σ H2 fun z H3 => rSdN P w K (.ref d) [y, z] H3 Q
theorem pe_sdN {o e f : Expr} {apos cpos : Pos} {td ty tx : TE} (hu : X.A.units + 9 < cLine) (ho : PE X o td) (he : PE X e ty) (hf : PE X f tx) (m : M2 X o "setdefault" apos e f cpos) : PE X (.Call (.Attribute o "setdefault" apos) [e, f] [] cpos) (tSdN X.prog X.w X.K td ty tx) := by
  refine ⟨fun pins s σ H Q I h => ?_⟩
  refine wpAny_Call_method m.base m.few m.line PySem.F.plainAttrs_dict PySem.F.slot_dict_setdefault PySem.F.type_dict_setdefault (thn (ho.run pins s σ H _ I h) fun u s1 ⟨x, H1, I1, rx, d, xs, ex, hd, q1⟩ => ?_)
  subst ex
  obtain rfl : u = Value.ref d := rx
  obtain ⟨⟨z, y, ys, r, ob, es, ep, g, gx, gd, ge, nd⟩, -⟩ := I1.hok d _ hd
  refine ⟨⟨ob, g, gx.1⟩, fun b q => by cases q; exact ⟨ob, g, gx.2.1⟩, ?_⟩
  rw [m.trees]
  refine Calls.callWith_builtin rfl (Calls.evalArgs_plain (Calls.spliced_cons (thn (he.run pins s1 σ H1 _ I1 q1) fun iv s2 ⟨y, H2, I2, ry, q2⟩ =>
    Calls.spliced_cons (thn (hf.run pins s2 σ H2 _ I2 q2) fun fv s3 ⟨z, H3, I3, rz, q3⟩ => Calls.spliced_nil ?_))))
  exact mt_sdN hu pins s3 σ H3 (.ref d) [y, z] (.ref d) [iv, fv] Q I3 rfl (.cons ry (.cons rz .nil)) q3
end
end L2

namespace Half
open PySem PySem.Spec PyProof.Rows L2
/-! ### a draft: what it knows -/
abbrev sDr (i : Nat) : Stmt := inClass (top 53) i
structure Dr where
  lw : Str
  key : Kk
  ln : Str
  eds : List Ed
  ss : List (Str × St3)
def FOL : List (Str × List Str) := [("", ["edition"]), ("edition", ["scripts", "needs", "first", "against", "edition", "state"]), ("scripts", ["needs", "first", "against", "edition", "state"]), ("needs", ["first", "against", "edition", "state"]),
  ("first", ["against", "edition", "state"]), ("against", ["edition", "state"]), ("state", ["state"])]
def folM (z : Str) : Option (List Str) := (FOL.find? fun p => decide (p.1 = z)).map (·.2)
def edN (k : Kk) : Ed := ⟨k.1, .int k.2, SCR, [], [], []⟩
def setP (e : Ed) (w : Str) : Prt → Ed
  | .nms l => if w = "scripts" then { e with scripts := l } else { e with against := l }
  | .nds l => if w = "needs" then { e with needs := l } else { e with first := l }
def setLast (w : Str) (v : Prt) (es : List Ed) : List Ed := match es.getLast? with
  | none => es
  | some e => es.dropLast ++ [setP e w v]
def stepM (d : Dr) (ws : List Str) (w : Str) : TR Dr :=
  if w = "edition" then mapT (fun k => { d with lw := w, key := k, eds := d.eds ++ [edN k] }) (keyM ws 1 d.key)
  else if w = "state" then match nameM ws 1 d.ln with
    | .error k => .error k
    | .ok (n, t) => mapT (fun s => { d with lw := w, ln := n, ss := putS d.ss n s }) (stateM ws t)
  else mapT (fun v => { d with lw := w, eds := setLast w v d.eds }) (partM ws 1 w)
def finM (ws : List Str) : TR Dr → Except Nat Dr
  | .error k => .error k
  | .ok (d, t) => if t = ws.length then .ok d else .error t
def addM (d : Dr) (ws : List Str) : Except Nat Dr := match ws with
  | [] => .error 0
  | w :: _ => match folM d.lw with
    | none => .error 0
    | some fs => if inV (.str w) (fs.map V.str) = true then finM ws (stepM d ws w) else .error 0
structure DrOk (d : Dr) : Prop where
  fol : ∃ fs, folM d.lw = some fs
  eds : d.lw = "" ∨ d.eds ≠ []
theorem fol_words {z w : Str} {fs : List Str} (h : folM z = some fs) (hw : inV (.str w) (fs.map V.str) = true) : (w = "edition" ∨ w = "state" ∨ (w = "scripts" ∧ z ≠ "") ∨ (w = "needs" ∧ z ≠ "") ∨ (w = "first" ∧ z ≠ "") ∨ (w = "against" ∧ z ≠ "")) ∧ ∃ fs', folM w = some fs' := by
  rw [inV_str] at hw
  have m : w ∈ fs := by
    unfold has at hw
    obtain ⟨y, hy, e⟩ := List.any_eq_true.mp hw
    have : y = w := by simpa using e
    rw [← this]
    exact hy
  obtain ⟨p, hp, rfl⟩ : ∃ p, FOL.find? (fun p => decide (p.1 = z)) = some p ∧ p.2 = fs := by
    unfold folM at h
    cases c : FOL.find? (fun p => decide (p.1 = z)) with
    | none => rw [c] at h; cases h
    | some p => rw [c] at h; exact ⟨p, rfl, by injection h⟩
  have hz : p.1 = z := by
    have q := List.find?_some hp
    simpa using q
  have hm := List.mem_of_find?_eq_some hp
  have all : ∀ p ∈ FOL, ∀ w ∈ p.2, (w = "edition" ∨ w = "state" ∨ (w = "scripts" ∧ p.1 ≠ "") ∨ (w = "needs" ∧ p.1 ≠ "") ∨ (w = "first" ∧ p.1 ≠ "") ∨ (w = "against" ∧ p.1 ≠ "")) ∧ (folM w).isSome = true := by decide +kernel
  obtain ⟨a, b⟩ := all p hm w m
  rw [hz] at a
  exact ⟨a, Option.isSome_iff_exists.mp b⟩
def drO (CD dx tk pl ts : Addr) (lw ln : Str) : HO := .ins CD dx [("last_word", .str lw), ("last_key", .ref tk), ("last_name", .str ln), ("part_dicts", .ref pl), ("told_states", .ref ts)]
def edKv (e : Ed) (s n f g : Addr) : List (Key × V) := [(.inr "name", .str e.name), (.inr "version", e.version), (.inr "scripts", .ref s), (.inr "needs", .ref n), (.inr "first", .ref f), (.inr "against", .ref g)]
def DictAt (K : PySem.W.Frag) (H : Hp) (a : Addr) (e : Ed) : Prop := ∃ s n f g, H a = some (.dK (edKv e s n f g)) ∧ EdAt K H e s n f g
structure DrIs (K : PySem.W.Frag) (CD : Addr) (H0 H : Hp) (x dx tk pl ts : Addr) (ds : List Addr) (kvs : List (Key × V)) (d : Dr) : Prop where
  at_ : H x = some (drO CD dx tk pl ts d.lw d.ln)
  key : SqT K H tk [.str d.key.1, .int d.key.2]
  lst : H pl = some (.lst (ds.map V.ref))
  eds : Paired (fun a e => DictAt K H a e) ds d.eds
  nd : ds.Nodup
  tst : H ts = some (.dK kvs)
  sl : SL K H kvs d.ss
  nts : ts ∉ ds
  same : Same H0 H
  nx : H0 x = none
  npl : H0 pl = none
  nt : H0 ts = none
  nds : ∀ a ∈ ds, H0 a = none
def DrAt (K : PySem.W.Frag) (CD : Addr) (H0 H : Hp) (x : Addr) (d : Dr) : Prop := ∃ dx tk pl ts ds kvs, DrIs K CD H0 H x dx tk pl ts ds kvs d
section
variable {K : PySem.W.Frag} {CD : Addr} {H0 H H' : Hp} {x dx tk pl ts r : Addr} {ds : List Addr} {kvs : List (Key × V)} {d : Dr}
theorem paired_memY {α β : Type} {F G : α → β → Prop} : ∀ {l : List α} {m : List β}, Paired F l m → (∀ a b, a ∈ l → b ∈ m → F a b → G a b) → Paired G l m
  | _, _, .nil, _ => .nil
  | _, _, .cons x h, k => .cons (k _ _ (.head _) (.head _) x) (paired_memY h fun a b p q => k a b (.tail _ p) (.tail _ q))
theorem NeedsAt.kpY {a : Addr} {ps : List (Str × Int)} (k : Kp K H H') (h : NeedsAt K H a ps) : NeedsAt K H' a ps := by
  obtain ⟨tt, h1, h2, h3⟩ := h
  exact ⟨tt, k _ _ h1, h2, fun i t p a b => k _ _ (h3 i t p a b)⟩
theorem EdAt.kpY {e : Ed} {s n f g : Addr} (k : Kp K H H') (h : EdAt K H e s n f g) : EdAt K H' e s n f g := ⟨k _ _ h.scripts, h.needs.kpY k, h.first.kpY k, k _ _ h.against⟩
theorem DictAt.mv {a : Addr} {e : Ed} (k : Kp K H H') (ka : ∀ o, H a = some o → H' a = some o) (h : DictAt K H a e) : DictAt K H' a e := by
  obtain ⟨s, n, f, g, h1, h2⟩ := h
  exact ⟨s, n, f, g, ka _ h1, h2.kpY k⟩
theorem DrIs.dict (h : DrIs K CD H0 H x dx tk pl ts ds kvs d) {a : Addr} (ha : a ∈ ds) : ∃ kv, H a = some (.dK kv) := by
  obtain ⟨i, hi, rfl⟩ := List.getElem_of_mem ha
  obtain ⟨e, he, s, n, f, g, q, _⟩ := paired_get h.eds (List.getElem?_eq_getElem hi)
  exact ⟨_, q⟩
/-- nothing of the draft but what is told has changed -/
theorem DrIs.mv (h : DrIs K CD H0 H x dx tk pl ts ds kvs d) (k : Kp K H H') (hx : H' x = H x) (hp : H' pl = H pl) (ht : H' ts = H ts) (hd : ∀ a ∈ ds, H' a = H a) (s : Same H0 H') : DrIs K CD H0 H' x dx tk pl ts ds kvs d :=
  ⟨hx.trans h.at_, k _ _ h.key, hp.trans h.lst, paired_memY h.eds fun a e ha _ q => q.mv k fun o q => (hd a ha).trans q, h.nd, ht.trans h.tst, h.sl.kp k, h.nts, s, h.nx, h.npl, h.nt, h.nds⟩
end
end Half

namespace Half
open PySem PySem.Spec PyProof.Rows L2
/-! ### a draft, changed -/
section
variable {K : PySem.W.Frag} {CR CD CV : Addr} {H0 H H' : Hp} {x dx tk pl ts r dr lw : Addr} {p t : Nat} {ws : List Str} {ds : List Addr} {kvs : List (Key × V)} {d : Dr} {E : XK}
theorem ins_ne {o : HO} {a b : Addr} {C dx : Addr} {fs : List (Str × V)} (ha : H a = some o) (hb : H b = some (.ins C dx fs)) (n : ∀ C dx fs, o ≠ .ins C dx fs) : a ≠ b := fun e => by
  rw [e, hb] at ha
  exact n _ _ _ (Option.some.inj ha).symm
theorem DrIs.xr (h : DrIs K CD H0 H x dx tk pl ts ds kvs d) (hR : RowIs CR H r dr lw p ws t) : x ≠ r := fun e => by
  have a := h.at_
  rw [e, hR.at_] at a
  unfold rowO drO at a
  injection a with a
  injection a with _ _ a
  injection a with a _
  injection a with a _
  exact absurd a (by decide)
theorem same_of_sb (nr : H0 r = none) (s : Same H0 H) (sb : SameBut r H H') : Same H0 H' := fun b o q => sb b o (ne_of_none q nr) (s b o q)
theorem DrIs.row (h : DrIs K CD H0 H x dx tk pl ts ds kvs d) (hR : RowIs CR H r dr lw p ws t) (nr : H0 r = none) (sb : SameBut r H H') : DrIs K CD H0 H' x dx tk pl ts ds kvs d := by
  have eq : ∀ {b : Addr} {o : HO}, H b = some o → b ≠ r → H' b = H b := fun q n => (sb _ _ n q).trans q.symm
  refine h.mv (fun a xs q => sqt_sb hR.at_ sb q) (eq h.at_ (h.xr hR)) (eq h.lst (ins_ne h.lst hR.at_ (by intro _ _ _ z; cases z))) (eq h.tst (ins_ne h.tst hR.at_ (by intro _ _ _ z; cases z))) (fun a ha => ?_) (same_of_sb nr h.same sb)
  obtain ⟨kv, q⟩ := h.dict ha
  exact eq q (ins_ne q hR.at_ (by intro _ _ _ z; cases z))
theorem DrIs.plx (h : DrIs K CD H0 H x dx tk pl ts ds kvs d) : pl ≠ x := ins_ne h.lst h.at_ (by intro _ _ _ z; cases z)
theorem DrIs.tsx (h : DrIs K CD H0 H x dx tk pl ts ds kvs d) : ts ≠ x := ins_ne h.tst h.at_ (by intro _ _ _ z; cases z)
theorem DrIs.dsx (h : DrIs K CD H0 H x dx tk pl ts ds kvs d) {a : Addr} (ha : a ∈ ds) : a ≠ x := by
  obtain ⟨kv, q⟩ := h.dict ha
  exact ins_ne q h.at_ (by intro _ _ _ z; cases z)
theorem DrIs.tspl (h : DrIs K CD H0 H x dx tk pl ts ds kvs d) : ts ≠ pl := ne_of h.tst h.lst (by intro z; cases z)
theorem DrIs.dspl (h : DrIs K CD H0 H x dx tk pl ts ds kvs d) {a : Addr} (ha : a ∈ ds) : a ≠ pl := by
  obtain ⟨kv, q⟩ := h.dict ha
  exact ne_of q h.lst (by intro z; cases z)
/-- the instance has other fields -/
theorem DrIs.atx (h : DrIs K CD H0 H x dx tk pl ts ds kvs d) {tk' : Addr} {w ln : Str} {k : Kk} (hk : SqT K H tk' [.str k.1, .int k.2]) : DrIs K CD H0 (upd H x (drO CD dx tk' pl ts w ln)) x dx tk' pl ts ds kvs { d with lw := w, key := k, ln := ln } := by
  have kp : Kp K H (upd H x (drO CD dx tk' pl ts w ln)) := Kp.upd h.at_ (fun _ z => by cases z) (fun _ _ z => by cases z)
  have s : Same H0 (upd H x (drO CD dx tk' pl ts w ln)) := fun b o q => by
    rw [upd_ne (ne_of_none q h.nx)]
    exact h.same b o q
  exact ⟨upd_same, kp _ _ hk, by rw [upd_ne h.plx]; exact h.lst, paired_memY h.eds fun a e ha _ q => q.mv kp fun o q => by rw [upd_ne (h.dsx ha)]; exact q, h.nd, by rw [upd_ne h.tsx]; exact h.tst, h.sl.kp kp, h.nts, s, h.nx, h.npl, h.nt, h.nds⟩
/-- one edition more -/
theorem DrIs.more (h : DrIs K CD H0 H x dx tk pl ts ds kvs d) {a : Addr} {e : Ed} (ha : DictAt K H a e) (na : a ∉ ds) (nt : a ≠ ts) (n0 : H0 a = none) : DrIs K CD H0 (upd H pl (.lst ((ds ++ [a]).map V.ref))) x dx tk pl ts (ds ++ [a]) kvs { d with eds := d.eds ++ [e] } := by
  have kp : Kp K H (upd H pl (.lst ((ds ++ [a]).map V.ref))) := Kp.upd h.lst (fun _ z => by cases z) (fun _ _ z => by cases z)
  have s : Same H0 (upd H pl (.lst ((ds ++ [a]).map V.ref))) := fun b o q => by
    rw [upd_ne (ne_of_none q h.npl)]
    exact h.same b o q
  have apl : a ≠ pl := by
    obtain ⟨_, _, _, _, q, _⟩ := ha
    exact ne_of q h.lst (by intro z; cases z)
  have sn : ∀ {l : List Addr} {m : List Ed} {H : Hp}, Paired (fun a e => DictAt K H a e) l m → DictAt K H a e → Paired (fun a e => DictAt K H a e) (l ++ [a]) (m ++ [e]) := fun {l m H} q qa => by
    induction q with
    | nil => exact .cons qa .nil
    | cons y _ ih => exact .cons y ih
  refine ⟨by rw [upd_ne (Ne.symm h.plx)]; exact h.at_, kp _ _ h.key, upd_same, sn (paired_memY h.eds fun b e hb _ q => q.mv kp fun o q => by rw [upd_ne (h.dspl hb)]; exact q) (ha.mv kp fun o q => by rw [upd_ne apl]; exact q), ?_, by rw [upd_ne h.tspl]; exact h.tst, h.sl.kp kp, ?_, s, h.nx, h.npl, h.nt, ?_⟩
  · refine List.nodup_append.mpr ⟨h.nd, List.nodup_cons.mpr ⟨by simp, .nil⟩, fun b hb c hc z => ?_⟩
    rw [List.mem_singleton.mp hc] at z
    rw [z] at hb
    exact na hb
  · intro m
    rcases List.mem_append.mp m with m | m
    · exact h.nts m
    · exact nt (List.mem_singleton.mp m).symm
  · intro b hb
    rcases List.mem_append.mp hb with m | m
    · exact h.nds b m
    · rw [List.mem_singleton.mp m]
      exact n0
/-- a state is told -/
theorem DrIs.tell (h : DrIs K CD H0 H x dx tk pl ts ds kvs d) {n : Str} {a : Addr} {s : St3} (ha : SqT K H a (stV s)) : DrIs K CD H0 (upd H ts (.dK (putK kvs (.inr n) (.ref a)))) x dx tk pl ts ds (putK kvs (.inr n) (.ref a)) { d with ss := putS d.ss n s } := by
  have kp : Kp K H (upd H ts (.dK (putK kvs (.inr n) (.ref a)))) := Kp.upd h.tst (fun _ z => by cases z) (fun _ _ z => by cases z)
  have s' : Same H0 (upd H ts (.dK (putK kvs (.inr n) (.ref a)))) := fun b o q => by
    rw [upd_ne (ne_of_none q h.nt)]
    exact h.same b o q
  exact ⟨by rw [upd_ne (Ne.symm h.tsx)]; exact h.at_, kp _ _ h.key, by rw [upd_ne (Ne.symm h.tspl)]; exact h.lst, paired_memY h.eds fun b e hb _ q => q.mv kp fun o q => by rw [upd_ne (fun z : b = ts => h.nts (by rw [← z]; exact hb))]; exact q, h.nd, upd_same, (h.sl.kp kp).put (kp _ _ ha), h.nts, s', h.nx, h.npl, h.nt, h.nds⟩
theorem edKv_put {e : Ed} {s n f g a : Addr} {w : Str} {v : Prt} (hw : (w = "scripts" ∧ ∃ l, v = .nms l) ∨ (w = "against" ∧ ∃ l, v = .nms l) ∨ (w = "needs" ∧ ∃ l, v = .nds l) ∨ (w = "first" ∧ ∃ l, v = .nds l)) (h : EdAt K H e s n f g) (ha : PrtAt K H a v) : ∃ s' n' f' g', putK (edKv e s n f g) (.inr w) (.ref a) = edKv (setP e w v) s' n' f' g' ∧ EdAt K H (setP e w v) s' n' f' g' := by
  rcases hw with ⟨rfl, l, rfl⟩ | ⟨rfl, l, rfl⟩ | ⟨rfl, l, rfl⟩ | ⟨rfl, l, rfl⟩
  · exact ⟨a, n, f, g, rfl, ha, h.needs, h.first, h.against⟩
  · exact ⟨s, n, f, a, rfl, h.scripts, h.needs, h.first, ha⟩
  · exact ⟨s, a, f, g, rfl, h.scripts, ha, h.first, h.against⟩
  · exact ⟨s, n, a, g, rfl, h.scripts, h.needs, ha, h.against⟩
theorem paired_lastY {α β : Type} {F : α → β → Prop} : ∀ {l : List α} {m : List β} {b : β}, Paired F l m → m.getLast? = some b → ∃ l0 a, l = l0 ++ [a] ∧ F a b ∧ Paired F l0 m.dropLast
  | _, _, b, .nil, h => by simp at h
  | _, _, b, .cons (a := a0) (b := b0) x .nil, h => ⟨[], _, rfl, by
      have : b0 = b := by simpa using h
      rw [← this]; exact x, .nil⟩
  | _, _, b, .cons (a := a0) (b := b0) x (.cons y t), h => by
      obtain ⟨l0, a, e, f, q⟩ := paired_lastY (.cons y t) (by simpa [List.getLast?_cons_cons] using h)
      exact ⟨a0 :: l0, a, by rw [e]; rfl, f, .cons x q⟩
/-- the last edition's part -/
theorem DrIs.last (h : DrIs K CD H0 H x dx tk pl ts ds kvs d) (ne : d.eds ≠ []) : ∃ ds0 a e kv, ds = ds0 ++ [a] ∧ d.eds.getLast? = some e ∧ H a = some (.dK kv) ∧ kv.length = 6 ∧ ∀ (w : Str) (v : Prt) (b : Addr) (H1 : Hp), DrIs K CD H0 H1 x dx tk pl ts ds kvs d → H1 a = some (.dK kv) → Kp K H H1 →
    ((w = "scripts" ∧ ∃ l, v = .nms l) ∨ (w = "against" ∧ ∃ l, v = .nms l) ∨ (w = "needs" ∧ ∃ l, v = .nds l) ∨ (w = "first" ∧ ∃ l, v = .nds l)) → PrtAt K H1 b v → DrIs K CD H0 (upd H1 a (.dK (putK kv (.inr w) (.ref b)))) x dx tk pl ts ds kvs { d with eds := setLast w v d.eds } := by
  obtain ⟨e, he⟩ : ∃ e, d.eds.getLast? = some e := ⟨_, List.getLast?_eq_some_getLast ne⟩
  obtain ⟨ds0, a, rfl, ⟨s, n, f, g, ha, hE⟩, hP⟩ := paired_lastY h.eds he
  refine ⟨ds0, a, e, _, rfl, he, ha, rfl, fun w v b H1 h1 g1 k1 hw hb => ?_⟩
  have hE1 := hE.kpY k1
  obtain ⟨s', n', f', g', e1, hE2⟩ := edKv_put hw hE1 hb
  have am : a ∈ ds0 ++ [a] := List.mem_append_right _ (List.mem_singleton.mpr rfl)
  have na0 : a ∉ ds0 := fun m => by
    have := List.nodup_append.mp h1.nd
    exact this.2.2 a m a (List.mem_singleton.mpr rfl) rfl
  have hP1 : Paired (fun a e => DictAt K H1 a e) ds0 d.eds.dropLast := by
    obtain ⟨l0, a', e2, _, q⟩ := paired_lastY h1.eds he
    have := List.append_inj_left' e2 rfl
    rw [this]
    exact q
  have kp : Kp K H1 (upd H1 a (.dK (putK (edKv e s n f g) (.inr w) (.ref b)))) := Kp.upd g1 (fun _ z => by cases z) (fun _ _ z => by cases z)
  have sn : ∀ {l : List Addr} {m : List Ed} {H : Hp} {y : Ed}, Paired (fun a e => DictAt K H a e) l m → DictAt K H a y → Paired (fun a e => DictAt K H a e) (l ++ [a]) (m ++ [y]) := fun {l m H y} q qa => by
    induction q with
    | nil => exact .cons qa .nil
    | cons y _ ih => exact .cons y ih
  have eL : setLast w v d.eds = d.eds.dropLast ++ [setP e w v] := by
    unfold setLast
    rw [he]
  refine ⟨by rw [upd_ne (Ne.symm (h1.dsx am))]; exact h1.at_, kp _ _ h1.key, by rw [upd_ne (Ne.symm (h1.dspl am))]; exact h1.lst, ?_, h1.nd, by rw [upd_ne (fun z : ts = a => h1.nts (by rw [z]; exact am))]; exact h1.tst, h1.sl.kp kp, h1.nts, fun b o q => ?_, h1.nx, h1.npl, h1.nt, h1.nds⟩
  · show Paired _ _ (setLast w v d.eds)
    rw [eL]
    exact sn (paired_memY hP1 fun b e hb _ q => q.mv kp fun o q => by rw [upd_ne (fun z : b = a => na0 (by rw [← z]; exact hb))]; exact q) ⟨s', n', f', g', by rw [upd_same, e1], hE2.kpY kp⟩
  · rw [upd_ne (ne_of_none q (h1.nds a am))]
    exact h1.same b o q
/-- a row, while the draft changes -/
theorem RowIs.off (h : RowIs CR H r dr lw p ws t) {b : Addr} {o u : HO} (g : H b = some o) (nr : b ≠ r) (nl : b ≠ lw) : RowIs CR (upd H b u) r dr lw p ws t :=
  ⟨by rw [upd_ne (Ne.symm nr)]; exact h.at_, by rw [upd_ne (Ne.symm nl)]; exact h.words, h.le, h.few, h.fewW, h.small⟩
theorem DrIs.lwpl (h : DrIs K CD H0 H x dx tk pl ts ds kvs d) (hR : RowIs CR H r dr lw p ws t) (nw : ws ≠ []) : pl ≠ lw := fun e => by
  have a := h.lst
  rw [e, hR.words] at a
  injection a with a
  injection a with a
  cases ws with
  | nil => exact nw rfl
  | cons w ws =>
    cases ds with
    | nil => cases a
    | cons y ys =>
      rw [List.map_cons, List.map_cons] at a
      injection a with a _
      cases a
end
end Half

namespace Half
open PySem PySem.Spec PyProof.Rows L2
/-! ### add_row -/
def AddAt (K : PySem.W.Frag) (CV CD : Addr) (H0 : Hp) (x : Addr) (p : Nat) (Q : VK) (E : XK) : Except Nat Dr → Prop
  | .error k => ∀ H' dd, Same H0 H' → H' dd = some (.xd [("word", .int (k : Nat)), ("row", .int (p : Nat))]) → E (.ref CV) (some dd) H'
  | .ok d' => ∀ H', DrAt K CD H0 H' x d' → Q .non H'
def spAdd (K : PySem.W.Frag) (CR CV CD : Addr) : Sp := fun vs H Q E => ∃ (x r dr lw : Addr) (p : Nat) (ws : List Str) (H0 : Hp) (d : Dr), vs = [.ref x, .ref r] ∧ DrAt K CD H0 H x d ∧ DrOk d ∧ RowIs CR H r dr lw p ws 0 ∧ H0 r = none ∧ ws ≠ [] ∧ d.eds.length ≤ 900 ∧ d.ss.length ≤ 900 ∧ AddAt K CV CD H0 x p Q E (addM d ws)
structure DraF (P : Program) (w : World) (K : PySem.W.Frag) (mg : Str → Option Value) (base : Heap) (CR CV CD fE : Addr) (fdE : FuncData) : Prop where
  R : RowF P w K mg base CR CV fE fdE
  cl : Cls K CD
  nW : NoAttr K CD "last_word"
  nK : NoAttr K CD "last_key"
  nN : NoAttr K CD "last_name"
  nP : NoAttr K CD "part_dicts"
  nS : NoAttr K CD "told_states"
  scr : ∃ a, mg "SCRIPTS" = some (.ref a) ∧ ∀ H, SqT K H a (SCR.map V.str)
  fol : ∃ d es n, mg "FOLLOWERS" = some (.ref d) ∧ KDict K w d es n ∧ ∀ z fs, folM z = some fs → ∃ q, PySem.W.nsIn K d z = some (some (.ref q)) ∧ ∀ H, SqT K H q (fs.map V.str)
  dN : DefX P w K mg base 4 "take_name" ["row", "before"] (spTkn CR CV)
  dK : DefX P w K mg base 5 "take_key" ["row", "before"] (spTky K CR CV)
  dS : DefX P w K mg base 5 "take_state" ["row"] (spTst K CR CV)
  dP : DefX P w K mg base 6 "part_in" ["row", "word"] (spPin K CR CV)
theorem part_kind {ws : List Str} {t t2 : Nat} {w : Str} {v : Prt} (h : partM ws t w = .ok (v, t2)) (hw : w = "scripts" ∨ w = "needs" ∨ w = "first" ∨ w = "against") : (w = "scripts" ∧ ∃ l, v = .nms l) ∨ (w = "against" ∧ ∃ l, v = .nms l) ∨ (w = "needs" ∧ ∃ l, v = .nds l) ∨ (w = "first" ∧ ∃ l, v = .nds l) := by
  have un : ∀ {α : Type} {f : α → Prt} {y : TR α}, mapT f y = .ok (v, t2) → ∃ l, v = f l := fun {α f y} q => by
    cases y with
    | error k => cases q
    | ok p => cases q; exact ⟨_, rfl⟩
  unfold partM at h
  by_cases c1 : w = "scripts"
  · rw [if_pos c1] at h
    exact .inl ⟨c1, un h⟩
  · rw [if_neg c1] at h
    by_cases c2 : w = "against"
    · rw [if_pos c2] at h
      exact .inr (.inl ⟨c2, un h⟩)
    · rw [if_neg c2] at h
      rcases hw with q | q | q | q
      · exact absurd q c1
      · exact .inr (.inr (.inl ⟨q, un h⟩))
      · exact .inr (.inr (.inr ⟨q, un h⟩))
      · exact absurd q c2
abbrev AddN : List Str := ["self", "row", "word", "name", "version", "parts"]
section
variable {P : Program} {w : World} {K : PySem.W.Frag} {mg : Str → Option Value} {base : Heap} {CR CV CD fE : Addr} {fdE : FuncData}
theorem scAdd : FnScope AddN ["self", "row"] (defScope (sDr 1)) := ⟨rfl, rfl, rfl, by decide +kernel, rfl, by decide +kernel, by decide +kernel⟩
theorem ok_add {f : Addr} {fd : FuncData} (F : Fun K "add_row" "Draft.add_row" (sDr 1) f fd) (D : DraF P w K mg base CR CV CD fE fdE) : FnOk P w K mg base (L2.CX P w) 7 f fd ["self", "row"] (spAdd K CR CV CD) := by
  refine F.okX scAdd (fun vs H Q E h => ?_) (fun cdv A outer s H vs Q E hr h => ?_)
  · obtain ⟨x, r, dr, lw, p, ws, H0, d, rfl, _⟩ := h
    rfl
  · obtain ⟨x, r, dr, lw, p, ws, H0, d, rfl, hD, dOk, hR, nr0, nws, le, ls, k⟩ := h
    have nd := scAdd.nd
    have T := D.R.T
    have hu := hu_of hr
    have r3 : Room 3 _ := hr.mono (by decide)
    have r4 : Room 4 _ := hr.mono (by decide)
    have r5 : Room 5 _ := hr.mono (by decide)
    have r6 : Room 6 _ := hr.mono (by decide)
    obtain ⟨aS, gS, hS⟩ := D.scr
    obtain ⟨dF, esF, nF, gF, KD, kF⟩ := D.fol
    obtain ⟨fT, fdT, MT, FT, bT⟩ := D.R.mT.ex
    obtain ⟨fA, fdA, MA, FA, bA⟩ := D.R.mA.ex
    obtain ⟨fF, fdF, MF, FF, bF⟩ := D.R.mF.ex
    refine ⟨_, pss_cons (ps_set (i := 2) nd rfl (Or.inl rfl) (pe_meth0 (pv 1) T.cl MT (ok_tke FT T D.R.mI) r3 bT .nil (passes_call (takes_of rfl rfl rfl rfl) (fun _ _ _ _ h => h))))
      (pss_cons (ps_expr (pe_meth (pv 1) T.cl MA (ok_apr FA T) r3 bA .nil (passes_call (takes_of rfl rfl rfl rfl) (fun _ _ _ _ h => h)) (pa_cons (pe_cmpR (op_in_seq : OpR _ _ (rIn K false)) (pv 2) (pe_ix ix_kdict (pe_glob (v := .ref dF) rfl gF rfl) (pe_fld (pv 0) rfl) (fun _ _ => rfl)) (by rfl)) pa_nil)))
      (pss_cons (ps_fld (pv 0) (pv 2) rfl)
      (pss_cons (ps_if (pt_cmpR op_eq (pv 2) pe_str (nomark _))
        (pss_cons (ps_fld (pv 0) (pe_defX D.dK r5 rfl (passes_call (takes_of rfl rfl rfl rfl) (fun _ _ _ _ h => h)) (pa_cons (pv 1) (pa_cons (pe_fld (pv 0) rfl) pa_nil))) rfl)
        (pss_cons (ps_asg (pe_fld (pv 0) rfl) (pg_tup rfl (pgs_cons (pg_name (i := 3) nd rfl (Or.inl rfl)) (pgs_cons (pg_name (i := 4) nd rfl (Or.inl rfl)) pgs_nil))))
        (pss_one (ps_expr (pe_bm PySem.F.plainAttrs_list PySem.F.slot_list_append PySem.F.type_list_append mt_append (pe_fld (pv 0) rfl) (pa_cons (pe_disp (pps_cons pe_str (pv 3) (pps_cons pe_str (pv 4) (pps_cons pe_str (pe_glob (v := .ref aS) rfl gS rfl) (pps_cons pe_str (pe_tup pa_nil) (pps_cons pe_str (pe_tup pa_nil) (pps_cons pe_str (pe_tup pa_nil) pps_nil)))))) (by rfl) (by rfl) (fun z => by cases z) (by decide)) pa_nil))))))
        (pss_one (ps_if (pt_cmpR op_eq (pv 2) pe_str (nomark _))
          (pss_cons (ps_fld (pv 0) (pe_defX D.dN r4 rfl (passes_call (takes_of rfl rfl rfl rfl) (fun _ _ _ _ h => h)) (pa_cons (pv 1) (pa_cons (pe_fld (pv 0) rfl) pa_nil))) rfl)
          (pss_one (ps_dput hu (pe_fld (pv 0) rfl) (pe_fld (pv 0) rfl) (pe_defX D.dS r5 rfl (passes_call (takes_of rfl rfl rfl rfl) (fun _ _ _ _ h => h)) (pa_cons (pv 1) pa_nil)) rfl)))
          (pss_cons (ps_set (i := 5) nd rfl (Or.inl rfl) (pe_ix (ix_list : IxR _ (rIxL K)) (pe_fld (pv 0) rfl) (pe_un un_neg pe_int) (fun _ _ => rfl)))
          (pss_one (ps_dput hu (pv 5) (pv 2) (pe_defX D.dP r6 rfl (passes_call (takes_of rfl rfl rfl rfl) (fun _ _ _ _ h => h)) (pa_cons (pv 1) (pa_cons (pv 2) pa_nil))) rfl))))))
      (pss_one (ps_expr (pe_meth0 (pv 1) T.cl MF (ok_fsh FF T D.R.mI) r3 bF .nil (passes_call (takes_of rfl rfl rfl rfl) (fun _ _ _ _ h => h)))))))), ?_⟩
    obtain ⟨dx, tk, pl, ts, ds, kvs, hI⟩ := hD
    obtain ⟨w0, wt, rfl⟩ : ∃ w0 wt, ws = w0 :: wt := by
      cases ws with
      | nil => exact absurd rfl nws
      | cons w0 wt => exact ⟨w0, wt, rfl⟩
    obtain ⟨fs, hfs⟩ := dOk.fol
    have e0 : addM d (w0 :: wt) = if inV (.str w0) (fs.map V.str) = true then finM (w0 :: wt) (stepM d (w0 :: wt) w0) else .error 0 := by
      unfold addM
      rw [hfs]
    rw [e0] at k
    -- an error goes on
    have bad : ∀ {H1 : Hp} {j : Nat}, Same H0 H1 → AddAt K CV CD H0 x p Q E (.error j) → ErrAt CV H1 r E p j := fun s1 kE H' dd sb hd => kE H' dd (same_of_sb nr0 s1 sb) hd
    -- the row's end
    have fin : ∀ {H1 : Hp} {d' : Dr} {t : Nat} {dx tk pl ts : Addr} {ds : List Addr} {kvs : List (Key × V)}, DrIs K CD H0 H1 x dx tk pl ts ds kvs d' → RowIs CR H1 r dr lw p (w0 :: wt) t → AddAt K CV CD H0 x p Q E (finM (w0 :: wt) (.ok (d', t))) →
        spFsh CR CV [.ref r] H1 (fun _ H' => Q .non H') E := fun {H1 d' t dx tk pl ts ds kvs} h1 h2 h3 => by
      refine ⟨r, dr, lw, p, t, _, rfl, h2, fun c => ?_, fun c => ?_⟩
      · unfold finM at h3
        dsimp only at h3
        rw [if_pos c] at h3
        exact h3 H1 ⟨_, _, _, _, _, _, h1⟩
      · unfold finM at h3
        dsimp only at h3
        rw [if_neg c] at h3
        exact bad h1.same h3
    have h1 := hR.at_
    refine ⟨_, rfl, r, dr, _, rfl, h1, rfl, r, dr, lw, p, 0, _, rfl, hR, fun z hz => ?_, fun hz => by cases hz⟩
    cases hz
    have hS1 := hR.step (z := w0) rfl
    have sb1 : SameBut r H (upd H r (rowO CR dr p lw (0 + 1))) := sb_upd
    have hI1 := hI.row hR nr0 sb1
    generalize upd H r (rowO CR dr p lw (0 + 1)) = H1 at hS1 sb1 hI1 ⊢
    obtain ⟨q, hq, hQ⟩ := kF _ _ hfs
    have kd : KDct K w dF d.lw (.ref q) := ⟨esF, nF, _, KD.at_, KD.lit, hq, rfl⟩
    refine ⟨_, rfl, r, dr, _, rfl, hS1.at_, rfl, ?_⟩
    refine ⟨_, rfl, _, rfl, x, CD, dx, _, _, rfl, hI1.at_, D.cl, D.nW, rfl, dF, d.lw, .ref q, rfl, rfl, kd, q, _, rfl, .inr (hQ _), rfl, flat_strs fs, ?_⟩
    rw [if_neg (by decide)]
    refine ⟨r, dr, lw, p, 0, _, _, rfl, hS1, fun c => ?_, fun c => ?_⟩
    rotate_left
    · rw [if_neg (by rw [c]; exact Bool.false_ne_true)] at k
      exact bad hI1.same k
    rw [if_pos c] at k
    obtain ⟨hw, fs', hfs'⟩ := fol_words hfs c
    refine ⟨_, rfl, _, rfl, x, CD, dx, _, rfl, hI1.at_, D.cl, D.nW, (by show 5 < 1000; decide), ?_⟩
    have hI2 := hI1.atx (w := w0) (ln := d.ln) hI1.key
    have xr := hI1.xr hS1
    have lwx : lw ≠ x := ins_ne hS1.words hI1.at_ (by intro _ _ _ z; cases z)
    have hS2 := hS1.off (u := drO CD dx tk pl ts w0 d.ln) hI1.at_ xr (Ne.symm lwx)
    have e2 : (.ins CD dx (putF "last_word" (.str w0) [("last_word", .str d.lw), ("last_key", .ref tk), ("last_name", .str d.ln), ("part_dicts", .ref pl), ("told_states", .ref ts)]) : HO) = drO CD dx tk pl ts w0 d.ln := rfl
    rw [e2]
    generalize upd H1 x (drO CD dx tk pl ts w0 d.ln) = H2 at hI2 hS2 ⊢
    refine ⟨_, rfl, rfl, _, rfl, ?_⟩
    rw [dec_str]
    unfold stepM at k
    by_cases c1 : w0 = "edition"
    · rw [if_pos c1] at k
      refine ite_yes (decide_eq_true c1) ?_
      refine ⟨_, rfl, _, rfl, x, CD, dx, _, _, rfl, hI2.at_, D.cl, D.nK, rfl, r, dr, lw, p, 1, _, tk, d.key, rfl, hS2, hI2.key, ?_⟩
      cases c2 : keyM (w0 :: wt) 1 d.key with
      | error j =>
        rw [c2] at k
        exact bad hI2.same k
      | ok q2 =>
        obtain ⟨kn, t⟩ := q2
        rw [c2] at k
        intro H3 sb3 hS3 a ha
        have hI3 := hI2.row hS2 nr0 sb3
        refine ⟨_, rfl, x, CD, dx, _, rfl, hI3.at_, D.cl, D.nK, (by show 5 < 1000; decide), ?_⟩
        have hI4 := hI3.atx (w := w0) (ln := d.ln) ha
        have hS4 := hS3.off (u := drO CD dx a pl ts w0 d.ln) hI3.at_ xr (Ne.symm lwx)
        have e4 : (.ins CD dx (putF "last_key" (.ref a) [("last_word", .str w0), ("last_key", .ref tk), ("last_name", .str d.ln), ("part_dicts", .ref pl), ("told_states", .ref ts)]) : HO) = drO CD dx a pl ts w0 d.ln := rfl
        rw [e4]
        generalize upd H3 x (drO CD dx a pl ts w0 d.ln) = H4 at hI4 hS4 ⊢
        refine ⟨_, rfl, x, CD, dx, _, _, rfl, hI4.at_, D.cl, D.nK, rfl, a, _, rfl, hI4.key, rfl, _, _, rfl, _, _, rfl, rfl, ?_⟩
        have lds : ds.length = d.eds.length := hI4.eds.length
        refine ⟨_, rfl, x, CD, dx, _, _, rfl, hI4.at_, D.cl, D.nP, rfl, .inl ⟨rfl, _, SqL.of hI4.lst⟩, fun pd npd => ?_⟩
        have s5 := Same.upd_new (o := .dK []) npd
        have g5 : (upd H4 pd (.dK [])) pd = some (.dK []) := upd_same
        generalize upd H4 pd (.dK []) = H5 at s5 g5 ⊢
        have pdx : pd ≠ pl := fun e => by rw [e, hI4.lst] at npd; cases npd
        refine ⟨_, rfl, _, rfl, Nat.zero_le _, fun t1 nt1 => ?_⟩
        have s6 := Same.upd_new (o := .tup []) nt1
        have k1 : SqT K (upd H5 t1 (.tup [])) t1 [] := SqT.of upd_same
        generalize upd H5 t1 (.tup []) = H6 at s6 k1 ⊢
        refine ⟨Nat.zero_le _, fun t2 nt2 => ?_⟩
        have s7 := Same.upd_new (o := .tup []) nt2
        have k2 : SqT K (upd H6 t2 (.tup [])) t2 [] := SqT.of upd_same
        generalize upd H6 t2 (.tup []) = H7 at s7 k2 ⊢
        refine ⟨Nat.zero_le _, fun t3 nt3 => ?_⟩
        have s8 := Same.upd_new (o := .tup []) nt3
        have k3 : SqT K (upd H7 t3 (.tup [])) t3 [] := SqT.of upd_same
        generalize upd H7 t3 (.tup []) = H8 at s8 k3 ⊢
        have s48 : Same H4 H8 := s5.trans (s6.trans (s7.trans s8))
        have g8 : H8 pd = some (.dK []) := s8 _ _ (s7 _ _ (s6 _ _ g5))
        have hI8 : DrIs K CD H0 H8 x dx a pl ts ds kvs { d with lw := w0, key := kn, ln := d.ln } := by
          have eq : ∀ {b : Addr} {o : HO}, H4 b = some o → H8 b = H4 b := fun q => (s48 _ _ q).trans q.symm
          refine hI4.mv s48.kp (eq hI4.at_) (eq hI4.lst) (eq hI4.tst) (fun b hb => ?_) (hI4.same.trans s48)
          obtain ⟨kv, q⟩ := hI4.dict hb
          exact eq q
        have hS8 := hS4.same s48
        refine ⟨g8, edKv (edN kn) aS t1 t2 t3, rfl, (by show 6 ≤ 15; decide), ?_⟩
        have em : mergeK [] (edKv (edN kn) aS t1 t2 t3) = edKv (edN kn) aS t1 t2 t3 := rfl
        rw [em]
        have kp9 : Kp K H8 (upd H8 pd (.dK (edKv (edN kn) aS t1 t2 t3))) := Kp.upd g8 (fun _ z => by cases z) (fun _ _ z => by cases z)
        have npd' : ∀ b o, H4 b = some o → b ≠ pd := fun b o q e => by rw [e, npd] at q; cases q
        have hI9 : DrIs K CD H0 (upd H8 pd (.dK (edKv (edN kn) aS t1 t2 t3))) x dx a pl ts ds kvs { d with lw := w0, key := kn, ln := d.ln } := by
          refine hI8.mv kp9 (upd_ne (npd' _ _ hI4.at_)) (upd_ne (npd' _ _ hI4.lst)) (upd_ne (npd' _ _ hI4.tst)) (fun b hb => ?_) (fun b o q => ?_)
          · obtain ⟨kv, q⟩ := hI4.dict hb
            exact upd_ne (npd' _ _ q)
          · rw [upd_ne (npd' _ _ (hI4.same b o q))]
            exact hI8.same b o q
        have hS9 := hS8.off (u := .dK (edKv (edN kn) aS t1 t2 t3)) g8 (Ne.symm (npd' _ _ hS4.at_)) (Ne.symm (npd' _ _ hS4.words))
        have hD9 : DictAt K (upd H8 pd (.dK (edKv (edN kn) aS t1 t2 t3))) pd (edN kn) := ⟨aS, t1, t2, t3, upd_same, hS _, .nil (kp9 _ _ (s8.sqT (s7.sqT k1))), .nil (kp9 _ _ (s8.sqT k2)), kp9 _ _ k3⟩
        generalize upd H8 pd (.dK (edKv (edN kn) aS t1 t2 t3)) = H9 at hI9 hS9 hD9 ⊢
        refine ⟨pl, ds.map V.ref, .ref pd, rfl, rfl, hI9.lst, by rw [List.length_map, sizeLine_eq]; omega, ?_⟩
        have n0pd : H0 pd = none := by
          cases c : H0 pd with
          | none => rfl
          | some o => rw [hI4.same _ _ c] at npd; cases npd
        have hI10 := hI9.more hD9 (fun m => by
          obtain ⟨kv, q⟩ := hI4.dict m
          exact npd' _ _ q rfl) (Ne.symm (npd' _ _ hI4.tst)) n0pd
        have hS10 := hS9.off (u := .lst ((ds ++ [pd]).map V.ref)) hI9.lst (ins_ne hI9.lst hS9.at_ (by intro _ _ _ z; cases z)) (hI9.lwpl hS9 (by simp))
        have e10 : ds.map V.ref ++ [V.ref pd] = (ds ++ [pd]).map V.ref := by rw [List.map_append]; rfl
        rw [e10]
        generalize upd H9 pl (.lst ((ds ++ [pd]).map V.ref)) = H10 at hI10 hS10 ⊢
        exact ⟨_, rfl, r, dr, _, rfl, hS10.at_, rfl, fin hI10 hS10 k⟩
    · rw [if_neg c1] at k
      refine ite_no (decide_eq_false c1) ?_
      refine ⟨_, rfl, rfl, _, rfl, ?_⟩
      rw [dec_str]
      by_cases c3 : w0 = "state"
      · rw [if_pos c3] at k
        refine ite_yes (decide_eq_true c3) ?_
        refine ⟨_, rfl, _, rfl, x, CD, dx, _, _, rfl, hI2.at_, D.cl, D.nN, rfl, r, dr, lw, p, 1, _, d.ln, rfl, hS2, ?_⟩
        cases c2 : nameM (w0 :: wt) 1 d.ln with
        | error j =>
          rw [c2] at k
          exact bad hI2.same k
        | ok q2 =>
          obtain ⟨n, t⟩ := q2
          rw [c2] at k
          dsimp only at k
          intro H3 sb3 hS3
          have hI3 := hI2.row hS2 nr0 sb3
          refine ⟨_, rfl, x, CD, dx, _, rfl, hI3.at_, D.cl, D.nN, (by show 5 < 1000; decide), ?_⟩
          have hI4 := hI3.atx (w := w0) (ln := n) hI3.key
          have hS4 := hS3.off (u := drO CD dx tk pl ts w0 n) hI3.at_ xr (Ne.symm lwx)
          have e4 : (.ins CD dx (putF "last_name" (.str n) [("last_word", .str w0), ("last_key", .ref tk), ("last_name", .str d.ln), ("part_dicts", .ref pl), ("told_states", .ref ts)]) : HO) = drO CD dx tk pl ts w0 n := rfl
          rw [e4]
          generalize upd H3 x (drO CD dx tk pl ts w0 n) = H4 at hI4 hS4 ⊢
          refine ⟨_, rfl, r, dr, lw, p, t, _, rfl, hS4, ?_⟩
          cases c4 : stateM (w0 :: wt) t with
          | error j =>
            rw [c4] at k
            exact bad hI4.same k
          | ok q4 =>
            obtain ⟨s, t2⟩ := q4
            rw [c4] at k
            intro H5 sb5 hS5 a ha
            have hI5 := hI4.row hS4 nr0 sb5
            have lkv : kvs.length = d.ss.length := hI5.sl.len
            refine ⟨_, rfl, x, CD, dx, _, _, rfl, hI5.at_, D.cl, D.nS, rfl, _, rfl, x, CD, dx, _, _, rfl, hI5.at_, D.cl, D.nN, rfl, ts, _, rfl, DPut.k (k := .inr n) hI5.tst (by rw [sizeLine_eq]; omega), ?_⟩
            have hI6 := hI5.tell (n := n) ha
            have hS6 := hS5.off (u := .dK (putK kvs (.inr n) (.ref a))) hI5.tst (ins_ne hI5.tst hS5.at_ (by intro _ _ _ z; cases z)) (ne_of hI5.tst hS5.words (by intro z; cases z))
            generalize upd H5 ts (.dK (putK kvs (.inr n) (.ref a))) = H6 at hI6 hS6 ⊢
            exact ⟨_, rfl, r, dr, _, rfl, hS6.at_, rfl, fin hI6 hS6 k⟩
      · rw [if_neg c3] at k
        refine ite_no (decide_eq_false c3) ?_
        have hw2 : (w0 = "scripts" ∧ d.lw ≠ "") ∨ (w0 = "needs" ∧ d.lw ≠ "") ∨ (w0 = "first" ∧ d.lw ≠ "") ∨ (w0 = "against" ∧ d.lw ≠ "") := by
          rcases hw with h | h | h
          · exact absurd h c1
          · exact absurd h c3
          · exact h
        have ne : d.eds ≠ [] := by
          rcases dOk.eds with h | h
          · rcases hw2 with q | q | q | q <;> exact absurd h q.2
          · exact h
        obtain ⟨ds0, ad, e, kv, eds, hlast, gad, lkv, step⟩ := hI2.last ne
        have atl : atI (ds.map V.ref) (-1) = some (.ref ad) := by
          rw [eds, List.map_append]
          exact atI_last _ _
        refine ⟨_, rfl, x, CD, dx, _, _, rfl, hI2.at_, D.cl, D.nP, rfl, 1, rfl, pl, _, -1, _, rfl, rfl, SqL.of hI2.lst, atl, ?_⟩
        refine ⟨_, rfl, _, rfl, r, dr, lw, p, 1, _, w0, rfl, hS2, ?_⟩
        cases c2 : partM (w0 :: wt) 1 w0 with
        | error j =>
          rw [c2] at k
          exact bad hI2.same k
        | ok q2 =>
          obtain ⟨v, t⟩ := q2
          rw [c2] at k
          intro H3 sb3 hS3 a ha
          have hI3 := hI2.row hS2 nr0 sb3
          have g3 : H3 ad = some (.dK kv) := sb3 _ _ (ins_ne gad hS2.at_ (by intro _ _ _ z; cases z)) gad
          have kp3 : Kp K H2 H3 := fun a xs q => sqt_sb hS2.at_ sb3 q
          have hv : (w0 = "scripts" ∧ ∃ l, v = .nms l) ∨ (w0 = "against" ∧ ∃ l, v = .nms l) ∨ (w0 = "needs" ∧ ∃ l, v = .nds l) ∨ (w0 = "first" ∧ ∃ l, v = .nds l) := part_kind c2 (by rcases hw2 with q | q | q | q <;> simp [q.1])
          have hI4 := step w0 v a H3 hI3 g3 kp3 hv ha
          have hS4 := hS3.off (u := .dK (putK kv (.inr w0) (.ref a))) g3 (ins_ne g3 hS3.at_ (by intro _ _ _ z; cases z)) (ne_of g3 hS3.words (by intro z; cases z))
          refine ⟨_, rfl, _, rfl, ad, _, rfl, DPut.k (k := .inr w0) g3 (by rw [lkv]; decide), ?_⟩
          generalize upd H3 ad (.dK (putK kv (.inr w0) (.ref a))) = H4 at hI4 hS4 ⊢
          exact ⟨_, rfl, r, dr, _, rfl, hS4.at_, rfl, fin hI4 hS4 k⟩
end
end Half

/-! A list comprehension whose element may raise: what a callee lets out goes on in the frame of the def around. -/
namespace L2
open PySem PySem.Spec PyProof.Rows
theorem Inv.toX {X : Cx} {pins : List (Addr × Obj)} {σ : St} {H : Hp} {s : Shared} (I : Inv X pins σ H s) (x2 : Value → Shared → Prop) : Inv { X with xe := x2 } pins σ H s :=
  have ok := I.ok
  ⟨⟨ok.mod, ok.kind, ok.glob, ok.blt, ok.above, ok.inj, ok.has, ok.cab, ok.hd, ok.frames, ok.stk, ok.exf, ok.bs, ok.bsz, ok.noex, ok.exfs, ok.funs, ok.frf⟩, I.os, I.bare, I.base, I.loc, I.cell, I.free, I.freeC, I.pin, I.hok, I.len⟩
theorem Inv.ofX {X : Cx} {pins : List (Addr × Obj)} {σ : St} {H : Hp} {s : Shared} {x2 : Value → Shared → Prop} (I : Inv { X with xe := x2 } pins σ H s) : Inv X pins σ H s :=
  have ok := I.ok
  ⟨⟨ok.mod, ok.kind, ok.glob, ok.blt, ok.above, ok.inj, ok.has, ok.cab, ok.hd, ok.frames, ok.stk, ok.exf, ok.bs, ok.bsz, ok.noex, ok.exfs, ok.funs, ok.frf⟩, I.os, I.bare, I.base, I.loc, I.cell, I.free, I.freeC, I.pin, I.hok, I.len⟩
/-- the block's context where its element may let out what EK tells -/
abbrev Cx.blkx (X : Cx) (s : Shared) (H : Hp) (scope : Scope) (cenv : Env) (fp : List Addr) (EK : XK) : Cx :=
  { X.blk s H scope cenv fp with xe := fun e s' => ∃ pins σ H1 s1, Inv (X.blk s H scope cenv fp) pins σ H1 s1 ∧ CX X.prog X.w X.stack H1 s1 EK e s' }
theorem passes_blkx {X : Cx} {s : Shared} {H : Hp} {scope : Scope} {cenv : Env} {fp : List Addr} {EK E : XK} (hW : ∀ cls d H, E cls d H → EK cls d H) :
    ∀ (pins : List (Addr × Obj)) (σ : St) (H1 : Hp) (s1 : Shared) (e : Value) (s' : Shared), Inv (X.blkx s H scope cenv fp EK) pins σ H1 s1 → CX X.prog X.w X.stack H1 s1 E e s' → (X.blkx s H scope cenv fp EK).xe e s' := by
  rintro pins σ H1 s1 e s' I ⟨a, B, H', cls, d, e1, fl, hok, ub, na, os, ag, hE⟩
  exact ⟨pins, σ, H1, s1, Inv.ofX (X := X.blk s H scope cenv fp) I, a, B, H', cls, d, e1, fl, hok, ub, na, os, ag, hW _ _ _ hE⟩
section
variable {X : Cx} {pins : List (Addr × Obj)} {σ : St} {H3 : Hp} {s3 : Shared} {W : WX} {EK : XK}
theorem upTrans {h1 h2 h3 : Heap} (a : h1.UpToSlots h2) (b : h2.UpToSlots h3) : h1.UpToSlots h3 := a.trans b
/-- an exception of the block's element, noted, behind the block: in the air of the def -/
theorem block_fails {scope : Scope} {ce : Env} {fp : List Addr} (I3 : Inv X pins σ H3 s3) (hs : X.stack = X.env :: X.outer) (hf : X.env.frame = some X.env.locals) (tk : Takes X W) (hW : ∀ cls d H, EK cls d H → W cls d σ H)
    (cL : ce.locals = s3.heap.objs.size) (cF : ce.frame = X.env.frame) (hfp : ∀ b ∈ fp, FpOk X pins H3 b ∧ b < s3.heap.objs.size) {e : Value} {s' : Shared} (h : (X.blkx s3 H3 scope ce fp EK).xe e s') :
    notedBy (model X.prog X.w) X.A ce (fun x s' => CompFails (model X.prog X.w) X.A X.xe ce x s') e s' := by
  obtain ⟨pB, σB, HB, sB, IB, a, B, H', cls, d, rfl, fl, hok, ub, na, os, ag, hE⟩ := h
  have hfr : X.A.frames = some (X.env :: X.outer) := by rw [I3.ok.frames, hs]
  generalize hC : s3.heap.objs.size = C at cL
  have base : Un (frs X.stack) fp H3 HB s3.heap sB.heap := IB.base
  have fCL : HB C = none := by
    have z : HB ce.locals = none := IB.free
    rw [cL] at z
    exact z
  have nfs : ∀ b ∈ frs X.stack, ∃ o, s3.heap.get? b = some o ∧ H3 b = none ∧ (∀ vs, o.data ≠ .fields vs) ∧ b ≠ C := fun b hb => by
    obtain ⟨_, o, e1, hd⟩ := I3.stack.mem hb
    exact ⟨o, e1, I3.stkFree b hb, hd, by rw [← hC]; exact Nat.ne_of_lt (Heap.lt_size e1)⟩
  have Cfs : C ∉ frs X.stack := fun m => by
    obtain ⟨_, _, _, _, z⟩ := nfs C m
    exact z rfl
  have lt3 : ∀ {b o}, s3.heap.get? b = some o → b ≠ C := fun {b o} q => by rw [← hC]; exact Nat.ne_of_lt (Heap.lt_size q)
  obtain ⟨mB, hnB, _⟩ := IB.loc
  have hnB : sB.heap.Ns ce.locals mB := hnB
  rw [cL] at hnB
  obtain ⟨oC, es, ep, hoC, hdC, rC⟩ := hnB
  have BC : B.get? C = some oC := ub.keep C oC hoC fCL Cfs
  show wpAny _ _ (noteFrame (.ref a) ce) _ _ s'
  rw [noteFrame_env _ cF]
  rw [hs] at fl
  refine HandSPX.looks_onZ Zc.steady hfr hf fl fun h2 hH2 up2 => ?_
  obtain ⟨st2, na2, ff2, tr2⟩ := hH2
  have gC2 : h2.get? C = some oC := st2 C oC BC
  show CompFails _ _ _ ce (.ref a) _
  refine ⟨mB, ?_, fun h3 m3 hn3 sb3 => ?_⟩
  · rw [cL]
    exact ⟨oC, es, ep, gC2, hdC, rC⟩
  rw [cL] at hn3 sb3
  have sb3' : Heap.SameBut C h2 h3 := sb3
  -- the ground without the block
  obtain ⟨B', b1, b2⟩ := restrict B fun b => decide (b ≠ C)
  have bs : ∀ b o, B'.get? b = some o → B.get? b = some o ∧ b ≠ C := fun b o q => by
    by_cases c : b = C
    · rw [b2 b (by simp [c])] at q; cases q
    · rw [b1 b (by simp [c])] at q; exact ⟨q, c⟩
  have bk : ∀ b o, B.get? b = some o → b ≠ C → B'.get? b = some o := fun b o q c => by rw [b1 b (by simp [c])]; exact q
  have bn : ∀ b, B.get? b = none → B'.get? b = none := fun b q => by
    cases z : B'.get? b with
    | none => rfl
    | some o => rw [(bs b o z).1] at q; cases q
  have st3 : B'.StaysIn h3 := fun b o q => (sb3'.2 b (bs b o q).2).trans (st2 b o (bs b o q).1)
  have nfr : ∀ L ∈ frs (X.env :: X.outer), B.get? L = none := fun L hL => (ff2.mem hL).1
  have ff3 : h3.FunFrames B' (X.env :: X.outer) := funFrames_none (Heap.FunFrames.sameBut sb3' hn3 ff2) fun L hL => bn L (nfr L hL)
  obtain ⟨oe, vs, T, oT, ts, he, hz, hd, h1, hT0, hTe, hT, hdT, h3'⟩ := tr2
  have aC : a ≠ C := fun q => by rw [q, gC2] at he; cases he; rw [hdC] at hd; cases hd
  have TC : T ≠ C := fun q => by rw [q, gC2] at hT; cases hT; rw [hdC] at hdT; cases hdT
  have he3 : h3.get? a = some oe := (sb3'.2 a aC).trans he
  have hT3 : h3.get? T = some oT := (sb3'.2 T TC).trans hT
  have hh3 : HandSPX.HeldZ B' (X.env :: X.outer) a (Zc cls d) X.env.locals h3 := ⟨st3, bn a na2, ff3, oe, vs, T, oT, ts, he3, hz, hd, h1, bn T hT0, hTe, hT3, hdT, h3'⟩
  unfold PySem.passOn
  refine wpAny_bind (wpAny_field (s := { s' with heap := h3 }) he3 hd h1 ?_)
  rw [if_neg (show ¬ ((Value.ref T == Value.none) = true) from by simp)]
  have fin : wpAny (model X.prog X.w) X.A (setFlight (.ref a) ce.frame) (fun _ s4 => wpAny (model X.prog X.w) X.A (throw (.ref a) : Sem Value) (fun _ _ => False) X.xe s4) X.xe { s' with heap := h3 } := by
    rw [cF, hf]
    refine HandSPX.setFlight_onZ hh3 fun h4 hh4 up4 => wpAny_throw (tk _ _ ?_)
    -- the state without the exception
    obtain ⟨G0, p1, p2⟩ := restrict h2 fun b => (B.get? b).isSome || decide (b ∈ frs X.stack)
    have gB : ∀ b o, B.get? b = some o → G0.get? b = some o := fun b o q => by
      rw [p1 b (by simp [q])]
      exact st2 b o q
    have gF : ∀ b, b ∈ frs X.stack → G0.get? b = h2.get? b := fun b hb => p1 b (by simp [hb])
    have og : ∀ b o, G0.get? b = some o → h2.get? b = some o ∧ (B.get? b = some o ∨ b ∈ frs X.stack) := fun b o q => by
      cases c : ((B.get? b).isSome || decide (b ∈ frs X.stack)) with
      | false => rw [p2 b c] at q; cases q
      | true =>
        rw [p1 b c] at q
        rcases Bool.or_eq_true _ _ ▸ c with c | c
        · obtain ⟨o', z⟩ := Option.isSome_iff_exists.mp c
          have := st2 b o' z
          rw [q] at this; cases this
          exact ⟨q, .inl z⟩
        · exact ⟨q, .inr (of_decide_eq_true c)⟩
    have slot2 : ∀ b o, sB.heap.get? b = some o → b ∈ frs X.stack → (∀ vs, o.data ≠ .fields vs) → ∃ sl, h2.get? b = some { o with slots := sl } := fun b o q hb hnf => by
      obtain ⟨sl, z⟩ := ub.slot b o q hb
      obtain ⟨sl2, z2⟩ := up2 b _ z hnf
      exact ⟨sl2, z2⟩
    have un : Un (frs X.stack) fp H3 H' s3.heap G0 := by
      refine ⟨fun b o q n hb hx => ?_, fun b o q n hb hx => ?_, fun b o q n hx => ?_, fun b o q hx => ?_, fun b xs q => ?_, fun b o u q => ?_, fun b ps q => ?_⟩
      · exact gB b o (ub.keep b o (base.keep b o q n hb hx) (base.free b o q n hx) hb)
      · obtain ⟨sl, z⟩ := base.slot b o q n hb hx
        obtain ⟨o3, e3, _, hnf, _⟩ := nfs b hb
        rw [q] at e3; cases e3
        obtain ⟨sl2, z2⟩ := slot2 b _ z hb hnf
        exact ⟨sl2, by rw [gF b hb]; exact z2⟩
      · obtain ⟨sl, z⟩ := base.any q n hx
        exact ub.free b _ z (base.free b o q n hx)
      · by_cases hb : b ∈ frs X.stack
        · obtain ⟨o3, e3, n3, hnf, _⟩ := nfs b hb
          rw [q] at e3; cases e3
          obtain ⟨sl, z⟩ := base.slot b o q n3 hb hx
          obtain ⟨sl2, z2⟩ := slot2 b _ z hb hnf
          exact ⟨_, by rw [gF b hb]; exact z2⟩
        · obtain ⟨o', z⟩ := base.there b o q hx
          obtain ⟨o2, z2⟩ := ub.there b o' z hb
          exact ⟨o2, gB b o2 z2⟩
      · exact ub.tups b xs (base.tups b xs q)
      · exact ub.frzs b o u (base.frzs b o u q)
      · obtain ⟨m1, z1⟩ := base.tbls b ps q
        obtain ⟨m2, z2⟩ := ub.tbls b _ z1
        exact ⟨m1 ++ m2, by rw [z2]; simp⟩
    have J0 : Inv X pins σ H' { s' with heap := G0 } := I3.call' (ch := fp) (s' := { s' with heap := G0 }) (os.trans IB.os) un (hok.kept gB) ag fun b hb => ⟨(hfp b hb).1.2.2.2.1, (hfp b hb).1.2.1, (hfp b hb).1.2.2.2.2.1, (hfp b hb).1.2.2.2.2.2⟩
    have nC : H' C = none := ub.free C oC hoC fCL
    obtain ⟨f0, f1, f2, f3, f4, f5⟩ := I3.fpOk (Nat.le_of_eq hC) nC
    obtain ⟨G1, q1, q2⟩ := restrict G0 fun b => decide (b ≠ C)
    have g1s : ∀ b o, G1.get? b = some o → G0.get? b = some o ∧ b ≠ C := fun b o q => by
      by_cases c : b = C
      · rw [q2 b (by simp [c])] at q; cases q
      · rw [q1 b (by simp [c])] at q; exact ⟨q, c⟩
    have J1 := Inv.turned (s := { s' with heap := G0 }) (it := C) (t' := s'.toks) (h' := G1) J0 (fun b o hb q => by rw [q1 b (by simp [hb])]; exact q) f0 f1 f3 f4 f5
    refine ⟨a, B', { s' with heap := G1 }, pins, σ, H', cls, d, rfl, J1, fun b o q hb => ?_, fun b o q hnf => ?_, .inr (.inr (by rw [hs]; exact hh4)), na, rfl, ag, hW _ _ _ hE⟩
    · obtain ⟨z, c⟩ := g1s b o q
      rcases (og b o z).2 with w | w
      · exact bk b o w c
      · exact absurd w hb
    · obtain ⟨z, c⟩ := g1s b o q
      exact up4 b o ((sb3'.2 b c).trans (og b o z).1) hnf
  first
    | exact wpAny_bind (wpAny_pure (wpAny_bind fin))
    | exact wpAny_bind fin
/-- [elt for target in iter if ..] where an element may raise -/
theorem lcx_core {s : Shared} {H : Hp} {Q : VK} {elt tg iter : Expr} {ifs : List Expr} {scope : Scope} {own : List (Str × Nat)} {pos pos' : Pos} {wi : TI} {g : TG} {tt : TT} {te : TE} {use : Option (Value → Sem Unit)} {Qf : Value → Shared → Prop}
    (hst : X.stack = X.env :: X.outer) (hfl : X.env.frame = some X.env.locals) (tk : Takes X W) (hW : ∀ cls d σ H, EK cls d H → W cls d σ H)
    (hc : X.calm = true) (hN : X.N.Nodup) (I : Inv X pins σ H s) (hi : PI X tg iter wi) (ok : BlkOk X.N X.env.scope scope own)
    (hg : ∀ (s : Shared) (H : Hp) (C : Addr) (cl : List (Str × Addr)) (fp : List Addr), PG (X.blkx s H scope (compEnvC scope cl C X.env) fp EK) tg g)
    (ht : ∀ (s : Shared) (H : Hp) (C : Addr) (cl : List (Str × Addr)) (fp : List Addr), PTs (X.blkx s H scope (compEnvC scope cl C X.env) fp EK) ifs tt)
    (he : ∀ (s : Shared) (H : Hp) (C : Addr) (cl : List (Str × Addr)) (fp : List Addr), PE (X.blkx s H scope (compEnvC scope cl C X.env) fp EK) elt te) (hsI : ∀ x, foldedSetIterable iter X.env x = pure x)
    (h : tLc wi g tt te (own.map (·.2)) σ H Q)
    (hRR : ∀ D (C : Env) s' m H', Inv X pins σ H' s' → Q (.ref D) H' → s'.heap.Ns C.locals m → FpOk X pins H' C.locals → compEnds (model X.prog X.w) X.A X.xe use Qf (.ref D) C (.ok .next) s') :
    wpAny (model X.prog X.w) X.A (comprehension (.ListComp elt [⟨tg, iter, ifs, 0⟩] scope pos) scope X.env pos' (newList []) false (eval iter X.env) use) Qf X.xe s := by
  have hfree : ∀ y ∈ scope.names, y.2 = .free → ∃ c, X.env.cells.lookup y.1 = some c := fun y hy e => by
    rcases ok.free y hy e with k | k
    · exact I.ok.has _ (.inl k)
    · exact I.ok.has _ (.inr k)
  refine comprehension_at (use := use) rfl hsI (closure_ok hfree) ok.kind (fun y hy e => by rw [ok.uniq y hy, e])
    (thn (hi.run pins s σ H _ I h) fun xv s1 hx => thn hx fun itv s2 h2 => ?_)
  obtain ⟨it, fp, tn, J, H2, e, I2, T, st2, f2, q⟩ := h2
  subst e
  refine wpAny_newObj_type (newEnv_comp ?_) (by show 0 ≤ sizeLine; decide)
  generalize hD : s2.heap.objs.size = D
  have hDn : H2 D = none := I2.hok.fresh (Nat.le_of_eq hD)
  obtain ⟨Wm, ⟨m0, w0⟩, turn⟩ := q D hDn
  generalize hs3 : ({ s2 with heap := s2.heap.push { cls := .type "list", data := .seq ([] : List Value).toArray } } : Shared) = s3
  have I3 : Inv X pins σ (upd H2 D (.lst [])) s3 := by
    rw [← hs3]
    refine I2.laid (t' := s2.toks) (fun b o e => Heap.get?_push_of_some _ e) (Nat.le_of_eq hD) ⟨Nat.zero_le _, [], 0, .nil, ?_⟩
    rw [← hD]
    exact Heap.get?_push_size _ rfl
  have h3 : s3.heap = s2.heap.push { cls := .type "list", data := .seq ([] : List Value).toArray } := by rw [← hs3]
  have sz : ∀ b ∈ fp, b < s2.heap.objs.size := fun b hb => by
    obtain ⟨o, e, _⟩ := T.obj _ _ st2 b hb
    exact Heap.lt_size e
  have f3 : ∀ b ∈ fp, FpOk X pins (upd H2 D (.lst [])) b ∧ b < s3.heap.objs.size := fun b hb => by
    have hlt := sz b hb
    refine ⟨⟨?_, (f2 b hb).2⟩, by rw [h3, Heap.size_push]; exact Nat.lt_succ_of_lt hlt⟩
    rw [upd_ne (by rw [← hD]; exact Nat.ne_of_lt hlt)]
    exact (f2 b hb).1
  have st3 : tn 0 s3.heap := T.keep _ _ _ st2 fun b _ o e => by rw [h3]; exact Heap.get?_push_of_some _ e
  have I4 := (block_start I3 ok hN f3).toX ( (X.blkx s3 (upd H2 D (.lst [])) scope (compEnvC scope (cellsFrom (s3.heap.objs.size + 1) scope.names (cloFrom X.env.cells scope.names [])) s3.heap.objs.size X.env) fp EK).xe)
  have pg := hg s3 (upd H2 D (.lst [])) s3.heap.objs.size (cellsFrom (s3.heap.objs.size + 1) scope.names (cloFrom X.env.cells scope.names [])) fp
  have pt := ht s3 (upd H2 D (.lst [])) s3.heap.objs.size (cellsFrom (s3.heap.objs.size + 1) scope.names (cloFrom X.env.cells scope.names [])) fp
  have pe := he s3 (upd H2 D (.lst [])) s3.heap.objs.size (cellsFrom (s3.heap.objs.size + 1) scope.names (cloFrom X.env.cells scope.names [])) fp
  show codeAny _ _ (.compStart (.ListComp elt [⟨tg, iter, ifs, 0⟩] scope pos) 0 (.ref it) (.ref D) (compEnvC scope (cellsFrom (s3.heap.objs.size + 1) scope.names (cloFrom X.env.cells scope.names [])) s3.heap.objs.size X.env))
    (compEnds (model X.prog X.w) X.A X.xe use Qf (.ref D) (compEnvC scope (cellsFrom (s3.heap.objs.size + 1) scope.names (cloFrom X.env.cells scope.names [])) s3.heap.objs.size X.env)) { s3 with heap := pushCells (s3.heap.push { cls := .type "dict", data := .dict #[] }) scope.names }
  have nfp : ∀ b ∈ fp, (upd H2 D (.lst [])) b = none := fun b hb => (f3 b hb).1.1
  have cF : (compEnvC scope (cellsFrom (s3.heap.objs.size + 1) scope.names (cloFrom X.env.cells scope.names [])) s3.heap.objs.size X.env).frame = X.env.frame := rfl
  generalize hce : compEnvC scope (cellsFrom (s3.heap.objs.size + 1) scope.names (cloFrom X.env.cells scope.names [])) s3.heap.objs.size X.env = ce at I4 pg pt pe cF ⊢
  have cL : ce.locals = s3.heap.objs.size := by subst hce; rfl
  generalize hH3 : upd H2 D (.lst []) = H3 at I3 I4 pg pt pe w0 nfp f3
  generalize hs4 : ({ s3 with heap := pushCells (s3.heap.push { cls := .type "dict", data := .dict #[] }) scope.names } : Shared) = s4 at I4 ⊢
  have st4 : tn 0 s4.heap := T.keep _ _ _ st3 fun b _ o e => by rw [← hs4]; exact pushCells_keeps _ _ _ _ (Heap.get?_push_of_some _ e)
  have stat : ∀ {σ' : St} {H' : Hp} {s' : Shared}, Inv (X.blkx s3 H3 scope ce fp EK) [] σ' H' s' → (∀ b ∈ fp, H' b = none) → ∀ b ∈ fp, FpOk (X.blkx s3 H3 scope ce fp EK) [] H' b := fun {σ' H' s'} I' hn b hb =>
    ⟨hn b hb, (I'.ok.exf b hb).1, I'.ok.exfs b hb, .inl hb, fun x c e => (I'.ok.exf b hb).2 x c e, fun p hp => absurd (show p ∈ ([] : List (Addr × Obj)) ++ [] from hp) (by simp)⟩
  have bad : ∀ {u : Value} {s' : Shared}, (X.blkx s3 H3 scope ce fp EK).xe u s' → notedBy (model X.prog X.w) X.A ce (fun x s' => CompFails (model X.prog X.w) X.A X.xe ce x s') u s' := fun {u s'} hx =>
    block_fails I3 hst hfl tk (fun _ _ _ z => hW _ _ _ _ z) cL cF f3 hx
  have loop : codeAny (model X.prog X.w) X.A (.compLoop (.ListComp elt [⟨tg, iter, ifs, 0⟩] scope pos) 0 (.ref it) (.ref D) ce) (compEnds (model X.prog X.w) X.A X.xe use Qf (.ref D) ce) s4 := by
    refine compLoop_any (fun n s' => ∃ i H', Inv (X.blkx s3 H3 scope ce fp EK) [] (wipe σ (own.map (·.2))) H' s' ∧ tn i s'.heap ∧ (∀ b ∈ fp, H' b = none) ∧ Wm i n H') ?_ m0 ⟨0, H3, I4, st4, nfp, w0⟩
    have eR : (fun (e : Value) (s' : Shared) => compEnds (model X.prog X.w) X.A X.xe use Qf (.ref D) ce (.error e) s') = fun x s' => CompFails (model X.prog X.w) X.A X.xe ce x s' := by
      funext x s'
      cases use <;> rfl
    rw [eR]
    rintro n s5 ⟨i, H5, I5, st5, n5, w5⟩
    rcases turn i n H5 w5 with ⟨stop, qq⟩ | ⟨go, Nx, hNx, step⟩
    · have td := T.done (X.blkx s3 H3 scope ce fp EK) rfl rfl rfl hc i [] s5 _ H5 (fun _ _ => False) I5 (stat I5 n5) st5 stop
      refine thnF td fun r s6 ⟨hr, I6⟩ => ?_
      subst hr
      have I7 : Inv X pins σ H5 s6 := I3.call' (ch := fp) I6.os I6.base I6.hok I6.bare fun b hb => ⟨(f3 b hb).1.2.2.2.1, (f3 b hb).1.2.1, (f3 b hb).1.2.2.2.2.1, (f3 b hb).1.2.2.2.2.2⟩
      have nC : H5 s3.heap.objs.size = none := by
        have z : H5 ce.locals = none := I6.free
        rw [cL] at z
        exact z
      obtain ⟨m, hn, _⟩ := I6.loc
      have hn : s6.heap.Ns ce.locals m := hn
      exact hRR D ce s6 m H5 I7 qq hn (by rw [cL]; exact I3.fpOk (Nat.le_refl _) nC)
    · have ti := T.item (X.blkx s3 H3 scope ce fp EK) rfl rfl rfl hc i [] s5 _ H5 (fun _ _ => False) I5 (stat I5 n5) st5 go
      refine thnF ti fun r s6 ⟨u, hr, h6⟩ => ?_
      subst hr
      refine thnF h6 fun _ s7 ⟨x, H7, I7, r7, y7, st7, n7⟩ => ?_
      have I7' := I7.pinned (stat I7 n7) (T.obj _ _ st7)
      refine wpAny_mono (pg.run _ s7 _ H7 x u _ I7' r7 (step x H7 y7)) (fun _ s8 ⟨σ8, H8, I8, hw8, q8⟩ => ?_) fun _ _ z => bad z
      refine wpAny_mono (pt.run _ s8 σ8 H8 _ I8 q8) (fun b s9 ⟨H9, I9, q9⟩ => ?_) fun _ _ z => bad z
      have fin : ∀ {s' : Shared} {H' : Hp}, Inv (X.blkx s3 H3 scope ce fp EK) ([] ++ pinsAt fp s7.heap) σ8 H' s' → Nx H' → ∃ m, m < n ∧ ∃ i H', Inv (X.blkx s3 H3 scope ce fp EK) [] (wipe σ (own.map (·.2))) H' s' ∧ tn i s'.heap ∧ (∀ b ∈ fp, H' b = none) ∧ Wm i m H' := fun {s' H'} I' nx => by
        obtain ⟨m', hm, w'⟩ := hNx H' nx
        have pin' : ∀ b ∈ fp, ∀ o, s7.heap.get? b = some o → s'.heap.get? b = some o ∧ H' b = none := fun b hb o e =>
          let z := I'.pin (b, o) (List.mem_append_right _ (List.mem_append_right _ (mem_pinsAt hb e)))
          ⟨z.1, z.2.1⟩
        have hl : (wipe σ (own.map (·.2))).length = σ8.length := by rw [← hw8, wipe_length]
        refine ⟨m', hm, i + 1, H', (I'.unpinned (pins := [])).weak hl (fun j v e => ?_), T.keep _ _ _ st7 fun b hb o e => (pin' b hb o e).1, fun b hb => ?_, w'⟩
        · rw [← hw8] at e
          exact (wipe_some e).1
        · obtain ⟨o, e, _⟩ := T.obj _ _ st7 b hb
          exact (pin' b hb o e).2
      cases b with
      | false =>
        simp only [Bool.false_eq_true, if_false] at q9 ⊢
        exact fin I9 q9
      | true =>
        simp only [if_true] at q9 ⊢
        refine wpAny_mono (pe.run _ s9 σ8 H9 _ I9 q9) (fun z s10 ⟨yv, H10, I10, r10, acc, hD10, hz10, nx⟩ => ?_) fun _ _ z => bad z
        exact app_ok (X := X.blkx s3 H3 scope ce fp EK) I10 hD10 hz10 r10 fun s11 I11 => fin I11 nx
  exact codeAny_compStart_list loop (T.self X.A 0 _ _ _ st4 loop)
/-- as a value -/
theorem pe_lcx {elt tg iter : Expr} {ifs : List Expr} {scope : Scope} {own : List (Str × Nat)} {pos : Pos} {wi : TI} {g : TG} {tt : TT} {te : TE} (hst : X.stack = X.env :: X.outer) (hfl : X.env.frame = some X.env.locals) (tk : Takes X W) (hW : ∀ cls d σ H, EK cls d H → W cls d σ H)
    (hc : X.calm = true) (hN : X.N.Nodup) (hi : PI X tg iter wi) (ok : BlkOk X.N X.env.scope scope own)
    (hg : ∀ (s : Shared) (H : Hp) (C : Addr) (cl : List (Str × Addr)) (fp : List Addr), PG (X.blkx s H scope (compEnvC scope cl C X.env) fp EK) tg g)
    (ht : ∀ (s : Shared) (H : Hp) (C : Addr) (cl : List (Str × Addr)) (fp : List Addr), PTs (X.blkx s H scope (compEnvC scope cl C X.env) fp EK) ifs tt)
    (he : ∀ (s : Shared) (H : Hp) (C : Addr) (cl : List (Str × Addr)) (fp : List Addr), PE (X.blkx s H scope (compEnvC scope cl C X.env) fp EK) elt te) (hsI : ∀ x, foldedSetIterable iter X.env x = pure x := by intro _; rfl) :
    PE X (.ListComp elt [⟨tg, iter, ifs, 0⟩] scope pos) (tLc wi g tt te (own.map (·.2))) := by
  refine ⟨fun pins s σ H Q I h => ?_⟩
  rw [eval_ListComp]
  refine lcx_core (use := none) (EK := EK) hst hfl tk hW hc hN I hi ok hg ht he hsI h fun D C s' m H' I' q hn f => ⟨m, hn, fun h'' sb => ?_⟩
  obtain ⟨f0, f1, f2, f3, f4, f5⟩ := f
  exact ⟨.ref D, H', I'.turned (t' := s'.toks) (fun b o hb e => (sb.2 b hb).trans e) f0 f1 f3 f4 f5, rfl, q⟩
/-- name = [..] on one line -/
theorem ps_setLcx {i : Nat} {y : Str} {py : Pos} {elt tg iter : Expr} {ifs : List Expr} {scope : Scope} {own : List (Str × Nat)} {pos spos : Pos} {wi : TI} {g : TG} {tt : TT} {te : TE} (hst : X.stack = X.env :: X.outer) (hfl : X.env.frame = some X.env.locals) (tk : Takes X W) (hW : ∀ cls d σ H, EK cls d H → W cls d σ H)
    (hc : X.calm = true) (hN : X.N.Nodup) (hy : X.N[i]? = some y) (hyl : X.env.scope.names.lookup y = some .local)
    (hsw : swapsWith (.ListComp elt [⟨tg, iter, ifs, 0⟩] scope pos) (some (.Name y py)) spos.line X.env = pure true) (hi : PI X tg iter wi) (ok : BlkOk X.N X.env.scope scope own)
    (hg : ∀ (s : Shared) (H : Hp) (C : Addr) (cl : List (Str × Addr)) (fp : List Addr), PG (X.blkx s H scope (compEnvC scope cl C X.env) fp EK) tg g)
    (ht : ∀ (s : Shared) (H : Hp) (C : Addr) (cl : List (Str × Addr)) (fp : List Addr), PTs (X.blkx s H scope (compEnvC scope cl C X.env) fp EK) ifs tt)
    (he : ∀ (s : Shared) (H : Hp) (C : Addr) (cl : List (Str × Addr)) (fp : List Addr), PE (X.blkx s H scope (compEnvC scope cl C X.env) fp EK) elt te) (hsI : ∀ x, foldedSetIterable iter X.env x = pure x := by intro _; rfl) :
    PS X (.Assign [.Name y py] (.ListComp elt [⟨tg, iter, ifs, 0⟩] scope pos) spos) (tAsg (tLc wi g tt te (own.map (·.2))) (gName i)) := by
  refine ⟨fun pins s σ H D I h => ?_⟩
  rw [exec_Assign_Name_used _ _ _ _ hsw]
  refine wpAny_bind (wpAny_standAt (wpAny_bind ?_))
  show wpAny _ X.A (do let _ ← comprehension (.ListComp elt [⟨tg, iter, ifs, 0⟩] scope pos) scope X.env (firstIterPos [⟨tg, iter, ifs, 0⟩] pos) (newList []) false (eval iter X.env) (some (assign (.Name y py) X.env))) _ _ s
  have h : tLc wi g tt te (own.map (·.2)) σ H (fun x H1 => gName i x σ H1 D.nx) := h
  refine wpAny_bind (thn (lcx_core (EK := EK) (Qf := fun _ s' => SP X pins D .next s') hst hfl tk hW hc hN I hi ok hg ht he hsI h fun L C s' m H' I' q hn f => ?_) fun _ s' hq => wpAny_pure (wpAny_pure hq))
  show wpAny _ _ (assign (.Name y py) X.env (.ref L)) _ _ _
  refine wpAny_assign_Name (store_ok2 (v := V.ref L) I' hN hy (.inl hyl) rfl (fun s2 I2 ⟨a, sb, ha⟩ => ?_) (.inr hyl))
  obtain ⟨f0, f1, f2, f3, f4, f5⟩ := f
  have away : C.locals ≠ a := by
    rcases ha with z | z
    · rw [z]; exact f1
    · exact fun e => f4 y a z e.symm
  refine ⟨m, hn.sameBut sb away, fun h3 sb3 => ?_⟩
  exact ⟨_, H', I2.turned (t' := s2.toks) (fun b o hb e => (sb3.2 b hb).trans e) f0 f1 f3 f4 f5, q⟩
end
end L2

/-! slots forgotten: a slot that is set and then forgotten -/
namespace L2
open PySem PySem.Spec PyProof.Rows
theorem wipe_get (σ : St) : ∀ (vs : List Nat) (j : Nat), (wipe σ vs)[j]? = if j ∈ vs then (σ[j]?).map (fun _ => none) else σ[j]?
  | [], j => by simp [wipe]
  | v :: vs, j => by
    have ih := wipe_get σ vs j
    show ((wipe σ vs).set v none)[j]? = _
    by_cases c : v = j
    · subst c
      by_cases d : v < σ.length
      · rw [List.getElem?_set_self (by rw [wipe_length]; exact d), if_pos (List.mem_cons_self), List.getElem?_eq_getElem d]
        rfl
      · rw [List.getElem?_eq_none (by rw [List.length_set, wipe_length]; omega), if_pos (List.mem_cons_self), List.getElem?_eq_none (by omega)]
        rfl
    · rw [List.getElem?_set_ne c, ih]
      have e : (j ∈ v :: vs) ↔ j ∈ vs := ⟨fun h => (List.mem_cons.mp h).elim (fun z => absurd z.symm c) id, fun h => List.mem_cons_of_mem _ h⟩
      by_cases m : j ∈ vs
      · rw [if_pos m, if_pos (e.mpr m)]
      · rw [if_neg m, if_neg fun z => m (e.mp z)]
theorem wipe_set {σ : St} {i : Nat} {x : Option V} {vs : List Nat} (h : i ∈ vs) : wipe (σ.set i x) vs = wipe σ vs := by
  refine List.ext_getElem? fun j => ?_
  rw [wipe_get, wipe_get]
  by_cases m : j ∈ vs
  · rw [if_pos m, if_pos m]
    by_cases c : i = j
    · subst c
      by_cases d : i < σ.length
      · rw [List.getElem?_set_self d, List.getElem?_eq_getElem d]
        rfl
      · rw [List.getElem?_eq_none (by rw [List.length_set]; omega), List.getElem?_eq_none (by omega)]
    · rw [List.getElem?_set_ne c]
  · rw [if_neg m, if_neg m, List.getElem?_set_ne (fun z => m (by rw [← z]; exact h))]
theorem wipe_wipe {σ : St} {vs : List Nat} : wipe (wipe σ vs) vs = wipe σ vs := by
  refine List.ext_getElem? fun j => ?_
  rw [wipe_get, wipe_get]
  by_cases m : j ∈ vs
  · rw [if_pos m, if_pos m]
    cases σ[j]? <;> rfl
  · rw [if_neg m, if_neg m]
end L2

namespace Half
open PySem PySem.Spec PyProof.Rows L2
/-! ### built_system -/
abbrev sBs : Stmt := top 42
def vInt : V → Int
  | .int v => v
  | _ => 0
def Ed.kk (e : Ed) : Kk := (e.name, vInt e.version)
def wrongE (es : List Ed) : Option Str := es.findSome? Ed.wrong
/-- a tuple of an edition's parts -/
def TupOf (K : PySem.W.Frag) (H : Hp) (t : Addr) (e : Ed) : Prop := ∃ s n f g, SqT K H t [.str e.name, e.version, .ref s, .ref n, .ref f, .ref g] ∧ EdAt K H e s n f g
/-- an edition made of it -/
def EdMade (K : PySem.W.Frag) (C : Addr) (H : Hp) (a : Addr) (e : Ed) : Prop := ∃ s n f g, EdObj K H C a e s n f g
def BuiltAt (K : PySem.W.Frag) (C CT CY CE CI CIs : Addr) (H : Hp) (eds : List Ed) (ss : List (Str × St3)) (Q : VK) (E : XK) : Prop :=
  (∀ q, wrongE eds = some q → ∀ H' dd, Same H H' → H' dd = some (.xd [("part", .str q)]) → E (.ref CE) (some dd) H') ∧
  (wrongE eds = none → ∀ i, wrongAt (eds.map Ed.kk) = some i → ∀ H' dd, Same H H' → H' dd = some (.xd [("index", .int (i : Nat))]) → E (.ref CI) (some dd) H') ∧
  (wrongE eds = none → wrongAt (eds.map Ed.kk) = none → ∀ n, n ∈ ss.map (·.1) → badP (eds.map Ed.kk) ss n = true → (∀ m ∈ ss.map (·.1), badP (eds.map Ed.kk) ss m = true → txLe n m) → (reprText n).length ≤ 1000 ∧ ∀ H' dd, Same H H' → H' dd = some (.xd [("package", .str n)]) → E (.ref CIs) (some dd) H') ∧
  (wrongE eds = none → wrongAt (eds.map Ed.kk) = none → (∀ n ∈ ss.map (·.1), badP (eds.map Ed.kk) ss n = false) → ∀ (H' : Hp) (y st : Addr) (as : List Addr) (ns : List Str), Same H H' → keysOf (as.zip (eds.map Ed.kk)) = eds.map Ed.kk → as.length = eds.length → StObj CT H' st (as.zip (eds.map Ed.kk)) → Paired (EdMade K C H') as eds → IsNm (eds.map Ed.kk) ns → SysAt K CY H' y st (allOf ns ss) → Q (.ref y) H')
def spBs (K : PySem.W.Frag) (C CT CY CE CI CIs : Addr) : Sp := fun vs H Q E => ∃ (l dts : Addr) (tps : List Addr) (eds : List Ed) (kvs : List (Key × V)) (ss : List (Str × St3)), vs = [.ref l, .ref dts] ∧ H l = some (.lst (tps.map V.ref)) ∧ Paired (TupOf K H) tps eds ∧ (∀ e ∈ eds, e.Small ∧ ∃ v, e.version = .int v) ∧ eds.length ≤ 40 ∧
  H dts = some (.dK kvs) ∧ SL K H kvs ss ∧ ss.length < 64 ∧ BuiltAt K C CT CY CE CI CIs H eds ss Q E
abbrev BsN : List Str := ["parts", "states", "editions", "name", "version", "scripts", "needs", "first", "against"]
structure MkSt (P : Program) (w : World) (K : PySem.W.Frag) (mg : Str → Option Value) (base : Heap) (C CT CI : Addr) : Prop where
  ex : ∃ f fd, Mk K CT f ∧ FnOk P w K mg base (L2.CX P w) 4 f fd ["self", "editions"] (spSi K C CT CI) ∧ Binds K fd ["self", "editions"] []
  mgS : mg "Store" = some (.ref CT)
theorem paired_zipY {α β : Type} {F : α → β → Prop} : ∀ {l : List α} {m : List β} {i : Nat}, Paired F l m → Paired F (l.take i) (m.take i)
  | _, _, 0, _ => .nil
  | _, _, _ + 1, .nil => .nil
  | _, _, i + 1, .cons x h => .cons x (paired_zipY h)
theorem findSome_first {es : List Ed} {i : Nat} {e : Ed} {q : Str} (h : ∀ j y, j < i → es[j]? = some y → y.wrong = none) (he : es[i]? = some e) (hq : e.wrong = some q) : wrongE es = some q := by
  unfold wrongE
  induction es generalizing i with
  | nil => simp at he
  | cons y ys ih =>
    cases i with
    | zero =>
      cases he
      rw [List.findSome?_cons, hq]
    | succ i =>
      rw [List.findSome?_cons, h 0 y (by omega) rfl]
      exact ih (fun j z hj hz => h (j + 1) z (by omega) hz) he
theorem findSome_noneY {es : List Ed} (h : ∀ (j : Nat) y, es[j]? = some y → y.wrong = none) : wrongE es = none := by
  unfold wrongE
  refine List.findSome?_eq_none_iff.mpr fun y hy => ?_
  obtain ⟨j, hj, rfl⟩ := List.getElem_of_mem hy
  exact h j _ (List.getElem?_eq_getElem hj)
theorem mk_sameY {C x dx : Addr} {H : Hp} (nx : H x = none) (ndx : H dx = none) : Same H (upd (upd H dx (.own x)) x (.ins C dx [])) := fun b o q => by
  rw [upd_ne (ne_of_none q nx), upd_ne (ne_of_none q ndx)]
  exact q
theorem paired_snocY {α β : Type} {F : α → β → Prop} {a : α} {b : β} : ∀ {l : List α} {m : List β}, Paired F l m → F a b → Paired F (l ++ [a]) (m ++ [b])
  | _, _, .nil, f => .cons f .nil
  | _, _, .cons x h, f => .cons x (paired_snocY h f)
theorem EdMade.same {K : PySem.W.Frag} {C : Addr} {H H' : Hp} {a : Addr} {e : Ed} (s : Same H H') (h : EdMade K C H a e) : EdMade K C H' a e := by
  obtain ⟨p1, p2, p3, p4, q⟩ := h
  exact ⟨p1, p2, p3, p4, q.same s⟩
theorem EdMade.off {K : PySem.W.Frag} {C D : Addr} {H : Hp} {a : Addr} {e : Ed} {xs ys : List V} (g : H D = some (.lst xs)) (h : EdMade K C H a e) : EdMade K C (upd H D (.lst ys)) a e := by
  obtain ⟨p1, p2, p3, p4, ⟨dx, p, q1, q2⟩, q3⟩ := h
  have kp : Kp K H (upd H D (.lst ys)) := Kp.upd g (fun _ z => by cases z) (fun _ _ z => by cases z)
  exact ⟨p1, p2, p3, p4, ⟨dx, p, by rw [upd_ne (ne_of q1 g (by intro z; cases z))]; exact q1, by rw [upd_ne (ne_of q2 g (by intro z; cases z))]; exact q2⟩, q3.kpY kp⟩
theorem TupOf.same {K : PySem.W.Frag} {H H' : Hp} {a : Addr} {e : Ed} (s : Same H H') (h : TupOf K H a e) : TupOf K H' a e := by
  obtain ⟨p1, p2, p3, p4, q, z⟩ := h
  exact ⟨p1, p2, p3, p4, s.sqT q, z.same s⟩
theorem EdMade.edK {K : PySem.W.Frag} {C : Addr} {H : Hp} {a : Addr} {e : Ed} {v : Int} (hv : e.version = .int v) (h : EdMade K C H a e) : EdK C H a e.kk := by
  obtain ⟨p1, p2, p3, p4, ⟨dx, p, q1, q2⟩, _⟩ := h
  refine ⟨dx, p, [.ref p1, .ref p2, .ref p3, .ref p4], q1, ?_⟩
  rw [q2, hv]
  unfold Ed.kk
  rw [hv]
  rfl
theorem eds_zip {K : PySem.W.Frag} {C : Addr} {H : Hp} : ∀ {as : List Addr} {eds : List Ed}, Paired (EdMade K C H) as eds → (∀ e ∈ eds, ∃ v, e.version = .int v) → ((as.zip (eds.map Ed.kk)).map fun e => V.ref e.1) = as.map V.ref ∧ keysOf (as.zip (eds.map Ed.kk)) = eds.map Ed.kk ∧ ∀ e ∈ as.zip (eds.map Ed.kk), EdK C H e.1 e.2
  | _, _, .nil, _ => ⟨rfl, rfl, fun e he => by cases he⟩
  | _, _, .cons (a := a) (b := b) x t, hv => by
    obtain ⟨h1, h2, h3⟩ := eds_zip t fun e he => hv e (.tail _ he)
    obtain ⟨v, q⟩ := hv b (.head _)
    refine ⟨congrArg (V.ref a :: ·) h1, congrArg (b.kk :: ·) h2, fun e he => ?_⟩
    rcases List.mem_cons.mp he with rfl | he
    · exact x.edK q
    · exact h3 e he
section
variable {P : Program} {w : World} {K : PySem.W.Frag} {mg : Str → Option Value} {base : Heap} {C CT CY CE CI CIs f0 : Addr} {fd0 : FuncData} {aS z1 z2 z3 : Addr}
theorem scBs : FnScope BsN ["parts", "states"] (defScope sBs) := ⟨rfl, rfl, rfl, by decide +kernel, rfl, by decide +kernel, by decide +kernel⟩
theorem ok_bs {f : Addr} {fd : FuncData} (F : Fun K "built_system" "built_system" sBs f fd) (gT : mg "tuple" = none) (Di : EdF P w K mg base C CE f0 fd0 aS z1 z2 z3) (MS : MkSt P w K mg base C CT CI) (MY : MkY P w K mg base CT CY CIs) : FnOk P w K mg base (L2.CX P w) 8 f fd ["parts", "states"] (spBs K C CT CY CE CI CIs) := by
  refine F.okX scBs (fun vs H Q E h => ?_) (fun cdv A outer s H vs Q E hr h => ?_)
  · obtain ⟨l, dts, tps, eds, kvs, ss, rfl, _⟩ := h
    rfl
  · obtain ⟨l, dts, tps, eds, kvs, ss, rfl, hl, hT, hE, few, hd, hSL, fs, kE, kI, kS, kO⟩ := h
    have nd := scBs.nd
    have r5 : Room 5 _ := hr.mono (by decide)
    have r6 : Room 6 _ := hr.mono (by decide)
    obtain ⟨gg, hb⟩ := Di.kb4
    obtain ⟨fS, fdS, MkS, FS, bS⟩ := MS.ex
    refine ⟨_, pss_cons (ps_setLcx (EK := E) (i := 2) (g := gTup K 6 (gCons (gName 3) (gCons (gName 4) (gCons (gName 5) (gCons (gName 6) (gCons (gName 7) (gCons (gName 8) gNil))))))) (tt := tYes) (own := [("name", 3), ("version", 4), ("scripts", 5), ("needs", 6), ("first", 7), ("against", 8)]) rfl rfl (takes_of rfl rfl rfl rfl) (fun _ _ _ _ h => h) rfl nd rfl rfl (sw_true rfl rfl rfl (by decide +kernel)) (pi_list (pv 0)) (blkOk_by (N := BsN) (sc := defScope sBs) (by decide +kernel))
        (fun _ _ _ _ _ => pg_tup rfl (pgs_cons (pg_name (i := 3) nd rfl (Or.inl rfl) (Or.inr rfl)) (pgs_cons (pg_name (i := 4) nd rfl (Or.inl rfl) (Or.inr rfl)) (pgs_cons (pg_name (i := 5) nd rfl (Or.inl rfl) (Or.inr rfl)) (pgs_cons (pg_name (i := 6) nd rfl (Or.inl rfl) (Or.inr rfl)) (pgs_cons (pg_name (i := 7) nd rfl (Or.inl rfl) (Or.inr rfl)) (pgs_cons (pg_name (i := 8) nd rfl (Or.inl rfl) (Or.inr rfl)) pgs_nil)))))))
        (fun _ _ _ _ _ => pts_nil)
        (fun _ _ _ _ _ => pe_makeK (n := 2) Di.make Di.ok hr rfl Di.mgC hb (passes_blkx fun _ _ _ h => h) (pa_cons (pv 3) (pa_cons (pv 4) pa_nil)) (pk_cons (pv 5) (pk_cons (pv 6) (pk_cons (pv 7) (pk_cons (pv 8) pk_nil))))))
      (pss_one (ps_ret (pe_mkY MY r5 rfl (passes_call (takes_of rfl rfl rfl rfl) (fun _ _ _ _ h => h)) (pa_cons (pe_make MkS FS r5 rfl MS.mgS bS .nil (passes_call (takes_of rfl rfl rfl rfl) (fun _ _ _ _ h => h)) (pa_cons (pe_callTy call_tuple_of (by rfl) gT (by decide +kernel) (pa_cons (pv 2) pa_nil)) pa_nil)) (pa_cons (pv 1) pa_nil))))), ?_⟩
    have ltp : tps.length = eds.length := hT.length
    refine ⟨_, rfl, l, rfl, ⟨_, SqL.of hl⟩, fun D hD => lc_it (walk_list (xs := tps.map V.ref)) (fun i H' => Same H H' ∧ ∃ as : List Addr, H' D = some (.lst (as.map V.ref)) ∧ Paired (EdMade K C H') as (eds.take i) ∧ ∀ j y, j < i → eds[j]? = some y → y.wrong = none) ⟨Same.upd_new hD, [], upd_same, .nil, fun j y hj => absurd hj (Nat.not_lt_zero _)⟩ (fun _ _ _ q => SqL.of (q.1 _ _ hl)) ?_ ?_⟩
    · rintro i x H1 H2 hi ⟨s1, as, gD, hA, hW⟩ ⟨rfl, hx⟩
      obtain ⟨tp, htp, rfl⟩ := getE hx
      obtain ⟨e, he, sc, ne, fi, ag, ht, hEd⟩ := paired_get hT htp
      obtain ⟨sm, v, hv⟩ := hE e (List.mem_of_getElem? he)
      refine ⟨tp, _, rfl, s1.sqT ht, rfl, ?_⟩
      refine ⟨_, _, rfl, _, _, rfl, _, _, rfl, _, _, rfl, _, _, rfl, _, _, rfl, ?_⟩
      refine ⟨rfl, ?_, ?_⟩
      · rw [wipe_set (by decide), wipe_set (by decide), wipe_set (by decide), wipe_set (by decide), wipe_set (by decide), wipe_set (by decide), wipe_wipe]
      refine ⟨_, rfl, _, rfl, _, rfl, _, rfl, _, rfl, _, rfl, rfl, rfl, fun x dx nx ndx nxx => ?_⟩
      have sx : Same H2 (upd (upd H2 dx (.own x)) x (.ins C dx [])) := fun b o q => by
        rw [upd_ne (ne_of_none q nx), upd_ne (ne_of_none q ndx)]
        exact q
      refine ⟨x, dx, e, sc, ne, fi, ag, rfl, upd_same, (hEd.same s1).same sx, sm, fun hw H3 sb3 ho => ⟨rfl, ?_⟩, fun q hq H3 dd s3 hdd => ?_⟩
      · have S3 : Same H2 H3 := fun b o q => sb3 _ _ (ne_of_none q nx) (sx _ _ q)
        have lA := hA.length
        rw [List.length_take] at lA
        have nD : x ≠ D := fun z => by rw [← z, nx] at gD; cases gD
        have g3 := S3 _ _ gD
        refine ⟨_, g3, by rw [List.length_map, sizeLine_eq]; omega, fun b o q => ?_, as ++ [x], ?_, ?_, ?_⟩
        · have nb : b ≠ D := ne_of_none q hD
          rw [upd_ne nb]
          exact S3 _ _ (s1 _ _ q)
        · rw [upd_same, List.map_append]
          rfl
        · rw [List.take_add_one, he]
          exact paired_snocY (paired_memY hA fun a y _ _ q => (q.same S3).off g3) (EdMade.off g3 ⟨_, _, _, _, ho⟩)
        · intro j y hj hy
          by_cases c : j < i
          · exact hW j y c hy
          · have : j = i := by omega
            rw [this, he] at hy
            cases hy
            exact hw
      · exact kE q (findSome_first hW he hq) H3 dd (s1.trans (sx.trans s3)) hdd
    · rintro H2 ⟨s1, as, gD, hA, hW⟩
      rw [List.length_map, ltp] at hA hW
      rw [List.take_length] at hA
      have nw : wrongE eds = none := findSome_noneY fun j y hy => hW j y (List.getElem?_eq_some_iff.mp hy).1 hy
      have lA := hA.length
      refine ⟨_, rfl, D, _, rfl, .inl ⟨SqL.of gD, fun tp ntp => ?_⟩⟩
      have s2 := Same.upd_new (o := .tup (as.map V.ref)) ntp
      have gt : SqT K (upd H2 tp (.tup (as.map V.ref))) tp (as.map V.ref) := SqT.of upd_same
      generalize upd H2 tp (.tup (as.map V.ref)) = H3 at s2 gt ⊢
      have hA3 : Paired (EdMade K C H3) as eds := Paired.mapP hA fun _ _ q => q.same s2
      have hv : ∀ e ∈ eds, ∃ v, e.version = .int v := fun e he => (hE e he).2
      obtain ⟨q1, q2, q3⟩ := eds_zip hA3 hv
      have S3 : Same H H3 := s1.trans s2
      intro x dx nx ndx nxx
      have sx := mk_sameY (C := CT) nx ndx
      have lz : (as.zip (eds.map Ed.kk)).length ≤ 40 := by rw [List.length_zip, List.length_map]; omega
      refine ⟨x, tp, dx, as.zip (eds.map Ed.kk), rfl, upd_same, EdsAt.same sx ⟨by rw [q1]; exact gt, q3⟩, lz, fun wn H4 sb4 hO => ⟨rfl, ?_⟩, fun i hi H4 dd s4 hdd => ?_⟩
      · rw [q2] at wn
        have S4 : Same H3 H4 := fun b o q => sb4 _ _ (ne_of_none q nx) (sx _ _ q)
        refine ⟨_, rfl, fun y dy ny ndy nyy => mkY_read ny ndy hO lz (S4 _ _ (S3 _ _ hd)) ((hSL.same S3).same S4) fs (fun hb ns H5 hn s5 hY => ?_) (fun n h1 h2 h3 => ?_)⟩
        · rw [q2] at hb hn
          exact kO nw wn hb H5 y x as ns (S3.trans (S4.trans s5)) q2 lA (hO.same s5) (Paired.mapP hA3 fun _ _ q => (q.same S4).same s5) hn hY
        · rw [q2] at h2 h3
          obtain ⟨a1, a2⟩ := kS nw wn n h1 h2 h3
          exact ⟨a1, fun H5 dd s5 hdd => a2 H5 dd (S3.trans (S4.trans s5)) hdd⟩
      · rw [q2] at hi
        exact kI nw i hi H4 dd (S3.trans (sx.trans s4)) hdd
end
end Half

namespace Half
open PySem PySem.Spec PyProof.Rows L2
/-! ### Draft(..); parse_system -/
abbrev sPs : Stmt := top 55
def dr0 : Dr := ⟨"", ("", 0), "", [], []⟩
def addAll : List (List Str) → Nat → Dr → Except (Nat × Nat) Dr
  | [], _, d => .ok d
  | ws :: rs, p, d => match addM d ws with
    | .error k => .error (p, k)
    | .ok d' => addAll rs (p + 1) d'
def wordsY (z : Str) : List (List Str) := (Txt.split z "\n").map fun y => Txt.split y " "
/-- a text that is no longer than can be -/
structure TextOk (z : Str) : Prop where
  len : z.length ≤ 100000
  rows : (Txt.split z "\n").length ≤ 60
  row : ∀ y ∈ Txt.split z "\n", y.length ≤ 100000 ∧ (Txt.split y " ").length ≤ 900 ∧ Txt.split y " " ≠ [] ∧ ∀ v ∈ Txt.split y " ", v.length ≤ 1000
def DrSmall (d : Dr) : Prop := (∀ e ∈ d.eds, e.Small ∧ ∃ v, e.version = .int v) ∧ d.eds.length ≤ 40 ∧ d.ss.length < 64
def spDri (K : PySem.W.Frag) (CD : Addr) : Sp := fun vs H Q _ => ∃ (x dx : Addr), vs = [.ref x] ∧ H x = some (.ins CD dx []) ∧ ∀ H', SameBut x H H' → (∀ H0, Same H0 H → H0 x = none → DrAt K CD H0 H' x dr0) → Q .non H'
def ParseAt (K : PySem.W.Frag) (C CT CY CE CI CIs CV : Addr) (H : Hp) (Q : VK) (E : XK) : Except (Nat × Nat) Dr → Prop
  | .error (p, k) => ∀ H' dd, Same H H' → H' dd = some (.xd [("word", .int (k : Nat)), ("row", .int (p : Nat))]) → E (.ref CV) (some dd) H'
  | .ok d => DrSmall d ∧ BuiltAt K C CT CY CE CI CIs H d.eds d.ss Q E
def spPse (K : PySem.W.Frag) (C CT CY CE CI CIs CV : Addr) : Sp := fun vs H Q E => ∃ z : Str, vs = [.str z] ∧ TextOk z ∧ ParseAt K C CT CY CE CI CIs CV H Q E (addAll (wordsY z) 0 dr0)
/-! what a row adds -/
theorem setLast_len (w : Str) (v : Prt) (es : List Ed) : (setLast w v es).length = es.length := by
  unfold setLast
  cases c : es.getLast? with
  | none => rfl
  | some e =>
    have : es ≠ [] := fun z => by rw [z] at c; cases c
    have := List.length_pos_iff.mpr this
    show (es.dropLast ++ [setP e w v]).length = _
    rw [List.length_append, List.length_dropLast]
    show es.length - 1 + 1 = _
    omega
theorem mapT_ok {α β : Type} {f : α → β} {y : TR α} {v : β} {t : Nat} (h : mapT f y = .ok (v, t)) : ∃ a, v = f a := by
  cases y with
  | error k => cases h
  | ok p =>
    obtain ⟨a, t'⟩ := p
    injection h with h
    injection h with h1 h2
    exact ⟨a, h1.symm⟩
theorem putS_len (ss : List (Str × St3)) (n : Str) (s : St3) : (putS ss n s).length ≤ ss.length + 1 := by
  unfold putS
  split
  · rw [List.length_map]; omega
  · rw [List.length_append]; show ss.length + 1 ≤ _; omega
theorem add_ok {d d' : Dr} {ws : List Str} (ok : DrOk d) (h : addM d ws = .ok d') : DrOk d' ∧ d'.eds.length ≤ d.eds.length + 1 ∧ d'.ss.length ≤ d.ss.length + 1 := by
  cases ws with
  | nil => cases h
  | cons w wt =>
    obtain ⟨fs, hfs⟩ := ok.fol
    have e0 : addM d (w :: wt) = if inV (.str w) (fs.map V.str) = true then finM (w :: wt) (stepM d (w :: wt) w) else .error 0 := by
      unfold addM
      rw [hfs]
    rw [e0] at h
    split at h
    · rename_i c
      obtain ⟨hw, fs', hfs'⟩ := fol_words hfs c
      obtain ⟨t, ht⟩ : ∃ t, stepM d (w :: wt) w = .ok (d', t) := by
        cases q : stepM d (w :: wt) w with
        | error k => rw [q] at h; cases h
        | ok p =>
          obtain ⟨d2, t⟩ := p
          rw [q] at h
          unfold finM at h
          dsimp only at h
          split at h
          · injection h with h
            exact ⟨t, by rw [h]⟩
          · cases h
      unfold stepM at ht
      by_cases c1 : w = "edition"
      · rw [if_pos c1] at ht
        obtain ⟨a, e⟩ := mapT_ok ht
        rw [e]
        refine ⟨⟨⟨fs', hfs'⟩, .inr (by simp)⟩, ?_, Nat.le_succ _⟩
        show (d.eds ++ [edN a]).length ≤ _
        rw [List.length_append]
        exact Nat.le_refl _
      · rw [if_neg c1] at ht
        have ne : d.lw ≠ "" → d.eds ≠ [] := fun n => ok.eds.elim (fun z => absurd z n) id
        by_cases c3 : w = "state"
        · rw [if_pos c3] at ht
          split at ht
          · cases ht
          · obtain ⟨a, e⟩ := mapT_ok ht
            rw [e]
            refine ⟨⟨⟨fs', hfs'⟩, ?_⟩, Nat.le_succ _, putS_len _ _ _⟩
            rcases ok.eds with z | z
            · exfalso
              rw [z] at hfs
              have e1 : folM "" = some [("edition" : Str)] := by decide +kernel
              rw [e1] at hfs
              injection hfs with hfs
              rw [← hfs, c3] at c
              exact absurd c (by decide +kernel)
            · exact .inr z
        · rw [if_neg c3] at ht
          obtain ⟨a, e⟩ := mapT_ok ht
          rw [e]
          have nel : d.eds ≠ [] := ne (by
            rcases hw with q | q | q | q | q | q
            · exact absurd q c1
            · exact absurd q c3
            all_goals exact q.2)
          refine ⟨⟨⟨fs', hfs'⟩, .inr fun z => ?_⟩, ?_, Nat.le_succ _⟩
          · have l1 := setLast_len w a d.eds
            have z' : setLast w a d.eds = [] := z
            rw [z'] at l1
            exact nel (List.eq_nil_of_length_eq_zero l1.symm)
          · show (setLast w a d.eds).length ≤ _
            rw [setLast_len]
            omega
    · cases h
theorem dr0_ok : DrOk dr0 := ⟨⟨["edition"], by decide +kernel⟩, .inl rfl⟩
theorem BuiltAt.of {K : PySem.W.Frag} {C CT CY CE CI CIs : Addr} {H H1 : Hp} {eds : List Ed} {ss : List (Str × St3)} {Q : VK} {E : XK} (s : Same H H1) (h : BuiltAt K C CT CY CE CI CIs H eds ss Q E) : BuiltAt K C CT CY CE CI CIs H1 eds ss Q E := by
  obtain ⟨h1, h2, h3, h4⟩ := h
  refine ⟨fun q a H' dd s' => h1 q a H' dd (s.trans s'), fun a i b H' dd s' => h2 a i b H' dd (s.trans s'), fun a b n c d e => ?_, fun a b c H' y st as ns s' => h4 a b c H' y st as ns (s.trans s')⟩
  obtain ⟨x, y⟩ := h3 a b n c d e
  exact ⟨x, fun H' dd s' => y H' dd (s.trans s')⟩
end Half

namespace Half
open PySem PySem.Spec PyProof.Rows L2
/-! ### Draft(..), parse_system: by their bodies -/
section
variable {P : Program} {w : World} {K : PySem.W.Frag} {mg : Str → Option Value} {base : Heap} {C CT CY CE CI CIs CR CV CD fE : Addr} {fdE : FuncData}
theorem scDri : FnScope ["self"] ["self"] (defScope (sDr 0)) := ⟨rfl, rfl, rfl, by decide +kernel, rfl, by decide +kernel, by decide +kernel⟩
theorem ok_dri {f : Addr} {fd : FuncData} (F : Fun K "__init__" "Draft.__init__" (sDr 0) f fd) (D : DraF P w K mg base CR CV CD fE fdE) : FnOk P w K mg base CX0 1 f fd ["self"] (spDri K CD) := by
  refine F.ok scDri (fun vs H Q E h => ?_) (fun cdv A outer s H vs Q E hr h => ?_)
  · obtain ⟨x, dx, rfl, _⟩ := h
    rfl
  · obtain ⟨x, dx, rfl, hx, k⟩ := h
    refine ⟨_, pss_cons (ps_fld (pv 0) pe_str rfl) (pss_cons (ps_fld (pv 0) (pe_tup (pa_cons pe_str (pa_cons pe_int pa_nil))) rfl) (pss_cons (ps_fld (pv 0) pe_str rfl) (pss_cons (ps_fld (pv 0) (pe_lst pa_nil) rfl) (pss_one (ps_fld (pv 0) pe_dnewK rfl))))), ?_⟩
    refine ⟨_, rfl, x, CD, dx, _, rfl, hx, D.cl, D.nW, (by show 0 < 1000; decide), ?_⟩
    have g1 : (upd H x (.ins CD dx (putF "last_word" (.str "") []))) x = some (.ins CD dx [("last_word", .str "")]) := upd_same
    have b1 : SameBut x H (upd H x (.ins CD dx (putF "last_word" (.str "") []))) := sb_upd
    generalize upd H x (.ins CD dx (putF "last_word" (.str "") [])) = H1 at g1 b1 ⊢
    refine ⟨two_le, fun tk ntk => ?_⟩
    have s2 := Same.upd_new (o := .tup [.str "", .int 0]) ntk
    have gk : (upd H1 tk (.tup [.str "", .int 0])) tk = some (.tup [.str "", .int 0]) := upd_same
    generalize upd H1 tk (.tup [.str "", .int 0]) = H2 at s2 gk ⊢
    have tkx : tk ≠ x := fun e => by rw [e, g1] at ntk; cases ntk
    refine ⟨_, rfl, x, CD, dx, _, rfl, s2 _ _ g1, D.cl, D.nK, (by show 1 < 1000; decide), ?_⟩
    have g3 : (upd H2 x (.ins CD dx (putF "last_key" (.ref tk) [("last_word", .str "")]))) x = some (.ins CD dx [("last_word", .str ""), ("last_key", .ref tk)]) := upd_same
    have b3 : SameBut x H (upd H2 x (.ins CD dx (putF "last_key" (.ref tk) [("last_word", .str "")]))) := b1.trans ((sb_of s2).trans sb_upd)
    have gk3 : (upd H2 x (.ins CD dx (putF "last_key" (.ref tk) [("last_word", .str "")]))) tk = some (.tup [.str "", .int 0]) := by rw [upd_ne tkx]; exact gk
    generalize upd H2 x (.ins CD dx (putF "last_key" (.ref tk) [("last_word", .str "")])) = H3 at g3 b3 gk3 ⊢
    refine ⟨_, rfl, x, CD, dx, _, rfl, g3, D.cl, D.nN, (by show 2 < 1000; decide), ?_⟩
    have g4 : (upd H3 x (.ins CD dx (putF "last_name" (.str "") [("last_word", .str ""), ("last_key", .ref tk)]))) x = some (.ins CD dx [("last_word", .str ""), ("last_key", .ref tk), ("last_name", .str "")]) := upd_same
    have b4 : SameBut x H (upd H3 x (.ins CD dx (putF "last_name" (.str "") [("last_word", .str ""), ("last_key", .ref tk)]))) := b3.trans sb_upd
    have gk4 : (upd H3 x (.ins CD dx (putF "last_name" (.str "") [("last_word", .str ""), ("last_key", .ref tk)]))) tk = some (.tup [.str "", .int 0]) := by rw [upd_ne tkx]; exact gk3
    generalize upd H3 x (.ins CD dx (putF "last_name" (.str "") [("last_word", .str ""), ("last_key", .ref tk)])) = H4 at g4 b4 gk4 ⊢
    refine ⟨Nat.zero_le _, fun pl npl => ?_⟩
    have s5 := Same.upd_new (o := .lst []) npl
    have gl : (upd H4 pl (.lst [])) pl = some (.lst (([] : List Addr).map V.ref)) := upd_same
    have plx : pl ≠ x := fun e => by rw [e, g4] at npl; cases npl
    generalize upd H4 pl (.lst []) = H5 at s5 gl ⊢
    refine ⟨_, rfl, x, CD, dx, _, rfl, s5 _ _ g4, D.cl, D.nP, (by show 3 < 1000; decide), ?_⟩
    have g6 : (upd H5 x (.ins CD dx (putF "part_dicts" (.ref pl) [("last_word", .str ""), ("last_key", .ref tk), ("last_name", .str "")]))) x = some (.ins CD dx [("last_word", .str ""), ("last_key", .ref tk), ("last_name", .str ""), ("part_dicts", .ref pl)]) := upd_same
    have b6 : SameBut x H (upd H5 x (.ins CD dx (putF "part_dicts" (.ref pl) [("last_word", .str ""), ("last_key", .ref tk), ("last_name", .str "")]))) := b4.trans ((sb_of s5).trans sb_upd)
    have gk6 : (upd H5 x (.ins CD dx (putF "part_dicts" (.ref pl) [("last_word", .str ""), ("last_key", .ref tk), ("last_name", .str "")]))) tk = some (.tup [.str "", .int 0]) := by rw [upd_ne tkx]; exact s5 _ _ gk4
    have gl6 : (upd H5 x (.ins CD dx (putF "part_dicts" (.ref pl) [("last_word", .str ""), ("last_key", .ref tk), ("last_name", .str "")]))) pl = some (.lst (([] : List Addr).map V.ref)) := by rw [upd_ne plx]; exact gl
    generalize upd H5 x (.ins CD dx (putF "part_dicts" (.ref pl) [("last_word", .str ""), ("last_key", .ref tk), ("last_name", .str "")])) = H6 at g6 b6 gk6 gl6 ⊢
    refine fun ts nts => ?_
    have s7 := Same.upd_new (o := .dK []) nts
    have gd : (upd H6 ts (.dK [])) ts = some (.dK []) := upd_same
    have tsx : ts ≠ x := fun e => by rw [e, g6] at nts; cases nts
    generalize upd H6 ts (.dK []) = H7 at s7 gd ⊢
    refine ⟨_, rfl, x, CD, dx, _, rfl, s7 _ _ g6, D.cl, D.nS, (by show 4 < 1000; decide), ?_⟩
    have b8 : SameBut x H (upd H7 x (.ins CD dx (putF "told_states" (.ref ts) [("last_word", .str ""), ("last_key", .ref tk), ("last_name", .str ""), ("part_dicts", .ref pl)]))) := b6.trans ((sb_of s7).trans sb_upd)
    refine k _ b8 fun H0 s0 n0 => ⟨dx, tk, pl, ts, [], [], upd_same, SqT.of (by rw [upd_ne tkx]; exact s7 _ _ gk6), by rw [upd_ne plx]; exact s7 _ _ gl6, .nil, .nil, by rw [upd_ne tsx]; exact gd, .nil, by simp, ?_, n0, ?_, ?_, fun a ha => by cases ha⟩
    · exact fun b o q => b8 b o (ne_of_none q n0) (s0 b o q)
    · cases c : H0 pl with
      | none => rfl
      | some o => rw [b4 pl o plx (s0 _ _ c)] at npl; cases npl
    · cases c : H0 ts with
      | none => rfl
      | some o => rw [b6 ts o tsx (s0 _ _ c)] at nts; cases nts
abbrev PsN : List Str := ["text", "draft", "place", "line", "parts"]
structure ParF (P : Program) (w : World) (K : PySem.W.Frag) (mg : Str → Option Value) (base : Heap) (C CT CY CE CI CIs CR CV CD fE : Addr) (fdE : FuncData) : Prop where
  D : DraF P w K mg base CR CV CD fE fdE
  enm : mg "enumerate" = none
  mkR : ∃ f fd, Fun K "__init__" "Row.__init__" (sRw 0) f fd ∧ Mk K CR f ∧ Binds K fd ["self", "place", "text"] [] ∧ mg "Row" = some (.ref CR)
  mkD : ∃ f fd, Fun K "__init__" "Draft.__init__" (sDr 0) f fd ∧ Mk K CD f ∧ Binds K fd ["self"] [] ∧ mg "Draft" = some (.ref CD)
  mA : MtR K CD "add_row" "Draft.add_row" (sDr 1) ["self", "row"]
  dB : DefX P w K mg base 8 "built_system" ["parts", "states"] (spBs K C CT CY CE CI CIs)
theorem scPs : FnScope PsN ["text"] (defScope sPs) := ⟨rfl, rfl, rfl, by decide +kernel, rfl, by decide +kernel, by decide +kernel⟩
theorem all_snoc : ∀ (rs : List (List Str)) (p : Nat) (d d' : Dr) (i : Nat) (ws : List Str), rs[i]? = some ws → addAll (rs.take i) p d = .ok d' → (∀ k, addM d' ws = .error k → addAll rs p d = .error (p + i, k)) ∧ ∀ d2, addM d' ws = .ok d2 → addAll (rs.take (i + 1)) p d = .ok d2
  | [], _, _, _, _, _, h, _ => by simp at h
  | r :: rs, p, d, d', 0, ws, h, e => by
    cases h
    cases e
    refine ⟨fun k q => ?_, fun d2 q => ?_⟩
    · unfold addAll
      rw [q]
      rfl
    · show addAll [r] p d = _
      unfold addAll
      rw [q]
      rfl
  | r :: rs, p, d, d', i + 1, ws, h, e => by
    rw [List.take_succ_cons] at e ⊢
    unfold addAll at e ⊢
    cases c : addM d r with
    | error k => rw [c] at e; cases e
    | ok d1 =>
      rw [c] at e
      dsimp only at e ⊢
      obtain ⟨a, b⟩ := all_snoc rs (p + 1) d1 d' i ws h e
      exact ⟨fun k q => by rw [a k q]; congr 2; omega, b⟩
theorem ok_pse {f : Addr} {fd : FuncData} (F : Fun K "parse_system" "parse_system" sPs f fd) (D : ParF P w K mg base C CT CY CE CI CIs CR CV CD fE fdE) : FnOk P w K mg base (L2.CX P w) 9 f fd ["text"] (spPse K C CT CY CE CI CIs CV) := by
  refine F.okX scPs (fun vs H Q E h => ?_) (fun cdv A outer s H vs Q E hr h => ?_)
  · obtain ⟨z, rfl, _⟩ := h
    rfl
  · obtain ⟨z, rfl, hz, k⟩ := h
    have nd := scPs.nd
    have hu := hu_of hr
    have r2 : Room 2 _ := hr.mono (by decide)
    have r7 : Room 7 _ := hr.mono (by decide)
    obtain ⟨fR, fdR, FnR, MR, bR, gR⟩ := D.mkR
    obtain ⟨fD, fdD, FnD, MD, bD, gD⟩ := D.mkD
    obtain ⟨fA, fdA, MA, FnA, bA⟩ := D.mA.ex
    refine ⟨_, pss_cons (ps_set (i := 1) nd rfl (Or.inl rfl) (pe_make0 MD (ok_dri FnD D.D) r2 rfl gD bD .nil pass0))
      (pss_cons (ps_for (passes_of rfl) rfl (pi_enum (by rfl) D.enm (pa_cons (pe_split (pv 0) pe_str) pa_nil)) (pg_tup rfl (pgs_cons (pg_name (i := 2) nd rfl (Or.inl rfl)) (pgs_cons (pg_name (i := 3) nd rfl (Or.inl rfl)) pgs_nil)))
        (pss_one (ps_expr (pe_meth (pv 1) D.D.cl MA (ok_add FnA D.D) r7 bA .nil (passes_call (takes_of rfl rfl rfl rfl) (fun _ _ _ _ h => h)) (pa_cons (pe_make MR (ok_rwi FnR D.D.R.T) r2 rfl gR bR .nil pass0 (pa_cons (pv 2) (pa_cons (pv 3) pa_nil))) pa_nil)))))
      (pss_one (ps_ret (pe_defX D.dB hr rfl (passes_call (takes_of rfl rfl rfl rfl) (fun _ _ _ _ h => h)) (pa_cons
        (pe_lc (own := [("parts", 4)]) (g := gName 4) (tt := tYes) (te := tCB rTupVK (tCons (tBM0 K "dict" rValsK (tVar 4)) tNil)) rfl nd (pi_list (pe_fld (pv 1) rfl)) (blkOk_by (N := PsN) (sc := defScope sPs) (by decide +kernel))
          (fun _ _ _ _ _ => pg_name (i := 4) nd rfl (Or.inl rfl)) (fun _ _ _ _ _ => pts_nil)
          (fun _ _ _ _ _ => pe_callTy (call_tuple_valsK (by rfl)) (by rfl) D.D.R.tup (by decide +kernel) (pa_cons (pe_bm0 PySem.F.plainAttrs_dict PySem.F.slot_dict_values PySem.F.type_dict_values mt_valsK (pv 4)) pa_nil)))
        (pa_cons (pe_fld (pv 1) rfl) pa_nil)))))), ?_⟩
    refine fun x dx nx ndx nxx => ?_
    have sx := mk_sameY (C := CD) nx ndx
    refine ⟨x, dx, rfl, upd_same, fun H1 b1 hDr => ⟨rfl, ?_⟩⟩
    have hD0 : DrAt K CD H H1 x dr0 := hDr H sx nx
    have S1 : Same H H1 := fun b o q => b1 b o (ne_of_none q nx) (sx b o q)
    obtain ⟨hz1, hz2, hz3⟩ := hz
    refine ⟨_, rfl, ⟨z, rfl⟩, z, "\n", rfl, rfl, by decide, by rw [sizeLine_eq]; omega, fun p np => ?_⟩
    generalize eL : Txt.split z "\n" = L at hz2 hz3 ⊢
    have eW : wordsY z = L.map fun y => Txt.split y " " := by unfold wordsY; rw [eL]
    rw [eW] at k
    have sp := Same.upd_new (o := .lst (L.map V.str)) np
    have gp : (upd H1 p (.lst (L.map V.str))) p = some (.lst (L.map V.str)) := upd_same
    generalize upd H1 p (.lst (L.map V.str)) = H2 at sp gp ⊢
    have S2 := S1.trans sp
    have lW : (L.map fun y => Txt.split y " ").length = L.length := List.length_map ..
    generalize eR : (L.map fun y => Txt.split y " ") = R at k lW
    have Rat : ∀ {i : Nat} {y : Str}, L[i]? = some y → R[i]? = some (Txt.split y " ") := fun h => by
      rw [← eR, List.getElem?_map, h]
      rfl
    have npH : H p = none := by
      cases c : H p with
      | none => rfl
      | some o => rw [S1 _ _ c] at np; cases np
    obtain ⟨B0, eB0⟩ : ∃ B0 : Hp, B0 = upd H p (.lst (L.map V.str)) := ⟨_, rfl⟩
    have sHB : Same H B0 := by rw [eB0]; exact Same.upd_new npH
    have sB2 : Same B0 H2 := fun b o q => by
      rw [eB0] at q
      by_cases c : b = p
      · rw [c, upd_same] at q
        rw [c, gp]
        exact q
      · rw [upd_ne c] at q
        exact S2 _ _ q
    have bp : B0 p = some (.lst (L.map V.str)) := by rw [eB0]; exact upd_same
    have bn : ∀ {b : Addr} {o : HO}, H1 b = some o → H b = none → B0 b = none := fun {b o} q n => by
      rw [eB0, upd_ne (fun e : b = p => by rw [e, np] at q; cases q)]
      exact n
    have hDB : DrAt K CD B0 H2 x dr0 := by
      obtain ⟨dx, tk, pl, ts, ds, kvs, hI⟩ := hD0
      have eq : ∀ {b : Addr} {o : HO}, H1 b = some o → H2 b = H1 b := fun q => (sp _ _ q).trans q.symm
      have hI2 := hI.mv sp.kp (eq hI.at_) (eq hI.lst) (eq hI.tst) (fun b hb => by obtain ⟨kv, q⟩ := hI.dict hb; exact eq q) S2
      exact ⟨dx, tk, pl, ts, ds, kvs, hI2.at_, hI2.key, hI2.lst, hI2.eds, hI2.nd, hI2.tst, hI2.sl, hI2.nts, sB2, bn hI.at_ hI.nx, bn hI.lst hI.npl, bn hI.tst hI.nt, fun a ha => by obtain ⟨kv, q⟩ := hI.dict ha; exact bn q (hI.nds a ha)⟩
    refine ⟨p, _, rfl, SqL.of gp, ?_⟩
    refine for_it (walk_enum (xs := L.map V.str)) (fun i σ H' => ∃ (d : Dr) (x2 x3 : Option V), σ = [some (.str z), some (.ref x), x2, x3, none] ∧ DrAt K CD B0 H' x d ∧ H' p = some (.lst (L.map V.str)) ∧ addAll (R.take i) 0 dr0 = .ok d ∧ DrOk d ∧ d.eds.length ≤ i ∧ d.ss.length ≤ i)
      ⟨dr0, none, none, rfl, hDB, gp, rfl, dr0_ok, Nat.le_refl _, Nat.le_refl _⟩ (fun _ _ H' _ h => by obtain ⟨_, _, _, _, _, g, _⟩ := h; exact SqL.of g) ?_ ?_
    · rintro i v σ H3 H4 hi ⟨d, x2, x3, rfl, hD3, g3, em, dOk, l1, l2⟩ ⟨T1, z1, z2, rfl, nT, rfl, e1, e2⟩
      cases e1
      obtain ⟨y, hy, rfl⟩ := getE e2
      have hi' : i < L.length := (List.getElem?_eq_some_iff.mp hy).1
      obtain ⟨y1, y2, y3, y4⟩ := hz3 y (List.mem_of_getElem? hy)
      have q1 := Same.upd_new (o := .tup [.int (i : Nat), .str y]) nT
      refine ⟨T1, _, rfl, SqT.of upd_same, rfl, _, _, rfl, _, _, rfl, rfl, ?_⟩
      generalize upd H3 T1 (.tup [.int (i : Nat), .str y]) = H5 at q1 ⊢
      have hD5 : DrAt K CD B0 H5 x d := by
        obtain ⟨dx, tk, pl, ts, ds, kvs, hI⟩ := hD3
        have eq : ∀ {b : Addr} {o : HO}, H3 b = some o → H5 b = H3 b := fun q => (q1 _ _ q).trans q.symm
        refine ⟨dx, tk, pl, ts, ds, kvs, hI.mv q1.kp (eq hI.at_) (eq hI.lst) (eq hI.tst) (fun b hb => ?_) (hI.same.trans q1)⟩
        obtain ⟨kv, q⟩ := hI.dict hb
        exact eq q
      have g5 := q1 _ _ g3
      obtain ⟨dx5, tk5, pl5, ts5, ds5, kvs5, hI5⟩ := id hD5
      refine ⟨_, rfl, x, dx5, _, rfl, hI5.at_, rfl, _, rfl, _, rfl, fun r dr nr ndr nrr => ?_⟩
      have sr := mk_sameY (C := CR) nr ndr
      refine ⟨r, dr, i, y, rfl, upd_same, by omega, y1, y2, y4, fun H6 lw b6 hR6 => ⟨rfl, ?_⟩⟩
      have S6 : Same H5 H6 := fun b o q => b6 b o (ne_of_none q nr) (sr b o q)
      have hD6 : DrAt K CD B0 H6 x d := by
        have eq : ∀ {b : Addr} {o : HO}, H5 b = some o → H6 b = H5 b := fun q => (S6 _ _ q).trans q.symm
        refine ⟨dx5, tk5, pl5, ts5, ds5, kvs5, hI5.mv S6.kp (eq hI5.at_) (eq hI5.lst) (eq hI5.tst) (fun b hb => ?_) (hI5.same.trans S6)⟩
        obtain ⟨kv, q⟩ := hI5.dict hb
        exact eq q
      have nrH : B0 r = none := by
        cases c : B0 r with
        | none => rfl
        | some o => rw [hI5.same _ _ c] at nr; cases nr
      obtain ⟨sE, sO⟩ := all_snoc R 0 dr0 d i _ (Rat hy) em
      refine ⟨x, r, dr, lw, i, Txt.split y " ", B0, d, rfl, hD6, dOk, hR6, nrH, y3, by omega, by omega, ?_⟩
      cases c : addM d (Txt.split y " ") with
      | error j =>
        rw [sE j c] at k
        intro H7 dd s7 hdd
        rw [Nat.zero_add] at k
        exact k H7 dd (sHB.trans s7) hdd
      | ok d2 =>
        intro H7 hD7
        obtain ⟨o1, o2, o3⟩ := add_ok dOk c
        have s7 : Same B0 H7 := by
          obtain ⟨_, _, _, _, _, _, q⟩ := hD7
          exact q.same
        exact ⟨d2, _, _, rfl, hD7, s7 _ _ bp, sO d2 c, o1, by omega, by omega⟩
    · rintro σ H3 ⟨d, x2, x3, rfl, hD3, g3, em, dOk, l1, l2⟩
      rw [List.length_map, ← lW, List.take_length] at em
      rw [em] at k
      obtain ⟨⟨sm1, sm2, sm3⟩, kB⟩ := k
      obtain ⟨dx, tk, pl, ts, ds, kvs, hI⟩ := hD3
      have S3 : Same H H3 := sHB.trans hI.same
      refine ⟨_, rfl, x, CD, dx, _, _, rfl, hI.at_, D.D.cl, D.D.nP, rfl, pl, rfl, ⟨_, SqL.of hI.lst⟩, fun l nl => ?_⟩
      have lds : ds.length = d.eds.length := hI.eds.length
      refine lc_it (walk_list (xs := ds.map V.ref)) (fun i H' => Same H3 H' ∧ ∃ tps : List Addr, H' l = some (.lst (tps.map V.ref)) ∧ Paired (TupOf K H') tps (d.eds.take i)) ⟨Same.upd_new nl, [], upd_same, .nil⟩ (fun _ _ _ q => SqL.of (q.1 _ _ hI.lst)) ?_ ?_
      · rintro i v H4 H5 hi ⟨s4, tps, gl, hT⟩ ⟨rfl, hv⟩
        obtain ⟨da, hda, rfl⟩ := getE hv
        obtain ⟨e, he, sa, na, fa, ga, q1, q2⟩ := paired_get hI.eds hda
        have q1' := s4 _ _ q1
        refine ⟨rfl, _, rfl, .inr (.inr (.inl ⟨rfl, .inl ⟨_, q1'⟩⟩)), da, _, rfl, rfl, q1', fun vp nvp => ?_⟩
        have s5 := Same.upd_new (o := valsO vp da) nvp
        refine ⟨vp, da, _, rfl, upd_same, s5 _ _ q1', fun tp ntp => ?_⟩
        have s6 := Same.upd_new (o := .tup ((edKv e sa na fa ga).map (·.2))) ntp
        have gt : SqT K (upd (upd H5 vp (valsO vp da)) tp (.tup ((edKv e sa na fa ga).map (·.2)))) tp [.str e.name, e.version, .ref sa, .ref na, .ref fa, .ref ga] := SqT.of upd_same
        generalize upd (upd H5 vp (valsO vp da)) tp (.tup ((edKv e sa na fa ga).map (·.2))) = H6 at s6 gt ⊢
        have S6 := s5.trans s6
        have lt := hT.length
        rw [List.length_take] at lt
        have gl6 := S6 _ _ gl
        have kpl : Kp K H6 (upd H6 l (.lst (tps.map V.ref ++ [.ref tp]))) := Kp.upd gl6 (fun _ z => by cases z) (fun _ _ z => by cases z)
        refine ⟨tps.map V.ref, gl6, by rw [List.length_map, sizeLine_eq]; omega, fun b o q => ?_, tps ++ [tp], ?_, ?_⟩
        · rw [upd_ne (ne_of_none q nl)]
          exact S6 _ _ (s4 _ _ q)
        · rw [upd_same, List.map_append]
          rfl
        · rw [List.take_add_one, he]
          refine paired_snocY (paired_memY hT fun a y _ _ q => ?_) ⟨sa, na, fa, ga, kpl _ _ gt, (q2.same (s4.trans S6)).kpY kpl⟩
          obtain ⟨p1, p2, p3, p4, w1, w2⟩ := q.same S6
          exact ⟨p1, p2, p3, p4, kpl _ _ w1, w2.kpY kpl⟩
      · rintro H4 ⟨s4, tps, gl, hT⟩
        rw [List.length_map, lds, List.take_length] at hT
        have h4 := s4 _ _ hI.at_
        refine ⟨_, rfl, x, CD, dx, _, _, rfl, h4, D.D.cl, D.D.nS, rfl, ?_⟩
        exact ⟨l, ts, tps, d.eds, kvs, d.ss, rfl, gl, hT, sm1, sm2, s4 _ _ hI.tst, hI.sl.same s4, sm3, kB.of (S3.trans s4)⟩
end
end Half

/-! try: body / except x1 as n: s1 / except x2 as n: s2 -/
namespace L2
open PySem PySem.Spec PyProof.Rows
/-- the ends of a suite behind 'as n': n goes -/
def endsGone (i : Nat) (D : Ends) : Ends := { nx := fun τ G => D.nx (τ.set i none) G, rt := D.rt, bk := fun τ G => D.bk (τ.set i none) G, ct := fun τ G => D.ct (τ.set i none) G }
def wTwo (K : PySem.W.Frag) (c1 c2 : Value) (i : Nat) (t1 t2 : Addr → Value → Option Addr → TS) (out : WX) (D : Ends) : WX := fun cls d τ G =>
  ∃ b, PySem.W.exmOne K cls c1 = some b ∧ (b = true → ∀ x, G x = none → t1 x cls d (endsGone i D) (τ.set i (some (.ref x))) G) ∧
    (b = false → ∃ b', PySem.W.exmOne K cls c2 = some b' ∧ (b' = true → ∀ x, G x = none → t2 x cls d (endsGone i D) (τ.set i (some (.ref x))) G) ∧ (b' = false → out cls d τ G))
section
variable {X : Cx} {y1 y2 n : Str} {c1 c2 : Value} {i : Nat} {body u1 u2 : List Stmt} {v1 v2 : Stmt} {p1 p2 q1 q2 pos : Pos} {tb : WX → TS} {t1 t2 : Addr → Value → Option Addr → TS} {out : WX}
/-- a suite has ended: its name goes -/
theorem suite_ends {pins : List (Addr × Obj)} {a : Addr} {q : Addr × Obj} {D : Ends} {q2 : Pos} (ok : X.Ok) (hN : X.N.Nodup) (hi : X.N[i]? = some n) (hl : X.env.kindOf n = some .local) {fl : Flow} {st : Shared}
    (h : SP (X.suite a (q :: (X.pn ++ pins))) [] (endsGone i D) fl st) :
    wpAny (model X.prog X.w) X.A (do bindName X.env n .none; unbindBehindTheSuite X.env n q2) (fun _ st' => SP X pins D fl st') X.xe st := by
  have bye : ∀ {τ : St} {G : Hp} {R : Shared → Prop}, Inv (X.suite a (q :: (X.pn ++ pins))) [] τ G st → (∀ st', Inv X pins (τ.set i none) G st' → R st') →
      wpAny (model X.prog X.w) X.A (do bindName X.env n .none; unbindBehindTheSuite X.env n q2) (fun _ st' => R st') X.xe st := fun J r => gone_ok (J.unsuite ok) hN hi hl r
  cases fl with
  | next => obtain ⟨τ, G, J, r⟩ := h; exact bye J fun st' J' => ⟨_, _, J', r⟩
  | brk => obtain ⟨τ, G, J, r⟩ := h; exact bye J fun st' J' => ⟨_, _, J', r⟩
  | cont => obtain ⟨τ, G, J, r⟩ := h; exact bye J fun st' J' => ⟨_, _, J', r⟩
  | ret z => obtain ⟨v, τ, G, J, e, r⟩ := h; exact bye J fun st' J' => ⟨_, _, _, J', e, r⟩
theorem ps_try_two (hs : X.stack = X.env :: X.outer) (hf : X.env.frame = some X.env.locals) (hN : X.N.Nodup) (hi : X.N[i]? = some n) (hl : X.env.kindOf n = some .local) (n1 : Names X y1 c1) (n2 : Names X y2 c2) (tk : Takes X out)
    (hb : ∀ (W : WX) (pn : List (Addr × Obj)) (xe : Value → Shared → Prop), Takes (X.tr pn xe) W → PassesOwn (model X.prog X.w) X.A X.env xe → PSs (X.tr pn xe) body (tb W))
    (h1 : ∀ (a : Addr) (oe : Obj) (cls : Value) (d : Option Addr) (pn : List (Addr × Obj)), Zc cls d oe → (∃ vs, oe.data = .fields vs) → PSs (X.suite a ((a, oe) :: pn)) (v1 :: u1) (t1 a cls d))
    (h2 : ∀ (a : Addr) (oe : Obj) (cls : Value) (d : Option Addr) (pn : List (Addr × Obj)), Zc cls d oe → (∃ vs, oe.data = .fields vs) → PSs (X.suite a ((a, oe) :: pn)) (v2 :: u2) (t2 a cls d)) :
    PS X (.Try body [.ExceptHandler (some (.Name y1 p1)) (some n) (v1 :: u1) q1, .ExceptHandler (some (.Name y2 p2)) (some n) (v2 :: u2) q2] [] [] pos) (fun D τ G => tb (wTwo X.K c1 c2 i t1 t2 out D) D τ G) where
  run pins st τ G D J0 rd := by
    have ok := J0.ok
    have frames : X.A.frames = some (X.env :: X.outer) := by rw [ok.frames, hs]
    have locN : Loc X.env.scope n := .inl hl
    let hh : List ExceptHandler := [.ExceptHandler (some (.Name y1 p1)) (some n) (v1 :: u1) q1, .ExceptHandler (some (.Name y2 p2)) (some n) (v2 :: u2) q2]
    let catch_ : Value → Shared → Prop := fun er st1 => wpAny (model X.prog X.w) X.A (noteFrame er X.env) (fun _ st2 => wpAny (model X.prog X.w) X.A (setFlight er none) (fun _ st3 => wpAny (model X.prog X.w) X.A (handleBy er X.env hh) (SP X pins D) X.xe st3) X.xe st2) X.xe st1
    refine wpAny_Try_except (wpAny_mono ((hb (wTwo X.K c1 c2 i t1 t2 out D) (X.pn ++ pins) catch_ ?_ PassesOwn.looking).run [] st τ G D (J0.toTry _) rd) ?_ fun er st1 z => z)
    · rintro er st' ⟨a, B, sI, pins', τ', G', cls, d, rfl, J', bare, up, sky, fresh, os, ag, wish⟩
      have J : Inv X pins τ' G' sI := J'.ofTry ok
      rw [hs] at sky
      refine Sky.land Zc.steady frames hf sky fun h3 land up3 => ?_
      have J3 : Inv X pins τ' G' { st' with heap := h3 } := J.landed bare land.1 (up.trans up3) os ag
      obtain ⟨o3, w3, at3, zc3, fd3⟩ := land.there
      have out3 : a ∉ frs (X.env :: X.outer) := fun m => by
        obtain ⟨_, o', at', no⟩ := land.2.2.1.mem m
        rw [at3] at at'
        cases at'
        exact no _ fd3
      have offL : a ≠ X.env.locals := fun z => out3 (List.mem_filterMap.mpr ⟨X.env, .head _, by rw [hf, z]⟩)
      have offF : a ∉ X.fs := fun m => by
        obtain ⟨e, he, r⟩ := List.mem_filterMap.mp m
        exact out3 (List.mem_filterMap.mpr ⟨e, .tail _ he, r⟩)
      have S3 := J3.suite at3 fd3 fresh offL offF
      have kind : PySem.W.Looks (model X.prog X.w) h3 (typeOf (.ref a)) cls := fun A Q E s k r => wpAny_typeOf_ref (k _ _ at3) (by rw [zc3.1]; exact r)
      have named : ∀ {y : Str} {c : Value} {p : Pos} {Q E : Value → Shared → Prop}, Names X y c → Q c { st' with heap := h3 } → wpAny (model X.prog X.w) (X.A.mark (some (.ref a))) (eval (.Name y p) X.env) Q E { st' with heap := h3 } := fun hc r => by
        obtain ⟨g, dbg, m | ⟨m, bt, nn⟩⟩ := hc
        · exact ld_glob (X := X.suite a ((a, o3) :: (X.pn ++ pins))) S3 g m r dbg
        · exact ld_blt (X := X.suite a ((a, o3) :: (X.pn ++ pins))) S3 g m bt r nn dbg
      obtain ⟨b, m1, yes1, no1⟩ := wish
      have M1 := PySem.W.exm_one (M := model X.prog X.w) J3.kIn kind m1
      refine wpAny_handleBy_cons (codeAny_handlers_test (named n1 (M1.here ?_))) (by intro r; cases r)
      cases b with
      | true =>
        refine codeAny_handlers_suite_as (HandSPX.lands_againZ land fun h4 land4 up4 => ?_)
        have J4 : Inv X pins τ' G' { st' with heap := h4 } := J.landed bare land4.1 ((up.trans up3).trans up4) os ag
        obtain ⟨o4, w4, at4, zc4, fd4⟩ := land4.there
        refine store_ok (X := X.suite a ((a, o4) :: (X.pn ++ pins))) (v := .ref a) (J4.suite at4 fd4 fresh offL offF) hN hi locN rfl (fun s5 S5 => ?_) (.inr hl)
        exact wpAny_mono ((h1 a o4 cls d (X.pn ++ pins) zc4 ⟨_, fd4⟩).run [] s5 _ G' _ S5 (yes1 rfl a fresh)) (fun f s6 r => suite_ends ok hN hi hl r) fun _ _ z => z.elim
      | false =>
        obtain ⟨b', m2, yes2, no2⟩ := no1 rfl
        have M2 := PySem.W.exm_one (M := model X.prog X.w) J3.kIn kind m2
        show wpAny _ X.A (handleBy (.ref a) X.env [.ExceptHandler (some (.Name y2 p2)) (some n) (v2 :: u2) q2]) _ _ _
        refine wpAny_handleBy_cons (codeAny_handlers_test (named n2 (M2.here ?_))) (by intro r; cases r)
        cases b' with
        | true =>
          refine codeAny_handlers_suite_as (HandSPX.lands_againZ land fun h4 land4 up4 => ?_)
          have J4 : Inv X pins τ' G' { st' with heap := h4 } := J.landed bare land4.1 ((up.trans up3).trans up4) os ag
          obtain ⟨o4, w4, at4, zc4, fd4⟩ := land4.there
          refine store_ok (X := X.suite a ((a, o4) :: (X.pn ++ pins))) (v := .ref a) (J4.suite at4 fd4 fresh offL offF) hN hi locN rfl (fun s5 S5 => ?_) (.inr hl)
          exact wpAny_mono ((h2 a o4 cls d (X.pn ++ pins) zc4 ⟨_, fd4⟩).run [] s5 _ G' _ S5 (yes2 rfl a fresh)) (fun f s6 r => suite_ends ok hN hi hl r) fun _ _ z => z.elim
        | false =>
          show wpAny _ X.A (handleBy (.ref a) X.env []) _ _ _
          refine wpAny_handleBy_nil ?_
          obtain ⟨_, _, _, o5, w5, T5, oT5, tT5, at5, _, fd5, lead5, _⟩ := id land
          unfold PySem.passOn
          refine wpAny_bind (wpAny_field at5 fd5 lead5 ?_)
          rw [if_neg (by simp : ¬ ((Value.ref T5 == Value.none) = true))]
          have off : wpAny (model X.prog X.w) X.A (setFlight (.ref a) X.env.frame) (fun _ s4 => wpAny (model X.prog X.w) X.A (throw (.ref a) : Sem Flow) (SP X pins D) X.xe s4) X.xe { st' with heap := h3 } := by
            rw [hf]
            exact HandSPX.setFlight_upZ land fun h4 hh4 up4 => wpAny_throw (tk _ _ ⟨a, B, sI, pins, τ', G', cls, d, rfl, J, bare, (up.trans up3).trans up4, .inr (.inr (by rw [hs]; exact hh4)), fresh, os, ag, no2 rfl⟩)
          first
            | exact wpAny_bind (wpAny_pure (wpAny_bind off))
            | exact wpAny_bind off
    · rintro (_ | _ | _ | z) st1 r
      · obtain ⟨τ1, G1, J1, r1⟩ := r
        exact wpAny_execs_nil ⟨τ1, G1, J1.ofTry ok, r1⟩
      · obtain ⟨τ1, G1, J1, r1⟩ := r
        exact ⟨τ1, G1, J1.ofTry ok, r1⟩
      · obtain ⟨τ1, G1, J1, r1⟩ := r
        exact ⟨τ1, G1, J1.ofTry ok, r1⟩
      · obtain ⟨v, τ1, G1, J1, e, r1⟩ := r
        exact ⟨v, τ1, G1, J1.ofTry ok, e, r1⟩
end
end L2

/-! several except clauses, each with a name or without one -/
namespace L2
open PySem PySem.Spec PyProof.Rows
/-- what one clause wishes -/
inductive Cls1
  | bare (c : Value) (ts : Addr → Value → Option Addr → TS)
  | named (c : Value) (i : Nat) (ts : Addr → Value → Option Addr → TS)
def wClauses (K : PySem.W.Frag) (out : WX) (D : Ends) : List Cls1 → WX
  | [] => out
  | .bare c ts :: r => fun cls d τ G => ∃ b, PySem.W.exmOne K cls c = some b ∧ (b = true → ∀ a, G a = none → ts a cls d D τ G) ∧ (b = false → wClauses K out D r cls d τ G)
  | .named c i ts :: r => fun cls d τ G => ∃ b, PySem.W.exmOne K cls c = some b ∧ (b = true → ∀ a, G a = none → ts a cls d (endsGone i D) (τ.set i (some (.ref a))) G) ∧ (b = false → wClauses K out D r cls d τ G)
inductive Clauses (X : Cx) : List ExceptHandler → List Cls1 → Prop
  | nil : Clauses X [] []
  | bare {x : Str} {c : Value} {ts : Addr → Value → Option Addr → TS} {s1 : Stmt} {ss : List Stmt} {p1 p2 : Pos} {hs : List ExceptHandler} {l : List Cls1} (hc : Names X x c)
      (hb : ∀ (a : Addr) (oe : Obj) (cls : Value) (d : Option Addr) (pn : List (Addr × Obj)), Zc cls d oe → (∃ vs, oe.data = .fields vs) → PSs (X.suite a ((a, oe) :: pn)) (s1 :: ss) (ts a cls d)) (r : Clauses X hs l) :
      Clauses X (.ExceptHandler (some (.Name x p1)) none (s1 :: ss) p2 :: hs) (.bare c ts :: l)
  | named {x n : Str} {i : Nat} {c : Value} {ts : Addr → Value → Option Addr → TS} {s1 : Stmt} {ss : List Stmt} {p1 p2 : Pos} {hs : List ExceptHandler} {l : List Cls1} (hc : Names X x c) (hi : X.N[i]? = some n) (hl : X.env.kindOf n = some .local)
      (hb : ∀ (a : Addr) (oe : Obj) (cls : Value) (d : Option Addr) (pn : List (Addr × Obj)), Zc cls d oe → (∃ vs, oe.data = .fields vs) → PSs (X.suite a ((a, oe) :: pn)) (s1 :: ss) (ts a cls d)) (r : Clauses X hs l) :
      Clauses X (.ExceptHandler (some (.Name x p1)) (some n) (s1 :: ss) p2 :: hs) (.named c i ts :: l)
section
variable {X : Cx} {body : List Stmt} {h1 : ExceptHandler} {hs1 : List ExceptHandler} {l : List Cls1} {pos : Pos} {tb : WX → TS} {out : WX}
theorem ps_try_clauses (hs : X.stack = X.env :: X.outer) (hf : X.env.frame = some X.env.locals) (hN : X.N.Nodup) (tk : Takes X out)
    (hb : ∀ (W : WX) (pn : List (Addr × Obj)) (xe : Value → Shared → Prop), Takes (X.tr pn xe) W → PassesOwn (model X.prog X.w) X.A X.env xe → PSs (X.tr pn xe) body (tb W))
    (hh : Clauses X (h1 :: hs1) l) : PS X (.Try body (h1 :: hs1) [] [] pos) (fun D τ G => tb (wClauses X.K out D l) D τ G) where
  run pins st τ G D J0 rd := by
    have ok := J0.ok
    have frames : X.A.frames = some (X.env :: X.outer) := by rw [ok.frames, hs]
    let catch_ : Value → Shared → Prop := fun er st1 => wpAny (model X.prog X.w) X.A (noteFrame er X.env) (fun _ st2 => wpAny (model X.prog X.w) X.A (setFlight er none) (fun _ st3 => wpAny (model X.prog X.w) X.A (handleBy er X.env (h1 :: hs1)) (SP X pins D) X.xe st3) X.xe st2) X.xe st1
    refine wpAny_Try_except (wpAny_mono ((hb (wClauses X.K out D l) (X.pn ++ pins) catch_ ?_ PassesOwn.looking).run [] st τ G D (J0.toTry _) rd) ?_ fun er st1 z => z)
    · rintro er st' ⟨a, B, sI, pins', τ', G', cls, d, rfl, J', bare, up, sky, fresh, os, ag, wish⟩
      have J : Inv X pins τ' G' sI := J'.ofTry ok
      rw [hs] at sky
      refine Sky.land Zc.steady frames hf sky fun h3 land up3 => ?_
      have J3 : Inv X pins τ' G' { st' with heap := h3 } := J.landed bare land.1 (up.trans up3) os ag
      obtain ⟨o3, w3, at3, zc3, fd3⟩ := land.there
      have out3 : a ∉ frs (X.env :: X.outer) := fun m => by
        obtain ⟨_, o', at', no⟩ := land.2.2.1.mem m
        rw [at3] at at'
        cases at'
        exact no _ fd3
      have offL : a ≠ X.env.locals := fun z => out3 (List.mem_filterMap.mpr ⟨X.env, .head _, by rw [hf, z]⟩)
      have offF : a ∉ X.fs := fun m => by
        obtain ⟨e, he, r⟩ := List.mem_filterMap.mp m
        exact out3 (List.mem_filterMap.mpr ⟨e, .tail _ he, r⟩)
      have S3 := J3.suite at3 fd3 fresh offL offF
      have kind : PySem.W.Looks (model X.prog X.w) h3 (typeOf (.ref a)) cls := fun A Q E s k r => wpAny_typeOf_ref (k _ _ at3) (by rw [zc3.1]; exact r)
      have named : ∀ {y : Str} {c : Value} {p : Pos} {Q E : Value → Shared → Prop}, Names X y c → Q c { st' with heap := h3 } → wpAny (model X.prog X.w) (X.A.mark (some (.ref a))) (eval (.Name y p) X.env) Q E { st' with heap := h3 } := fun hc r => by
        obtain ⟨g, dbg, m | ⟨m, bt, nn⟩⟩ := hc
        · exact ld_glob (X := X.suite a ((a, o3) :: (X.pn ++ pins))) S3 g m r dbg
        · exact ld_blt (X := X.suite a ((a, o3) :: (X.pn ++ pins))) S3 g m bt r nn dbg
      have walk : ∀ {hs' : List ExceptHandler} {l' : List Cls1}, Clauses X hs' l' → wClauses X.K out D l' cls d τ' G' →
          wpAny (model X.prog X.w) X.A (handleBy (.ref a) X.env hs') (SP X pins D) X.xe { st' with heap := h3 } := by
        intro hs' l' hk
        induction hk with
        | nil =>
          intro no2
          refine wpAny_handleBy_nil ?_
          obtain ⟨_, _, _, o5, w5, T5, oT5, tT5, at5, _, fd5, lead5, _⟩ := id land
          unfold PySem.passOn
          refine wpAny_bind (wpAny_field at5 fd5 lead5 ?_)
          rw [if_neg (by simp : ¬ ((Value.ref T5 == Value.none) = true))]
          have off : wpAny (model X.prog X.w) X.A (setFlight (.ref a) X.env.frame) (fun _ s4 => wpAny (model X.prog X.w) X.A (throw (.ref a) : Sem Flow) (SP X pins D) X.xe s4) X.xe { st' with heap := h3 } := by
            rw [hf]
            exact HandSPX.setFlight_upZ land fun h4 hh4 up4 => wpAny_throw (tk _ _ ⟨a, B, sI, pins, τ', G', cls, d, rfl, J, bare, (up.trans up3).trans up4, .inr (.inr (by rw [hs]; exact hh4)), fresh, os, ag, no2⟩)
          first
            | exact wpAny_bind (wpAny_pure (wpAny_bind off))
            | exact wpAny_bind off
        | @bare x c ts s1 ss p1 p2 hs2 l2 hc hsu r ih =>
          rintro ⟨b, m1, yes1, no1⟩
          have M1 := PySem.W.exm_one (M := model X.prog X.w) J3.kIn kind m1
          refine wpAny_handleBy_cons (codeAny_handlers_test (named hc (M1.here ?_))) (by intro r; cases r)
          cases b with
          | true =>
            refine codeAny_handlers_suite (HandSPX.lands_againZ land fun h4 land4 up4 => ?_)
            have J4 : Inv X pins τ' G' { st' with heap := h4 } := J.landed bare land4.1 ((up.trans up3).trans up4) os ag
            obtain ⟨o4, w4, at4, zc4, fd4⟩ := land4.there
            refine wpAny_mono ((hsu a o4 cls d (X.pn ++ pins) zc4 ⟨_, fd4⟩).run [] _ _ G' _ (J4.suite at4 fd4 fresh offL offF) (yes1 rfl a fresh)) (fun f s6 hsp => ?_) (fun _ _ z => False.elim z)
            cases f with
            | next => obtain ⟨σ6, H6, S6, q6⟩ := hsp; exact ⟨_, _, S6.unsuite ok, q6⟩
            | brk => obtain ⟨σ6, H6, S6, q6⟩ := hsp; exact ⟨_, _, S6.unsuite ok, q6⟩
            | cont => obtain ⟨σ6, H6, S6, q6⟩ := hsp; exact ⟨_, _, S6.unsuite ok, q6⟩
            | ret u => obtain ⟨v6, σ6, H6, S6, r6, q6⟩ := hsp; exact ⟨_, _, _, S6.unsuite ok, r6, q6⟩
          | false => exact ih (no1 rfl)
        | @named x n i c ts s1 ss p1 p2 hs2 l2 hc hi hl hsu r ih =>
          rintro ⟨b, m1, yes1, no1⟩
          have M1 := PySem.W.exm_one (M := model X.prog X.w) J3.kIn kind m1
          refine wpAny_handleBy_cons (codeAny_handlers_test (named hc (M1.here ?_))) (by intro r; cases r)
          cases b with
          | true =>
            refine codeAny_handlers_suite_as (HandSPX.lands_againZ land fun h4 land4 up4 => ?_)
            have J4 : Inv X pins τ' G' { st' with heap := h4 } := J.landed bare land4.1 ((up.trans up3).trans up4) os ag
            obtain ⟨o4, w4, at4, zc4, fd4⟩ := land4.there
            refine store_ok (X := X.suite a ((a, o4) :: (X.pn ++ pins))) (v := .ref a) (J4.suite at4 fd4 fresh offL offF) hN hi (.inl hl) rfl (fun s5 S5 => ?_) (.inr hl)
            exact wpAny_mono ((hsu a o4 cls d (X.pn ++ pins) zc4 ⟨_, fd4⟩).run [] s5 _ G' _ S5 (yes1 rfl a fresh)) (fun f s6 r => suite_ends ok hN hi hl r) fun _ _ z => z.elim
          | false => exact ih (no1 rfl)
      exact walk hh wish
    · rintro (_ | _ | _ | z) st1 r
      · obtain ⟨τ1, G1, J1, r1⟩ := r
        exact wpAny_execs_nil ⟨τ1, G1, J1.ofTry ok, r1⟩
      · obtain ⟨τ1, G1, J1, r1⟩ := r
        exact ⟨τ1, G1, J1.ofTry ok, r1⟩
      · obtain ⟨τ1, G1, J1, r1⟩ := r
        exact ⟨τ1, G1, J1.ofTry ok, r1⟩
      · obtain ⟨v, τ1, G1, J1, e, r1⟩ := r
        exact ⟨v, τ1, G1, J1.ofTry ok, e, r1⟩
end
end L2

namespace Half
open PySem PySem.Spec PyProof.Rows L2
/-! ### _law_place -/
abbrev sPl : Stmt := top 58
def spS (z : Str) : List Str := (TL.spl [32] 0 [] (TL.tl z)).map fun a => ⟨a.toArray⟩
theorem split_sp (z : Str) : Txt.split z " " = spS z := by
  refine TL.map_tl_inj ?_
  have e : TL.tl (" " : Str) = [32] := by decide
  rw [TL.split_spl z " " (by rw [e]; decide) (TL.kind_ok (by decide +kernel)), e]
  unfold spS
  rw [List.map_map]
  exact (List.map_id _).symm
inductive Plc
  | non
  | text (p k : Nat)
  | ed (q : Str)
  | sto (i : Nat)
  | sys (n : Str)
  deriving DecidableEq
def builtM (d : Dr) : Plc := match wrongE d.eds with
  | some q => .ed q
  | none => match wrongAt (d.eds.map Ed.kk) with
    | some i => .sto i
    | none => match (d.ss.map (·.1)).find? (badP (d.eds.map Ed.kk) d.ss) with
      | some n => .sys n
      | none => .non
def plcOf : Except (Nat × Nat) Dr → Plc
  | .error (p, k) => .text p k
  | .ok d => builtM d
/-- what becomes of rows -/
def plM (ls : List Str) : Plc := plcOf (addAll (ls.map spS) 0 dr0)
def PlcV (K : PySem.W.Frag) (H : Hp) (v : V) : Plc → Prop
  | .non => v = .non
  | .text p k => ∃ t, v = .ref t ∧ SqT K H t [.int (p : Nat), .int (k : Nat)]
  | .ed q => ∃ t, v = .ref t ∧ SqT K H t [.str "edition", .str q]
  | .sto i => ∃ t, v = .ref t ∧ SqT K H t [.str "store", .int (i : Nat)]
  | .sys n => ∃ t, v = .ref t ∧ SqT K H t [.str "system", .str n]
def isIntV : V → Bool
  | .int _ => true
  | _ => false
def smallB (e : Ed) : Bool := decide (e.name.length ≤ 1000) && isIntV e.version && decide (e.scripts.length ≤ 100) && (decide (e.needs.length ≤ 100) && e.needs.all fun p => decide (p.1.length ≤ 1000)) && (decide (e.first.length ≤ 100) && e.first.all fun p => decide (p.1.length ≤ 1000)) && (decide (e.against.length ≤ 100) && e.against.all fun z => decide (z.length ≤ 1000))
theorem small_of {e : Ed} (h : smallB e = true) : e.Small ∧ ∃ v, e.version = .int v := by
  unfold smallB at h
  simp only [Bool.and_eq_true, decide_eq_true_eq, List.all_eq_true] at h
  obtain ⟨⟨⟨⟨⟨h1, h2⟩, h3⟩, h4⟩, h5⟩, h6⟩ := h
  have hv : ∃ v, e.version = .int v := by
    cases c : e.version with
    | int v => exact ⟨v, rfl⟩
    | _ => rw [c] at h2; cases h2
  exact ⟨⟨h1, .inl hv, h3, h4, h5, h6⟩, hv⟩
def okD : Except (Nat × Nat) Dr → Bool
  | .error _ => true
  | .ok d => d.eds.all smallB && decide (d.eds.length ≤ 40) && decide (d.ss.length ≤ 1) && d.ss.all fun s => decide ((reprText s.1).length ≤ 1000)
/-- rows that can be asked for -/
def okPl (ls : List Str) : Bool := decide (ls ≠ []) && decide (ls.length ≤ 40) && (ls.all fun z => decide (z.length ≤ 50) && !decide (10 ∈ TL.tl z)) && okD (addAll (ls.map spS) 0 dr0)
theorem nl_len : ("\n" : Str).length = 1 := by decide
theorem spl_ok (S : List Nat) : ∀ (l : List Nat) (k : Nat) (acc : List Nat), TL.spl S k acc l ≠ [] ∧ (TL.spl S k acc l).length ≤ l.length + 1 ∧ ∀ p ∈ TL.spl S k acc l, p.length ≤ acc.length + l.length
  | [], k, acc => by
    rw [TL.spl_nil]
    exact ⟨by simp, Nat.le_refl _, fun p hp => by rw [List.mem_singleton.mp hp]; exact Nat.le_refl _⟩
  | c :: r, 0, acc => by
    cases h : TL.pre S (c :: r) with
    | true =>
      rw [TL.spl_hit h]
      obtain ⟨_, b, d⟩ := spl_ok S r (S.length - 1) []
      refine ⟨by simp, by rw [List.length_cons, List.length_cons]; omega, fun p hp => ?_⟩
      rcases List.mem_cons.mp hp with z | z
      · rw [z]; omega
      · have := d p z
        rw [List.length_nil] at this
        rw [List.length_cons]
        omega
    | false =>
      rw [TL.spl_miss h]
      obtain ⟨a, b, d⟩ := spl_ok S r 0 (acc ++ [c])
      refine ⟨a, by rw [List.length_cons]; omega, fun p hp => ?_⟩
      have := d p hp
      rw [List.length_append, List.length_singleton] at this
      rw [List.length_cons]
      omega
  | c :: r, k + 1, acc => by
    obtain ⟨a, b, d⟩ := spl_ok S r k acc
    have e : TL.spl S (k + 1) acc (c :: r) = TL.spl S k acc r := by first | rfl | simp [TL.spl]
    rw [e]
    refine ⟨a, by rw [List.length_cons]; omega, fun p hp => ?_⟩
    have := d p hp
    rw [List.length_cons]
    omega
theorem joinL_len (S : List Nat) : ∀ l : List (List Nat), (TL.joinL S l).length ≤ (l.map List.length).sum + l.length * S.length
  | [] => Nat.zero_le _
  | [p] => by
    show p.length ≤ _
    simp
  | p :: q :: r => by
    have := joinL_len S (q :: r)
    show (p ++ (S ++ TL.joinL S (q :: r))).length ≤ _
    rw [List.length_append, List.length_append, List.map_cons, List.sum_cons, List.length_cons, Nat.add_mul]
    omega
structure PlOk (ls : List Str) : Prop where
  ne : ls ≠ []
  few : ls.length ≤ 40
  short : ∀ z ∈ ls, z.length ≤ 50
  sum : (ls.map (·.length)).sum ≤ 40 * 50
  nl : ∀ z ∈ ls, 10 ∉ TL.tl z
  dr : okD (addAll (ls.map spS) 0 dr0) = true
theorem pl_ok {ls : List Str} (h : okPl ls = true) : PlOk ls := by
  unfold okPl at h
  simp only [Bool.and_eq_true] at h
  obtain ⟨⟨⟨h0, h1⟩, h3⟩, h4⟩ := h
  have l1 : ls.length ≤ 40 := of_decide_eq_true h1
  have l2 : ∀ z ∈ ls, z.length ≤ 50 := fun z m => by
    have := List.all_eq_true.mp h3 z m
    rw [Bool.and_eq_true] at this
    exact of_decide_eq_true this.1
  have : ∀ l : List Str, (∀ z ∈ l, z.length ≤ 50) → (l.map (·.length)).sum ≤ l.length * 50 := by
    intro l
    induction l with
    | nil => intro _; decide
    | cons z l ih =>
      intro k
      have a := ih fun y m => k y (.tail _ m)
      have b := k z (.head _)
      rw [List.map_cons, List.sum_cons, List.length_cons]
      omega
  have := this ls l2
  refine ⟨of_decide_eq_true h0, l1, l2, by omega, fun z m q => ?_, h4⟩
  have := List.all_eq_true.mp h3 z m
  rw [Bool.and_eq_true, decide_eq_true q] at this
  exact absurd this.2 (by decide)
theorem split_nl {ls : List Str} (h : PlOk ls) : Txt.split (Txt.join "\n" ls) "\n" = ls :=
  TL.split_join (s := 10) (S := []) (by decide) (by decide +kernel) h.ne h.nl
theorem text_ok {ls : List Str} (h : PlOk ls) : TextOk (Txt.join "\n" ls) := by
  have hs := split_nl h
  have few := h.few
  refine ⟨?_, by rw [hs]; omega, fun y hy => ?_⟩
  · have e := joinL_len (TL.tl ("\n" : Str)) (ls.map TL.tl)
    rw [TL.len_tl, TL.join_eq, TL.tl_join]
    have e1 : (TL.tl ("\n" : Str)).length = 1 := by decide
    have e2 : ((ls.map TL.tl).map List.length) = ls.map (·.length) := by
      rw [List.map_map]
      exact List.map_congr_left fun z _ => (TL.len_tl z).symm
    rw [e1, e2, List.length_map] at e
    have := h.sum
    omega
  · rw [hs] at hy
    have l5 := h.short y hy
    obtain ⟨a, b, d⟩ := spl_ok [32] (TL.tl y) 0 []
    have e : (TL.tl y).length = y.length := (TL.len_tl y).symm
    rw [split_sp]
    unfold spS
    refine ⟨by omega, by rw [List.length_map]; omega, fun q => a (List.map_eq_nil_iff.mp q), fun v hv => ?_⟩
    obtain ⟨p, hp, rfl⟩ := List.mem_map.mp hv
    have := d p hp
    rw [List.length_nil] at this
    show p.toArray.size ≤ 1000
    rw [List.size_toArray]
    omega
theorem words_join {ls : List Str} (h : PlOk ls) : wordsY (Txt.join "\n" ls) = ls.map spS := by
  unfold wordsY
  rw [split_nl h]
  exact List.map_congr_left fun z _ => split_sp z
def spPl (K : PySem.W.Frag) : Sp := fun vs H Q _ => ∃ (l : Addr) (ls : List Str), vs = [.ref l] ∧ SqL K H l (ls.map V.str) ∧ okPl ls = true ∧ ∀ H' v, Same H H' → PlcV K H' v (plM ls) → Q v H'
structure PlT (K : PySem.W.Frag) (mg : Str → Option Value) (CV CE CI CIs : Addr) : Prop where
  gV : mg "InvalidText" = some (.ref CV)
  gE : mg "InvalidEdition" = some (.ref CE)
  gI : mg "InvalidStore" = some (.ref CI)
  gS : mg "InvalidSystem" = some (.ref CIs)
  xV : XfC K CV
  xE : XfC K CE
  xI : XfC K CI
  xS : XfC K CIs
  nV1 : PySem.W.findIn K (.ref CV) "row" = some none
  nV2 : PySem.W.findIn K (.ref CV) "word" = some none
  nE : PySem.W.findIn K (.ref CE) "part" = some none
  nI : PySem.W.findIn K (.ref CI) "index" = some none
  nS : PySem.W.findIn K (.ref CIs) "package" = some none
  vv : PySem.W.exmOne K (.ref CV) (.ref CV) = some true
  ev : PySem.W.exmOne K (.ref CE) (.ref CV) = some false
  ee : PySem.W.exmOne K (.ref CE) (.ref CE) = some true
  iv : PySem.W.exmOne K (.ref CI) (.ref CV) = some false
  ie : PySem.W.exmOne K (.ref CI) (.ref CE) = some false
  ii : PySem.W.exmOne K (.ref CI) (.ref CI) = some true
  sv : PySem.W.exmOne K (.ref CIs) (.ref CV) = some false
  se : PySem.W.exmOne K (.ref CIs) (.ref CE) = some false
  si : PySem.W.exmOne K (.ref CIs) (.ref CI) = some false
  ss : PySem.W.exmOne K (.ref CIs) (.ref CIs) = some true
theorem takes_len {X : Cx} {W : WX} (tk : Takes X W) : Takes X (fun cls d σ H => σ.length = X.N.length → W cls d σ H) := fun u s' x => by
  obtain ⟨a, B, sI, pins, σ, H, cls, d, e, I, nb, up, sky, na, os, ag, w⟩ := x
  exact tk u s' ⟨a, B, sI, pins, σ, H, cls, d, e, I, nb, up, sky, na, os, ag, w I.len⟩
section
variable {P : Program} {w : World} {K : PySem.W.Frag} {mg : Str → Option Value} {base : Heap} {C CT CY CE CI CIs CV : Addr}
theorem scPl : FnScope ["_law_rows", "e"] ["_law_rows"] (defScope sPl) := ⟨rfl, rfl, rfl, by decide +kernel, rfl, by decide +kernel, by decide +kernel⟩
theorem ok_pl {f : Addr} {fd : FuncData} (F : Fun K "_law_place" "_law_place" sPl f fd) (T : PlT K mg CV CE CI CIs) (dP : DefX P w K mg base 9 "parse_system" ["text"] (spPse K C CT CY CE CI CIs CV)) : FnOk P w K mg base CX0 10 f fd ["_law_rows"] (spPl K) := by
  refine F.ok scPl (fun vs H Q E h => ?_) (fun cdv A outer s H vs Q E hr h => ?_)
  · obtain ⟨l, ls, rfl, _⟩ := h
    rfl
  · obtain ⟨l, ls, rfl, hl, hok, k⟩ := h
    have nd := scPl.nd
    refine ⟨_, pss_cons (ps_try_clauses (tb := fun W D σ H => tDrop (tCall (spPse K C CT CY CE CI CIs CV) [] (fun cls d H' => ∀ σ' : L2.St, σ'.length = 2 → W cls d σ' H') (tCons (tM1 (fun x xs H Q => ∃ a p, ∃ ys : List Str, x = .str a ∧ xs = [.ref p] ∧ (SqL K H p (ys.map V.str) ∨ SqT K H p (ys.map V.str)) ∧ (ys.map (·.length)).sum + ys.length * a.length ≤ 16777216 ∧ Q (.str (Txt.join a ys)) H) (tC (.str "\n")) (tVar 0)) tNil)) D σ H) rfl rfl nd LamX.takes0
        (fun W pn xe tk _ => pss_one (ps_expr (pe_defX dP hr rfl (passes_call (takes_len tk) (fun _ _ σ' _ h hl => h σ' hl)) (pa_cons (pe_join pe_str (pv 0)) pa_nil))))
        (.named (i := 1) ⟨rfl, by decide, .inl T.gV⟩ rfl rfl (fun a oe cls d pn hz hf => pss_one (ps_ret (pe_tup (pa_cons (pe_xf T.xV T.nV1 hz hf (pv 1)) (pa_cons (pe_xf T.xV T.nV2 hz hf (pv 1)) pa_nil)))))
        (.named (i := 1) ⟨rfl, by decide, .inl T.gE⟩ rfl rfl (fun a oe cls d pn hz hf => pss_one (ps_ret (pe_tup (pa_cons pe_str (pa_cons (pe_xf T.xE T.nE hz hf (pv 1)) pa_nil)))))
        (.named (i := 1) ⟨rfl, by decide, .inl T.gI⟩ rfl rfl (fun a oe cls d pn hz hf => pss_one (ps_ret (pe_tup (pa_cons pe_str (pa_cons (pe_xf T.xI T.nI hz hf (pv 1)) pa_nil)))))
        (.named (i := 1) ⟨rfl, by decide, .inl T.gS⟩ rfl rfl (fun a oe cls d pn hz hf => pss_one (ps_ret (pe_tup (pa_cons pe_str (pa_cons (pe_xf T.xS T.nS hz hf (pv 1)) pa_nil))))) .nil)))))
      (pss_one (ps_ret pe_non)), ?_⟩
    have hP := pl_ok hok
    have hsum := hP.sum
    have hfew := hP.few
    refine ⟨⟨_, rfl⟩, _, rfl, "\n", l, ls, rfl, rfl, .inl hl, by rw [nl_len]; omega, ?_⟩
    refine ⟨_, rfl, text_ok hP, ?_⟩
    rw [words_join hP]
    have hdr := hP.dr
    have ef : plM ls = plcOf (addAll (ls.map spS) 0 dr0) := rfl
    rw [ef] at k
    have len2 : ∀ σ' : L2.St, σ'.length = 2 → ∃ x0 x1, σ' = [x0, x1] := fun σ' hl => by
      match σ', hl with
      | [x0, x1], _ => exact ⟨x0, x1, rfl⟩
    generalize addAll (ls.map spS) 0 dr0 = res at k hdr
    match res with
    | .error (p, j) =>
      intro H6 dd s6 hd σ' hσ
      obtain ⟨x0, x1, rfl⟩ := len2 σ' hσ
      refine ⟨true, T.vv, fun _ a2 ha2 => ?_, fun z => nomatch z⟩
      refine ⟨_, rfl, rfl, rfl, dd, _, _, rfl, hd, rfl, _, rfl, rfl, rfl, dd, _, _, rfl, hd, rfl, two_le, fun q nq => ?_⟩
      exact k _ _ (s6.trans (Same.upd_new nq)) ⟨q, rfl, SqT.of upd_same⟩
    | .ok d =>
      unfold okD at hdr
      simp only [Bool.and_eq_true, decide_eq_true_eq] at hdr
      obtain ⟨⟨⟨d1, d2⟩, d3⟩, d4⟩ := hdr
      refine ⟨⟨fun e he => small_of (List.all_eq_true.mp d1 e he), d2, by omega⟩, ?_⟩
      have ek : plcOf (.ok d) = builtM d := rfl
      rw [ek] at k
      unfold builtM at k
      refine ⟨fun q hq H6 dd s6 hd σ' hσ => ?_, fun nw i hi H6 dd s6 hd σ' hσ => ?_, fun nw ni n h1 h2 h3 => ⟨?_, fun H6 dd s6 hd σ' hσ => ?_⟩, fun nw ni hb H6 y st as ns s6 _ _ _ _ _ _ => ?_⟩
      · obtain ⟨x0, x1, rfl⟩ := len2 σ' hσ
        rw [hq] at k
        refine ⟨false, T.ev, fun z => (nomatch z), fun _ => ⟨true, T.ee, fun _ a2 ha2 => ?_, fun z => nomatch z⟩⟩
        refine ⟨_, rfl, rfl, rfl, dd, _, _, rfl, hd, rfl, two_le, fun q' nq => ?_⟩
        exact k _ _ (s6.trans (Same.upd_new nq)) ⟨q', rfl, SqT.of upd_same⟩
      · obtain ⟨x0, x1, rfl⟩ := len2 σ' hσ
        rw [nw] at k
        dsimp only at k
        rw [hi] at k
        refine ⟨false, T.iv, fun z => (nomatch z), fun _ => ⟨false, T.ie, fun z => (nomatch z), fun _ => ⟨true, T.ii, fun _ a2 ha2 => ?_, fun z => nomatch z⟩⟩⟩
        refine ⟨_, rfl, rfl, rfl, dd, _, _, rfl, hd, rfl, two_le, fun q' nq => ?_⟩
        exact k _ _ (s6.trans (Same.upd_new nq)) ⟨q', rfl, SqT.of upd_same⟩
      · obtain ⟨p, hp, rfl⟩ := List.mem_map.mp h1
        exact of_decide_eq_true (List.all_eq_true.mp d4 p hp)
      · obtain ⟨x0, x1, rfl⟩ := len2 σ' hσ
        have ss1 : d.ss.map (·.1) = [n] := by
          cases c : d.ss with
          | nil => rw [c] at h1; cases h1
          | cons a r =>
            rw [c] at d3 h1
            have : r = [] := List.eq_nil_of_length_eq_zero (by rw [List.length_cons] at d3; omega)
            subst this
            rw [List.map_cons, List.map_nil] at h1 ⊢
            rw [List.mem_singleton.mp h1]
        rw [nw] at k
        dsimp only at k
        rw [ni] at k
        dsimp only at k
        rw [ss1, List.find?_cons, h2] at k
        refine ⟨false, T.sv, fun z => (nomatch z), fun _ => ⟨false, T.se, fun z => (nomatch z), fun _ => ⟨false, T.si, fun z => (nomatch z), fun _ => ⟨true, T.ss, fun _ a2 ha2 => ?_, fun z => nomatch z⟩⟩⟩⟩
        refine ⟨_, rfl, rfl, rfl, dd, _, _, rfl, hd, rfl, two_le, fun q' nq => ?_⟩
        exact k _ _ (s6.trans (Same.upd_new nq)) ⟨q', rfl, SqT.of upd_same⟩
      · rw [nw] at k
        dsimp only at k
        rw [ni] at k
        dsimp only at k
        have e : (d.ss.map (·.1)).find? (badP (d.eds.map Ed.kk) d.ss) = none := List.find?_eq_none.mpr fun n hn => by rw [hb n hn]; decide
        rw [e] at k
        exact k _ _ s6 rfl
end
end Half

namespace Half
open PySem PySem.Spec PyProof.Rows L2
/-! ### what becomes of the law's rows -/
def GOOD : List Str := ["edition db 2", "needs lib 1", "against web", "edition lib 1", "scripts clean setup", "state lib half 1 0"]
def FST : List (Str × Nat) := [("", 0), ("editions lib 3", 0), ("edition", 1), ("edition Lib 3", 1), ("edition lib", 2), ("state lib x 1 0", 0), ("edition lib 03", 2), ("edition lib 100", 2), ("edition lib 3 4", 3), ("edition  lib 3", 1)]
def LTR : List (Str × Nat) := [("edition da 9", 1), ("edition db 2", 2), ("edition db 1", 2), ("scripts enter clean", 2), ("scripts start", 1), ("needs", 1), ("needs lib", 2), ("needs lib x", 2), ("needs lib 1 app 2", 3), ("against", 1),
  ("first lib 1 lib 2", 3), ("against web app", 2), ("against web ", 2), ("state lib ready", 3), ("state lib absent 0 0", 2), ("state lib half 1", 4), ("state lib half 1 0 0", 5), ("state 1 half 1 0", 1)]
def SOM : List Str := ["needs lib 1", "scripts clean", "edition lib 9", "first lib 2"]
def LTE : List Str := ["state lib half 1 0", "state app half 1 0", "state  half 1 0"]
def ROW4 (z : Str) : List (List Str) := [["edition db 2", "first lib 1", z], ["edition db 2", "against lib", z], GOOD.drop 3 ++ [z], ["edition db 2", "first lib 1", z]]
theorem f_good : plM GOOD = .non ∧ okPl GOOD = true := by decide +kernel
theorem f_first : ∀ p ∈ FST, plM ([p.1] ++ GOOD.drop 1) = .text 0 p.2 ∧ okPl ([p.1] ++ GOOD.drop 1) = true := by decide +kernel
theorem f_later : ∀ p ∈ LTR, plM ([("edition db 2" : Str), p.1] ++ GOOD.drop 2) = .text 1 p.2 ∧ okPl ([("edition db 2" : Str), p.1] ++ GOOD.drop 2) = true := by decide +kernel
theorem f_are : ∀ k < 4, plM ((ROW4 (SOM.getD k "")).getD k []) = .text (if k = 2 then 3 else 2) 0 ∧ okPl ((ROW4 (SOM.getD k "")).getD k []) = true := by decide +kernel
theorem f_late : ∀ z ∈ LTE, plM (GOOD ++ [z]) = .text 6 1 ∧ okPl (GOOD ++ [z]) = true := by decide +kernel
theorem f_n1 : plM ["edition db 2", "needs db 1"] = .ed "needs" ∧ okPl ["edition db 2", "needs db 1"] = true := by decide +kernel
theorem f_n2 : plM ["edition db 0"] = .ed "version" ∧ okPl ["edition db 0"] = true := by decide +kernel
def NMS : List Str := ["edition a 1", "edition b 1", "edition c 1", "edition d 1", "edition e 1"]
theorem f_n3 : plM NMS = .sto 4 ∧ okPl NMS = true := by decide +kernel
theorem f_n4 : plM ["edition db 1", "state lib half 1 0"] = .sys "lib" ∧ okPl ["edition db 1", "state lib half 1 0"] = true := by decide +kernel
theorem f_n5 : plM ["edition db 1", "state db ready 1 0"] = .sys "db" ∧ okPl ["edition db 1", "state db ready 1 0"] = true := by decide +kernel
theorem f_n6 : plM [""] = .text 0 0 ∧ okPl [""] = true := by decide +kernel
end Half

namespace Half
open PySem PySem.Spec PyProof.Rows L2
/-! ### _law_are_later -/
abbrev sAre : Stmt := top 59
abbrev AreN : List Str := ["_law_row", "_law_good", "_law_k", "_law_some", "_law_rows", "_law_late"]
theorem scAre : FnScope AreN ["_law_row", "_law_good"] (defScope sAre) := ⟨rfl, rfl, rfl, by decide +kernel, rfl, by decide +kernel, by decide +kernel⟩
def plcD : Plc → PyData
  | .non => .none
  | .text p k => .tuple [.int (p : Nat), .int (k : Nat)]
  | .ed q => .tuple [.str "edition", .str q]
  | .sto i => .tuple [.str "store", .int (i : Nat)]
  | .sys n => .tuple [.str "system", .str n]
theorem PlcV.data {K : PySem.W.Frag} {H : Hp} {v : V} : ∀ {f : Plc}, PlcV K H v f → Dp K H v (plcD f)
  | .non, h => by rw [show v = .non from h]; exact .non
  | .text p k, ⟨t, e, g⟩ => by rw [e]; exact .tup g (.cons (.int _) (.cons (.int _) .nil))
  | .ed q, ⟨t, e, g⟩ => by rw [e]; exact .tup g (.cons (.str _) (.cons (.str _) .nil))
  | .sto q, ⟨t, e, g⟩ => by rw [e]; exact .tup g (.cons (.str _) (.cons (.int _) .nil))
  | .sys q, ⟨t, e, g⟩ => by rw [e]; exact .tup g (.cons (.str _) (.cons (.str _) .nil))
theorem PlcV.same {K : PySem.W.Frag} {H H' : Hp} {v : V} {f : Plc} (s : Same H H') (h : PlcV K H v f) : PlcV K H' v f := by
  cases f with
  | non => exact h
  | _ => obtain ⟨t, e, g⟩ := h; exact ⟨t, e, s.sqT g⟩
theorem eqv_self {d : PyData} (h : SeqAt.shaped d = true) : PyData.eqv d d = true := SeqAt.eqv_refl _ (SeqAt.canLay_of_shaped h)
section
variable {K : PySem.W.Frag} {H2 H3 : Hp} {v u : V} {f : Plc} {Q : VK}
theorem ne_is (hs : SeqAt.shaped (plcD f) = true) (hv : PlcV K H2 v f) (s : Same H2 H3) (hu : PlcV K H3 u f) (q : Q (.bl false) H3) : rNeD K v u H3 Q := by
  refine ⟨_, _, (hv.same s).data, hu.data, hs, hs, ?_⟩
  rw [eqv_self hs]
  exact q
theorem eq_is (hs : SeqAt.shaped (plcD f) = true) (hv : PlcV K H2 v f) (s : Same H2 H3) (hu : PlcV K H3 u f) (q : Q (.bl true) H3) : rEqD K v u H3 Q := by
  refine ⟨_, _, (hv.same s).data, hu.data, hs, hs, ?_⟩
  rw [eqv_self hs]
  exact q
end
theorem txt_shaped (p k : Nat) : SeqAt.shaped (plcD (.text p k)) = true := by first | rfl | (simp [plcD, SeqAt.shaped, SeqAt.shapedAll])
theorem cutD {xs : List V} {k : Int} {m : Nat} (h : k = m) (hm : m ≤ xs.length) : cutV xs (some k) none = xs.drop m := by
  subst h
  unfold cutV
  rw [HT.sIx_nat, HT.sIx_none, Nat.min_eq_left hm]
  exact List.take_of_length_le (by rw [List.length_drop]; exact Nat.le_refl _)
theorem rowS {K : PySem.W.Frag} {H H' : Hp} {r a : Addr} (s : Same H H') (h : Row K H r a) : Row K H' r a := by
  obtain ⟨ns, i, g, l, h1, h2, h3, h4⟩ := h
  exact ⟨ns, i, g, l, s _ _ h1, s.seq h2, h3, h4⟩
theorem ne_of_row {K : PySem.W.Frag} {H : Hp} {r a p : Addr} (h : Row K H r a) (n : H p = none) : p ≠ r := by
  obtain ⟨ns, i, g, l, h1, _⟩ := h
  intro e
  rw [e, h1] at n
  cases n
theorem ite_int {n : Nat} {σ : L2.St} {H : Hp} {Q : VK} (h : Q (.int ((if n = 2 then 3 else 2 : Nat) : Int)) H) : if decide (n = 2) = true then tC (V.int 3) σ H Q else tC (V.int 2) σ H Q := by
  by_cases c : n = 2
  · rw [if_pos c] at h
    exact ite_yes (decide_eq_true c) h
  · rw [if_neg c] at h
    exact ite_no (decide_eq_false c) h
def spAre (K : PySem.W.Frag) : Sp := fun vs H Q _ => ∃ (r g a : Addr), vs = [.ref r, .ref g] ∧ Row K H r a ∧ H g = some (.lst (GOOD.map V.str)) ∧ g ≠ r ∧ ∀ H', SameBut r H H' → Row K H' r a → Q (.bl true) H'
section
variable {P : Program} {w : World} {K : PySem.W.Frag} {mg : Str → Option Value} {base : Heap}
theorem ok_are {f : Addr} {fd : FuncData} (F : Fun K "_law_are_later" "_law_are_later" sAre f fd) (dT : Def P w K mg base 1 "_law_taken" ["_law_row", "_law_many"] (spTaken K)) (dP : Def P w K mg base 10 "_law_place" ["_law_rows"] (spPl K)) : FnOk P w K mg base CX0 11 f fd ["_law_row", "_law_good"] (spAre K) := by
  refine F.ok scAre (fun vs H Q E h => ?_) (fun cdv A outer s H vs Q E hr h => ?_)
  · obtain ⟨r, g, a, rfl, _⟩ := h
    rfl
  · obtain ⟨r, g, a, rfl, R0, hg, ngr, k⟩ := h
    have nd := scAre.nd
    have r1 : Room 1 _ := hr.mono (by decide)
    have hu := hr.units
    refine ⟨_, pss_cons (ps_set (i := 2) nd rfl (Or.inl rfl) (pe_def dT r1 rfl (pa_cons (pv 0) (pa_cons pe_int pa_nil))))
      (pss_cons (ps_set (i := 3) nd rfl (Or.inl rfl) (pe_ix (ix_list : IxR _ (rIxL K)) (pe_lst (pa_cons pe_str (pa_cons pe_str (pa_cons pe_str (pa_cons pe_str pa_nil))))) (pv 2) (fun _ _ => rfl)))
      (pss_cons (ps_set (i := 4) nd rfl (Or.inl rfl) (pe_lst (pa_cons (pe_lst (pa_cons pe_str (pa_cons pe_str (pa_cons (pv 3) pa_nil)))) (pa_cons (pe_lst (pa_cons pe_str (pa_cons pe_str (pa_cons (pv 3) pa_nil)))) (pa_cons (pe_op op_cat (pe_slice sl_list (pv 1) (po_some pe_int) po_none) (pe_lst (pa_cons (pv 3) pa_nil))) pa_nil)))))
      (pss_cons (ps_expr (pe_bm PySem.F.plainAttrs_list PySem.F.slot_list_append PySem.F.type_list_append mt_append (pv 4) (pa_cons (pe_lst (pa_cons pe_str (pa_cons pe_str (pa_cons (pv 3) pa_nil)))) pa_nil)))
      (pss_cons (ps_if (pt_cmpR (op_neD hu) (pe_def dP hr rfl (pa_cons (pe_ix (ix_list : IxR _ (rIxL K)) (pv 4) (pv 2) (fun _ _ => rfl)) pa_nil)) (pe_tup (pa_cons (pe_ifExp (pt_cmpR op_eq (pv 2) pe_int (nomark _)) pe_int pe_int) (pa_cons pe_int pa_nil))) (nomark _)) (pss_one (ps_ret pe_bl)) pss_nil)
      (pss_cons (ps_set (i := 5) nd rfl (Or.inl rfl) (pe_ix (ix_list : IxR _ (rIxL K)) (pe_lst (pa_cons pe_str (pa_cons pe_str (pa_cons pe_str pa_nil)))) (pe_def dT r1 rfl (pa_cons (pv 0) (pa_cons pe_int pa_nil))) (fun _ _ => rfl)))
      (pss_one (ps_ret (pe_cmpR (op_eqD hu) (pe_def dP hr rfl (pa_cons (pe_op op_cat (pv 1) (pe_lst (pa_cons (pv 5) pa_nil))) pa_nil)) (pe_tup (pa_cons pe_int (pa_cons pe_int pa_nil))) (nomark _)))))))))  , ?_⟩
    refine ⟨_, rfl, r, 4, a, rfl, R0, by decide, by decide, fun v o va vb R1 => ?_⟩
    obtain ⟨n, rfl⟩ := Int.eq_ofNat_of_zero_le va
    have hn : n < 4 := by omega
    have b1 : SameBut r H (upd H r o) := sb_upd
    have g1 := b1 _ _ ngr hg
    generalize upd H r o = H1 at b1 R1 g1 ⊢
    refine ⟨(by show 4 ≤ sizeLine; decide), fun p0 n0 => ?_⟩
    have s0 := Same.upd_new (o := .lst (SOM.map V.str)) n0
    have ep : (HO.lst [V.str "needs lib 1", V.str "scripts clean", V.str "edition lib 9", V.str "first lib 2"]) = .lst (SOM.map V.str) := rfl
    rw [ep]
    have gS : (upd H1 p0 (.lst (SOM.map V.str))) p0 = some (.lst (SOM.map V.str)) := upd_same
    have R2 := rowS s0 R1
    have g2 := s0 _ _ g1
    have b2 := b1.trans (sb_of s0)
    generalize upd H1 p0 (.lst (SOM.map V.str)) = H2 at gS R2 g2 b2 ⊢
    clear s0 R1 g1 b1 n0 ep
    obtain ⟨z, hz⟩ : ∃ z, SOM[n]? = some z := ⟨_, List.getElem?_eq_getElem (show n < SOM.length from hn)⟩
    have ez : SOM.getD n "" = z := by rw [List.getD_eq_getElem?_getD, hz]; rfl
    refine ⟨_, rfl, p0, _, (n : Nat), .str z, rfl, rfl, SqL.of gS, atI_nat (by rw [List.getElem?_map, hz]; rfl), ?_⟩
    -- the four texts
    refine ⟨_, rfl, (by show 3 ≤ sizeLine; decide), fun a0 m0 => ?_⟩
    have s1 := Same.upd_new (o := .lst ([("edition db 2" : Str), "first lib 1", z].map V.str)) m0
    have k0 : (upd H2 a0 (.lst ([("edition db 2" : Str), "first lib 1", z].map V.str))) a0 = some (.lst ([("edition db 2" : Str), "first lib 1", z].map V.str)) := upd_same
    have e1 : (HO.lst [V.str "edition db 2", V.str "first lib 1", V.str z]) = .lst ([("edition db 2" : Str), "first lib 1", z].map V.str) := rfl
    rw [e1]
    generalize upd H2 a0 (.lst ([("edition db 2" : Str), "first lib 1", z].map V.str)) = H3 at s1 k0 ⊢
    refine ⟨_, rfl, (by show 3 ≤ sizeLine; decide), fun a1 m1 => ?_⟩
    have s2 := Same.upd_new (o := .lst ([("edition db 2" : Str), "against lib", z].map V.str)) m1
    have k1 : (upd H3 a1 (.lst ([("edition db 2" : Str), "against lib", z].map V.str))) a1 = some (.lst ([("edition db 2" : Str), "against lib", z].map V.str)) := upd_same
    have e2 : (HO.lst [V.str "edition db 2", V.str "against lib", V.str z]) = .lst ([("edition db 2" : Str), "against lib", z].map V.str) := rfl
    rw [e2]
    have k0' := s2 _ _ k0
    have S2 := s1.trans s2
    generalize upd H3 a1 (.lst ([("edition db 2" : Str), "against lib", z].map V.str)) = H4 at s2 S2 k1 k0' ⊢
    have g4 := S2 _ _ g2
    refine ⟨_, rfl, _, rfl, g, _, rfl, SqL.of g4, fun c1 mc1 => ?_⟩
    rw [cutD (k := 3) (m := 3) rfl (by show 3 ≤ 6; decide)]
    have s3 := Same.upd_new (o := .lst ((GOOD.map V.str).drop 3)) mc1
    have kc : (upd H4 c1 (.lst ((GOOD.map V.str).drop 3))) c1 = some (.lst ((GOOD.map V.str).drop 3)) := upd_same
    have S3 := S2.trans s3
    have k0'' := s3 _ _ k0'
    have k1' := s3 _ _ k1
    generalize upd H4 c1 (.lst ((GOOD.map V.str).drop 3)) = H5 at s3 S3 kc k0'' k1' ⊢
    refine ⟨_, rfl, (by show 1 ≤ sizeLine; decide), fun c2 mc2 => ?_⟩
    have s4 := Same.upd_new (o := .lst [.str z]) mc2
    have kc2 : (upd H5 c2 (.lst [.str z])) c2 = some (.lst [.str z]) := upd_same
    have S4 := S3.trans s4
    have k0a := s4 _ _ k0''
    have k1a := s4 _ _ k1'
    have kca := s4 _ _ kc
    generalize upd H5 c2 (.lst [.str z]) = H6 at s4 S4 kc2 k0a k1a kca ⊢
    refine ⟨c1, c2, _, _, rfl, rfl, kca, kc2, (by show 4 ≤ sizeLine; decide), fun a2 m2 => ?_⟩
    have e3 : (GOOD.map V.str).drop 3 ++ [V.str z] = (GOOD.drop 3 ++ [z]).map V.str := rfl
    rw [e3]
    have s5 := Same.upd_new (o := .lst ((GOOD.drop 3 ++ [z]).map V.str)) m2
    have k2 : (upd H6 a2 (.lst ((GOOD.drop 3 ++ [z]).map V.str))) a2 = some (.lst ((GOOD.drop 3 ++ [z]).map V.str)) := upd_same
    have S5 := S4.trans s5
    have k0b := s5 _ _ k0a
    have k1b := s5 _ _ k1a
    generalize upd H6 a2 (.lst ((GOOD.drop 3 ++ [z]).map V.str)) = H7 at s5 S5 k2 k0b k1b ⊢
    refine ⟨(by show 3 ≤ sizeLine; decide), fun pr mpr => ?_⟩
    have s6 := Same.upd_new (o := .lst [.ref a0, .ref a1, .ref a2]) mpr
    have kr : (upd H7 pr (.lst [.ref a0, .ref a1, .ref a2])) pr = some (.lst [.ref a0, .ref a1, .ref a2]) := upd_same
    have S6 := S5.trans s6
    have k0c := s6 _ _ k0b
    have k1c := s6 _ _ k1b
    have k2c := s6 _ _ k2
    have nprr : pr ≠ r := ne_of_row (rowS S5 R2) mpr
    generalize upd H7 pr (.lst [.ref a0, .ref a1, .ref a2]) = H8 at s6 S6 kr k0c k1c k2c ⊢
    refine ⟨_, rfl, .inl ⟨rfl, _, SqL.of kr⟩, _, rfl, (by show 3 ≤ sizeLine; decide), fun a3 m3 => ?_⟩
    rw [e1]
    have s7 := Same.upd_new (o := .lst ([("edition db 2" : Str), "first lib 1", z].map V.str)) m3
    have k3 : (upd H8 a3 (.lst ([("edition db 2" : Str), "first lib 1", z].map V.str))) a3 = some (.lst ([("edition db 2" : Str), "first lib 1", z].map V.str)) := upd_same
    have S7 := S6.trans s7
    have krd := s7 _ _ kr
    have k0d := s7 _ _ k0c
    have k1d := s7 _ _ k1c
    have k2d := s7 _ _ k2c
    generalize upd H8 a3 (.lst ([("edition db 2" : Str), "first lib 1", z].map V.str)) = H9 at s7 S7 k3 krd k0d k1d k2d ⊢
    have R9 := rowS S7 R2
    have g9 := S7 _ _ g2
    have b9 := b2.trans (sb_of S7)
    refine ⟨pr, _, .ref a3, rfl, rfl, krd, (by show 3 < sizeLine; decide), ?_⟩
    have nn : ∀ {b : Addr} {xs : List Str} , H9 b = some (.lst (xs.map V.str)) → xs ≠ [] → b ≠ pr := fun {b xs} q ne e => by
      rw [e, krd] at q
      injection q with q
      injection q with q
      cases xs with
      | nil => exact ne rfl
      | cons x xs =>
        rw [List.map_cons] at q
        injection q with q _
        cases q
    have bA : SameBut r H (upd H9 pr (.lst ([.ref a0, .ref a1, .ref a2] ++ [.ref a3]))) := fun b o' nb q => by
      rw [upd_ne (fun e : b = pr => by
        have : H7 pr = some o' := by
          have q2 := b2 b o' nb q
          rw [← e]
          exact S5 _ _ q2
        rw [mpr] at this
        cases this)]
      exact b9 b o' nb q
    have RA : Row K (upd H9 pr (.lst ([.ref a0, .ref a1, .ref a2] ++ [.ref a3]))) r a := by
      obtain ⟨ns, i, gg, l, q1, q2, q3, q4⟩ := R9
      exact ⟨ns, i, gg, l, by rw [upd_ne (Ne.symm nprr)]; exact q1, Row.seq krd q2, q3, q4⟩
    have gA : (upd H9 pr (.lst ([.ref a0, .ref a1, .ref a2] ++ [.ref a3]))) g = some (.lst (GOOD.map V.str)) := by rw [upd_ne (nn g9 (by decide))]; exact g9
    have at_ : ∃ ak, ([.ref a0, .ref a1, .ref a2] ++ [.ref a3] : List V)[n]? = some (.ref ak) ∧ (upd H9 pr (.lst ([.ref a0, .ref a1, .ref a2] ++ [.ref a3]))) ak = some (.lst (((ROW4 z).getD n []).map V.str)) := by
      match n, hn with
      | 0, _ => exact ⟨a0, rfl, by rw [upd_ne (nn k0d (by simp))]; exact k0d⟩
      | 1, _ => exact ⟨a1, rfl, by rw [upd_ne (nn k1d (by simp))]; exact k1d⟩
      | 2, _ => exact ⟨a2, rfl, by rw [upd_ne (nn k2d (by simp))]; exact k2d⟩
      | 3, _ => exact ⟨a3, rfl, by rw [upd_ne (nn k3 (by simp))]; exact k3⟩
    have gP : (upd H9 pr (.lst ([.ref a0, .ref a1, .ref a2] ++ [.ref a3]))) pr = some (.lst ([.ref a0, .ref a1, .ref a2] ++ [.ref a3])) := upd_same
    generalize upd H9 pr (.lst ([.ref a0, .ref a1, .ref a2] ++ [.ref a3])) = HA at bA RA gA at_ gP ⊢
    obtain ⟨ak, hak, hkl⟩ := at_
    clear nn k0d k1d k2d k3 krd s7 S7 R9 g9 b9 H9
    have fa := f_are n hn
    rw [ez] at fa
    refine ⟨_, rfl, _, rfl, pr, _, (n : Nat), .ref ak, rfl, rfl, SqL.of gP, atI_nat hak, ak, _, rfl, SqL.of hkl, fa.2, fun HB v sB hv => ?_⟩
    rw [fa.1] at hv
    have RB := rowS sB RA
    have gB := sB _ _ gA
    have bB := bA.trans (sb_of sB)
    refine ⟨_, rfl, rfl, _, rfl, ?_⟩
    have e2 : decide (V.int ((n : Nat) : Int) = V.int 2) = decide (n = 2) := by
      rw [dec_int]
      exact decide_eq_decide.mpr ⟨fun q => by omega, fun q => by omega⟩
    rw [e2]
    refine ite_int ?_
    refine ⟨two_le, fun c1 nc1 => ?_⟩
    have u1s := Same.upd_new (o := .tup [.int ((if n = 2 then 3 else 2 : Nat) : Int), .int 0]) nc1
    refine ne_is (txt_shaped _ _) hv u1s ⟨c1, rfl, SqT.of upd_same⟩ ⟨_, rfl, iteF ?_⟩
    have RC := rowS u1s RB
    have gC := u1s _ _ gB
    have bC := bB.trans (sb_of u1s)
    generalize upd HB c1 (.tup [.int ((if n = 2 then 3 else 2 : Nat) : Int), .int 0]) = HC at RC gC bC ⊢
    clear u1s RB gB bB hv sB RA gA bA hkl gP fa
    refine ⟨(by show 3 ≤ sizeLine; decide), fun p1 n1 => ?_⟩
    have s8 := Same.upd_new (o := .lst (LTE.map V.str)) n1
    have e8 : (HO.lst [V.str "state lib half 1 0", V.str "state app half 1 0", V.str "state  half 1 0"]) = .lst (LTE.map V.str) := rfl
    rw [e8]
    have gT : (upd HC p1 (.lst (LTE.map V.str))) p1 = some (.lst (LTE.map V.str)) := upd_same
    have RD := rowS s8 RC
    have gD := s8 _ _ gC
    have bD := bC.trans (sb_of s8)
    have np1 : p1 ≠ r := ne_of_row RC n1
    generalize upd HC p1 (.lst (LTE.map V.str)) = HD at gT RD gD bD ⊢
    refine ⟨_, rfl, r, 3, a, rfl, RD, by decide, by decide, fun v o va vb RE => ?_⟩
    obtain ⟨m, rfl⟩ := Int.eq_ofNat_of_zero_le va
    have hm : m < 3 := by omega
    have bE : SameBut r HD (upd HD r o) := sb_upd
    have gE := bE _ _ ngr gD
    have gTE := bE _ _ np1 gT
    have bF := bD.trans bE
    generalize upd HD r o = HE at RE gE gTE bF ⊢
    obtain ⟨y, hy⟩ : ∃ y, LTE[m]? = some y := ⟨_, List.getElem?_eq_getElem (show m < LTE.length from hm)⟩
    have fl := f_late y (List.mem_of_getElem? hy)
    refine ⟨p1, _, (m : Nat), .str y, rfl, rfl, SqL.of gTE, atI_nat (by rw [List.getElem?_map, hy]; rfl), ?_⟩
    refine ⟨_, rfl, _, rfl, (by show 1 ≤ sizeLine; decide), fun c2 nc2 => ?_⟩
    have s9 := Same.upd_new (o := .lst [.str y]) nc2
    have k2 : (upd HE c2 (.lst [.str y])) c2 = some (.lst [.str y]) := upd_same
    have gF := s9 _ _ gE
    have RF := rowS s9 RE
    have bG := bF.trans (sb_of s9)
    generalize upd HE c2 (.lst [.str y]) = HF at k2 gF RF bG ⊢
    refine ⟨g, c2, _, _, rfl, rfl, gF, k2, (by show 7 ≤ sizeLine; decide), fun b5 nb5 => ?_⟩
    have e5 : GOOD.map V.str ++ [V.str y] = (GOOD ++ [y]).map V.str := rfl
    rw [e5]
    have s10 := Same.upd_new (o := .lst ((GOOD ++ [y]).map V.str)) nb5
    refine ⟨b5, _, rfl, SqL.of upd_same, fl.2, fun HG v2 sG hv2 => ?_⟩
    rw [fl.1] at hv2
    have RG := rowS (s10.trans sG) RF
    have bH := bG.trans (sb_of (s10.trans sG))
    refine ⟨two_le, fun c3 nc3 => ?_⟩
    have u3s := Same.upd_new (o := .tup [.int 6, .int 1]) nc3
    refine eq_is (txt_shaped _ _) hv2 u3s ⟨c3, rfl, SqT.of upd_same⟩ ?_
    exact k _ (bH.trans (sb_of u3s)) (rowS u3s RG)
end
end Half

namespace Half
open PySem PySem.Spec PyProof.Rows L2
/-! ### the law: a turn -/
abbrev sLaw : Stmt := top 60
abbrev LawN : List Str := ["_law_script", "_law_row", "_law_good", "_law_first", "_law_later", "_law_turn", "_law_line", "_law_word", "_law_names", "_law_letter"]
theorem scLaw : FnScope LawN ["_law_script"] (defScope sLaw) := ⟨rfl, rfl, rfl, by decide +kernel, rfl, by decide +kernel, by decide +kernel⟩
def nthS (ss : List Stmt) (i : Nat) : Stmt := ss.getD i (.Pass ⟨0, 0, 0, 0⟩)
def forBody : Stmt → List Stmt
  | .For (body := b) .. => b
  | _ => []
abbrev tBody : List Stmt := forBody (nthS (defBody sLaw) 12)
/-- pairs of a row and a number -/
def Prs (K : PySem.W.Frag) (H : Hp) (l : Addr) (ps : List (Str × Nat)) : Prop := ∃ ts : List Addr, H l = some (.lst (ts.map V.ref)) ∧ Paired (fun t (p : Str × Nat) => SqT K H t [.str p.1, .int (p.2 : Nat)]) ts ps
structure Wd (K : PySem.W.Frag) (H : Hp) (r a g fl ll : Addr) : Prop where
  row : Row K H r a
  good : H g = some (.lst (GOOD.map V.str))
  fst : Prs K H fl FST
  ltr : Prs K H ll LTR
  ng : g ≠ r
  nf : fl ≠ r
  nl : ll ≠ r
section
variable {K : PySem.W.Frag} {H H' : Hp} {r a g fl ll l : Addr} {ps : List (Str × Nat)}
theorem sqtR (R : Row K H r a) (sb : SameBut r H H') {t : Addr} {xs : List V} (h : SqT K H t xs) : SqT K H' t xs := by
  obtain ⟨ns, i, g, l, h1, h2, h3, h4⟩ := R
  rcases h with (h | ⟨q, h⟩) | h
  · exact .inl (.inl (sb _ _ (fun e => by rw [e, h1] at h; cases h) h))
  · exact .inl (.inr ⟨q, sb _ _ (fun e => by rw [e, h1] at h; cases h) h⟩)
  · exact .inr h
theorem Prs.sb (R : Row K H r a) (sb : SameBut r H H') (n : l ≠ r) (h : Prs K H l ps) : Prs K H' l ps := by
  obtain ⟨ts, h1, h2⟩ := h
  exact ⟨ts, sb _ _ n h1, Paired.mapP h2 fun _ _ q => sqtR R sb q⟩
theorem Wd.sb (h : Wd K H r a g fl ll) (s : SameBut r H H') (R : Row K H' r a) : Wd K H' r a g fl ll :=
  ⟨R, s _ _ h.ng h.good, h.fst.sb h.row s h.nf, h.ltr.sb h.row s h.nl, h.ng, h.nf, h.nl⟩
theorem Wd.same (h : Wd K H r a g fl ll) (s : Same H H') : Wd K H' r a g fl ll := h.sb (sb_of s) (rowS s h.row)
end
structure LawT (P : Program) (w : World) (K : PySem.W.Frag) (mg : Str → Option Value) (base : Heap) : Prop where
  gL : mg "len" = none
  gR : mg "range" = none
  dT : Def P w K mg base 1 "_law_taken" ["_law_row", "_law_many"] (spTaken K)
  dP : Def P w K mg base 10 "_law_place" ["_law_rows"] (spPl K)
  dA : Def P w K mg base 11 "_law_are_later" ["_law_row", "_law_good"] (spAre K)
section
variable {P : Program} {w : World} {K : PySem.W.Frag} {mg : Str → Option Value} {base : Heap}
theorem law_turn {f : Addr} {cdv : Value} {A : Around} {outer : List Env} {sh : Shared} {H0 : Hp} {E : XK} (L : LawT P w K mg base) (hr : Room 11 (A.deeper (envOfC "law" (defScope sLaw) sh.heap.objs.size f cdv))) (nd : LawN.Nodup) :
    ∃ t, PSs (cxOf CX0 P w K mg base LawN "law" (defScope sLaw) f cdv A outer sh H0 E).nox tBody t ∧ ∀ (D : Ends) (H : Hp) (r a g fl ll : Addr) (x0 x5 x6 x7 : Option V), Wd K H r a g fl ll →
      (∀ H' y6 y7, Wd K H' r a g fl ll → D.nx [x0, some (.ref r), some (.ref g), some (.ref fl), some (.ref ll), x5, y6, y7, none, none] H') → t D [x0, some (.ref r), some (.ref g), some (.ref fl), some (.ref ll), x5, x6, x7, none, none] H := by
  have r1 : Room 1 _ := hr.mono (by decide)
  have r10 : Room 10 _ := hr.mono (by decide)
  have hu := hr.units
  refine ⟨_, pss_cons (ps_asg (pe_ix (ix_list : IxR _ (rIxL K)) (pv 3) (pe_def L.dT r1 rfl (pa_cons (pv 1) (pa_cons (pe_callB call_len_seq (by rfl) L.gL PySem.boot_len (pa_cons (pv 3) pa_nil)) pa_nil))) (fun _ _ => rfl)) (pg_tup rfl (pgs_cons (pg_name (i := 6) nd rfl (Or.inl rfl)) (pgs_cons (pg_name (i := 7) nd rfl (Or.inl rfl)) pgs_nil))))
    (pss_cons (ps_if (pt_cmpR (op_neD hu) (pe_def L.dP r10 rfl (pa_cons (pe_op op_cat (pe_lst (pa_cons (pv 6) pa_nil)) (pe_slice sl_list (pv 2) (po_some pe_int) po_none)) pa_nil)) (pe_tup (pa_cons pe_int (pa_cons (pv 7) pa_nil))) (nomark _)) (pss_one (ps_ret pe_bl)) pss_nil)
    (pss_cons (ps_asg (pe_ix (ix_list : IxR _ (rIxL K)) (pv 4) (pe_def L.dT r1 rfl (pa_cons (pv 1) (pa_cons (pe_callB call_len_seq (by rfl) L.gL PySem.boot_len (pa_cons (pv 4) pa_nil)) pa_nil))) (fun _ _ => rfl)) (pg_tup rfl (pgs_cons (pg_name (i := 6) nd rfl (Or.inl rfl)) (pgs_cons (pg_name (i := 7) nd rfl (Or.inl rfl)) pgs_nil))))
    (pss_cons (ps_if (pt_cmpR (op_neD hu) (pe_def L.dP r10 rfl (pa_cons (pe_op op_cat (pe_lst (pa_cons (pe_ix (ix_list : IxR _ (rIxL K)) (pv 2) pe_int (fun _ _ => rfl)) (pa_cons (pv 6) pa_nil))) (pe_slice sl_list (pv 2) (po_some pe_int) po_none)) pa_nil)) (pe_tup (pa_cons pe_int (pa_cons (pv 7) pa_nil))) (nomark _)) (pss_one (ps_ret pe_bl)) pss_nil)
    (pss_one (ps_if (pt_not (pt_val (pe_def L.dA hr rfl (pa_cons (pv 1) (pa_cons (pv 2) pa_nil))))) (pss_one (ps_ret pe_bl)) pss_nil))))), ?_⟩
  intro D H r a g fl ll x0 x5 x6 x7 W0 k
  -- a first row
  obtain ⟨ts, gt, pT⟩ := id W0.fst
  have lt : ts.length = 10 := pT.length
  have lm : ((ts.map V.ref).length : Int) = 10 := by rw [List.length_map, lt]; rfl
  refine ⟨_, rfl, _, rfl, _, rfl, fl, _, rfl, .inl (SqL.of gt), r, _, a, rfl, W0.row, (by rw [lm]; decide), (by rw [lm]; decide), fun v o va vb R1 => ?_⟩
  rw [lm] at vb
  obtain ⟨n, rfl⟩ := Int.eq_ofNat_of_zero_le va
  have hn : n < 10 := by omega
  have W1 := W0.sb sb_upd R1
  have gt1 : (upd H r o) fl = some (.lst (ts.map V.ref)) := by rw [upd_ne W0.nf]; exact gt
  have pT1 : Paired (fun t (p : Str × Nat) => SqT K (upd H r o) t [.str p.1, .int (p.2 : Nat)]) ts FST := Paired.mapP pT fun _ _ q => sqtR W0.row sb_upd q
  generalize upd H r o = H1 at W1 gt1 pT1 ⊢
  obtain ⟨t, ht⟩ : ∃ t, ts[n]? = some t := ⟨_, List.getElem?_eq_getElem (by omega)⟩
  obtain ⟨⟨z, j⟩, hp, hq⟩ := paired_get pT1 ht
  have hf := f_first _ (List.mem_of_getElem? hp)
  refine ⟨fl, _, (n : Nat), .ref t, rfl, rfl, SqL.of gt1, atI_nat (by rw [List.getElem?_map, ht]; rfl), t, _, rfl, hq, rfl, _, _, rfl, _, _, rfl, rfl, ?_⟩
  clear gt pT gt1 pT1 hq R1 lm lt W0
  refine ⟨_, rfl, (by show 1 ≤ sizeLine; decide), fun b1 nb1 => ?_⟩
  have t1 := Same.upd_new (o := .lst [.str z]) nb1
  have h1 : (upd H1 b1 (.lst [.str z])) b1 = some (.lst [.str z]) := upd_same
  have W2 := W1.same t1
  generalize upd H1 b1 (.lst [.str z]) = H2 at h1 W2 ⊢
  clear t1 W1 nb1
  refine ⟨_, rfl, _, rfl, g, _, rfl, SqL.of W2.good, fun b2 nb2 => ?_⟩
  rw [cutD (k := 1) (m := 1) rfl (by show 1 ≤ 6; decide)]
  have t2 := Same.upd_new (o := .lst ((GOOD.map V.str).drop 1)) nb2
  have h2 : (upd H2 b2 (.lst ((GOOD.map V.str).drop 1))) b2 = some (.lst ((GOOD.map V.str).drop 1)) := upd_same
  have h1' := t2 _ _ h1
  have W3 := W2.same t2
  generalize upd H2 b2 (.lst ((GOOD.map V.str).drop 1)) = H3 at h2 h1' W3 ⊢
  clear t2 W2 nb2 h1
  refine ⟨b1, b2, _, _, rfl, rfl, h1', h2, (by show 6 ≤ sizeLine; decide), fun b3 nb3 => ?_⟩
  have e3 : [V.str z] ++ (GOOD.map V.str).drop 1 = ([z] ++ GOOD.drop 1).map V.str := rfl
  rw [e3]
  have t3 := Same.upd_new (o := .lst (([z] ++ GOOD.drop 1).map V.str)) nb3
  refine ⟨b3, _, rfl, SqL.of upd_same, hf.2, fun H4 u s4 hu1 => ?_⟩
  rw [hf.1] at hu1
  have W4 := W3.same (t3.trans s4)
  refine ⟨_, rfl, two_le, fun c1 nc1 => ?_⟩
  have u1s := Same.upd_new (o := .tup [.int 0, .int (j : Nat)]) nc1
  refine ne_is (txt_shaped _ _) hu1 u1s ⟨c1, rfl, SqT.of upd_same⟩ ⟨_, rfl, iteF ?_⟩
  have W5 := W4.same u1s
  generalize upd H4 c1 (.tup [.int 0, .int (j : Nat)]) = H5 at W5 ⊢
  clear u1s hu1 s4 t3 W4 W3 h1' h2 nb3 nc1
  -- a later row
  obtain ⟨ts, gt, pT⟩ := id W5.ltr
  have lt : ts.length = 18 := pT.length
  have lm : ((ts.map V.ref).length : Int) = 18 := by rw [List.length_map, lt]; rfl
  refine ⟨_, rfl, _, rfl, _, rfl, ll, _, rfl, .inl (SqL.of gt), r, _, a, rfl, W5.row, (by rw [lm]; decide), (by rw [lm]; decide), fun v o va vb R1 => ?_⟩
  rw [lm] at vb
  obtain ⟨n2, rfl⟩ := Int.eq_ofNat_of_zero_le va
  have hn2 : n2 < 18 := by omega
  have W1 := W5.sb sb_upd R1
  have gt1 : (upd H5 r o) ll = some (.lst (ts.map V.ref)) := by rw [upd_ne W5.nl]; exact gt
  have pT1 : Paired (fun t (p : Str × Nat) => SqT K (upd H5 r o) t [.str p.1, .int (p.2 : Nat)]) ts LTR := Paired.mapP pT fun _ _ q => sqtR W5.row sb_upd q
  generalize upd H5 r o = H6 at W1 gt1 pT1 ⊢
  obtain ⟨t, ht⟩ : ∃ t, ts[n2]? = some t := ⟨_, List.getElem?_eq_getElem (by omega)⟩
  obtain ⟨⟨z2, j2⟩, hp2, hq⟩ := paired_get pT1 ht
  have hf2 := f_later _ (List.mem_of_getElem? hp2)
  refine ⟨ll, _, (n2 : Nat), .ref t, rfl, rfl, SqL.of gt1, atI_nat (by rw [List.getElem?_map, ht]; rfl), t, _, rfl, hq, rfl, _, _, rfl, _, _, rfl, rfl, ?_⟩
  clear gt pT gt1 pT1 hq R1 lm lt W5
  have at0 : atI (GOOD.map V.str) 0 = some (.str "edition db 2") := atI_nat (j := 0) rfl
  refine ⟨_, rfl, g, _, 0, _, rfl, rfl, SqL.of W1.good, at0, _, rfl, (by show 2 ≤ sizeLine; decide), fun b1 nb1 => ?_⟩
  have t1 := Same.upd_new (o := .lst [.str "edition db 2", .str z2]) nb1
  have h1 : (upd H6 b1 (.lst [.str "edition db 2", .str z2])) b1 = some (.lst [.str "edition db 2", .str z2]) := upd_same
  have W2 := W1.same t1
  generalize upd H6 b1 (.lst [.str "edition db 2", .str z2]) = H7 at h1 W2 ⊢
  clear t1 W1 nb1
  refine ⟨_, rfl, _, rfl, g, _, rfl, SqL.of W2.good, fun b2 nb2 => ?_⟩
  rw [cutD (k := 2) (m := 2) rfl (by show 2 ≤ 6; decide)]
  have t2 := Same.upd_new (o := .lst ((GOOD.map V.str).drop 2)) nb2
  have h2 : (upd H7 b2 (.lst ((GOOD.map V.str).drop 2))) b2 = some (.lst ((GOOD.map V.str).drop 2)) := upd_same
  have h1' := t2 _ _ h1
  have W3 := W2.same t2
  generalize upd H7 b2 (.lst ((GOOD.map V.str).drop 2)) = H8 at h2 h1' W3 ⊢
  clear t2 W2 nb2 h1
  refine ⟨b1, b2, _, _, rfl, rfl, h1', h2, (by show 6 ≤ sizeLine; decide), fun b3 nb3 => ?_⟩
  have e4 : [V.str "edition db 2", V.str z2] ++ (GOOD.map V.str).drop 2 = ([("edition db 2" : Str), z2] ++ GOOD.drop 2).map V.str := rfl
  rw [e4]
  have t3 := Same.upd_new (o := .lst (([("edition db 2" : Str), z2] ++ GOOD.drop 2).map V.str)) nb3
  refine ⟨b3, _, rfl, SqL.of upd_same, hf2.2, fun H9 u s4 hu1 => ?_⟩
  rw [hf2.1] at hu1
  have W4 := W3.same (t3.trans s4)
  refine ⟨_, rfl, two_le, fun c1 nc1 => ?_⟩
  have u1s := Same.upd_new (o := .tup [.int 1, .int (j2 : Nat)]) nc1
  refine ne_is (txt_shaped _ _) hu1 u1s ⟨c1, rfl, SqT.of upd_same⟩ ⟨_, rfl, iteF ?_⟩
  have W5 := W4.same u1s
  generalize upd H9 c1 (.tup [.int 1, .int (j2 : Nat)]) = HA at W5 ⊢
  clear u1s hu1 s4 t3 W4 W3 h1' h2 nb3 nc1
  refine ⟨_, rfl, _, rfl, r, g, a, rfl, W5.row, W5.good, W5.ng, fun HB sB RB => ⟨_, rfl, iteF ?_⟩⟩
  exact k HB _ _ (W5.sb sB RB)
end
end Half

namespace Half
open PySem PySem.Spec PyProof.Rows L2
/-! ### the law -/
theorem pl_shaped : SeqAt.shaped (plcD (.ed "needs")) = true ∧ SeqAt.shaped (plcD (.ed "version")) = true ∧ SeqAt.shaped (plcD (.sto 4)) = true ∧ SeqAt.shaped (plcD (.sys "lib")) = true ∧ SeqAt.shaped (plcD (.sys "db")) = true := by decide +kernel
theorem paired_appY {α β : Type} {R : α → β → Prop} : ∀ {xs : List α} {ys : List β} {xs' : List α} {ys' : List β}, Paired R xs ys → Paired R xs' ys' → Paired R (xs ++ xs') (ys ++ ys')
  | _, _, _, _, .nil, b => b
  | _, _, _, _, .cons a t, b => .cons a (paired_appY t b)
def spLaw (K : PySem.W.Frag) : Sp := fun vs H Q _ => ∃ (a : Addr) (ns : List Int), vs = [.ref a] ∧ SqL K H a (ns.map V.int) ∧ ns.length ≤ 63 ∧ ∀ H', Q (.bl true) H'
section
variable {P : Program} {w : World} {K : PySem.W.Frag} {mg : Str → Option Value} {base : Heap}
/-- place([..]) is what is due -/
theorem law_end {f : Addr} {cdv : Value} {A : Around} {outer : List Env} {sh : Shared} {H0 : Hp} {Q0 : VK} {E : XK} (L : LawT P w K mg base) (hr : Room 11 (A.deeper (envOfC "law" (defScope sLaw) sh.heap.objs.size f cdv))) (nd : LawN.Nodup) :
    ∃ t, PSs (cxOf CX0 P w K mg base LawN "law" (defScope sLaw) f cdv A outer sh H0 E).nox ((defBody sLaw).drop 13) t ∧ ∀ (D : Ends) (H : Hp) (x0 x1 x2 x3 x4 x5 x6 x7 : Option V),
      (∀ H', D.rt (.bl true) H') → t D [x0, x1, x2, x3, x4, x5, x6, x7, none, none] H := by
  have r10 : Room 10 _ := hr.mono (by decide)
  have hu := hr.units
  refine ⟨_, pss_cons (ps_if (pt_cmpR (op_neD hu) (pe_def L.dP r10 rfl (pa_cons (pe_lst (pa_cons pe_str (pa_cons pe_str pa_nil))) pa_nil)) (pe_tup (pa_cons pe_str (pa_cons pe_str pa_nil))) (nomark _)) (pss_one (ps_ret pe_bl)) pss_nil)
    (pss_cons (ps_if (pt_cmpR (op_neD hu) (pe_def L.dP r10 rfl (pa_cons (pe_lst (pa_cons pe_str pa_nil)) pa_nil)) (pe_tup (pa_cons pe_str (pa_cons pe_str pa_nil))) (nomark _)) (pss_one (ps_ret pe_bl)) pss_nil)
    (pss_cons (ps_setLc (i := 8) (own := [("_law_letter", 9)]) (g := gName 9) (tt := tYes) rfl nd rfl rfl (sw_true rfl rfl rfl (by decide +kernel)) (pi_str pe_str) (blkOk_by (N := LawN) (sc := defScope sLaw) (by decide +kernel))
        (fun _ _ _ _ _ => pg_name (i := 9) nd rfl (Or.inl rfl)) (fun _ _ _ _ _ => pts_nil) (fun _ _ _ _ _ => pe_op op_add_str (pe_op op_add_str pe_str (pv 9)) pe_str))
    (pss_cons (ps_if (PW.pt (pw_or (pt_cmpR (op_neD hu) (pe_def L.dP r10 rfl (pa_cons (pv 8) pa_nil)) (pe_tup (pa_cons pe_str (pa_cons pe_int pa_nil))) (nomark _)) (pw_or1 (pt_cmpR (op_neD hu) (pe_def L.dP r10 rfl (pa_cons (pe_lst (pa_cons pe_str (pa_cons pe_str pa_nil))) pa_nil)) (pe_tup (pa_cons pe_str (pa_cons pe_str pa_nil))) (nomark _))))) (pss_one (ps_ret pe_bl)) pss_nil)
    (pss_one (ps_ret (pe_and (pe_cmpR (op_eqD hu) (pe_def L.dP r10 rfl (pa_cons (pe_lst (pa_cons pe_str (pa_cons pe_str pa_nil))) pa_nil)) (pe_tup (pa_cons pe_str (pa_cons pe_str pa_nil))) (nomark _))
      (pe_one (pe_cmpR (op_eqD hu) (pe_def L.dP r10 rfl (pa_cons (pe_lst (pa_cons pe_str pa_nil)) pa_nil)) (pe_tup (pa_cons pe_int (pa_cons pe_int pa_nil))) (nomark _))))))))), ?_⟩
  obtain ⟨p1, p2, p3, p4, p5⟩ := pl_shaped
  intro D H x0 x1 x2 x3 x4 x5 x6 x7 k
  refine ⟨(by show 2 ≤ sizeLine; decide), fun b1 nb1 => ?_⟩
  refine ⟨b1, ["edition db 2", "needs db 1"], rfl, SqL.of upd_same, f_n1.2, fun H1 u1 s1 hu1 => ?_⟩
  rw [f_n1.1] at hu1
  refine ⟨two_le, fun c1 nc1 => ne_is p1 hu1 (Same.upd_new nc1) ⟨c1, rfl, SqT.of upd_same⟩ ⟨_, rfl, iteF ?_⟩⟩
  generalize upd H1 c1 _ = H2
  refine ⟨(by show 1 ≤ sizeLine; decide), fun b2 nb2 => ?_⟩
  refine ⟨b2, ["edition db 0"], rfl, SqL.of upd_same, f_n2.2, fun H3 u2 s2 hu2 => ?_⟩
  rw [f_n2.1] at hu2
  refine ⟨two_le, fun c2 nc2 => ne_is p2 hu2 (Same.upd_new nc2) ⟨c2, rfl, SqT.of upd_same⟩ ⟨_, rfl, iteF ?_⟩⟩
  generalize upd H3 c2 _ = H4
  refine ⟨_, rfl, fun Dl hD => lc_it walk_str (fun i H' => H' Dl = some (.lst ((NMS.take i).map V.str))) upd_same (fun _ _ _ _ => trivial) ?_ ?_⟩
  · rintro i x H5 H6 hi gD ⟨rfl, c, hc, rfl⟩
    have at_ : ∃ y, NMS[i]? = some y ∧ (("edition " : Str) ++ (⟨#[c]⟩ : Str)) ++ (" 1" : Str) = y := by
      have hi5 : i < 5 := hi
      match i, hi5 with
      | 0, _ => cases hc; exact ⟨_, rfl, by decide⟩
      | 1, _ => cases hc; exact ⟨_, rfl, by decide⟩
      | 2, _ => cases hc; exact ⟨_, rfl, by decide⟩
      | 3, _ => cases hc; exact ⟨_, rfl, by decide⟩
      | 4, _ => cases hc; exact ⟨_, rfl, by decide⟩
    obtain ⟨y, hy, ey⟩ := at_
    have e0 : (⟨#[c]⟩ : Str).length = 1 := rfl
    have e1 : ("edition " : Str).length = 8 := by decide
    have e2 : (" 1" : Str).length = 2 := by decide
    refine ⟨rfl, _, rfl, _, _, rfl, rfl, by rw [e0, e1, sizeLine_eq]; decide, _, _, rfl, rfl, by rw [app_len, e0, e1, e2, sizeLine_eq]; decide, ?_⟩
    rw [ey]
    have l5 : NMS.length = 5 := rfl
    refine ⟨_, gD, by rw [List.length_map, List.length_take, sizeLine_eq]; omega, ?_⟩
    rw [upd_same, List.take_add_one, hy, List.map_append]
    rfl
  · intro H5 gD
    have gD : H5 Dl = some (.lst (NMS.map V.str)) := gD
    refine ⟨_, rfl, Dl, NMS, rfl, SqL.of gD, f_n3.2, fun H6 u3 s3 hu3 => ?_⟩
    rw [f_n3.1] at hu3
    refine ⟨two_le, fun c3 nc3 => ne_is p3 hu3 (Same.upd_new nc3) ⟨c3, rfl, SqT.of upd_same⟩ ⟨_, rfl, iteF ?_⟩⟩
    generalize upd H6 c3 _ = H7
    refine ⟨(by show 2 ≤ sizeLine; decide), fun b4 nb4 => ?_⟩
    refine ⟨b4, ["edition db 1", "state lib half 1 0"], rfl, SqL.of upd_same, f_n4.2, fun H8 u4 s4 hu4 => ?_⟩
    rw [f_n4.1] at hu4
    refine ⟨two_le, fun c4 nc4 => ne_is p4 hu4 (Same.upd_new nc4) ⟨c4, rfl, SqT.of upd_same⟩ ⟨_, rfl, iteF ?_⟩⟩
    generalize upd H8 c4 _ = H9
    refine ⟨(by show 2 ≤ sizeLine; decide), fun b5 nb5 => ?_⟩
    refine ⟨b5, ["edition db 1", "state db ready 1 0"], rfl, SqL.of upd_same, f_n5.2, fun HA u5 s5 hu5 => ?_⟩
    rw [f_n5.1] at hu5
    refine ⟨two_le, fun c5 nc5 => eq_is p5 hu5 (Same.upd_new nc5) ⟨c5, rfl, SqT.of upd_same⟩ ⟨_, rfl, iteT ?_⟩⟩
    generalize upd HA c5 _ = HB
    refine ⟨(by show 1 ≤ sizeLine; decide), fun b6 nb6 => ?_⟩
    refine ⟨b6, [""], rfl, SqL.of upd_same, f_n6.2, fun HC u6 s6 hu6 => ?_⟩
    rw [f_n6.1] at hu6
    refine ⟨two_le, fun c6 nc6 => eq_is (txt_shaped _ _) hu6 (Same.upd_new nc6) ⟨c6, rfl, SqT.of upd_same⟩ ?_⟩
    exact k _
/-- pairs, written -/
def tPrs : List (Str × Nat) → TA
  | [] => tNil
  | p :: ps => tCons (tTup (tCons (tC (.str p.1)) (tCons (tC (.int (p.2 : Nat))) tNil))) (tPrs ps)
abbrev PrT (K : PySem.W.Frag) (H : Hp) : List Addr → List (Str × Nat) → Prop := Paired fun t (p : Str × Nat) => SqT K H t [.str p.1, .int (p.2 : Nat)]
theorem Prs.same {H H' : Hp} {l : Addr} {ps : List (Str × Nat)} (s : Same H H') (h : Prs K H l ps) : Prs K H' l ps := by
  obtain ⟨ts, h1, h2⟩ := h
  exact ⟨ts, s _ _ h1, Paired.mapP h2 fun _ _ q => s.sqT q⟩
theorem prs_read {σ : L2.St} : ∀ (ps : List (Str × Nat)) {H : Hp} {Q : List V → Hp → Prop}, (∀ H' ts, Same H H' → PrT K H' ts ps → Q (ts.map V.ref) H') → tPrs ps σ H Q
  | [], H, Q, k => k H [] (Same.refl _) .nil
  | p :: ps, H, Q, k => by
    refine ⟨two_le, fun t nt => ?_⟩
    have s1 := Same.upd_new (o := .tup [.str p.1, .int (p.2 : Nat)]) nt
    have g1 : SqT K (upd H t (.tup [.str p.1, .int (p.2 : Nat)])) t [.str p.1, .int (p.2 : Nat)] := SqT.of upd_same
    exact prs_read ps fun H' ts s2 hT => k H' (t :: ts) (s1.trans s2) (.cons (s2.sqT g1) hT)
theorem none_ofY {H H' : Hp} {D : Addr} (s : Same H H') (h : H' D = none) : H D = none := by
  cases c : H D with
  | none => rfl
  | some o => rw [s D o c] at h; cases h
theorem prsl_read {σ : L2.St} (ps : List (Str × Nat)) {H : Hp} {Q : VK} (few : ps.length ≤ 1000) (k : ∀ H' l, Same H H' → H l = none → Prs K H' l ps → Q (.ref l) H') : tLst (tPrs ps) σ H Q := by
  refine prs_read (K := K) ps fun H1 ts s1 hT => ?_
  have lt : ts.length = ps.length := hT.length
  refine ⟨by rw [List.length_map, lt, sizeLine_eq]; omega, fun l nl => ?_⟩
  have s2 := Same.upd_new (o := .lst (ts.map V.ref)) nl
  exact k _ l (s1.trans s2) (none_ofY s1 nl) ⟨ts, upd_same, Paired.mapP hT fun _ _ q => s2.sqT q⟩
theorem cat_read {σ : L2.St} {i : Nat} {l : Addr} {ps : List (Str × Nat)} (qs : List (Str × Nat)) {H : Hp} {Q : VK} (hv : σ[i]? = some (some (.ref l))) (hP : Prs K H l ps) (few : ps.length + qs.length ≤ 1000) (k : ∀ H' p, Same H H' → H p = none → Prs K H' p (ps ++ qs) → Q (.ref p) H') :
    tOp rCat (tVar i) (tLst (tPrs qs)) σ H Q := by
  refine ⟨_, hv, ?_⟩
  refine prsl_read (K := K) qs (by omega) fun H1 l2 s1 n1 hQ => ?_
  obtain ⟨ts, h1, h2⟩ := hP.same s1
  obtain ⟨us, h3, h4⟩ := hQ
  have lt : ts.length = ps.length := h2.length
  have lu : us.length = qs.length := h4.length
  refine ⟨l, l2, _, _, rfl, rfl, h1, h3, by rw [List.length_map, List.length_map, lt, lu, sizeLine_eq]; omega, fun p np => ?_⟩
  have s2 := Same.upd_new (o := .lst (ts.map V.ref ++ us.map V.ref)) np
  refine k _ p (s1.trans s2) (none_ofY s1 np) ⟨ts ++ us, by rw [upd_same, List.map_append], paired_appY (Paired.mapP h2 fun _ _ q => s2.sqT q) (Paired.mapP h4 fun _ _ q => s2.sqT q)⟩
theorem set_prs {σ : L2.St} {i : Nat} {ps : List (Str × Nat)} {D : Ends} {H : Hp} (few : ps.length ≤ 1000) (k : ∀ H' l, Same H H' → H l = none → Prs K H' l ps → D.nx (σ.set i (some (.ref l))) H') : tAsg (tLst (tPrs ps)) (gName i) D σ H := prsl_read (K := K) ps few k
theorem set_cat {σ : L2.St} {i : Nat} {l : Addr} {ps qs : List (Str × Nat)} {D : Ends} {H : Hp} (hv : σ[i]? = some (some (.ref l))) (hP : Prs K H l ps) (few : ps.length + qs.length ≤ 1000) (k : ∀ H' p, Same H H' → H p = none → Prs K H' p (ps ++ qs) → D.nx (σ.set i (some (.ref p))) H') :
    tAsg (tOp rCat (tVar i) (tLst (tPrs qs))) (gName i) D σ H := cat_read (K := K) qs hv hP few k
abbrev PX0 : List (Str × Nat) := [("", 0), ("editions lib 3", 0), ("edition", 1), ("edition Lib 3", 1), ("edition lib", 2)]
abbrev PX1 : List (Str × Nat) := [("state lib x 1 0", 0)]
abbrev PX2 : List (Str × Nat) := [("edition lib 03", 2), ("edition lib 100", 2), ("edition lib 3 4", 3), ("edition  lib 3", 1)]
abbrev PX3 : List (Str × Nat) := [("edition da 9", 1), ("edition db 2", 2), ("edition db 1", 2), ("scripts enter clean", 2)]
abbrev PX4 : List (Str × Nat) := [("scripts start", 1)]
abbrev PX5 : List (Str × Nat) := [("needs", 1), ("needs lib", 2), ("needs lib x", 2), ("needs lib 1 app 2", 3), ("against", 1)]
abbrev PX6 : List (Str × Nat) := [("first lib 1 lib 2", 3), ("against web app", 2), ("against web ", 2), ("state lib ready", 3)]
abbrev PX7 : List (Str × Nat) := [("state lib absent 0 0", 2), ("state lib half 1", 4), ("state lib half 1 0 0", 5)]
abbrev PX8 : List (Str × Nat) := [("state 1 half 1 0", 1)]
/-- what stands while the lists of pairs are made -/
structure Bs (K : PySem.W.Frag) (H : Hp) (r a g : Addr) : Prop where
  row : Row K H r a
  good : H g = some (.lst (GOOD.map V.str))
  ng : g ≠ r
theorem Bs.same {H H' : Hp} {r a g : Addr} (h : Bs K H r a g) (s : Same H H') : Bs K H' r a g := ⟨rowS s h.row, s _ _ h.good, h.ng⟩
theorem ok_law {f c : Addr} {oc kV doc pm ct : Value} {od an : Option Addr} {osl : Array (Option Value)} (lk : K.lookup f = some ⟨oc, od, .func (PySem.W.fnOf "law" "law" (defArgs sLaw) (defBody sLaw) (defScope sLaw) .none kV doc pm an (.ref c) ct), osl⟩) (hcd : PySem.W.codeIn K (.ref c) "law" = true)
    (L : LawT P w K mg base) : FnOk P w K mg base CX0 12 f (PySem.W.fnOf "law" "law" (defArgs sLaw) (defBody sLaw) (defScope sLaw) .none kV doc pm an (.ref c) ct) ["_law_script"] (spLaw K) := by
  refine fn_of lk hcd scLaw (fun vs H Q E h => ?_) (fun A outer s H vs Q E hr h => ?_)
  · obtain ⟨a, ns, rfl, _⟩ := h
    rfl
  · obtain ⟨a, ns, rfl, hS, hlen, k⟩ := h
    have nd := scLaw.nd
    have hu := hr.units
    have r10 : Room 10 _ := hr.mono (by decide)
    obtain ⟨tB, hB, rdB⟩ := law_turn (f := f) (cdv := .ref c) (A := A) (outer := outer) (sh := s) (H0 := H) (E := E) L hr nd
    obtain ⟨tE, hE, rdE⟩ := law_end (f := f) (cdv := .ref c) (A := A) (outer := outer) (sh := s) (H0 := H) (Q0 := Q) (E := E) L hr nd
    refine ⟨_, (show PSs (cxOf CX0 P w K mg base LawN "law" (defScope sLaw) f (.ref c) A outer s H E).nox (defBody sLaw) _ from (pss_cons (ps_set (i := 1) nd rfl (by first | exact Or.inl rfl | exact Or.inr rfl) (pe_lst (pa_cons (pv 0) (pa_cons pe_int (pa_cons pe_int (pa_cons pe_int pa_nil))))))
      (pss_cons (ps_set (i := 2) nd rfl (Or.inl rfl) (pe_lst (pa_cons pe_str (pa_cons pe_str (pa_cons pe_str (pa_cons pe_str (pa_cons pe_str (pa_cons pe_str pa_nil))))))))
      (pss_cons (ps_if (pt_cmp (pc_notN (pe_def L.dP r10 rfl (pa_cons (pv 2) pa_nil)))) (pss_one (ps_ret pe_bl)) pss_nil)
      (pss_cons (ps_set (te := tLst (tPrs PX0)) (i := 3) nd rfl (Or.inl rfl) (pe_lst (pa_cons (pe_tup (pa_cons pe_str (pa_cons pe_int pa_nil))) (pa_cons (pe_tup (pa_cons pe_str (pa_cons pe_int pa_nil))) (pa_cons (pe_tup (pa_cons pe_str (pa_cons pe_int pa_nil))) (pa_cons (pe_tup (pa_cons pe_str (pa_cons pe_int pa_nil))) (pa_cons (pe_tup (pa_cons pe_str (pa_cons pe_int pa_nil))) pa_nil)))))))
      (pss_cons (ps_set (te := tOp rCat (tVar 3) (tLst (tPrs PX1))) (i := 3) nd rfl (Or.inl rfl) (pe_op op_cat (pv 3) (pe_lst (pa_cons (pe_tup (pa_cons pe_str (pa_cons pe_int pa_nil))) pa_nil))))
      (pss_cons (ps_set (te := tOp rCat (tVar 3) (tLst (tPrs PX2))) (i := 3) nd rfl (Or.inl rfl) (pe_op op_cat (pv 3) (pe_lst (pa_cons (pe_tup (pa_cons pe_str (pa_cons pe_int pa_nil))) (pa_cons (pe_tup (pa_cons pe_str (pa_cons pe_int pa_nil))) (pa_cons (pe_tup (pa_cons pe_str (pa_cons pe_int pa_nil))) (pa_cons (pe_tup (pa_cons pe_str (pa_cons pe_int pa_nil))) pa_nil)))))))
      (pss_cons (ps_set (te := tLst (tPrs PX3)) (i := 4) nd rfl (Or.inl rfl) (pe_lst (pa_cons (pe_tup (pa_cons pe_str (pa_cons pe_int pa_nil))) (pa_cons (pe_tup (pa_cons pe_str (pa_cons pe_int pa_nil))) (pa_cons (pe_tup (pa_cons pe_str (pa_cons pe_int pa_nil))) (pa_cons (pe_tup (pa_cons pe_str (pa_cons pe_int pa_nil))) pa_nil))))))
      (pss_cons (ps_set (te := tOp rCat (tVar 4) (tLst (tPrs PX4))) (i := 4) nd rfl (Or.inl rfl) (pe_op op_cat (pv 4) (pe_lst (pa_cons (pe_tup (pa_cons pe_str (pa_cons pe_int pa_nil))) pa_nil))))
      (pss_cons (ps_set (te := tOp rCat (tVar 4) (tLst (tPrs PX5))) (i := 4) nd rfl (Or.inl rfl) (pe_op op_cat (pv 4) (pe_lst (pa_cons (pe_tup (pa_cons pe_str (pa_cons pe_int pa_nil))) (pa_cons (pe_tup (pa_cons pe_str (pa_cons pe_int pa_nil))) (pa_cons (pe_tup (pa_cons pe_str (pa_cons pe_int pa_nil))) (pa_cons (pe_tup (pa_cons pe_str (pa_cons pe_int pa_nil))) (pa_cons (pe_tup (pa_cons pe_str (pa_cons pe_int pa_nil))) pa_nil))))))))
      (pss_cons (ps_set (te := tOp rCat (tVar 4) (tLst (tPrs PX6))) (i := 4) nd rfl (Or.inl rfl) (pe_op op_cat (pv 4) (pe_lst (pa_cons (pe_tup (pa_cons pe_str (pa_cons pe_int pa_nil))) (pa_cons (pe_tup (pa_cons pe_str (pa_cons pe_int pa_nil))) (pa_cons (pe_tup (pa_cons pe_str (pa_cons pe_int pa_nil))) (pa_cons (pe_tup (pa_cons pe_str (pa_cons pe_int pa_nil))) pa_nil)))))))
      (pss_cons (ps_set (te := tOp rCat (tVar 4) (tLst (tPrs PX7))) (i := 4) nd rfl (Or.inl rfl) (pe_op op_cat (pv 4) (pe_lst (pa_cons (pe_tup (pa_cons pe_str (pa_cons pe_int pa_nil))) (pa_cons (pe_tup (pa_cons pe_str (pa_cons pe_int pa_nil))) (pa_cons (pe_tup (pa_cons pe_str (pa_cons pe_int pa_nil))) pa_nil))))))
      (pss_cons (ps_set (te := tOp rCat (tVar 4) (tLst (tPrs PX8))) (i := 4) nd rfl (Or.inl rfl) (pe_op op_cat (pv 4) (pe_lst (pa_cons (pe_tup (pa_cons pe_str (pa_cons pe_int pa_nil))) pa_nil))))
      (pss_cons (ps_for PassesOwn.never rfl (pi_range1 (by rfl) L.gR (pa_cons pe_int pa_nil)) (pg_name (i := 5) nd rfl (Or.inl rfl)) hB)
      hE)))))))))))))).nox, ?_⟩
    refine ⟨_, rfl, (by show 4 ≤ sizeLine; decide), fun r nr => ?_⟩
    have s1 := Same.upd_new (o := .lst [.ref a, .int 0, .int 0, .int 0]) nr
    have R1 : Row K (upd H r (.lst [.ref a, .int 0, .int 0, .int 0])) r a := ⟨ns, 0, 0, 0, upd_same, s1.seq hS, hlen, Int.le_refl 0⟩
    generalize upd H r (.lst [.ref a, .int 0, .int 0, .int 0]) = H1 at R1 ⊢
    refine ⟨(by show 6 ≤ sizeLine; decide), fun g ng => ?_⟩
    have t2 := Same.upd_new (o := .lst (GOOD.map V.str)) ng
    have g2 : (upd H1 g (.lst (GOOD.map V.str))) g = some (.lst (GOOD.map V.str)) := upd_same
    have ep : (HO.lst [V.str "edition db 2", V.str "needs lib 1", V.str "against web", V.str "edition lib 1", V.str "scripts clean setup", V.str "state lib half 1 0"]) = .lst (GOOD.map V.str) := rfl
    rw [ep]
    have R2 := rowS t2 R1
    have ngr : g ≠ r := ne_of_row R1 ng
    generalize upd H1 g (.lst (GOOD.map V.str)) = H2 at g2 R2 ⊢
    refine ⟨_, rfl, g, GOOD, rfl, SqL.of g2, f_good.2, fun H3 u1 s3 hu1 => ?_⟩
    rw [f_good.1] at hu1
    have hu1 : u1 = .non := hu1
    subst hu1
    refine ⟨_, rfl, iteF ?_⟩
    have B3 : Bs K H3 r a g := ⟨rowS s3 R2, s3 _ _ g2, ngr⟩
    clear R2 g2 s3 t2 ep R1 nr ng s1
    refine seq_read (set_prs (K := K) (by decide) fun H4 l1 s4 n1 hP1 => ?_)
    have B4 := B3.same s4
    dsimp only
    refine seq_read (set_cat (K := K) rfl hP1 (by decide) fun H5 l2 s5 n2 hP2 => ?_)
    have B5 := B4.same s5
    dsimp only
    refine seq_read (set_cat (K := K) rfl hP2 (by decide) fun H6 fl s6 n3 hP3 => ?_)
    have B6 := B5.same s6
    have nfl : fl ≠ r := ne_of_row B5.row n3
    have hF : Prs K H6 fl FST := hP3
    dsimp only
    refine seq_read (set_prs (K := K) (by decide) fun H7 m1 s7 o1 hL1 => ?_)
    dsimp only
    refine seq_read (set_cat (K := K) rfl hL1 (by decide) fun H8 m2 s8 o2 hL2 => ?_)
    dsimp only
    refine seq_read (set_cat (K := K) rfl hL2 (by decide) fun H9 m3 s9 o3 hL3 => ?_)
    dsimp only
    refine seq_read (set_cat (K := K) rfl hL3 (by decide) fun HA m4 sA o4 hL4 => ?_)
    dsimp only
    refine seq_read (set_cat (K := K) rfl hL4 (by decide) fun HB m5 sB o5 hL5 => ?_)
    dsimp only
    refine seq_read (set_cat (K := K) rfl hL5 (by decide) fun HC ll sC o6 hL6 => ?_)
    have hL6 : Prs K HC ll LTR := hL6
    have S6 : Same H6 HB := s7.trans (s8.trans (s9.trans (sA.trans sB)))
    have BB := B6.same S6
    have BC := BB.same sC
    have nll : ll ≠ r := ne_of_row BB.row o6
    have W : Wd K HC r a g fl ll := ⟨BC.row, BC.good, (hF.same S6).same sC, hL6, ngr, nfl, nll⟩
    clear hP1 hP2 hP3 hL1 hL2 hL3 hL4 hL5 hL6 hF B3 B4 B5 B6 BB BC S6
    refine ⟨8, rfl, by decide, by decide, ?_⟩
    refine for_it walk_range (fun i σ H' => ∃ x5 x6 x7, Wd K H' r a g fl ll ∧ σ = [some (.ref a), some (.ref r), some (.ref g), some (.ref fl), some (.ref ll), x5, x6, x7, none, none]) ⟨none, none, none, W, rfl⟩ (fun _ _ _ _ _ => trivial) ?_ ?_
    · rintro i x σ HD HE hi ⟨x5, x6, x7, WD, rfl⟩ ⟨rfl, rfl⟩
      refine rdB _ _ r a g fl ll _ _ _ _ WD fun HF y6 y7 WF => ?_
      exact ⟨_, _, _, WF, rfl⟩
    · rintro σ HD ⟨x5, x6, x7, WD, rfl⟩
      exact rdE _ _ _ _ _ _ _ _ _ _ fun H' => k H'
end
end Half

namespace Half
open PySem PySem.Spec PyProof.Rows L2
/-! ### the table of followers, as it stands -/
theorem fol_of {K : PySem.W.Frag} {d : Addr} {h0 h1 h2 h3 h4 h5 h6 : Int} {t0 t1 t2 t3 t4 t5 t6 : Tok} {a0 a1 a2 a3 a4 a5 a6 : Addr} {n : Nat}
    (e : K.lookup d = some ⟨.type "dict", none, .dict #[⟨h0, .str "" t0, .ref a0⟩, ⟨h1, .str "edition" t1, .ref a1⟩, ⟨h2, .str "scripts" t2, .ref a2⟩, ⟨h3, .str "needs" t3, .ref a3⟩, ⟨h4, .str "first" t4, .ref a4⟩, ⟨h5, .str "against" t5, .ref a5⟩, ⟨h6, .str "state" t6, .ref a6⟩] n, #[]⟩)
    (s0 : ∀ H, SqT K H a0 ((["edition"] : List Str).map V.str)) (s1 : ∀ H, SqT K H a1 ((["scripts", "needs", "first", "against", "edition", "state"] : List Str).map V.str)) (s2 : ∀ H, SqT K H a2 ((["needs", "first", "against", "edition", "state"] : List Str).map V.str)) (s3 : ∀ H, SqT K H a3 ((["first", "against", "edition", "state"] : List Str).map V.str)) (s4 : ∀ H, SqT K H a4 ((["against", "edition", "state"] : List Str).map V.str)) (s5 : ∀ H, SqT K H a5 ((["edition", "state"] : List Str).map V.str)) (s6 : ∀ H, SqT K H a6 ((["state"] : List Str).map V.str)) :
    ∀ z fs, folM z = some fs → ∃ q, PySem.W.nsIn K d z = some (some (.ref q)) ∧ ∀ H, SqT K H q (fs.map V.str) := by
  have beq : ∀ x z : Str, (x == z) = decide (x = z) := fun x z => by
    by_cases c : x = z
    · rw [c, decide_eq_true rfl]; exact beq_self_eq_true z
    · rw [decide_eq_false c]; exact beq_eq_false_iff_ne.mpr c
  have key : ∀ z, PySem.W.nsIn K d z = some (if ("" : Str) = z then some (.ref a0) else if ("edition" : Str) = z then some (.ref a1) else if ("scripts" : Str) = z then some (.ref a2) else if ("needs" : Str) = z then some (.ref a3) else if ("first" : Str) = z then some (.ref a4) else if ("against" : Str) = z then some (.ref a5) else if ("state" : Str) = z then some (.ref a6) else none) := fun z => by
    unfold PySem.W.nsIn
    rw [e]
    dsimp only
    simp only [List.find?_cons, List.find?_nil, Value.isStr, beq]
    by_cases c0 : ("" : Str) = z
    · rw [decide_eq_true c0, if_pos c0]
    rw [decide_eq_false c0, if_neg c0]
    by_cases c1 : ("edition" : Str) = z
    · rw [decide_eq_true c1, if_pos c1]
    rw [decide_eq_false c1, if_neg c1]
    by_cases c2 : ("scripts" : Str) = z
    · rw [decide_eq_true c2, if_pos c2]
    rw [decide_eq_false c2, if_neg c2]
    by_cases c3 : ("needs" : Str) = z
    · rw [decide_eq_true c3, if_pos c3]
    rw [decide_eq_false c3, if_neg c3]
    by_cases c4 : ("first" : Str) = z
    · rw [decide_eq_true c4, if_pos c4]
    rw [decide_eq_false c4, if_neg c4]
    by_cases c5 : ("against" : Str) = z
    · rw [decide_eq_true c5, if_pos c5]
    rw [decide_eq_false c5, if_neg c5]
    by_cases c6 : ("state" : Str) = z
    · rw [decide_eq_true c6, if_pos c6]
    rw [decide_eq_false c6, if_neg c6]
    rfl
  have shp : ∀ z, folM z = if ("" : Str) = z then some (["edition"] : List Str) else if ("edition" : Str) = z then some (["scripts", "needs", "first", "against", "edition", "state"] : List Str) else if ("scripts" : Str) = z then some (["needs", "first", "against", "edition", "state"] : List Str) else if ("needs" : Str) = z then some (["first", "against", "edition", "state"] : List Str) else if ("first" : Str) = z then some (["against", "edition", "state"] : List Str) else if ("against" : Str) = z then some (["edition", "state"] : List Str) else if ("state" : Str) = z then some (["state"] : List Str) else none := fun z => by
    unfold folM FOL
    simp only [List.find?_cons, List.find?_nil]
    by_cases c0 : ("" : Str) = z
    · rw [decide_eq_true c0, if_pos c0]; rfl
    rw [decide_eq_false c0, if_neg c0]
    by_cases c1 : ("edition" : Str) = z
    · rw [decide_eq_true c1, if_pos c1]; rfl
    rw [decide_eq_false c1, if_neg c1]
    by_cases c2 : ("scripts" : Str) = z
    · rw [decide_eq_true c2, if_pos c2]; rfl
    rw [decide_eq_false c2, if_neg c2]
    by_cases c3 : ("needs" : Str) = z
    · rw [decide_eq_true c3, if_pos c3]; rfl
    rw [decide_eq_false c3, if_neg c3]
    by_cases c4 : ("first" : Str) = z
    · rw [decide_eq_true c4, if_pos c4]; rfl
    rw [decide_eq_false c4, if_neg c4]
    by_cases c5 : ("against" : Str) = z
    · rw [decide_eq_true c5, if_pos c5]; rfl
    rw [decide_eq_false c5, if_neg c5]
    by_cases c6 : ("state" : Str) = z
    · rw [decide_eq_true c6, if_pos c6]; rfl
    rw [decide_eq_false c6, if_neg c6]
    rfl
  intro z fs h
  rw [key z]
  rw [shp z] at h
  split at h
  · cases h; rename_i c0; exact ⟨a0, by rw [if_pos c0], s0⟩
  rename_i c0
  split at h
  · cases h; rename_i c1; exact ⟨a1, by rw [if_neg c0, if_pos c1], s1⟩
  rename_i c1
  split at h
  · cases h; rename_i c2; exact ⟨a2, by rw [if_neg c0, if_neg c1, if_pos c2], s2⟩
  rename_i c2
  split at h
  · cases h; rename_i c3; exact ⟨a3, by rw [if_neg c0, if_neg c1, if_neg c2, if_pos c3], s3⟩
  rename_i c3
  split at h
  · cases h; rename_i c4; exact ⟨a4, by rw [if_neg c0, if_neg c1, if_neg c2, if_neg c3, if_pos c4], s4⟩
  rename_i c4
  split at h
  · cases h; rename_i c5; exact ⟨a5, by rw [if_neg c0, if_neg c1, if_neg c2, if_neg c3, if_neg c4, if_pos c5], s5⟩
  rename_i c5
  split at h
  · cases h; rename_i c6; exact ⟨a6, by rw [if_neg c0, if_neg c1, if_neg c2, if_neg c3, if_neg c4, if_neg c5, if_pos c6], s6⟩
  rename_i c6
  cases h
end Half

namespace Half
open PySem PySem.Spec PyProof.Rows L2 LamX
theorem all_mk {l : PySem.W.OpenLaw} {w : World} {K : PySem.W.Frag} {h : Heap} {mg : Str → Option Value} {fa : Addr} (X : K.In h) (G : h.Ns mainGlobals mg) (hfa : mg "law" = some (.ref fa))
    {f_word : Addr} {oc_word kV_word dc_word pm_word cd_word ct_word : Value} {od_word an_word : Option Addr} {sl_word : Array (Option Value)}
    {f_numb : Addr} {oc_numb kV_numb dc_numb pm_numb cd_numb ct_numb : Value} {od_numb an_numb : Option Addr} {sl_numb : Array (Option Value)}
    {f_asc : Addr} {oc_asc kV_asc dc_asc pm_asc cd_asc ct_asc : Value} {od_asc an_asc : Option Addr} {sl_asc : Array (Option Value)}
    {f_vers : Addr} {oc_vers kV_vers dc_vers pm_vers cd_vers ct_vers : Value} {od_vers an_vers : Option Addr} {sl_vers : Array (Option Value)}
    {f_scri : Addr} {oc_scri kV_scri dc_scri pm_scri cd_scri ct_scri : Value} {od_scri an_scri : Option Addr} {sl_scri : Array (Option Value)}
    {f_othe : Addr} {oc_othe kV_othe dc_othe pm_othe cd_othe ct_othe : Value} {od_othe an_othe : Option Addr} {sl_othe : Array (Option Value)}
    {f_pair : Addr} {oc_pair kV_pair dc_pair pm_pair cd_pair ct_pair : Value} {od_pair an_pair : Option Addr} {sl_pair : Array (Option Value)}
    {f_need : Addr} {oc_need kV_need dc_need pm_need cd_need ct_need : Value} {od_need an_need : Option Addr} {sl_need : Array (Option Value)}
    {f_wron : Addr} {oc_wron kV_wron dc_wron pm_wron cd_wron ct_wron : Value} {od_wron an_wron : Option Addr} {sl_wron : Array (Option Value)}
    {f_wi : Addr} {oc_wi kV_wi dc_wi pm_wi cd_wi ct_wi : Value} {od_wi an_wi : Option Addr} {sl_wi : Array (Option Value)}
    {f_vn : Addr} {oc_vn kV_vn dc_vn pm_vn cd_vn ct_vn : Value} {od_vn an_vn : Option Addr} {sl_vn : Array (Option Value)}
    {f_take : Addr} {oc_take kV_take dc_take pm_take cd_take ct_take : Value} {od_take an_take : Option Addr} {sl_take : Array (Option Value)}
    {f_ist : Addr} {oc_ist kV_ist dc_ist pm_ist cd_ist ct_ist : Value} {od_ist an_ist : Option Addr} {sl_ist : Array (Option Value)}
    {f_wp : Addr} {oc_wp kV_wp dc_wp pm_wp cd_wp ct_wp : Value} {od_wp an_wp : Option Addr} {sl_wp : Array (Option Value)}
    {f_nml : Addr} {oc_nml kV_nml dc_nml pm_nml cd_nml ct_nml : Value} {od_nml an_nml : Option Addr} {sl_nml : Array (Option Value)}
    {f_bs : Addr} {oc_bs kV_bs dc_bs pm_bs cd_bs ct_bs : Value} {od_bs an_bs : Option Addr} {sl_bs : Array (Option Value)}
    {f_tkn : Addr} {oc_tkn kV_tkn dc_tkn pm_tkn cd_tkn ct_tkn : Value} {od_tkn an_tkn : Option Addr} {sl_tkn : Array (Option Value)}
    {f_tku : Addr} {oc_tku kV_tku dc_tku pm_tku cd_tku ct_tku : Value} {od_tku an_tku : Option Addr} {sl_tku : Array (Option Value)}
    {f_tks : Addr} {oc_tks kV_tks dc_tks pm_tks cd_tks ct_tks : Value} {od_tks an_tks : Option Addr} {sl_tks : Array (Option Value)}
    {f_tkd : Addr} {oc_tkd kV_tkd dc_tkd pm_tkd cd_tkd ct_tkd : Value} {od_tkd an_tkd : Option Addr} {sl_tkd : Array (Option Value)}
    {f_tka : Addr} {oc_tka kV_tka dc_tka pm_tka cd_tka ct_tka : Value} {od_tka an_tka : Option Addr} {sl_tka : Array (Option Value)}
    {f_tky : Addr} {oc_tky kV_tky dc_tky pm_tky cd_tky ct_tky : Value} {od_tky an_tky : Option Addr} {sl_tky : Array (Option Value)}
    {f_tst : Addr} {oc_tst kV_tst dc_tst pm_tst cd_tst ct_tst : Value} {od_tst an_tst : Option Addr} {sl_tst : Array (Option Value)}
    {f_pin : Addr} {oc_pin kV_pin dc_pin pm_pin cd_pin ct_pin : Value} {od_pin an_pin : Option Addr} {sl_pin : Array (Option Value)}
    {f_pse : Addr} {oc_pse kV_pse dc_pse pm_pse cd_pse ct_pse : Value} {od_pse an_pse : Option Addr} {sl_pse : Array (Option Value)}
    {f_pl : Addr} {oc_pl kV_pl dc_pl pm_pl cd_pl ct_pl : Value} {od_pl an_pl : Option Addr} {sl_pl : Array (Option Value)}
    {f_are : Addr} {oc_are kV_are dc_are pm_are cd_are ct_are : Value} {od_are an_are : Option Addr} {sl_are : Array (Option Value)}
    {f_law cLaw : Addr} {oc_law kV_law dc_law pm_law ct_law : Value} {od_law an_law : Option Addr} {sl_law : Array (Option Value)}
    {C : Addr}
    {CT : Addr}
    {CY : Addr}
    {CR : Addr}
    {CD : Addr}
    {c0 : Addr}
    {c1 : Addr}
    {c2 : Addr}
    {c4 : Addr}
    {c5 : Addr}
    {c6 : Addr}
    {nmc0 qc0 : Str} {Nc0 : Addr} {bsc0 bmc0 : List Value} {snc0 : List Str} {subc0 : List Value} {abc0 : Bool} {colc0 : Option Bool} {ddc0 : Option Addr} {k0c0 k1c0 k2c0 k3c0 k5c0 : Option Value}
    {f_ie : Addr}
    {oc_ie kV_ie dc_ie pm_ie ct_ie : Value} {od_ie an_ie : Option Addr} {cdI_ie ccI_ie : Addr} {sl_ie : Array (Option Value)} {cclI_ie : Value} {cddI_ie : Option Addr} {vsI_ie : Array Value} {ccsI_ie : Array (Option Value)} {fileI_ie : Str} {tfI_ie : Tok} {clI_ie : Value} {cldI_ie : Option Addr} {cslI_ie : Array (Option Value)}
    {nmc1 qc1 : Str} {Nc1 : Addr} {bsc1 bmc1 : List Value} {snc1 : List Str} {subc1 : List Value} {abc1 : Bool} {colc1 : Option Bool} {ddc1 : Option Addr} {k0c1 k1c1 k2c1 k3c1 k5c1 : Option Value}
    {f_is : Addr}
    {oc_is kV_is dc_is pm_is ct_is : Value} {od_is an_is : Option Addr} {cdI_is ccI_is : Addr} {sl_is : Array (Option Value)} {cclI_is : Value} {cddI_is : Option Addr} {vsI_is : Array Value} {ccsI_is : Array (Option Value)} {fileI_is : Str} {tfI_is : Tok} {clI_is : Value} {cldI_is : Option Addr} {cslI_is : Array (Option Value)}
    {nmc2 qc2 : Str} {Nc2 : Addr} {bsc2 bmc2 : List Value} {snc2 : List Str} {subc2 : List Value} {abc2 : Bool} {colc2 : Option Bool} {ddc2 : Option Addr} {k0c2 k1c2 k2c2 k3c2 k5c2 : Option Value}
    {f_iy : Addr}
    {oc_iy kV_iy dc_iy pm_iy ct_iy : Value} {od_iy an_iy : Option Addr} {cdI_iy ccI_iy : Addr} {sl_iy : Array (Option Value)} {cclI_iy : Value} {cddI_iy : Option Addr} {vsI_iy : Array Value} {ccsI_iy : Array (Option Value)} {fileI_iy : Str} {tfI_iy : Tok} {clI_iy : Value} {cldI_iy : Option Addr} {cslI_iy : Array (Option Value)}
    {nmc6 qc6 : Str} {Nc6 : Addr} {bsc6 bmc6 : List Value} {snc6 : List Str} {subc6 : List Value} {abc6 : Bool} {colc6 : Option Bool} {ddc6 : Option Addr} {k0c6 k1c6 k2c6 k3c6 k5c6 : Option Value}
    {f_itx : Addr}
    {oc_itx kV_itx dc_itx pm_itx ct_itx : Value} {od_itx an_itx : Option Addr} {cdI_itx ccI_itx : Addr} {sl_itx : Array (Option Value)} {cclI_itx : Value} {cddI_itx : Option Addr} {vsI_itx : Array Value} {ccsI_itx : Array (Option Value)} {fileI_itx : Str} {tfI_itx : Tok} {clI_itx : Value} {cldI_itx : Option Addr} {cslI_itx : Array (Option Value)}
    {tLet : Tok} {aS : Addr}
    {tDig : Tok}
    {t_lnn : Tok}
    {t_lon : Tok}
    {t_lv : Tok}
    {t_mv : Tok}
    {t_me : Tok}
    {t_mn : Tok}
    {f_ei kD : Addr} {oc_ei dc_ei pm_ei cd_ei ct_ei : Value} {od_ei an_ei : Option Addr} {sl_ei : Array (Option Value)}
    {z1 z2 z3 : Addr}
    {ddS dd1 dd2 dd3 : Option Addr} {q0 q1 q2 q3 : Tok} {nS n1 n2 n3 : Nat} {slS sl1 sl2 sl3 : Array (Option Value)}
    {p_g0 : Addr} {rest_g0 : List Value}
    {f_g0 : Addr} {oc_g0 kV_g0 dc_g0 pm_g0 cd_g0 ct_g0 : Value} {od_g0 an_g0 : Option Addr} {sl_g0 : Array (Option Value)}
    {p_g1 : Addr} {rest_g1 : List Value}
    {f_g1 : Addr} {oc_g1 kV_g1 dc_g1 pm_g1 cd_g1 ct_g1 : Value} {od_g1 an_g1 : Option Addr} {sl_g1 : Array (Option Value)}
    {f_si : Addr} {oc_si kV_si dc_si pm_si cd_si ct_si : Value} {od_si an_si : Option Addr} {sl_si : Array (Option Value)}
    {p_sn : Addr} {rest_sn : List Value}
    {f_sn : Addr} {oc_sn kV_sn dc_sn pm_sn cd_sn ct_sn : Value} {od_sn an_sn : Option Addr} {sl_sn : Array (Option Value)}
    {f_sh : Addr} {oc_sh kV_sh dc_sh pm_sh cd_sh ct_sh : Value} {od_sh an_sh : Option Addr} {sl_sh : Array (Option Value)}
    {f_yi : Addr} {oc_yi kV_yi dc_yi pm_yi cd_yi ct_yi : Value} {od_yi an_yi : Option Addr} {sl_yi : Array (Option Value)}
    {f_wi_ : Addr} {oc_wi_ kV_wi_ dc_wi_ pm_wi_ cd_wi_ ct_wi_ : Value} {od_wi_ an_wi_ : Option Addr} {sl_wi_ : Array (Option Value)}
    {f_wie : Addr} {oc_wie kV_wie dc_wie pm_wie cd_wie ct_wie : Value} {od_wie an_wie : Option Addr} {sl_wie : Array (Option Value)}
    {f_wtk : Addr} {oc_wtk kV_wtk dc_wtk pm_wtk cd_wtk ct_wtk : Value} {od_wtk an_wtk : Option Addr} {sl_wtk : Array (Option Value)}
    {f_wap : Addr} {oc_wap kV_wap dc_wap pm_wap cd_wap ct_wap : Value} {od_wap an_wap : Option Addr} {sl_wap : Array (Option Value)}
    {f_wfi : Addr} {oc_wfi kV_wfi dc_wfi pm_wfi cd_wfi ct_wfi : Value} {od_wfi an_wfi : Option Addr} {sl_wfi : Array (Option Value)}
    {f_di_ : Addr} {oc_di_ kV_di_ dc_di_ pm_di_ cd_di_ ct_di_ : Value} {od_di_ an_di_ : Option Addr} {sl_di_ : Array (Option Value)}
    {f_dar : Addr} {oc_dar kV_dar dc_dar pm_dar cd_dar ct_dar : Value} {od_dar an_dar : Option Addr} {sl_dar : Array (Option Value)}
    {dSh : Addr} {nSh : Nat}
    {sh0 sh1 sh2 sh3 sh4 sh5 sh6 : Addr} {hh0 hh1 hh2 hh3 hh4 hh5 hh6 : Int} {kt0 kt1 kt2 kt3 kt4 kt5 kt6 : Tok}
    {dsh0 : Option Addr} {w0_0 : Tok} {nsh0 : Nat} {slh0 : Array (Option Value)}
    {dsh1 : Option Addr} {w1_0 w1_1 w1_2 w1_3 w1_4 w1_5 : Tok} {nsh1 : Nat} {slh1 : Array (Option Value)}
    {dsh2 : Option Addr} {w2_0 w2_1 w2_2 w2_3 w2_4 : Tok} {nsh2 : Nat} {slh2 : Array (Option Value)}
    {dsh3 : Option Addr} {w3_0 w3_1 w3_2 w3_3 : Tok} {nsh3 : Nat} {slh3 : Array (Option Value)}
    {dsh4 : Option Addr} {w4_0 w4_1 w4_2 : Tok} {nsh4 : Nat} {slh4 : Array (Option Value)}
    {dsh5 : Option Addr} {w5_0 w5_1 : Tok} {nsh5 : Nat} {slh5 : Array (Option Value)}
    {dsh6 : Option Addr} {w6_0 : Tok} {nsh6 : Nat} {slh6 : Array (Option Value)}
    {aA : Addr} {ddA : Option Addr} {b0 b1 b2 : Tok} {nA : Nat} {slA : Array (Option Value)}
    {aZ : Addr} {ddZ : Option Addr} {e0 e1 e2 e3 e4 e5 : Tok} {nZ : Nat} {slZ : Array (Option Value)}
    (n_int : PySem.W.nsIn K mainGlobals "int" = some none)
    (n_len : PySem.W.nsIn K mainGlobals "len" = some none)
    (n_isinstance : PySem.W.nsIn K mainGlobals "isinstance" = some none)
    (n_str : PySem.W.nsIn K mainGlobals "str" = some none)
    (n_bool : PySem.W.nsIn K mainGlobals "bool" = some none)
    (n_tuple : PySem.W.nsIn K mainGlobals "tuple" = some none)
    (n_all : PySem.W.nsIn K mainGlobals "all" = some none)
    (n_range : PySem.W.nsIn K mainGlobals "range" = some none)
    (n_ValueError : PySem.W.nsIn K mainGlobals "ValueError" = some none)
    (n_super : PySem.W.nsIn K mainGlobals "super" = some none)
    (n_set : PySem.W.nsIn K mainGlobals "set" = some none)
    (n_sorted : PySem.W.nsIn K mainGlobals "sorted" = some none)
    (n_list : PySem.W.nsIn K mainGlobals "list" = some none)
    (n_enumerate : PySem.W.nsIn K mainGlobals "enumerate" = some none)
    (n_dict : PySem.W.nsIn K mainGlobals "dict" = some none)
    (a_word : PySem.W.nsIn K mainGlobals "is_word" = some (some (.ref f_word)))
    (l_word : K.lookup f_word = some ⟨oc_word, od_word, .func (PySem.W.fnOf "is_word" "is_word" (defArgs sWord) (defBody sWord) (defScope sWord) .none kV_word dc_word pm_word an_word cd_word ct_word), sl_word⟩)
    (c_word : PySem.W.codeIn K cd_word "is_word" = true)
    (k_word : PySem.W.keepIn K (.ref f_word) = true)
    (a_numb : PySem.W.nsIn K mainGlobals "is_number" = some (some (.ref f_numb)))
    (l_numb : K.lookup f_numb = some ⟨oc_numb, od_numb, .func (PySem.W.fnOf "is_number" "is_number" (defArgs sNumber) (defBody sNumber) (defScope sNumber) .none kV_numb dc_numb pm_numb an_numb cd_numb ct_numb), sl_numb⟩)
    (c_numb : PySem.W.codeIn K cd_numb "is_number" = true)
    (k_numb : PySem.W.keepIn K (.ref f_numb) = true)
    (a_asc : PySem.W.nsIn K mainGlobals "ascends" = some (some (.ref f_asc)))
    (l_asc : K.lookup f_asc = some ⟨oc_asc, od_asc, .func (PySem.W.fnOf "ascends" "ascends" (defArgs sAscends) (defBody sAscends) (defScope sAscends) .none kV_asc dc_asc pm_asc an_asc cd_asc ct_asc), sl_asc⟩)
    (c_asc : PySem.W.codeIn K cd_asc "ascends" = true)
    (k_asc : PySem.W.keepIn K (.ref f_asc) = true)
    (a_vers : PySem.W.nsIn K mainGlobals "is_version" = some (some (.ref f_vers)))
    (l_vers : K.lookup f_vers = some ⟨oc_vers, od_vers, .func (PySem.W.fnOf "is_version" "is_version" (defArgs sVersion) (defBody sVersion) (defScope sVersion) .none kV_vers dc_vers pm_vers an_vers cd_vers ct_vers), sl_vers⟩)
    (c_vers : PySem.W.codeIn K cd_vers "is_version" = true)
    (k_vers : PySem.W.keepIn K (.ref f_vers) = true)
    (a_scri : PySem.W.nsIn K mainGlobals "are_scripts" = some (some (.ref f_scri)))
    (l_scri : K.lookup f_scri = some ⟨oc_scri, od_scri, .func (PySem.W.fnOf "are_scripts" "are_scripts" (defArgs sScripts) (defBody sScripts) (defScope sScripts) .none kV_scri dc_scri pm_scri an_scri cd_scri ct_scri), sl_scri⟩)
    (c_scri : PySem.W.codeIn K cd_scri "are_scripts" = true)
    (k_scri : PySem.W.keepIn K (.ref f_scri) = true)
    (a_othe : PySem.W.nsIn K mainGlobals "are_other_names" = some (some (.ref f_othe)))
    (l_othe : K.lookup f_othe = some ⟨oc_othe, od_othe, .func (PySem.W.fnOf "are_other_names" "are_other_names" (defArgs sOthers) (defBody sOthers) (defScope sOthers) .none kV_othe dc_othe pm_othe an_othe cd_othe ct_othe), sl_othe⟩)
    (c_othe : PySem.W.codeIn K cd_othe "are_other_names" = true)
    (k_othe : PySem.W.keepIn K (.ref f_othe) = true)
    (a_pair : PySem.W.nsIn K mainGlobals "is_pair_with_version" = some (some (.ref f_pair)))
    (l_pair : K.lookup f_pair = some ⟨oc_pair, od_pair, .func (PySem.W.fnOf "is_pair_with_version" "is_pair_with_version" (defArgs sPair) (defBody sPair) (defScope sPair) .none kV_pair dc_pair pm_pair an_pair cd_pair ct_pair), sl_pair⟩)
    (c_pair : PySem.W.codeIn K cd_pair "is_pair_with_version" = true)
    (k_pair : PySem.W.keepIn K (.ref f_pair) = true)
    (a_need : PySem.W.nsIn K mainGlobals "are_needs" = some (some (.ref f_need)))
    (l_need : K.lookup f_need = some ⟨oc_need, od_need, .func (PySem.W.fnOf "are_needs" "are_needs" (defArgs sNeeds) (defBody sNeeds) (defScope sNeeds) .none kV_need dc_need pm_need an_need cd_need ct_need), sl_need⟩)
    (c_need : PySem.W.codeIn K cd_need "are_needs" = true)
    (k_need : PySem.W.keepIn K (.ref f_need) = true)
    (a_wron : PySem.W.nsIn K mainGlobals "wrong_part" = some (some (.ref f_wron)))
    (l_wron : K.lookup f_wron = some ⟨oc_wron, od_wron, .func (PySem.W.fnOf "wrong_part" "wrong_part" (defArgs sWrong) (defBody sWrong) (defScope sWrong) .none kV_wron dc_wron pm_wron an_wron cd_wron ct_wron), sl_wron⟩)
    (c_wron : PySem.W.codeIn K cd_wron "wrong_part" = true)
    (k_wron : PySem.W.keepIn K (.ref f_wron) = true)
    (a_wi : PySem.W.nsIn K mainGlobals "wrong_index" = some (some (.ref f_wi)))
    (l_wi : K.lookup f_wi = some ⟨oc_wi, od_wi, .func (PySem.W.fnOf "wrong_index" "wrong_index" (defArgs sWi) (defBody sWi) (defScope sWi) .none kV_wi dc_wi pm_wi an_wi cd_wi ct_wi), sl_wi⟩)
    (c_wi : PySem.W.codeIn K cd_wi "wrong_index" = true)
    (k_wi : PySem.W.keepIn K (.ref f_wi) = true)
    (a_vn : PySem.W.nsIn K mainGlobals "versions_by_name" = some (some (.ref f_vn)))
    (l_vn : K.lookup f_vn = some ⟨oc_vn, od_vn, .func (PySem.W.fnOf "versions_by_name" "versions_by_name" (defArgs sVn) (defBody sVn) (defScope sVn) .none kV_vn dc_vn pm_vn an_vn cd_vn ct_vn), sl_vn⟩)
    (c_vn : PySem.W.codeIn K cd_vn "versions_by_name" = true)
    (k_vn : PySem.W.keepIn K (.ref f_vn) = true)
    (a_take : PySem.W.nsIn K mainGlobals "_law_taken" = some (some (.ref f_take)))
    (l_take : K.lookup f_take = some ⟨oc_take, od_take, .func (PySem.W.fnOf "_law_taken" "_law_taken" (defArgs sTaken) (defBody sTaken) (defScope sTaken) .none kV_take dc_take pm_take an_take cd_take ct_take), sl_take⟩)
    (c_take : PySem.W.codeIn K cd_take "_law_taken" = true)
    (k_take : PySem.W.keepIn K (.ref f_take) = true)
    (a_ist : PySem.W.nsIn K mainGlobals "is_state" = some (some (.ref f_ist)))
    (l_ist : K.lookup f_ist = some ⟨oc_ist, od_ist, .func (PySem.W.fnOf "is_state" "is_state" (defArgs sIst) (defBody sIst) (defScope sIst) .none kV_ist dc_ist pm_ist an_ist cd_ist ct_ist), sl_ist⟩)
    (c_ist : PySem.W.codeIn K cd_ist "is_state" = true)
    (k_ist : PySem.W.keepIn K (.ref f_ist) = true)
    (a_wp : PySem.W.nsIn K mainGlobals "wrong_package" = some (some (.ref f_wp)))
    (l_wp : K.lookup f_wp = some ⟨oc_wp, od_wp, .func (PySem.W.fnOf "wrong_package" "wrong_package" (defArgs sWp) (defBody sWp) (defScope sWp) .none kV_wp dc_wp pm_wp an_wp cd_wp ct_wp), sl_wp⟩)
    (c_wp : PySem.W.codeIn K cd_wp "wrong_package" = true)
    (k_wp : PySem.W.keepIn K (.ref f_wp) = true)
    (a_nml : PySem.W.nsIn K mainGlobals "is_numeral" = some (some (.ref f_nml)))
    (l_nml : K.lookup f_nml = some ⟨oc_nml, od_nml, .func (PySem.W.fnOf "is_numeral" "is_numeral" (defArgs sNml) (defBody sNml) (defScope sNml) .none kV_nml dc_nml pm_nml an_nml cd_nml ct_nml), sl_nml⟩)
    (c_nml : PySem.W.codeIn K cd_nml "is_numeral" = true)
    (k_nml : PySem.W.keepIn K (.ref f_nml) = true)
    (a_bs : PySem.W.nsIn K mainGlobals "built_system" = some (some (.ref f_bs)))
    (l_bs : K.lookup f_bs = some ⟨oc_bs, od_bs, .func (PySem.W.fnOf "built_system" "built_system" (defArgs sBs) (defBody sBs) (defScope sBs) .none kV_bs dc_bs pm_bs an_bs cd_bs ct_bs), sl_bs⟩)
    (c_bs : PySem.W.codeIn K cd_bs "built_system" = true)
    (k_bs : PySem.W.keepIn K (.ref f_bs) = true)
    (a_tkn : PySem.W.nsIn K mainGlobals "take_name" = some (some (.ref f_tkn)))
    (l_tkn : K.lookup f_tkn = some ⟨oc_tkn, od_tkn, .func (PySem.W.fnOf "take_name" "take_name" (defArgs sTkn) (defBody sTkn) (defScope sTkn) .none kV_tkn dc_tkn pm_tkn an_tkn cd_tkn ct_tkn), sl_tkn⟩)
    (c_tkn : PySem.W.codeIn K cd_tkn "take_name" = true)
    (k_tkn : PySem.W.keepIn K (.ref f_tkn) = true)
    (a_tku : PySem.W.nsIn K mainGlobals "take_number" = some (some (.ref f_tku)))
    (l_tku : K.lookup f_tku = some ⟨oc_tku, od_tku, .func (PySem.W.fnOf "take_number" "take_number" (defArgs sTku) (defBody sTku) (defScope sTku) .none kV_tku dc_tku pm_tku an_tku cd_tku ct_tku), sl_tku⟩)
    (c_tku : PySem.W.codeIn K cd_tku "take_number" = true)
    (k_tku : PySem.W.keepIn K (.ref f_tku) = true)
    (a_tks : PySem.W.nsIn K mainGlobals "take_scripts" = some (some (.ref f_tks)))
    (l_tks : K.lookup f_tks = some ⟨oc_tks, od_tks, .func (PySem.W.fnOf "take_scripts" "take_scripts" (defArgs sTks) (defBody sTks) (defScope sTks) .none kV_tks dc_tks pm_tks an_tks cd_tks ct_tks), sl_tks⟩)
    (c_tks : PySem.W.codeIn K cd_tks "take_scripts" = true)
    (k_tks : PySem.W.keepIn K (.ref f_tks) = true)
    (a_tkd : PySem.W.nsIn K mainGlobals "take_needs" = some (some (.ref f_tkd)))
    (l_tkd : K.lookup f_tkd = some ⟨oc_tkd, od_tkd, .func (PySem.W.fnOf "take_needs" "take_needs" (defArgs sTkd) (defBody sTkd) (defScope sTkd) .none kV_tkd dc_tkd pm_tkd an_tkd cd_tkd ct_tkd), sl_tkd⟩)
    (c_tkd : PySem.W.codeIn K cd_tkd "take_needs" = true)
    (k_tkd : PySem.W.keepIn K (.ref f_tkd) = true)
    (a_tka : PySem.W.nsIn K mainGlobals "take_names" = some (some (.ref f_tka)))
    (l_tka : K.lookup f_tka = some ⟨oc_tka, od_tka, .func (PySem.W.fnOf "take_names" "take_names" (defArgs sTka) (defBody sTka) (defScope sTka) .none kV_tka dc_tka pm_tka an_tka cd_tka ct_tka), sl_tka⟩)
    (c_tka : PySem.W.codeIn K cd_tka "take_names" = true)
    (k_tka : PySem.W.keepIn K (.ref f_tka) = true)
    (a_tky : PySem.W.nsIn K mainGlobals "take_key" = some (some (.ref f_tky)))
    (l_tky : K.lookup f_tky = some ⟨oc_tky, od_tky, .func (PySem.W.fnOf "take_key" "take_key" (defArgs sTky) (defBody sTky) (defScope sTky) .none kV_tky dc_tky pm_tky an_tky cd_tky ct_tky), sl_tky⟩)
    (c_tky : PySem.W.codeIn K cd_tky "take_key" = true)
    (k_tky : PySem.W.keepIn K (.ref f_tky) = true)
    (a_tst : PySem.W.nsIn K mainGlobals "take_state" = some (some (.ref f_tst)))
    (l_tst : K.lookup f_tst = some ⟨oc_tst, od_tst, .func (PySem.W.fnOf "take_state" "take_state" (defArgs sTst) (defBody sTst) (defScope sTst) .none kV_tst dc_tst pm_tst an_tst cd_tst ct_tst), sl_tst⟩)
    (c_tst : PySem.W.codeIn K cd_tst "take_state" = true)
    (k_tst : PySem.W.keepIn K (.ref f_tst) = true)
    (a_pin : PySem.W.nsIn K mainGlobals "part_in" = some (some (.ref f_pin)))
    (l_pin : K.lookup f_pin = some ⟨oc_pin, od_pin, .func (PySem.W.fnOf "part_in" "part_in" (defArgs sPin) (defBody sPin) (defScope sPin) .none kV_pin dc_pin pm_pin an_pin cd_pin ct_pin), sl_pin⟩)
    (c_pin : PySem.W.codeIn K cd_pin "part_in" = true)
    (k_pin : PySem.W.keepIn K (.ref f_pin) = true)
    (a_pse : PySem.W.nsIn K mainGlobals "parse_system" = some (some (.ref f_pse)))
    (l_pse : K.lookup f_pse = some ⟨oc_pse, od_pse, .func (PySem.W.fnOf "parse_system" "parse_system" (defArgs sPs) (defBody sPs) (defScope sPs) .none kV_pse dc_pse pm_pse an_pse cd_pse ct_pse), sl_pse⟩)
    (c_pse : PySem.W.codeIn K cd_pse "parse_system" = true)
    (k_pse : PySem.W.keepIn K (.ref f_pse) = true)
    (a_pl : PySem.W.nsIn K mainGlobals "_law_place" = some (some (.ref f_pl)))
    (l_pl : K.lookup f_pl = some ⟨oc_pl, od_pl, .func (PySem.W.fnOf "_law_place" "_law_place" (defArgs sPl) (defBody sPl) (defScope sPl) .none kV_pl dc_pl pm_pl an_pl cd_pl ct_pl), sl_pl⟩)
    (c_pl : PySem.W.codeIn K cd_pl "_law_place" = true)
    (k_pl : PySem.W.keepIn K (.ref f_pl) = true)
    (a_are : PySem.W.nsIn K mainGlobals "_law_are_later" = some (some (.ref f_are)))
    (l_are : K.lookup f_are = some ⟨oc_are, od_are, .func (PySem.W.fnOf "_law_are_later" "_law_are_later" (defArgs sAre) (defBody sAre) (defScope sAre) .none kV_are dc_are pm_are an_are cd_are ct_are), sl_are⟩)
    (c_are : PySem.W.codeIn K cd_are "_law_are_later" = true)
    (k_are : PySem.W.keepIn K (.ref f_are) = true)
    (a_law : PySem.W.nsIn K mainGlobals "law" = some (some (.ref f_law)))
    (l_law : K.lookup f_law = some ⟨oc_law, od_law, .func (PySem.W.fnOf "law" "law" (defArgs sLaw) (defBody sLaw) (defScope sLaw) .none kV_law dc_law pm_law an_law (.ref cLaw) ct_law), sl_law⟩)
    (c_law : PySem.W.codeIn K (.ref cLaw) "law" = true)
    (k_law : PySem.W.keepIn K (.ref f_law) = true)
    (g_C : PySem.W.nsIn K mainGlobals "Edition" = some (some (.ref C)))
    (g_CT : PySem.W.nsIn K mainGlobals "Store" = some (some (.ref CT)))
    (g_CY : PySem.W.nsIn K mainGlobals "System" = some (some (.ref CY)))
    (g_CR : PySem.W.nsIn K mainGlobals "Row" = some (some (.ref CR)))
    (g_CD : PySem.W.nsIn K mainGlobals "Draft" = some (some (.ref CD)))
    (pg_C : PySem.W.plainGet K C Str.empty = true)
    (hd_C : PySem.W.hasDictIn K C = true)
    (po_C : PySem.W.plainOver K C = true)
    (sa_C : PySem.W.findIn K (.ref C) "__setattr__" = some (some (.builtin "object.__setattr__")))
    (ha_C : PySem.W.findIn K (.ref C) "__class__" = some (some (.builtin "object.__class__")))
    (hm_C : PySem.W.mroIn K C (.type "object") = some true)
    (ki_C : PySem.W.kitOne K (.ref C) (.ref C) = some true)
    (hn : PySem.W.specialIn K (.builtin "object.__class__") "__get__" = some (some (.builtin "getset_descriptor.__get__")))
    (ht : PySem.W.takesIn K (.builtin "object.__class__") = some true)
    (pg_CT : PySem.W.plainGet K CT Str.empty = true)
    (hd_CT : PySem.W.hasDictIn K CT = true)
    (po_CT : PySem.W.plainOver K CT = true)
    (sa_CT : PySem.W.findIn K (.ref CT) "__setattr__" = some (some (.builtin "object.__setattr__")))
    (ha_CT : PySem.W.findIn K (.ref CT) "__class__" = some (some (.builtin "object.__class__")))
    (hm_CT : PySem.W.mroIn K CT (.type "object") = some true)
    (ki_CT : PySem.W.kitOne K (.ref CT) (.ref CT) = some true)
    (pg_CY : PySem.W.plainGet K CY Str.empty = true)
    (hd_CY : PySem.W.hasDictIn K CY = true)
    (po_CY : PySem.W.plainOver K CY = true)
    (sa_CY : PySem.W.findIn K (.ref CY) "__setattr__" = some (some (.builtin "object.__setattr__")))
    (ha_CY : PySem.W.findIn K (.ref CY) "__class__" = some (some (.builtin "object.__class__")))
    (hm_CY : PySem.W.mroIn K CY (.type "object") = some true)
    (ki_CY : PySem.W.kitOne K (.ref CY) (.ref CY) = some true)
    (pg_CR : PySem.W.plainGet K CR Str.empty = true)
    (hd_CR : PySem.W.hasDictIn K CR = true)
    (po_CR : PySem.W.plainOver K CR = true)
    (sa_CR : PySem.W.findIn K (.ref CR) "__setattr__" = some (some (.builtin "object.__setattr__")))
    (ha_CR : PySem.W.findIn K (.ref CR) "__class__" = some (some (.builtin "object.__class__")))
    (hm_CR : PySem.W.mroIn K CR (.type "object") = some true)
    (ki_CR : PySem.W.kitOne K (.ref CR) (.ref CR) = some true)
    (pg_CD : PySem.W.plainGet K CD Str.empty = true)
    (hd_CD : PySem.W.hasDictIn K CD = true)
    (po_CD : PySem.W.plainOver K CD = true)
    (sa_CD : PySem.W.findIn K (.ref CD) "__setattr__" = some (some (.builtin "object.__setattr__")))
    (ha_CD : PySem.W.findIn K (.ref CD) "__class__" = some (some (.builtin "object.__class__")))
    (hm_CD : PySem.W.mroIn K CD (.type "object") = some true)
    (ki_CD : PySem.W.kitOne K (.ref CD) (.ref CD) = some true)
    (g_c0 : PySem.W.nsIn K mainGlobals "InvalidEdition" = some (some (.ref c0)))
    (g_c1 : PySem.W.nsIn K mainGlobals "InvalidStore" = some (some (.ref c1)))
    (g_c2 : PySem.W.nsIn K mainGlobals "InvalidSystem" = some (some (.ref c2)))
    (g_c4 : PySem.W.nsIn K mainGlobals "UnknownEdition" = some (some (.ref c4)))
    (g_c5 : PySem.W.nsIn K mainGlobals "UnknownName" = some (some (.ref c5)))
    (g_c6 : PySem.W.nsIn K mainGlobals "InvalidText" = some (some (.ref c6)))
    (ex_c0 : PySem.W.subIn K (.ref c0) (.type "BaseException") = some true)
    (nf_c0_part : PySem.W.findIn K (.ref c0) "part" = some none)
    (ga_c0 : PySem.W.findIn K (.ref c0) "__getattribute__" = some (some (.builtin "BaseException.__getattribute__")))
    (gg_c0 : PySem.W.findIn K (.ref c0) "__getattr__" = some none)
    (hx_c0 : PySem.W.hasDictIn K c0 = true)
    (tt_c0 : PySem.W.typeIn K (.ref c0) = some (.type "type"))
    (ss_c0 : PySem.W.subIn K (.ref c0) (.ref c0) = some true)
    (ex_c1 : PySem.W.subIn K (.ref c1) (.type "BaseException") = some true)
    (nf_c1_index : PySem.W.findIn K (.ref c1) "index" = some none)
    (ga_c1 : PySem.W.findIn K (.ref c1) "__getattribute__" = some (some (.builtin "BaseException.__getattribute__")))
    (gg_c1 : PySem.W.findIn K (.ref c1) "__getattr__" = some none)
    (hx_c1 : PySem.W.hasDictIn K c1 = true)
    (tt_c1 : PySem.W.typeIn K (.ref c1) = some (.type "type"))
    (ss_c1 : PySem.W.subIn K (.ref c1) (.ref c1) = some true)
    (ex_c2 : PySem.W.subIn K (.ref c2) (.type "BaseException") = some true)
    (nf_c2_package : PySem.W.findIn K (.ref c2) "package" = some none)
    (ga_c2 : PySem.W.findIn K (.ref c2) "__getattribute__" = some (some (.builtin "BaseException.__getattribute__")))
    (gg_c2 : PySem.W.findIn K (.ref c2) "__getattr__" = some none)
    (hx_c2 : PySem.W.hasDictIn K c2 = true)
    (tt_c2 : PySem.W.typeIn K (.ref c2) = some (.type "type"))
    (ss_c2 : PySem.W.subIn K (.ref c2) (.ref c2) = some true)
    (ex_c6 : PySem.W.subIn K (.ref c6) (.type "BaseException") = some true)
    (nf_c6_row : PySem.W.findIn K (.ref c6) "row" = some none)
    (nf_c6_word : PySem.W.findIn K (.ref c6) "word" = some none)
    (ga_c6 : PySem.W.findIn K (.ref c6) "__getattribute__" = some (some (.builtin "BaseException.__getattribute__")))
    (gg_c6 : PySem.W.findIn K (.ref c6) "__getattr__" = some none)
    (hx_c6 : PySem.W.hasDictIn K c6 = true)
    (tt_c6 : PySem.W.typeIn K (.ref c6) = some (.type "type"))
    (ss_c6 : PySem.W.subIn K (.ref c6) (.ref c6) = some true)
    (ocl_c0 : K.lookup c0 = some (excClassObj nmc0 qc0 c0 Nc0 bsc0 bmc0 true snc0 subc0 abc0 colc0 ddc0 k0c0 k1c0 k2c0 k3c0 k5c0 "ValueError.__new__"))
    (ove_c0 : PySem.HandSPX.refsVE bmc0 = true)
    (osa_c0 : PySem.W.findIn K (.ref c0) "__setattr__" = some (some (.builtin "object.__setattr__")))
    (oty_c0 : PySem.W.typeIn K (.ref c0) = some (.type "type"))
    (okc_c0 : PySem.W.keepIn K (.ref c0) = true)
    (osb_c0 : PySem.W.mroIn K c0 (.ref c0) = some true)
    (osu_c0 : PySem.W.ks_superIn K c0 c0 "__init__" = some (some (.builtin "ValueError.__init__")))
    (osv_c0 : PySem.W.subIn K (.ref c0) (.type "ValueError") = some true)
    (o_op : PySem.W.nsIn K cStatics "thirdparty.any" = some none)
    (o_top : (l.prog.main.scope.names.lookup ("super" : Str)).isSome = false)
    (a_ie : PySem.W.findIn K (.ref c0) "__init__" = some (some (.ref f_ie)))
    (y_ie : PySem.W.typeIn K (.ref f_ie) = some (.type "function"))
    (l_ie : K.lookup f_ie = some ⟨oc_ie, od_ie, .func (PySem.W.ksFn "__init__" "InvalidEdition.__init__" (defArgs sIe) (defBody sIe) (defScope sIe) .none kV_ie dc_ie pm_ie an_ie (.ref cdI_ie) ct_ie ccI_ie), sl_ie⟩)
    (c_ie : PySem.W.codeIn K (.ref cdI_ie) "InvalidEdition.__init__" = true)
    (e_ie : K.lookup cdI_ie = some ⟨cclI_ie, cddI_ie, .fields vsI_ie, ccsI_ie⟩)
    (f2_ie : vsI_ie[2]? = some (.str fileI_ie tfI_ie))
    (fl_ie : ((l.prog.main.file : Str) == fileI_ie) = true)
    (ce_ie : K.lookup ccI_ie = some ⟨clI_ie, cldI_ie, .cell (some (.ref c0)), cslI_ie⟩)
    (ocl_c1 : K.lookup c1 = some (excClassObj nmc1 qc1 c1 Nc1 bsc1 bmc1 true snc1 subc1 abc1 colc1 ddc1 k0c1 k1c1 k2c1 k3c1 k5c1 "ValueError.__new__"))
    (ove_c1 : PySem.HandSPX.refsVE bmc1 = true)
    (osa_c1 : PySem.W.findIn K (.ref c1) "__setattr__" = some (some (.builtin "object.__setattr__")))
    (oty_c1 : PySem.W.typeIn K (.ref c1) = some (.type "type"))
    (okc_c1 : PySem.W.keepIn K (.ref c1) = true)
    (osb_c1 : PySem.W.mroIn K c1 (.ref c1) = some true)
    (osu_c1 : PySem.W.ks_superIn K c1 c1 "__init__" = some (some (.builtin "ValueError.__init__")))
    (osv_c1 : PySem.W.subIn K (.ref c1) (.type "ValueError") = some true)
    (a_is : PySem.W.findIn K (.ref c1) "__init__" = some (some (.ref f_is)))
    (y_is : PySem.W.typeIn K (.ref f_is) = some (.type "function"))
    (l_is : K.lookup f_is = some ⟨oc_is, od_is, .func (PySem.W.ksFn "__init__" "InvalidStore.__init__" (defArgs sIs) (defBody sIs) (defScope sIs) .none kV_is dc_is pm_is an_is (.ref cdI_is) ct_is ccI_is), sl_is⟩)
    (c_is : PySem.W.codeIn K (.ref cdI_is) "InvalidStore.__init__" = true)
    (e_is : K.lookup cdI_is = some ⟨cclI_is, cddI_is, .fields vsI_is, ccsI_is⟩)
    (f2_is : vsI_is[2]? = some (.str fileI_is tfI_is))
    (fl_is : ((l.prog.main.file : Str) == fileI_is) = true)
    (ce_is : K.lookup ccI_is = some ⟨clI_is, cldI_is, .cell (some (.ref c1)), cslI_is⟩)
    (ocl_c2 : K.lookup c2 = some (excClassObj nmc2 qc2 c2 Nc2 bsc2 bmc2 true snc2 subc2 abc2 colc2 ddc2 k0c2 k1c2 k2c2 k3c2 k5c2 "ValueError.__new__"))
    (ove_c2 : PySem.HandSPX.refsVE bmc2 = true)
    (osa_c2 : PySem.W.findIn K (.ref c2) "__setattr__" = some (some (.builtin "object.__setattr__")))
    (oty_c2 : PySem.W.typeIn K (.ref c2) = some (.type "type"))
    (okc_c2 : PySem.W.keepIn K (.ref c2) = true)
    (osb_c2 : PySem.W.mroIn K c2 (.ref c2) = some true)
    (osu_c2 : PySem.W.ks_superIn K c2 c2 "__init__" = some (some (.builtin "ValueError.__init__")))
    (osv_c2 : PySem.W.subIn K (.ref c2) (.type "ValueError") = some true)
    (a_iy : PySem.W.findIn K (.ref c2) "__init__" = some (some (.ref f_iy)))
    (y_iy : PySem.W.typeIn K (.ref f_iy) = some (.type "function"))
    (l_iy : K.lookup f_iy = some ⟨oc_iy, od_iy, .func (PySem.W.ksFn "__init__" "InvalidSystem.__init__" (defArgs sIy) (defBody sIy) (defScope sIy) .none kV_iy dc_iy pm_iy an_iy (.ref cdI_iy) ct_iy ccI_iy), sl_iy⟩)
    (c_iy : PySem.W.codeIn K (.ref cdI_iy) "InvalidSystem.__init__" = true)
    (e_iy : K.lookup cdI_iy = some ⟨cclI_iy, cddI_iy, .fields vsI_iy, ccsI_iy⟩)
    (f2_iy : vsI_iy[2]? = some (.str fileI_iy tfI_iy))
    (fl_iy : ((l.prog.main.file : Str) == fileI_iy) = true)
    (ce_iy : K.lookup ccI_iy = some ⟨clI_iy, cldI_iy, .cell (some (.ref c2)), cslI_iy⟩)
    (ocl_c6 : K.lookup c6 = some (excClassObj nmc6 qc6 c6 Nc6 bsc6 bmc6 true snc6 subc6 abc6 colc6 ddc6 k0c6 k1c6 k2c6 k3c6 k5c6 "ValueError.__new__"))
    (ove_c6 : PySem.HandSPX.refsVE bmc6 = true)
    (osa_c6 : PySem.W.findIn K (.ref c6) "__setattr__" = some (some (.builtin "object.__setattr__")))
    (oty_c6 : PySem.W.typeIn K (.ref c6) = some (.type "type"))
    (okc_c6 : PySem.W.keepIn K (.ref c6) = true)
    (osb_c6 : PySem.W.mroIn K c6 (.ref c6) = some true)
    (osu_c6 : PySem.W.ks_superIn K c6 c6 "__init__" = some (some (.builtin "ValueError.__init__")))
    (osv_c6 : PySem.W.subIn K (.ref c6) (.type "ValueError") = some true)
    (a_itx : PySem.W.findIn K (.ref c6) "__init__" = some (some (.ref f_itx)))
    (y_itx : PySem.W.typeIn K (.ref f_itx) = some (.type "function"))
    (l_itx : K.lookup f_itx = some ⟨oc_itx, od_itx, .func (PySem.W.ksFn "__init__" "InvalidText.__init__" (defArgs sIt) (defBody sIt) (defScope sIt) .none kV_itx dc_itx pm_itx an_itx (.ref cdI_itx) ct_itx ccI_itx), sl_itx⟩)
    (c_itx : PySem.W.codeIn K (.ref cdI_itx) "InvalidText.__init__" = true)
    (e_itx : K.lookup cdI_itx = some ⟨cclI_itx, cddI_itx, .fields vsI_itx, ccsI_itx⟩)
    (f2_itx : vsI_itx[2]? = some (.str fileI_itx tfI_itx))
    (fl_itx : ((l.prog.main.file : Str) == fileI_itx) = true)
    (ce_itx : K.lookup ccI_itx = some ⟨clI_itx, cldI_itx, .cell (some (.ref c6)), cslI_itx⟩)
    (no_c0_c6 : PySem.W.subIn K (.ref c0) (.ref c6) = some false)
    (no_c1_c6 : PySem.W.subIn K (.ref c1) (.ref c6) = some false)
    (no_c1_c0 : PySem.W.subIn K (.ref c1) (.ref c0) = some false)
    (no_c2_c6 : PySem.W.subIn K (.ref c2) (.ref c6) = some false)
    (no_c2_c0 : PySem.W.subIn K (.ref c2) (.ref c0) = some false)
    (no_c2_c1 : PySem.W.subIn K (.ref c2) (.ref c1) = some false)
    (exi_c4 : PySem.W.excIn K c4 [.type "ValueError", .type "Exception", .type "BaseException", .type "object"] "ValueError.__new__" = true)
    (ekc_c4 : PySem.W.keepIn K (.ref c4) = true)
    (eb_c4 : PySem.W.subIn K (.ref c4) (.type "BaseException") = some true)
    (et_c4 : PySem.W.typeIn K (.ref c4) = some (.type "type"))
    (exi_c5 : PySem.W.excIn K c5 [.type "ValueError", .type "Exception", .type "BaseException", .type "object"] "ValueError.__new__" = true)
    (ekc_c5 : PySem.W.keepIn K (.ref c5) = true)
    (eb_c5 : PySem.W.subIn K (.ref c5) (.type "BaseException") = some true)
    (et_c5 : PySem.W.typeIn K (.ref c5) = some (.type "type"))
    (v_let : PySem.W.nsIn K mainGlobals "LETTERS" = some (some (.str LET tLet)))
    (v_dig : PySem.W.nsIn K mainGlobals "DIGITS" = some (some (.str DIG tDig)))
    (v_lnn : PySem.W.nsIn K mainGlobals "LONGEST_NUMERAL" = some (some (.int 2 t_lnn)))
    (v_lon : PySem.W.nsIn K mainGlobals "LONGEST_WORD" = some (some (.int 8 t_lon)))
    (v_lv : PySem.W.nsIn K mainGlobals "LEAST_VERSION" = some (some (.int 1 t_lv)))
    (v_mv : PySem.W.nsIn K mainGlobals "MOST_VERSION" = some (some (.int 99 t_mv)))
    (v_me : PySem.W.nsIn K mainGlobals "MOST_EDITIONS" = some (some (.int 12 t_me)))
    (v_mn : PySem.W.nsIn K mainGlobals "MOST_NAMES" = some (some (.int 4 t_mn)))
    (v_scr : PySem.W.nsIn K mainGlobals "SCRIPTS" = some (some (.ref aS)))
    (a_ei : PySem.W.findIn K (.ref C) "__init__" = some (some (.ref f_ei)))
    (l_ei : K.lookup f_ei = some ⟨oc_ei, od_ei, .func (PySem.W.fnOf "__init__" "Edition.__init__" (defArgs sEi) (defBody sEi) (defScope sEi) .none (.ref kD) dc_ei pm_ei an_ei cd_ei ct_ei), sl_ei⟩)
    (c_ei : PySem.W.codeIn K cd_ei "Edition.__init__" = true)
    (k_ei : PySem.W.keepIn K (.ref f_ei) = true)
    (i_ei : PySem.W.isFn K (.ref f_ei) = true)
    (mk_C : PySem.W.makesIn K C = true)
    (kc_C : PySem.W.keepIn K (.ref C) = true)
    (d_scripts : PySem.W.nsIn K kD "scripts" = some (some (.ref aS)))
    (d_needs : PySem.W.nsIn K kD "needs" = some (some (.ref z1)))
    (d_first : PySem.W.nsIn K kD "first" = some (some (.ref z2)))
    (d_against : PySem.W.nsIn K kD "against" = some (some (.ref z3)))
    (t_S : K.lookup aS = some ⟨.type "tuple", ddS, .seq #[.str "clean" q0, .str "enter" q1, .str "leave" q2, .str "setup" q3] nS, slS⟩)
    (t_1 : K.lookup z1 = some ⟨.type "tuple", dd1, .seq #[] n1, sl1⟩)
    (t_2 : K.lookup z2 = some ⟨.type "tuple", dd2, .seq #[] n2, sl2⟩)
    (t_3 : K.lookup z3 = some ⟨.type "tuple", dd3, .seq #[] n3, sl3⟩)
    (na_C_parts : PySem.W.findIn K (.ref C) "parts" = some none)
    (pa_g0 : PySem.W.findIn K (.ref C) "name" = some (some (.ref p_g0)))
    (pg_g0 : PySem.W.specialIn K (.ref p_g0) "__get__" = some (some (.builtin "property.__get__")))
    (pt_g0 : PySem.W.takesIn K (.ref p_g0) = some true)
    (pr_g0 : PySem.W.recIn K p_g0 "property" = some (.ref f_g0 :: rest_g0))
    (l_g0 : K.lookup f_g0 = some ⟨oc_g0, od_g0, .func (PySem.W.fnOf "name" "Edition.name" (defArgs (sGet 0)) (defBody (sGet 0)) (defScope (sGet 0)) .none kV_g0 dc_g0 pm_g0 an_g0 cd_g0 ct_g0), sl_g0⟩)
    (c_g0 : PySem.W.codeIn K cd_g0 "Edition.name" = true)
    (k_g0 : PySem.W.keepIn K (.ref f_g0) = true)
    (pa_g1 : PySem.W.findIn K (.ref C) "version" = some (some (.ref p_g1)))
    (pg_g1 : PySem.W.specialIn K (.ref p_g1) "__get__" = some (some (.builtin "property.__get__")))
    (pt_g1 : PySem.W.takesIn K (.ref p_g1) = some true)
    (pr_g1 : PySem.W.recIn K p_g1 "property" = some (.ref f_g1 :: rest_g1))
    (l_g1 : K.lookup f_g1 = some ⟨oc_g1, od_g1, .func (PySem.W.fnOf "version" "Edition.version" (defArgs (sGet 1)) (defBody (sGet 1)) (defScope (sGet 1)) .none kV_g1 dc_g1 pm_g1 an_g1 cd_g1 ct_g1), sl_g1⟩)
    (c_g1 : PySem.W.codeIn K cd_g1 "Edition.version" = true)
    (k_g1 : PySem.W.keepIn K (.ref f_g1) = true)
    (na_CT_table : PySem.W.findIn K (.ref CT) "table" = some none)
    (na_CT_numbers : PySem.W.findIn K (.ref CT) "numbers" = some none)
    (a_si : PySem.W.findIn K (.ref CT) "__init__" = some (some (.ref f_si)))
    (l_si : K.lookup f_si = some ⟨oc_si, od_si, .func (PySem.W.fnOf "__init__" "Store.__init__" (defArgs (sSt 0)) (defBody (sSt 0)) (defScope (sSt 0)) .none kV_si dc_si pm_si an_si cd_si ct_si), sl_si⟩)
    (c_si : PySem.W.codeIn K cd_si "Store.__init__" = true)
    (k_si : PySem.W.keepIn K (.ref f_si) = true)
    (i_si : PySem.W.isFn K (.ref f_si) = true)
    (mk_CT : PySem.W.makesIn K CT = true)
    (kc_CT : PySem.W.keepIn K (.ref CT) = true)
    (pa_sn : PySem.W.findIn K (.ref CT) "names" = some (some (.ref p_sn)))
    (pg_sn : PySem.W.specialIn K (.ref p_sn) "__get__" = some (some (.builtin "property.__get__")))
    (pt_sn : PySem.W.takesIn K (.ref p_sn) = some true)
    (pr_sn : PySem.W.recIn K p_sn "property" = some (.ref f_sn :: rest_sn))
    (l_sn : K.lookup f_sn = some ⟨oc_sn, od_sn, .func (PySem.W.fnOf "names" "Store.names" (defArgs (sSt 1)) (defBody (sSt 1)) (defScope (sSt 1)) .none kV_sn dc_sn pm_sn an_sn cd_sn ct_sn), sl_sn⟩)
    (c_sn : PySem.W.codeIn K cd_sn "Store.names" = true)
    (k_sn : PySem.W.keepIn K (.ref f_sn) = true)
    (a_sh : PySem.W.findIn K (.ref CT) "__contains__" = some (some (.ref f_sh)))
    (l_sh : K.lookup f_sh = some ⟨oc_sh, od_sh, .func (PySem.W.fnOf "__contains__" "Store.__contains__" (defArgs (sSt 4)) (defBody (sSt 4)) (defScope (sSt 4)) .none kV_sh dc_sh pm_sh an_sh cd_sh ct_sh), sl_sh⟩)
    (c_sh : PySem.W.codeIn K cd_sh "Store.__contains__" = true)
    (k_sh : PySem.W.keepIn K (.ref f_sh) = true)
    (i_sh : PySem.W.isFn K (.ref f_sh) = true)
    (na_CY_held_store : PySem.W.findIn K (.ref CY) "held_store" = some none)
    (na_CY_held_states : PySem.W.findIn K (.ref CY) "held_states" = some none)
    (a_yi : PySem.W.findIn K (.ref CY) "__init__" = some (some (.ref f_yi)))
    (l_yi : K.lookup f_yi = some ⟨oc_yi, od_yi, .func (PySem.W.fnOf "__init__" "System.__init__" (defArgs (sSy 0)) (defBody (sSy 0)) (defScope (sSy 0)) .none kV_yi dc_yi pm_yi an_yi cd_yi ct_yi), sl_yi⟩)
    (c_yi : PySem.W.codeIn K cd_yi "System.__init__" = true)
    (k_yi : PySem.W.keepIn K (.ref f_yi) = true)
    (i_yi : PySem.W.isFn K (.ref f_yi) = true)
    (mk_CY : PySem.W.makesIn K CY = true)
    (kc_CY : PySem.W.keepIn K (.ref CY) = true)
    (na_CR_place : PySem.W.findIn K (.ref CR) "place" = some none)
    (na_CR_words : PySem.W.findIn K (.ref CR) "words" = some none)
    (na_CR_taken : PySem.W.findIn K (.ref CR) "taken" = some none)
    (a_wi_ : PySem.W.findIn K (.ref CR) "__init__" = some (some (.ref f_wi_)))
    (l_wi_ : K.lookup f_wi_ = some ⟨oc_wi_, od_wi_, .func (PySem.W.fnOf "__init__" "Row.__init__" (defArgs (sRw 0)) (defBody (sRw 0)) (defScope (sRw 0)) .none kV_wi_ dc_wi_ pm_wi_ an_wi_ cd_wi_ ct_wi_), sl_wi_⟩)
    (c_wi_ : PySem.W.codeIn K cd_wi_ "Row.__init__" = true)
    (k_wi_ : PySem.W.keepIn K (.ref f_wi_) = true)
    (i_wi_ : PySem.W.isFn K (.ref f_wi_) = true)
    (a_wie : PySem.W.findIn K (.ref CR) "is_ended" = some (some (.ref f_wie)))
    (l_wie : K.lookup f_wie = some ⟨oc_wie, od_wie, .func (PySem.W.fnOf "is_ended" "Row.is_ended" (defArgs (sRw 1)) (defBody (sRw 1)) (defScope (sRw 1)) .none kV_wie dc_wie pm_wie an_wie cd_wie ct_wie), sl_wie⟩)
    (c_wie : PySem.W.codeIn K cd_wie "Row.is_ended" = true)
    (k_wie : PySem.W.keepIn K (.ref f_wie) = true)
    (i_wie : PySem.W.isFn K (.ref f_wie) = true)
    (a_wtk : PySem.W.findIn K (.ref CR) "take" = some (some (.ref f_wtk)))
    (l_wtk : K.lookup f_wtk = some ⟨oc_wtk, od_wtk, .func (PySem.W.fnOf "take" "Row.take" (defArgs (sRw 2)) (defBody (sRw 2)) (defScope (sRw 2)) .none kV_wtk dc_wtk pm_wtk an_wtk cd_wtk ct_wtk), sl_wtk⟩)
    (c_wtk : PySem.W.codeIn K cd_wtk "Row.take" = true)
    (k_wtk : PySem.W.keepIn K (.ref f_wtk) = true)
    (i_wtk : PySem.W.isFn K (.ref f_wtk) = true)
    (a_wap : PySem.W.findIn K (.ref CR) "approve" = some (some (.ref f_wap)))
    (l_wap : K.lookup f_wap = some ⟨oc_wap, od_wap, .func (PySem.W.fnOf "approve" "Row.approve" (defArgs (sRw 3)) (defBody (sRw 3)) (defScope (sRw 3)) .none kV_wap dc_wap pm_wap an_wap cd_wap ct_wap), sl_wap⟩)
    (c_wap : PySem.W.codeIn K cd_wap "Row.approve" = true)
    (k_wap : PySem.W.keepIn K (.ref f_wap) = true)
    (i_wap : PySem.W.isFn K (.ref f_wap) = true)
    (a_wfi : PySem.W.findIn K (.ref CR) "finish" = some (some (.ref f_wfi)))
    (l_wfi : K.lookup f_wfi = some ⟨oc_wfi, od_wfi, .func (PySem.W.fnOf "finish" "Row.finish" (defArgs (sRw 4)) (defBody (sRw 4)) (defScope (sRw 4)) .none kV_wfi dc_wfi pm_wfi an_wfi cd_wfi ct_wfi), sl_wfi⟩)
    (c_wfi : PySem.W.codeIn K cd_wfi "Row.finish" = true)
    (k_wfi : PySem.W.keepIn K (.ref f_wfi) = true)
    (i_wfi : PySem.W.isFn K (.ref f_wfi) = true)
    (mk_CR : PySem.W.makesIn K CR = true)
    (kc_CR : PySem.W.keepIn K (.ref CR) = true)
    (na_CD_last_word : PySem.W.findIn K (.ref CD) "last_word" = some none)
    (na_CD_last_key : PySem.W.findIn K (.ref CD) "last_key" = some none)
    (na_CD_last_name : PySem.W.findIn K (.ref CD) "last_name" = some none)
    (na_CD_part_dicts : PySem.W.findIn K (.ref CD) "part_dicts" = some none)
    (na_CD_told_states : PySem.W.findIn K (.ref CD) "told_states" = some none)
    (a_di_ : PySem.W.findIn K (.ref CD) "__init__" = some (some (.ref f_di_)))
    (l_di_ : K.lookup f_di_ = some ⟨oc_di_, od_di_, .func (PySem.W.fnOf "__init__" "Draft.__init__" (defArgs (sDr 0)) (defBody (sDr 0)) (defScope (sDr 0)) .none kV_di_ dc_di_ pm_di_ an_di_ cd_di_ ct_di_), sl_di_⟩)
    (c_di_ : PySem.W.codeIn K cd_di_ "Draft.__init__" = true)
    (k_di_ : PySem.W.keepIn K (.ref f_di_) = true)
    (i_di_ : PySem.W.isFn K (.ref f_di_) = true)
    (a_dar : PySem.W.findIn K (.ref CD) "add_row" = some (some (.ref f_dar)))
    (l_dar : K.lookup f_dar = some ⟨oc_dar, od_dar, .func (PySem.W.fnOf "add_row" "Draft.add_row" (defArgs (sDr 1)) (defBody (sDr 1)) (defScope (sDr 1)) .none kV_dar dc_dar pm_dar an_dar cd_dar ct_dar), sl_dar⟩)
    (c_dar : PySem.W.codeIn K cd_dar "Draft.add_row" = true)
    (k_dar : PySem.W.keepIn K (.ref f_dar) = true)
    (i_dar : PySem.W.isFn K (.ref f_dar) = true)
    (mk_CD : PySem.W.makesIn K CD = true)
    (kc_CD : PySem.W.keepIn K (.ref CD) = true)
    (v_shp : PySem.W.nsIn K mainGlobals "FOLLOWERS" = some (some (.ref dSh)))
    (d_shp : K.lookup dSh = some ⟨.type "dict", none, .dict #[⟨hh0, .str "" kt0, .ref sh0⟩, ⟨hh1, .str "edition" kt1, .ref sh1⟩, ⟨hh2, .str "scripts" kt2, .ref sh2⟩, ⟨hh3, .str "needs" kt3, .ref sh3⟩, ⟨hh4, .str "first" kt4, .ref sh4⟩, ⟨hh5, .str "against" kt5, .ref sh5⟩, ⟨hh6, .str "state" kt6, .ref sh6⟩] nSh, #[]⟩)
    (y_shp : PySem.W.KeysLit w.params (#[⟨hh0, .str "" kt0, .ref sh0⟩, ⟨hh1, .str "edition" kt1, .ref sh1⟩, ⟨hh2, .str "scripts" kt2, .ref sh2⟩, ⟨hh3, .str "needs" kt3, .ref sh3⟩, ⟨hh4, .str "first" kt4, .ref sh4⟩, ⟨hh5, .str "against" kt5, .ref sh5⟩, ⟨hh6, .str "state" kt6, .ref sh6⟩] : Array DictEntry).toList)
    (lo_shp : (dSh == sysModules) = false)
    (t_sh0 : K.lookup sh0 = some ⟨.type "tuple", dsh0, .seq #[.str "edition" w0_0] nsh0, slh0⟩)
    (t_sh1 : K.lookup sh1 = some ⟨.type "tuple", dsh1, .seq #[.str "scripts" w1_0, .str "needs" w1_1, .str "first" w1_2, .str "against" w1_3, .str "edition" w1_4, .str "state" w1_5] nsh1, slh1⟩)
    (t_sh2 : K.lookup sh2 = some ⟨.type "tuple", dsh2, .seq #[.str "needs" w2_0, .str "first" w2_1, .str "against" w2_2, .str "edition" w2_3, .str "state" w2_4] nsh2, slh2⟩)
    (t_sh3 : K.lookup sh3 = some ⟨.type "tuple", dsh3, .seq #[.str "first" w3_0, .str "against" w3_1, .str "edition" w3_2, .str "state" w3_3] nsh3, slh3⟩)
    (t_sh4 : K.lookup sh4 = some ⟨.type "tuple", dsh4, .seq #[.str "against" w4_0, .str "edition" w4_1, .str "state" w4_2] nsh4, slh4⟩)
    (t_sh5 : K.lookup sh5 = some ⟨.type "tuple", dsh5, .seq #[.str "edition" w5_0, .str "state" w5_1] nsh5, slh5⟩)
    (t_sh6 : K.lookup sh6 = some ⟨.type "tuple", dsh6, .seq #[.str "state" w6_0] nsh6, slh6⟩)
    (v_sta : PySem.W.nsIn K mainGlobals "STATUSES" = some (some (.ref aZ)))
    (t_Z : K.lookup aZ = some ⟨.type "tuple", ddZ, .seq #[.str "absent" e0, .str "failed" e1, .str "half" e2, .str "left" e3, .str "ready" e4, .str "unpacked" e5] nZ, slZ⟩)
    (v_abs : PySem.W.nsIn K mainGlobals "ABSENT" = some (some (.ref aA)))
    (t_A : K.lookup aA = some ⟨.type "tuple", ddA, .seq #[.str "absent" b0, .int 0 b1, .int 0 b2] nA, slA⟩)
    : LawAtS l w K CX0 12 63 "_law_script" mg fa h := by
  have e := hfa.symm.trans (PySem.W.mg_of X G a_law)
  cases e
  have none_ : ∀ {x : Str}, PySem.W.nsIn K mainGlobals x = some none → mg x = none := fun h => PySem.W.mg_none_of X G h
  have F_word := fun_mk (st := sWord) l_word c_word k_word
  have B_word := F_word.binds (ps := ["text"]) fun _ _ _ _ _ _ us hl => match us, hl with | [_], _ => rfl
  have F_numb := fun_mk (st := sNumber) l_numb c_numb k_numb
  have B_numb := F_numb.binds (ps := ["value", "least", "most"]) fun _ _ _ _ _ _ us hl => match us, hl with | [_, _, _], _ => rfl
  have F_asc := fun_mk (st := sAscends) l_asc c_asc k_asc
  have B_asc := F_asc.binds (ps := ["values"]) fun _ _ _ _ _ _ us hl => match us, hl with | [_], _ => rfl
  have F_vers := fun_mk (st := sVersion) l_vers c_vers k_vers
  have B_vers := F_vers.binds (ps := ["value"]) fun _ _ _ _ _ _ us hl => match us, hl with | [_], _ => rfl
  have F_scri := fun_mk (st := sScripts) l_scri c_scri k_scri
  have B_scri := F_scri.binds (ps := ["values"]) fun _ _ _ _ _ _ us hl => match us, hl with | [_], _ => rfl
  have F_othe := fun_mk (st := sOthers) l_othe c_othe k_othe
  have B_othe := F_othe.binds (ps := ["values", "name"]) fun _ _ _ _ _ _ us hl => match us, hl with | [_, _], _ => rfl
  have F_pair := fun_mk (st := sPair) l_pair c_pair k_pair
  have B_pair := F_pair.binds (ps := ["value"]) fun _ _ _ _ _ _ us hl => match us, hl with | [_], _ => rfl
  have F_need := fun_mk (st := sNeeds) l_need c_need k_need
  have B_need := F_need.binds (ps := ["values", "name"]) fun _ _ _ _ _ _ us hl => match us, hl with | [_, _], _ => rfl
  have F_wron := fun_mk (st := sWrong) l_wron c_wron k_wron
  have B_wron := F_wron.binds (ps := ["name", "version", "scripts", "needs", "first", "against"]) fun _ _ _ _ _ _ us hl => match us, hl with | [_, _, _, _, _, _], _ => rfl
  have F_wi := fun_mk (st := sWi) l_wi c_wi k_wi
  have B_wi := F_wi.binds (ps := ["editions"]) fun _ _ _ _ _ _ us hl => match us, hl with | [_], _ => rfl
  have F_vn := fun_mk (st := sVn) l_vn c_vn k_vn
  have B_vn := F_vn.binds (ps := ["keys"]) fun _ _ _ _ _ _ us hl => match us, hl with | [_], _ => rfl
  have F_take := fun_mk (st := sTaken) l_take c_take k_take
  have B_take := F_take.binds (ps := ["_law_row", "_law_many"]) fun _ _ _ _ _ _ us hl => match us, hl with | [_, _], _ => rfl
  have F_ist := fun_mk (st := sIst) l_ist c_ist k_ist
  have B_ist := F_ist.binds (ps := ["store", "name", "state"]) fun _ _ _ _ _ _ us hl => match us, hl with | [_, _, _], _ => rfl
  have F_wp := fun_mk (st := sWp) l_wp c_wp k_wp
  have B_wp := F_wp.binds (ps := ["store", "states"]) fun _ _ _ _ _ _ us hl => match us, hl with | [_, _], _ => rfl
  have F_nml := fun_mk (st := sNml) l_nml c_nml k_nml
  have B_nml := F_nml.binds (ps := ["text"]) fun _ _ _ _ _ _ us hl => match us, hl with | [_], _ => rfl
  have F_bs := fun_mk (st := sBs) l_bs c_bs k_bs
  have B_bs := F_bs.binds (ps := ["parts", "states"]) fun _ _ _ _ _ _ us hl => match us, hl with | [_, _], _ => rfl
  have F_tkn := fun_mk (st := sTkn) l_tkn c_tkn k_tkn
  have B_tkn := F_tkn.binds (ps := ["row", "before"]) fun _ _ _ _ _ _ us hl => match us, hl with | [_, _], _ => rfl
  have F_tku := fun_mk (st := sTku) l_tku c_tku k_tku
  have B_tku := F_tku.binds (ps := ["row"]) fun _ _ _ _ _ _ us hl => match us, hl with | [_], _ => rfl
  have F_tks := fun_mk (st := sTks) l_tks c_tks k_tks
  have B_tks := F_tks.binds (ps := ["row"]) fun _ _ _ _ _ _ us hl => match us, hl with | [_], _ => rfl
  have F_tkd := fun_mk (st := sTkd) l_tkd c_tkd k_tkd
  have B_tkd := F_tkd.binds (ps := ["row"]) fun _ _ _ _ _ _ us hl => match us, hl with | [_], _ => rfl
  have F_tka := fun_mk (st := sTka) l_tka c_tka k_tka
  have B_tka := F_tka.binds (ps := ["row"]) fun _ _ _ _ _ _ us hl => match us, hl with | [_], _ => rfl
  have F_tky := fun_mk (st := sTky) l_tky c_tky k_tky
  have B_tky := F_tky.binds (ps := ["row", "before"]) fun _ _ _ _ _ _ us hl => match us, hl with | [_, _], _ => rfl
  have F_tst := fun_mk (st := sTst) l_tst c_tst k_tst
  have B_tst := F_tst.binds (ps := ["row"]) fun _ _ _ _ _ _ us hl => match us, hl with | [_], _ => rfl
  have F_pin := fun_mk (st := sPin) l_pin c_pin k_pin
  have B_pin := F_pin.binds (ps := ["row", "word"]) fun _ _ _ _ _ _ us hl => match us, hl with | [_, _], _ => rfl
  have F_pse := fun_mk (st := sPs) l_pse c_pse k_pse
  have B_pse := F_pse.binds (ps := ["text"]) fun _ _ _ _ _ _ us hl => match us, hl with | [_], _ => rfl
  have F_pl := fun_mk (st := sPl) l_pl c_pl k_pl
  have B_pl := F_pl.binds (ps := ["_law_rows"]) fun _ _ _ _ _ _ us hl => match us, hl with | [_], _ => rfl
  have F_are := fun_mk (st := sAre) l_are c_are k_are
  have B_are := F_are.binds (ps := ["_law_row", "_law_good"]) fun _ _ _ _ _ _ us hl => match us, hl with | [_, _], _ => rfl
  have cl_C : Cls K C := ⟨pg_C, hd_C, po_C, sa_C⟩
  have cl_CT : Cls K CT := ⟨pg_CT, hd_CT, po_CT, sa_CT⟩
  have cl_CY : Cls K CY := ⟨pg_CY, hd_CY, po_CY, sa_CY⟩
  have cl_CR : Cls K CR := ⟨pg_CR, hd_CR, po_CR, sa_CR⟩
  have cl_CD : Cls K CD := ⟨pg_CD, hd_CD, po_CD, sa_CD⟩
  have OX_c0 : OexC K c0 := ⟨⟨_, _, _, _, _, _, _, _, _, _, _, _, _, _, _, ocl_c0, ove_c0⟩, osa_c0, ex_c0, oty_c0, okc_c0⟩
  have SP_c0 : SupC l.prog K mg c0 := ⟨OX_c0, osb_c0, osu_c0, osv_c0, o_op, none_ n_super, o_top⟩
  have ER_ie : ErrFn l.prog K c0 "InvalidEdition.__init__" sIe f_ie _ := ⟨⟨_, _, _, _, _, _, _, _, _, _, _, _, _, _, _, _, _, _, _, rfl, l_ie, c_ie, e_ie, f2_ie, fl_ie, ce_ie⟩⟩
  have OX_c1 : OexC K c1 := ⟨⟨_, _, _, _, _, _, _, _, _, _, _, _, _, _, _, ocl_c1, ove_c1⟩, osa_c1, ex_c1, oty_c1, okc_c1⟩
  have SP_c1 : SupC l.prog K mg c1 := ⟨OX_c1, osb_c1, osu_c1, osv_c1, o_op, none_ n_super, o_top⟩
  have ER_is : ErrFn l.prog K c1 "InvalidStore.__init__" sIs f_is _ := ⟨⟨_, _, _, _, _, _, _, _, _, _, _, _, _, _, _, _, _, _, _, rfl, l_is, c_is, e_is, f2_is, fl_is, ce_is⟩⟩
  have OX_c2 : OexC K c2 := ⟨⟨_, _, _, _, _, _, _, _, _, _, _, _, _, _, _, ocl_c2, ove_c2⟩, osa_c2, ex_c2, oty_c2, okc_c2⟩
  have SP_c2 : SupC l.prog K mg c2 := ⟨OX_c2, osb_c2, osu_c2, osv_c2, o_op, none_ n_super, o_top⟩
  have ER_iy : ErrFn l.prog K c2 "InvalidSystem.__init__" sIy f_iy _ := ⟨⟨_, _, _, _, _, _, _, _, _, _, _, _, _, _, _, _, _, _, _, rfl, l_iy, c_iy, e_iy, f2_iy, fl_iy, ce_iy⟩⟩
  have OX_c6 : OexC K c6 := ⟨⟨_, _, _, _, _, _, _, _, _, _, _, _, _, _, _, ocl_c6, ove_c6⟩, osa_c6, ex_c6, oty_c6, okc_c6⟩
  have SP_c6 : SupC l.prog K mg c6 := ⟨OX_c6, osb_c6, osu_c6, osv_c6, o_op, none_ n_super, o_top⟩
  have ER_itx : ErrFn l.prog K c6 "InvalidText.__init__" sIt f_itx _ := ⟨⟨_, _, _, _, _, _, _, _, _, _, _, _, _, _, _, _, _, _, _, rfl, l_itx, c_itx, e_itx, f2_itx, fl_itx, ce_itx⟩⟩
  have EC_c4 : ErrC K mg "UnknownEdition" c4 := ⟨PySem.W.mg_of X G g_c4, exi_c4, ekc_c4, eb_c4, et_c4⟩
  have EC_c5 : ErrC K mg "UnknownName" c5 := ⟨PySem.W.mg_of X G g_c5, exi_c5, ekc_c5, eb_c5, et_c5⟩
  have F_g0 := fun_mk (st := (sGet 0)) l_g0 c_g0 k_g0
  have B_g0 := F_g0.binds (ps := ["self"]) fun _ _ _ _ _ _ us hl => match us, hl with | [_], _ => rfl
  have P_g0 : PropOf K C "name" p_g0 f_g0 := ⟨pa_g0, pg_g0, pt_g0, ⟨_, pr_g0⟩⟩
  have F_g1 := fun_mk (st := (sGet 1)) l_g1 c_g1 k_g1
  have B_g1 := F_g1.binds (ps := ["self"]) fun _ _ _ _ _ _ us hl => match us, hl with | [_], _ => rfl
  have P_g1 : PropOf K C "version" p_g1 f_g1 := ⟨pa_g1, pg_g1, pt_g1, ⟨_, pr_g1⟩⟩
  have F_si := fun_mk (st := (sSt 0)) l_si c_si k_si
  have B_si := F_si.binds (ps := ["self", "editions"]) fun _ _ _ _ _ _ us hl => match us, hl with | [_, _], _ => rfl
  have F_sn := fun_mk (st := (sSt 1)) l_sn c_sn k_sn
  have B_sn := F_sn.binds (ps := ["self"]) fun _ _ _ _ _ _ us hl => match us, hl with | [_], _ => rfl
  have P_sn : PropOf K CT "names" p_sn f_sn := ⟨pa_sn, pg_sn, pt_sn, ⟨_, pr_sn⟩⟩
  have F_sh := fun_mk (st := (sSt 4)) l_sh c_sh k_sh
  have B_sh := F_sh.binds (ps := ["self", "x"]) fun _ _ _ _ _ _ us hl => match us, hl with | [_, _], _ => rfl
  have F_yi := fun_mk (st := (sSy 0)) l_yi c_yi k_yi
  have B_yi := F_yi.binds (ps := ["self", "store", "states"]) fun _ _ _ _ _ _ us hl => match us, hl with | [_, _, _], _ => rfl
  have F_wi_ := fun_mk (st := (sRw 0)) l_wi_ c_wi_ k_wi_
  have B_wi_ := F_wi_.binds (ps := ["self", "place", "text"]) fun _ _ _ _ _ _ us hl => match us, hl with | [_, _, _], _ => rfl
  have F_wie := fun_mk (st := (sRw 1)) l_wie c_wie k_wie
  have B_wie := F_wie.binds (ps := ["self"]) fun _ _ _ _ _ _ us hl => match us, hl with | [_], _ => rfl
  have F_wtk := fun_mk (st := (sRw 2)) l_wtk c_wtk k_wtk
  have B_wtk := F_wtk.binds (ps := ["self"]) fun _ _ _ _ _ _ us hl => match us, hl with | [_], _ => rfl
  have F_wap := fun_mk (st := (sRw 3)) l_wap c_wap k_wap
  have B_wap := F_wap.binds (ps := ["self", "right"]) fun _ _ _ _ _ _ us hl => match us, hl with | [_, _], _ => rfl
  have F_wfi := fun_mk (st := (sRw 4)) l_wfi c_wfi k_wfi
  have B_wfi := F_wfi.binds (ps := ["self"]) fun _ _ _ _ _ _ us hl => match us, hl with | [_], _ => rfl
  have F_di_ := fun_mk (st := (sDr 0)) l_di_ c_di_ k_di_
  have B_di_ := F_di_.binds (ps := ["self"]) fun _ _ _ _ _ _ us hl => match us, hl with | [_], _ => rfl
  have F_dar := fun_mk (st := (sDr 1)) l_dar c_dar k_dar
  have B_dar := F_dar.binds (ps := ["self", "row"]) fun _ _ _ _ _ _ us hl => match us, hl with | [_, _], _ => rfl
  have tsh0 : ∀ H, SqT K H sh0 ((["edition"] : List Str).map V.str) := fun H => .inr ⟨_, _, _, t_sh0, rfl, rfl, (by decide : 1 ≤ sizeLine), .cons ⟨_, rfl⟩ .nil⟩
  have tsh1 : ∀ H, SqT K H sh1 ((["scripts", "needs", "first", "against", "edition", "state"] : List Str).map V.str) := fun H => .inr ⟨_, _, _, t_sh1, rfl, rfl, (by decide : 6 ≤ sizeLine), .cons ⟨_, rfl⟩ (.cons ⟨_, rfl⟩ (.cons ⟨_, rfl⟩ (.cons ⟨_, rfl⟩ (.cons ⟨_, rfl⟩ (.cons ⟨_, rfl⟩ .nil)))))⟩
  have tsh2 : ∀ H, SqT K H sh2 ((["needs", "first", "against", "edition", "state"] : List Str).map V.str) := fun H => .inr ⟨_, _, _, t_sh2, rfl, rfl, (by decide : 5 ≤ sizeLine), .cons ⟨_, rfl⟩ (.cons ⟨_, rfl⟩ (.cons ⟨_, rfl⟩ (.cons ⟨_, rfl⟩ (.cons ⟨_, rfl⟩ .nil))))⟩
  have tsh3 : ∀ H, SqT K H sh3 ((["first", "against", "edition", "state"] : List Str).map V.str) := fun H => .inr ⟨_, _, _, t_sh3, rfl, rfl, (by decide : 4 ≤ sizeLine), .cons ⟨_, rfl⟩ (.cons ⟨_, rfl⟩ (.cons ⟨_, rfl⟩ (.cons ⟨_, rfl⟩ .nil)))⟩
  have tsh4 : ∀ H, SqT K H sh4 ((["against", "edition", "state"] : List Str).map V.str) := fun H => .inr ⟨_, _, _, t_sh4, rfl, rfl, (by decide : 3 ≤ sizeLine), .cons ⟨_, rfl⟩ (.cons ⟨_, rfl⟩ (.cons ⟨_, rfl⟩ .nil))⟩
  have tsh5 : ∀ H, SqT K H sh5 ((["edition", "state"] : List Str).map V.str) := fun H => .inr ⟨_, _, _, t_sh5, rfl, rfl, (by decide : 2 ≤ sizeLine), .cons ⟨_, rfl⟩ (.cons ⟨_, rfl⟩ .nil)⟩
  have tsh6 : ∀ H, SqT K H sh6 ((["state"] : List Str).map V.str) := fun H => .inr ⟨_, _, _, t_sh6, rfl, rfl, (by decide : 1 ≤ sizeLine), .cons ⟨_, rfl⟩ .nil⟩
  have tS : ∀ H, SqT K H aS (SCR.map V.str) := fun H => .inr ⟨_, _, _, t_S, rfl, rfl, (by decide : 4 ≤ sizeLine), .cons ⟨_, rfl⟩ (.cons ⟨_, rfl⟩ (.cons ⟨_, rfl⟩ (.cons ⟨_, rfl⟩ .nil)))⟩
  have t1 : ∀ H, SqT K H z1 [] := fun H => .inr ⟨_, _, _, t_1, rfl, rfl, by decide, .nil⟩
  have t2 : ∀ H, SqT K H z2 [] := fun H => .inr ⟨_, _, _, t_2, rfl, rfl, by decide, .nil⟩
  have t3 : ∀ H, SqT K H z3 [] := fun H => .inr ⟨_, _, _, t_3, rfl, rfl, by decide, .nil⟩
  have tZ : ∀ H, SqT K H aZ (STA.map V.str) := fun H => .inr ⟨_, _, _, t_Z, rfl, rfl, (by decide : 6 ≤ sizeLine), .cons ⟨_, rfl⟩ (.cons ⟨_, rfl⟩ (.cons ⟨_, rfl⟩ (.cons ⟨_, rfl⟩ (.cons ⟨_, rfl⟩ (.cons ⟨_, rfl⟩ .nil)))))⟩
  have tA : ∀ H, SqT K H aA (stV AB) := fun H => .inr ⟨_, _, _, t_A, rfl, rfl, (by decide : 3 ≤ sizeLine), .cons ⟨_, rfl⟩ (.cons ⟨_, rfl⟩ (.cons ⟨_, rfl⟩ .nil))⟩
  have TD0 : TxtD mg := ⟨none_ n_int, none_ n_len⟩
  have TC : TxtC K mg 0 0 0 0 0 0 0 := ⟨TD0, none_ n_isinstance, none_ n_str, none_ n_bool, none_ n_tuple, none_ n_all, none_ n_range, ⟨_, PySem.W.mg_of X G v_let⟩, ⟨_, PySem.W.mg_of X G v_lon⟩⟩
  have TE0 : TxtE K mg := ⟨TD0, none_ n_isinstance, none_ n_str, none_ n_bool, none_ n_tuple, none_ n_all, none_ n_range, ⟨_, PySem.W.mg_of X G v_lv⟩, ⟨_, PySem.W.mg_of X G v_mv⟩, ⟨_, PySem.W.mg_of X G v_scr, tS⟩⟩
  have TG : TxtG l.prog K mg C c0 f_ie _ := ⟨cl_C, na_C_parts, PySem.W.mg_of X G g_C, PySem.W.mg_of X G g_c0, SP_c0, nf_c0_part, a_ie, y_ie, ER_ie, Binds.all fun us hl => match us, hl with | [_, _], _ => rfl⟩
  have TT : TxtT K mg CT c5 c4 := ⟨cl_CT, na_CT_table, na_CT_numbers, none_ n_tuple, none_ n_len, none_ n_isinstance, none_ n_bool, PySem.W.mg_of X G g_CT, EC_c5, EC_c4, ha_CT, hn, ht, hm_CT, ki_CT⟩
  have FE : FunD K "__init__" "Edition.__init__" (defArgs sEi) (defBody sEi) (defScope sEi) [] [("scripts", .ref aS), ("needs", .ref z1), ("first", .ref z2), ("against", .ref z3)] f_ei _ :=
    ⟨⟨_, _, _, _, _, _, _, _, _, _, rfl, l_ei, c_ei, .inl ⟨rfl, rfl⟩, .inr ⟨kD, rfl, fun q hq => by
      simp only [List.mem_cons, List.not_mem_nil, or_false] at hq
      rcases hq with rfl | rfl | rfl | rfl
      · exact ⟨_, d_scripts, rfl⟩
      · exact ⟨_, d_needs, rfl⟩
      · exact ⟨_, d_first, rfl⟩
      · exact ⟨_, d_against, rfl⟩⟩⟩, k_ei⟩
  refine ⟨PySem.W.fnOf "law" "law" (defArgs sLaw) (defBody sLaw) (defScope sLaw) .none kV_law dc_law pm_law an_law (.ref cLaw) ct_law, [], spLaw K, fun p hp => (nomatch hp), fun p hp => (nomatch hp), fun p hp => (nomatch hp), fun s v => .of_eq rfl, fun H a ns hl _ hT hS => ⟨a, ns, rfl, hS, hl, fun _ => rfl⟩, fun base KB GB TB => ?_⟩
  · have dN : Def l.prog w K mg base 1 "is_number" _ spNumber := ⟨_, _, ok_number F_numb TE0, PySem.W.mg_of X G a_numb, k_numb, B_numb⟩
    have dV : Def l.prog w K mg base 2 "is_version" _ spVersion := ⟨_, _, ok_version F_vers TE0 dN, PySem.W.mg_of X G a_vers, k_vers, B_vers⟩
    have dA : Def l.prog w K mg base 1 "ascends" _ (spAsc K) := ⟨_, _, ok_asc F_asc TE0, PySem.W.mg_of X G a_asc, k_asc, B_asc⟩
    have dW : Def l.prog w K mg base 1 "is_word" _ spWord := ⟨_, _, ok_word F_word TC, PySem.W.mg_of X G a_word, k_word, B_word⟩
    have dS : Def l.prog w K mg base 2 "are_scripts" _ (spScripts K) := ⟨_, _, ok_scripts F_scri TE0 dA, PySem.W.mg_of X G a_scri, k_scri, B_scri⟩
    have dO : Def l.prog w K mg base 2 "are_other_names" _ (spOthers K) := ⟨_, _, ok_others F_othe TE0 dA dW, PySem.W.mg_of X G a_othe, k_othe, B_othe⟩
    have dPr : Def l.prog w K mg base 3 "is_pair_with_version" _ (spPair K) := ⟨_, _, ok_pair F_pair TE0 dV, PySem.W.mg_of X G a_pair, k_pair, B_pair⟩
    have dNe : Def l.prog w K mg base 4 "are_needs" _ (spNeeds K) := ⟨_, _, ok_needs F_need TE0 dPr dO, PySem.W.mg_of X G a_need, k_need, B_need⟩
    have dWr : Def l.prog w K mg base 5 "wrong_part" _ (spWrong K) := ⟨_, _, ok_wrong F_wron TE0 ⟨dW, dV, dS, dNe, dO⟩, PySem.W.mg_of X G a_wron, k_wron, B_wron⟩
    have EI : EdF l.prog w K mg base C c0 f_ei _ aS z1 z2 z3 := ⟨ok_ei FE TG dWr, FE, ⟨mk_C, a_ei, i_ei, kc_C⟩, PySem.W.mg_of X G g_C, tS, t1, t2, t3⟩
    have Pp0 : Prp l.prog w K mg base C "name" 0 := ⟨_, _, _, P_g0, ok_get (by decide) F_g0 cl_C na_C_parts, B_g0⟩
    have Pp1 : Prp l.prog w K mg base C "version" 1 := ⟨_, _, _, P_g1, ok_get (by decide) F_g1 cl_C na_C_parts, B_g1⟩
    have dT : Def l.prog w K mg base 1 "_law_taken" _ (spTaken K) := ⟨_, _, ok_taken F_take TD0, PySem.W.mg_of X G a_take, k_take, B_take⟩
    have TW : TxtW l.prog w K mg base C := ⟨none_ n_set, none_ n_len, none_ n_enumerate, ⟨_, PySem.W.mg_of X G v_me⟩, ⟨_, PySem.W.mg_of X G v_mn⟩, Pp0, Pp1, cl_C⟩
    have dWi : Def l.prog w K mg base 3 "wrong_index" _ (spWi K C) := ⟨_, _, ok_wi F_wi TW, PySem.W.mg_of X G a_wi, k_wi, B_wi⟩
    have dVn : Def l.prog w K mg base 1 "versions_by_name" _ (spVn K) := ⟨_, _, ok_vn F_vn (none_ n_sorted), PySem.W.mg_of X G a_vn, k_vn, B_vn⟩
    have TS : TxtS l.prog w K mg base C CT c1 f_is _ := ⟨cl_CT, na_CT_table, na_CT_numbers, none_ n_list, PySem.W.mg_of X G g_c1, SP_c1, nf_c1_index, a_is, y_is, ER_is, (Binds.all fun us hl => match us, hl with | [_, _], _ => rfl), Pp0, Pp1, cl_C, dWi, dVn⟩
    have FH := ok_has (P := l.prog) (w := w) (base := base) F_sh TT
    have HF : HasF l.prog w K mg base CT := ⟨_, _, ⟨a_sh, i_sh⟩, FH, B_sh⟩
    have NF : NamF l.prog w K mg base CT := ⟨cl_CT, ⟨_, _, _, P_sn, ok_names F_sn TT, B_sn⟩⟩
    have TY : TxtY l.prog w K mg base CT := ⟨none_ n_isinstance, none_ n_tuple, none_ n_len, none_ n_sorted, ⟨_, PySem.W.mg_of X G v_abs, tA⟩, dN, HF, ⟨_, PySem.W.mg_of X G v_sta, tZ⟩⟩
    have dIst : Def l.prog w K mg base 2 "is_state" _ (spIst K CT) := ⟨_, _, ok_ist F_ist TY, PySem.W.mg_of X G a_ist, k_ist, B_ist⟩
    have dWp : Def l.prog w K mg base 3 "wrong_package" _ (spWp K CT) := ⟨_, _, ok_wp F_wp TY NF dIst, PySem.W.mg_of X G a_wp, k_wp, B_wp⟩
    have TZ : TxtZ l.prog w K mg base CT CY c2 f_iy _ := ⟨TY, NF, cl_CY, na_CY_held_store, na_CY_held_states, PySem.W.mg_of X G g_c2, SP_c2, nf_c2_package, a_iy, y_iy, ER_iy, (Binds.all fun us hl => match us, hl with | [_, _], _ => rfl), dWp⟩
    have MY : MkY l.prog w K mg base CT CY c2 := ⟨_, _, ok_yi F_yi TZ, ⟨mk_CY, a_yi, i_yi, kc_CY⟩, B_yi, PySem.W.mg_of X G g_CY⟩
    have MS : MkSt l.prog w K mg base C CT c1 := ⟨⟨_, _, ⟨mk_CT, a_si, i_si, kc_CT⟩, ok_si F_si TS, B_si⟩, PySem.W.mg_of X G g_CT⟩
    have TNm : TxtN mg := ⟨none_ n_len, none_ n_all, none_ n_range, ⟨_, PySem.W.mg_of X G v_dig⟩, ⟨_, PySem.W.mg_of X G v_lnn⟩⟩
    have dNm : Def l.prog w K mg base 1 "is_numeral" _ spNml := ⟨_, _, ok_nml F_nml TNm, PySem.W.mg_of X G a_nml, k_nml, B_nml⟩
    have TRr : TxtR l.prog w K mg base CR c6 f_itx _ := ⟨cl_CR, na_CR_place, na_CR_words, na_CR_taken, none_ n_len, PySem.W.mg_of X G g_c6, SP_c6, nf_c6_row, nf_c6_word, a_itx, y_itx, ER_itx, Binds.all fun us hl => match us, hl with | [_, _, _], _ => rfl⟩
    have RF : RowF l.prog w K mg base CR c6 f_itx _ := ⟨TRr, ⟨_, _, ⟨a_wie, i_wie, k_wie⟩, F_wie, B_wie⟩, ⟨_, _, ⟨a_wtk, i_wtk, k_wtk⟩, F_wtk, B_wtk⟩, ⟨_, _, ⟨a_wap, i_wap, k_wap⟩, F_wap, B_wap⟩, ⟨_, _, ⟨a_wfi, i_wfi, k_wfi⟩, F_wfi, B_wfi⟩, dW, dNm, none_ n_int, none_ n_tuple⟩
    have eSc : ∃ a, mg "SCRIPTS" = some (.ref a) ∧ ∀ H, SqT K H a (SCR.map V.str) := ⟨_, PySem.W.mg_of X G v_scr, tS⟩
    have eSt : ∃ a, mg "STATUSES" = some (.ref a) ∧ ∀ H, SqT K H a (STA.map V.str) := ⟨_, PySem.W.mg_of X G v_sta, tZ⟩
    have dTn : DefX l.prog w K mg base 4 "take_name" _ (spTkn CR c6) := ⟨_, _, ok_tkn F_tkn RF, PySem.W.mg_of X G a_tkn, k_tkn, B_tkn⟩
    have dTu : DefX l.prog w K mg base 4 "take_number" _ (spTku CR c6) := ⟨_, _, ok_tku F_tku RF, PySem.W.mg_of X G a_tku, k_tku, B_tku⟩
    have dTs : DefX l.prog w K mg base 4 "take_scripts" _ (spTks K CR c6) := ⟨_, _, ok_tks F_tks RF eSc, PySem.W.mg_of X G a_tks, k_tks, B_tks⟩
    have dTd : DefX l.prog w K mg base 5 "take_needs" _ (spTkd K CR c6) := ⟨_, _, ok_tkd F_tkd RF dTn dTu, PySem.W.mg_of X G a_tkd, k_tkd, B_tkd⟩
    have dTa : DefX l.prog w K mg base 5 "take_names" _ (spTka K CR c6) := ⟨_, _, ok_tka F_tka RF dTn, PySem.W.mg_of X G a_tka, k_tka, B_tka⟩
    have dTk : DefX l.prog w K mg base 5 "take_key" _ (spTky K CR c6) := ⟨_, _, ok_tky F_tky RF dTu, PySem.W.mg_of X G a_tky, k_tky, B_tky⟩
    have dTst : DefX l.prog w K mg base 5 "take_state" _ (spTst K CR c6) := ⟨_, _, ok_tst F_tst RF eSt dTu, PySem.W.mg_of X G a_tst, k_tst, B_tst⟩
    have dPi : DefX l.prog w K mg base 6 "part_in" _ (spPin K CR c6) := ⟨_, _, ok_pin F_pin dTs dTd dTa, PySem.W.mg_of X G a_pin, k_pin, B_pin⟩
    have FOLL := fol_of d_shp tsh0 tsh1 tsh2 tsh3 tsh4 tsh5 tsh6
    have DF : DraF l.prog w K mg base CR c6 CD f_itx _ := ⟨RF, cl_CD, na_CD_last_word, na_CD_last_key, na_CD_last_name, na_CD_part_dicts, na_CD_told_states, eSc, ⟨_, _, _, PySem.W.mg_of X G v_shp, ⟨d_shp, y_shp, lo_shp⟩, FOLL⟩, dTn, dTk, dTst, dPi⟩
    have dBs : DefX l.prog w K mg base 8 "built_system" _ (spBs K C CT CY c0 c1 c2) := ⟨_, _, ok_bs F_bs (none_ n_tuple) EI MS MY, PySem.W.mg_of X G a_bs, k_bs, B_bs⟩
    have PF : ParF l.prog w K mg base C CT CY c0 c1 c2 CR c6 CD f_itx _ := ⟨DF, none_ n_enumerate, ⟨_, _, F_wi_, ⟨mk_CR, a_wi_, i_wi_, kc_CR⟩, B_wi_, PySem.W.mg_of X G g_CR⟩, ⟨_, _, F_di_, ⟨mk_CD, a_di_, i_di_, kc_CD⟩, B_di_, PySem.W.mg_of X G g_CD⟩, ⟨_, _, ⟨a_dar, i_dar, k_dar⟩, F_dar, B_dar⟩, dBs⟩
    have dPs : DefX l.prog w K mg base 9 "parse_system" _ (spPse K C CT CY c0 c1 c2 c6) := ⟨_, _, ok_pse F_pse PF, PySem.W.mg_of X G a_pse, k_pse, B_pse⟩
    have PT : PlT K mg c6 c0 c1 c2 := ⟨PySem.W.mg_of X G g_c6, PySem.W.mg_of X G g_c0, PySem.W.mg_of X G g_c1, PySem.W.mg_of X G g_c2, ⟨ga_c6, gg_c6, ex_c6, hx_c6⟩, ⟨ga_c0, gg_c0, ex_c0, hx_c0⟩, ⟨ga_c1, gg_c1, ex_c1, hx_c1⟩, ⟨ga_c2, gg_c2, ex_c2, hx_c2⟩, nf_c6_row, nf_c6_word, nf_c0_part, nf_c1_index, nf_c2_package,
      PySem.W.exm_ref ex_c6 hx_c6 tt_c6 ss_c6, PySem.W.exm_ref ex_c6 hx_c6 tt_c6 no_c0_c6, PySem.W.exm_ref ex_c0 hx_c0 tt_c0 ss_c0, PySem.W.exm_ref ex_c6 hx_c6 tt_c6 no_c1_c6, PySem.W.exm_ref ex_c0 hx_c0 tt_c0 no_c1_c0, PySem.W.exm_ref ex_c1 hx_c1 tt_c1 ss_c1, PySem.W.exm_ref ex_c6 hx_c6 tt_c6 no_c2_c6, PySem.W.exm_ref ex_c0 hx_c0 tt_c0 no_c2_c0, PySem.W.exm_ref ex_c1 hx_c1 tt_c1 no_c2_c1, PySem.W.exm_ref ex_c2 hx_c2 tt_c2 ss_c2⟩
    have dPl : Def l.prog w K mg base 10 "_law_place" _ (spPl K) := ⟨_, _, ok_pl F_pl PT dPs, PySem.W.mg_of X G a_pl, k_pl, B_pl⟩
    have dAr : Def l.prog w K mg base 11 "_law_are_later" _ (spAre K) := ⟨_, _, ok_are F_are dT dPl, PySem.W.mg_of X G a_are, k_are, B_are⟩
    exact ok_law l_law c_law ⟨none_ n_len, none_ n_range, dT, dPl, dAr⟩
end Half

open PySem PySem.W PyProof.Rows
set_option maxRecDepth 100000 in
set_option maxHeartbeats 0 in
theorem PySem.Challenge.cw_halfsetup_k49_texts_rejected_holds : PySem.Challenge.rw_halfsetup_k49_texts_rejected.Holds := by
  w_on; o_law
  refine HandSHeadRun.head_any (r := OpenLaw.row PySem.Challenge.rw_halfsetup_k49_texts_rejected) (q := HalfHead.qv) (H := kHook HalfHead.pre.heap_1 HalfHead.ats HalfHead.ats_ok) (ob := HalfHead.ob) (M := 7000) (loose := HalfHead.names) (kwd := []) HalfHead.ob_eq (by kernel_rfl) (fun s => by kernel_rfl) HalfHead.run (by rfl) (by rfl) (by rfl) (by rfl) (by first | assumption | decide +kernel) (by decide +kernel) ⟨rfl, rfl, rfl, rfl, rfl, by decide +kernel⟩ ?_ ?_
  · w_witness2
  k_fill
  refine LamX.walk_ofTs (l := PySem.Challenge.rw_halfsetup_k49_texts_rejected) (n := 63) (k := 12) (x := "_law_script") (CX := fun _ => L2.CX0) rfl (by decide) rfl ⟨rfl, by decide, by decide⟩ (fun w h Y => PySem.W.kIn_of Y) ?F (fun _ _ _ _ _ z => z)
  case F =>
    intro w mg fa h Y KX G hmg
    refine' Half.all_mk KX G hmg ?n_int ?n_len ?n_isinstance ?n_str ?n_bool ?n_tuple ?n_all ?n_range ?n_ValueError ?n_super ?n_set ?n_sorted ?n_list ?n_enumerate ?n_dict ?a_word ?l_word ?c_word ?k_word ?a_numb ?l_numb ?c_numb ?k_numb ?a_asc ?l_asc ?c_asc ?k_asc ?a_vers ?l_vers ?c_vers ?k_vers ?a_scri ?l_scri ?c_scri ?k_scri ?a_othe ?l_othe ?c_othe ?k_othe ?a_pair ?l_pair ?c_pair ?k_pair ?a_need ?l_need ?c_need ?k_need ?a_wron ?l_wron ?c_wron ?k_wron ?a_wi ?l_wi ?c_wi ?k_wi ?a_vn ?l_vn ?c_vn ?k_vn ?a_take ?l_take ?c_take ?k_take ?a_ist ?l_ist ?c_ist ?k_ist ?a_wp ?l_wp ?c_wp ?k_wp ?a_nml ?l_nml ?c_nml ?k_nml ?a_bs ?l_bs ?c_bs ?k_bs ?a_tkn ?l_tkn ?c_tkn ?k_tkn ?a_tku ?l_tku ?c_tku ?k_tku ?a_tks ?l_tks ?c_tks ?k_tks ?a_tkd ?l_tkd ?c_tkd ?k_tkd ?a_tka ?l_tka ?c_tka ?k_tka ?a_tky ?l_tky ?c_tky ?k_tky ?a_tst ?l_tst ?c_tst ?k_tst ?a_pin ?l_pin ?c_pin ?k_pin ?a_pse ?l_pse ?c_pse ?k_pse ?a_pl ?l_pl ?c_pl ?k_pl ?a_are ?l_are ?c_are ?k_are ?a_law ?l_law ?c_law ?k_law ?g_C ?g_CT ?g_CY ?g_CR ?g_CD ?pg_C ?hd_C ?po_C ?sa_C ?ha_C ?hm_C ?ki_C ?hn ?ht ?pg_CT ?hd_CT ?po_CT ?sa_CT ?ha_CT ?hm_CT ?ki_CT ?pg_CY ?hd_CY ?po_CY ?sa_CY ?ha_CY ?hm_CY ?ki_CY ?pg_CR ?hd_CR ?po_CR ?sa_CR ?ha_CR ?hm_CR ?ki_CR ?pg_CD ?hd_CD ?po_CD ?sa_CD ?ha_CD ?hm_CD ?ki_CD ?g_c0 ?g_c1 ?g_c2 ?g_c4 ?g_c5 ?g_c6 ?ex_c0 ?nf_c0_part ?ga_c0 ?gg_c0 ?hx_c0 ?tt_c0 ?ss_c0 ?ex_c1 ?nf_c1_index ?ga_c1 ?gg_c1 ?hx_c1 ?tt_c1 ?ss_c1 ?ex_c2 ?nf_c2_package ?ga_c2 ?gg_c2 ?hx_c2 ?tt_c2 ?ss_c2 ?ex_c6 ?nf_c6_row ?nf_c6_word ?ga_c6 ?gg_c6 ?hx_c6 ?tt_c6 ?ss_c6 ?ocl_c0 ?ove_c0 ?osa_c0 ?oty_c0 ?okc_c0 ?osb_c0 ?osu_c0 ?osv_c0 ?o_op ?o_top ?a_ie ?y_ie ?l_ie ?c_ie ?e_ie ?f2_ie ?fl_ie ?ce_ie ?ocl_c1 ?ove_c1 ?osa_c1 ?oty_c1 ?okc_c1 ?osb_c1 ?osu_c1 ?osv_c1 ?a_is ?y_is ?l_is ?c_is ?e_is ?f2_is ?fl_is ?ce_is ?ocl_c2 ?ove_c2 ?osa_c2 ?oty_c2 ?okc_c2 ?osb_c2 ?osu_c2 ?osv_c2 ?a_iy ?y_iy ?l_iy ?c_iy ?e_iy ?f2_iy ?fl_iy ?ce_iy ?ocl_c6 ?ove_c6 ?osa_c6 ?oty_c6 ?okc_c6 ?osb_c6 ?osu_c6 ?osv_c6 ?a_itx ?y_itx ?l_itx ?c_itx ?e_itx ?f2_itx ?fl_itx ?ce_itx ?no_c0_c6 ?no_c1_c6 ?no_c1_c0 ?no_c2_c6 ?no_c2_c0 ?no_c2_c1 ?exi_c4 ?ekc_c4 ?eb_c4 ?et_c4 ?exi_c5 ?ekc_c5 ?eb_c5 ?et_c5 ?v_let ?v_dig ?v_lnn ?v_lon ?v_lv ?v_mv ?v_me ?v_mn ?v_scr ?a_ei ?l_ei ?c_ei ?k_ei ?i_ei ?mk_C ?kc_C ?d_scripts ?d_needs ?d_first ?d_against ?t_S ?t_1 ?t_2 ?t_3 ?na_C_parts ?pa_g0 ?pg_g0 ?pt_g0 ?pr_g0 ?l_g0 ?c_g0 ?k_g0 ?pa_g1 ?pg_g1 ?pt_g1 ?pr_g1 ?l_g1 ?c_g1 ?k_g1 ?na_CT_table ?na_CT_numbers ?a_si ?l_si ?c_si ?k_si ?i_si ?mk_CT ?kc_CT ?pa_sn ?pg_sn ?pt_sn ?pr_sn ?l_sn ?c_sn ?k_sn ?a_sh ?l_sh ?c_sh ?k_sh ?i_sh ?na_CY_held_store ?na_CY_held_states ?a_yi ?l_yi ?c_yi ?k_yi ?i_yi ?mk_CY ?kc_CY ?na_CR_place ?na_CR_words ?na_CR_taken ?a_wi_ ?l_wi_ ?c_wi_ ?k_wi_ ?i_wi_ ?a_wie ?l_wie ?c_wie ?k_wie ?i_wie ?a_wtk ?l_wtk ?c_wtk ?k_wtk ?i_wtk ?a_wap ?l_wap ?c_wap ?k_wap ?i_wap ?a_wfi ?l_wfi ?c_wfi ?k_wfi ?i_wfi ?mk_CR ?kc_CR ?na_CD_last_word ?na_CD_last_key ?na_CD_last_name ?na_CD_part_dicts ?na_CD_told_states ?a_di_ ?l_di_ ?c_di_ ?k_di_ ?i_di_ ?a_dar ?l_dar ?c_dar ?k_dar ?i_dar ?mk_CD ?kc_CD ?v_shp ?d_shp ?y_shp ?lo_shp ?t_sh0 ?t_sh1 ?t_sh2 ?t_sh3 ?t_sh4 ?t_sh5 ?t_sh6 ?v_sta ?t_Z ?v_abs ?t_A
    (case n_int => k_is)
    (case n_len => k_is)
    (case n_isinstance => k_is)
    (case n_str => k_is)
    (case n_bool => k_is)
    (case n_tuple => k_is)
    (case n_all => k_is)
    (case n_range => k_is)
    (case n_ValueError => k_is)
    (case n_super => k_is)
    (case n_set => k_is)
    (case n_sorted => k_is)
    (case n_list => k_is)
    (case n_enumerate => k_is)
    (case n_dict => k_is)
    (case a_word => k_is)
    (case l_word => k_is)
    (case c_word => k_is)
    (case k_word => k_is)
    (case a_numb => k_is)
    (case l_numb => k_is)
    (case c_numb => k_is)
    (case k_numb => k_is)
    (case a_asc => k_is)
    (case l_asc => k_is)
    (case c_asc => k_is)
    (case k_asc => k_is)
    (case a_vers => k_is)
    (case l_vers => k_is)
    (case c_vers => k_is)
    (case k_vers => k_is)
    (case a_scri => k_is)
    (case l_scri => k_is)
    (case c_scri => k_is)
    (case k_scri => k_is)
    (case a_othe => k_is)
    (case l_othe => k_is)
    (case c_othe => k_is)
    (case k_othe => k_is)
    (case a_pair => k_is)
    (case l_pair => k_is)
    (case c_pair => k_is)
    (case k_pair => k_is)
    (case a_need => k_is)
    (case l_need => k_is)
    (case c_need => k_is)
    (case k_need => k_is)
    (case a_wron => k_is)
    (case l_wron => k_is)
    (case c_wron => k_is)
    (case k_wron => k_is)
    (case a_wi => k_is)
    (case l_wi => k_is)
    (case c_wi => k_is)
    (case k_wi => k_is)
    (case a_vn => k_is)
    (case l_vn => k_is)
    (case c_vn => k_is)
    (case k_vn => k_is)
    (case a_take => k_is)
    (case l_take => k_is)
    (case c_take => k_is)
    (case k_take => k_is)
    (case a_ist => k_is)
    (case l_ist => k_is)
    (case c_ist => k_is)
    (case k_ist => k_is)
    (case a_wp => k_is)
    (case l_wp => k_is)
    (case c_wp => k_is)
    (case k_wp => k_is)
    (case a_nml => k_is)
    (case l_nml => k_is)
    (case c_nml => k_is)
    (case k_nml => k_is)
    (case a_bs => k_is)
    (case l_bs => k_is)
    (case c_bs => k_is)
    (case k_bs => k_is)
    (case a_tkn => k_is)
    (case l_tkn => k_is)
    (case c_tkn => k_is)
    (case k_tkn => k_is)
    (case a_tku => k_is)
    (case l_tku => k_is)
    (case c_tku => k_is)
    (case k_tku => k_is)
    (case a_tks => k_is)
    (case l_tks => k_is)
    (case c_tks => k_is)
    (case k_tks => k_is)
    (case a_tkd => k_is)
    (case l_tkd => k_is)
    (case c_tkd => k_is)
    (case k_tkd => k_is)
    (case a_tka => k_is)
    (case l_tka => k_is)
    (case c_tka => k_is)
    (case k_tka => k_is)
    (case a_tky => k_is)
    (case l_tky => k_is)
    (case c_tky => k_is)
    (case k_tky => k_is)
    (case a_tst => k_is)
    (case l_tst => k_is)
    (case c_tst => k_is)
    (case k_tst => k_is)
    (case a_pin => k_is)
    (case l_pin => k_is)
    (case c_pin => k_is)
    (case k_pin => k_is)
    (case a_pse => k_is)
    (case l_pse => k_is)
    (case c_pse => k_is)
    (case k_pse => k_is)
    (case a_pl => k_is)
    (case l_pl => k_is)
    (case c_pl => k_is)
    (case k_pl => k_is)
    (case a_are => k_is)
    (case l_are => k_is)
    (case c_are => k_is)
    (case k_are => k_is)
    (case a_law => k_is)
    (case l_law => k_is)
    (case c_law => k_is)
    (case k_law => k_is)
    (case g_C => k_is)
    (case g_CT => k_is)
    (case g_CY => k_is)
    (case g_CR => k_is)
    (case g_CD => k_is)
    (case pg_C => k_is)
    (case hd_C => k_is)
    (case po_C => k_is)
    (case sa_C => k_is)
    (case ha_C => k_is)
    (case hm_C => k_is)
    (case ki_C => kit_is)
    (case hn => k_is)
    (case ht => k_is)
    (case pg_CT => k_is)
    (case hd_CT => k_is)
    (case po_CT => k_is)
    (case sa_CT => k_is)
    (case ha_CT => k_is)
    (case hm_CT => k_is)
    (case ki_CT => kit_is)
    (case pg_CY => k_is)
    (case hd_CY => k_is)
    (case po_CY => k_is)
    (case sa_CY => k_is)
    (case ha_CY => k_is)
    (case hm_CY => k_is)
    (case ki_CY => kit_is)
    (case pg_CR => k_is)
    (case hd_CR => k_is)
    (case po_CR => k_is)
    (case sa_CR => k_is)
    (case ha_CR => k_is)
    (case hm_CR => k_is)
    (case ki_CR => kit_is)
    (case pg_CD => k_is)
    (case hd_CD => k_is)
    (case po_CD => k_is)
    (case sa_CD => k_is)
    (case ha_CD => k_is)
    (case hm_CD => k_is)
    (case ki_CD => kit_is)
    (case g_c0 => k_is)
    (case g_c1 => k_is)
    (case g_c2 => k_is)
    (case g_c4 => k_is)
    (case g_c5 => k_is)
    (case g_c6 => k_is)
    (case ex_c0 => k_is)
    (case nf_c0_part => k_is)
    (case ga_c0 => k_is)
    (case gg_c0 => k_is)
    (case hx_c0 => k_is)
    (case tt_c0 => k_is)
    (case ss_c0 => k_is)
    (case ex_c1 => k_is)
    (case nf_c1_index => k_is)
    (case ga_c1 => k_is)
    (case gg_c1 => k_is)
    (case hx_c1 => k_is)
    (case tt_c1 => k_is)
    (case ss_c1 => k_is)
    (case ex_c2 => k_is)
    (case nf_c2_package => k_is)
    (case ga_c2 => k_is)
    (case gg_c2 => k_is)
    (case hx_c2 => k_is)
    (case tt_c2 => k_is)
    (case ss_c2 => k_is)
    (case ex_c6 => k_is)
    (case nf_c6_row => k_is)
    (case nf_c6_word => k_is)
    (case ga_c6 => k_is)
    (case gg_c6 => k_is)
    (case hx_c6 => k_is)
    (case tt_c6 => k_is)
    (case ss_c6 => k_is)
    (case ocl_c0 => k_is)
    (case ove_c0 => decide +kernel)
    (case osa_c0 => k_is)
    (case oty_c0 => k_is)
    (case okc_c0 => k_is)
    (case osb_c0 => k_is)
    (case osu_c0 => ks_is)
    (case osv_c0 => k_is)
    (case o_op => k_is)
    (case o_top => decide +kernel)
    (case a_ie => k_is)
    (case y_ie => k_is)
    (case l_ie => k_is)
    (case c_ie => k_is)
    (case e_ie => k_is)
    (case f2_ie => rfl)
    (case fl_ie => decide +kernel)
    (case ce_ie => k_is)
    (case ocl_c1 => k_is)
    (case ove_c1 => decide +kernel)
    (case osa_c1 => k_is)
    (case oty_c1 => k_is)
    (case okc_c1 => k_is)
    (case osb_c1 => k_is)
    (case osu_c1 => ks_is)
    (case osv_c1 => k_is)
    (case a_is => k_is)
    (case y_is => k_is)
    (case l_is => k_is)
    (case c_is => k_is)
    (case e_is => k_is)
    (case f2_is => rfl)
    (case fl_is => decide +kernel)
    (case ce_is => k_is)
    (case ocl_c2 => k_is)
    (case ove_c2 => decide +kernel)
    (case osa_c2 => k_is)
    (case oty_c2 => k_is)
    (case okc_c2 => k_is)
    (case osb_c2 => k_is)
    (case osu_c2 => ks_is)
    (case osv_c2 => k_is)
    (case a_iy => k_is)
    (case y_iy => k_is)
    (case l_iy => k_is)
    (case c_iy => k_is)
    (case e_iy => k_is)
    (case f2_iy => rfl)
    (case fl_iy => decide +kernel)
    (case ce_iy => k_is)
    (case ocl_c6 => k_is)
    (case ove_c6 => decide +kernel)
    (case osa_c6 => k_is)
    (case oty_c6 => k_is)
    (case okc_c6 => k_is)
    (case osb_c6 => k_is)
    (case osu_c6 => ks_is)
    (case osv_c6 => k_is)
    (case a_itx => k_is)
    (case y_itx => k_is)
    (case l_itx => k_is)
    (case c_itx => k_is)
    (case e_itx => k_is)
    (case f2_itx => rfl)
    (case fl_itx => decide +kernel)
    (case ce_itx => k_is)
    (case no_c0_c6 => k_is)
    (case no_c1_c6 => k_is)
    (case no_c1_c0 => k_is)
    (case no_c2_c6 => k_is)
    (case no_c2_c0 => k_is)
    (case no_c2_c1 => k_is)
    (case exi_c4 => kernel_rfl)
    (case ekc_c4 => k_is)
    (case eb_c4 => k_is)
    (case et_c4 => k_is)
    (case exi_c5 => kernel_rfl)
    (case ekc_c5 => k_is)
    (case eb_c5 => k_is)
    (case et_c5 => k_is)
    (case v_let => k_is)
    (case v_dig => k_is)
    (case v_lnn => k_is)
    (case v_lon => k_is)
    (case v_lv => k_is)
    (case v_mv => k_is)
    (case v_me => k_is)
    (case v_mn => k_is)
    (case v_scr => k_is)
    (case a_ei => k_is)
    (case l_ei => k_is)
    (case c_ei => k_is)
    (case k_ei => k_is)
    (case i_ei => k_is)
    (case mk_C => k_is)
    (case kc_C => k_is)
    (case d_scripts => k_is)
    (case d_needs => k_is)
    (case d_first => k_is)
    (case d_against => k_is)
    (case t_S => k_is)
    (case t_1 => k_is)
    (case t_2 => k_is)
    (case t_3 => k_is)
    (case na_C_parts => k_is)
    (case pa_g0 => k_is)
    (case pg_g0 => k_is)
    (case pt_g0 => k_is)
    (case pr_g0 => k_is)
    (case l_g0 => k_is)
    (case c_g0 => k_is)
    (case k_g0 => k_is)
    (case pa_g1 => k_is)
    (case pg_g1 => k_is)
    (case pt_g1 => k_is)
    (case pr_g1 => k_is)
    (case l_g1 => k_is)
    (case c_g1 => k_is)
    (case k_g1 => k_is)
    (case na_CT_table => k_is)
    (case na_CT_numbers => k_is)
    (case a_si => k_is)
    (case l_si => k_is)
    (case c_si => k_is)
    (case k_si => k_is)
    (case i_si => k_is)
    (case mk_CT => k_is)
    (case kc_CT => k_is)
    (case pa_sn => k_is)
    (case pg_sn => k_is)
    (case pt_sn => k_is)
    (case pr_sn => k_is)
    (case l_sn => k_is)
    (case c_sn => k_is)
    (case k_sn => k_is)
    (case a_sh => k_is)
    (case l_sh => k_is)
    (case c_sh => k_is)
    (case k_sh => k_is)
    (case i_sh => k_is)
    (case na_CY_held_store => k_is)
    (case na_CY_held_states => k_is)
    (case a_yi => k_is)
    (case l_yi => k_is)
    (case c_yi => k_is)
    (case k_yi => k_is)
    (case i_yi => k_is)
    (case mk_CY => k_is)
    (case kc_CY => k_is)
    (case na_CR_place => k_is)
    (case na_CR_words => k_is)
    (case na_CR_taken => k_is)
    (case a_wi_ => k_is)
    (case l_wi_ => k_is)
    (case c_wi_ => k_is)
    (case k_wi_ => k_is)
    (case i_wi_ => k_is)
    (case a_wie => k_is)
    (case l_wie => k_is)
    (case c_wie => k_is)
    (case k_wie => k_is)
    (case i_wie => k_is)
    (case a_wtk => k_is)
    (case l_wtk => k_is)
    (case c_wtk => k_is)
    (case k_wtk => k_is)
    (case i_wtk => k_is)
    (case a_wap => k_is)
    (case l_wap => k_is)
    (case c_wap => k_is)
    (case k_wap => k_is)
    (case i_wap => k_is)
    (case a_wfi => k_is)
    (case l_wfi => k_is)
    (case c_wfi => k_is)
    (case k_wfi => k_is)
    (case i_wfi => k_is)
    (case mk_CR => k_is)
    (case kc_CR => k_is)
    (case na_CD_last_word => k_is)
    (case na_CD_last_key => k_is)
    (case na_CD_last_name => k_is)
    (case na_CD_part_dicts => k_is)
    (case na_CD_told_states => k_is)
    (case a_di_ => k_is)
    (case l_di_ => k_is)
    (case c_di_ => k_is)
    (case k_di_ => k_is)
    (case i_di_ => k_is)
    (case a_dar => k_is)
    (case l_dar => k_is)
    (case c_dar => k_is)
    (case k_dar => k_is)
    (case i_dar => k_is)
    (case mk_CD => k_is)
    (case kc_CD => k_is)
    (case v_shp => k_is)
    (case d_shp => k_is)
    (case y_shp => k_keys)
    (case lo_shp => decide +kernel)
    (case t_sh0 => k_is)
    (case t_sh1 => k_is)
    (case t_sh2 => k_is)
    (case t_sh3 => k_is)
    (case t_sh4 => k_is)
    (case t_sh5 => k_is)
    (case t_sh6 => k_is)
    (case v_sta => k_is)
    (case t_Z => k_is)
    (case v_abs => k_is)
    (case t_A => k_is)
