import PyProof.Rows.All
import Wide.All
import OpenK.AllK
import Wide.FinOn
import KE.OsRunLaw
import HandS.Head2
import HandS.EndTab
import KE.KNestM
import KE.KExcSuper
import HandS.ForMost
import HandS.ForExc
import HandS.ExcInit
import PyProof.InstNe
import KE.KExcIs
import HandS.ExcIs
import HandS.SetFor
import HandS.IsInst
import HandS.Walk
import HandS.FStr
import HandS.More
import HandS.Codes
import HandS.Conv
import HandS.Defaults
import HandS.MakeKwOnly
import HandS.Property
import HandS.TupSets
import HandS.SetKeys
import HandS.SetTxt0
import HandS.Strs
import PyProof.Rows.SortShellAny
import HandS.SortRule
import HandS.SortOrd
import HandS.DictComp
import KE.GoesMore
import KE.KEqDict
import HandS.Lambda
import KE.KDflt
import HandS.Style
import HandS.TupAny
import HandS.Star
import KE.KRevSl
import HandS.ExcField
import HandS.TupLen
import HandS.RaiseMore
import HandS.ExcOwn
import HandS.Deep
import HandS.FStrTup
import HandS.CallLocal
import HandS.Call
import HandS.List
import KE.KUnpackStar
import KE.GoesZip
import HandS.Zip
import HandS.Text
import HandS.Exc
import HandS.TryMany
import KE.RegKIsAll
import PySem.Challenge.RW_halfsetup_k53_scripts_rejected
set_option Elab.async false
set_option linter.all false
set_option maxRecDepth 100000
set_option maxHeartbeats 8000000
/-! the head by kernel runs: one for each answer of the one thing that the top asks of the world -/
namespace HalfHead
open PySem PySem.W PySem.Calls PyProof.Rows
/-- the row; what is seen of its top: the law; the other names that the top binds -/
abbrev R : OpenRow := OpenLaw.row PySem.Challenge.rw_halfsetup_k53_scripts_rejected
abbrev qv : Program := view R.prog [90]
def nm0 : List PySem.Str := ["LETTERS", "LONGEST_WORD", "DIGITS", "LONGEST_NUMERAL", "is_word", "is_number", "is_numeral", "ascends", "SetupError", "InvalidEdition", "InvalidStore", "UnknownEdition", "UnknownName", "InvalidSystem", "Refused", "ScriptError", "UnknownPackage", "TooLong", "ABSENT", "STATUSES", "THERE", "is_state", "wrong_package", "System", "is_there", "edition_of", "is_met", "unmet_names", "are_against", "names_against"]
def nm1 : List PySem.Str := ["unpack_refusal", "setup_refusal", "needs_name", "remove_refusal", "purge_refusal", "REFUSALS", "refusal", "SET_UP", "Caller", "install", "both_fail", "upgrade", "put_back", "unpack", "set_up", "take_out", "purge", "ACTIONS", "play", "check_beginning", "run", "MOST_ROWS", "MOST_DEPTH", "MOST_STEPS", "SHAPES", "BLOCKS", "rows_of", "fits", "is_row", "can_stand"]
def nm2 : List PySem.Str := ["block_ends", "Execution", "run_script", "SCRIPTS", "LEAST_VERSION", "MOST_VERSION", "is_version", "are_scripts", "are_other_names", "is_pair_with_version", "are_needs", "wrong_part", "Edition", "MOST_EDITIONS", "MOST_NAMES", "wrong_index", "versions_by_name", "Store", "_law_taken", "_law_fault", "_law_are_long"]
def names : List PySem.Str := nm0 ++ (nm1 ++ (nm2))
/-- k_headL writes the objects that the walk reads as a constant, pre.heap_1: that alone is taken from here -/
local macro_rules | `(tactic| o_headL $_) => `(tactic| exact (by assumption : ∀ p : Prop, p) _)
theorem pre (hh : ∀ p : Prop, p) : R.Holds := by k_headL
def firsts : List (Addr × Obj) → List Addr
  | [] => []
  | q :: r => q.1 :: firsts r
noncomputable def ats : List Addr := firsts (pre.heap_1 (aWorld 1).params)
theorem ats_ok (P : Params) : ats = (pre.heap_1 P).map (·.1) := by kernel_rfl
noncomputable abbrev H : Hook := kHook pre.heap_1 ats ats_ok
/-- what the Hook looks at, off the tree -/
noncomputable def ob (s : SharedT) : List (Option Obj) := ats.map (HandSHeadRun.getT s)
theorem ob_eq (s : SharedT) : ob s = H.obs s.abs := List.map_congr_left fun a _ => HandSHeadRun.getT_eq s a
theorem run0 (w : World) (os : OsState) : (HandSHeadRun.endF (HandSHeadRun.stepQ (HandSHeadRun.denQ HandSHeadRun.tabQ) R.prog (w.withFollow "special-get-raises" false)) 7000 R.prog (w.withFollow "special-get-raises" false) os).map (fun s => (HandSHeadRun.looksF R.prog (boot_heap (w.withFollow "special-get-raises" false).params) s.abs, HandSHeadRun.seenQ qv names (importedModules R.prog.main.body) (fun s => xlAt qv [] s && recOk R.toRowW.records s) s.abs, ob s)) = some (true, openGood qv names, H.val (w.withFollow "special-get-raises" false)) := by kernel_rfl
theorem run1 (w : World) (os : OsState) : (HandSHeadRun.endF (HandSHeadRun.stepQ (HandSHeadRun.denQ HandSHeadRun.tabQ) R.prog (w.withFollow "special-get-raises" true)) 7000 R.prog (w.withFollow "special-get-raises" true) os).map (fun s => (HandSHeadRun.looksF R.prog (boot_heap (w.withFollow "special-get-raises" true).params) s.abs, HandSHeadRun.seenQ qv names (importedModules R.prog.main.body) (fun s => xlAt qv [] s && recOk R.toRowW.records s) s.abs, ob s)) = some (true, openGood qv names, H.val (w.withFollow "special-get-raises" true)) := by kernel_rfl
theorem run (w : World) : HandSHeadRun.RunEq R qv H ob 7000 names w := byRow2 "special-get-raises" (P := fun w => HandSHeadRun.RunEq R qv H ob 7000 names w) (fun w os => run0 w os) (fun w os => run1 w os) w
end HalfHead

/-! a def (the own __init__ of an exception class) whose first statement is super().__init__(e) -/
namespace L2
open PySem PySem.Spec PyProof.Rows
theorem zip_rev_lookup : ∀ {ps : List Str} {us : List Value} {i : Nat} {y : Str} {u : Value}, ps.Nodup → ps[i]? = some y → us[i]? = some u → (ps.zip us).reverse.lookup y = some u
  | [], _, i, _, _, _, h, _ => by simp at h
  | p :: ps, [], i, _, _, _, _, h => by simp at h
  | p :: ps, u0 :: us, 0, y, u, nd, h1, h2 => by
    have e1 : p = y := by simpa using h1
    have e2 : u0 = u := by simpa using h2
    subst e1 e2
    have hp : p ∉ ps := (List.nodup_cons.mp nd).1
    have q : ((ps.zip us).reverse).lookup p = none := by
      rw [List.lookup_eq_none_iff]
      intro z hz
      have n : p ≠ z.1 := fun e' => hp (by rw [e']; exact (List.of_mem_zip (List.mem_reverse.mp hz)).1)
      simpa using n
    rw [List.zip_cons_cons, List.reverse_cons, List.lookup_append, q]
    simp [List.lookup]
  | p :: ps, u0 :: us, i + 1, y, u, nd, h1, h2 => by
    have ih := zip_rev_lookup (ps := ps) (us := us) (i := i) (y := y) (u := u) (List.nodup_cons.mp nd).2 (by simpa using h1) (by simpa using h2)
    rw [List.zip_cons_cons, List.reverse_cons, List.lookup_append, ih]
    rfl
/-- what a slot holds at the start is an argument -/
theorem start_val {N : List Str} {vs : List V} {i : Nat} {v : V} (h : (start N vs)[i]? = some (some v)) : vs[i]? = some v := by
  rcases Nat.lt_or_ge i vs.length with lt | ge
  · rw [show start N vs = vs.map some ++ List.replicate (N.length - vs.length) none from rfl, List.getElem?_append_left (by rwa [List.length_map]), List.getElem?_map, List.getElem?_eq_getElem lt] at h
    rw [List.getElem?_eq_getElem lt]
    exact Option.some.inj h
  · rw [show start N vs = vs.map some ++ List.replicate (N.length - vs.length) none from rfl, List.getElem?_append_right (by rwa [List.length_map])] at h
    exact nomatch (List.mem_replicate.mp (List.mem_of_getElem? h)).2
structure SupScope (N P : List Str) (sc : Scope) : Prop where
  kind : sc.kind = .function
  co : sc.isCoroutine = false
  gen : sc.isGenerator = false
  nd : N.Nodup
  pre : N.take P.length = P
  par : ∀ x ∈ P, sc.names.lookup x = some .local
  nocell : ∀ y ∈ sc.names, y.2 ≠ .cell
  free : ∀ y ∈ sc.names, y.2 = .free → y.1 = ("__class__" : Str)
  hs : sc.names.lookup ("super" : Str) = some .globalImplicit
  hc : sc.names.lookup ("__class__" : Str) = some .free
def cxSup (CX : CXT) (P : Program) (w : World) (K : PySem.W.Frag) (mg : Str → Option Value) (base : Heap) (N : List Str) (qual : Str) (scope : Scope) (f : Addr) (cd : Value) (cc : Addr) (A : Around) (outer : List Env) (s : Shared) (H : Hp) (E : XK) : Cx where
  prog := P
  w := w
  K := K
  mg := mg
  base := base
  A := A.deeper (PySem.W.ksEnv qual scope s.heap.objs.size f cd cc)
  N := N
  s_0 := s
  H_0 := H
  env := PySem.W.ksEnv qual scope s.heap.objs.size f cd cc
  outer := outer
  stack := PySem.W.ksEnv qual scope s.heap.objs.size f cd cc :: outer
  ex := []
  calm := true
  fn := fun _ => false
  pn := []
  xe := fun e s' => wpAny (model P w) (A.deeper (PySem.W.ksEnv qual scope s.heap.objs.size f cd cc)) (leaving (PySem.W.ksEnv qual scope s.heap.objs.size f cd cc) e) (fun _ s'' => CX outer H s E e s'') (fun e' s'' => CX outer H s E e' s'') s'
theorem inv_startS {CX : CXT} {P : Program} {w : World} {K : PySem.W.Frag} {mg : Str → Option Value} {base : Heap} {N ps : List Str} {qual : Str} {scope : Scope} {f cc : Addr} {cd : Value} {A : Around} {outer : List Env} {s : Shared} {H : Hp} {E : XK} {us : List Value} {vs : List V} {h₀ : Heap} {tk : Nat}
    {oc : Obj} {cv : Option Value} (S : SupScope N ps scope) (hd : A.handled = none) (e0 : Env0 P w K mg base A outer s H) (hl : vs.length = ps.length) (r : Vals vs us) (hcell : K.lookup cc = some oc) (hcd : oc.data = .cell cv)
    (hns : h₀.Ns s.heap.objs.size (fun x => (ps.zip us).reverse.lookup x)) (kp : ∀ b o, s.heap.get? b = some o → h₀.get? b = some o) :
    Inv (cxSup CX P w K mg base N qual scope f cd cc A outer s H E) [] (start N vs) H { s with heap := h₀, toks := tk } := by
  have hpl : ps.length ≤ N.length := by have := congrArg List.length S.pre; rw [List.length_take] at this; omega
  have noA : ∀ b : Addr, b ∉ (cxSup CX P w K mg base N qual scope f cd cc A outer s H E).ex := fun b z => absurd (show b ∈ ([] : List Addr) from z) (by simp)
  have hb := e0.bs cc oc (e0.mod.kin _ _ hcell)
  have lk : ∀ {y : Str} {c : Addr}, ([(("__class__" : Str), cc)] : List (Str × Addr)).lookup y = some c → y = ("__class__" : Str) ∧ c = cc := fun {y c} e => by
    simp only [List.lookup] at e
    split at e
    · rename_i q
      exact ⟨by simpa using q, (Option.some.inj e).symm⟩
    · cases e
  refine ⟨⟨e0.mod, S.kind, rfl, rfl, Nat.le_refl _, fun y z c h1 h2 => ?_, fun y hy => ?_, fun y c z _ => ?_, fun _ => hd, Around.frames_deeper e0.frames, .inr ⟨rfl, rfl⟩, fun b z => absurd z (noA b), e0.bs, e0.bsz, fun b _ _ => noA b, fun b z => absurd z (noA b), e0.funs, e0.frf⟩,
    rfl, e0.bare, Un.kept kp, ⟨_, hns, fun i y v h1 h2 h3 => ?_⟩, fun y c h => ?_, e0.hok.fresh (Nat.le_refl _), fun y c h => ?_, fun p hp => absurd (show p ∈ ([] : List (Addr × Obj)) from hp) (by simp), e0.hok.kept kp, ?_⟩
  · exact (lk h1).1.trans (lk h2).1.symm
  · have hy : scope.names.lookup y = some .cell ∨ scope.names.lookup y = some .free := hy
    rcases hy with hy | hy
    · exact absurd rfl (S.nocell _ (PySem.mem_of_lookup hy))
    · have e := S.free _ (PySem.mem_of_lookup hy) rfl
      have e : y = ("__class__" : Str) := e
      subst e
      exact ⟨cc, by show ([(("__class__" : Str), cc)] : List (Str × Addr)).lookup _ = _; simp [List.lookup]⟩
  · have z : false = true := z
    cases z
  · have ha := start_val h2
    have hi := (List.getElem?_eq_some_iff.mp ha).1
    obtain ⟨u, hu, rv⟩ := r.get ha
    have hp : ps[i]? = some y := by rw [← S.pre, List.getElem?_take_of_lt (by omega)]; exact h1
    have ndP : ps.Nodup := by rw [← S.pre]; exact S.nd.sublist (List.take_sublist _ _)
    exact ⟨u, rv, .inl ⟨S.par y (List.mem_of_getElem? hp), zip_rev_lookup ndP hp hu⟩⟩
  · have e := (lk h).2
    subst e
    exact ⟨cv, oc, kp _ _ hb.1, hcd⟩
  · have e := (lk h).2
    subst e
    exact hb.2
  · unfold start
    show _ = N.length
    rw [List.length_append, List.length_map, List.length_replicate]
    omega
/-- the built-in __init__, bound to the exception at a, called -/
theorem call_mw {P : Program} {w : World} {A : Around} {E : Value → Shared → Prop} {h : Heap} {g : Array GenState} {d : Drawn} {t : Nat} {os : OsState} {nm q : Str} {C N : Addr} {bs bm : List Value} {hdct : Bool} {sn : List Str} {sub : List Value} {ab : Bool} {col : Option Bool} {dd : Option Addr} {k0 k1 k2 k3 k5 : Option Value}
    {u e t0 : Addr} {rest : List Value} {Q : Value → Shared → Prop}
    (hC : h.get? C = some (excClassObj nm q C N bs bm hdct sn sub ab col dd k0 k1 k2 k3 k5 "ValueError.__new__")) (he : h.get? e = some (HandSPX.excO C t0)) (hu : h.get? u = some (PySem.W.kxs_mw "ValueError.__init__" e)) (hz : rest.length ≤ sizeLine)
    (hq : ∀ h' t1, (∀ b o, b ≠ e → h.get? b = some o → h'.get? b = some o) → h'.get? e = some (HandSPX.excO C t1) → Q .none ⟨h', g, d, t, os⟩) :
    wpAny (model P w) A (call (.ref u) rest) Q E ⟨h, g, d, t, os⟩ := by
  have FB := F.excBase_ValueError
  refine wpAny_call (codeAny_of_tree ?_); show wpAny _ A.in1 (callAny (.ref u) ⟨rest, []⟩) _ _ _
  simp only [callAny]; refine wpAny_bind (wpAny_load hu ?_)
  simp only [PySem.W.kxs_mw, show (Value.type "method-wrapper" == Value.type "method" || Value.type "method-wrapper" == Value.type "builtin_function_or_method" || Value.type "method-wrapper" == Value.type "method-wrapper") = true by decide, if_true]
  refine PySem.W.KFB.if_so (by decide) (wpAny_bind (PySem.W.check_bound_init FB.toExcCallFacts hC he rfl (wpAny_bind (wpAny_pure (wpAny_pure ⟨plainId_quiet FB.init.plain _, codeAny_builtin FB.initEntry ?_⟩)))))
  exact PySem.W.exc_init_tree (cls := .ref C) (t0 := t0) (dv := none) (c2 := .none) (c3 := .none) (b4 := .bool false) he hz fun h' k hx _ => hq h' h.objs.size k hx
/-- what the written part says besides, for super() in the __init__ of the class at D -/
structure SupC (P : Program) (K : PySem.W.Frag) (mg : Str → Option Value) (D : Addr) : Prop where
  oex : OexC K D
  sub : PySem.W.mroIn K D (.ref D) = some true
  sup : PySem.W.ks_superIn K D D "__init__" = some (some (.builtin "ValueError.__init__"))
  ve : PySem.W.subIn K (.ref D) (.type "ValueError") = some true
  op : PySem.W.nsIn K cStatics "thirdparty.any" = some none
  mgs : mg "super" = none
  top : (P.main.scope.names.lookup ("super" : Str)).isSome = false
theorem fn_sup {CX : CXT} {P : Program} {w : World} {K : PySem.W.Frag} {mg : Str → Option Value} {base : Heap} {k : Nat} {f cc D cda : Addr} {name qual : Str} {params : Arguments} {body rest : List Stmt} {scope : Scope} {dV kV doc pm ct oc : Value} {an od : Option Addr}
    {osl : Array (Option Value)} {N ps : List Str} {sp : Sp} {e : Expr} {p0 p1 p2 p3 p4 : Pos} {pl : Sem Bool} {ar : Arg} {vsc : Array Value} {file : Str} {tf : Tok} {ccl : Value} {cdd : Option Addr} {ccs : Array (Option Value)} {cl : Value} {cld : Option Addr} {csl : Array (Option Value)}
    (lk : K.lookup f = some ⟨oc, od, .func (PySem.W.ksFn name qual params body scope dV kV doc pm an (.ref cda) ct cc), osl⟩) (hcd : PySem.W.codeIn K (.ref cda) qual = true) (S : SupScope N ps scope)
    (hb : body = .Expr (.Call (.Attribute (.Call (.Name "super" p0) [] [] p1) "__init__" p2) [e] [] p3) p4 :: rest)
    (hp : (params.posonlyargs ++ params.args).head? = some ar) (hps : ps[0]? = some ar.arg)
    (hcode : K.lookup cda = some ⟨ccl, cdd, .fields vsc, ccs⟩) (hvs : vsc[2]? = some (.str file tf)) (hfile : ((P.main.file : Str) == file) = true)
    (hcell : K.lookup cc = some ⟨cl, cld, .cell (some (.ref D)), csl⟩) (T : SupC P K mg D)
    (len : ∀ vs H Q E, sp vs H Q E → vs.length = ps.length)
    (he : ∀ L : Addr, starEach [e] (PySem.W.ksEnv qual scope L f (.ref cda) cc) = [(false, eval e (PySem.W.ksEnv qual scope L f (.ref cda) cc))])
    (hsw : ∀ L : Addr, swapsWith (.Call (.Attribute (.Call (.Name "super" p0) [] [] p1) "__init__" p2) [e] [] p3) none p4.line (PySem.W.ksEnv qual scope L f (.ref cda) cc) = pure false)
    (hev : ∀ L : Addr, eval (.Call (.Attribute (.Call (.Name "super" p0) [] [] p1) "__init__" p2) [e] [] p3) (PySem.W.ksEnv qual scope L f (.ref cda) cc) = (do
      let ov ← attributeBase (.Call (.Name "super" p0) [] [] p1) "__init__" (PySem.W.ksEnv qual scope L f (.ref cda) cc) (eval (.Call (.Name "super" p0) [] [] p1) (PySem.W.ksEnv qual scope L f (.ref cda) cc))
      standAt p2.atName
      let (fn, first) ← holding [ov] (getMethod ov "__init__" pl)
      callWith p3 fn first (backTo p3 (starEach [e] (PySem.W.ksEnv qual scope L f (.ref cda) cc))) []))
    (hbody : ∀ (A : Around) (outer : List Env) (s : Shared) (H : Hp) (vs : List V) (Q : VK) (E : XK), Room k (A.deeper (PySem.W.ksEnv qual scope s.heap.objs.size f (.ref cda) cc)) → sp vs H Q E →
      ∃ (a : Addr) (ta : TA) (t : TS), vs[0]? = some (.ref a) ∧ H a = some (exo a D none) ∧ PA (cxSup CX P w K mg base N qual scope f (.ref cda) cc A outer s H E) [e] ta ∧ PSs (cxSup CX P w K mg base N qual scope f (.ref cda) cc A outer s H E) rest t ∧
        ta (start N vs) H fun ws H1 => ws.length ≤ 1000 ∧ H1 a = some (exo a D none) ∧ t { nx := fun _ H' => Q .non H', rt := Q } (start N vs) H1) :
    FnOk P w K mg base CX (k + 1) f (PySem.W.ksFn name qual params body scope dV kV doc pm an (.ref cda) ct cc) ps sp := by
  refine ⟨len, fun A outer s H args us vs Q E hr e0 hbd r hsp => ?_⟩
  have hl := len _ _ _ _ hsp
  have KX : K.In s.heap := e0.mod.kin.keeps fun b o e => (e0.bs b o e).1
  have lim : s.heap.NoLimit := e0.mod.nolimit.keeps fun b o e => (e0.bs b o e).1
  obtain ⟨a, ta, t, hv0, ha, hpa, hpss, hq⟩ := hbody A outer s H vs Q E (hr.deeper _) hsp
  subst hb
  refine ks_codeAny_call_defAt (fd := PySem.W.ksFn name qual params _ scope dV kV doc pm an (.ref cda) ct cc) (binds := ps.zip us) hr.depth (KX _ _ lk) rfl lim (PySem.W.codeRec_of KX hcd) rfl hbd S.nocell (fun y hy => S.par _ (List.of_mem_zip hy).1) (fun h₀ hns kp => ?_) S.co S.gen S.kind
  have I := inv_startS (CX := CX) (E := E) (qual := qual) (f := f) (cd := .ref cda) (tk := s.toks + (ps.zip us).length) S hr.hd e0 hl r hcell rfl hns kp
  obtain ⟨u0, hu0, ru0⟩ := r.get hv0
  obtain rfl : u0 = Value.ref a := ru0
  have ndP : ps.Nodup := by rw [← S.pre]; exact S.nd.sublist (List.take_sublist _ _)
  have hself := zip_rev_lookup ndP hps hu0
  have KX0 : K.In h₀ := KX.keeps kp
  obtain ⟨nm, q, N', bs, bm, sn, sub, ab, col, dd, k0, k1, k2, k3, k5, hC, hbm⟩ := T.oex.cls
  have hcl : PySem.W.clsIn K D = some { name := nm, bases := bs, mro := .ref D :: bm, ns := N', qualname := q, hasDict := true, slotNames := sn, subclasses := sub, abstract := ab, collection := col, hasDel := false } := by unfold PySem.W.clsIn; rw [hC] <;> rfl
  obtain ⟨t1, ho⟩ := exo_at I.hok ha
  obtain ⟨mb, hmb, hbl⟩ := e0.mod.blt
  have bk : ∀ b o, base.get? b = some o → h₀.get? b = some o := fun b o e => kp b o (e0.bs b o e).1
  refine ks_wpAt_execs_cons (ks_wpAt_Expr_any (ks_wpAt_MethodCall (env := PySem.W.ksEnv qual scope s.heap.objs.size f (.ref cda) cc) ?_ (hev _)) I.quiet (hsw _))
  refine ks_wpAt_super_base (env := PySem.W.ksEnv qual scope s.heap.objs.size f (.ref cda) cc) S.hs S.hc (by decide) rfl (KX0 _ _ lk) rfl hp rfl (KX0 _ _ hcode) rfl hvs hfile T.top ?_
  refine PySem.W.ks_loadName_global S.kind S.hs (Calls.loadGlobal_builtin (e0.mod.glob.keeps bk) T.mgs (hmb.keeps bk) ((hbl _ (by decide)).trans (show bootBuiltins "super" = some (.type "super") by decide +kernel)) ⟨rfl, ?_⟩)
  refine wpAny_loadName_free S.kind S.hc rfl ⟨_, KX0 _ _ hcell, rfl⟩ ?_
  refine wpAny_loadName_local S.kind (S.par _ (List.mem_of_getElem? hps)) hns hself ?_
  refine ks_wpAny_isType_cls (KX0 _ _ hC) rfl ⟨rfl, ?_⟩
  obtain ⟨hs0, g, d, tk, os⟩ := s
  refine ks_wpAny_call_super (KX0 _ _ hC) rfl ho rfl (fun c z => by cases z) (PySem.W.looks_mroIn KX0 T.sub) (fun h1 e1 kp1 => ?_)
  have hsup := T.sup
  unfold PySem.W.ks_superIn at hsup
  rw [hcl] at hsup
  have KX1 : K.In h1 := KX0.keeps kp1
  have ho1 := kp1 _ _ ho
  have aD : a ≠ D := fun z => by
    rw [z] at ho1
    have := ho1.symm.trans (KX1 _ _ hC)
    cases this
  refine PySem.W.kxs_getMethod PySem.W.kxs_ValueError e1 (PySem.W.looks_opaque KX1 T.op) (fun A Q E s k q => wpAny_bind ((PySem.W.looks_clsIn KX1 hcl) A _ E s k (wpAny_pure q))) rfl KX1 hsup
    (PySem.W.InstAt.type (od := none) ⟨ho1, rfl, rfl, trivial⟩ |>.andThen (PySem.W.looks_subIn KX1 T.ve)) aD (by decide) ?_
  have kp2 : ∀ b o, h₀.get? b = some o → (h1.push (PySem.W.kxs_mw "ValueError.__init__" a)).get? b = some o := fun b o e => Heap.get?_push_of_some _ (kp1 b o e)
  have I2 := (I.kept (t' := tk + (ps.zip us).length + 1) kp2).pins_of (pins' := [(h1.objs.size, PySem.W.kxs_mw "ValueError.__init__" a)]) fun p hp => by
    have e : p = (h1.objs.size, PySem.W.kxs_mw "ValueError.__init__" a) := by simpa using hp
    subst e
    have big : h₀.objs.size ≤ h1.objs.size := by
      refine Nat.le_of_lt (Nat.lt_of_le_of_lt ?_ (Heap.lt_size e1))
      exact Nat.le_refl _
    refine ⟨Heap.get?_push_at rfl rfl, I.hok.fresh big, ?_, I.nofs big, fun v z => by cases z⟩
    exact Nat.ne_of_gt (Nat.lt_of_lt_of_le I.lt big)
  refine PySem.W.kxs_callWith (i := "ValueError.__init__") (x := a) (by rw [he _]; rfl) ?_
  rw [he _]
  refine Calls.evalArgs_plain ?_
  have hrun := hpa.run p3 _ _ (start N vs) H _ I2 hq
  have he' : starEach [e] (cxSup CX P w K mg base N qual scope f (.ref cda) cc A outer ⟨hs0, g, d, tk, os⟩ H E).env = _ := he _
  rw [he'] at hrun
  refine thn hrun fun ws s2 ⟨vs2, H1, I3, r3, hlen, ha1, ht⟩ => ?_
  obtain ⟨hu, _⟩ := I3.pin (h1.objs.size, PySem.W.kxs_mw "ValueError.__init__" a) (by simp)
  refine ⟨hu, ?_⟩
  obtain ⟨t2, ho2⟩ := exo_at I3.hok ha1
  obtain ⟨hp2, g2, d2, tk2, os2⟩ := s2
  refine call_mw (I3.kIn _ _ hC) ho2 hu (by rw [List.nil_append, ← Paired.length r3, sizeLine_eq]; omega) fun h' t3 k' hx => ?_
  have J0 := I3.write (t' := tk2) (x := a) (e := a) (o := exo a D none) (by rw [ha1]; exact True.intro) (.inl rfl) k' ⟨_, hx⟩ (exo_ok hx)
  have eu : upd H1 a (exo a D none) = H1 := by
    funext b
    by_cases hb : b = a
    · rw [hb, upd_same, ha1]
    · rw [upd_ne hb]
  rw [eu] at J0
  refine wpAt_of_wpAny (wpAny_mono (hpss.run _ _ (start N vs) H1 _ J0 ht) (fun fl s' hs => ?_) fun e s' hs => hs)
  have fin : ∀ {σ' : St} {H' : Hp} {v : V} {u : Value}, Inv (cxSup CX P w K mg base N qual scope f (.ref cda) cc A outer ⟨hs0, g, d, tk, os⟩ H E) [(h1.objs.size, PySem.W.kxs_mw "ValueError.__init__" a)] σ' H' s' → RelV v u → Q v H' → CE outer P w H ⟨hs0, g, d, tk, os⟩ Q u s' :=
    fun {σ' H' v u} J rv q => ⟨v, H', J.os, J.bare, J.base, J.hok, rv, q⟩
  match fl, hs with
  | .ret _, ⟨_, _, _, J, rv, q⟩ => exact fin J rv q
  | .next, ⟨_, _, J, q⟩ => exact fin (v := .non) J rfl q
  | .brk, ⟨_, _, _, q⟩ => exact q.elim
  | .cont, ⟨_, _, _, q⟩ => exact q.elim
end L2

namespace L2
open PySem PySem.Spec PyProof.Rows
/-! ### isinstance of a caught error, with or without a dict of its own -/
def rIsX (K : PySem.W.Frag) (a : Addr) (cls : Value) (d : Option Addr) : List V → Hp → VK → Prop := fun xs H Q => ∃ (c : V) (cv : Value) (b : Bool) (D : Addr), xs = [.ref a, c] ∧ (∀ u, RelV c u → u = cv) ∧ cls = .ref D ∧ ExcC K D ∧ PySem.W.kitOne K (.ref D) cv = some b ∧
  (d = none ∨ ∃ dd fs, d = some dd ∧ H dd = some (.xd fs)) ∧ Q (.bl b) H
theorem call_isX {X : Cx} {a : Addr} {oe : Obj} {cls : Value} {d : Option Addr} {pn : List (Addr × Obj)} (hz : Zc cls d oe) (hf : ∃ vs, oe.data = .fields vs) : CallR (X.suite a ((a, oe) :: pn)) (.builtin "isinstance") (rIsX X.K a cls d) := by
  intro pins s σ H xs us Q I r h
  obtain ⟨c, cv, b, D, rfl, hcv, rfl, C, e, hd, q⟩ := h
  cases r with
  | cons rx rr =>
    cases rr with
    | cons rt rr =>
      cases rr
      cases rx
      have ec := hcv _ rt
      subst ec
      obtain ⟨hget, _⟩ := I.pin (a, oe) (List.mem_append.mpr (.inl List.mem_cons_self))
      obtain ⟨vs, hv⟩ := hf
      have J : ∃ od, PySem.W.InstAt s.heap a oe D od := by
        rcases hd with hd | ⟨dd, fs, hd, hxd⟩
        · exact ⟨none, hget, hz.1, by unfold PySem.W.notCls; rw [hv] <;> rfl, by rw [hz.2, hd]; trivial⟩
        · obtain ⟨mA, hns, _⟩ := (show ObjOk X.prog X.w H s.heap dd (.xd fs) from I.hok dd _ hxd)
          obtain ⟨od, ho, _⟩ := lookIn_ns hns
          exact ⟨some od, hget, hz.1, by unfold PySem.W.notCls; rw [hv] <;> rfl, by rw [hz.2, hd]; exact ho⟩
      obtain ⟨od, J⟩ := J
      have hcl : (PySem.W.clsIn X.K D).isSome = true := by
        obtain ⟨cd, hc, _⟩ := PySem.W.any_some C.hd
        rw [hc]
        rfl
      exact PySem.W.kia_one (PySem.W.kitx_exc hcl C.hg C.hk C.hs C.ha C.hn C.ht C.hm) I.kIn J e (fun z => nomatch z) fun tk => ⟨.bl b, H, I.kept (t' := tk) fun _ _ z => z, rfl, q⟩
/-! ### xs.count(True), a list of True and False -/
def eqb (v : Value) : Bool := match v with
  | .bool b => b
  | _ => false
theorem eqb_all {A : Around} {s : Shared} : ∀ {us : List Value} {bs : List Bool}, Vals (bs.map V.bl) us → (∀ y ∈ us, SeqAt.EqAt A s y (.bool true) (eqb y)) ∧ us.countP eqb = bs.count true
  | _, [], h => by
    cases h
    refine ⟨fun y hy => ?_, rfl⟩; cases hy
  | _, b :: bs, h => by
    cases h with
    | @cons _ u _ us r t =>
      obtain ⟨h1, h2⟩ := eqb_all (A := A) (s := s) t
      obtain rfl : u = Value.bool b := r
      refine ⟨fun y hy => ?_, ?_⟩
      · rcases List.mem_cons.mp hy with e | e
        · rw [e]
          have z := eqAt_V (A := A) (s := s) (y := .bl b) (x := .bl true) (u := .bool b) (v := .bool true) rfl rfl rfl rfl
          have e2 : eqV (.bl b) (.bl true) = eqb (.bool b) := by cases b <;> decide
          rw [e2] at z
          exact z
        · exact h1 y e
      · rw [List.countP_cons, List.count_cons, h2]
        cases b <;> rfl
def rCntB (K : PySem.W.Frag) : V → List V → Hp → VK → Prop := fun x xs H Q => ∃ (p : Addr) (bs : List Bool), x = .ref p ∧ xs = [.bl true] ∧ SqL K H p (bs.map V.bl) ∧ Q (.int (bs.count true : Nat)) H
theorem mt_countB {X : Cx} : MtR X "list.count" (rCntB X.K) := by
  intro pins s σ H x xs v us Q I rx rxs h
  obtain ⟨p, bs, rfl, rfl, hS, q⟩ := h
  cases rx
  obtain ⟨u, rfl, ru⟩ := rxs.one
  obtain rfl : u = Value.bool true := ru
  obtain ⟨its, r, ⟨⟨cls, dd, data, sl⟩, n, ho, hc, hdn, hd⟩, z⟩ := I.list hS
  simp only at hc hd
  subst hc hd
  refine call_meets PySem.F.slot_list_count ⟨_, ho, rfl⟩ PySem.F.entry_list_count (PySem.F.args_list_count_2 _ _) (SeqAt.list_countAt p its.toArray n dd sl (.bool true) eqb) ⟨ho, fun y hy => (eqb_all r).1 y (by simpa using hy), ?_⟩
  have ec : its.toArray.toList.countP eqb = bs.count true := (eqb_all (A := X.A) (s := s) r).2
  refine ⟨.int (bs.count true : Nat), H, I.tok _, ⟨s.toks, congrArg (fun n : Nat => Value.int (n : Int) s.toks) ec⟩, q⟩
/-! ### == and != of two instances of a class with its own __eq__, whatever it answers -/
theorem ns_someX {K : PySem.W.Frag} {h : Heap} {N : Addr} {m : Str → Option Value} {n : Str} {v : Value} (X : K.In h) (G : h.Ns N m) (e : PySem.W.nsIn K N n = some (some v)) : m n = some v := by
  obtain ⟨o, es, ep, ho, hd, _, hf⟩ := G
  unfold PySem.W.nsIn at e; split at e
  · rename_i c d es' n' sl q
    have z := X _ _ q; rw [ho] at z; cases z; cases hd
    split at e
    · rename_i ent he
      rw [← hf]; unfold nsFind findBy; rw [← Array.find?_toList, he]
      simpa using e
    · split at e <;> cases e
  · cases e
structure OwnEqC (K : PySem.W.Frag) (C f : Addr) : Prop where
  cls : ∃ nm q N bs hd sn sub ab col dd k0 k1 k2 k3 k5 newId, K.lookup C = some (excClassObj nm q C N bs [.type "object"] hd sn sub ab col dd k0 k1 k2 k3 k5 newId) ∧ PySem.W.nsIn K N "__eq__" = some (some (.ref f)) ∧ PySem.W.nsIn K N "__ne__" = some none ∧ PySem.W.nsOkIn K N = true
  fi : PySem.W.findIn K (.ref C) "__eq__" = some (some (.ref f))
  fn : PySem.W.isFn K (.ref f) = true
def rEqO (C : Addr) (sp : Sp) (fl : Bool → Bool) : R2 := fun x y H Q => ∃ a b dx dy fs gs, x = .ref a ∧ y = .ref b ∧ H a = some (.ins C dx fs) ∧ H b = some (.ins C dy gs) ∧ sp [.ref a, .ref b] H (fun v H' => ∃ r, v = .bl r ∧ Q (.bl (fl r)) H') E0
section
variable {X : Cx} {C f : Addr} {fd : FuncData} {ps : List Str} {sp : Sp} {k : Nat}
theorem call_eqO (F : FnOk X.prog X.w X.K X.mg X.base CX0 k f fd ps sp) (hb : Binds X.K fd ps []) {A : Around} (hr : Room k A) (hA : A.frames = X.A.frames) {pins : List (Addr × Obj)} {s : Shared} {σ : St} {H : Hp} {a b : Addr} {Q : VK} {E : Value → Shared → Prop} (I : Inv X pins σ H s) (hsp : sp [.ref a, .ref b] H Q E0) :
    wpAny (model X.prog X.w) A (call (.ref f) [.ref a, .ref b]) (EP X pins σ Q) E s := by
  have e0 : Env0 X.prog X.w X.K X.mg X.base A X.stack s H := by
    have e := I.env0
    exact ⟨by rw [hA]; exact e.frames, e.mod, e.bs, e.bsz, e.funs, e.frf, e.hok, e.bare⟩
  have hl := F.len _ _ _ _ hsp
  have r2 : Vals [V.ref a, V.ref b] [Value.ref a, Value.ref b] := .cons rfl (.cons rfl .nil)
  have hbd := hb s [.ref a, .ref b] I.kIn (by simpa using hl)
  rw [List.append_nil] at hbd
  refine wpAny_call (codeAny_mono (F.run A X.stack s H ⟨[.ref a, .ref b], []⟩ [.ref a, .ref b] [.ref a, .ref b] _ E0 hr e0 hbd r2 hsp) fun r s' hq => ?_)
  cases r with
  | error e => exact (show False from hq).elim
  | ok fl =>
    cases fl with
    | ret w => exact I.after hq
    | next => exact False.elim hq
    | brk => exact False.elim hq
    | cont => exact False.elim hq
theorem op_eqO (F : FnOk X.prog X.w X.K X.mg X.base CX0 k f fd ps sp) (T : OwnEqC X.K C f) (hb : Binds X.K fd ps []) (hr : Room k X.A) : OpR X (compareOp .Eq) (rEqO C sp id) := by
  intro pins s σ H x y v u Q I rx ry hq
  obtain ⟨a, b, dx, dy, fs, gs, rfl, rfl, ha, hb', hsp⟩ := hq
  cases rx
  cases ry
  obtain ⟨mA, J, _⟩ := ins_get I.hok ha
  obtain ⟨mB, J', _⟩ := ins_get I.hok hb'
  obtain ⟨od, J, _⟩ := J.look
  obtain ⟨od', J', _⟩ := J'.look
  obtain ⟨m, hF⟩ := I.fr
  show wpAny (model X.prog X.w) X.A (richCompare .Eq (.ref a) (.ref b)) (EP X pins σ Q) X.xe s
  refine PySem.W.cmp_K (op := .Eq) (tb := .ref C) hr.units0 hF I.ok.mod.kin J J'.type (by simp [PySem.W.notFirst]) T.fi T.fn ?_
  refine thn (call_eqO F hb hr rfl I hsp) fun w s' hw => ?_
  obtain ⟨z, H', I', rz, r, rfl, q⟩ := hw
  obtain rfl : w = Value.bool r := rz
  exact ⟨.bl r, H', I', rfl, q⟩
theorem op_neO (F : FnOk X.prog X.w X.K X.mg X.base CX0 k f fd ps sp) (T : OwnEqC X.K C f) (hb : Binds X.K fd ps []) (hr : Room (k + 1) X.A) : OpR X (compareOp .NotEq) (rEqO C sp not) := by
  intro pins s σ H x y v u Q I rx ry hq
  obtain ⟨a, b, dx, dy, fs, gs, rfl, rfl, ha, hb', hsp⟩ := hq
  cases rx
  cases ry
  obtain ⟨mA, J, _⟩ := ins_get I.hok ha
  obtain ⟨mB, J', _⟩ := ins_get I.hok hb'
  obtain ⟨od, J, _⟩ := J.look
  obtain ⟨od', J', _⟩ := J'.look
  obtain ⟨nm, q, N, bs, hd, sn, sub, ab, col, dd, k0, k1, k2, k3, k5, newId, hC, he, hn, hok⟩ := T.cls
  have KX := I.kIn
  obtain ⟨of, hof, hofc⟩ : ∃ of, s.heap.get? f = some of ∧ of.cls = .type "function" := by
    have z := T.fn
    unfold PySem.W.isFn at z
    cases e : X.K.lookup f with
    | none => simp [PySem.W.typeIn, e] at z
    | some of => exact ⟨of, KX _ _ e, by simpa [PySem.W.typeIn, e] using z⟩
  have hN := Heap.Ns.of_isNs (PySem.W.isNs_of_in KX hok)
  have h1 := ns_someX KX hN he
  have h2 := PySem.W.ns_none_of KX hN hn
  obtain ⟨hp, g, d, t, os⟩ := s
  refine compareOp_ne_ownEq (C := C) (f := f) PySem.F.cmp_object ⟨_, of, nm, q, N, bs, hd, sn, sub, ab, col, dd, k0, k1, k2, k3, k5, newId, _, _, J.at_, J.cls, KX _ _ hC, hN, h1, hof, hofc, PySem.F.mro_object, PySem.F.cmp_object.eq.lookup, h2⟩ J'.at_ J'.cls (hu_of hr) ?_
  refine thn (call_eqO F hb hr.in1 rfl I hsp) fun w s' hw => ?_
  obtain ⟨z, H', I', rz, r, rfl, q⟩ := hw
  obtain rfl : w = Value.bool r := rz
  exact ⟨r, rfl, .bl (!r), H', I', rfl, q⟩
end
end L2

namespace Half
open PySem PySem.Spec PyProof.Rows L2
def top (i : Nat) : Stmt := PySem.Challenge.pw_halfsetup_k53_scripts_rejected.main.body.getD i (.Pass ⟨0, 0, 0, 0⟩)
abbrev sTaken : Stmt := top 87
/-- the row of draws: the script, how many of its cells were read, the seed, what is left of a great cell -/
def Row (K : PySem.W.Frag) (H : Hp) (r a : Addr) : Prop := ∃ (ns : List Int) (i g l : Int), H r = some (.lst [.ref a, .int i, .int g, .int l]) ∧ SqL K H a (ns.map V.int) ∧ ns.length ≤ 63 ∧ 0 ≤ i
/-- a draw: some number below the bound; the row alone is changed -/
def spTaken (K : PySem.W.Frag) : Sp := fun vs H Q _ => ∃ (r : Addr) (m : Int) (a : Addr), vs = [.ref r, .int m] ∧ Row K H r a ∧ 0 < m ∧ m < 1073741824 ∧
  ∀ (v : Int) (o : HO), 0 ≤ v → v < m → Row K (upd H r o) r a → Q (.int v) (upd H r o)
theorem seqNe {K : PySem.W.Frag} {H : Hp} {r a : Addr} {o : HO} {xs : List V} (h : SqL K H a xs) (n : r ≠ a) : SqL K (upd H r o) a xs := by
  rcases h with (h | ⟨q, h⟩) | h
  · exact .inl (.inl (by rw [upd_ne (Ne.symm n)]; exact h))
  · exact .inl (.inr ⟨q, by rw [upd_ne (Ne.symm n)]; exact h⟩)
  · exact .inr h
theorem Row.seq {K : PySem.W.Frag} {H : Hp} {r a b : Addr} {o : HO} {ns : List Int} {l : List V} (hr : H r = some (.lst (.ref b :: l))) (h : SqL K H a (ns.map V.int)) : SqL K (upd H r o) a (ns.map V.int) := by
  have z : HO.lst (ns.map V.int) ≠ HO.lst (.ref b :: l) := fun z => by
    have z' : ns.map V.int = .ref b :: l := by injection z
    cases ns with
    | nil => cases z'
    | cons n ns => cases z'
  rcases h with (h | ⟨q, h⟩) | h
  · exact .inl (.inl (by rw [upd_ne (ne_of h hr z)]; exact h))
  · exact .inl (.inr ⟨q, by rw [upd_ne (ne_of h hr (fun w => by cases w))]; exact h⟩)
  · exact .inr h
structure TxtD (mg : Str → Option Value) : Prop where
  int : mg "int" = none
  len : mg "len" = none
section
variable {P : Program} {w : World} {K : PySem.W.Frag} {mg : Str → Option Value} {base : Heap}
theorem scTaken : FnScope ["_law_row", "_law_many", "_law_found", "_law_cell"] ["_law_row", "_law_many"] (defScope sTaken) := ⟨rfl, rfl, rfl, by decide +kernel, rfl, by decide +kernel, by decide +kernel⟩
theorem ok_taken {f : Addr} {fd : FuncData} (F : Fun K "_law_taken" "_law_taken" sTaken f fd) (T : TxtD mg) : FnOk P w K mg base CX0 1 f fd ["_law_row", "_law_many"] (spTaken K) := by
  refine F.ok scTaken (fun vs H Q E h => ?_) (fun cdv A outer s H vs Q E hr h => ?_)
  · obtain ⟨r, m, a, rfl, _⟩ := h
    rfl
  · obtain ⟨r, m, a, rfl, ⟨ns, i, g, l, hR, hS, hlen, hi⟩, hm0, hm1, k⟩ := h
    have nd := scTaken.nd
    refine ⟨_, pss_cons (ps_if (pt_cmpR op_gt (pe_ix ix_list (pv 0) pe_int (fun _ _ => rfl)) pe_int (nomark _))
        (pss_cons (ps_set (i := 2) nd rfl (Or.inl rfl) (pe_op op_mod (pe_callTy call_int1 (by rfl) T.int (by decide +kernel) (pa_cons (pe_ix ix_list (pv 0) pe_int (fun _ _ => rfl)) pa_nil)) (pv 1)))
        (pss_cons (ps_asg (pe_op op_fdiv (pe_ix ix_list (pv 0) pe_int (fun _ _ => rfl)) (pv 1)) (pg_sub (pv 0) pe_int set_list))
        (pss_one (ps_ret (pv 2))))) pss_nil)
      (pss_cons (ps_asg (pe_op op_add (pe_ix ix_list (pv 0) pe_int (fun _ _ => rfl)) pe_int) (pg_sub (pv 0) pe_int set_list))
      (pss_cons (ps_if (pt_cmpR op_gt (pe_ix ix_list (pv 0) pe_int (fun _ _ => rfl)) (pe_callB call_len_seq (by rfl) T.len PySem.boot_len (pa_cons (pe_ix ix_list (pv 0) pe_int (fun _ _ => rfl)) pa_nil)) (nomark _))
        (pss_cons (ps_asg (pe_op op_mod (pe_callTy call_int1 (by rfl) T.int (by decide +kernel) (pa_cons (pe_op op_add (pe_op op_mul (pe_ix ix_list (pv 0) pe_int (fun _ _ => rfl)) pe_int) pe_int) pa_nil)) pe_int) (pg_sub (pv 0) pe_int set_list))
        (pss_one (ps_ret (pe_op op_mod (pe_callTy call_int1 (by rfl) T.int (by decide +kernel) (pa_cons (pe_op op_fdiv (pe_ix ix_list (pv 0) pe_int (fun _ _ => rfl)) pe_int) pa_nil)) (pv 1))))) pss_nil)
      (pss_cons (ps_set (i := 3) nd rfl (Or.inl rfl) (pe_ix ix_list (pe_ix ix_list (pv 0) pe_int (fun _ _ => rfl)) (pe_op op_sub (pe_ix ix_list (pv 0) pe_int (fun _ _ => rfl)) pe_int) (fun _ _ => rfl)))
      (pss_cons (ps_asg (pe_op op_mod (pe_callTy call_int1 (by rfl) T.int (by decide +kernel) (pa_cons (pe_op op_add (pe_op op_add (pe_op op_mul (pe_ix ix_list (pv 0) pe_int (fun _ _ => rfl)) pe_int) (pv 3)) pe_int) pa_nil)) pe_int) (pg_sub (pv 0) pe_int set_list))
      (pss_cons (ps_if (pt_cmpR op_ge (pv 3) (pe_op op_pow pe_int pe_int) (nomark _)) (pss_one (ps_asg (pe_op op_fdiv (pv 3) (pv 1)) (pg_sub (pv 0) pe_int set_list))) pss_nil)
      (pss_one (ps_ret (pe_op op_mod (pe_callTy call_int1 (by rfl) T.int (by decide +kernel) (pa_cons (pv 3) pa_nil)) (pv 1))))))))), ?_⟩
    have mk : ∀ (i' g' l' : Int), 0 ≤ i' → ∀ o, o = HO.lst [.ref a, .int i', .int g', .int l'] → Row K (upd H r o) r a := fun i' g' l' h o e => ⟨ns, i', g', l', by rw [upd_same, e], Row.seq hR hS, hlen, h⟩
    refine ⟨_, rfl, r, _, _, _, rfl, rfl, SqL.of hR, rfl, _, _, rfl, rfl, _, rfl, ?_⟩
    refine ite2 (fun c => ?_) (fun c => ?_)
    · refine ⟨_, rfl, r, _, _, _, rfl, rfl, SqL.of hR, rfl, .inl ⟨_, rfl, _, rfl, _, _, rfl, rfl, hm0, ?_⟩⟩
      refine ⟨_, rfl, r, _, _, _, rfl, rfl, SqL.of hR, rfl, _, rfl, _, _, rfl, rfl, ⟨hm0, hm1⟩, _, rfl, r, _, _, _, rfl, rfl, hR, rfl, ?_⟩
      refine ⟨_, rfl, ?_⟩
      exact k _ _ (Int.emod_nonneg _ (by omega)) (Int.emod_lt_of_pos _ hm0) (mk i g (l / m) hi _ rfl)
    · refine ⟨_, rfl, r, _, _, _, rfl, rfl, SqL.of hR, rfl, _, _, rfl, rfl, _, rfl, r, _, _, _, rfl, rfl, hR, rfl, ?_⟩
      have hR1 : ∀ o : HO, (upd H r o) r = some o := fun o => upd_same
      refine ⟨_, rfl, r, _, _, _, rfl, rfl, SqL.of (hR1 _), rfl, _, rfl, r, _, _, _, rfl, rfl, SqL.of (hR1 _), rfl, a, _, rfl, .inl (Row.seq hR hS), _, _, rfl, rfl, _, rfl, ?_⟩
      refine ite2 (fun c2 => ?_) (fun c2 => ?_)
      · refine ⟨_, rfl, r, _, _, _, rfl, rfl, SqL.of (hR1 _), rfl, _, _, rfl, rfl, .inr ⟨by decide, by decide⟩, _, _, rfl, rfl, .inl ⟨_, rfl, _, _, rfl, rfl, (by show (0 : Int) < 2147483647; decide), _, rfl, r, _, _, _, rfl, rfl, hR1 _, rfl, ?_⟩⟩
        rw [upd_upd]
        refine ⟨_, rfl, r, _, _, _, rfl, rfl, SqL.of (hR1 _), rfl, _, _, rfl, rfl, ⟨by decide, by decide⟩, .inl ⟨_, rfl, _, rfl, _, _, rfl, rfl, hm0, ?_⟩⟩
        exact k _ _ (Int.emod_nonneg _ (by omega)) (Int.emod_lt_of_pos _ hm0) (mk (i + 1) _ l (by omega) _ rfl)
      · have c3 : ¬ ((ns.map V.int).length : Int) < i + 1 := fun z => c2 (decide_eq_true z)
        rw [List.length_map] at c3
        have hin : i.toNat < ns.length := by omega
        have hat : atI (ns.map V.int) ((i + 1) - 1) = some (V.int ns[i.toNat]) := by
          have e : (i + 1) - 1 = ((i.toNat : Nat) : Int) := by omega
          rw [e]
          refine atI_nat ?_
          rw [List.getElem?_map, List.getElem?_eq_getElem hin]
          rfl
        refine ⟨_, rfl, r, _, _, _, rfl, rfl, SqL.of (hR1 _), rfl, _, rfl, r, _, _, _, rfl, rfl, SqL.of (hR1 _), rfl, _, _, rfl, rfl, a, _, _, _, rfl, rfl, Row.seq hR hS, hat, ?_⟩
        refine ⟨_, rfl, r, _, _, _, rfl, rfl, SqL.of (hR1 _), rfl, _, _, rfl, rfl, .inr ⟨by decide, by decide⟩, _, rfl, _, _, rfl, rfl, _, _, rfl, rfl, .inl ⟨_, rfl, _, _, rfl, rfl, (by show (0 : Int) < 2147483647; decide), _, rfl, r, _, _, _, rfl, rfl, hR1 _, rfl, ?_⟩⟩
        rw [upd_upd]
        refine ⟨_, rfl, _, _, rfl, rfl, ⟨by decide, by decide, by decide⟩, _, _, rfl, rfl, _, rfl, ?_⟩
        refine ite2 (fun c4 => ?_) (fun c4 => ?_)
        · refine ⟨_, rfl, _, rfl, _, _, rfl, rfl, ⟨hm0, hm1⟩, _, rfl, r, _, _, _, rfl, rfl, hR1 _, rfl, ?_⟩
          rw [upd_upd]
          refine ⟨_, rfl, .inl ⟨_, rfl, _, rfl, _, _, rfl, rfl, hm0, ?_⟩⟩
          exact k _ _ (Int.emod_nonneg _ (by omega)) (Int.emod_lt_of_pos _ hm0) (mk (i + 1) _ _ (by omega) _ rfl)
        · refine ⟨_, rfl, .inl ⟨_, rfl, _, rfl, _, _, rfl, rfl, hm0, ?_⟩⟩
          exact k _ _ (Int.emod_nonneg _ (by omega)) (Int.emod_lt_of_pos _ hm0) (mk (i + 1) _ _ (by omega) _ rfl)
end
end Half

namespace Half
open PySem PySem.Spec PyProof.Rows L2
abbrev sWord : Stmt := top 5
abbrev sNumber : Stmt := top 6
abbrev sAscends : Stmt := top 8
abbrev sVersion : Stmt := top 73
abbrev sScripts : Stmt := top 74
abbrev sOthers : Stmt := top 75
abbrev sPair : Stmt := top 76
abbrev sNeeds : Stmt := top 77
/-! comprehensions that make one item of each -/
def MapP (H1 : Hp) (D : Addr) (ys : List V) : Nat → Hp → Prop := fun i H => Same H1 H ∧ H D = some (.lst (ys.take i))
theorem MapP.zero {H1 : Hp} {D : Addr} {ys : List V} (hD : H1 D = none) : MapP H1 D ys 0 (upd H1 D (.lst [])) :=
  ⟨fun b o e => by rw [upd_ne (ne_of_none e hD)]; exact e, upd_same⟩
theorem MapP.step {H1 H H4 : Hp} {D : Addr} {ys : List V} {i : Nat} {y : V} (p : MapP H1 D ys i H) (hD : H1 D = none) (hy : ys[i]? = some y) (hl : ys.length ≤ 1000) (e : Same H H4) :
    ∃ acc, H4 D = some (.lst acc) ∧ acc.length < sizeLine ∧ MapP H1 D ys (i + 1) (upd H4 D (.lst (acc ++ [y]))) := by
  refine ⟨_, e _ _ p.2, small1000 (by rw [List.length_take]; omega), fun b o q => ?_, ?_⟩
  · rw [upd_ne (ne_of_none q hD)]
    exact e _ _ (p.1 b o q)
  · rw [upd_same, List.take_add_one, hy]
    rfl
theorem MapP.done {H1 H : Hp} {D : Addr} {ys : List V} {n : Nat} (p : MapP H1 D ys n H) (hn : n = ys.length) : Same H1 H ∧ H D = some (.lst ys) := by
  refine ⟨p.1, ?_⟩
  rw [p.2, hn, List.take_length]
theorem iteNT {c A B : Prop} [Decidable c] (hc : ¬ c) (h : A) : if (!decide c) = true then A else B := by
  rw [decide_eq_false hc]
  exact iteT h
/-! the mirror -/
def LET : Str := "abcdefghijklmnopqrstuvwxyz"
def isWord (z : Str) : Bool := decide (1 ≤ (z.length : Int)) && decide ((z.length : Int) ≤ 8) && z.cps.toList.all fun c => decide (c ∈ LET.cps.toList)
/-- what the top says -/
structure TxtC (K : PySem.W.Frag) (mg : Str → Option Value) (fW fN fA fV fO fP : Addr) (tS : Addr) : Prop where
  d : TxtD mg
  isi : mg "isinstance" = none
  str : mg "str" = none
  boo : mg "bool" = none
  tup : mg "tuple" = none
  all : mg "all" = none
  ran : mg "range" = none
  lets : ∃ t, mg "LETTERS" = some (.str LET t)
  lon : ∃ t, mg "LONGEST_WORD" = some (.int 8 t)
section
variable {P : Program} {w : World} {K : PySem.W.Frag} {mg : Str → Option Value} {base : Heap} {fW fN fA fV fO fP tS : Addr}
def spWord : Sp := fun vs H Q _ => ∃ z : Str, vs = [.str z] ∧ z.length ≤ 1000 ∧ ∀ H', Same H H' → Q (.bl (isWord z)) H'
theorem scWord : FnScope ["text", "letter"] ["text"] (defScope sWord) := ⟨rfl, rfl, rfl, by decide +kernel, rfl, by decide +kernel, by decide +kernel⟩
theorem ok_word {f : Addr} {fd : FuncData} (F : Fun K "is_word" "is_word" sWord f fd) (T : TxtC K mg fW fN fA fV fO fP tS) : FnOk P w K mg base CX0 1 f fd ["text"] spWord := by
  refine F.ok scWord (fun vs H Q E h => ?_) (fun cdv A outer s H vs Q E hr h => ?_)
  · obtain ⟨z, rfl, _⟩ := h
    rfl
  · obtain ⟨z, rfl, hz, k⟩ := h
    obtain ⟨tl, gl⟩ := T.lets
    obtain ⟨t8, g8⟩ := T.lon
    have nd := scWord.nd
    refine ⟨_, pss_cons (ps_if (PW.pt (pw_or (pt_not (pt_val (pe_callB call_isi (by rfl) T.isi (by decide +kernel) (pa_cons (pv 0) (pa_cons (pe_bltn (v := .ty "str") (by rfl) T.str (by decide +kernel) rfl) pa_nil)))))
        (pw_or1 (pt_not (pt_chain op_le op_le pe_int (pe_callB call_len_str (by rfl) T.d.len PySem.boot_len (pa_cons (pv 0) pa_nil)) (pe_glob (v := .int 8) rfl g8 ⟨_, rfl⟩))))))
        (pss_one (ps_ret pe_bl)) pss_nil)
      (pss_one (ps_ret (pe_callB (cr_all rfl) (by rfl) T.all (by decide +kernel) (pa_cons
        (pe_lc (own := [("letter", 1)]) (g := gName 1) (tt := tYes) rfl nd (pi_str (pv 0)) (blkOk_by (N := ["text", "letter"]) (sc := defScope sWord) (by decide +kernel))
          (fun _ _ _ _ _ => pg_name (i := 1) nd rfl (Or.inl rfl)) (fun _ _ _ _ _ => pts_nil)
          (fun _ _ _ _ _ => pe_cmpR op_in_sign (pv 1) (pe_glob (v := .str LET) rfl gl ⟨_, rfl⟩) rfl)) pa_nil)))), ?_⟩
    refine ⟨_, rfl, _, _, _, _, _, rfl, .ty _, .base (.str _), kit_ty (r := true) (by decide +kernel), _, rfl, iteF ?_⟩
    refine ⟨_, rfl, _, rfl, Nat.le_trans hz (by decide), _, _, rfl, rfl, _, rfl, ?_⟩
    have bad : isWord z = false → Q (.bl false) H := fun e => by
      have q := k H (Same.refl H)
      rw [e] at q
      exact q
    refine ite2 (fun c1 => ?_) (fun c1 => ?_)
    · refine ⟨_, _, rfl, rfl, _, rfl, ?_⟩
      by_cases c2 : (z.length : Int) ≤ 8
      · refine iteNS c2 ?_
        refine ⟨_, rfl, z, rfl, fun D hD => lc_it walk_str (MapP H D (z.cps.toList.map fun c => V.bl (decide (c ∈ LET.cps.toList)))) (MapP.zero hD) (fun _ _ _ _ => trivial) ?_ ?_⟩
        · rintro i x H1 H2 hi p ⟨rfl, c, hc, rfl⟩
          refine ⟨rfl, _, rfl, c, _, rfl, rfl, ?_⟩
          refine p.step hD ?_ (by rw [List.length_map, Array.length_toList]; exact hz) (Same.refl _)
          rw [List.getElem?_map, Array.getElem?_toList, hc]
          rfl
        · intro H2 p
          obtain ⟨s2, hl⟩ := p.done (by rw [List.length_map, Array.length_toList])
          refine ⟨D, z.cps.toList.map fun c => decide (c ∈ LET.cps.toList), rfl, SqL.of (by rw [hl, List.map_map]; rfl), ?_⟩
          have e : isWord z = (z.cps.toList.map fun c => decide (c ∈ LET.cps.toList)).all id := by
            unfold isWord
            rw [c1, decide_eq_true c2, List.all_map]
            rfl
          rw [← e]
          exact k H2 s2
      · refine iteNT c2 ?_
        exact bad (by unfold isWord; rw [decide_eq_false c2, Bool.and_false, Bool.false_and])
    · have c1' : decide (1 ≤ (z.length : Int)) = false := by simpa using c1
      refine ⟨_, rfl, iteT ?_⟩
      exact bad (by unfold isWord; rw [c1', Bool.false_and, Bool.false_and])
end
end Half

namespace Half
open PySem PySem.Spec PyProof.Rows L2
/-! ### a def that is known by its promise -/
structure Def (P : Program) (w : World) (K : PySem.W.Frag) (mg : Str → Option Value) (base : Heap) (k : Nat) (x : Str) (ps : List Str) (sp : Sp) : Prop where
  ex : ∃ f fd, FnOk P w K mg base CX0 k f fd ps sp ∧ mg x = some (.ref f) ∧ PySem.W.keepIn K (.ref f) = true ∧ Binds K fd ps []
theorem pe_def {X : Cx} {k : Nat} {x : Str} {ps : List Str} {sp : Sp} {e : Expr} {es : List Expr} {t : TA} {p pos : Pos} (D : Def X.prog X.w X.K X.mg X.base k x ps sp) (hr : Room k X.A) (hg : Gl X x) (ha : PA X (e :: es) t)
    (hdb : (x == ("__debug__" : Str)) = false := by decide) (he : starEach (e :: es) X.env = (false, eval e X.env) :: starEach es X.env := by rfl) (hpl : (backTo pos (starEach es X.env)).any (·.1) = false := by rfl) :
    PE X (.Call (.Name x p) (e :: es) [] pos) (tCall sp [] E0 t) := by
  obtain ⟨f, fd, F, hm, hk, hb⟩ := D.ex
  exact pe_call F hr hg hm hk hb .nil pass0 ha hdb he hpl
theorem _root_.L2.Same.sqT {K : PySem.W.Frag} {H H' : Hp} {a : Addr} {xs : List V} (e : Same H H') (h : SqT K H a xs) : SqT K H' a xs := by
  rcases h with (h | ⟨o, h⟩) | h
  · exact .inl (.inl (e _ _ h))
  · exact .inl (.inr ⟨o, e _ _ h⟩)
  · exact .inr h
theorem tyT {K : PySem.W.Frag} {H : Hp} {a : Addr} {xs : List V} (h : SqT K H a xs) : TyX K H (.ref a) (.type "tuple") := by
  rcases h with (h | ⟨o, h⟩) | ⟨o, its, n, h1, h2, _⟩
  · exact .base (.tup h)
  · exact .fTuple h
  · exact .kTuple h1 h2
theorem _root_.L2.Same.upd_new {H : Hp} {p : Addr} {o : HO} (h : H p = none) : Same H (upd H p o) := fun b u e => by rw [upd_ne (ne_of_none e h)]; exact e
/-! ### the mirror -/
def inR (v : V) (lo hi : Int) : Bool := match v with
  | .int n => decide (lo ≤ n) && decide (n ≤ hi)
  | _ => false
def strLt (a b : Str) : Bool := decide (a.cps.toList < b.cps.toList)
def ascS (ss : List Str) : Bool := (List.range (ss.length - 1)).all fun i => strLt (ss.getD i "") (ss.getD (i + 1) "")
def SCR : List Str := ["clean", "enter", "leave", "setup"]
def areScripts (ss : List Str) : Bool := (ss.all fun z => inV (.str z) (SCR.map V.str)) && ascS ss
def areOthers (ss : List Str) (nm : Str) : Bool := (ss.all fun z => isWord z && !decide (V.str z = V.str nm)) && ascS ss
def areNeeds (ps : List (Str × Int)) (nm : Str) : Bool := (ps.all fun p => inR (.int p.2) 1 99) && areOthers (ps.map (·.1)) nm
/-- needs: a tuple of pairs -/
def NeedsAt (K : PySem.W.Frag) (H : Hp) (a : Addr) (ps : List (Str × Int)) : Prop := ∃ ts : List Addr, SqT K H a (ts.map V.ref) ∧ ts.length = ps.length ∧ ∀ (i : Nat) t p, ts[i]? = some t → ps[i]? = some p → SqT K H t [.str p.1, .int p.2]
theorem NeedsAt.same {K : PySem.W.Frag} {H H' : Hp} {a : Addr} {ps : List (Str × Int)} (e : Same H H') (h : NeedsAt K H a ps) : NeedsAt K H' a ps := by
  obtain ⟨ts, h1, h2, h3⟩ := h
  exact ⟨ts, e.sqT h1, h2, fun i t p q r => e.sqT (h3 i t p q r)⟩
/-! ### promises -/
def spNumber : Sp := fun vs H Q _ => ∃ (v : V) (lo hi : Int), vs = [v, .int lo, .int hi] ∧ ((∃ n, v = .int n) ∨ ∃ b, v = .bl b) ∧ Q (.bl (inR v lo hi)) H
def spVersion : Sp := fun vs H Q _ => ∃ v : V, vs = [v] ∧ ((∃ n, v = .int n) ∨ ∃ b, v = .bl b) ∧ Q (.bl (inR v 1 99)) H
def spAsc (K : PySem.W.Frag) : Sp := fun vs H Q _ => ∃ (a : Addr) (ss : List Str), vs = [.ref a] ∧ SqT K H a (ss.map V.str) ∧ ss.length ≤ 100 ∧ ∀ H', Same H H' → Q (.bl (ascS ss)) H'
def spScripts (K : PySem.W.Frag) : Sp := fun vs H Q _ => ∃ (a : Addr) (ss : List Str), vs = [.ref a] ∧ SqT K H a (ss.map V.str) ∧ ss.length ≤ 100 ∧ ∀ H', Same H H' → Q (.bl (areScripts ss)) H'
def spOthers (K : PySem.W.Frag) : Sp := fun vs H Q _ => ∃ (a : Addr) (ss : List Str) (nm : Str), vs = [.ref a, .str nm] ∧ SqT K H a (ss.map V.str) ∧ ss.length ≤ 100 ∧ (∀ z ∈ ss, z.length ≤ 1000) ∧ ∀ H', Same H H' → Q (.bl (areOthers ss nm)) H'
def spPair (K : PySem.W.Frag) : Sp := fun vs H Q _ => ∃ (t : Addr) (n : Str) (v : Int), vs = [.ref t] ∧ SqT K H t [.str n, .int v] ∧ Q (.bl (inR (.int v) 1 99)) H
def spNeeds (K : PySem.W.Frag) : Sp := fun vs H Q _ => ∃ (a : Addr) (ps : List (Str × Int)) (nm : Str), vs = [.ref a, .str nm] ∧ NeedsAt K H a ps ∧ ps.length ≤ 100 ∧ (∀ p ∈ ps, p.1.length ≤ 1000) ∧ ∀ H', Same H H' → Q (.bl (areNeeds ps nm)) H'
structure TxtE (K : PySem.W.Frag) (mg : Str → Option Value) : Prop where
  d : TxtD mg
  isi : mg "isinstance" = none
  str : mg "str" = none
  boo : mg "bool" = none
  tup : mg "tuple" = none
  all : mg "all" = none
  ran : mg "range" = none
  lv : ∃ t, mg "LEAST_VERSION" = some (.int 1 t)
  mv : ∃ t, mg "MOST_VERSION" = some (.int 99 t)
  scr : ∃ a, mg "SCRIPTS" = some (.ref a) ∧ ∀ H, SqT K H a (SCR.map V.str)
section
variable {P : Program} {w : World} {K : PySem.W.Frag} {mg : Str → Option Value} {base : Heap}
theorem scNumber : FnScope ["value", "least", "most"] ["value", "least", "most"] (defScope sNumber) := ⟨rfl, rfl, rfl, by decide +kernel, rfl, by decide +kernel, by decide +kernel⟩
theorem ok_number {f : Addr} {fd : FuncData} (F : Fun K "is_number" "is_number" sNumber f fd) (T : TxtE K mg) : FnOk P w K mg base CX0 1 f fd ["value", "least", "most"] spNumber := by
  refine F.ok scNumber (fun vs H Q E h => ?_) (fun cdv A outer s H vs Q E hr h => ?_)
  · obtain ⟨v, lo, hi, rfl, _⟩ := h
    rfl
  · obtain ⟨v, lo, hi, rfl, hv, k⟩ := h
    refine ⟨_, pss_cons (ps_if (PW.pt (pw_or (pt_val (pe_callB call_isi (by rfl) T.isi (by decide +kernel) (pa_cons (pv 0) (pa_cons (pe_bltn (v := .ty "bool") (by rfl) T.boo (by decide +kernel) rfl) pa_nil))))
        (pw_or1 (pt_not (pt_val (pe_callB call_isi (by rfl) T.isi (by decide +kernel) (pa_cons (pv 0) (pa_cons (pe_bltn (v := .ty "int") (by rfl) T.d.int (by decide +kernel) rfl) pa_nil))))))))
        (pss_one (ps_ret pe_bl)) pss_nil)
      (pss_one (ps_ret (pe_chain op_le op_le (pv 1) (pv 0) (pv 2)))), ?_⟩
    rcases hv with ⟨n, rfl⟩ | ⟨b, rfl⟩
    · refine ⟨_, rfl, _, _, _, _, _, rfl, .ty _, .base (.int _), kit_ty (r := false) (by decide +kernel), _, rfl, ?_⟩
      refine iteF ?_
      refine ⟨_, rfl, _, _, _, _, _, rfl, .ty _, .base (.int _), kit_ty (r := true) (by decide +kernel), _, rfl, ?_⟩
      refine iteF ?_
      refine ⟨_, rfl, _, rfl, _, _, rfl, rfl, _, rfl, ?_⟩
      refine ite2 (fun c => ?_) (fun c => ?_)
      · refine ⟨_, rfl, _, _, rfl, rfl, ?_⟩
        have e : inR (.int n) lo hi = decide (n ≤ hi) := by show (decide (lo ≤ n) && decide (n ≤ hi)) = _; rw [c, Bool.true_and]
        rw [e] at k
        exact k
      · have c' : decide (lo ≤ n) = false := by simpa using c
        have e : inR (.int n) lo hi = false := by show (decide (lo ≤ n) && decide (n ≤ hi)) = _; rw [c', Bool.false_and]
        rw [e] at k
        exact k
    · refine ⟨_, rfl, _, _, _, _, _, rfl, .ty _, .base (.bl _), kit_ty (r := true) (by decide +kernel), _, rfl, ?_⟩
      exact k
theorem scVersion : FnScope ["value"] ["value"] (defScope sVersion) := ⟨rfl, rfl, rfl, by decide +kernel, rfl, by decide +kernel, by decide +kernel⟩
theorem ok_version {f : Addr} {fd : FuncData} (F : Fun K "is_version" "is_version" sVersion f fd) (T : TxtE K mg) (dN : Def P w K mg base 1 "is_number" ["value", "least", "most"] spNumber) : FnOk P w K mg base CX0 2 f fd ["value"] spVersion := by
  refine F.ok scVersion (fun vs H Q E h => ?_) (fun cdv A outer s H vs Q E hr h => ?_)
  · obtain ⟨v, rfl, _⟩ := h
    rfl
  · obtain ⟨v, rfl, hv, k⟩ := h
    obtain ⟨t1, g1⟩ := T.lv
    obtain ⟨t2, g2⟩ := T.mv
    refine ⟨_, pss_one (ps_ret (pe_def dN hr rfl (pa_cons (pv 0) (pa_cons (pe_glob (v := .int 1) rfl g1 ⟨_, rfl⟩) (pa_cons (pe_glob (v := .int 99) rfl g2 ⟨_, rfl⟩) pa_nil))))), ?_⟩
    exact ⟨_, rfl, v, 1, 99, rfl, hv, k⟩
theorem scAsc : FnScope ["values", "at"] ["values"] (defScope sAscends) := ⟨rfl, rfl, rfl, by decide +kernel, rfl, by decide +kernel, by decide +kernel⟩
theorem ok_asc {f : Addr} {fd : FuncData} (F : Fun K "ascends" "ascends" sAscends f fd) (T : TxtE K mg) : FnOk P w K mg base CX0 1 f fd ["values"] (spAsc K) := by
  refine F.ok scAsc (fun vs H Q E h => ?_) (fun cdv A outer s H vs Q E hr h => ?_)
  · obtain ⟨a, ss, rfl, _⟩ := h
    rfl
  · obtain ⟨a, ss, rfl, hS, hl, k⟩ := h
    have nd := scAsc.nd
    refine ⟨_, pss_one (ps_ret (pe_callB (cr_all rfl) (by rfl) T.all (by decide +kernel) (pa_cons
        (pe_lc (own := [("at", 1)]) (g := gName 1) (tt := tYes) rfl nd (pi_range2 (by rfl) T.ran (pa_cons pe_int (pa_cons (pe_callB call_len_seq (by rfl) T.d.len PySem.boot_len (pa_cons (pv 0) pa_nil)) pa_nil))) (blkOk_by (N := ["values", "at"]) (sc := defScope sAscends) (by decide +kernel))
          (fun _ _ _ _ _ => pg_name (i := 1) nd rfl (Or.inl rfl)) (fun _ _ _ _ _ => pts_nil)
          (fun _ _ _ _ _ => pe_cmpR op_lt_str (pe_ix (ix_tup : IxR _ (rIxT K)) (pv 0) (pe_op op_sub (pv 1) pe_int) (fun _ _ => rfl)) (pe_ix (ix_tup : IxR _ (rIxT K)) (pv 0) (pv 1) (fun _ _ => rfl)) (nomark _))) pa_nil))), ?_⟩
    have hlm : (ss.map V.str).length = ss.length := List.length_map ..
    have hn : (((ss.map V.str).length : Int) - 1).toNat = ss.length - 1 := by omega
    refine ⟨_, rfl, a, _, rfl, .inr hS, 1, _, rfl, ⟨by decide, by decide, by omega, by omega⟩, ?_⟩
    rw [hn]
    refine fun D hD => lc_it walk_range (MapP H D ((List.range (ss.length - 1)).map fun i => V.bl (strLt (ss.getD i "") (ss.getD (i + 1) "")))) (MapP.zero hD) (fun _ _ _ _ => trivial) ?_ ?_
    · rintro i x H1 H2 hi p ⟨rfl, rfl⟩
      have e1 : atI (ss.map V.str) ((1 + (i : Int)) - 1) = some (V.str (ss.getD i "")) := by
        have e : (1 + (i : Int)) - 1 = ((i : Nat) : Int) := by omega
        rw [e]
        refine atI_nat ?_
        rw [List.getElem?_map, List.getD_eq_getElem?_getD, List.getElem?_eq_getElem (by omega)]
        rfl
      have e2 : atI (ss.map V.str) (1 + (i : Int)) = some (V.str (ss.getD (i + 1) "")) := by
        have e : (1 + (i : Int)) = ((i + 1 : Nat) : Int) := by omega
        rw [e]
        refine atI_nat ?_
        rw [List.getElem?_map, List.getD_eq_getElem?_getD, List.getElem?_eq_getElem (by omega)]
        rfl
      refine ⟨rfl, _, rfl, _, rfl, _, _, rfl, rfl, a, _, _, _, rfl, rfl, p.1.sqT hS, e1, _, rfl, _, rfl, a, _, _, _, rfl, rfl, p.1.sqT hS, e2, _, _, rfl, rfl, ?_⟩
      refine p.step hD ?_ (by rw [List.length_map, List.length_range]; omega) (Same.refl _)
      rw [List.getElem?_map, List.getElem?_range hi]
      rfl
    · intro H2 p
      obtain ⟨s2, hl2⟩ := p.done (by rw [List.length_map, List.length_range])
      refine ⟨D, (List.range (ss.length - 1)).map fun i => strLt (ss.getD i "") (ss.getD (i + 1) ""), rfl, SqL.of (by rw [hl2, List.map_map]; rfl), ?_⟩
      have e : ascS ss = ((List.range (ss.length - 1)).map fun i => strLt (ss.getD i "") (ss.getD (i + 1) "")).all id := by
        rw [List.all_map]
        rfl
      rw [← e]
      exact k H2 s2
end
end Half

namespace Half
open PySem PySem.Spec PyProof.Rows L2
theorem all_map_bl {α : Type} (l : List α) (f : α → Bool) : (l.map f).all id = l.all f := by rw [List.all_map]; rfl
theorem flat_strs (l : List Str) : (l.map V.str).all flatV = true := by
  rw [List.all_map, List.all_eq_true]
  intro x _
  rfl
theorem getE {α : Type} {l : List α} {i : Nat} {β : Type} {f : α → β} {y : β} (h : (l.map f)[i]? = some y) : ∃ a, l[i]? = some a ∧ y = f a := by
  rw [List.getElem?_map] at h
  cases e : l[i]? with
  | none => rw [e] at h; cases h
  | some a => rw [e] at h; exact ⟨a, rfl, (Option.some.inj h).symm⟩
section
variable {P : Program} {w : World} {K : PySem.W.Frag} {mg : Str → Option Value} {base : Heap}
theorem scScripts : FnScope ["values", "value"] ["values"] (defScope sScripts) := ⟨rfl, rfl, rfl, by decide +kernel, rfl, by decide +kernel, by decide +kernel⟩
theorem ok_scripts {f : Addr} {fd : FuncData} (F : Fun K "are_scripts" "are_scripts" sScripts f fd) (T : TxtE K mg) (dA : Def P w K mg base 1 "ascends" ["values"] (spAsc K)) : FnOk P w K mg base CX0 2 f fd ["values"] (spScripts K) := by
  refine F.ok scScripts (fun vs H Q E h => ?_) (fun cdv A outer s H vs Q E hr h => ?_)
  · obtain ⟨a, ss, rfl, _⟩ := h
    rfl
  · obtain ⟨a, ss, rfl, hS, hl, k⟩ := h
    have nd := scScripts.nd
    obtain ⟨aS, gS, hSC⟩ := T.scr
    refine ⟨_, pss_cons (ps_if (pt_not (pt_val (pe_callB call_isi (by rfl) T.isi (by decide +kernel) (pa_cons (pv 0) (pa_cons (pe_bltn (v := .ty "tuple") (by rfl) T.tup (by decide +kernel) rfl) pa_nil)))))
        (pss_one (ps_ret pe_bl)) pss_nil)
      (pss_one (ps_ret (pe_and (pe_callB (cr_all rfl) (by rfl) T.all (by decide +kernel) (pa_cons
        (pe_lc (own := [("value", 1)]) (g := gName 1) (tt := tYes) rfl nd (pi_tup (pv 0)) (blkOk_by (N := ["values", "value"]) (sc := defScope sScripts) (by decide +kernel))
          (fun _ _ _ _ _ => pg_name (i := 1) nd rfl (Or.inl rfl)) (fun _ _ _ _ _ => pts_nil)
          (fun _ _ _ _ _ => pe_cmpR (op_in_seq : OpR _ _ (rIn K false)) (pv 1) (pe_glob (v := .ref aS) rfl gS rfl) (by rfl))) pa_nil))
        (pe_one (pe_def dA hr rfl (pa_cons (pv 0) pa_nil)))))), ?_⟩
    refine ⟨_, rfl, _, _, _, _, _, rfl, .ty _, tyT hS, kit_ty (r := true) (by decide +kernel), _, rfl, ?_⟩
    refine iteF ?_
    refine ⟨_, rfl, a, rfl, ⟨_, hS⟩, fun D hD => lc_it (walk_tup (xs := ss.map V.str)) (MapP H D (ss.map fun z => V.bl (inV (.str z) (SCR.map V.str)))) (MapP.zero hD) (fun _ _ _ p => p.1.sqT hS) ?_ ?_⟩
    · rintro i x H1 H2 hi p ⟨rfl, hx⟩
      obtain ⟨z, hz, rfl⟩ := getE hx
      refine ⟨rfl, _, rfl, aS, _, rfl, .inr (hSC _), rfl, flat_strs _, ?_⟩
      refine p.step hD ?_ (by rw [List.length_map]; omega) (Same.refl _)
      rw [List.getElem?_map, hz]
      rfl
    · intro H2 p
      obtain ⟨s2, hl2⟩ := p.done (by rw [List.length_map, List.length_map])
      refine ⟨D, ss.map fun z => inV (.str z) (SCR.map V.str), rfl, SqL.of (by rw [hl2, List.map_map]; rfl), _, rfl, ?_⟩
      rw [all_map_bl]
      refine ite2 (fun c => ?_) (fun c => ?_)
      · refine ⟨_, rfl, a, ss, rfl, s2.sqT hS, hl, fun H3 s3 => ?_⟩
        have e : areScripts ss = ascS ss := by unfold areScripts; rw [c, Bool.true_and]
        rw [← e]
        exact k H3 (s2.trans s3)
      · have c' : (ss.all fun z => inV (.str z) (SCR.map V.str)) = false := by simpa using c
        have e : areScripts ss = false := by unfold areScripts; rw [c', Bool.false_and]
        rw [← e]
        exact k H2 s2
theorem scOthers : FnScope ["values", "name", "value"] ["values", "name"] (defScope sOthers) := ⟨rfl, rfl, rfl, by decide +kernel, rfl, by decide +kernel, by decide +kernel⟩
theorem ok_others {f : Addr} {fd : FuncData} (F : Fun K "are_other_names" "are_other_names" sOthers f fd) (T : TxtE K mg) (dA : Def P w K mg base 1 "ascends" ["values"] (spAsc K)) (dW : Def P w K mg base 1 "is_word" ["text"] spWord) : FnOk P w K mg base CX0 2 f fd ["values", "name"] (spOthers K) := by
  refine F.ok scOthers (fun vs H Q E h => ?_) (fun cdv A outer s H vs Q E hr h => ?_)
  · obtain ⟨a, ss, nm, rfl, _⟩ := h
    rfl
  · obtain ⟨a, ss, nm, rfl, hS, hl, hw, k⟩ := h
    have nd := scOthers.nd
    refine ⟨_, pss_cons (ps_if (pt_not (pt_val (pe_callB call_isi (by rfl) T.isi (by decide +kernel) (pa_cons (pv 0) (pa_cons (pe_bltn (v := .ty "tuple") (by rfl) T.tup (by decide +kernel) rfl) pa_nil)))))
        (pss_one (ps_ret pe_bl)) pss_nil)
      (pss_one (ps_ret (pe_and (pe_callB (cr_all rfl) (by rfl) T.all (by decide +kernel) (pa_cons
        (pe_lc (own := [("value", 2)]) (g := gName 2) (tt := tYes) rfl nd (pi_tup (pv 0)) (blkOk_by (N := ["values", "name", "value"]) (sc := defScope sOthers) (by decide +kernel))
          (fun _ _ _ _ _ => pg_name (i := 2) nd rfl (Or.inl rfl)) (fun _ _ _ _ _ => pts_nil)
          (fun _ _ _ _ _ => pe_and (pe_def dW hr rfl (pa_cons (pv 2) pa_nil)) (pe_one (pe_cmpR op_ne (pv 2) (pv 1) (nomark _))))) pa_nil))
        (pe_one (pe_def dA hr rfl (pa_cons (pv 0) pa_nil)))))), ?_⟩
    refine ⟨_, rfl, _, _, _, _, _, rfl, .ty _, tyT hS, kit_ty (r := true) (by decide +kernel), _, rfl, ?_⟩
    refine iteF ?_
    refine ⟨_, rfl, a, rfl, ⟨_, hS⟩, fun D hD => lc_it (walk_tup (xs := ss.map V.str)) (MapP H D (ss.map fun z => V.bl (isWord z && !decide (V.str z = V.str nm)))) (MapP.zero hD) (fun _ _ _ p => p.1.sqT hS) ?_ ?_⟩
    · rintro i x H1 H2 hi p ⟨rfl, hx⟩
      obtain ⟨z, hz, rfl⟩ := getE hx
      refine ⟨rfl, _, rfl, z, rfl, hw z (List.mem_of_getElem? hz), fun H3 s3 => ⟨_, rfl, ?_⟩⟩
      have fin : ∀ b, b = (isWord z && !decide (V.str z = V.str nm)) → ∃ acc, H3 D = some (.lst acc) ∧ acc.length < sizeLine ∧ MapP H D (ss.map fun z => V.bl (isWord z && !decide (V.str z = V.str nm))) (i + 1) (upd H3 D (.lst (acc ++ [V.bl b]))) := fun b e => by
        refine p.step hD ?_ (by rw [List.length_map]; omega) s3
        rw [List.getElem?_map, hz, e]
        rfl
      refine ite2 (fun c => ?_) (fun c => ?_)
      · refine ⟨_, rfl, _, rfl, rfl, ?_⟩
        exact fin _ (by rw [c, Bool.true_and])
      · have c' : isWord z = false := by simpa using c
        exact fin _ (by rw [c', Bool.false_and])
    · intro H2 p
      obtain ⟨s2, hl2⟩ := p.done (by rw [List.length_map, List.length_map])
      refine ⟨D, ss.map fun z => (isWord z && !decide (V.str z = V.str nm)), rfl, SqL.of (by rw [hl2, List.map_map]; rfl), _, rfl, ?_⟩
      rw [all_map_bl]
      refine ite2 (fun c => ?_) (fun c => ?_)
      · refine ⟨_, rfl, a, ss, rfl, s2.sqT hS, hl, fun H3 s3 => ?_⟩
        have e : areOthers ss nm = ascS ss := by unfold areOthers; rw [c, Bool.true_and]
        rw [← e]
        exact k H3 (s2.trans s3)
      · have c' : (ss.all fun z => (isWord z && !decide (V.str z = V.str nm))) = false := by simpa using c
        have e : areOthers ss nm = false := by unfold areOthers; rw [c', Bool.false_and]
        rw [← e]
        exact k H2 s2
theorem scPair : FnScope ["value"] ["value"] (defScope sPair) := ⟨rfl, rfl, rfl, by decide +kernel, rfl, by decide +kernel, by decide +kernel⟩
theorem ok_pair {f : Addr} {fd : FuncData} (F : Fun K "is_pair_with_version" "is_pair_with_version" sPair f fd) (T : TxtE K mg) (dV : Def P w K mg base 2 "is_version" ["value"] spVersion) : FnOk P w K mg base CX0 3 f fd ["value"] (spPair K) := by
  refine F.ok scPair (fun vs H Q E h => ?_) (fun cdv A outer s H vs Q E hr h => ?_)
  · obtain ⟨t, n, v, rfl, _⟩ := h
    rfl
  · obtain ⟨t, n, v, rfl, hS, k⟩ := h
    refine ⟨_, pss_one (ps_ret (pe_and (pe_callB call_isi (by rfl) T.isi (by decide +kernel) (pa_cons (pv 0) (pa_cons (pe_bltn (v := .ty "tuple") (by rfl) T.tup (by decide +kernel) rfl) pa_nil)))
      (pe_and (pe_cmpR op_eq (pe_callB call_len_seq (by rfl) T.d.len PySem.boot_len (pa_cons (pv 0) pa_nil)) pe_int (nomark _))
        (pe_one (pe_def dV hr rfl (pa_cons (pe_ix ix_tup (pv 0) pe_int (fun _ _ => rfl)) pa_nil)))))), ?_⟩
    refine ⟨_, rfl, _, _, _, _, _, rfl, .ty _, tyT hS, kit_ty (r := true) (by decide +kernel), _, rfl, ?_⟩
    refine iteT ?_
    refine ⟨_, rfl, t, _, rfl, .inr hS, rfl, true, rfl, ?_⟩
    refine iteT ?_
    exact ⟨_, rfl, t, _, _, _, rfl, rfl, hS, rfl, _, rfl, .inl ⟨_, rfl⟩, k⟩
theorem scNeeds : FnScope ["values", "name", "value"] ["values", "name"] (defScope sNeeds) := ⟨rfl, rfl, rfl, by decide +kernel, rfl, by decide +kernel, by decide +kernel⟩
theorem ok_needs {f : Addr} {fd : FuncData} (F : Fun K "are_needs" "are_needs" sNeeds f fd) (T : TxtE K mg) (dP : Def P w K mg base 3 "is_pair_with_version" ["value"] (spPair K)) (dO : Def P w K mg base 2 "are_other_names" ["values", "name"] (spOthers K)) : FnOk P w K mg base CX0 4 f fd ["values", "name"] (spNeeds K) := by
  refine F.ok scNeeds (fun vs H Q E h => ?_) (fun cdv A outer s H vs Q E hr h => ?_)
  · obtain ⟨a, ps, nm, rfl, _⟩ := h
    rfl
  · obtain ⟨a, ps, nm, rfl, hN, hl, hw, k⟩ := h
    have nd := scNeeds.nd
    obtain ⟨ts, hS, htl, hts⟩ := id hN
    refine ⟨_, pss_cons (ps_if (PW.pt (pw_or (pt_not (pt_val (pe_callB call_isi (by rfl) T.isi (by decide +kernel) (pa_cons (pv 0) (pa_cons (pe_bltn (v := .ty "tuple") (by rfl) T.tup (by decide +kernel) rfl) pa_nil)))))
        (pw_or1 (pt_not (pt_val (pe_callB (cr_all rfl) (by rfl) T.all (by decide +kernel) (pa_cons
          (pe_lc (own := [("value", 2)]) (g := gName 2) (tt := tYes) rfl nd (pi_tup (pv 0)) (blkOk_by (N := ["values", "name", "value"]) (sc := defScope sNeeds) (by decide +kernel))
            (fun _ _ _ _ _ => pg_name (i := 2) nd rfl (Or.inl rfl)) (fun _ _ _ _ _ => pts_nil)
            (fun _ _ _ _ _ => pe_def dP hr rfl (pa_cons (pv 2) pa_nil))) pa_nil)))))))
        (pss_one (ps_ret pe_bl)) pss_nil)
      (pss_one (ps_ret (pe_def dO (hr.mono (by decide)) rfl (pa_cons (pe_callTy call_tuple_of (by rfl) T.tup (by decide +kernel) (pa_cons
          (pe_lc (own := [("value", 2)]) (g := gName 2) (tt := tYes) rfl nd (pi_tup (pv 0)) (blkOk_by (N := ["values", "name", "value"]) (sc := defScope sNeeds) (by decide +kernel))
            (fun _ _ _ _ _ => pg_name (i := 2) nd rfl (Or.inl rfl)) (fun _ _ _ _ _ => pts_nil)
            (fun _ _ _ _ _ => pe_ix (ix_tup : IxR _ (rIxT K)) (pv 2) pe_int (fun _ _ => rfl))) pa_nil)) (pa_cons (pv 1) pa_nil))))), ?_⟩
    refine ⟨_, rfl, _, _, _, _, _, rfl, .ty _, tyT hS, kit_ty (r := true) (by decide +kernel), _, rfl, ?_⟩
    refine iteF ?_
    refine ⟨_, rfl, a, rfl, ⟨_, hS⟩, fun D hD => lc_it (walk_tup (xs := ts.map V.ref)) (MapP H D (ps.map fun p => V.bl (inR (.int p.2) 1 99))) (MapP.zero hD) (fun _ _ _ p => p.1.sqT hS) ?_ ?_⟩
    · rintro i x H1 H2 hi p ⟨rfl, hx⟩
      obtain ⟨t, ht, rfl⟩ := getE hx
      have hip : i < ps.length := by rw [List.length_map] at hi; omega
      refine ⟨rfl, _, rfl, t, _, _, rfl, p.1.sqT (hts i t _ ht (List.getElem?_eq_getElem hip)), ?_⟩
      refine p.step hD ?_ (by rw [List.length_map]; omega) (Same.refl _)
      rw [List.getElem?_map, List.getElem?_eq_getElem hip]
      rfl
    · intro H2 p
      obtain ⟨s2, hl2⟩ := p.done (by rw [List.length_map, List.length_map, htl])
      refine ⟨D, ps.map fun p => inR (.int p.2) 1 99, rfl, SqL.of (by rw [hl2, List.map_map]; rfl), _, rfl, ?_⟩
      rw [all_map_bl]
      cases c : (ps.all fun p => inR (.int p.2) 1 99) with
      | false =>
        refine iteT ?_
        have e : areNeeds ps nm = false := by unfold areNeeds; rw [c, Bool.false_and]
        have q := k H2 s2
        rw [e] at q
        exact q
      | true =>
        refine iteF ?_
        refine ⟨_, rfl, a, rfl, ⟨_, s2.sqT hS⟩, fun D2 hD2 => lc_it (walk_tup (xs := ts.map V.ref)) (MapP H2 D2 (ps.map fun p => V.str p.1)) (MapP.zero hD2) (fun _ _ _ p => (s2.trans p.1).sqT hS) ?_ ?_⟩
        · rintro i x H3 H4 hi p2 ⟨rfl, hx⟩
          obtain ⟨t, ht, rfl⟩ := getE hx
          have hip : i < ps.length := by rw [List.length_map] at hi; omega
          refine ⟨rfl, _, rfl, t, _, _, _, rfl, rfl, (s2.trans p2.1).sqT (hts i t _ ht (List.getElem?_eq_getElem hip)), rfl, ?_⟩
          refine p2.step hD2 ?_ (by rw [List.length_map]; omega) (Same.refl _)
          rw [List.getElem?_map, List.getElem?_eq_getElem hip]
          rfl
        · intro H3 p2
          obtain ⟨s3, hl3⟩ := p2.done (by rw [List.length_map, List.length_map, htl])
          refine ⟨D2, _, rfl, .inl ⟨SqL.of hl3, fun tp htp => ⟨_, rfl, tp, ps.map (·.1), nm, rfl, .inl (.inl ?_), ?_, ?_, fun H5 s5 => ?_⟩⟩⟩
          · rw [upd_same, List.map_map]
            rfl
          · rw [List.length_map]
            exact hl
          · intro z hz
            obtain ⟨p, hp, rfl⟩ := List.mem_map.mp hz
            exact hw p hp
          · have e : areNeeds ps nm = areOthers (ps.map (·.1)) nm := by unfold areNeeds; rw [c, Bool.true_and]
            rw [← e]
            exact k H5 (s2.trans (s3.trans ((Same.upd_new htp).trans s5)))
end
end Half

namespace Half
open PySem PySem.Spec PyProof.Rows L2
abbrev sWrong : Stmt := top 78
/-- an edition's parameters -/
structure Ed where
  name : Str
  version : V
  scripts : List Str
  needs : List (Str × Int)
  first : List (Str × Int)
  against : List Str
def Ed.checks (e : Ed) : List (Str × Bool) := [("name", isWord e.name), ("version", inR e.version 1 99), ("scripts", areScripts e.scripts), ("needs", areNeeds e.needs e.name), ("first", areNeeds e.first e.name), ("against", areOthers e.against e.name)]
def Ed.wrong (e : Ed) : Option Str := (e.checks.find? fun q => !q.2).map (·.1)
def optV : Option Str → V
  | none => .non
  | some x => .str x
/-- sizes that no check is beyond -/
structure Ed.Small (e : Ed) : Prop where
  name : e.name.length ≤ 1000
  version : (∃ n, e.version = .int n) ∨ ∃ b, e.version = .bl b
  scripts : e.scripts.length ≤ 100
  needs : e.needs.length ≤ 100 ∧ ∀ p ∈ e.needs, p.1.length ≤ 1000
  first : e.first.length ≤ 100 ∧ ∀ p ∈ e.first, p.1.length ≤ 1000
  against : e.against.length ≤ 100 ∧ ∀ z ∈ e.against, z.length ≤ 1000
/-- its six values -/
structure EdAt (K : PySem.W.Frag) (H : Hp) (e : Ed) (s n f g : Addr) : Prop where
  scripts : SqT K H s (e.scripts.map V.str)
  needs : NeedsAt K H n e.needs
  first : NeedsAt K H f e.first
  against : SqT K H g (e.against.map V.str)
theorem EdAt.same {K : PySem.W.Frag} {H H' : Hp} {e : Ed} {s n f g : Addr} (S : Same H H') (h : EdAt K H e s n f g) : EdAt K H' e s n f g :=
  ⟨S.sqT h.scripts, h.needs.same S, h.first.same S, S.sqT h.against⟩
theorem find_first {l : List (Str × Bool)} {i : Nat} {p : Str × Bool} (h : ∀ j q, j < i → l[j]? = some q → q.2 = true) (hi : l[i]? = some p) (hp : p.2 = false) : l.find? (fun q => !q.2) = some p := by
  induction l generalizing i with
  | nil => simp at hi
  | cons a l ih =>
    cases i with
    | zero =>
      have e : a = p := by simpa using hi
      subst e
      simp [hp]
    | succ i =>
      have ha : a.2 = true := h 0 a (Nat.succ_pos _) rfl
      rw [List.find?_cons_of_neg (by simp [ha])]
      exact ih (i := i) (fun j q hj e => h (j + 1) q (Nat.succ_lt_succ hj) (by simpa using e)) (by simpa using hi)
theorem find_none {l : List (Str × Bool)} (h : ∀ j q, j < l.length → l[j]? = some q → q.2 = true) : l.find? (fun q => !q.2) = none := by
  rw [List.find?_eq_none]
  intro q hq
  obtain ⟨j, hj, e⟩ := List.mem_iff_getElem.mp hq
  have := h j q hj (by rw [List.getElem?_eq_getElem hj, e])
  simp [this]
def spWrong (K : PySem.W.Frag) : Sp := fun vs H Q _ => ∃ (e : Ed) (s n f g : Addr), vs = [.str e.name, e.version, .ref s, .ref n, .ref f, .ref g] ∧ EdAt K H e s n f g ∧ e.Small ∧ ∀ H', Same H H' → Q (optV e.wrong) H'
structure Checks (P : Program) (w : World) (K : PySem.W.Frag) (mg : Str → Option Value) (base : Heap) : Prop where
  wo : Def P w K mg base 1 "is_word" ["text"] spWord
  ve : Def P w K mg base 2 "is_version" ["value"] spVersion
  sc : Def P w K mg base 2 "are_scripts" ["values"] (spScripts K)
  ne : Def P w K mg base 4 "are_needs" ["values", "name"] (spNeeds K)
  ot : Def P w K mg base 2 "are_other_names" ["values", "name"] (spOthers K)
section
variable {P : Program} {w : World} {K : PySem.W.Frag} {mg : Str → Option Value} {base : Heap}
theorem scWrong : FnScope ["name", "version", "scripts", "needs", "first", "against", "checked", "part", "right"] ["name", "version", "scripts", "needs", "first", "against"] (defScope sWrong) := ⟨rfl, rfl, rfl, by decide +kernel, rfl, by decide +kernel, by decide +kernel⟩
theorem two_le : 2 ≤ sizeLine := by decide
theorem ok_wrong {f : Addr} {fd : FuncData} (F : Fun K "wrong_part" "wrong_part" sWrong f fd) (T : TxtE K mg) (C : Checks P w K mg base) : FnOk P w K mg base CX0 5 f fd ["name", "version", "scripts", "needs", "first", "against"] (spWrong K) := by
  refine F.ok scWrong (fun vs H Q E h => ?_) (fun cdv A outer s H vs Q E hr h => ?_)
  · obtain ⟨e, s, n, f, g, rfl, _⟩ := h
    rfl
  · obtain ⟨e, as, an, af, ag, rfl, hE, hz, k⟩ := h
    have nd := scWrong.nd
    have r1 : Room 1 _ := hr.mono (by decide)
    have r2 : Room 2 _ := hr.mono (by decide)
    refine ⟨_, pss_cons (ps_set (i := 6) nd rfl (Or.inl rfl) (pe_tup
        (pa_cons (pe_tup (pa_cons pe_str (pa_cons (pe_def C.wo r1 rfl (pa_cons (pv 0) pa_nil)) pa_nil)))
        (pa_cons (pe_tup (pa_cons pe_str (pa_cons (pe_def C.ve r2 rfl (pa_cons (pv 1) pa_nil)) pa_nil)))
        (pa_cons (pe_tup (pa_cons pe_str (pa_cons (pe_def C.sc r2 rfl (pa_cons (pv 2) pa_nil)) pa_nil)))
        (pa_cons (pe_tup (pa_cons pe_str (pa_cons (pe_def C.ne hr rfl (pa_cons (pv 3) (pa_cons (pv 0) pa_nil))) pa_nil)))
        (pa_cons (pe_tup (pa_cons pe_str (pa_cons (pe_def C.ne hr rfl (pa_cons (pv 4) (pa_cons (pv 0) pa_nil))) pa_nil)))
        (pa_cons (pe_tup (pa_cons pe_str (pa_cons (pe_def C.ot r2 rfl (pa_cons (pv 5) (pa_cons (pv 0) pa_nil))) pa_nil))) pa_nil))))))))
      (pss_cons (ps_for PassesOwn.never rfl (pi_tup (pv 6)) (pg_tup rfl (pgs_cons (pg_name (i := 7) nd rfl (Or.inl rfl)) (pgs_cons (pg_name (i := 8) nd rfl (Or.inl rfl)) pgs_nil)))
        (pss_one (ps_if (pt_not (pt_val (pv 8))) (pss_one (ps_ret (pv 7))) pss_nil)))
      (pss_one (ps_ret pe_non))), ?_⟩
    refine ⟨_, rfl, e.name, rfl, hz.name, fun H1 s1 => ⟨two_le, fun t1 n1 => ?_⟩⟩
    refine ⟨_, rfl, e.version, rfl, hz.version, two_le, fun t2 n2 => ?_⟩
    have s2 := (s1.trans (Same.upd_new (o := .tup [.str "name", .bl (isWord e.name)]) n1)).trans (Same.upd_new (o := .tup [.str "version", .bl (inR e.version 1 99)]) n2)
    refine ⟨_, rfl, as, _, rfl, s2.sqT hE.scripts, hz.scripts, fun H3 s3 => ⟨two_le, fun t3 n3 => ?_⟩⟩
    have s3' := (s2.trans s3).trans (Same.upd_new (o := .tup [.str "scripts", .bl (areScripts e.scripts)]) n3)
    refine ⟨_, rfl, _, rfl, an, _, _, rfl, hE.needs.same s3', hz.needs.1, hz.needs.2, fun H4 s4 => ⟨two_le, fun t4 n4 => ?_⟩⟩
    have s4' := (s3'.trans s4).trans (Same.upd_new (o := .tup [.str "needs", .bl (areNeeds e.needs e.name)]) n4)
    refine ⟨_, rfl, _, rfl, af, _, _, rfl, hE.first.same s4', hz.first.1, hz.first.2, fun H5 s5 => ⟨two_le, fun t5 n5 => ?_⟩⟩
    have s5' := (s4'.trans s5).trans (Same.upd_new (o := .tup [.str "first", .bl (areNeeds e.first e.name)]) n5)
    refine ⟨_, rfl, _, rfl, ag, _, _, rfl, s5'.sqT hE.against, hz.against.1, hz.against.2, fun H6 s6 => ⟨two_le, fun t6 n6 => ⟨(by show 6 ≤ sizeLine; decide), fun TT nT => ?_⟩⟩⟩
    have z6 := Same.upd_new (o := .tup [.str "against", .bl (areOthers e.against e.name)]) n6
    have zT := Same.upd_new (o := .tup [.ref t1, .ref t2, .ref t3, .ref t4, .ref t5, .ref t6]) nT
    have zz := z6.trans zT
    have z5 := ((Same.upd_new (o := .tup [.str "first", .bl (areNeeds e.first e.name)]) n5).trans s6).trans zz
    have z4 := ((Same.upd_new (o := .tup [.str "needs", .bl (areNeeds e.needs e.name)]) n4).trans s5).trans z5
    have z3 := ((Same.upd_new (o := .tup [.str "scripts", .bl (areScripts e.scripts)]) n3).trans s4).trans z4
    have z2 := ((Same.upd_new (o := .tup [.str "version", .bl (inR e.version 1 99)]) n2).trans s3).trans z3
    have z1 := (Same.upd_new (o := .tup [.str "name", .bl (isWord e.name)]) n1).trans z2
    have hAll := (s5'.trans s6).trans zz
    generalize hHF : upd (upd H6 t6 _) TT _ = HF at *
    have hts : ∀ (i : Nat) x p, ([t1, t2, t3, t4, t5, t6] : List Addr)[i]? = some x → e.checks[i]? = some p → SqT K HF x [.str p.1, .bl p.2] := by
      have a1 : HF t1 = _ := z2 _ _ upd_same
      have a2 : HF t2 = _ := z3 _ _ (s3 _ _ upd_same)
      have a3 : HF t3 = _ := z4 _ _ (s4 _ _ upd_same)
      have a4 : HF t4 = _ := z5 _ _ (s5 _ _ upd_same)
      have a5 : HF t5 = _ := zz _ _ (s6 _ _ upd_same)
      have a6 : HF t6 = _ := zT _ _ upd_same
      intro i x p hx hp
      match i with
      | 0 => cases hx; cases hp; exact .inl (.inl a1)
      | 1 => cases hx; cases hp; exact .inl (.inl a2)
      | 2 => cases hx; cases hp; exact .inl (.inl a3)
      | 3 => cases hx; cases hp; exact .inl (.inl a4)
      | 4 => cases hx; cases hp; exact .inl (.inl a5)
      | 5 => cases hx; cases hp; exact .inl (.inl a6)
      | i + 6 => simp at hx
    have hTT : SqT K HF TT ([t1, t2, t3, t4, t5, t6].map V.ref) := .inl (.inl (by rw [← hHF]; exact upd_same))
    refine ⟨_, rfl, TT, rfl, ⟨_, hTT⟩, for_it (walk_tup (xs := [t1, t2, t3, t4, t5, t6].map V.ref)) (fun i σ H' => H' = HF ∧ (∃ v7 v8, σ = [some (.str e.name), some e.version, some (.ref as), some (.ref an), some (.ref af), some (.ref ag), some (.ref TT), v7, v8]) ∧ ∀ j q, j < i → e.checks[j]? = some q → q.2 = true)
      ⟨rfl, ⟨none, none, rfl⟩, fun j q hj => absurd hj (Nat.not_lt_zero _)⟩ (fun i σ H' _ h => by rw [h.1]; exact hTT) ?_ ?_⟩
    · rintro i x σ H' H'' hi ⟨rfl, ⟨v7, v8, rfl⟩, hbef⟩ ⟨rfl, hx⟩
      obtain ⟨t, ht, rfl⟩ := getE hx
      have hip : i < e.checks.length := hi
      have hp := List.getElem?_eq_getElem hip
      refine ⟨t, _, rfl, hts i t _ ht hp, rfl, _, _, rfl, _, _, rfl, rfl, ?_⟩
      refine ⟨_, rfl, _, rfl, ?_⟩
      cases c : e.checks[i].2 with
      | false =>
        refine iteT ?_
        refine ⟨_, rfl, ?_⟩
        have e1 : e.wrong = some e.checks[i].1 := by
          unfold Ed.wrong
          rw [find_first hbef hp c]
          rfl
        have q := k H'' hAll
        rw [e1] at q
        exact q
      | true =>
        refine iteF ?_
        refine ⟨rfl, ⟨_, _, rfl⟩, fun j q hj hq => ?_⟩
        by_cases hji : j = i
        · subst hji
          rw [hp] at hq
          rw [← Option.some.inj hq]
          exact c
        · exact hbef j q (by omega) hq
    · rintro σ H' ⟨rfl, _, hbef⟩
      have e1 : e.wrong = none := by
        unfold Ed.wrong
        rw [find_none fun j q hj hq => hbef j q hj hq]
        rfl
      have q := k H' hAll
      rw [e1] at q
      exact q
end
end Half

namespace Half
open PySem PySem.Spec PyProof.Rows L2
abbrev sIe : Stmt := inClass (top 11) 0
/-- what stands of an error class with its own __init__ (one parameter, super().__init__(..), one field fl) -/
def spErr (C : Addr) (fl : Str) : Sp := fun vs H Q _ => ∃ (a : Addr) (p : Str), vs = [.ref a, .str p] ∧ H a = some (exo a C none) ∧ p.length ≤ 1000 ∧
  ∀ dx, H dx = none → dx ≠ a → Q .non (upd (upd H dx (exd dx [(fl, .str p)])) a (exo a C (some dx)))
/-- the __init__ at f as the top has made it -/
structure ErrFn (P : Program) (K : PySem.W.Frag) (C : Addr) (qual : Str) (st : Stmt) (f : Addr) (fd : FuncData) : Prop where
  ex : ∃ (oc : Value) (od : Option Addr) (kV doc pm : Value) (an : Option Addr) (cda cc : Addr) (ct : Value) (osl : Array (Option Value)) (ccl : Value) (cdd : Option Addr) (vsc : Array Value) (ccs : Array (Option Value)) (file : Str) (tf : Tok) (cl : Value) (cld : Option Addr) (csl : Array (Option Value)),
    fd = PySem.W.ksFn "__init__" qual (defArgs st) (defBody st) (defScope st) .none kV doc pm an (.ref cda) ct cc ∧ K.lookup f = some ⟨oc, od, .func fd, osl⟩ ∧ PySem.W.codeIn K (.ref cda) qual = true ∧
    K.lookup cda = some ⟨ccl, cdd, .fields vsc, ccs⟩ ∧ vsc[2]? = some (.str file tf) ∧ ((P.main.file : Str) == file) = true ∧ K.lookup cc = some ⟨cl, cld, .cell (some (.ref C)), csl⟩
theorem scIe : SupScope ["self", "part"] ["self", "part"] (defScope sIe) := ⟨rfl, rfl, rfl, by decide +kernel, rfl, by decide +kernel, by decide +kernel, by decide +kernel, rfl, rfl⟩
theorem app_len (a b : Str) : (a ++ b).length = a.length + b.length := by
  show (a.cps ++ b.cps).size = _
  rw [Array.size_append]
  rfl
section
variable {P : Program} {w : World} {K : PySem.W.Frag} {mg : Str → Option Value} {base : Heap}
theorem ok_ie {C f : Addr} {fd : FuncData} (F : ErrFn P K C "InvalidEdition.__init__" sIe f fd) (T : SupC P K mg C) (nF : PySem.W.findIn K (.ref C) "part" = some none) : FnOk P w K mg base CX0 1 f fd ["self", "part"] (spErr C "part") := by
  obtain ⟨oc, od, kV, doc, pm, an, cda, cc, ct, osl, ccl, cdd, vsc, ccs, file, tf, cl, cld, csl, rfl, lk, hcd, hcode, hvs, hfile, hcell⟩ := F.ex
  refine fn_sup (N := ["self", "part"]) lk hcd scIe rfl rfl rfl hcode hvs hfile hcell T (fun vs H Q E h => ?_) (fun _ => rfl) (fun _ => rfl) (fun _ => rfl) (fun A outer s H vs Q E hr h => ?_)
  · obtain ⟨a, p, rfl, _⟩ := h
    rfl
  · obtain ⟨a, p, rfl, ha, hp, k⟩ := h
    refine ⟨a, _, _, rfl, ha, pa_cons (pe_joined (.cons pe_str (.cons (pe_fmt (pv 1)) (.cons pe_str .nil)))) pa_nil, pss_one (ps_ost (pv 0) (pv 1)), ?_⟩
    have l1 : ∀ x y : Str, x.length ≤ 100 → y.length ≤ 1200 → (x ++ y).length ≤ sizeLine := fun x y hx hy => by rw [app_len, sizeLine_eq]; omega
    refine ⟨_, rfl, (by decide), _, rfl, .inl ⟨p, rfl, Nat.le_trans hp (by decide), p, rfl, ?_, _, rfl, ?_, ?_⟩⟩
    · rw [app_len, app_len, sizeLine_eq]
      have : ("this cannot be the " : Str).length = 19 := by decide
      have e0 : (Str.empty).length = 0 := by decide
      omega
    · rw [app_len, app_len, app_len, sizeLine_eq]
      have : ("this cannot be the " : Str).length = 19 := by decide
      have : (" of an edition" : Str).length = 14 := by decide
      have e0 : (Str.empty).length = 0 := by decide
      omega
    · refine ⟨by show 1 ≤ 1000; decide, ha, ?_⟩
      refine ⟨_, rfl, _, rfl, a, C, rfl, T.oex, nF, .inl ⟨ha, fun dx h1 h2 => k dx h1 h2⟩⟩
end
end Half

namespace Half
open PySem PySem.Spec PyProof.Rows L2
abbrev sEi : Stmt := inClass (top 79) 0
abbrev sGet (i : Nat) : Stmt := inClass (top 79) (i + 1)
abbrev sEq : Stmt := inClass (top 79) 7
/-- all but the object at x stands as it stood -/
def SameBut (x : Addr) (H H' : Hp) : Prop := ∀ b o, b ≠ x → H b = some o → H' b = some o
/-- an edition at a -/
structure EdObj (K : PySem.W.Frag) (H : Hp) (C : Addr) (a : Addr) (e : Ed) (s n f g : Addr) : Prop where
  ob : ∃ dx p, H a = some (.ins C dx [("parts", .ref p)]) ∧ H p = some (.tup [.str e.name, e.version, .ref s, .ref n, .ref f, .ref g])
  at_ : EdAt K H e s n f g
theorem EdObj.same {K : PySem.W.Frag} {H H' : Hp} {C a : Addr} {e : Ed} {s n f g : Addr} (S : Same H H') (h : EdObj K H C a e s n f g) : EdObj K H' C a e s n f g := by
  obtain ⟨⟨dx, p, h1, h2⟩, h3⟩ := h
  exact ⟨⟨dx, p, S _ _ h1, S _ _ h2⟩, h3.same S⟩
def EiNames : List Str := ["self", "name", "version", "scripts", "needs", "first", "against"]
def spEi (K : PySem.W.Frag) (C CE : Addr) : Sp := fun vs H Q E => ∃ (x dx : Addr) (e : Ed) (s n f g : Addr), vs = [.ref x, .str e.name, e.version, .ref s, .ref n, .ref f, .ref g] ∧ H x = some (.ins C dx []) ∧ EdAt K H e s n f g ∧ e.Small ∧
  (e.wrong = none → ∀ H', SameBut x H H' → EdObj K H' C x e s n f g → Q .non H') ∧
  (∀ p, e.wrong = some p → ∀ H' d, Same H H' → H' d = some (.xd [("part", .str p)]) → E (.ref CE) (some d) H')
structure TxtG (P : Program) (K : PySem.W.Frag) (mg : Str → Option Value) (C CE fI : Addr) (fdI : FuncData) : Prop where
  cl : Cls K C
  nP : NoAttr K C "parts"
  mgC : mg "Edition" = some (.ref C)
  mgE : mg "InvalidEdition" = some (.ref CE)
  sup : SupC P K mg CE
  nF : PySem.W.findIn K (.ref CE) "part" = some none
  iC : PySem.W.findIn K (.ref CE) "__init__" = some (some (.ref fI))
  tI : PySem.W.typeIn K (.ref fI) = some (.type "function")
  er : ErrFn P K CE "InvalidEdition.__init__" sIe fI fdI
  bI : Binds K fdI ["self", "part"] []
section
variable {P : Program} {w : World} {K : PySem.W.Frag} {mg : Str → Option Value} {base : Heap} {C CE fI : Addr} {fdI : FuncData}
theorem scEi : FnScope ["self", "name", "version", "scripts", "needs", "first", "against", "part"] ["self", "name", "version", "scripts", "needs", "first", "against"] (defScope sEi) := ⟨rfl, rfl, rfl, by decide +kernel, rfl, by decide +kernel, by decide +kernel⟩
theorem wrong_small (e : Ed) {p : Str} (h : e.wrong = some p) : p.length ≤ 1000 := by
  unfold Ed.wrong at h
  cases q : e.checks.find? (fun q => !q.2) with
  | none => rw [q] at h; cases h
  | some r =>
    rw [q] at h
    have hp : r.1 = p := by simpa using h
    have hm := List.mem_of_find?_eq_some q
    rw [← hp]
    unfold Ed.checks at hm
    simp only [List.mem_cons, List.not_mem_nil, or_false] at hm
    rcases hm with rfl | rfl | rfl | rfl | rfl | rfl <;> (dsimp only; decide)
theorem ok_ei {f : Addr} {fd : FuncData} {kws : List (Str × V)} (F : FunD K "__init__" "Edition.__init__" (defArgs sEi) (defBody sEi) (defScope sEi) [] kws f fd) (T : TxtG P K mg C CE fI fdI) (dW : Def P w K mg base 5 "wrong_part" ["name", "version", "scripts", "needs", "first", "against"] (spWrong K)) :
    FnOk P w K mg base (L2.CX P w) 6 f fd ["self", "name", "version", "scripts", "needs", "first", "against"] (spEi K C CE) := by
  refine F.ok scEi (fun vs H Q E h => ?_) (fun cdv A outer s H vs Q E hr h => ?_)
  · obtain ⟨x, dx, e, s, n, f, g, rfl, _⟩ := h
    rfl
  · obtain ⟨x, dx, e, as, an, af, ag, rfl, hx, hE, hz, kOk, kBad⟩ := h
    have nd := scEi.nd
    have FI : FnOk P w K mg base CX0 1 fI fdI ["self", "part"] (spErr CE "part") := ok_ie T.er T.sup T.nF
    refine ⟨_, pss_cons (ps_set (i := 7) nd rfl (Or.inl rfl) (pe_def dW hr rfl (pa_cons (pv 1) (pa_cons (pv 2) (pa_cons (pv 3) (pa_cons (pv 4) (pa_cons (pv 5) (pa_cons (pv 6) pa_nil))))))))
      (pss_cons (ps_if (pt_cmp (pc_notN (pv 7))) (pss_one (ps_raise rfl (takes_of rfl rfl rfl rfl) (pmk_oex T.sup.oex T.iC T.tI FI (hr.mono (by decide)) T.bI .nil (fun _ _ _ _ _ _ _ h => h.elim) rfl T.mgE (pa_cons (pv 7) pa_nil)))) pss_nil)
      (pss_one (ps_fld (pv 0) (pe_tup (pa_cons (pv 1) (pa_cons (pv 2) (pa_cons (pv 3) (pa_cons (pv 4) (pa_cons (pv 5) (pa_cons (pv 6) pa_nil))))))) rfl))), ?_⟩
    refine ⟨_, rfl, _, rfl, _, rfl, _, rfl, _, rfl, _, rfl, e, as, an, af, ag, rfl, hE, hz, fun H1 s1 => ?_⟩
    cases hw : e.wrong with
    | some p =>
      refine ⟨_, rfl, true, rfl, ?_⟩
      refine iteT ?_
      refine ⟨_, rfl, (by show 1 ≤ 1000; decide), fun a ha => ⟨a, p, rfl, upd_same, wrong_small e hw, fun d hd1 hd2 => ⟨rfl, d, [("part", .str p)], upd_same, ?_, ?_, ?_⟩⟩⟩
      · rw [upd_ne hd2, upd_same]
      · rw [upd_ne hd2] at hd1
        exact hd1
      · rw [upd_ne hd2] at hd1
        refine kBad p hw _ d (fun b o q => ?_) upd_same
        have q1 := s1 b o q
        have nb : b ≠ d := ne_of_none q1 hd1
        have na : b ≠ a := ne_of_none q1 ha
        rw [upd_ne nb, del_ne na, upd_ne na, upd_ne nb, upd_ne na]
        exact q1
    | none =>
      refine ⟨_, rfl, false, rfl, ?_⟩
      refine iteF ?_
      refine ⟨_, rfl, _, rfl, _, rfl, _, rfl, _, rfl, _, rfl, (by show 6 ≤ sizeLine; decide), fun p hp => ?_⟩
      have nx : x ≠ p := ne_of_none (s1 _ _ hx) hp
      refine ⟨_, rfl, x, C, dx, [], rfl, (by rw [upd_ne nx]; exact s1 _ _ hx), T.cl, T.nP, (by show 0 < 1000; decide), ?_⟩
      have sb : SameBut x H (upd (upd H1 p (.tup [.str e.name, e.version, .ref as, .ref an, .ref af, .ref ag])) x (.ins C dx (putF "parts" (.ref p) []))) := fun b o hb q => by
        rw [upd_ne hb, upd_ne (ne_of_none (s1 _ _ q) hp)]
        exact s1 _ _ q
      refine kOk hw _ sb ⟨⟨dx, p, upd_same, by rw [upd_ne (Ne.symm nx), upd_same]⟩, ?_⟩
      have hE1 : EdAt K (upd H1 p (.tup [.str e.name, e.version, .ref as, .ref an, .ref af, .ref ag])) e as an af ag := hE.same (s1.trans (Same.upd_new hp))
      have tr : ∀ {a xs}, SqT K (upd H1 p (.tup [.str e.name, e.version, .ref as, .ref an, .ref af, .ref ag])) a xs → SqT K (upd (upd H1 p (.tup [.str e.name, e.version, .ref as, .ref an, .ref af, .ref ag])) x (.ins C dx (putF "parts" (.ref p) []))) a xs := fun {a xs} h => by
        have hxx : (upd H1 p (.tup [.str e.name, e.version, .ref as, .ref an, .ref af, .ref ag])) x = some (.ins C dx []) := by rw [upd_ne nx]; exact s1 _ _ hx
        rcases h with (h | ⟨o, h⟩) | h
        · exact .inl (.inl (by rw [upd_ne (ne_of h hxx (by intro z; cases z))]; exact h))
        · exact .inl (.inr ⟨o, by rw [upd_ne (ne_of h hxx (by intro z; cases z))]; exact h⟩)
        · exact .inr h
      have trN : ∀ {a ps}, NeedsAt K (upd H1 p (.tup [.str e.name, e.version, .ref as, .ref an, .ref af, .ref ag])) a ps → NeedsAt K (upd (upd H1 p (.tup [.str e.name, e.version, .ref as, .ref an, .ref af, .ref ag])) x (.ins C dx (putF "parts" (.ref p) []))) a ps := fun {a ps} h => by
        obtain ⟨ts, h1, h2, h3⟩ := h
        exact ⟨ts, tr h1, h2, fun i t p q r => tr (h3 i t p q r)⟩
      exact ⟨tr hE1.scripts, trN hE1.needs, trN hE1.first, tr hE1.against⟩
end
end Half

namespace Half
open PySem PySem.Spec PyProof.Rows L2
/-! ### the six properties -/
def spGet (C : Addr) (i : Nat) : Sp := fun vs H Q _ => ∃ (a dx p : Addr) (xs : List V) (v : V), vs = [.ref a] ∧ H a = some (.ins C dx [("parts", .ref p)]) ∧ H p = some (.tup xs) ∧ xs[i]? = some v ∧ Q v H
section
variable {P : Program} {w : World} {K : PySem.W.Frag} {mg : Str → Option Value} {base : Heap} {C : Addr}
theorem scGet {i : Nat} (h : i < 6) : FnScope ["self"] ["self"] (defScope (sGet i)) := by
  match i, h with
  | 0, _ => exact ⟨rfl, rfl, rfl, by decide +kernel, rfl, by decide +kernel, by decide +kernel⟩
  | 1, _ => exact ⟨rfl, rfl, rfl, by decide +kernel, rfl, by decide +kernel, by decide +kernel⟩
  | 2, _ => exact ⟨rfl, rfl, rfl, by decide +kernel, rfl, by decide +kernel, by decide +kernel⟩
  | 3, _ => exact ⟨rfl, rfl, rfl, by decide +kernel, rfl, by decide +kernel, by decide +kernel⟩
  | 4, _ => exact ⟨rfl, rfl, rfl, by decide +kernel, rfl, by decide +kernel, by decide +kernel⟩
  | 5, _ => exact ⟨rfl, rfl, rfl, by decide +kernel, rfl, by decide +kernel, by decide +kernel⟩
theorem getBody {i : Nat} (h : i < 6) : ∃ p1 p2 p3 p4 p5 : Pos, ∃ j, defBody (sGet i) = [.Return (some (.Subscript (.Attribute (.Name "self" p1) "parts" p2) (.Constant (.int i) j p3) p4)) p5] := by
  match i, h with
  | 0, _ => exact ⟨_, _, _, _, _, _, rfl⟩
  | 1, _ => exact ⟨_, _, _, _, _, _, rfl⟩
  | 2, _ => exact ⟨_, _, _, _, _, _, rfl⟩
  | 3, _ => exact ⟨_, _, _, _, _, _, rfl⟩
  | 4, _ => exact ⟨_, _, _, _, _, _, rfl⟩
  | 5, _ => exact ⟨_, _, _, _, _, _, rfl⟩
theorem ok_get {f : Addr} {fd : FuncData} {x qual : Str} {i : Nat} (hi : i < 6) (F : Fun K x qual (sGet i) f fd) (cl : Cls K C) (nP : NoAttr K C "parts") : FnOk P w K mg base CX0 1 f fd ["self"] (spGet C i) := by
  refine F.ok (scGet hi) (fun vs H Q E h => ?_) (fun cdv A outer s H vs Q E hr h => ?_)
  · obtain ⟨a, dx, p, xs, v, rfl, _⟩ := h
    rfl
  · obtain ⟨a, dx, p, xs, v, rfl, ha, hp, hv, k⟩ := h
    obtain ⟨p1, p2, p3, p4, p5, j, hb⟩ := getBody hi
    rw [hb]
    have hvis : Vis (defScope (sGet i)) "self" := ((scGet hi).par "self" (List.Mem.head _)).elim (fun z => .inl z) (fun z => .inr (.inl z))
    refine ⟨_, pss_one (ps_ret (pe_ix ix_tup (pe_fld (pe_var (i := 0) rfl hvis) rfl) pe_int (fun _ _ => rfl))), ?_⟩
    exact ⟨_, rfl, a, C, dx, _, _, rfl, ha, cl, nP, rfl, p, xs, _, v, rfl, rfl, .inl (.inl hp), atI_nat hv, k⟩
/-! ### == -/
def pairD (p : Str × Int) : PyData := .tuple [.str p.1, .int p.2]
def verD : V → PyData
  | .int n => .int n
  | .bl b => .bool b
  | _ => .none
def Ed.data (e : Ed) : PyData := .tuple [.str e.name, verD e.version, .tuple (e.scripts.map PyData.str), .tuple (e.needs.map pairD), .tuple (e.first.map pairD), .tuple (e.against.map PyData.str)]
theorem dpStrs {H : Hp} : ∀ l : List Str, DpAll K H (l.map V.str) (l.map PyData.str)
  | [] => .nil
  | x :: l => .cons (.str x) (dpStrs l)
theorem dpPairs {H : Hp} : ∀ (ts : List Addr) (ps : List (Str × Int)), ts.length = ps.length → (∀ (i : Nat) t p, ts[i]? = some t → ps[i]? = some p → SqT K H t [.str p.1, .int p.2]) → DpAll K H (ts.map V.ref) (ps.map pairD)
  | [], [], _, _ => .nil
  | t :: ts, p :: ps, hl, h => .cons (.tup (h 0 t p rfl rfl) (.cons (.str _) (.cons (.int _) .nil))) (dpPairs ts ps (by simpa using hl) fun i t' p' h1 h2 => h (i + 1) t' p' (by simpa using h1) (by simpa using h2))
  | [], _ :: _, hl, _ => by simp at hl
  | _ :: _, [], hl, _ => by simp at hl
theorem NeedsAt.dp {H : Hp} {a : Addr} {ps : List (Str × Int)} (h : NeedsAt K H a ps) : Dp K H (.ref a) (.tuple (ps.map pairD)) := by
  obtain ⟨ts, h1, h2, h3⟩ := h
  exact .tup h1 (dpPairs ts ps h2 h3)
theorem verDp {H : Hp} {v : V} (h : (∃ n, v = .int n) ∨ ∃ b, v = .bl b) : Dp K H v (verD v) := by
  rcases h with ⟨n, rfl⟩ | ⟨b, rfl⟩
  · exact .int n
  · exact .bl b
theorem EdObj.dp {H : Hp} {p s n f g : Addr} {e : Ed} (hp : H p = some (.tup [.str e.name, e.version, .ref s, .ref n, .ref f, .ref g])) (hE : EdAt K H e s n f g) (hv : (∃ n, e.version = .int n) ∨ ∃ b, e.version = .bl b) : Dp K H (.ref p) e.data :=
  .tup (.inl (.inl hp)) (.cons (.str _) (.cons (verDp hv) (.cons (.tup hE.scripts (dpStrs _)) (.cons hE.needs.dp (.cons hE.first.dp (.cons (.tup hE.against (dpStrs _)) .nil))))))
/-- an edition's promise of ==: what the data say -/
def EdIs (K : PySem.W.Frag) (H : Hp) (C a : Addr) (e : Ed) : Prop := (∃ s n f g, EdObj K H C a e s n f g) ∧ ((∃ n, e.version = .int n) ∨ ∃ b, e.version = .bl b) ∧ SeqAt.shaped e.data = true
theorem EdIs.same {H H' : Hp} {a : Addr} {e : Ed} (S : Same H H') (h : EdIs K H C a e) : EdIs K H' C a e := by
  obtain ⟨⟨s, n, f, g, h1⟩, h2⟩ := h
  exact ⟨⟨s, n, f, g, h1.same S⟩, h2⟩
def spEq (K : PySem.W.Frag) (C : Addr) : Sp := fun vs H Q _ => ∃ (a b : Addr) (e e' : Ed), vs = [.ref a, .ref b] ∧ EdIs K H C a e ∧ EdIs K H C b e' ∧ Q (.bl (PyData.eqv e.data e'.data)) H
structure TxtI (K : PySem.W.Frag) (mg : Str → Option Value) (C : Addr) : Prop where
  cl : Cls K C
  nP : NoAttr K C "parts"
  mgC : mg "Edition" = some (.ref C)
  isi : mg "isinstance" = none
  ha : PySem.W.findIn K (.ref C) "__class__" = some (some (.builtin "object.__class__"))
  hn : PySem.W.specialIn K (.builtin "object.__class__") "__get__" = some (some (.builtin "getset_descriptor.__get__"))
  ht : PySem.W.takesIn K (.builtin "object.__class__") = some true
  hm : PySem.W.mroIn K C (.type "object") = some true
  ki : PySem.W.kitOne K (.ref C) (.ref C) = some true
theorem scEq : FnScope ["self", "other"] ["self", "other"] (defScope sEq) := ⟨rfl, rfl, rfl, by decide +kernel, rfl, by decide +kernel, by decide +kernel⟩
theorem ok_eq {f : Addr} {fd : FuncData} (F : Fun K "__eq__" "Edition.__eq__" sEq f fd) (T : TxtI K mg C) : FnOk P w K mg base CX0 1 f fd ["self", "other"] (spEq K C) := by
  refine F.ok scEq (fun vs H Q E h => ?_) (fun cdv A outer s H vs Q E hr h => ?_)
  · obtain ⟨a, b, e, e', rfl, _⟩ := h
    rfl
  · obtain ⟨a, b, e, e', rfl, ⟨⟨s1, n1, f1, g1, ⟨dx, p, ha, hp⟩, hE⟩, hv, hs⟩, ⟨⟨s2, n2, f2, g2, ⟨dy, q, hb, hq⟩, hE'⟩, hv', hs'⟩, k⟩ := h
    refine ⟨_, pss_one (ps_ret (pe_and (pe_callB call_isi (by rfl) T.isi (by decide +kernel) (pa_cons (pv 1) (pa_cons (pe_glob (v := .ref C) rfl T.mgC rfl) pa_nil)))
      (pe_one (pe_cmpR (op_eqD hr.units) (pe_fld (pv 0) rfl) (pe_fld (pv 1) rfl) (nomark _))))), ?_⟩
    refine ⟨_, rfl, _, _, _, _, _, rfl, .own C, .base (.ins hb T.cl T.ha T.hn T.ht T.hm), T.ki, _, rfl, ?_⟩
    refine iteT ?_
    refine ⟨_, rfl, a, C, dx, _, _, rfl, ha, T.cl, T.nP, rfl, _, rfl, b, C, dy, _, _, rfl, hb, T.cl, T.nP, rfl, _, _, EdObj.dp hp hE hv, EdObj.dp hq hE' hv', hs, hs', k⟩
end
end Half

/-! sets whose items are tuples of ints and texts: s.add(t), t in s -/
namespace L2
open PySem PySem.Spec PyProof.Rows
abbrev kh (P : Program) (w : World) (k : List Key) : Int := tupleKeyHash (mixKind P w) k
abbrev TupK (P : Program) (w : World) (h : Heap) (k : List Key) (a : Addr) : Prop := IsTupleKey (mixKind P w) h k a
section
variable {P : Program} {w : World} {A : Around} {E : Value → Shared → Prop} {s : Shared}
def flatKey (v : Value) : Prop := (∃ i t, v = Value.int i t) ∨ ∃ x t, v = Value.str x t
theorem items_flat {k : List Key} {vs : List Value} (h : ItemsAre (mixKind P w) k vs) : ∀ v ∈ vs, flatKey v := by
  induction h with
  | nil => exact fun v hv => nomatch hv
  | @cons c u ks us one _ more =>
    intro v hv
    rcases List.mem_cons.mp hv with rfl | hv
    · rcases keyIs_shape (k := c) (v := v) one with ⟨i, t, _, e⟩ | ⟨x, t, _, e⟩
      · exact .inl ⟨i, t, e⟩
      · exact .inr ⟨x, t, e⟩
    · exact more v hv
theorem cls_flat {n : Nat} {v : Value} (h : flatKey v) : ofAClassStatement n v = pure false := by
  rcases h with ⟨i, t, rfl⟩ | ⟨x, t, rfl⟩ <;> cases n <;> rfl
theorem val_flat {n : Nat} {v : Value} (h : flatKey v) : ∃ b, hashByValue n v = pure b := by
  rcases h with ⟨i, t, rfl⟩ | ⟨x, t, rfl⟩
  · exact ⟨true, by cases n <;> rfl⟩
  · exact ⟨false, by cases n <;> rfl⟩
theorem cls_tup {k : List Key} {b : Addr} {Q : Bool → Shared → Prop} (T : TupK P w s.heap k b) (q : Q false s) : wpAny (model P w) A (ofAClassStatement 8 (.ref b)) Q E s := by
  have ty := T.typeIs
  obtain ⟨o, its, n, go, _, gd, gi⟩ := T
  unfold ofAClassStatement
  refine wpAny_bind (wpAny_typeOf ty ?_)
  dsimp only
  simp only [show (("tuple" : String) == "tuple") = true by decide, if_true, Bool.not_true, Bool.false_eq_true, if_false]
  first
    | refine wpAny_bind (wpAny_pure ?_)
    | skip
  try simp only [Bool.not_true, Bool.false_eq_true, if_false]
  show wpAny _ _ (seqItems? (.ref b) >>= _) _ _ s
  refine wpAny_bind (wpAny_seqItems go gd ?_)
  dsimp only
  refine wpAny_bind ?_
  show wpAny _ _ (forIn its _ _) _ _ s
  rw [← Array.forIn_toList]
  refine wpAny_forIn_list _ (fun rest r s' => r.1 = none ∧ s' = s ∧ ∀ v ∈ rest, flatKey v) _ ?_ ?_ _ _ ⟨rfl, rfl, items_flat gi⟩
  · rintro v rest r z ⟨hr, rfl, hall⟩
    rw [cls_flat (hall v List.mem_cons_self)]
    refine wpAny_bind (wpAny_pure ?_)
    simp only [Bool.false_eq_true, if_false]
    exact wpAny_pure ⟨rfl, rfl, fun u hu' => hall u (.tail _ hu')⟩
  · rintro ⟨r1, r2⟩ z ⟨hr, rfl, _⟩
    simp only at hr
    subst hr
    exact wpAny_pure q
theorem val_tup {k : List Key} {b : Addr} {Q : Bool → Shared → Prop} (T : TupK P w s.heap k b) (q : ∀ c, Q c s) : wpAny (model P w) A (hashByValue 8 (.ref b)) Q E s := by
  have ty := T.typeIs
  obtain ⟨o, its, n, go, _, gd, gi⟩ := T
  unfold hashByValue
  refine wpAny_bind (wpAny_specialOf ty F.slot_tuple_hash.lookup ?_)
  show wpAny _ _ (seqItems? (.ref b) >>= _) _ _ s
  refine wpAny_bind (wpAny_seqItems go gd ?_)
  refine wpAny_bind ?_
  show wpAny _ _ (forIn its _ _) _ _ s
  rw [← Array.forIn_toList]
  refine wpAny_forIn_list _ (fun rest r s' => (∀ c, r.1 = some c → c = false) ∧ s' = s ∧ ∀ v ∈ rest, flatKey v) _ ?_ ?_ _ _ ⟨(fun c h => nomatch h), rfl, items_flat gi⟩
  · rintro v rest r z ⟨hr, rfl, hall⟩
    obtain ⟨c, e⟩ := val_flat (n := 7) (hall v List.mem_cons_self)
    rw [e]
    refine wpAny_bind (wpAny_pure ?_)
    cases c
    · simp only [Bool.not_false, if_true]
      exact wpAny_pure (wpAny_pure (q false))
    · simp only [Bool.not_true, Bool.false_eq_true, if_false]
      exact wpAny_pure ⟨(fun c h => nomatch h), rfl, fun u hu' => hall u (.tail _ hu')⟩
  · rintro ⟨r1, r2⟩ z ⟨hr, rfl, _⟩
    cases r1 with
    | none => exact wpAny_pure (q true)
    | some c => exact wpAny_pure (q c)
theorem unseen {k : List Key} {b : Addr} {Q : Bool → Shared → Prop} (T : TupK P w s.heap k b) {ys : List Value} (hy : ∀ y ∈ ys, ∃ k' c, y = Value.ref c ∧ TupK P w s.heap k' c) (q : Q false s) :
    wpAny (model P w) A (searchCouldBeSeen (.ref b) ys) Q E s := by
  unfold searchCouldBeSeen
  refine wpAny_bind ?_
  refine wpAny_forIn_list _ (fun rest r s' => r.1 = none ∧ s' = s ∧ ∀ y ∈ rest, ∃ k' c, y = Value.ref c ∧ TupK P w s.heap k' c) _ ?_ ?_ _ _ ⟨rfl, rfl, hy⟩
  · rintro v rest r z ⟨hr, rfl, hall⟩
    obtain ⟨k', c, rfl, hc⟩ := hall v List.mem_cons_self
    have more : ∀ y ∈ rest, ∃ k' c, y = Value.ref c ∧ TupK P w z.heap k' c := fun u m => hall u (.tail _ m)
    dsimp only
    by_cases hv : (b == c || (carriedByValue (.ref b) && carriedByValue (.ref c))) = true
    · exact wp_if_pos hv (wpAny_pure ⟨rfl, rfl, more⟩)
    · refine wp_if_neg hv (wpAny_bind (wpAny_eqIsQuiet_tuple T ?_))
      simp only [Bool.not_true, Bool.false_eq_true, if_false]
      refine wpAny_bind (wpAny_eqIsQuiet_tuple hc ?_)
      simp only [Bool.not_true, Bool.false_eq_true, if_false]
      refine wpAny_bind (cls_tup T ?_)
      simp only [Bool.false_eq_true, if_false]
      refine wpAny_bind (cls_tup hc ?_)
      simp only [Bool.false_eq_true, if_false]
      exact wpAny_pure ⟨rfl, rfl, more⟩
  · rintro ⟨r1, r2⟩ z ⟨hr, rfl, _⟩
    simp only at hr
    subst hr
    exact wpAny_pure q
/-! the table of such a set -/
def ents (P : Program) (w : World) (L : List (Addr × List Key)) : List (Int × Value) := L.map fun p => (kh P w p.2, Value.ref p.1)
structure SetTK (P : Program) (w : World) (h : Heap) (a : Addr) (L : List (Addr × List Key)) (es : Array (Int × Value)) (ep : Nat) (t : SetTable) : Prop where
  ob : ∃ o, h.get? a = some o ∧ o.ExactSet ∧ o.data = .set es ep t
  row : es.toList = ents P w L
  tab : TabOk t (L.map fun p => kh P w p.2)
  one : (L.map (·.2)).Nodup
  room : L.length * 5 < t.mask * 3
  few : L.length < 64
  led : w.params.followText "set-order" = true ∨ t.led = true
variable {a : Addr} {L : List (Addr × List Key)} {es : Array (Int × Value)} {ep : Nat} {t : SetTable} {h : Heap}
theorem ents_len (e : es.toList = ents P w L) : es.size = L.length := by
  have z := congrArg List.length e
  unfold ents at z
  rwa [Array.length_toList, List.length_map] at z
theorem fit_of (n : es.size = L.length) (z : t.place.size = L.length) (d : t.dummies = #[]) (r : L.length ≤ t.mask) : t.fits es.size = true := by
  unfold SetTable.fits SetTable.fill
  rw [d, Bool.and_eq_true, beq_iff_eq, decide_eq_true_eq]
  exact ⟨z.trans n.symm, by show t.place.size + 0 ≤ t.mask; omega⟩
theorem SetTK.psz (R : SetTK P w h a L es ep t) : t.place.size = L.length := by
  have z := R.tab.sz
  rwa [List.length_map] at z
theorem SetTK.fit (R : SetTK P w h a L es ep t) : t.fits es.size = true := fit_of (ents_len R.row) R.psz R.tab.dm (by have := R.room; omega)
theorem SetTK.at (R : SetTK P w h a L es ep t) {i : Nat} {p : Addr × List Key} (m : L[i]? = some p) : es[i]? = some (kh P w p.2, Value.ref p.1) := by
  rw [← Array.getElem?_toList, R.row]
  unfold ents
  rw [List.getElem?_map, m] <;> rfl
theorem SetTK.odd (R : SetTK P w h a L es ep t) : ¬ t.gaveWay = true := by
  unfold SetTable.gaveWay
  rw [mask_odd R.tab.mok] <;> decide
/-- the c-th probe of the key -/
abbrev prb (P : Program) (w : World) (t : SetTable) (k : List Key) (c : Nat) : SetTable.Probe := nth t.mask (runAt t.mask (SetTable.bits (kh P w k) % (t.mask + 1)) (SetTable.bits (kh P w k))) c
theorem nth_dummy (m : Nat) : ∀ (n : Nat) (p : SetTable.Probe), p.dummy = none → (nth m p n).dummy = none
  | 0, _, e => e
  | n + 1, p, e => nth_dummy m n (adv m p) (by unfold adv; split <;> exact e)
/-- a search for a key, in a table that has its first free place at the K-th step -/
theorem look_from {ad : Bool} (R : SetTK P w s.heap a L es ep t) (TT : ∀ p ∈ L, TupK P w s.heap p.2 p.1) {x : Addr} {k : List Key} (hx : TupK P w s.heap k x) (hu : A.units < cLine) {K : Nat} (hKf : K < 10 * SetTable.turns t.mask)
    (free : way t.mask (kh P w k) K ∉ t.place.toList) (busy : ∀ c, c < K → way t.mask (kh P w k) c ∈ t.place.toList) {Q : SetFound → Shared → Prop}
    (yes : ∀ r, (ad = false → r.isSome = true) → k ∈ L.map (·.2) → Q (.there r) s) (no : k ∉ L.map (·.2) → Q (.free (way t.mask (kh P w k) K) false) s) :
    ∀ (f c : Nat) (stand : Option SetTable.Probe), stand.getD (t.probeStart (kh P w k)) = prb P w t k c → c ≤ K → K - c < f →
      (∀ (i : Nat) p, L[i]? = some p → p.2 = k → ∃ c', c ≤ c' ∧ c' < K ∧ t.place.toList[i]? = some (way t.mask (kh P w k) c')) →
      wpAny (model P w) A (setSearchFrom a (.ref x) (kh P w k) ad f stand) Q E s
  | 0, c, stand, _, _, hf, _ => absurd hf (Nat.not_lt_zero _)
  | f + 1, c, stand, hst, hc, hf, hre => by
    obtain ⟨o, go, gx, gd⟩ := R.ob
    rw [setSearchFrom_succ]
    refine wpAny_bind (wpAny_setState_of go gd R.fit ?_)
    dsimp only
    refine wp_if_neg R.odd ?_
    first
      | refine wpAny_bind (wpAny_pure ?_)
      | skip
    have nod : (prb P w t k c).dummy = none := nth_dummy t.mask c _ rfl
    have sh : ∀ q, nth t.mask (prb P w t k c) q = prb P w t k (c + q) := fun q => (nth_add t.mask c _ q).symm
    have e1 : ∀ q, (nth t.mask (prb P w t k c) q).j = way t.mask (kh P w k) (c + q) := fun q => congrArg SetTable.Probe.j (sh q)
    have spec := go_spec t R.tab.ris R.tab.dm (fun i => (es[i]?.map (·.1)).getD 0) (kh P w k) (10 * SetTable.turns t.mask) (K - c) _ nod (by omega)
      (fun q hq => by rw [e1]; exact busy (c + q) (by omega)) (by rw [e1, show c + (K - c) = K by omega]; exact free)
    have hsh : ∀ (i : Nat) p, L[i]? = some p → (fun i => (es[i]?.map (·.1)).getD 0) i = kh P w p.2 := fun i p hp => by
      show (es[i]?.map (·.1)).getD 0 = _
      rw [R.at hp] <;> rfl
    rcases spec with ⟨q, i, hq, hi, hh, hno, hpr⟩ | ⟨hno, hpr⟩
    · have met : t.probe (fun i => (es[i]?.map (·.1)).getD 0) (kh P w k) (stand.getD (t.probeStart (kh P w k))) = some (.candidate (way t.mask (kh P w k) (c + q)) i (prb P w t k (c + (q + 1)))) := by
        rw [hst, ← e1, ← sh]
        exact hpr
      rw [met]
      dsimp only
      rw [e1] at hi
      have hil : i < L.length := by
        have h1 := (List.getElem?_eq_some_iff.mp hi).1
        rw [Array.length_toList, R.psz] at h1
        exact h1
      have hp : L[i]? = some L[i] := List.getElem?_eq_getElem hil
      generalize L[i] = p at hp
      have hm : p ∈ L := List.mem_of_getElem? hp
      have live : t.slot (way t.mask (kh P w k) (c + q)) = .live i := slot_live R.tab.ris hi
      have rest : wpAny (model P w) A (searchRest a (.ref x) (kh P w k) ad f es t (way t.mask (kh P w k) (c + q)) i (prb P w t k (c + (q + 1)))) Q E s := by
        unfold searchRest
        rw [R.at hp]
        dsimp only
        refine wpAny_bind (wpAny_holding (wpAny_eqBool_tuple hu (TT p hm) hx ?_))
        refine wpAny_bind (wpAny_setState_of go gd R.fit ?_)
        dsimp only
        by_cases both : (ad && decide (p.2 = k)) = true
        · refine wp_if_pos both (wpAny_pure (yes none (fun z => ?_) ?_))
          · rw [z] at both; exact nomatch both
          · exact List.mem_map.mpr ⟨p, hm, of_decide_eq_true (Bool.and_eq_true _ _ ▸ both).2⟩
        · refine wp_if_neg both ?_
          first
            | refine wpAny_bind (wpAny_pure ?_)
            | skip
          rw [sameMem]
          dsimp only
          simp only [if_true, live, R.at hp]
          refine wpAny_bind (wpAny_isSame_ref_self (wpAny_bind (wpAny_pure ?_)))
          simp only [if_true]
          by_cases same : p.2 = k
          · exact wp_if_pos (by simp [same]) (wpAny_pure (yes (some i) (fun _ => rfl) (List.mem_map.mpr ⟨p, hm, same⟩)))
          · refine wp_if_neg (by simp [same]) ?_
            refine look_from R TT hx hu hKf free busy yes no f (c + (q + 1)) _ rfl (by omega) (by omega) fun i0 p0 h0 hk0 => ?_
            obtain ⟨c', a1, a2, a3⟩ := hre i0 p0 h0 hk0
            refine ⟨c', ?_, a2, a3⟩
            rcases Nat.lt_trichotomy c' (c + q) with z | z | z
            · exact (hno (c' - c) i0 (by omega) (by rw [e1, show c + (c' - c) = c' by omega]; exact a3) ((hsh i0 p0 h0).trans (congrArg (kh P w) hk0))).elim
            · rw [z] at a3
              have s0 := live.symm.trans (slot_live R.tab.ris a3)
              injection s0 with s0
              rw [← s0, hp] at h0
              exact absurd ((congrArg Prod.snd (Option.some.inj h0)).trans hk0) same
            · omega
      by_cases hl : t.led = true
      · refine wp_if_neg (by simp [hl]) ?_
        first
          | exact rest
          | exact wpAny_bind (wpAny_pure rest)
      · refine wp_if_pos (by simp [hl]) (wpAny_bind (unseen hx (fun y hy => ?_) ?_))
        · obtain ⟨e, he, ee⟩ := List.mem_map.mp hy
          have he1 : e ∈ es ∧ e.1 = kh P w k := by simpa using he
          have he2 : e ∈ es.toList := by simpa using he1.1
          rw [R.row] at he2
          obtain ⟨p2, hp2, e2⟩ := List.mem_map.mp he2
          exact ⟨p2.2, p2.1, by rw [← ee, ← e2], TT p2 hp2⟩
        · refine wp_if_neg (by decide) ?_
          first
            | exact rest
            | exact wpAny_bind (wpAny_pure rest)
    · have met : t.probe (fun i => (es[i]?.map (·.1)).getD 0) (kh P w k) (stand.getD (t.probeStart (kh P w k))) = some (.empty (way t.mask (kh P w k) K) none) := by
        have e2 : way t.mask (kh P w k) K = (nth t.mask (prb P w t k c) (K - c)).j := by rw [e1, show c + (K - c) = K by omega]
        rw [hst, e2]
        exact hpr
      rw [met]
      dsimp only
      refine wpAny_pure (no fun hm => ?_)
      obtain ⟨p0, h0, hk0⟩ := List.mem_map.mp hm
      obtain ⟨i0, hi0, e0⟩ := List.getElem_of_mem h0
      have h00 : L[i0]? = some p0 := by rw [List.getElem?_eq_getElem hi0, e0]
      obtain ⟨c', a1, a2, a3⟩ := hre i0 p0 h00 hk0
      exact hno (c' - c) i0 (by omega) (by rw [e1, show c + (c' - c) = c' by omega]; exact a3) ((hsh i0 p0 h00).trans (congrArg (kh P w) hk0))
theorem look_at {ad : Bool} (R : SetTK P w s.heap a L es ep t) (TT : ∀ p ∈ L, TupK P w s.heap p.2 p.1) {x : Addr} {k : List Key} (hx : TupK P w s.heap k x) (hu : A.units < cLine) {Q : SetFound → Shared → Prop}
    (yes : ∀ r, (ad = false → r.isSome = true) → k ∈ L.map (·.2) → Q (.there r) s)
    (no : ∀ K, k ∉ L.map (·.2) → way t.mask (kh P w k) K ∉ t.place.toList → (∀ c, c < K → way t.mask (kh P w k) c ∈ t.place.toList) → Q (.free (way t.mask (kh P w k) K) false) s) :
    wpAny (model P w) A (setSearch a (.ref x) (kh P w k) ad) Q E s := by
  have hroom := R.room
  obtain ⟨K, hKf, free, busy⟩ := R.tab.first (by rw [List.length_map]; omega) (kh P w k)
  have small : 10 * SetTable.turns t.mask ≤ 1420 := by
    unfold SetTable.turns
    rcases R.tab.mok with e | e | e <;> omega
  unfold setSearch
  refine look_from R TT hx hu hKf free busy yes (fun hn => no K hn free busy) 100000 0 none rfl (Nat.zero_le _) (by omega) fun i p hp hk => ?_
  have hil : i < t.place.toList.length := by
    rw [Array.length_toList, R.psz]
    exact (List.getElem?_eq_some_iff.mp hp).1
  have hj := List.getElem?_eq_getElem hil
  obtain ⟨c, hc, e⟩ := R.tab.before free (by rw [List.getElem?_map, hp, ← hk] <;> rfl) hj
  exact ⟨c, Nat.zero_le _, hc, by rw [hj, e]⟩
/-! adding -/
theorem tup_same {h h' : Heap} {k : List Key} {a b : Addr} {o : Obj} {es : Array (Int × Value)} {ep : Nat} {t : SetTable} (T : TupK P w h k b) (ho : h.get? a = some o) (hd : o.data = .set es ep t) (sb : Heap.SameBut a h h') : TupK P w h' k b := by
  obtain ⟨z, its, n, go, gc, gd, gi⟩ := T
  have ne : b ≠ a := by
    rintro rfl
    obtain rfl : z = o := Option.some.inj (go.symm.trans ho)
    rw [hd] at gd
    exact nomatch gd
  exact ⟨z, its, n, (sb.2 b ne).trans go, gc, gd, gi⟩
theorem ents_put (L : List (Addr × List Key)) (p : Nat) (x : Addr) (k : List Key) : ents P w (L.take p ++ (x, k) :: L.drop p) = (ents P w L).take p ++ (kh P w k, Value.ref x) :: (ents P w L).drop p := by
  unfold ents
  rw [List.map_append, List.map_cons, List.map_take, List.map_drop]
theorem pick_all {α : Type} (L : List α) : (List.range L.length).filterMap (fun i => L[i]?) = L := by
  have key : ∀ n, n ≤ L.length → (List.range n).filterMap (fun i => L[i]?) = L.take n := by
    intro n
    induction n with
    | zero => exact fun _ => rfl
    | succ n more =>
      intro hn
      rw [List.range_succ, List.filterMap_append, more (Nat.le_of_succ_le hn), List.take_succ, List.getElem?_eq_getElem hn, List.filterMap_cons_some (List.getElem?_eq_getElem hn)] <;> rfl
  rw [key _ (Nat.le_refl _), List.take_length]
theorem ents_order (L : List (Addr × List Key)) (es : Array (Int × Value)) (order : Array Nat) (hr : es.toList = ents P w L) (hp : order.toList.Perm (List.range L.length)) :
    ∃ L2, (order.filterMap (es[·]?)).toList = ents P w L2 ∧ L2.Perm L ∧ (L2.map fun p => kh P w p.2) = order.toList.map fun i => (es.map (·.1)).getD i 0 := by
  have sz := ents_len hr
  have ent : ∀ i (h : i < L.length), es[i]? = some (kh P w (L[i]).2, Value.ref (L[i]).1) := fun i h => by
    rw [← Array.getElem?_toList, hr]
    unfold ents
    rw [List.getElem?_map, List.getElem?_eq_getElem h] <;> rfl
  have key : ∀ l : List Nat, (∀ i ∈ l, i < L.length) → l.filterMap (fun i => es[i]?) = ents P w (l.filterMap (fun i => L[i]?)) ∧ ((l.filterMap (fun i => L[i]?)).map fun p => kh P w p.2) = l.map fun i => (es.map (·.1)).getD i 0 := by
    intro l
    induction l with
    | nil => exact fun _ => ⟨rfl, rfl⟩
    | cons i l more =>
      intro hl
      have hi := hl i List.mem_cons_self
      obtain ⟨e1, e2⟩ := more fun j hj => hl j (.tail _ hj)
      have e4 : (es.map (·.1)).getD i 0 = kh P w (L[i]).2 := by
        have e5 : (es.map (·.1))[i]? = some (kh P w (L[i]).2) := by rw [Array.getElem?_map, ent i hi] <;> rfl
        simp [Array.getD_eq_getD_getElem?, e5]
      rw [List.filterMap_cons_some (List.getElem?_eq_getElem hi), List.filterMap_cons_some (ent i hi), e1, List.map_cons, List.map_cons, e2, e4]
      exact ⟨rfl, rfl⟩
  obtain ⟨e1, e2⟩ := key order.toList fun i hi => List.mem_range.mp (hp.mem_iff.mp hi)
  refine ⟨_, by first | (rw [Array.toList_filterMap]; exact e1) | simpa using e1, ?_, e2⟩
  have h1 := hp.filterMap (fun i => L[i]?)
  rwa [pick_all] at h1
theorem relay_key {o : Obj} (ho : s.heap.get? a = some o) (hex : o.ExactSet) (hd : o.data = .set es ep t) (row : es.toList = ents P w L) (psz : t.place.size = L.length) (hdm : t.dummies = #[]) (hfl : L.length ≤ t.mask)
    (one : (L.map (·.2)).Nodup) (few : L.length < 64) (ld : w.params.followText "set-order" = true ∨ t.led = true) {wanted M : Nat} (hw : SetTable.sizeAbove wanted - 1 = M) (hM : MaskOk M) (hw2 : SetTable.sizeAbove wanted ≤ 128) (hn : L.length * 5 < M * 3) {Q : Unit → Shared → Prop}
    (q : ∀ h' L' es' ep' t', Heap.SameBut a s.heap h' → SetTK P w h' a L' es' ep' t' → L'.Perm L → Q () { s with heap := h' }) : wpAny (model P w) A (setRelay a wanted) Q E s := by
  have sz := ents_len row
  obtain ⟨t', order, e, hp, T, em, el, _, ed⟩ := relaid_ok t (hs := es.map (·.1)) (wanted := wanted) hw hM (by rw [Array.size_map, sz]; omega)
  rw [Array.size_map, sz] at hp
  obtain ⟨L2, r1, r2, r3⟩ := ents_order L es order row hp
  rw [← r3] at T
  have hs2 : (order.filterMap (es[·]?)).size = es.size := by rw [ents_len r1, r2.length_eq, sz]
  rw [setRelay_eq]
  refine wpAny_bind (wpAny_setState_of ho hd (fit_of sz psz hdm hfl) ?_)
  dsimp only
  refine wp_if_neg (by rw [sizeLine_eq]; omega) ?_
  first
    | refine wpAny_bind (wpAny_pure ?_)
    | skip
  rw [e]
  dsimp only
  refine wpAny_bind (wp_if_neg (by rw [hs2]; simp) ?_)
  first
    | refine wpAny_bind (wpAny_pure (wpAny_pure ?_))
    | refine wpAny_pure ?_
  dsimp only
  refine wpAny_storeSet_of ho hd ?_ (by rw [hs2, sz, sizeLine_eq]; omega)
  refine q _ L2 (order.filterMap (es[·]?)) (ep + 1) t' (Heap.SameBut.update ..) ⟨⟨_, store_at ho hd, ⟨hex.1, hex.2.1, hex.2.2⟩, rfl⟩, r1, T, (r2.map (·.2)).nodup_iff.mpr one, ?_, by rw [r2.length_eq]; exact few, by rw [el]; exact ld⟩ r2
  rw [r2.length_eq, em]
  exact hn
theorem add_key (R : SetTK P w s.heap a L es ep t) (TT : ∀ p ∈ L, TupK P w s.heap p.2 p.1) {x : Addr} {k : List Key} (hx : TupK P w s.heap k x) (hu : A.units < cLine) (hfew : L.length + 1 < 64) {Q : Bool → Shared → Prop}
    (q : ∀ b h' L' es' ep' t', Heap.SameBut a s.heap h' → SetTK P w h' a L' es' ep' t' → (k ∈ L.map (·.2) → L' = L) → (k ∉ L.map (·.2) → L'.Perm ((x, k) :: L)) → Q b { s with heap := h' }) :
    wpAny (model P w) A (setAddHashed a (.ref x) (kh P w k)) Q E s := by
  obtain ⟨o, go, gx, gd⟩ := R.ob
  have sz := ents_len R.row
  have room := R.room
  unfold setAddHashed
  refine wpAny_holding ?_
  rw [show (100000 : Nat) = 99999 + 1 from rfl, setAddHashedIn_succ]
  refine wpAny_bind (wpAny_setState_of go gd R.fit ?_)
  dsimp only
  refine wp_if_neg (by simp [byScan, Value.scannable]) ?_
  first
    | refine wpAny_bind (wpAny_pure ?_)
    | skip
  refine wpAny_bind (look_at R TT hx hu (fun r _ hm => ?_) fun K hm free busy => ?_)
  · exact wpAny_pure (q false s.heap L es ep t (Heap.SameBut.refl a s.heap) R (fun _ => rfl) fun z => absurd hm z)
  · dsimp only
    refine wpAny_bind (wpAny_setState_of go gd R.fit ?_)
    dsimp only
    obtain ⟨q1, q2, q3, q4, q5, q6, q7, q8, q9⟩ := R.tab.put free busy
    generalize t.put (way t.mask (kh P w k) K) = pt at q1 q3 q4 q5 q6 q7 q8 q9 ⊢
    obtain ⟨t1, p⟩ := pt
    dsimp only at q1 q3 q4 q5 q6 q7 q8 q9 ⊢
    subst q1
    have ins : (SetTable.insertAt es (SetTable.below t.place (way t.mask (kh P w k) K)) (kh P w k, Value.ref x)).toList = ents P w (L.take (SetTable.below t.place (way t.mask (kh P w k) K)) ++ (x, k) :: L.drop (SetTable.below t.place (way t.mask (kh P w k) K))) := by
      rw [SetTable.toList_insertAt, ents_put, R.row]
    generalize SetTable.below t.place (way t.mask (kh P w k) K) = p at q2 q3 ins ⊢
    have pm := put_perm L p (x, k)
    have hhs : (L.take p ++ (x, k) :: L.drop p).map (fun p => kh P w p.2) = (L.map fun p => kh P w p.2).take p ++ kh P w k :: (L.map fun p => kh P w p.2).drop p := by
      rw [List.map_append, List.map_cons, List.map_take, List.map_drop]
    rw [← hhs] at q3
    generalize L.take p ++ (x, k) :: L.drop p = L1 at pm q3 ins hhs
    have len1 : L1.length = L.length + 1 := pm.length_eq
    have one1 : (L1.map (·.2)).Nodup := (pm.map (·.2)).nodup_iff.mpr (by rw [List.map_cons]; exact List.nodup_cons.mpr ⟨hm, R.one⟩)
    have hes := (ents_len ins).trans len1
    generalize SetTable.insertAt es p (kh P w k, Value.ref x) = es1 at ins hes ⊢
    have body : ∀ t2 : SetTable, t2 = t1 ∨ t2 = { t1 with plain := false } → wpAny (model P w) A (do
        storeSet a es1 t2
        if !false && t2.tooFull then setRelay a (SetTable.grown (es.size + 1))
        return true) Q E s := fun t2 ht2 => by
      have q32 : TabOk t2 (L1.map fun p => kh P w p.2) := by
        rcases ht2 with rfl | rfl
        · exact q3
        · exact ⟨q3.ris, q3.dm, q3.sz, q3.mok, q3.bd, q3.reach⟩
      have q42 : t2.mask = t.mask := by rcases ht2 with rfl | rfl <;> exact q4
      have ld2 : w.params.followText "set-order" = true ∨ t2.led = true := by
        have e : t2.led = t.led := by rcases ht2 with rfl | rfl <;> exact q5
        rw [e]
        exact R.led
      have full : t2.tooFull = t1.tooFull := by rcases ht2 with rfl | rfl <;> rfl
      refine wpAny_bind (wpAny_storeSet_of go gd ?_ (by rw [hes, sizeLine_eq]; omega))
      have sb : Heap.SameBut a s.heap (s.heap.update a (Obj.putSet es1 t2)) := Heap.SameBut.update ..
      have ho1 := store_at (es' := es1) (t' := t2) go gd
      generalize s.heap.update a (Obj.putSet es1 t2) = h1 at sb ho1 ⊢
      have psz2 : t2.place.size = L1.length := by
        have z := q32.sz
        rwa [List.length_map] at z
      have say : t1.tooFull = decide ((L.length + 1) * 5 ≥ t1.mask * 3) := by
        unfold SetTable.tooFull
        rw [q9, List.length_map]
      by_cases hf : t2.tooFull = true
      · first
          | (refine wpAny_bind ?_; refine wp_if_pos (by simp [hf]) ?_)
          | (refine wp_if_pos (by simp [hf]) ?_; refine wpAny_bind ?_)
        have big : (L.length + 1) * 5 ≥ t.mask * 3 := by
          rw [full, say, decide_eq_true_eq, q4] at hf
          exact hf
        rw [sz]
        have two : (t.mask = 7 ∧ L.length = 4) ∨ (t.mask = 31 ∧ L.length = 18) := by
          rcases R.tab.mok with e | e | e
          · exact .inl ⟨e, by rw [e] at big room; omega⟩
          · exact .inr ⟨e, by rw [e] at big room; omega⟩
          · rw [e] at big; omega
        have go2 : ∀ M, SetTable.sizeAbove (SetTable.grown (L.length + 1)) - 1 = M → MaskOk M → SetTable.sizeAbove (SetTable.grown (L.length + 1)) ≤ 128 → (L.length + 1) * 5 < M * 3 →
            wpAny (model P w) A (setRelay a (SetTable.grown (L.length + 1))) (fun _ s' => wpAny (model P w) A (pure true) Q E s') E { s with heap := h1 } := fun M b1 b2 b3 b4 =>
          relay_key (s := { s with heap := h1 }) ho1 ⟨gx.1, gx.2.1, gx.2.2⟩ rfl ins psz2 q32.dm (by rw [len1, q42]; rcases two with ⟨e, e2⟩ | ⟨e, e2⟩ <;> omega) one1 (by rw [len1]; exact hfew) ld2 b1 b2 b3 (by rw [len1]; exact b4)
            fun h2 L2 es2 ep2 t2 sb2 R2 pm2 => wpAny_pure (q true h2 L2 es2 ep2 t2 (sb.trans sb2) R2 (fun z => absurd z hm) fun _ => pm2.trans pm)
        rcases two with ⟨_, e2⟩ | ⟨_, e2⟩
        · exact go2 31 (by rw [e2, size_20]) (.inr (.inl rfl)) (by rw [e2, size_20]; decide) (by omega)
        · exact go2 127 (by rw [e2, size_76]) (.inr (.inr rfl)) (by rw [e2, size_76]; decide) (by omega)
      · first
          | refine wp_if_neg (by simp [hf]) ?_
          | (refine wpAny_bind ?_; refine wp_if_neg (by simp [hf]) ?_; refine wpAny_pure ?_)
        refine wpAny_pure (q true h1 L1 es1 (ep + 1) t2 sb ⟨⟨_, ho1, ⟨gx.1, gx.2.1, gx.2.2⟩, rfl⟩, ins, q32, one1, ?_, by rw [len1]; exact hfew, ld2⟩ (fun z => absurd z hm) fun _ => pm)
        rw [full, say, decide_eq_true_eq, q4] at hf
        rw [len1, q42]
        omega
    by_cases hp1 : t1.plain = true
    · first
        | (refine wpAny_bind ?_; refine wp_if_pos hp1 ?_; refine val_tup hx fun c => ?_)
        | refine wp_if_pos hp1 (wpAny_bind (val_tup hx fun c => ?_))
      cases c
      · exact body _ (.inr rfl)
      · exact body _ (.inl rfl)
    · first
        | (refine wpAny_bind ?_; refine wp_if_neg hp1 ?_; refine wpAny_pure ?_)
        | refine wp_if_neg hp1 (wpAny_bind (wpAny_pure ?_))
      exact body _ (.inl rfl)
end
end L2

namespace L2
open PySem PySem.Spec PyProof.Rows
/-- the set at a: tuples of ints and texts, each with its address -/
def TsO (P : Program) (w : World) (a : Addr) (L : List (Addr × List Key)) : HO := .ext fun h => ∃ es ep t, SetTK P w h a L es ep t
/-- its tuples stand where they stood -/
def TupsIn (H : Hp) (L : List (Addr × List Key)) : Prop := ∀ p ∈ L, H p.1 = some (.tup (p.2.map kV))
/-- the key is among them -/
def hasK (L : List (Addr × List Key)) (k : List Key) : Bool := L.any fun p => decide (p.2 = k)
theorem hasK_iff {L : List (Addr × List Key)} {k : List Key} : hasK L k = true ↔ k ∈ L.map (·.2) := by simp [hasK]
theorem hasK_no {L : List (Addr × List Key)} {k : List Key} (h : k ∉ L.map (·.2)) : hasK L k = false := by
  cases e : hasK L k
  · rfl
  · exact absurd (hasK_iff.mp e) h
section
variable {X : Cx} {P : Program} {w : World}
theorem setTK_move {h h' : Heap} {a : Addr} {L : List (Addr × List Key)} {es : Array (Int × Value)} {ep : Nat} {t : SetTable} (R : SetTK P w h a L es ep t) (k : ∀ o, h.get? a = some o → h'.get? a = some o) : SetTK P w h' a L es ep t := by
  obtain ⟨o, go, r⟩ := R.ob
  exact ⟨⟨o, k o go, r⟩, R.row, R.tab, R.one, R.room, R.few, R.led⟩
theorem tsO_new {H : Hp} {h : Heap} {a : Addr} {L : List (Addr × List Key)} {es : Array (Int × Value)} {ep : Nat} {t : SetTable} (R : SetTK P w h a L es ep t) : ObjOk P w H h a (TsO P w a L) := by
  have ⟨o, go, _⟩ := R.ob
  exact ⟨⟨es, ep, t, R⟩, ⟨o, go⟩, fun h1 h2 ⟨e1, p1, t1, p⟩ k => ⟨e1, p1, t1, setTK_move p k⟩⟩
theorem tsO_get {pins : List (Addr × Obj)} {σ : St} {H : Hp} {s : Shared} {a : Addr} {L : List (Addr × List Key)} (I : Inv X pins σ H s) (ha : H a = some (TsO X.prog X.w a L)) : ∃ es ep t, SetTK X.prog X.w s.heap a L es ep t := (I.hok a _ ha).1
theorem setTK_type {s : Shared} {a : Addr} {L : List (Addr × List Key)} {es : Array (Int × Value)} {ep : Nat} {t : SetTable} (R : SetTK P w s.heap a L es ep t) : s.TypeIs (.ref a) "set" := by
  obtain ⟨o, go, gx, _⟩ := R.ob
  exact ⟨o, go, gx.1⟩
/-- set(), that tuples will be put into -/
def rSet0T (P : Program) (w : World) : List V → Hp → VK → Prop := fun xs H Q => xs = [] ∧ ∀ p, H p = none → Q (.ref p) (upd H p (TsO P w p []))
theorem setTK_nil {h : Heap} {a : Addr} (ho : h.get? a = some { cls := .type "set", dict := none, data := .set #[] 0 (.fresh 0 0 (!w.params.followText "set-order")) }) : SetTK P w h a [] #[] 0 (.fresh 0 0 (!w.params.followText "set-order")) :=
  ⟨⟨_, ho, ⟨rfl, rfl, rfl⟩, rfl⟩, rfl, ⟨.nil, rfl, rfl, .inl rfl, (fun x hx => nomatch hx), fun i h j hi => by simp at hi⟩, .nil, by show 0 * 5 < 7 * 3; decide, by show 0 < 64; decide, by show _ ∨ (!w.params.followText "set-order") = true; cases w.params.followText "set-order" <;> simp⟩
theorem cr_set0T : CallR X (.type "set") (rSet0T X.prog X.w) := by
  intro pins s σ H xs us Q I r h
  obtain ⟨rfl, q⟩ := h
  cases r
  refine setR_new fun _ => ?_
  refine ⟨.ref _, upd H s.heap.objs.size (TsO X.prog X.w s.heap.objs.size []), I.laid (t' := s.toks) (fun b u e => Heap.get?_push_of_some _ e) (Nat.le_refl _) (tsO_new (setTK_nil (Heap.get?_push_size _ rfl))), rfl, q _ (I.hok.fresh (Nat.le_refl _))⟩
theorem tupK_of {pins : List (Addr × Obj)} {σ : St} {H : Hp} {s : Shared} {b : Addr} {k : List Key} (I : Inv X pins σ H s) (e : H b = some (.tup (k.map kV))) : TupK X.prog X.w s.heap k b := key_of I.hok e
/-- s.add(t) -/
def rSAddT (P : Program) (w : World) : V → List V → Hp → VK → Prop := fun x xs H Q => ∃ (a b : Addr) (k : List Key) (L : List (Addr × List Key)), x = V.ref a ∧ xs = [.ref b] ∧ H b = some (.tup (k.map kV)) ∧ H a = some (TsO P w a L) ∧ TupsIn H L ∧ L.length + 1 < 64 ∧
  (k ∈ L.map (·.2) → Q .non (upd H a (TsO P w a L))) ∧ (k ∉ L.map (·.2) → ∀ L', L'.Perm ((b, k) :: L) → Q .non (upd H a (TsO P w a L')))
theorem mt_saddT (hu : X.A.units + 1 < cLine) : MtR X "set.add" (rSAddT X.prog X.w) := by
  intro pins s σ H x xs v us Q I rx rxs h
  obtain ⟨a, b, k, L, rfl, rfl, hb, ha, hL, room, q1, q2⟩ := h
  cases rx
  obtain ⟨u, rfl, ru⟩ := rxs.one
  cases ru
  obtain ⟨es, ep, t, R⟩ := tsO_get I ha
  have T := tupK_of I hb
  refine wpAny_call_entry F.slot_set_add (setTK_type R) F.entry_set_add ?_ (F.args_set_add_2 _ _)
  simp only [Builtin.«set.add», Builtin.Frozenset.oneOther, Builtin.Frozenset.addrOf, setAdd, List.isEmpty_nil, bind_assoc]
  refine wpAny_bind (wpAny_pure (wpAny_bind (wpAny_pure (wpAny_bind (wpAny_holding (wpAny_bind (wpAny_pyHash_tuple (A := X.A.in1) hu T ?_)))))))
  refine add_key (s := { s with toks := s.toks + (k.length + 1) }) R (fun p hp => tupK_of (s := s) I (hL p hp)) T (by exact hu) room fun c h' L' es' ep' t' sb R' y n => ?_
  show wpAny _ _ (ret Value.none) _ _ _
  refine wpAny_pure ⟨_, rfl, ?_⟩
  have he : ∃ u, h'.get? a = some u := by
    have ⟨o, go, _⟩ := R'.ob
    exact ⟨o, go⟩
  refine ⟨.non, upd H a (TsO X.prog X.w a L'), I.write (e := a) (t' := s.toks + (k.length + 1)) (by rw [ha]; trivial) (.inl rfl) (fun b u hb hu => (sb.2 b hb).trans hu) he (tsO_new R'), rfl, ?_⟩
  by_cases m : k ∈ L.map (·.2)
  · rw [y m]; exact q1 m
  · exact q2 m L' (n m)
def tSAddT (P : Program) (w : World) (to : TE) (t : TA) : TE := fun σ H Q => to σ H fun x H1 => (∃ a L, x = V.ref a ∧ H1 a = some (TsO P w a L)) ∧ t σ H1 fun xs H2 => rSAddT P w x xs H2 Q
theorem pe_saddT {o e : Expr} {es : List Expr} {to : TE} {t : TA} {apos cpos : Pos} (hu : X.A.units + 1 < cLine) (ho : PE X o to) (ha : PA X (e :: es) t)
    (h1 : attributeBase o "add" X.env (eval o X.env) = eval o X.env := by rfl)
    (h2 : ((backTo cpos (starEach (e :: es) X.env)).all (fun x => !x.1) && (backToKw cpos (keywordEach [] X.env)).all (fun x => x.1.isSome) && decide ((e :: es).length + ([] : List Keyword).length + (if ([] : List Keyword).isEmpty then 0 else 1) < 30)) = true := by rfl)
    (h3 : (apos.endLine == cpos.line) = true := by rfl) (h4 : starEach (e :: es) X.env = (false, eval e X.env) :: starEach es X.env := by rfl) (h5 : (backTo cpos (starEach es X.env)).any (·.1) = false := by rfl) :
    PE X (.Call (.Attribute o "add" apos) (e :: es) [] cpos) (tSAddT X.prog X.w to t) := by
  refine ⟨fun pins s σ H Q I h => ?_⟩
  refine wpAny_Call_method_late h1 h2 h3 rfl (thn (ho.run pins s σ H _ I h) fun v s1 ⟨x, H1, I1, r1, ty, q1⟩ => ?_)
  obtain ⟨a, L, rfl, hka⟩ := ty
  obtain ⟨ee, ep, tt, R⟩ := tsO_get I1 hka
  cases r1
  refine ⟨"set", "set.add", F.plainAttrs_set, F.slot_set_add, F.type_set_add, setTK_type R, (fun b e => ?_), ?_⟩
  · injection e with e
    subst e
    have ⟨o, go, gx, _⟩ := R.ob
    exact ⟨o, go, gx.2.1⟩
  have hA := ha.run cpos pins s1 σ H1 _ I1 q1
  rw [h4] at hA ⊢
  refine Calls.callWith_builtin (by show (false || (backTo cpos (starEach es X.env)).any (·.1)) = false; rw [h5] <;> rfl) (Calls.evalArgs_plain ?_)
  exact thn hA fun us s2 ⟨vs, H2, I2, r2, q2⟩ => mt_saddT hu pins s2 σ H2 (.ref a) vs (.ref a) us Q I2 rfl r2 q2
/-- t in s -/
def rSInT (P : Program) (w : World) : V → V → Hp → VK → Prop := fun x y H Q => ∃ (a b : Addr) (k : List Key) (L : List (Addr × List Key)), x = .ref b ∧ y = .ref a ∧ H b = some (.tup (k.map kV)) ∧ H a = some (TsO P w a L) ∧ TupsIn H L ∧ Q (.bl (hasK L k)) H
theorem find_key {A : Around} {E : Value → Shared → Prop} {s : Shared} {a : Addr} {L : List (Addr × List Key)} {es : Array (Int × Value)} {ep : Nat} {t : SetTable} (R : SetTK P w s.heap a L es ep t) (TT : ∀ p ∈ L, TupK P w s.heap p.2 p.1) {x : Addr} {k : List Key} (hx : TupK P w s.heap k x) (hu : A.units < cLine) {Q : Option Nat → Shared → Prop}
    (q : ∀ r : Option Nat, r.isSome = hasK L k → Q r s) : wpAny (model P w) A (setFind a (.ref x) (kh P w k)) Q E s := by
  obtain ⟨o, go, gx, gd⟩ := R.ob
  unfold setFind setFindIn
  refine wpAny_bind (wpAny_setState_of go gd R.fit ?_)
  dsimp only
  refine wp_if_neg (by simp [byScan, Value.scannable]) ?_
  first
    | refine wpAny_bind (wpAny_pure ?_)
    | skip
  refine wpAny_bind (look_at (ad := false) R TT hx hu (fun r hr m => ?_) fun K m _ _ => ?_)
  · exact wpAny_pure (q r (by rw [hr rfl, hasK_iff.mpr m]))
  · exact wpAny_pure (q none (by rw [hasK_no m] <;> rfl))
/-- x in s, s a set: the set's own __contains__ is asked -/
theorem set_asked {A : Around} {E : Value → Shared → Prop} {s : Shared} {a b : Addr} {Q : Bool → Shared → Prop} (ty : s.TypeIs (.ref a) "set") (h : ∀ X, wpAny (model P w) A.in1 (setContains a (.ref b)) Q X s) : wpAny (model P w) A (contains (.ref a) (.ref b)) Q E s := by
  have own : ¬ (some (Value.builtin "set.__contains__") == some Value.none) = true := by rw [beq_builtin_none]; exact Bool.false_ne_true
  refine wpAny_holding ?_
  refine wpAny_bind (wpAny_specialOf ty F.slot_set_contains.lookup ?_)
  refine wp_if_neg own (wpAny_bind (wpAny_callSpecialUnlessNone?_slot (name := Str.ofString "__contains__") ty F.slot_set_contains (wpAny_call_entry F.slot_set_contains ty entry_set_contains ?_ (F.args_set_contains_2 _ _))))
  simp only [Builtin.«frozenset.__contains__», Builtin.Frozenset.oneOther, Builtin.Frozenset.addrOf, Builtin.Frozenset.withSetAsKey, List.isEmpty_nil, bind_assoc]
  exact wpAny_bind (wpAny_pure (wpAny_bind (wpAny_pure (wpAny_bind (wpAny_tryCatch (wpAny_mono (h _) (fun r z q => wpAny_pure ⟨_, rfl, wpAny_truthy_bool q⟩) fun _ _ q => q))))))
theorem or_sinT (hu : X.A.units + 1 < cLine) : OpR X (compareOp .In) (rSInT X.prog X.w) := by
  intro pins s σ H x y v u Q I rx ry h
  obtain ⟨a, b, k, L, rfl, rfl, hb, ha, hL, q⟩ := h
  cases rx
  cases ry
  obtain ⟨es, ep, t, R⟩ := tsO_get I ha
  have T := tupK_of I hb
  have ty := setTK_type R
  refine wpAny_bind (set_asked ty fun _ => wpAny_holding (wpAny_bind (wpAny_pyHash_tuple (A := X.A.in1) hu T ?_)))
  refine wpAny_bind (find_key (s := { s with toks := s.toks + (k.length + 1) }) R (fun p hp => tupK_of (s := s) I (hL p hp)) T (by exact hu) fun r hr => ?_)
  exact wpAny_pure (wpAny_pure ⟨.bl (hasK L k), H, I.tok _, by rw [hr]; rfl, q⟩)
/-- len(s), a set of ints and texts -/
def rLenSK (P : Program) (w : World) : List V → Hp → VK → Prop := fun xs H Q => ∃ (a : Addr) (S : Key → Bool) (n : Nat), xs = [.ref a] ∧ H a = some (SetK P w a S n) ∧ Q (.int n) H
theorem call_lenSK : CallR X (.builtin "len") (rLenSK X.prog X.w) := by
  intro pins s σ H xs us Q I r h
  obtain ⟨a, S, n, rfl, ha, q⟩ := h
  rw [Vals.ref1 r]
  obtain ⟨o, es, ep, t, ho, hex, hd, _, _, hb, hf, hn⟩ := setK_get I ha
  have hb' : es.size < 4096 := hb
  refine call_len_set ho hex hd hf (by omega) ⟨.int n, H, I.tok _, ⟨_, by rw [hn]⟩, q⟩
end
end L2

/-! set(l) of a list: the shell, and the loop that puts the items in -/
namespace L2
open PySem PySem.Froz PyProof.Rows PySem.Spec
section
variable {P : Program} {w : World} {A : Around} {E : Value → Shared → Prop} {s : Shared}
/-- the set that set() begins with -/
def bareSet (w : World) : Obj := { cls := .type "set", dict := none, data := .set #[] 0 (.fresh 0 0 (!w.params.followText "set-order")) }
/-- set(l): what the loop that puts the items in makes of the bare set is the set -/
theorem set_made {l : Addr} {xs : Array Value} {Q : Value → Shared → Prop} (Gd : Heap → Prop) (hl : s.heap.IsList l xs) (hh : A.handled = none)
    (loop : ∀ B : Around, B.handled = none → codeAny (model P w) B (.builtin "set.update.loop" ⟨[.ref s.heap.objs.size, .ref (s.heap.objs.size + 1)], []⟩)
      (fun r z => r = .ok (.ret .none) ∧ ∃ h' tk, z = { s with heap := h', toks := tk } ∧ Gd h' ∧ ∀ b o, s.heap.get? b = some o → h'.get? b = some o)
      { s with heap := (s.heap.push (bareSet w)).push { cls := .type "list_iterator", data := .fields #[.ref l, .int 0 0] } })
    (q : ∀ h' tk, Gd h' → (∀ b o, s.heap.get? b = some o → h'.get? b = some o) → Q (.ref s.heap.objs.size) { s with heap := h', toks := tk }) : wpAny (model P w) A (call (.type "set") [.ref l]) Q E s := by
  obtain ⟨c, tl, hmro⟩ := F.called_set.mro
  have f1 := F.called_set.made
  have f2 := F.called_set.sub
  have f3 := F.called_set.notType
  have f4 := F.called_set.canCreate
  have f5 := F.typeCall_set_1 (.ref l)
  refine wpAny_call (codeAny_of_tree (?_ : wpAny _ _ (callAny (.type "set") _) _ _ _))
  refine wpAny_pure ⟨Code.quiet_builtin _ (by decide +kernel), codeAny_builtin F.entry_type_call ?_⟩
  rw [Around.under_plain (weight_type_call_type "set" [.ref l] []) rfl]
  repeat (any_goals (first | assumption | wp_step))
  refine codeAny_mono (code_set_led1 (.ref l) (E := E) (Q₁ := fun v z => v = .ref s.heap.objs.size ∧ z = { s with heap := s.heap.push (bareSet w) }) ⟨rfl, rfl⟩) fun r z hr => ?_
  match r, hr with
  | .error e, hr => exact hr
  | .ok .next, hr => exact hr.elim
  | .ok .brk, hr => exact hr.elim
  | .ok .cont, hr => exact hr.elim
  | .ok (.ret v), hr =>
    obtain ⟨rfl, rfl⟩ := hr
    have own : (s.heap.push (bareSet w)).get? s.heap.objs.size = some (bareSet w) := Heap.get?_push_size _ rfl
    have ty : Shared.TypeIs { s with heap := s.heap.push (bareSet w) } (.ref s.heap.objs.size) "set" := ⟨_, own, rfl⟩
    have f6 := F.called_set.init.lookup
    have f7 := F.called_set.init.bind (.ref s.heap.objs.size)
    repeat (any_goals (first | assumption | wp_step))
    refine codeAny_mono (codeAny_call_builtin (R := wants (fun v z => v = .none ∧ ∃ h' tk, z = { s with heap := h', toks := tk } ∧ Gd h' ∧ ∀ b o, s.heap.get? b = some o → h'.get? b = some o) E) F.called_set.init.plain F.entry_set_init (check_set_init_1 ty ?init)) fun r2 z2 hr2 => ?_
    case init =>
      obtain ⟨⟨cl, dc, dt, sl⟩, g, gc, n, gd⟩ := hl
      simp only at gc gd
      subst gc gd
      have g1 : (s.heap.push (bareSet w)).get? l = some ⟨.type "list", dc, .seq xs n, sl⟩ := Heap.get?_push_of_some _ g
      have li : (s.heap.push (bareSet w)).IsList l xs := ⟨_, g1, rfl, n, rfl⟩
      have k1 := F.sub_list_set
      have k2 := F.sub_list_frozenset
      have k3 : (Value.type "list" == Value.type "dict") = false := by decide
      unfold Builtin.«set.__init__» noKeywords Builtin.Frozenset.updateFrom
      generalize hi : pyIter = PI
      wp_walk
      subst hi
      refine wpAny_pyIter_list li (wpAny_bind (wpAny_runValue ?_))
      have lo := loop A.in1.in1 (by simp [hh])
      rw [Heap.size_push]
      refine codeAny_mono lo fun r3 z3 h3 => ?_
      obtain ⟨rfl, h', tk, rfl, gd, keep⟩ := h3
      exact wpAny_pure (wpAny_pure ⟨rfl, h', tk, rfl, gd, keep⟩)
    match r2, hr2 with
    | .error e, hr2 => exact hr2
    | .ok .next, hr2 => exact hr2.elim
    | .ok .brk, hr2 => exact hr2.elim
    | .ok .cont, hr2 => exact hr2.elim
    | .ok (.ret v), hr2 =>
      obtain ⟨rfl, h', tk, rfl, gd, keep⟩ := hr2
      repeat (any_goals (first | assumption | wp_step))
      exact q h' tk gd keep
/-- the loop over a list: J tells what the set at S is behind i items -/
theorem fill_list {S I l : Addr} {items : Array Value} (J : Nat → Heap → Prop) (calm : A.handled = none) (apart : S ≠ I ∧ S ≠ l ∧ l ≠ I) (stay : ∀ i h h', (∀ o, h.get? S = some o → h'.get? S = some o) → J i h → J i h')
    (add : ∀ i x (z : Shared) (Q : Bool → Shared → Prop) (X : Value → Shared → Prop), items[i]? = some x → J i z.heap → (∀ b h', Heap.SameBut S z.heap h' → J (i + 1) h' → Q b { z with heap := h', toks := z.toks + 1 }) → wpAny (model P w) A.in1 (setAdd S x) Q X z) :
    ∀ (n i : Nat) (z : Shared), n + i = items.size → z.heap.IsListIter I l i → z.heap.IsList l items → J i z.heap → codeAny (model P w) A (.builtin "set.update.loop" ⟨[.ref S, .ref I], []⟩)
      (fun r y => r = .ok (.ret .none) ∧ ∃ h' tk, y = { z with heap := h', toks := tk } ∧ J items.size h' ∧ ∀ b o, b ≠ S → b ≠ I → z.heap.get? b = some o → h'.get? b = some o) z := by
  intro n
  induction n with
  | zero =>
    intro i z en it li j
    obtain rfl : i = items.size := by omega
    exact codeAny_builtin F.entry_set_update_loop ((Around.under_plainId F.plain_set_update_loop _).symm ▸ wpAny_bind (wpAny_pyNext_list_end calm it li (Array.getElem?_eq_none (Nat.le_refl _)) fun h' ext => wpAny_pure ⟨rfl, h', z.toks, rfl, stay _ _ _ (fun o e => ext S o apart.1 e) j, fun b o _ bI e => ext b o bI e⟩))
  | succ n more =>
    intro i z en it li j
    have lt : i < items.size := by omega
    refine codeAny_builtin F.entry_set_update_loop ((Around.under_plainId F.plain_set_update_loop _).symm ▸ wpAny_bind (wpAny_pyNext_list_item it li (Array.getElem?_eq_getElem lt) fun h1 it1 sb1 => ?_))
    refine wpAny_bind (wpAny_holding (add i _ { z with heap := h1 } _ _ (Array.getElem?_eq_getElem lt) (stay _ _ _ (fun o e => (sb1.2 S apart.1).trans e) j) fun b h2 sb2 j2 => wpAny_pure ⟨plainId_quiet F.plain_set_update_loop _, ?_⟩))
    have li1 : h1.IsList l items := li.at fun o e => (sb1.2 l apart.2.2).trans e
    refine codeAny_mono (more (i + 1) { z with heap := h2, toks := z.toks + 1 } (by omega) (it1.at fun o e => (sb2.2 I (Ne.symm apart.1)).trans e) (li1.at fun o e => (sb2.2 l (Ne.symm apart.2.1)).trans e) j2) ?_
    rintro r y ⟨rfl, h', tk, rfl, jn, far⟩
    exact ⟨rfl, h', tk, rfl, jn, fun b o bS bI e => far b o bS bI ((sb2.2 b bS).trans ((sb1.2 b bI).trans e))⟩
end
end L2

/-! sets of texts, made of a list; sorted of them -/
namespace L2
open PySem PySem.Spec PyProof.Rows PySem.Froz
/-- the payload of a set of the texts l -/
structure TxS (P : Program) (w : World) (D : SD) (l : List Str) : Prop where
  ok : TxOk P w D l
  one : l.Nodup
  ris : Ris D.2.2.place.toList
  led : w.params.followText "set-order" = true ∨ D.2.2.led = true
section
variable {P : Program} {w : World} {A : Around} {E : Value → Shared → Prop} {s : Shared}
theorem add_tab (D : SD) (h : Int) (v : Value) (r : Ris D.2.2.place.toList) : Ris (addTx h v D).2.2.place.toList ∧ (addTx h v D).2.2.led = D.2.2.led := by
  obtain ⟨es, ep, t⟩ := D
  have a1 := layNew_ris t es h v r
  have a2 := layNew_led t es h v
  unfold addTx
  dsimp only
  generalize layNew t es h v = L at a1 a2
  obtain ⟨es1, t1, wd, gv⟩ := L
  dsimp only at a1 a2 ⊢
  have b1 : Ris (if t1.plain = true then { t1 with plain := false } else t1).place.toList := by split <;> exact a1
  have b2 : (if t1.plain = true then { t1 with plain := false } else t1).led = t.led := by split <;> exact a2
  generalize (if t1.plain = true then { t1 with plain := false } else t1) = t2 at b1 b2
  unfold tailTx
  split
  · exact ⟨relayAll_ris _ _ _, (relayAll_led _ _ _).trans b2⟩
  · exact ⟨b1, b2⟩
theorem TxS.more {D : SD} {l : List Str} (R : TxS P w D l) {k : Str} (u : Tok) (hk : k ∉ l) : TxS P w (addTx (hashStr w k) (.str k u) D) (k :: l) := by
  obtain ⟨a, b⟩ := add_tab D (hashStr w k) (.str k u) R.ris
  exact ⟨add_ok u R.ok, List.nodup_cons.mpr ⟨hk, R.one⟩, a, by rw [b]; exact R.led⟩
/-- adding a text that is there -/
theorem add_there {a : Addr} {D : SD} {l : List Str} {k : Str} {u : Tok} {Q : Bool → Shared → Prop} (ho : s.heap.get? a = some (sObj "set" D)) (F : TxOk P w D l) (hk : k ∈ l) (hb : l.length < scanBound) (q : Q false s) :
    wpAny (model P w) A (setAddHashed a (.str k u) (hashStr w k)) Q E s := by
  obtain ⟨es, ep, t⟩ := D
  have gd : (sObj "set" (es, ep, t)).data = .set es ep t := rfl
  have gf : t.fits es.size = true := F.fit
  have gel : ElemsOf (strKind P w) es.toList := F.el
  have gsz : es.size = l.length := F.sz
  have gk : (strKind P w).is k (.str k u) = true := is_str k u
  obtain ⟨j, hj⟩ : ∃ j, List.findIdx? (fun e => (strKind P w).is k e.2) es.toList = some j := by
    cases hr : List.findIdx? (fun e => (strKind P w).is k e.2) es.toList with
    | some j => exact ⟨j, rfl⟩
    | none =>
      obtain ⟨e, he, z⟩ := (F.mem k).mp hk
      have z' := List.findIdx?_eq_none_iff.mp hr e he
      rw [z] at z'
      exact nomatch z'
  unfold setAddHashed setAddHashedIn
  refine wpAny_holding (wpAny_bind (wpAny_setState_of ho gd gf ?_))
  dsimp only
  rw [byScan_of rfl (by omega) gel]
  simp only [↓reduceIte]
  unfold setAddByScan
  refine wpAny_bind (wpAny_bind (wpAny_rule ?_))
  refine wpAny_bind (wpAny_setScan_of (knd := strKind P w) (k := k) gk ho gd gf gel ?_)
  rw [hj]
  dsimp only
  exact wpAny_pure (wpAny_pure q)
/-- a text is put in, be it there or not -/
theorem add_text {S : Addr} {D : SD} {l : List Str} {x : Str} {u : Tok} {Q : Bool → Shared → Prop} (at_ : s.heap.get? S = some (sObj "set" D)) (T : TxS P w D l) (few : l.length + 1 < scanBound)
    (q : ∀ b h' D' l', Heap.SameBut S s.heap h' → h'.get? S = some (sObj "set" D') → TxS P w D' l' → l'.length ≤ l.length + 1 → (∀ z, z ∈ l' ↔ z = x ∨ z ∈ l) → Q b { s with heap := h', toks := s.toks + 1 }) :
    wpAny (model P w) A (setAdd S (.str x u)) Q E s := by
  refine wpAny_holding (wpAny_bind ((strKind P w).pyHash (is_str x u) ?_))
  by_cases there : x ∈ l
  · refine add_there (s := { s with toks := s.toks + 1 }) at_ T.ok there (by omega) (q _ s.heap D l (Heap.SameBut.refl S _) at_ T (by omega) fun z => ⟨.inr, ?_⟩)
    rintro (rfl | h)
    · exact there
    · exact h
  · exact add_x (s := { s with toks := s.toks + 1 }) at_ T.ok there few (q _ _ _ (x :: l) (Heap.SameBut.update ..) (get_upd _ at_ rfl) (T.more u there) (Nat.le_refl _) fun z => List.mem_cons)
/-- set(xs), xs a list of texts -/
theorem set_texts {l : Addr} {items : Array Value} (xs : List Str) {Q : Value → Shared → Prop} (hh : A.handled = none) (hl : s.heap.IsList l items) (hit : StrsAre items.toList xs) (few : xs.length < 64)
    (q : ∀ (h' : Heap) (tk : Nat) D ys, h'.get? s.heap.objs.size = some (sObj "set" D) → TxS P w D ys → ys.length ≤ xs.length → (∀ z, z ∈ ys ↔ z ∈ xs) → (∀ b o, s.heap.get? b = some o → h'.get? b = some o) → Q (.ref s.heap.objs.size) { s with heap := h', toks := tk }) :
    wpAny (model P w) A (call (.type "set") [.ref l]) Q E s := by
  have size : items.size = xs.length := by rw [← Array.length_toList]; exact hit.length
  have low : l < s.heap.objs.size := let ⟨_, g, _⟩ := hl; Heap.lt_size g
  have led : w.params.followText "set-order" = true ∨ (!w.params.followText "set-order") = true := by cases w.params.followText "set-order" <;> simp
  refine set_made (fun h' => ∃ D ys, h'.get? s.heap.objs.size = some (sObj "set" D) ∧ TxS P w D ys ∧ ys.length ≤ items.size ∧ ∀ z, z ∈ ys ↔ z ∈ xs.take items.size) hl hh (fun B hB => ?_) fun h' tk ⟨D, ys, g, T, le, mem⟩ keep => ?_
  · have top : ((s.heap.push (bareSet w)).push { cls := .type "list_iterator", data := .fields #[.ref l, .int 0 0] }).get? (s.heap.objs.size + 1) = some { cls := .type "list_iterator", data := .fields #[.ref l, .int 0 0] } := by
      rw [← Heap.size_push s.heap (bareSet w)]
      exact Heap.get?_push_size _ rfl
    refine codeAny_mono (fill_list (A := B) (fun i h => ∃ D ys, h.get? s.heap.objs.size = some (sObj "set" D) ∧ TxS P w D ys ∧ ys.length ≤ i ∧ ∀ z, z ∈ ys ↔ z ∈ xs.take i) hB ⟨Nat.ne_of_lt (Nat.lt_succ_self _), Nat.ne_of_gt low, Nat.ne_of_lt (Nat.lt_succ_of_lt low)⟩
      (fun i h h' k ⟨D, ys, g, r⟩ => ⟨D, ys, k _ g, r⟩) (fun i x z Q' X hx ⟨D, ys, g, T, le, mem⟩ k => ?_) items.size 0 _ rfl ⟨_, top, rfl, rfl⟩ ((hl.push _).push _) ?_) ?_
    · have lt : i < xs.length := by rw [← size]; exact (Array.getElem?_eq_some_iff.mp hx).1
      obtain ⟨t, e⟩ := SS.strs_at hit i x (by rw [Array.getElem?_toList]; exact hx)
      have e' : x = .str xs[i] t := by rw [e, List.getD_eq_getElem?_getD, List.getElem?_eq_getElem lt] <;> rfl
      rw [e']
      refine add_text g T (by unfold scanBound; omega) fun b h' D' l' sb g' T' le' mem' => k b h' sb ⟨D', l', g', T', by omega, fun z => ?_⟩
      rw [mem', mem, take_next (List.getElem?_eq_getElem lt), List.mem_append, List.mem_singleton, or_comm]
    · exact ⟨(#[], 0, .fresh 0 0 (!w.params.followText "set-order")), [], Heap.get?_push_of_some _ (Heap.get?_push_size _ rfl), ⟨TxOk.nil rfl, .nil, .nil, led⟩, Nat.le_refl _, fun z => by rw [List.take_zero]⟩
    · rintro r y ⟨rfl, h', tk, rfl, J, far⟩
      exact ⟨rfl, h', tk, rfl, J, fun b o e => far b o (Nat.ne_of_lt (Heap.lt_size e)) (Nat.ne_of_lt (Nat.lt_succ_of_lt (Heap.lt_size e))) (Heap.get?_push_of_some _ (Heap.get?_push_of_some _ e))⟩
  · refine q h' tk D ys g T (by rw [← size]; exact le) (fun z => ?_) keep
    rw [mem, size, List.take_length]
end
end L2

namespace L2
open PySem PySem.Spec PyProof.Rows PySem.Froz
/-- a set of the texts l -/
def TxO (P : Program) (w : World) (a : Addr) (l : List Str) : HO := .ext fun h => ∃ D, h.get? a = some (sObj "set" D) ∧ TxS P w D l
section
variable {X : Cx} {P : Program} {w : World} {A : Around} {E : Value → Shared → Prop} {s : Shared}
theorem txO_new {H : Hp} {h : Heap} {a : Addr} {l : List Str} {D : SD} (g : h.get? a = some (sObj "set" D)) (T : TxS P w D l) : ObjOk P w H h a (TxO P w a l) :=
  ⟨⟨D, g, T⟩, ⟨_, g⟩, fun h1 h2 ⟨D', g', T'⟩ k => ⟨D', k _ g', T'⟩⟩
/-- set(xs), xs a list of texts -/
def rSetTx (K : PySem.W.Frag) (P : Program) (w : World) : List V → Hp → VK → Prop := fun vs H Q => ∃ (p : Addr) (xs : List Str), vs = [.ref p] ∧ SqL K H p (xs.map V.str) ∧ xs.length < 64 ∧
  ∀ (a : Addr) (l : List Str), l.Nodup → (∀ z, z ∈ l ↔ z ∈ xs) → l.length ≤ xs.length → H a = none → Q (.ref a) (upd H a (TxO P w a l))
theorem cr_setTx (hc : X.calm = true) : CallR X (.type "set") (rSetTx X.K X.prog X.w) := by
  intro pins s σ H vs us Q I r h
  obtain ⟨p, xs, rfl, hs, few, q⟩ := h
  obtain ⟨its, rv, hl, _⟩ := I.list hs
  rw [Vals.ref1 r]
  refine set_texts xs (I.ok.hd hc) hl.isList (by simpa using rv.strs) few fun h' tk D ys g T hlen hm keep => ?_
  exact ⟨.ref _, upd H s.heap.objs.size (TxO X.prog X.w s.heap.objs.size ys), I.laid (t' := tk) (fun b u e => keep b u e) (Nat.le_refl _) (txO_new g T), rfl, q _ ys T.one hm hlen (I.hok.fresh (Nat.le_refl _))⟩
theorem texts_of {D : SD} {l : List Str} (T : TxOk P w D l) : ∃ ss, StrsAre (D.1.toList.map (·.2)) ss ∧ (∀ z, z ∈ ss ↔ z ∈ l) ∧ ss.length = l.length := by
  have key : ∀ es : List (Int × Value), ElemsOf (strKind P w) es → ∃ ss, StrsAre (es.map (·.2)) ss ∧ (∀ z, z ∈ ss ↔ ∃ e ∈ es, (strKind P w).is z e.2 = true) ∧ ss.length = es.length := by
    intro es
    induction es with
    | nil => exact fun _ => ⟨[], .nil, fun z => by simp, rfl⟩
    | cons e es more =>
      intro h
      obtain ⟨ss, h1, h2, h3⟩ := more h.tail
      obtain ⟨⟨k, hk, _⟩, _⟩ := h.head
      obtain ⟨t, et⟩ := Value.isStrOf_shape (x := k) (v := e.2) hk
      refine ⟨k :: ss, by rw [List.map_cons, et]; exact .cons k t h1, fun z => ?_, by rw [List.length_cons, List.length_cons, h3]⟩
      rw [List.mem_cons, h2 z]
      constructor
      · rintro (rfl | ⟨f, hf, q⟩)
        · exact ⟨e, List.mem_cons_self, hk⟩
        · exact ⟨f, .tail _ hf, q⟩
      · rintro ⟨f, hf, q⟩
        rcases List.mem_cons.mp hf with rfl | hf
        · exact .inl ((strKind P w).inj f.2 z k q hk)
        · exact .inr ⟨f, hf, q⟩
  obtain ⟨ss, h1, h2, h3⟩ := key D.1.toList T.el
  exact ⟨ss, h1, fun z => (h2 z).trans (T.mem z).symm, by rw [h3, Array.length_toList, T.sz]⟩
/-- as many different ones as there are: one order of the others -/
theorem perm_of_len {α : Type} [DecidableEq α] : ∀ {l m : List α}, l.Nodup → (∀ z, z ∈ l → z ∈ m) → m.length ≤ l.length → m.Perm l
  | [], [], _, _, _ => .nil
  | [], _ :: _, _, _, h => absurd h (by simp)
  | x :: l, m, hn, hs, hle => by
    have hx := hs x List.mem_cons_self
    obtain ⟨n1, n2⟩ := List.nodup_cons.mp hn
    have hm := List.perm_cons_erase hx
    have hlen := hm.length_eq
    rw [List.length_cons] at hlen hle
    refine hm.trans (.cons x (perm_of_len n2 (fun z hz => ?_) (by omega)))
    have hne : z ≠ x := fun e => n1 (e ▸ hz)
    exact (List.mem_erase_of_ne hne).mpr (hs z (.tail _ hz))
/-- sorted(s), s a set of texts -/
def rSortTx (P : Program) (w : World) : List V → Hp → VK → Prop := fun vs H Q => ∃ (a : Addr) (l : List Str), vs = [.ref a] ∧ H a = some (TxO P w a l) ∧ l.length < 64 ∧
  ∀ (ys : List Str) (p : Addr), ys.Perm l → sortedS ys = true → H p = none → Q (.ref p) (upd H p (.lst (ys.map V.str)))
theorem cr_sortTx (hc : X.calm = true) : CallR X (.builtin "sorted") (rSortTx X.prog X.w) := by
  intro pins s σ H vs us Q I r h
  obtain ⟨a, l, rfl, ha, few, q⟩ := h
  obtain ⟨D, g, T⟩ : ∃ D, s.heap.get? a = some (sObj "set" D) ∧ TxS X.prog X.w D l := (I.hok a _ ha).1
  rw [Vals.ref1 r]
  obtain ⟨es, ep, t⟩ := D
  have sz : es.size = l.length := T.ok.sz
  obtain ⟨ss, s1, s2, s3⟩ := texts_of T.ok
  refine Calls.call_function_entry kind_sorted plain_sorted entry_sorted (args_sorted1 _) ?_
  unfold Builtin.«sorted»
  refine wpAny_bind (m := checkCount "sorted" 1 1 _) (wpAny_pure ?_)
  refine wpAny_bind (collect_set (A := X.A.in1) (I.ok.hd hc) ⟨_, g, rfl, rfl⟩ T.ok.fit (by show es.size < 4096; omega) T.ris T.led fun z vs keep hz g1 o1 pm => ?_)
  have vlen : vs.length = l.length := by rw [pm.length_eq, List.length_map, Array.length_toList, sz]
  obtain ⟨ss', p1, p2⟩ : ∃ ss', StrsAre vs ss' ∧ ss'.Perm ss := by
    refine ⟨vs.map strOf, strsAre_map vs fun v hv => s1.all _ (pm.mem_iff.mp hv), ?_⟩
    have e := pm.map strOf
    rwa [s1.strs] at e
  have pl : ss.Perm l := perm_of_len T.one (fun z hz => (s2 z).mpr hz) (Nat.le_of_eq s3)
  refine wpAny_bind (wpAny_newList ?_ (by rw [vlen, sizeLine_eq]; omega))
  have hoL : (z.heap.push (seqObj "list" vs.toArray 0)).get? z.heap.objs.size = some (seqObj "list" vs.toArray 0) := Heap.get?_push_size _ rfl
  refine wpAny_bind (wpAny_holding (wpAny_call_entry slot_list_sort ⟨_, hoL, rfl⟩ entry_list_sort (list_sort_treeKAny strKind_oneLt hoL p1.keysOf (fun v₁ v₂ rest e => keyKind_strs (by rw [← e]; exact p1)) (by rw [vlen, sizeLine_eq]; omega) fun st' a1 a2 => ⟨_, rfl, ?_⟩) (args_list_sort _)))
  obtain ⟨ys, b1, b2, b3⟩ := sorted_out_str p1 a1 a2
  obtain ⟨c, hcn⟩ := sortedHeap_at (vs := vs) (out := (arrOf st').map (·.2)) hoL
  refine wpAny_pure ⟨_, rfl, ?_⟩
  generalize (arrOf st').map (·.2) = out at b1 hcn ⊢
  have perm : ys.Perm l := b2.trans (p2.trans pl)
  have hlen : (ys.map V.str).length ≤ sizeLine := by rw [List.length_map, perm.length_eq, sizeLine_eq]; omega
  have hn : H z.heap.objs.size = none := I.hok.fresh hz
  have keep2 : ∀ b u, s.heap.get? b = some u → (sortedHeap (z.heap.push (seqObj "list" vs.toArray 0)) z.heap.objs.size vs out).get? b = some u := fun b u e => by
    have k := keep b u e
    have hlt := Heap.lt_size k
    rw [sortedHeap_old (Nat.ne_of_lt hlt) (by rw [size_push']; exact Nat.lt_succ_of_lt hlt)]
    exact Heap.get?_push_of_some _ k
  obtain ⟨zh, zg, zd, zt, zo⟩ := z
  dsimp only at *
  subst g1 o1
  refine ⟨.ref zh.objs.size, upd H zh.objs.size (.lst (ys.map V.str)), ?_, rfl, q ys _ perm b3 hn⟩
  exact I.call (ch := []) (d' := zd) (t' := zt) (Un.laid keep2 hz hn) (I.hok.laid (o := .lst (ys.map V.str)) keep2 hz ⟨hlen, out.toList, c, vals_of_strs b1, hcn⟩) I.bare (fun _ z => nomatch z)
end
end L2

/-! sorted(xs), xs a list of pairs of a text and an int -/
namespace L2
open PySem PySem.Spec PyProof.Rows
def txLt (x y : Str) : Bool := decide (x.cps.toList < y.cps.toList)
theorem tx_irr (x : Str) : txLt x x = false := PyProof.Rows.strKind.irrefl x.cps.toList
theorem tx_tr {x y z : Str} (h1 : txLt x y = true) (h2 : txLt y z = true) : txLt x z = true := PyProof.Rows.strKind.trans x.cps.toList y.cps.toList z.cps.toList h1 h2
theorem str_ext {x y : Str} (h : x.cps.toList = y.cps.toList) : x = y := by
  cases x; cases y
  congr 1
  exact Array.toList_inj.mp h
theorem tx_tot {x y : Str} (h1 : txLt x y = false) (h2 : txLt y x = false) : x = y := str_ext (PyProof.Rows.strKind.total x.cps.toList y.cps.toList h1 h2)
theorem tx_as {x y : Str} (h : txLt x y = true) : txLt y x = false := by
  cases e : txLt y x
  · rfl
  · have z := tx_tr h e
    rw [tx_irr] at z
    exact nomatch z
/-- x before y: by the text, then by the number -/
def pLt (p q : Str × Int) : Bool := if p.1 = q.1 then decide (p.2 < q.2) else txLt p.1 q.1
theorem pLt_iff {p q : Str × Int} : pLt p q = true ↔ txLt p.1 q.1 = true ∨ (p.1 = q.1 ∧ p.2 < q.2) := by
  unfold pLt
  by_cases e : p.1 = q.1
  · rw [if_pos e, decide_eq_true_eq, e, tx_irr]
    simp
  · rw [if_neg e]
    simp [e]
theorem pLt_as {p q : Str × Int} (h : pLt p q = true) : pLt q p = false := by
  cases e : pLt q p
  · rfl
  · rcases pLt_iff.mp h with a | ⟨a, b⟩ <;> rcases pLt_iff.mp e with c | ⟨c, d⟩
    · rw [tx_as a] at c; exact nomatch c
    · rw [c, tx_irr] at a; exact nomatch a
    · rw [a, tx_irr] at c; exact nomatch c
    · omega
theorem pLt_no {p q : Str × Int} (h : pLt p q = false) : txLt q.1 p.1 = true ∨ (q.1 = p.1 ∧ q.2 ≤ p.2) := by
  unfold pLt at h
  by_cases e : p.1 = q.1
  · rw [if_pos e] at h
    exact .inr ⟨e.symm, Int.not_lt.mp (of_decide_eq_false h)⟩
  · rw [if_neg e] at h
    cases c : txLt q.1 p.1
    · exact absurd (tx_tot h c) e
    · exact .inl rfl
theorem pLt_ge {p q : Str × Int} (h : txLt q.1 p.1 = true ∨ (q.1 = p.1 ∧ q.2 ≤ p.2)) : pLt p q = false := by
  cases e : pLt p q
  · rfl
  · rcases pLt_iff.mp e with a | ⟨a, b⟩ <;> rcases h with c | ⟨c, d⟩
    · rw [tx_as a] at c; exact nomatch c
    · rw [c, tx_irr] at a; exact nomatch a
    · rw [a, tx_irr] at c; exact nomatch c
    · omega
theorem pLt_swo {α : Type} (k : α → Str × Int) : SrtO.Swo fun x y => pLt (k x) (k y) := by
  refine ⟨fun x y h => pLt_as h, fun x y z h1 h2 => pLt_ge ?_⟩
  rcases pLt_no h1 with a | ⟨a, b⟩ <;> rcases pLt_no h2 with c | ⟨c, d⟩
  · exact .inl (tx_tr a c)
  · exact .inl (by rw [← c]; exact a)
  · exact .inl (by rw [a]; exact c)
  · exact .inr ⟨a.trans c, Int.le_trans b d⟩
def PairTI (h : Heap) (v : Value) (x : Str) (y : Int) : Prop := ∃ a o t u n, v = .ref a ∧ h.get? a = some o ∧ o.cls = .type "tuple" ∧ o.data = .seq #[.str x t, .int y u] n
section
variable {prog : Program} {w : World} {A : Around} {E : Value → Shared → Prop} {s : Shared}
theorem pairTI_firsts {h : Heap} : ∀ {vs : List Value}, (∀ v ∈ vs, ∃ x y, PairTI h v x y) → ∃ fs : List Value, PySem.W.KatTups h vs fs ∧ fs.length = vs.length ∧ ∀ f ∈ fs, ∃ x t, f = Value.str x t
  | [], _ => ⟨[], .nil, rfl, fun _ hm => nomatch hm⟩
  | v :: vs, hp => by
    obtain ⟨fs, h1, h2, h3⟩ := pairTI_firsts (vs := vs) fun v' hm => hp v' (.tail _ hm)
    obtain ⟨x, y, a, o, t, u, n, e, ho, hc, hd⟩ := hp v List.mem_cons_self
    subst e
    exact ⟨.str x t :: fs, PySem.W.KatTups.cons ho hc hd rfl h1, congrArg (· + 1) h2, fun f hm => (List.mem_cons.mp hm).elim (fun z => ⟨x, t, z⟩) (h3 f)⟩
theorem pairTI_cmp {vs : List Value} {k : Value → Str × Int} (hp : ∀ v ∈ vs, PairTI s.heap v (k v).1 (k v).2) : SrtO.Cmp prog w A s (tuples' true) (fun p => p.1 ∈ vs) (SrtO.lt2 fun v u => pLt (k v) (k u)) := by
  rintro ⟨v, v0⟩ ⟨v', v0'⟩ m m'
  have goal : ∀ (P1 P2 : Str × Int), PairTI s.heap v P1.1 P1.2 → PairTI s.heap v' P2.1 P2.2 → wpAny (model prog w) A (keyLt' (tuples' true) v v') (fun r s' => s' = s ∧ r = pLt P1 P2) (fun _ _ => False) s := by
    rintro ⟨x, y⟩ ⟨x', y'⟩ ⟨a, o, t, u, n, rfl, ho, -, hd⟩ ⟨a', o', t', u', n', rfl, ho', -, hd'⟩
    refine PySem.W.kat_lt ho hd ho' hd' (PySem.W.kat_cons (SeqAt.EqAt.str_str x t x' t' prog w _ _ (PySem.W.kat_go (fun same => ?_) fun less => ?_)))
    · obtain rfl : x = x' := by simpa using same
      refine PySem.W.kat_yes (PySem.W.kat_cons (SeqAt.EqAt.int_int y u y' u' prog w _ _ (PySem.W.kat_go (fun same2 => ?_) fun _ => PySem.W.kat_no (PySem.W.kat_one _ _ (PyProof.Rows.lt_int ⟨rfl, (if_pos rfl).symm⟩)))))
      obtain rfl : y = y' := by simpa using same2
      refine PySem.W.kat_yes (PySem.W.kat_nil ⟨rfl, ?_⟩)
      rw [pLt, if_pos rfl, decide_eq_false (Int.lt_irrefl y)]
      rfl
    · have diff : ¬ x = x' := by simpa using less
      exact PySem.W.kat_no (PyProof.Rows.strKind_oneLt _ _ _ _ _ _ _ x.cps.toList x'.cps.toList rfl rfl ⟨rfl, (if_neg diff).symm⟩)
  exact goal (k v) (k v') (hp v m) (hp v' m')
theorem pairTI_sortable {a : Addr} {vs : List Value} {k : Value → Str × Int} (h0 : 0 < vs.length) (hp : ∀ v ∈ vs, PairTI s.heap v (k v).1 (k v).2) (ha : ∀ o, s.heap.get? a = some o → o.cls ≠ .type "tuple") : SrtO.SortableO prog w A s a vs fun v u => pLt (k v) (k u) := by
  intro h' keep
  have hp' : ∀ v ∈ vs, PairTI h' v (k v).1 (k v).2 := fun v hm => by
    obtain ⟨b, o, t, u, n, e, ho, hc, hd⟩ := hp v hm
    exact ⟨b, o, t, u, n, e, keep b o (fun z => by subst z; exact ha o ho hc) ho, hc, hd⟩
  obtain ⟨fs, h1, h2, h3⟩ := pairTI_firsts fun v hm => ⟨_, _, hp' v hm⟩
  refine ⟨tuples' true, fun Q E hq => ?_, pairTI_cmp hp'⟩
  refine PySem.W.kat_kind (T := .type "str") h1 (by omega) (fun f hm => ?_) (by rfl) ?_
  · obtain ⟨x, t, rfl⟩ := h3 f hm
    exact PySem.W.Looks.now
  · rw [show (Value.type "str" != Value.type "tuple") = true by first | decide +kernel | rfl | decide]
    exact hq
end
def rSortTI (K : PySem.W.Frag) : List V → Hp → VK → Prop := fun vs H Q => ∃ (a : Addr) (xs : List V) (k : V → Str × Int), vs = [V.ref a] ∧ SqL K H a xs ∧ (∀ x ∈ xs, ∃ t, x = V.ref t ∧ H t = some (.tup [.str (k x).1, .int (k x).2])) ∧
  ∀ ys p, ys.Pairwise (fun x y => pLt (k y) (k x) = false) → ys.Perm xs → H p = none → Q (.ref p) (upd H p (.lst ys))
section
variable {X : Cx}
theorem cr_sortTI : CallR X (.builtin "sorted") (rSortTI X.K) := by
  intro pins s σ H vs us Q I r h
  obtain ⟨a, xs, k, rfl, hs, hx, q⟩ := h
  obtain ⟨its, rv, hl, hz⟩ := I.list hs
  rw [Vals.ref1 r]
  obtain ⟨e1, e2⟩ := refs_back rv fun x m => by
    obtain ⟨t, e, _⟩ := hx x m
    exact ⟨t, e⟩
  have hp : ∀ v ∈ its, PairTI s.heap v (k (backV v)).1 (k (backV v)).2 := fun v hv => by
    obtain ⟨t, rfl⟩ := e2 v hv
    obtain ⟨t', e, ht⟩ := hx (.ref t) (by rw [e1]; exact List.mem_map.mpr ⟨_, hv, rfl⟩)
    cases e
    obtain ⟨_, its2, r2, o, ho, hc, n, hd⟩ := I.hok _ _ ht
    obtain ⟨u1, u2, rfl, ri, rj⟩ := vals2 r2
    obtain ⟨t1, rfl⟩ := ri
    obtain ⟨t2, rfl⟩ := rj
    exact ⟨t, o, t1, t2, n, rfl, ho, hc, hd⟩
  refine SrtO.sorted_ord (pLt_swo fun u => k (backV u)) hl.isList (by rw [← rv.length]; exact hz) (fun h2 h₁ a ha kk => ?_) fun out h1 h2 => ?_
  · refine pairTI_sortable (k := fun u => k (backV u)) (s := { s with heap := h₁ }) (by omega) (fun v hm => ?_) fun o e => ?_
    · obtain ⟨b, o, t, u, n, e, ho, hc, hd⟩ := hp v hm
      exact ⟨b, o, t, u, n, e, (kk b o ho).2, hc, hd⟩
    · cases (e.symm.trans ha : some o = some (seqObj "list" its.toArray 0))
      exact fun c => absurd (Value.type.inj c) (by decide)
  · have same : (out.map backV).Perm xs := e1 ▸ h2.perm.map backV
    have ⟨n, hn⟩ := sortedAll_at s.heap its out.toArray
    exact ⟨.ref _, upd H _ (.lst (out.map backV)), I.laid (t' := s.toks) (fun _ _ e => sortedAll_old e) (Nat.le_succ _) ⟨same.length_eq ▸ hz, out, n, vals_back fun u hu => e2 u (h2.perm.mem_iff.mp hu), hn⟩, rfl, q _ _ (List.pairwise_map.mpr h1) same (I.hok.fresh (Nat.le_succ _))⟩
end
end L2

/-! {k: v for x in xs} of any keys that a dict can have: ints and texts, or tuples of them -/
namespace L2
open PySem PySem.Spec PyProof.Rows
/-- an entry put in, as a display or a comprehension does it -/
theorem dput_any {X : Cx} {pins : List (Addr × Obj)} {σ : St} {H H' : Hp} {s : Shared} {A : Around} {E : Value → Shared → Prop} {D : Addr} {y v : V} {u r : Value} {Q : Unit → Shared → Prop} (hu : A.units + 1 < cLine) (I : Inv X pins σ H s) (g : DPut H D y v H') (ry : RelV y u) (rv : RelV v r)
    (q : ∀ z, Inv X pins σ H' z → Q () z) : wpAny (model X.prog X.w) A (dictSet D u r) Q E s := by
  rcases g with ⟨kvs, k, e, rfl, l, rfl⟩ | ⟨kvs, k, b, e, rfl, eb, l, rfl⟩
  · obtain ⟨z, hd, vs, rel, dd⟩ := dk_of I.hok e
    have sml : (putK kvs k v).length ≤ sizeLine := Nat.le_trans (length_putK kvs k v) l
    refine wpAny_dictSet_pairs (hsz := by rw [← rel.length]; exact z) (kV_is ry) dd fun h' dd' hs => q _ ?_
    exact d_write I (by rw [e]; exact True.intro) hs (let ⟨q, _, _, hq, _⟩ := dd'; ⟨q, hq⟩) (dk_new sml hd (rel.put k rv) dd')
  · cases (show u = Value.ref b from ry)
    obtain ⟨z, hd, xs, rel, dd⟩ := dt_of I.hok e
    have sml : (putK kvs k v).length ≤ sizeLine := Nat.le_trans (length_putK kvs k v) l
    refine wpAny_dictSet_heap (hsz := by rw [← Paired.length rel]; exact z) (show A.units < cLine by omega) (key_of I.hok eb) dd fun h' dd' hs => q _ ?_
    obtain ⟨o, es, ep, hq, h2, h3, h4, _, h5⟩ := dd'
    refine d_write I (by rw [e]; exact True.intro) hs ⟨o, hq⟩ ⟨sml, hd, _, (rel.put k eb rv).keeps fun c ys ec => ?_, o, es, ep, hq, h2, h3, h4, h5⟩
    rw [upd_ne (ne_of ec e (fun z => nomatch z))]
    exact ec
/-- the dict that is begun with -/
inductive Bare : HO → Prop
  | k : Bare (.dK [])
  | t : Bare (.dT [])
theorem bare_ok {P : Program} {w : World} {H : Hp} {o : HO} (b : Bare o) (h : Heap) (hb : sysModules < h.objs.size) : ObjOk P w H (h.push { cls := .type "dict", data := .dict #[] }) h.objs.size o := by
  cases b
  · exact dk_empty h hb
  · exact dt_empty h hb
section
variable {X : Cx}
def tDcG (o : HO) (wi : TI) (g : TG) (tt : TT) (tk tv : TE) (vs : List Nat) : TE := fun σ H Q => wi σ H fun J H1 => ∀ D, H1 D = none → ∃ W : Nat → Nat → Hp → Prop, (∃ m, W 0 m (upd H1 D o)) ∧ ∀ i m H, W i m H →
  (J.stop i H ∧ Q (.ref D) H) ∨ (J.go i H ∧ ∃ Nx : Hp → Prop, (∀ H', Nx H' → ∃ m', m' < m ∧ W (i + 1) m' H') ∧ ∀ x H', J.yld i H x H' → g x (wipe σ vs) H' fun σ2 H2 => wipe σ2 vs = wipe σ vs ∧ tt σ2 H2 fun b H3 =>
    if b = true then tk σ2 H3 fun y H4 => tv σ2 H4 fun z H5 => ∃ H6, DPut H5 D y z H6 ∧ Nx H6 else Nx H3)
abbrev InBlk (X : Cx) (scope : Scope) (T : Cx → Prop) : Prop := ∀ (s : Shared) (H : Hp) (C : Addr) (cl : List (Str × Addr)) (fp : List Addr), T (X.blk s H scope (compEnvC scope cl C X.env) fp)
theorem pe_dcG {o : HO} {kx vx tg iter : Expr} {ifs : List Expr} {scope : Scope} {own : List (Str × Nat)} {pos : Pos} {wi : TI} {g : TG} {tt : TT} {tk tv : TE} (bo : Bare o) (hu : X.A.units + 1 < cLine) (hc : X.calm = true) (hN : X.N.Nodup) (hi : PI X tg iter wi) (ok : BlkOk X.N X.env.scope scope own)
    (hg : InBlk X scope fun B => PG B tg g) (ht : InBlk X scope fun B => PTs B ifs tt) (hk : InBlk X scope fun B => PE B kx tk) (he : InBlk X scope fun B => PE B vx tv) (hs : ∀ x, foldedSetIterable iter X.env x = pure x := by intro _; rfl) :
    PE X (.DictComp kx vx [⟨tg, iter, ifs, 0⟩] scope pos) (tDcG o wi g tt tk tv (own.map (·.2))) := by
  refine ⟨fun pins s σ H Q I h => ?_⟩
  rw [arm_eval_DictComp]
  have frees : ∀ y ∈ scope.names, y.2 = .free → ∃ c, X.env.cells.lookup y.1 = some c := fun y hy e => (ok.free y hy e).elim (fun k => I.ok.has _ (.inl k)) fun k => I.ok.has _ (.inr k)
  refine wpAny_comprehension_free (use := none) rfl hs (closure_ok frees) ok.kind (fun y hy e => by rw [ok.uniq y hy, e]) (thn (hi.run pins s σ H _ I h) fun xv s1 hx => thn hx fun itv s2 h2 => ?_)
  obtain ⟨it, fp, tn, J, H2, rfl, I2, T, st2, f2, q⟩ := h2
  refine wpAny_newObj_type (newEnv_comp ?_)
  generalize hD : s2.heap.objs.size = D
  have new : H2 D = none := I2.hok.fresh (Nat.le_of_eq hD)
  obtain ⟨W, ⟨m0, w0⟩, turn⟩ := q D new
  generalize es3 : ({ s2 with heap := s2.heap.push { cls := .type "dict", data := .dict #[] } } : Shared) = s3
  have h3 : s3.heap = s2.heap.push { cls := .type "dict", data := .dict #[] } := by rw [← es3]
  have I3 : Inv X pins σ (upd H2 D o) s3 := by
    rw [← es3]
    refine I2.laid (t' := s2.toks) (fun b u e => Heap.get?_push_of_some _ e) (Nat.le_of_eq hD) ?_
    rw [← hD]
    exact bare_ok bo s2.heap I2.big
  have low : ∀ b ∈ fp, b < s2.heap.objs.size := fun b hb => by
    obtain ⟨u, e, _⟩ := T.obj _ _ st2 b hb
    exact Heap.lt_size e
  have f3 : ∀ b ∈ fp, FpOk X pins (upd H2 D o) b ∧ b < s3.heap.objs.size := fun b hb => by
    refine ⟨⟨?_, (f2 b hb).2⟩, by rw [h3, Heap.size_push]; exact Nat.lt_succ_of_lt (low b hb)⟩
    rw [upd_ne (by rw [← hD]; exact Nat.ne_of_lt (low b hb))]
    exact (f2 b hb).1
  have st3 : tn 0 s3.heap := T.keep _ _ _ st2 fun b _ u e => by rw [h3]; exact Heap.get?_push_of_some _ e
  have I4 := block_start I3 ok hN f3
  have pg := hg s3 (upd H2 D o) s3.heap.objs.size (cellsFrom (s3.heap.objs.size + 1) scope.names (cloFrom X.env.cells scope.names [])) fp
  have pt := ht s3 (upd H2 D o) s3.heap.objs.size (cellsFrom (s3.heap.objs.size + 1) scope.names (cloFrom X.env.cells scope.names [])) fp
  have pk := hk s3 (upd H2 D o) s3.heap.objs.size (cellsFrom (s3.heap.objs.size + 1) scope.names (cloFrom X.env.cells scope.names [])) fp
  have pe := he s3 (upd H2 D o) s3.heap.objs.size (cellsFrom (s3.heap.objs.size + 1) scope.names (cloFrom X.env.cells scope.names [])) fp
  have nfp : ∀ b ∈ fp, (upd H2 D o) b = none := fun b hb => (f3 b hb).1.1
  show codeAny _ _ (.compStart (.DictComp kx vx [⟨tg, iter, ifs, 0⟩] scope pos) 0 (.ref it) (.ref D) (compEnvC scope (cellsFrom (s3.heap.objs.size + 1) scope.names (cloFrom X.env.cells scope.names [])) s3.heap.objs.size X.env)) (compPost (model X.prog X.w) X.A X.xe none _ (.ref D) s3.heap.objs.size) { s3 with heap := pushCells (s3.heap.push { cls := .type "dict", data := .dict #[] }) scope.names }
  generalize ece : compEnvC scope (cellsFrom (s3.heap.objs.size + 1) scope.names (cloFrom X.env.cells scope.names [])) s3.heap.objs.size X.env = ce at I4 pg pt pk pe ⊢
  have loc : ce.locals = s3.heap.objs.size := by subst ece; rfl
  generalize upd H2 D o = H3 at I3 I4 pg pt pk pe w0 nfp f3
  generalize es4 : ({ s3 with heap := pushCells (s3.heap.push { cls := .type "dict", data := .dict #[] }) scope.names } : Shared) = s4 at I4 ⊢
  have st4 : tn 0 s4.heap := T.keep _ _ _ st3 fun b _ u e => by rw [← es4]; exact pushCells_keeps _ _ _ _ (Heap.get?_push_of_some _ e)
  have quiet : ∀ {σ' : St} {H' : Hp} {z : Shared}, Inv (X.blk s3 H3 scope ce fp) [] σ' H' z → (∀ b ∈ fp, H' b = none) → ∀ b ∈ fp, FpOk (X.blk s3 H3 scope ce fp) [] H' b := fun {σ' H' z} I' hn b hb =>
    ⟨hn b hb, (I'.ok.exf b hb).1, I'.ok.exfs b hb, .inl hb, fun x c e => (I'.ok.exf b hb).2 x c e, fun p hp => absurd (show p ∈ ([] : List (Addr × Obj)) ++ [] from hp) (by simp)⟩
  have loop : codeAny (model X.prog X.w) X.A (.compLoop (.DictComp kx vx [⟨tg, iter, ifs, 0⟩] scope pos) 0 (.ref it) (.ref D) ce) (compPost (model X.prog X.w) X.A X.xe none (EP X pins σ Q) (.ref D) s3.heap.objs.size) s4 := by
    refine compLoop_anyD (fun n z => ∃ i H', Inv (X.blk s3 H3 scope ce fp) [] (wipe σ (own.map (·.2))) H' z ∧ tn i z.heap ∧ (∀ b ∈ fp, H' b = none) ∧ W i n H') ?_ m0 ⟨0, H3, I4, st4, nfp, w0⟩
    rintro n s5 ⟨i, H5, I5, st5, n5, w5⟩
    rcases turn i n H5 w5 with ⟨stop, qq⟩ | ⟨go, Nx, hNx, step⟩
    · refine thnF (T.done (X.blk s3 H3 scope ce fp) rfl rfl rfl hc i [] s5 _ H5 (fun _ _ => False) I5 (quiet I5 n5) st5 stop) fun r s6 ⟨hr, I6⟩ => ?_
      subst hr
      have I7 : Inv X pins σ H5 s6 := I3.call' (ch := fp) I6.os I6.base I6.hok I6.bare fun b hb => ⟨(f3 b hb).1.2.2.2.1, (f3 b hb).1.2.1, (f3 b hb).1.2.2.2.2.1, (f3 b hb).1.2.2.2.2.2⟩
      have nC : H5 s3.heap.objs.size = none := by
        have z : H5 ce.locals = none := I6.free
        rwa [loc] at z
      obtain ⟨m, hn, _⟩ := I6.loc
      have hn : s6.heap.Ns ce.locals m := hn
      rw [loc] at hn
      refine ⟨m, hn, fun h'' sb => ?_⟩
      obtain ⟨f0, f1, f2, f3, f4, f5⟩ := I3.fpOk (Nat.le_refl _) nC
      exact ⟨.ref D, H5, I7.turned (t' := s6.toks) (fun b u hb e => (sb.2 b hb).trans e) f0 f1 f3 f4 f5, rfl, qq⟩
    · refine thnF (T.item (X.blk s3 H3 scope ce fp) rfl rfl rfl hc i [] s5 _ H5 (fun _ _ => False) I5 (quiet I5 n5) st5 go) fun r s6 ⟨u, hr, h6⟩ => ?_
      subst hr
      refine thnF h6 fun _ s7 ⟨x, H7, I7, r7, y7, st7, n7⟩ => ?_
      refine thnF (pg.run _ s7 _ H7 x u _ (I7.pinned (quiet I7 n7) (T.obj _ _ st7)) r7 (step x H7 y7)) fun _ s8 ⟨σ8, H8, I8, hw8, q8⟩ => ?_
      refine thnF (pt.run _ s8 σ8 H8 _ I8 q8) fun b s9 ⟨H9, I9, q9⟩ => ?_
      have fin : ∀ {z : Shared} {H' : Hp}, Inv (X.blk s3 H3 scope ce fp) ([] ++ pinsAt fp s7.heap) σ8 H' z → Nx H' → ∃ m, m < n ∧ ∃ i H', Inv (X.blk s3 H3 scope ce fp) [] (wipe σ (own.map (·.2))) H' z ∧ tn i z.heap ∧ (∀ b ∈ fp, H' b = none) ∧ W i m H' := fun {z H'} I' nx => by
        obtain ⟨m', hm, w'⟩ := hNx H' nx
        have pin' : ∀ b ∈ fp, ∀ u, s7.heap.get? b = some u → z.heap.get? b = some u ∧ H' b = none := fun b hb u e =>
          let k := I'.pin (b, u) (List.mem_append_right _ (List.mem_append_right _ (mem_pinsAt hb e)))
          ⟨k.1, k.2.1⟩
        refine ⟨m', hm, i + 1, H', (I'.unpinned (pins := [])).weak (by rw [← hw8, wipe_length]) (fun j v e => ?_), T.keep _ _ _ st7 fun b hb u e => (pin' b hb u e).1, fun b hb => ?_, w'⟩
        · rw [← hw8] at e
          exact (wipe_some e).1
        · obtain ⟨u, e, _⟩ := T.obj _ _ st7 b hb
          exact (pin' b hb u e).2
      cases b with
      | false =>
        simp only [Bool.false_eq_true, if_false] at q9 ⊢
        exact fin I9 q9
      | true =>
        simp only [if_true] at q9 ⊢
        refine thnF (pk.run _ s9 σ8 H9 _ I9 q9) fun z s10 ⟨yk, H10, I10, r10, q10⟩ => ?_
        refine thnF (pe.run _ s10 σ8 H10 _ I10 q10) fun z2 s11 ⟨yv, H11, I11, r11, H12, put, nx⟩ => ?_
        exact dput_any (X := X.blk s3 H3 scope ce fp) hu I11 put r10 r11 fun s12 I12 => fin I12 nx
  exact codeAny_compStart_dict loop (T.self X.A 0 _ _ _ st4 loop)
/-- the turns, by an invariant -/
theorem dcG_it {J : It} {n : Nat} {G : Hp → Prop} {Y : Nat → Hp → V → Hp → Prop} (w : Walk J n G Y) {o : HO} {g : TG} {tt : TT} {tk tv : TE} {vs : List Nat} {σ : St} {H1 : Hp} {D : Addr} {Qd : Hp → Prop} (Pv : Nat → Hp → Prop) (h0 : Pv 0 (upd H1 D o)) (hG : ∀ i H, i ≤ n → Pv i H → G H)
    (hs : ∀ i x H H', i < n → Pv i H → Y i H x H' → g x (wipe σ vs) H' fun σ2 H2 => wipe σ2 vs = wipe σ vs ∧ tt σ2 H2 fun b H3 =>
      if b = true then tk σ2 H3 fun y H4 => tv σ2 H4 fun z H5 => ∃ H6, DPut H5 D y z H6 ∧ Pv (i + 1) H6 else Pv (i + 1) H3) (hd : ∀ H, Pv n H → Qd H) :
    ∃ W : Nat → Nat → Hp → Prop, (∃ m, W 0 m (upd H1 D o)) ∧ ∀ i m H, W i m H →
      (J.stop i H ∧ Qd H) ∨ (J.go i H ∧ ∃ Nx : Hp → Prop, (∀ H', Nx H' → ∃ m', m' < m ∧ W (i + 1) m' H') ∧ ∀ x H', J.yld i H x H' → g x (wipe σ vs) H' fun σ2 H2 => wipe σ2 vs = wipe σ vs ∧ tt σ2 H2 fun b H3 =>
        if b = true then tk σ2 H3 fun y H4 => tv σ2 H4 fun z H5 => ∃ H6, DPut H5 D y z H6 ∧ Nx H6 else Nx H3) := by
  refine ⟨fun i m H => m = n - i ∧ i ≤ n ∧ Pv i H, ⟨n, by simp, Nat.zero_le _, h0⟩, ?_⟩
  rintro i m H ⟨rfl, hi, p⟩
  have q := hG i H hi p
  rcases Nat.lt_or_ge i n with hlt | hge
  · exact .inr ⟨w.goes i H hlt q, Pv (i + 1), fun H' p' => ⟨n - (i + 1), by omega, rfl, hlt, p'⟩, fun x H' y => hs i x H H' hlt p (w.yields i H x H' hlt q y)⟩
  · obtain rfl : i = n := Nat.le_antisymm hi hge
    exact .inl ⟨w.stops H q, hd H p⟩
end
end L2

/-! for i, x in enumerate(t), t a tuple: the library's Begins and Draws of a tuple, put together -/
namespace L2
open PySem PyProof.Rows PySem.Spec
/-- a new enumerate over the iterator at j -/
abbrev enObj (j : Addr) : Obj := { cls := .type "enumerate", data := .fields #[.none, .bool false, .ref j, rawInt 0, .none, .none] }
theorem enum_one {v : Value} {o : Obj} {G : Heap → Prop} (B : Begins v o G) : Meets (Builtin.«enumerate.__new__» ⟨[.type "enumerate", v], []⟩) fun _ R s =>
    G s.heap ∧ R (.ok (.ret (.ref (s.heap.push o).objs.size))) { s with heap := (s.heap.push o).push (enObj s.heap.objs.size) } :=
  .of_wp fun P w _ R ⟨h, gs, dr, tk, os⟩ ⟨g, q⟩ => by
    have sub0 := sub_enumerate
    have goes : ∀ {A' : Around} {E' : Value → Shared → Prop} {Q' : Value → Shared → Prop}, Q' (.ref h.objs.size) ⟨h.push o, gs, dr, tk, os⟩ → wpAny (model P w) A' (pyIter v) Q' E' ⟨h, gs, dr, tk, os⟩ := fun z => B.iter P w _ _ _ _ g z
    wp_walk using goes
    refine wpAny_stack_any fun _ => wpAny_pure ?_
    split
    all_goals first
      | (rename_i c _ _ _ _ _; cases (c == Value.type "enumerate") <;> (wp_walk using goes; exact ⟨_, rfl, q⟩))
      | (wp_walk using goes; exact ⟨_, rfl, q⟩)
theorem enum_call {P : Program} {w : World} {A : Around} {E : Value → Shared → Prop} {s : Shared} {v : Value} {o : Obj} {G : Heap → Prop} {Q : Value → Shared → Prop} (B : Begins v o G) (g : G s.heap)
    (q : ∀ n h', n = s.heap.objs.size → IsEnum h' (n + 1) n 0 .none → h'.get? n = some o → (∀ b u, s.heap.get? b = some u → h'.get? b = some u) → Q (.ref (n + 1)) { s with heap := h' }) :
    wpAny (model P w) A (call (.type "enumerate") [v]) Q E s := by
  have up : ∀ (b : Addr) (u : Obj), (s.heap.push o).get? b = some u → ((s.heap.push o).push (enObj s.heap.objs.size)).get? b = some u := fun b u e => Heap.get?_push_of_some _ e
  have top := Heap.get?_push_size (s.heap.push o) (o := enObj s.heap.objs.size) rfl
  refine callType_new F.called_enumerate (by decide) (F.typeCall_enumerate_1 _) (F.newCall_enumerate_1 _) (fun c => F.args_object_init_2 c _) F.entry_enumerate_new (enum_one B) ⟨g, ?_⟩
  rw [Heap.size_push] at top
  rw [show (s.heap.push o).objs.size = s.heap.objs.size + 1 from Heap.size_push ..]
  exact ⟨⟨_, top, rfl⟩, q _ _ rfl top (up _ _ (Heap.get?_push_size _ B.free)) fun b u e => up b u (Heap.get?_push_of_some _ e)⟩
/-- the tuple at a, each item in a new pair -/
def Itq (K : PySem.W.Frag) (a : Addr) : It :=
  ⟨fun i H => ∃ (xs : List V) (x : V), SqT K H a xs ∧ xs[i]? = some x, fun i H v H' => ∃ T x, v = .ref T ∧ H T = none ∧ H' = upd H T (.tup [.int (i : Nat), x]) ∧ ∀ xs, SqT K H a xs → xs[i]? = some x, fun i H => ∃ xs : List V, SqT K H a xs ∧ xs.length ≤ i⟩
/-- enumerate at e, its iterator at j, the tuple at a: i items are drawn -/
structure EnT (a e j : Addr) (i : Nat) (h : Heap) : Prop where
  en : ∃ old, IsEnum h e j ((i : Nat) : Int) old
  it : h.IsTupleIter j a i
  ne : e ≠ j
theorem EnT.apart {a e j : Addr} {i : Nat} {h : Heap} {xs : Array Value} (T : EnT a e j i h) (p : h.IsTuple a xs) : a ≠ j ∧ a ≠ e := by
  obtain ⟨o, ho, hc, -⟩ := p
  obtain ⟨u, hu, hk, -⟩ := T.it
  obtain ⟨old, he⟩ := T.en
  refine ⟨fun z => ?_, fun z => ?_⟩
  · rw [← z, ho] at hu
    rw [← Option.some.inj hu, hc] at hk
    exact absurd (Value.type.inj hk) (by decide)
  · have y : h.get? e = some _ := he
    rw [← z, ho] at y
    rw [Option.some.inj y] at hc
    exact absurd (Value.type.inj hc) (by decide)
theorem turn_enumT {P : Program} {w : World} {K : PySem.W.Frag} {elts : List Expr} {kk : Nat} {tpos : Pos} (a e j : Addr) : Turn P w K (.Tuple elts kk tpos) (Itq K a) [e, j] e (EnT a e j) where
  mem := List.mem_cons_self ..
  obj i h T b hb := by
    rcases List.mem_cons.mp hb with z | z
    · rw [z]
      exact ⟨_, T.en.choose_spec, fun _ y => nomatch y⟩
    · rw [List.mem_singleton.mp z]
      obtain ⟨o, ho, -, hd⟩ := T.it
      exact ⟨o, ho, fun _ y => nomatch (hd.symm.trans y)⟩
  keep _ _ _ T k := ⟨T.en.imp fun _ y => k e (List.mem_cons_self ..) _ y, T.it.at fun o y => k j (List.mem_cons_of_mem _ (List.mem_cons_self ..)) o y, T.ne⟩
  item := by
    rintro X rfl rfl rfl calm i pins s σ H E I fp T ⟨xs, x, hq, hx⟩
    obtain ⟨us, rel, isT, -⟩ := I.tuple hq
    obtain ⟨u, hu, ru⟩ := rel.get hx
    obtain ⟨aj, ae⟩ := T.apart isT
    obtain ⟨old, en⟩ := T.en
    have lt : i < us.toArray.size := by rw [List.size_toArray]; exact (List.getElem?_eq_some_iff.mp hu).1
    have low : ∀ b ∈ [e, j], b < s.heap.objs.size := fun b hb => by
      rcases List.mem_cons.mp hb with z | z
      · rw [z]; exact Heap.lt_size en
      · rw [List.mem_singleton.mp z]; exact Heap.lt_size T.it.choose_spec.1
    have out : e ∉ [j, a] := fun z => by
      rcases List.mem_cons.mp z with z | z
      · exact T.ne z
      · exact ae (List.mem_singleton.mp z).symm
    refine wpAny_pyNext_enum_itemD (Draws.tuple (A := X.A.in1) (I.ok.hd calm) j a aj us.toArray) en ⟨T.it, isT⟩ lt T.ne out fun y h1 tk hy eo T1 pr _ kp => ⟨_, rfl, wpAny_letOwnedTupleGo_enum (s := { s with heap := h1, toks := tk + 1 }) eo fun h2 e2 sb => ?_⟩
    have ey : y = u := Option.some.inj (hy.symm.trans (by rw [List.getElem?_toArray]; exact hu))
    rw [ey] at pr e2
    have far : ∀ b, b ∉ [e, j] → b ≠ e ∧ b ≠ j := fun b hb => ⟨fun z => hb (by rw [z]; exact List.mem_cons_self ..), fun z => hb (by rw [z]; exact List.mem_cons_of_mem _ (List.mem_cons_self ..))⟩
    have keeps : ∀ b o, b ∉ [e, j] → s.heap.get? b = some o → h2.get? b = some o := fun b o hb y => (sb.2 b (far b hb).1).trans (kp b o (far b hb).1 (far b hb).2 y)
    have at2 := (sb.2 _ (Nat.ne_of_gt (low e (List.mem_cons_self ..)))).trans pr
    have ok2 : ObjOk X.prog X.w (upd H s.heap.objs.size (.tup [.int (i : Nat), x])) h2 s.heap.objs.size (.tup [.int (i : Nat), x]) := ⟨(by decide : 2 ≤ sizeLine), [_, u], .cons ⟨tk, rfl⟩ (.cons ru .nil), _, at2, rfl, _, rfl⟩
    exact ⟨.ref s.heap.objs.size, _, I.turnedNew keeps fp (Nat.le_refl _) ok2, rfl, ⟨_, x, rfl, I.hok.fresh (Nat.le_refl _), rfl, fun zs hz => I.tuple_inj hz hq ▸ hx⟩,
      ⟨⟨u, by rw [show ((i + 1 : Nat) : Int) = (i : Int) + 1 from rfl]; exact e2⟩, T1.1.at fun o z => (sb.2 j (Ne.symm T.ne)).trans z, T.ne⟩, fun b hb => (upd_ne (Nat.ne_of_lt (low b hb))).trans (fp b hb).1⟩
  done := by
    rintro X rfl rfl rfl calm i pins s σ H E I fp T ⟨xs, hq, hl⟩
    obtain ⟨us, rel, isT, -⟩ := I.tuple hq
    obtain ⟨old, en⟩ := T.en
    obtain ⟨n1, n2, -, n3, n4, n5⟩ := fp j (List.mem_cons_of_mem _ (List.mem_cons_self ..))
    have D : Draws X.prog X.w X.A.in1 j [j, a] i (fun _ _ => False) (fun n h => n = i ∧ h.IsTupleIter j a i ∧ h.IsTuple a us.toArray) :=
      ⟨fun _ _ st => ⟨_, st.2.1.choose_spec.1⟩, fun _ _ _ st k => ⟨st.1, st.2.1.at fun o z => k j (List.mem_cons_self ..) o z, st.2.2.at fun o z => k a (List.mem_cons_of_mem _ (List.mem_cons_self ..)) o z⟩,
        fun n _ _ _ lt st _ => absurd st.1 (Nat.ne_of_lt lt), fun _ _ _ st k => wpAny_nextOf_tuple_end (I.ok.hd calm) st.2.1 st.2.2 (by rw [List.getElem?_toArray, List.getElem?_eq_none]; rw [← rel.length]; exact hl) k⟩
    exact wpAny_pyNext_enum_endD D en ⟨rfl, T.it, isT⟩ fun h1 k => ⟨rfl, I.turned (t' := s.toks) k n1 n2 n3 n4 n5⟩
  self _ _ _ _ _ T q := wpAny_pyIter_enum T.en.choose_spec q
def iEnumT (K : PySem.W.Frag) (ta : TA) : TI := fun σ H R => ta σ H fun vs H1 => ∃ a xs, vs = [.ref a] ∧ SqT K H1 a xs ∧ R (Itq K a) H1
theorem pi_enumT {X : Cx} {e : Expr} {ta : TA} {p pos tpos : Pos} {elts : List Expr} {kk : Nat} (hg : Gl X "enumerate") (hm : X.mg "enumerate" = none) (ha : PA X [e] ta) (hs : starEach [e] X.env = [(false, eval e X.env)] := by rfl) :
    PI X (.Tuple elts kk tpos) (.Call (.Name "enumerate" p) [e] [] pos) (iEnumT X.K ta) where
  run pins s σ H R I h := by
    refine Call_ (ld_blt I hg hm boot_enumerate (PyProof.Rows.callWith_type1 (thn (ha.run pos pins s σ H _ I h) ?_) hs rfl))
    rintro us s1 ⟨vs, H1, I1, rel, a, xs, rfl, hq, k⟩
    rw [Vals.ref1 rel]
    obtain ⟨its, -, isT, -⟩ := I1.tuple hq
    refine enum_call (begins_tuple a its.toArray) isT fun n h' hn en it0 kp => wpAny_pyIter_enum en ⟨n + 1, [n + 1, n], EnT a (n + 1) n, Itq X.K a, H1, rfl, I1.kept (t' := s1.toks) kp, turn_enumT a (n + 1) n, ⟨⟨_, en⟩, ⟨_, it0, rfl, rfl⟩, Nat.succ_ne_self n⟩, ?_, k⟩
    intro b hb
    have le : s1.heap.objs.size ≤ b := by
      rcases List.mem_cons.mp hb with z | z
      · rw [z, ← hn]; exact Nat.le_succ _
      · rw [List.mem_singleton.mp z, hn]; exact Nat.le_refl _
    exact I1.fpOk le (I1.hok.fresh le)
theorem walk_enumT {K : PySem.W.Frag} {a : Addr} {xs : List V} : Walk (Itq K a) xs.length (fun H => SqT K H a xs) (YPair (fun i => some (.int (i : Nat))) (fun i => xs[i]?)) where
  goes i H lt g := ⟨xs, xs[i], g, List.getElem?_eq_getElem lt⟩
  stops H g := ⟨xs, g, Nat.le_refl _⟩
  yields i H x H' lt g y := let ⟨T, z, e, n, e', h⟩ := y; ⟨T, .int (i : Nat), z, e, n, e', rfl, h xs g⟩
end L2

/-! tuple(d), d a dict of ints and texts -/
namespace L2
open PySem PySem.Spec PyProof.Rows
section
variable {prog : Program} {w : World} {A : Around} {E : Value → Shared → Prop} {s : Shared} {T : String} {r d : Addr} {n : Nat} {P : Nat → Value → Prop} {OK : Heap → Prop}
theorem collect_src {Q : List Value → Shared → Prop} (K : PySem.W.KdlSrc prog w T r d n P OK) (hh : A.handled = none) (hok : OK s.heap) (hn : n ≤ sizeLine)
    (q : ∀ (h' : Heap) (tk : Nat) (acc : Array Value), (∀ b o, s.heap.get? b = some o → h'.get? b = some o) → ItemsOf P acc n → Q acc.toList { s with heap := h', toks := tk }) : wpAny (model prog w) A (collect (.ref r)) Q E s := by
  have lt := K.there _ hok
  unfold collect
  refine wpAny_bind (wpAny_runValue (codeAny_builtin F.entry_proto_collect ?_))
  rw [Around.under_plainId F.plain_proto_collect _]
  show wpAny _ A.in1 (newList [] >>= fun l => again (.builtin "list.__iadd__" ⟨[l, .ref r], []⟩)) _ _ s
  refine wpAny_bind (wpAny_newObj_type (wpAny_pure ⟨plainId_quiet F.plain_list_iadd _, codeAny_builtin F.entry_list_iadd ?_⟩))
  rw [Around.under_plainId F.plain_list_iadd _]
  show wpAny _ A.in1 (Builtin.List.listExtendWith (.ref s.heap.objs.size) (.ref r) (.ref s.heap.objs.size)) _ _ _
  have gS : (s.heap.push { cls := .type "list", data := .seq ([] : List Value).toArray }).get? s.heap.objs.size = some { cls := .type "list", data := .seq #[] 0 } := Heap.get?_push_size _ rfl
  have go := PySem.W.kdl_extend (A := A) (R := fun rr z => rr = .ok (.ret (.ref s.heap.objs.size)) ∧ ∃ (h' : Heap) (tk : Nat) (acc : Array Value) (c' : Nat), z = { s with heap := h', toks := tk } ∧
      (∀ b o, s.heap.get? b = some o → h'.get? b = some o) ∧ h'.get? s.heap.objs.size = some { cls := .type "list", dict := none, data := .seq acc c', slots := #[] } ∧ ItemsOf P acc n)
    (s := { s with heap := s.heap.push { cls := .type "list", data := .seq ([] : List Value).toArray } }) K hh (K.keep _ _ hok fun b _ o e => Heap.get?_push_of_some _ e) s.heap.objs.size (Nat.ne_of_gt lt.1) (Nat.ne_of_gt lt.2) (.ref s.heap.objs.size) 0 gS
    (fun h' tk acc c' hk e hi => ⟨rfl, h', tk, acc, c', rfl, fun b o y => hk b o (Nat.ne_of_lt (Heap.lt_size y)) (Heap.get?_push_of_some _ y), e, hi⟩) hn
  refine wpAny_mono go (fun fin z x => ?_) fun e z x => absurd x.1 (by simp)
  cases fin with
  | done f =>
    obtain ⟨e, h', tk, acc, c', rfl, hk, hS', hi⟩ := x
    cases e
    show wpAny _ A (load s.heap.objs.size >>= _) _ _ _
    exact wpAny_bind (wpAny_load hS' (wpAny_pure (q h' tk acc hk hi)))
  | again c =>
    refine ⟨x.1, codeAny_mono x.2 fun rr y hr' => ?_⟩
    obtain ⟨rfl, h', tk, acc, c', rfl, hk, hS', hi⟩ := hr'
    show wpAny _ A (load s.heap.objs.size >>= _) _ _ _
    exact wpAny_bind (wpAny_load hS' (wpAny_pure (q h' tk acc hk hi)))
theorem tuple_src {Q : Value → Shared → Prop} (K : PySem.W.KdlSrc prog w T r d n P OK) (hh : A.handled = none) (hok : OK s.heap) (hn : n ≤ sizeLine)
    (q : ∀ (h' : Heap) (tk : Nat) (acc : Array Value), (∀ b o, s.heap.get? b = some o → h'.get? b = some o) → ItemsOf P acc n → Q (.ref h'.objs.size) { s with heap := h'.push { cls := .type "tuple", data := .seq acc }, toks := tk }) :
    wpAny (model prog w) A (call (.type "tuple") [.ref r]) Q E s := by
  refine callType_codes (Q₁ := fun obj s₁ => s₁.TypeIs obj "tuple" ∧ Q obj s₁) F.called_tuple (F.typeCall_tuple_1 _) F.entry_object_init (codeAny_of_tree ?_) fun obj s₁ h₁ => ⟨h₁.1, F.args_object_init_2 obj _, object_init_meets F.called_tuple.init.lookup F.called_tuple.made (by decide) prog w A.in1 _ s₁ ⟨h₁.1, rfl, h₁.2⟩⟩
  show wpAny _ A.in1.in1 (do checkBuiltinCall "tuple.__new__" ⟨[.type "tuple", .ref r], []⟩; again (.builtin "tuple.__new__" ⟨[.type "tuple", .ref r], []⟩)) _ _ s
  refine wpAny_bind (wpAny_of_eq (F.newCall_tuple_1 _) (wpAny_pure ⟨plainId_quiet F.plain_tuple_new _, codeAny_builtin F.entry_tuple_new ?_⟩))
  rw [Around.under_plainId F.plain_tuple_new _]
  have hsub := sub_tuple_self
  have hinit := init_tuple_lookup
  have hmh := madeHere_tuple
  have ty : s.TypeIs (.ref r) T := K.type s hok
  have nt := K.notTuple
  have nl := K.notList
  have hh2 : A.in1.in1.handled = none := hh
  wp_walk using wpAny_typeOf ty, collect_src (A := A.in1.in1) K hh2 hok hn
  intro h' tk acc hk hacc
  show wpAny _ _ (Builtin.Tuple.tupleExact acc.toList.toArray >>= fun v => ret v) _ _ _
  unfold Builtin.Tuple.tupleExact
  rw [Array.toArray_toList]
  refine wpAny_bind (wpAny_newObj_type (wpAny_pure ?_) (by show acc.size ≤ sizeLine; rw [hacc.1]; exact hn))
  exact ⟨⟨_, Heap.get?_push_size _ rfl, rfl⟩, q h' tk acc hk hacc⟩
end
theorem dk_items {P : Program} {w : World} {kvs : List (Key × V)} {vs : List (Key × Value)} {acc : Array Value} (rk : KV kvs vs) (ia : ItemsOf (fun i v => ∃ k x, vs[i]? = some (k, x) ∧ (mixKind P w).is k v = true) acc vs.length) : Vals (kvs.map fun kv => kV kv.1) acc.toList := by
  refine vals_of_at (by rw [List.length_map]; exact (Paired.length rk).trans (ia.1.symm.trans Array.length_toList.symm)) fun j x u h1 h2 => ?_
  obtain ⟨k, y, hky, hi⟩ := ia.2 j u (by rw [← Array.getElem?_toList]; exact h2)
  have e1 : (kvs.map (·.1))[j]? = some k := by rw [KV.keys rk, List.getElem?_map, hky] <;> rfl
  rw [show (kvs.map fun kv => kV kv.1) = (kvs.map (·.1)).map kV by rw [List.map_map] <;> rfl, List.getElem?_map, e1] at h1
  cases h1
  exact keyIs_rel hi
def rTupD : List V → Hp → VK → Prop := fun xs H Q => ∃ p kvs, xs = [.ref p] ∧ H p = some (.dK kvs) ∧ ∀ q, H q = none → Q (.ref q) (upd H q (.tup (kvs.map fun kv => kV kv.1)))
theorem call_tuple_dK {X : Cx} (hc : X.calm = true) : CallR X (.type "tuple") rTupD := by
  intro pins s σ H xs us Q I r h
  obtain ⟨p, kvs, rfl, hk, q⟩ := h
  rw [Vals.ref1 r]
  obtain ⟨z, lo, vs, rk, hd⟩ := (show ObjOk X.prog X.w H s.heap p (.dK kvs) from I.hok p _ hk)
  obtain ⟨ep, hat⟩ := hd.dictAt
  have hl : kvs.length = vs.length := Paired.length rk
  refine tuple_src (PySem.W.kdl_dict (knd := mixKind X.prog X.w) (kvs := vs) (ep := ep) lo) (I.ok.hd hc) hat (by rw [← hl]; exact z) fun h' tk acc keep ia => ?_
  have I1 : Inv X pins σ H { s with heap := h', toks := tk } := I.kept (t' := tk) keep
  refine ⟨.ref h'.objs.size, upd H h'.objs.size (.tup (kvs.map fun kv => kV kv.1)), I1.laid (t' := tk) (fun b o e => Heap.get?_push_of_some _ e) (Nat.le_refl _) (show ObjOk X.prog X.w _ _ _ (.tup (kvs.map fun kv => kV kv.1)) from ⟨?_, acc.toList, dk_items rk ia, by rw [Array.toArray_toList]; exact IsTup.new _ _⟩), rfl, q _ (I1.hok.fresh (Nat.le_refl _))⟩
  rw [List.length_map]
  exact z
end L2

/-! len(o), k in o, o[k] by own __len__, __contains__, __getitem__ -/
namespace L2
open PySem PySem.Spec PyProof.Rows
section
variable {X : Cx} {CX : CXT} {C f : Addr} {fd : FuncData} {ps : List Str} {sp : Sp} {k : Nat} {E : XK}
theorem call_ownA (F : FnOk X.prog X.w X.K X.mg X.base CX k f fd ps sp) (hb : Binds X.K fd ps []) {A : Around} (hr : Room k A) (hA : A.frames = X.A.frames) (hx : Passes CX X E) {pins : List (Addr × Obj)} {s : Shared} {σ : St} {H : Hp} {us : List Value} {vs : List V} {Q : VK}
    (I : Inv X pins σ H s) (r : Vals vs us) (h : sp vs H Q E) : wpAny (model X.prog X.w) A (call (.ref f) us) (EP X pins σ Q) X.xe s := by
  have e := I.env0
  have e0 : Env0 X.prog X.w X.K X.mg X.base A X.stack s H := ⟨by rw [hA]; exact e.frames, e.mod, e.bs, e.bsz, e.funs, e.frf, e.hok, e.bare⟩
  have hl : us.length = ps.length := by rw [← r.length]; exact F.len _ _ _ _ h
  have hbd := hb s us I.kIn (by simpa using hl)
  rw [List.append_nil] at hbd
  refine wpAny_call (codeAny_mono (F.run A X.stack s H ⟨us, []⟩ us vs Q E hr e0 hbd r h) fun r z hq => ?_)
  cases r with
  | error e => exact hx pins σ H s e z I hq
  | ok fl =>
    cases fl with
    | ret w => exact I.after hq
    | next => exact False.elim hq
    | brk => exact False.elim hq
    | cont => exact False.elim hq
/-- an own special method -/
structure OwnSp (K : PySem.W.Frag) (C f : Addr) (name : Str) : Prop where
  fi : PySem.W.findIn K (.ref C) name = some (some (.ref f))
  fn : PySem.W.isFn K (.ref f) = true
def rInO (C : Addr) (sp : Sp) (E : XK) (fl : Bool → Bool) : R2 := fun x y H Q => ∃ a dx fs, y = .ref a ∧ H a = some (.ins C dx fs) ∧ sp [.ref a, x] H (fun v H' => ∃ r, v = .bl r ∧ Q (.bl (fl r)) H') E
theorem has_own (F : FnOk X.prog X.w X.K X.mg X.base CX k f fd ps sp) (T : OwnSp X.K C f "__contains__") (hb : Binds X.K fd ps []) (hr : Room k X.A) (hx : Passes CX X E) {pins : List (Addr × Obj)} {s : Shared} {σ : St} {H : Hp} {a dx : Addr} {fs : List (Str × V)} {x : V} {v : Value} {Q : Bool → Shared → Prop} {R : Bool → Hp → Prop} (I : Inv X pins σ H s) (rx : RelV x v) (ha : H a = some (.ins C dx fs))
    (h : sp [.ref a, x] H (fun v H' => ∃ r, v = .bl r ∧ R r H') E) (q : ∀ r z H', Inv X pins σ H' z → R r H' → Q r z) : wpAny (model X.prog X.w) X.A (contains (.ref a) v) Q X.xe s := by
  obtain ⟨mA, J, _⟩ := ins_get I.hok ha
  obtain ⟨od, J, _⟩ := J.look
  have KX := I.kIn
  have sp : PySem.W.Looks (model X.prog X.w) s.heap (specialOf (.ref a) "__contains__") (some (.ref f)) := J.type.andThen (PySem.W.looks_findIn KX T.fi)
  unfold contains
  refine wpAny_holding ?_
  rw [show stdlibNamesSay? (.ref a) v = none by rfl]
  dsimp only
  refine wpAny_bind (sp.here ?_)
  refine wp_if_neg (by rw [show ((some (Value.ref f) : Option Value) == some Value.none) = false by rfl]; exact Bool.false_ne_true) ?_
  first
    | refine wpAny_bind ?_
    | refine wpAny_bind (wpAny_pure (wpAny_bind ?_))
  unfold callSpecialUnlessNone?
  refine wpAny_bind (sp.here (wpAny_holding (wpAny_bind ((PySem.W.bind_fn KX _ (beq_iff_eq.mp T.fn)).here ?_))))
  dsimp only
  refine wp_if_neg (by rw [show (Value.ref f == Value.none) = false by rfl]; exact Bool.false_ne_true) ?_
  first
    | refine wpAny_bind ?_
    | refine wpAny_bind (wpAny_pure (wpAny_bind ?_))
  refine thn (call_ownA F hb hr rfl hx I (.cons (show RelV (.ref a) (.ref a) from rfl) (.cons rx .nil)) h) fun w z hw => ?_
  obtain ⟨y, H', I', ry, r, rfl, qq⟩ := hw
  obtain rfl : w = Value.bool r := ry
  exact wpAny_pure (wpAny_truthy_bool (q r z H' I' qq))
theorem op_inO (F : FnOk X.prog X.w X.K X.mg X.base CX k f fd ps sp) (T : OwnSp X.K C f "__contains__") (hb : Binds X.K fd ps []) (hr : Room k X.A) (hx : Passes CX X E) : OpR X (compareOp .In) (rInO C sp E id) := by
  intro pins s σ H x y v u Q I rx ry h
  obtain ⟨a, dx, fs, rfl, ha, h⟩ := h
  cases ry
  show wpAny _ _ (do return Value.bool (← contains (.ref a) v)) _ _ s
  exact wpAny_bind (has_own (R := fun r H' => Q (.bl r) H') F T hb hr hx I rx ha h fun r z H' I' q => wpAny_pure ⟨.bl r, H', I', rfl, q⟩)
theorem op_notinO (F : FnOk X.prog X.w X.K X.mg X.base CX k f fd ps sp) (T : OwnSp X.K C f "__contains__") (hb : Binds X.K fd ps []) (hr : Room k X.A) (hx : Passes CX X E) : OpR X (compareOp .NotIn) (rInO C sp E not) := by
  intro pins s σ H x y v u Q I rx ry h
  obtain ⟨a, dx, fs, rfl, ha, h⟩ := h
  cases ry
  show wpAny _ _ (do return Value.bool (!(← contains (.ref a) v))) _ _ s
  exact wpAny_bind (has_own (R := fun r H' => Q (.bl (!r)) H') F T hb hr hx I rx ha h fun r z H' I' q => wpAny_pure ⟨.bl (!r), H', I', rfl, q⟩)
/-- len(o) -/
def rLenO (C : Addr) (sp : Sp) (E : XK) : List V → Hp → VK → Prop := fun xs H Q => ∃ a dx fs, xs = [.ref a] ∧ H a = some (.ins C dx fs) ∧ sp [.ref a] H (fun v H' => ∃ n : Nat, v = .int n ∧ n < 2 ^ 62 ∧ Q (.int n) H') E
theorem call_lenO (F : FnOk X.prog X.w X.K X.mg X.base CX k f fd ps sp) (T : OwnSp X.K C f "__len__") (hb : Binds X.K fd ps []) (hr : Room k X.A.in1) (hx : Passes CX X E) : CallR X (.builtin "len") (rLenO C sp E) := by
  intro pins s σ H xs us Q I r h
  obtain ⟨a, dx, fs, rfl, ha, h⟩ := h
  rw [Vals.ref1 r]
  obtain ⟨mA, J, _⟩ := ins_get I.hok ha
  obtain ⟨od, J, _⟩ := J.look
  refine Calls.call_function_entry kind_len plain_len entry_len (args_len1 _) ?_
  unfold Builtin.«len»
  refine wpAny_bind (m := oneArg "len" _) (wpAny_pure ?_)
  refine wpAny_bind (m := callSpecial? (.ref a) (Str.ofString "__len__")) (PySem.W.special_fn (name := Str.ofString "__len__") I.kIn J T.fi (beq_iff_eq.mp T.fn) ?_)
  refine thn (call_ownA (A := X.A.in1) F hb hr rfl hx I (.cons (show RelV (.ref a) (.ref a) from rfl) .nil) h) fun w z hw => ?_
  obtain ⟨y, H', I', ry, n, rfl, hn, q⟩ := hw
  obtain ⟨t, rfl⟩ := ry
  dsimp only
  refine wpAny_bind (wpAny_holding (wpAny_pure ?_))
  refine wpAny_bind (wpAny_letGo ?_)
  have h1 : ¬ ((n : Int) < 0) := by omega
  have h2 : ¬ ((n : Int) ≥ 2 ^ 63) := by omega
  refine wp_if_neg h1 ?_
  first
    | refine wp_if_neg h2 ?_
    | refine wpAny_bind (wpAny_pure (wp_if_neg h2 ?_))
  first
    | exact wpAny_bind (wpAny_mkInt (wpAny_pure ⟨_, rfl, .int n, H', I'.tok _, ⟨_, rfl⟩, q⟩))
    | exact wpAny_bind (wpAny_pure (wpAny_bind (wpAny_mkInt (wpAny_pure ⟨_, rfl, .int n, H', I'.tok _, ⟨_, rfl⟩, q⟩))))
/-- o[k] -/
def rIxO (C : Addr) (sp : Sp) (E : XK) : R2 := fun x y H Q => ∃ a dx fs, x = .ref a ∧ H a = some (.ins C dx fs) ∧ sp [.ref a, y] H Q E
theorem pe_ixO {a b : Expr} {ta tb : TE} {pos : Pos} (F : FnOk X.prog X.w X.K X.mg X.base CX k f fd ps sp) (T : OwnSp X.K C f "__getitem__") (hf : PySem.W.fnIn X.K f = true) (hb : Binds X.K fd ps []) (hr : Room k X.A.in1) (hx : Passes CX X E) (ha : PE X a ta) (hbb : PE X b tb)
    (hs : ∀ o i, subscripted b true o i = runValue (.builtin "lifetime.subscript" ⟨[o, i], []⟩) := by intro _ _; rfl) : PE X (.Subscript a b pos) (tOp (rIxO C sp E) ta tb) := by
  refine ⟨fun pins s σ H Q I h => ?_⟩
  refine Subscript_ (binT ha hbb I h fun v u s2 x y H2 I2 rx ry q => ?_)
  obtain ⟨p, dx, fs, rfl, hp, q⟩ := q
  cases rx
  obtain ⟨mA, J, _⟩ := ins_get I2.hok hp
  obtain ⟨od, J, _⟩ := J.look
  obtain ⟨m, hF⟩ := I2.fr
  exact PySem.W.sub_K hF I2.ok.mod.kin J T.fi hf T.fn (call_ownA (A := X.A.in1) F hb hr rfl hx I2 (.cons (show RelV (.ref p) (.ref p) from rfl) (.cons ry .nil)) q) (hs _ _)
end
end L2

/-! == of two dicts with tuple keys that hold the very same objects, or that are of unlike lengths -/
namespace L2
open PySem PySem.Spec PyProof.Rows
section
variable {prog : Program} {w : World} {K : Type} [DecidableEq K] {knd : HeapKind prog w K} {A : Around} {E : Value → Shared → Prop} {s : Shared}
theorem same_objs {nm : String} {a b : Addr} {xa xb : List (K × Addr × Value)} {Q : Bool → Shared → Prop} (hu : knd.room A) (ha : (a == sysModules) = false) (hb : (b == sysModules) = false) (da : s.heap.DictOfH knd a xa) (db : s.heap.DictOfH knd b xb)
    (hits : xa.length = xb.length → ∀ x ∈ xa, ∃ q r, x.2.2 = .ref r ∧ (x.1, q, Value.ref r) ∈ xb) (q : Q (decide (xa.length = xb.length)) s) : wpAny (model prog w) A (Builtin.Dict.samePairs nm a b) Q E s := by
  obtain ⟨oa, ea, pa, goa, _, gda, hea, hia, hna⟩ := da
  obtain ⟨ob, eb, pb, gob, _, gdb, heb, hib, hnb⟩ := db
  have sa : ea.size = xa.length := size_of_entries hea
  have sb : eb.size = xb.length := size_of_entries heb
  unfold Builtin.Dict.samePairs Builtin.Dict.showsAll
  rw [if_neg (show ¬ (a == sysModules) = true by rw [ha]; exact Bool.false_ne_true), if_neg (show ¬ (b == sysModules) = true by rw [hb]; exact Bool.false_ne_true)]
  refine wpAny_bind (wpAny_pure (wpAny_bind (wpAny_pure ?_)))
  refine wpAny_bind (wpAny_dictEntries goa gda ?_)
  dsimp only
  refine wpAny_bind (wpAny_dictEntries gob gdb ?_)
  by_cases hsz : xa.length = xb.length
  case neg =>
    rw [decide_eq_false hsz] at q
    refine wp_if_pos (by rw [sa, sb]; simpa using hsz) ?_
    exact wpAny_bind (wpAny_rule (wpAny_pure q))
  case pos =>
    rw [decide_eq_true hsz] at q
    have hits := hits hsz
    refine wp_if_neg (by rw [sa, sb, hsz]; simp) ?_
    first
      | refine wpAny_bind (wpAny_dictEpoch goa gda ?_)
      | refine wpAny_bind (wpAny_pure (wpAny_bind (wpAny_dictEpoch goa gda ?_)))
    refine wpAny_bind ?_
    rw [Std.Legacy.Range.forIn_eq_forIn_range']
    simp only [Std.Legacy.Range.size, Nat.sub_zero, Nat.add_sub_cancel, Nat.div_one]
    refine wpAny_forIn_list _ (fun rest r z => z = s ∧ r = (none, ()) ∧ ∀ i ∈ rest, i < xa.length) _ ?_ ?_ _ _ ⟨rfl, rfl, fun i hi => ?_⟩
    · rintro i rest r z ⟨rfl, rfl, hall⟩
      have hlt := hall i List.mem_cons_self
      have hx : xa[i]? = some xa[i] := List.getElem?_eq_getElem hlt
      have hm : xa[i] ∈ xa := List.getElem_mem hlt
      generalize xa[i] = x at hx hm
      obtain ⟨k, p, v⟩ := x
      obtain ⟨y, t, e, hy⟩ := hits _ hm
      dsimp only at e hy
      subst e
      refine wpAny_bind (wpAny_dictEntries goa gda ?_)
      rw [entry_at hea i, hx]
      show wpAny _ _ (holding [Value.ref p, Value.ref t] _ >>= _) _ _ _
      obtain ⟨j, hj, ej⟩ := List.getElem_of_mem hy
      have hjj : xb[j]? = some (k, y, Value.ref t) := by rw [List.getElem?_eq_getElem hj, ej]
      refine wpAny_bind (wpAny_holding (wpAny_bind (wpAny_dictFind_heap hu (hia _ hm) gob gdb heb hib hnb (fun no => absurd hjj (no j _)) fun j' pq hj' => ?_)))
      obtain rfl : j' = j := idxH_unique hnb hj' hjj
      refine wpAny_bind (wpAny_dictEntries gob gdb ?_)
      rw [entry_at heb j', hjj]
      refine wpAny_holding ?_
      show wpAny _ _ (eqBool (.ref t) (.ref t)) _ _ _
      unfold eqBool
      refine wpAny_holding (wp_if_pos (by simp) (wpAny_bind (wpAny_rule (wpAny_pure ?_))))
      simp only [Bool.not_true, Bool.false_eq_true, if_false]
      first
        | refine wpAny_bind (wpAny_dictEpoch goa gda ?_)
        | refine wpAny_bind (wpAny_pure (wpAny_bind (wpAny_dictEpoch goa gda ?_)))
      refine wp_if_neg (by simp) ?_
      first
        | exact wpAny_pure ⟨rfl, rfl, fun i hi => hall i (.tail _ hi)⟩
        | exact wpAny_bind (wpAny_pure (wpAny_pure ⟨rfl, rfl, fun i hi => hall i (.tail _ hi)⟩))
    · rintro r z ⟨rfl, rfl, _⟩
      exact wpAny_pure q
    · rw [sa] at hi
      have := List.mem_range'.mp hi
      omega
theorem eq_objs {a b : Addr} {xa xb : List (K × Addr × Value)} {Q : Value → Shared → Prop} (hu : knd.room A.in1) (hu2 : A.units < cLine) (ha : (a == sysModules) = false) (hb : (b == sysModules) = false) (da : s.heap.DictOfH knd a xa) (db : s.heap.DictOfH knd b xb)
    (hits : xa.length = xb.length → ∀ x ∈ xa, ∃ q r, x.2.2 = .ref r ∧ (x.1, q, Value.ref r) ∈ xb) (q : Q (.bool (decide (xa.length = xb.length))) s) : wpAny (model prog w) A (compareOp .Eq (.ref a) (.ref b)) Q E s := by
  have ta : s.TypeIs (.ref a) "dict" := let ⟨o, _, _, ho, hx, _⟩ := da; ⟨o, ho, hx.1⟩
  have tb : s.TypeIs (.ref b) "dict" := let ⟨o, _, _, ho, hx, _⟩ := db; ⟨o, ho, hx.1⟩
  refine wpAny_richCompare_same_room (op := .Eq) ta tb PySem.F.slot_dict_eq (wpAny_call_entry PySem.F.slot_dict_eq ta PySem.F.entry_dict_eq ?_ (PySem.F.args_dict_eq_2 _ _)) hu2
  show wpAny _ _ (Builtin.Dict.dictSlotArgs "__eq__" ⟨[.ref a, .ref b], []⟩ >>= _) _ _ s
  refine wpAny_bind ?_
  unfold Builtin.Dict.dictSlotArgs
  refine wpAny_bind (wpAny_notOrdered_dict ta ?_)
  show wpAny _ _ (pure (Value.ref a, Value.ref b)) _ _ s
  refine wpAny_pure (wpAny_bind (wpAny_isInstance (T := "dict") tb PySem.F.sub_dict_dict ?_))
  simp only [Bool.not_true, Bool.false_eq_true, if_false]
  refine wpAny_bind (wpAny_pure (wpAny_bind (wpAny_pure ?_)))
  refine wpAny_bind (same_objs hu ha hb da db hits ?_)
  refine wpAny_pure ⟨_, rfl, (fun x => nomatch x), ?_⟩
  simpa using q
end
theorem kt_hits {H : Hp} {ls : List (List Key × V)} {xb : List (List Key × Addr × Value)} (rb : KT H ls xb) : ∀ {ks : List (List Key × V)} {xa : List (List Key × Addr × Value)}, KT H ks xa → (∀ p ∈ ks, ∃ r, p.2 = .ref r ∧ valV ls p.1 = some (.ref r)) → ∀ x ∈ xa, ∃ q r, x.2.2 = Value.ref r ∧ (x.1, q, Value.ref r) ∈ xb := by
  intro ks xa ra
  induction ra with
  | nil => exact fun _ x hx => nomatch hx
  | @cons p x ks xa h _ more =>
    intro hp y hy
    rcases List.mem_cons.mp hy with rfl | hy
    · obtain ⟨r, e, hv⟩ := hp p List.mem_cons_self
      obtain ⟨e1, _, e3⟩ := h
      rw [e] at e3
      have ev : y.2.2 = Value.ref r := e3
      have z := rb.val p.1
      rw [hv] at z
      cases hk : atKey xb p.1 with
      | none => rw [hk] at z; exact (show False from z).elim
      | some m =>
        rw [hk] at z
        have z : m.2 = Value.ref r := z
        refine ⟨m.1, r, ev, ?_⟩
        unfold atKey at hk
        obtain ⟨t, ht, et⟩ := Option.map_eq_some_iff.mp hk
        have h1 := List.mem_of_find?_eq_some ht
        have h2 : t.1 = p.1 := by simpa using List.find?_some ht
        rw [show (y.1, m.1, Value.ref r) = t by rw [← e1, ← h2, ← et, ← z, ← et]]
        exact h1
    · exact more (fun q hq => hp q (.tail _ hq)) y hy
/-- d == e -/
def rEqT : R2 := fun x y H Q => ∃ a b ks ls, x = .ref a ∧ y = .ref b ∧ H a = some (.dT ks) ∧ H b = some (.dT ls) ∧ (ks.length = ls.length → ∀ p ∈ ks, ∃ r, p.2 = .ref r ∧ valV ls p.1 = some (.ref r)) ∧ Q (.bl (decide (ks.length = ls.length))) H
theorem op_eqT {X : Cx} (hu : X.A.units + 1 < cLine) : OpR X (compareOp .Eq) rEqT := by
  intro pins s σ H x y v u Q I rx ry h
  obtain ⟨a, b, ks, ls, rfl, rfl, ha, hb, hits, q⟩ := h
  cases rx
  cases ry
  obtain ⟨_, ya, xa, ra, da⟩ := dt_of I.hok ha
  obtain ⟨_, yb, xb, rb, db⟩ := dt_of I.hok hb
  have la : ks.length = xa.length := Paired.length ra
  have lb : ls.length = xb.length := Paired.length rb
  refine eq_objs (show X.A.in1.units < cLine from hu) (by omega) ya yb da db (fun e => kt_hits rb ra (hits (by omega))) ⟨.bl (decide (ks.length = ls.length)), H, I, ?_, q⟩
  rw [la, lb]
  rfl
end L2

/-! x(lambda a=e: body): a lambda with one default that it does not read -/
namespace LamX
open L2 PySem PyProof.Rows PySem.Spec
/-- the lambda's name in the tables of code, and what it holds of the names around it -/
abbrev lq (X : Cx) : Str := X.env.qual ++ "<lambda>"
abbrev lclo (X : Cx) (scope : Scope) : List (Str × Addr) := cloFrom X.env.cells scope.names []
/-- the lambda at f, its code at c, the tuple of its default u at D; nobody holds f and D -/
structure LamAt (X : Cx) (H : Hp) (h : Heap) (params : Arguments) (body : Expr) (scope : Scope) (u : Value) (f c D : Addr) : Prop where
  fn : ∃ doc pm ct, h.get? f = some (PySem.W.kdv_obj "<lambda>" (lq X) params (.expr body) scope (lclo X scope) (.ref D) doc pm c ct)
  tup : h.get? D = some (PySem.W.kdv_tup [u])
  off : ∀ b, b = f ∨ b = D → H b = none ∧ b ∉ frs X.stack
/-- a table of codes with one row more -/
def grown (H : Hp) (P : Addr) (ps : Array Value) (pos : Pos) (c : Addr) (q : Str) : Hp := upd (upd H P (.tbl (ps ++ #[rawInt pos.line, rawInt pos.col, .ref c]))) c (CodeO c q)
section
variable {T : List (Addr × Str)} {H : Hp} {P c : Addr} {ps : Array Value} {pos : Pos} {q : Str}
theorem grown_ext (hP : H P = some (.tbl ps)) (new : H c = none) : ExtN H (grown H P ps pos c q) := by
  intro b o hb nt
  have b1 : b ≠ c := ne_of_none hb new
  have b2 : b ≠ P := by
    intro z
    rw [z] at hb
    exact nt ps (Option.some.inj (hb.symm.trans hP))
  exact (upd_ne b1).trans ((upd_ne b2).trans hb)
theorem grown_tabs (hT : Tabs T H) (hP : H P = some (.tbl ps)) (ok : TriplesOk ps.toList) (one : ∀ p ∈ T, p.1 = P → p.2 = q) (new : H c = none) : Tabs T (grown H P ps pos c q) := by
  intro p hp
  obtain ⟨rs, at0, ok0, codes⟩ := hT p hp
  have old : ∀ {d : Addr}, H d = some (CodeO d p.2) → grown H P ps pos c q d = some (CodeO d p.2) := fun h => grown_ext hP new _ _ h codeO_ne
  by_cases same : p.1 = P
  · have er : rs = ps := by
      rw [same, hP] at at0
      injection at0 with z
      injection z with z
      exact z.symm
    subst er
    have el : (rs ++ #[rawInt pos.line, rawInt pos.col, Value.ref c]).toList = rs.toList ++ [rawInt pos.line, rawInt pos.col, .ref c] := Array.toList_append
    refine ⟨_, ?_, by rw [el]; exact PySem.TriplesOk_snoc _ _ _ _ ok, ?_⟩
    · rw [same]
      exact (upd_ne (ne_of_none hP new)).trans upd_same
    · intro p' cv found
      rw [el] at found
      refine (among_app _ ok found).elim (fun z => ?_) fun z => ⟨c, z, by rw [one p hp same]; exact upd_same⟩
      obtain ⟨d, e, k⟩ := codes p' cv z
      exact ⟨d, e, old k⟩
  · refine ⟨rs, (upd_ne (ne_of_none at0 new)).trans ((upd_ne same).trans at0), ok0, fun p' cv found => ?_⟩
    obtain ⟨d, e, k⟩ := codes p' cv found
    exact ⟨d, e, old k⟩
end
section
variable {X : Cx} {pins : List (Addr × Obj)} {σ : L2.St} {H : Hp} {s : Shared}
/-- a new address is nobody's and no frame -/
theorem new_off (I : Inv X pins σ H s) {b : Addr} (le : s.heap.objs.size ≤ b) : H b = none ∧ b ∉ frs X.stack := by
  refine ⟨I.hok.fresh le, fun z => ?_⟩
  cases List.mem_cons.mp (I.stkSub b z) with
  | inl e => exact absurd I.lt (by rw [← e]; exact Nat.not_lt_of_le le)
  | inr e => exact I.nofs le e
theorem lam_made {T : List (Addr × Str)} {c P : Addr} {params : Arguments} {body : Expr} {scope : Scope} {pos : Pos} {E : Value → Shared → Prop} {Q : Value → Shared → Prop} {u : Value} (I : Inv X pins σ H s) (TB : TabB X.base X.mg c P) (code : X.env.code = .ref c)
    (mem : (P, lq X) ∈ T) (one : ∀ p ∈ T, p.1 = P → p.2 = lq X) (hT : Tabs T H) (frees : ∀ y ∈ scope.names, y.2 = .free → ∃ c, X.env.cells.lookup y.1 = some c) (kw : params.kwonlyargs = [])
    (q : ∀ f d D H1 s1, Inv X pins σ H1 s1 → ExtN H H1 → Tabs T H1 → H1 d = some (CodeO d (lq X)) → LamAt X H1 s1.heap params body scope u f d D → Q (.ref f) s1) :
    wpAny (model X.prog X.w) X.A (makeFunction "<lambda>" (lq X) params (.expr body) scope X.env [u] [] [] pos pos.line) Q E s := by
  rw [makeFunction_eq]
  simp only [kw, List.zip_nil_left, List.filterMap_nil, List.isEmpty_nil, List.isEmpty_cons, Bool.false_eq_true, if_false, if_true, pure_bind]
  have I0 : Inv X pins σ H { s with heap := s.heap.push (PySem.W.kdv_tup [u]), toks := s.toks } := I.kept fun _ _ e => Heap.get?_push_of_some _ e
  have hD : (s.heap.push (PySem.W.kdv_tup [u])).get? s.heap.objs.size = some (PySem.W.kdv_tup [u]) := Heap.get?_push_size _ rfl
  have oD := new_off I (Nat.le_refl s.heap.objs.size)
  refine wpAny_bind (wpAny_newTextTuple ?_)
  have sz0 : s.heap.objs.size < (s.heap.push (PySem.W.kdv_tup [u])).objs.size := Heap.lt_size hD
  show wpAny _ _ _ _ _ { s with heap := s.heap.push (PySem.W.kdv_tup [u]), toks := s.toks }
  generalize hz : ({ s with heap := s.heap.push (PySem.W.kdv_tup [u]), toks := s.toks } : Shared) = z at I0
  have ez : z.heap = s.heap.push (PySem.W.kdv_tup [u]) := by rw [← hz]
  rw [← ez] at hD sz0
  generalize s.heap.objs.size = D at hD oD sz0
  obtain ⟨ps, hP, ok, codes⟩ := hT _ mem
  have gP : z.heap.get? P = some (PySem.W.tabObj ps) := I0.hok P _ hP
  have main := I0.mod.glob.keeps I0.bk
  have code0 := TB.code.keeps I0.bk
  have bts := TB.bm.keeps I0.bk
  cases found : codeAmong pos ps.toList with
  | some cv =>
    obtain ⟨d, rfl, hd⟩ := codes pos cv found
    refine PySem.W.kdv_makeTailHit (closure_ok frees) I0.ok.glob main code code0 gP ok found bts fun ct doc h' tk kp le => ?_
    have up : ∀ b o, z.heap.get? b = some o → (h'.push (PySem.W.kdv_obj "<lambda>" (lq X) params (.expr body) scope (lclo X scope) (.ref D) doc ((X.mg "__name__").getD .none) d ct)).get? b = some o := fun b o e => Heap.get?_push_of_some _ (kp b o e)
    refine q _ d D H _ (I0.kept up) (ExtN.refl H) hT hd ⟨⟨doc, _, ct, Heap.get?_push_size _ rfl⟩, up _ _ hD, fun b hb => ?_⟩
    rcases hb with rfl | rfl
    · exact new_off I0 le
    · exact oD
  | none =>
    refine PySem.W.kdv_makeTail (closure_ok frees) I0.ok.glob main code code0 gP ok found TB.gP bts fun d ct doc h' tk ext ge lt rec tab => ?_
    obtain ⟨d', oc, vs, t, e, r1, r2, r3⟩ := rec
    injection e with e
    subst e
    have nd := I0.hok.fresh ge
    have nP : D ≠ P := fun y => by
      rw [y, hP] at oD
      exact nomatch oD.1
    have lay := inv_table (h' := h'.push (PySem.W.kdv_obj "<lambda>" (lq X) params (.expr body) scope (lclo X scope) (.ref D) doc ((X.mg "__name__").getD .none) d ct)) (t' := tk) I0 hP (fun b o nb e => Heap.get?_push_of_some _ (ext b o nb e)) (Heap.get?_push_of_some _ tab) ge ⟨oc, vs, t, Heap.get?_push_of_some _ r1, r2, r3⟩
    have big := Nat.le_trans ge (Nat.le_of_lt lt)
    refine q _ d D (grown H P ps pos d (lq X)) _ lay (grown_ext hP nd) (grown_tabs hT hP ok one nd) upd_same ⟨⟨doc, _, ct, Heap.get?_push_size _ rfl⟩, Heap.get?_push_of_some _ (ext D _ nP hD), fun b hb => ?_⟩
    rcases hb with rfl | rfl
    · exact ⟨(upd_ne (Nat.ne_of_gt lt)).trans ((upd_ne (Nat.ne_of_gt (Nat.lt_of_lt_of_le (Heap.lt_size gP) big))).trans (I0.hok.fresh big)), (new_off I0 big).2⟩
    · exact ⟨(upd_ne (Nat.ne_of_lt (Nat.lt_of_lt_of_le sz0 ge))).trans ((upd_ne nP).trans oD.1), oD.2⟩
/-- one parameter a that the def around does not have, no other own names -/
structure LamD (N : List Str) (a : Str) (sc scope : Scope) : Prop where
  fun_ : scope.kind = .function ∧ scope.isCoroutine = false ∧ scope.isGenerator = false
  own : ∀ y ∈ scope.names, y.2 ≠ .cell ∧ (y.2 = .local → y.1 = a)
  held : ∀ y ∈ scope.names, y.2 = .free → (sc.names.lookup y.1 = some .cell ∨ sc.names.lookup y.1 = some .free)
  par : scope.names.lookup a = some .local
  out : a ∉ N
def lamDB (N : List Str) (a : Str) (sc scope : Scope) : Bool :=
  decide (scope.kind = .function) && !scope.isCoroutine && !scope.isGenerator && (scope.names.all fun y => !decide (y.2 = .cell) && (!decide (y.2 = .local) || y.1 == a) && (!decide (y.2 = .free) || decide (sc.names.lookup y.1 = some .cell) || decide (sc.names.lookup y.1 = some .free))) && decide (scope.names.lookup a = some .local) && !N.any (· == a)
theorem lamD_by {N : List Str} {a : Str} {sc scope : Scope} (h : lamDB N a sc scope = true) : LamD N a sc scope := by
  unfold lamDB at h
  simp only [Bool.and_eq_true, Bool.or_eq_true, Bool.not_eq_true', decide_eq_true_eq, decide_eq_false_iff_not, List.all_eq_true, beq_iff_eq] at h
  obtain ⟨⟨⟨⟨⟨h1, h2⟩, h3⟩, h4⟩, h5⟩, h6⟩ := h
  refine ⟨⟨h1, h2, h3⟩, fun y hy => ⟨(h4 y hy).1.1, fun e => (h4 y hy).1.2.resolve_left fun k => k e⟩, fun y hy e => ?_, h5, fun hm => ?_⟩
  · exact (or_assoc.mp (h4 y hy).2).resolve_left fun k => k e
  · have h7 : (N.any fun x => x == a) = true := List.any_eq_true.mpr ⟨a, hm, beq_self_eq_true a⟩
    exact nomatch h7.symm.trans h6
theorem LamD.has {N : List Str} {a : Str} {scope : Scope} (L : LamD N a X.env.scope scope) (ok : X.Ok) : ∀ y ∈ scope.names, y.2 = .free → ∃ c, X.env.cells.lookup y.1 = some c := fun y hy e => ok.has _ (L.held y hy e)
/-- a cell that the lambda holds is the cell around it, and each free name has one -/
theorem LamD.cell {N : List Str} {a : Str} {scope : Scope} (L : LamD N a X.env.scope scope) (ok : X.Ok) {y : Str} {c : Addr} (h : (lclo X scope).lookup y = some c) : X.env.cells.lookup y = some c := by
  rcases cloFrom_mem (PySem.mem_of_lookup h) with z | ⟨m, e⟩
  · exact nomatch z
  · have ⟨c1, h1⟩ := L.has ok _ m rfl
    rw [e, show X.env.cells.lookup y = some c1 from h1]
    rfl
theorem clo_has {scope : Scope} {y : Str} (h : scope.names.lookup y = some .free) : ∃ c, (lclo X scope).lookup y = some c := mem_lookup (cloFrom_has (acc := []) (PySem.mem_of_lookup h))
/-- the context of the body, when the call has laid its frame -/
theorem lam_entered {HZ : Hp} {s1 : Shared} {a : Str} {m : Str → Option Value} {A : Around} {outer : List Env} {E : XK} {scope : Scope} {f c : Addr} {h1 : Heap} {tk : Nat} (I : Inv X pins σ H s) (L : LamD X.N a X.env.scope scope) (e0 : Env0 X.prog X.w X.K X.mg X.base A outer s1 HZ) (calm : A.handled = none)
    (un : Un (frs X.stack) [] H HZ s.heap s1.heap) (ns : h1.Ns s1.heap.objs.size m) (kp : ∀ b o, s1.heap.get? b = some o → h1.get? b = some o) : Inv (lamCx X A outer s1 HZ E scope f c) [] σ HZ { s1 with heap := h1, toks := tk } := by
  have none_ : ∀ {b : Addr}, b ∉ ([] : List Addr) := fun z => nomatch z
  have through : ∀ {d : Addr} {v : Option Value}, H d = none → s.heap.IsCell d v → h1.IsCell d v := by
    rintro d v n ⟨o, ho, hd⟩
    obtain ⟨sl, ho'⟩ := un.any ho n none_
    exact ⟨_, kp _ _ ho', hd⟩
  have okL : (lamCx X A outer s1 HZ E scope f c).Ok :=
    { mod := e0.mod, kind := L.fun_.1, glob := rfl, blt := rfl, above := Nat.le_refl _, inj := fun x y d h1 h2 => I.ok.inj x y d (L.cell I.ok h1) (L.cell I.ok h2),
      has := fun x hx => (show scope.names.lookup x = some .cell ∨ scope.names.lookup x = some .free from hx).elim (fun z => absurd rfl (L.own _ (PySem.mem_of_lookup z)).1) clo_has,
      cab := fun _ _ z => (nomatch z), hd := fun _ => calm, frames := Around.frames_deeper e0.frames, stk := .inr ⟨rfl, rfl⟩, exf := fun _ z => absurd z none_, bs := e0.bs, bsz := e0.bsz, noex := fun _ _ _ => none_, exfs := fun _ z => absurd z none_, funs := e0.funs, frf := e0.frf }
  refine { ok := okL, os := rfl, bare := e0.bare, base := Un.kept kp, loc := ⟨_, ns, fun i y v hy hv vis => ?_⟩, cell := fun y d h => ?_, free := e0.hok.fresh (Nat.le_refl _), freeC := fun y d h => ?_, pin := fun p hp => (nomatch hp), hok := e0.hok.kept kp, len := I.len }
  · have vis : Vis scope y := vis
    have hy : X.N[i]? = some y := hy
    rcases vis with k | k | k
    · have ea : y = a := (L.own _ (PySem.mem_of_lookup k)).2 rfl
      exact absurd (List.mem_of_getElem? (ea ▸ hy)) L.out
    · exact absurd rfl (L.own _ (PySem.mem_of_lookup k)).1
    · have up := L.held _ (PySem.mem_of_lookup k) rfl
      obtain ⟨m0, -, look⟩ := I.loc
      obtain ⟨r, hr, at0⟩ := look i y v hy hv (.inr up)
      obtain ⟨d, hd⟩ := clo_has (X := X) k
      have hd0 := L.cell I.ok hd
      refine ⟨r, hr, .inr ⟨.inr k, d, hd, ?_⟩⟩
      rcases at0 with ⟨loc, -⟩ | ⟨-, d1, h2, isc⟩
      · have loc : X.env.scope.names.lookup y = some .local := loc
        rcases up with z | z <;> exact nomatch loc.symm.trans z
      · obtain rfl : d = d1 := Option.some.inj (hd0.symm.trans h2)
        exact through (I.freeC y d hd0) isc
  · have hd := L.cell I.ok h
    exact (I.cell y d hd).imp fun v z => through (I.freeC y d hd) z
  · have hd := L.cell I.ok h
    obtain ⟨v, o, ho, -⟩ := I.cell y d hd
    exact un.free d o ho (I.freeC y d hd) none_
/-- what a call ends in is the value of the call's expression -/
theorem call_ends {CX : CXT} {E : XK} {Q : VK} {Y : Cx} {pinsY : List (Addr × Obj)} {τ : L2.St} {G : Hp} {z : Shared} {v : Value} {us : List Value} (J : Inv Y pinsY τ G z) (pass : Passes CX Y E)
    (run : codeAny (model Y.prog Y.w) Y.A (.call v ⟨us, []⟩) (CR CX Y.stack Y.prog Y.w G z Q E) z) : wpAny (model Y.prog Y.w) Y.A (call v us) (EP Y pinsY τ Q) Y.xe z := by
  refine wpAny_call (codeAny_mono run ?_)
  rintro (e | fl) z' k
  · exact pass pinsY τ G z e z' J k
  · cases fl with
    | ret r => exact J.after k
    | _ => exact k.elim
/-- the lambda called with nothing, in the def that got it -/
theorem pe_actD {CXg : CXT} {Eg : XK} {Ng : List Str} {qg : Str} {sg : Scope} {g f c D : Addr} {cdg u : Value} {params : Arguments} {body : Expr} {scope : Scope} {k i : Nat} {a par : Str} {pn : List (Addr × Obj)} {xe : Value → Shared → Prop} {W : WX} {E : XK} {tb : TE} {p1 p2 : Pos} {Y : Cx}
    (eY : Y = (cxOf CXg X.prog X.w X.K X.mg X.base Ng qg sg g cdg X.A X.stack s H Eg).tr pn xe) (I : Inv X pins σ H s) (L : LamD X.N par X.env.scope scope) (F : LamAt X H s.heap params body scope u f c D)
    (binds : ∀ doc pm ct, ∃ k, bindArgs (PySem.W.kdv_fn "<lambda>" (lq X) params (.expr body) scope (lclo X scope) (.ref D) doc pm (.ref c) ct) ⟨[], []⟩ = seqItems? (.ref D) >>= k ∧ k (some #[u]) = pure [(par, u)])
    (tk : Takes Y W) (up : ∀ cls d τ G, E cls d G → W cls d τ G) (room : Room (k + 1) (X.A.deeper (envOfC qg sg s.heap.objs.size g cdg)))
    (hb : ∀ A outer s H, Room k (A.deeper (lamEnv X scope s.heap.objs.size f c)) → PE (lamCx X A outer s H E scope f c) body tb)
    (hN : Ng[i]? = some a) (vis : Vis sg a) (hd : (a == ("__debug__" : Str)) = false) (hcd : (a == ("__classdict__" : Str)) = false) :
    PE Y (.Call (.Name a p1) [] [] p2) fun τ G Q => τ[i]? = some (some (.ref f)) ∧ G c = some (CodeO c (lq X)) ∧ tb σ G Q := by
  subst eY
  constructor
  rintro pinsY sY τ G Q J ⟨at0, cod, rd⟩
  refine wpAny_Call_Name_kw (thn ((pe_var (pos := p1) hN vis hd hcd).run pinsY sY τ G (fun v G' => v = .ref f ∧ G' = G) J ⟨_, at0, rfl, rfl⟩) ?_)
  rintro y s1 ⟨v, G1, J1, rel, rfl, rfl⟩
  obtain rfl : y = Value.ref f := rel
  obtain ⟨doc, pm, ct, hf⟩ := F.fn
  have un : Un (frs X.stack) [] H G1 s.heap s1.heap := J1.base
  have hf1 := un.keep f _ hf (F.off f (.inl rfl)).1 (F.off f (.inl rfl)).2 (fun z => nomatch z)
  have hD1 := un.keep D _ F.tup (F.off D (.inr rfl)).1 (F.off D (.inr rfl)).2 (fun z => nomatch z)
  obtain ⟨⟨oc, vs, t, k1, k2, k3⟩, -, -⟩ := J1.hok c _ cod
  refine PySem.W.callWith_F0 ⟨_, _, _, _, hf1⟩ ?_
  refine call_ends (us := []) J1 (passes_call tk up) (PySem.W.kla_callFunE room.depth hf1 rfl L.fun_.2.1 L.fun_.2.2 rfl ⟨c, oc, vs, t, rfl, k1, k2, k3⟩ ?_)
  obtain ⟨kk, b1, b2⟩ := binds doc pm ct
  rw [b1]
  refine wpAny_bind (wpAny_seqItems hD1 rfl ?_)
  rw [show [u].toArray = #[u] from rfl, b2]
  refine wpAny_pure (wpAny_newFunctionEnv (fun y hy => (L.own y hy).1) (fun y hy => List.mem_singleton.mp hy ▸ L.par) (fun h1 ns sb => ⟨J1.nolimit.fresh _ sb, ?_⟩) L.fun_.1)
  have ent := lam_entered (E := E) (f := f) (c := c) (tk := s1.toks + [(par, u)].length) I L J1.env0 room.hd un ns fun b o e => sb.extBut b o (Nat.ne_of_lt (Heap.lt_size e)) (Heap.get?_push_of_some _ e)
  exact PySem.W.kla_codeExpr (wpAny_mono ((hb _ _ s1 G1 (room.deeper _)).run [] _ _ G1 Q ent rd) (fun _ _ ⟨w', G2, J2, rv, fin⟩ => ⟨w', G2, J2.os, J2.bare, J2.base, J2.hok, rv, fin⟩) fun _ _ z => z)
/-- x(lambda par=e: body) -/
theorem pe_lamcallD {T : List (Addr × Str)} {TT : (XK → Hp → VK → Prop) → Hp → VK → Prop} {x a par : Str} {g c P : Addr} {k : Nat} {pg : Arguments} {bg : List Stmt} {sg : Scope} {dV kV doc pm cdv ct oc : Value} {an od : Option Addr} {osl : Array (Option Value)} {Ng : List Str}
    {params : Arguments} {body e : Expr} {scope : Scope} {t : XK → TE} {p lpos pos : Pos} {n : Int} (hg : Gl X x) (hm : X.mg x = some (.ref g)) (hk : PySem.W.keepIn X.K (.ref g) = true)
    (lk : X.K.lookup g = some ⟨oc, od, .func (PySem.W.fnOf x x pg bg sg dV kV doc pm an cdv ct), osl⟩) (cg : PySem.W.codeIn X.K cdv x = true) (bs : L2.Binds X.K (PySem.W.fnOf x x pg bg sg dV kV doc pm an cdv ct) [a] []) (Sg : FnScope Ng [a] sg) (hNg : Ng[0]? = some a) (vis : Vis sg a)
    (hG : GivesTo X Ng x sg g cdv bg a (lq X) TT) (TB : TabB X.base X.mg c P) (code : X.env.code = .ref c) (mem : (P, lq X) ∈ T) (one : ∀ p ∈ T, p.1 = P → p.2 = lq X) (room : Room (k + 2) X.A) (L : LamD X.N par X.env.scope scope) (he : PE X e (tC (.int n))) (dfs : defaultsOf params X.env = ([eval e X.env], [])) (kw : params.kwonlyargs = [])
    (binds : ∀ (q : Str) (cl : List (Str × Addr)) (pm cv ctv u : Value) (D : Addr) (doc : Value), ∃ k, bindArgs (PySem.W.kdv_fn "<lambda>" q params (.expr body) scope cl (.ref D) doc pm cv ctv) ⟨[], []⟩ = seqItems? (.ref D) >>= k ∧ k (some #[u]) = pure [(par, u)])
    (hb : ∀ (A : Around) (outer : List Env) (s : Shared) (H : Hp) (E : XK) (f c : Addr), Room k (A.deeper (lamEnv X scope s.heap.objs.size f c)) → PE (lamCx X A outer s H E scope f c) body (t E))
    (h1 : (x == ("__debug__" : Str)) = false := by decide) (h2 : (a == ("__debug__" : Str)) = false := by decide) (h3 : (a == ("__classdict__" : Str)) = false := by decide) : PE X (.Call (.Name x p) [.Lambda params body scope lpos] [] pos) (tLam T TT t) where
  run pins s σ H Q I := by
    rintro ⟨tabs, give⟩
    have arm : wpAny (model X.prog X.w) X.A (eval (.Lambda params body scope lpos) X.env) (fun v s1 => ∃ f d D H1, v = .ref f ∧ Inv X pins σ H1 s1 ∧ ExtN H H1 ∧ Tabs T H1 ∧ H1 d = some (CodeO d (lq X)) ∧ ∃ u, LamAt X H1 s1.heap params body scope u f d D) X.xe s := by
      rw [arm_eval_Lambda, dfs]
      refine wpAny_bind (wpAny_bind (thn (he.run pins s σ H (fun _ G => G = H) I rfl) ?_))
      rintro u s0 ⟨_, _, I0, -, rfl⟩
      refine wpAny_bind (wpAny_holding (wpAny_pure (wpAny_pure (wpAny_bind (wpAny_holding (wpAny_pure ?_))))))
      exact lam_made I0 TB code mem one tabs (L.has I0.ok) kw fun f d D H1 s1 I1 ext tabs1 cod F => ⟨f, d, D, H1, rfl, I1, ext, tabs1, cod, u, F⟩
    refine wpAny_Call_Name_kw (ld_glob I hg hm (PySem.W.callWith_K (h₀ := X.base) I.ok.mod.kin hk ?_ (by rfl) (by rfl)) h1)
    show wpAny _ _ (spliced ((false, eval (.Lambda params body scope lpos) X.env) :: backTo pos (starEach [] X.env))) _ _ s
    refine Calls.spliced_cons (thn arm ?_)
    rintro v s1 ⟨f, d, D, H1, rfl, I1, ext, tabs1, cod, u, F⟩
    refine Calls.spliced_nil ⟨I1.kIn, call_ends (CX := C8.CX0) (E := C8.E0) I1 pass0 (run_ofS (N := Ng) (ps := [a]) (us := [.ref f]) (vs := [.ref f]) lk cg Sg room I1.env0 (bs s1 [.ref f] I1.kIn rfl) (.cons rfl .nil) rfl fun room1 => ?_)⟩
    obtain ⟨t1, ps1, rd1⟩ := hG f d s1 H1 Q (fun E G Q' => t E σ G Q') (fun W pn xe E p1 p2 tk up => pe_actD rfl I1 L F (fun doc pm ct => binds _ _ pm _ ct u D doc) tk up room1 (fun A outer s H r => hb A outer s H E f d r) hNg vis h2 h3) cod (give H1 ext tabs1)
    exact ⟨t1, ps1.nox, rd1⟩
end
end LamX

/-! t[::-1], t a tuple -/
namespace L2
open PySem PySem.Spec PyProof.Rows
section
variable {prog : Program} {w : World} {A : Around} {E : Value → Shared → Prop} {s : Shared}
theorem adjust_back (n : Nat) : Builtin.Slice.sliceAdjust none none (-1) (n : Int) = ((n : Int) - 1, -1) := by
  unfold Builtin.Slice.sliceAdjust
  simp
theorem places_back (n : Nat) : Builtin.Slice.slicePlaces ((n : Int) - 1) (-1) (-1) = n := by
  unfold Builtin.Slice.slicePlaces
  simp only [show ¬ ((-1 : Int) > 0) by decide, if_false, show (- -1 : Int) = 1 by decide, Int.ediv_one]
  split <;> omega
theorem pick_back (xs : Array Value) : ((List.range xs.size).filterMap fun (k : Nat) => xs[(((xs.size : Int) - 1) + (k : Int) * -1).toNat]?).toArray = xs.toList.reverse.toArray := by
  rw [← PySem.W.krv_pick]
  unfold slicePick
  rw [PySem.W.krv_bounds]
  show _ = ((sliceRange ((xs.size : Int) - 1) (-1) (-1)).filterMap (xs[·]?)).toArray
  rw [PySem.W.krv_sliceRange, List.filterMap_map]
  have same : ∀ l : List Nat, (∀ k ∈ l, k < xs.size) → l.filterMap (fun (k : Nat) => xs[(((xs.size : Int) - 1) + (k : Int) * -1).toNat]?) = l.filterMap ((fun x => xs[x]?) ∘ fun k => xs.size - 1 - k) := by
    intro l
    induction l with
    | nil => exact fun _ => rfl
    | cons k l more =>
      intro h
      have hk := h k List.mem_cons_self
      rw [List.filterMap_cons, List.filterMap_cons, more fun j hj => h j (.tail _ hj), show (((xs.size : Int) - 1) + (k : Int) * -1).toNat = xs.size - 1 - k by omega]
      rfl
  rw [same _ fun k hk => List.mem_range.mp hk]
theorem getItem_tuple_back {t sl : Addr} {items : Array Value} {vl vu vs : Value} {Q : Value → Shared → Prop} (ht : IsTup s.heap t items) (hs : s.heap.IsSliceOf sl vl vu vs) (pl : IsPart vl none) (pu : IsPart vu none) (ps : IsPart vs (some (-1)))
    (h : Q (.ref s.heap.objs.size) { s with heap := s.heap.push { cls := .type "tuple", data := .seq items.toList.reverse.toArray } }) (hsz : items.size ≤ sizeLine) : wpAny (model prog w) A (getItem (.ref t) (.ref sl)) Q E s := by
  have fit : sizeOk (.seq items.toList.reverse.toArray) := by
    show items.toList.reverse.toArray.size ≤ sizeLine
    rwa [List.size_toArray, List.length_reverse, Array.length_toList]
  obtain ⟨os, gos, gcs, gds⟩ := id hs
  have tys : s.TypeIs (.ref sl) "slice" := ⟨os, gos, gcs⟩
  unfold getItem
  try with_reducible refine wpAny_holding ?_
  first | refine wpAny_bind (wpAny_pure ?_) | skip
  refine wpAny_bind (wpAny_sequenceKey ht.typeIs (by decide) ?_)
  refine wpAny_bind (wpAny_callSpecial?_slot (name := Str.ofString "__getitem__") ht.typeIs PyProof.Rows.slot_tuple_getitem (wpAny_call_entry PyProof.Rows.slot_tuple_getitem ht.typeIs entry_tuple_getitem ?_ (args_tuple_getitem _ _)))
  show wpAny _ _ (Builtin.Tuple.tupleItemsOf (.ref t) >>= _) _ _ s
  refine wpAny_bind (tupleItemsOf_ ht (wpAny_bind (wpAny_typeOf tys ?_)))
  rw [if_pos (by decide)]
  refine wpAny_bind (m := Builtin.Slice.sliceApplied (.ref sl) (pure ((items.size : Nat) : Int))) ?_
  unfold Builtin.Slice.sliceApplied Builtin.Slice.sliceFields
  refine wpAny_bind (wpAny_bind (wpAny_field gos gds (x := vl) rfl (wpAny_bind (wpAny_field gos gds (x := vu) rfl (wpAny_bind (wpAny_field gos gds (x := vs) rfl (wpAny_pure ?_)))))))
  refine wpAny_bind (HT.slicePart_ ps ?_)
  refine wp_if_neg (by decide) ?_
  refine wpAny_bind (HT.slicePart_ pl (wpAny_bind (HT.slicePart_ pu (wpAny_bind (wpAny_pure ?_)))))
  show wpAny _ _ (match Builtin.Slice.sliceAdjust none none (-1) (items.size : Int) with | (lo, hi) => pure (lo, (-1 : Int), Builtin.Slice.slicePlaces lo hi (-1))) _ _ s
  rw [adjust_back]
  show wpAny _ _ (pure ((items.size : Int) - 1, (-1 : Int), Builtin.Slice.slicePlaces ((items.size : Int) - 1) (-1) (-1))) _ _ s
  rw [places_back]
  refine wpAny_pure ?_
  dsimp only
  refine wp_if_neg (by simp) ?_
  rw [pick_back]
  first
    | exact wpAny_bind (m := Builtin.Tuple.tupleExact _) (wpAny_newObj_type (wpAny_pure ⟨_, rfl, wpAny_pure h⟩) fit)
    | exact wpAny_bind (m := Builtin.Tuple.tupleExact _) (wpAny_newObj_type (wpAny_bind (wpAny_pure (wpAny_pure ⟨_, rfl, wpAny_pure h⟩))) fit)
    | exact wpAny_bind (wpAny_bind (m := Builtin.Tuple.tupleExact _) (wpAny_newObj_type (wpAny_pure (wpAny_pure ⟨_, rfl, wpAny_pure h⟩)) fit))
    | exact wpAny_bind (wpAny_bind (m := Builtin.Tuple.tupleExact _) (wpAny_newObj_type (wpAny_pure ⟨_, rfl, wpAny_pure h⟩) fit))
end
section
variable {X : Cx}
def tRevT (K : PySem.W.Frag) (te : TE) : TE := fun σ H Q => te σ H fun x H1 => ∃ a xs, x = .ref a ∧ SqT K H1 a xs ∧ ∀ p, H1 p = none → Q (.ref p) (upd H1 p (.tup xs.reverse))
theorem pe_revT {e : Expr} {te : TE} {k : Nat} {p1 p2 p3 pos : Pos} (he : PE X e te) : PE X (.Subscript e (.Slice none none (some (.UnaryOp .USub (.Constant (.int 1) k p1) p2)) p3) pos) (tRevT X.K te) := by
  refine ⟨fun pins s σ H Q I h => ?_⟩
  refine Subscript_ (thn (he.run pins s σ H _ I h) fun v s1 ⟨x, H1, I1, r1, q1⟩ => ?_)
  obtain ⟨a, xs, rfl, hx, q⟩ := q1
  cases r1
  have back : PO X (some (.UnaryOp .USub (.Constant (.int 1) k p1) p2)) (tPart (tUn (rU fun i => .int (-i)) (tC (.int 1)))) := po_some (pe_un un_neg pe_int)
  refine wpAny_Slice (thn (po_none.run pins s1 σ H1 (fun o H2 => o = none ∧ H2 = H1) I1 ⟨rfl, rfl⟩) fun vl s2 ⟨l, H2, I2, pl, el, e2⟩ => ?_)
  subst el e2
  refine thn (po_none.run pins s2 σ H2 (fun o H3 => o = none ∧ H3 = H2) I2 ⟨rfl, rfl⟩) fun vu s3 ⟨u, H3, I3, pu, eu, e3⟩ => ?_
  subst eu e3
  refine thn (back.run pins s3 σ H3 (fun o H4 => o = some (-1) ∧ H4 = H3) I3 ⟨1, rfl, -1, rfl, rfl, rfl⟩) fun vs s4 ⟨o, H4, I4, ps, eo, e4⟩ => ?_
  subst eo e4
  have I5 : Inv X pins σ H4 { s4 with heap := s4.heap.push { cls := .type "slice", data := .fields #[vl, vu, vs] } } := I4.kept (t' := s4.toks) fun b ob q => Heap.get?_push_of_some _ q
  obtain ⟨its, r, ht, hz⟩ := I5.tuple hx
  show wpAny (model X.prog X.w) X.A (subscriptTail e (.Slice none none (some (.UnaryOp .USub (.Constant (.int 1) k p1) p2)) p3) (.ref a) (.ref s4.heap.objs.size)) (EP X pins σ Q) X.xe { s4 with heap := s4.heap.push { cls := .type "slice", data := .fields #[vl, vu, vs] } }
  refine tail_any (ops := [.ref a, .ref s4.heap.objs.size]) ht.typeIs PyProof.Rows.slot_tuple_getitem.lookup ?_ (by with_unfolding_all rfl)
  have hlen := r.length
  refine getItem_tuple_back ht (Heap.IsSliceOf.new _ vl vu vs) pl pu ps ?_ (by rw [List.size_toArray]; omega)
  refine ⟨.ref _, _, I5.laid (t' := s4.toks) (o := .tup xs.reverse) (fun b ob q => Heap.get?_push_of_some _ q) (Nat.le_refl _) ?_, rfl, q _ (I5.hok.fresh (Nat.le_refl _))⟩
  exact ⟨by rw [List.length_reverse]; exact hz, _, r.reverse, IsTup.new _ _⟩
end
end L2

namespace Half
open PySem PySem.Spec PyProof.Rows L2
/-! ### data of texts, numbers and tuples -/
mutual
inductive TD (K : PySem.W.Frag) (H : Hp) : V → PyData → Prop
  | bl (b : Bool) : TD K H (.bl b) (.bool b)
  | int (i : Int) : TD K H (.int i) (.int i)
  | str (x : Str) : TD K H (.str x) (.str x)
  | tup {a : Addr} {xs : List V} {ds : List PyData} : SqT K H a xs → TDAll K H xs ds → TD K H (.ref a) (.tuple ds)
inductive TDAll (K : PySem.W.Frag) (H : Hp) : List V → List PyData → Prop
  | nil : TDAll K H [] []
  | cons {v : V} {vs : List V} {d : PyData} {ds : List PyData} : TD K H v d → TDAll K H vs ds → TDAll K H (v :: vs) (d :: ds)
end
/-- every tuple stands -/
def Kp (K : PySem.W.Frag) (H H' : Hp) : Prop := ∀ a xs, SqT K H a xs → SqT K H' a xs
theorem _root_.L2.Same.kp {K : PySem.W.Frag} {H H' : Hp} (s : Same H H') : Kp K H H' := fun _ _ h => s.sqT h
theorem Kp.refl {K : PySem.W.Frag} {H : Hp} : Kp K H H := fun _ _ h => h
theorem Kp.trans {K : PySem.W.Frag} {H H1 H2 : Hp} (a : Kp K H H1) (b : Kp K H1 H2) : Kp K H H2 := fun _ _ h => b _ _ (a _ _ h)
theorem Kp.upd {K : PySem.W.Frag} {H : Hp} {p : Addr} {o u : HO} (hp : H p = some o) (h1 : ∀ xs, o ≠ .tup xs) (h2 : ∀ q xs, o ≠ .frz q (.tup xs)) : Kp K H (L2.upd H p u) := fun a xs h => by
  rcases h with (h | ⟨q, h⟩) | h
  · exact .inl (.inl (by rw [upd_ne (ne_of h hp (fun z => h1 _ z.symm))]; exact h))
  · exact .inl (.inr ⟨q, by rw [upd_ne (ne_of h hp (fun z => h2 _ _ z.symm))]; exact h⟩)
  · exact .inr h
mutual
theorem TD.kp {K : PySem.W.Frag} {H H' : Hp} (k : Kp K H H') : ∀ {v : V} {d : PyData}, TD K H v d → TD K H' v d
  | _, _, .bl b => .bl b
  | _, _, .int i => .int i
  | _, _, .str x => .str x
  | _, _, .tup h hs => .tup (k _ _ h) (TDAll.kp k hs)
theorem TDAll.kp {K : PySem.W.Frag} {H H' : Hp} (k : Kp K H H') : ∀ {vs : List V} {ds : List PyData}, TDAll K H vs ds → TDAll K H' vs ds
  | _, _, .nil => .nil
  | _, _, .cons h hs => .cons (TD.kp k h) (TDAll.kp k hs)
end
mutual
theorem TD.dp {K : PySem.W.Frag} {H : Hp} : ∀ {v : V} {d : PyData}, TD K H v d → Dp K H v d
  | _, _, .bl b => .bl b
  | _, _, .int i => .int i
  | _, _, .str x => .str x
  | _, _, .tup h hs => .tup h (TDAll.dp hs)
theorem TDAll.dp {K : PySem.W.Frag} {H : Hp} : ∀ {vs : List V} {ds : List PyData}, TDAll K H vs ds → DpAll K H vs ds
  | _, _, .nil => .nil
  | _, _, .cons h hs => .cons (TD.dp h) (TDAll.dp hs)
end
theorem TDAll.len {K : PySem.W.Frag} {H : Hp} : ∀ {vs : List V} {ds : List PyData}, TDAll K H vs ds → vs.length = ds.length
  | _, _, .nil => rfl
  | _, _, .cons _ hs => congrArg Nat.succ hs.len
theorem TDAll.strs {K : PySem.W.Frag} {H : Hp} : ∀ {vs : List V} {ss : List Str}, TDAll K H vs (ss.map PyData.str) → vs = ss.map V.str
  | _, [], h => by cases h; rfl
  | _, z :: ss, h => by
    cases h with
    | cons h hs =>
      cases h
      rw [TDAll.strs hs]
      rfl
theorem TDAll.pairs {K : PySem.W.Frag} {H : Hp} : ∀ {vs : List V} {ps : List (Str × Int)}, TDAll K H vs (ps.map pairD) → ∃ ts : List Addr, vs = ts.map V.ref ∧ ts.length = ps.length ∧ ∀ (i : Nat) t p, ts[i]? = some t → ps[i]? = some p → SqT K H t [.str p.1, .int p.2]
  | _, [], h => by cases h; exact ⟨[], rfl, rfl, fun i t p h _ => by simp at h⟩
  | _, q :: ps, h => by
    cases h with
    | cons h hs =>
      obtain ⟨ts, rfl, hl, ht⟩ := TDAll.pairs hs
      cases h with
      | @tup a xs ds hq hd =>
        cases hd with
        | cons h1 hd =>
          cases hd with
          | cons h2 hd =>
            cases hd
            cases h1
            cases h2
            refine ⟨a :: ts, rfl, by simp [hl], fun i t p e1 e2 => ?_⟩
            cases i with
            | zero =>
              have z1 : a = t := by simpa using e1
              have z2 : q = p := by simpa using e2
              subst z1 z2
              exact hq
            | succ i => exact ht i t p (by simpa using e1) (by simpa using e2)
theorem TD.strs {K : PySem.W.Frag} {H : Hp} {v : V} {ss : List Str} (h : TD K H v (.tuple (ss.map PyData.str))) : ∃ a, v = .ref a ∧ SqT K H a (ss.map V.str) := by
  cases h with
  | tup hq hd =>
    rw [hd.strs] at hq
    exact ⟨_, rfl, hq⟩
theorem TD.needs {K : PySem.W.Frag} {H : Hp} {v : V} {ps : List (Str × Int)} (h : TD K H v (.tuple (ps.map pairD))) : ∃ a, v = .ref a ∧ NeedsAt K H a ps := by
  cases h with
  | tup hq hd =>
    obtain ⟨ts, rfl, hl, ht⟩ := hd.pairs
    exact ⟨_, rfl, ts, hq, hl, ht⟩
/-! ### displays of written data -/
def Y (K : PySem.W.Frag) (t : TE) (d : PyData) : Prop := ∀ σ H Q, (∀ v H', Same H H' → TD K H' v d → Q v H') → t σ H Q
def YA (K : PySem.W.Frag) (t : TA) (ds : List PyData) : Prop := ∀ σ H Q, (∀ vs H', Same H H' → TDAll K H' vs ds → Q vs H') → t σ H Q
section
variable {K : PySem.W.Frag}
theorem Y.str {z : Str} : Y K (tC (.str z)) (.str z) := fun _ H _ h => h _ H (Same.refl H) (.str z)
theorem Y.int {i : Int} : Y K (tC (.int i)) (.int i) := fun _ H _ h => h _ H (Same.refl H) (.int i)
theorem Y.bl {b : Bool} : Y K (tC (.bl b)) (.bool b) := fun _ H _ h => h _ H (Same.refl H) (.bl b)
theorem YA.nil : YA K tNil [] := fun _ H _ h => h _ H (Same.refl H) .nil
theorem YA.cons {t : TE} {ts : TA} {d : PyData} {ds : List PyData} (a : Y K t d) (b : YA K ts ds) : YA K (tCons t ts) (d :: ds) := fun σ H Q h =>
  a σ H _ fun v H1 s1 t1 => b σ H1 _ fun vs H2 s2 t2 => h (v :: vs) H2 (s1.trans s2) (.cons (t1.kp s2.kp) t2)
theorem Y.tup {ta : TA} {ds : List PyData} (a : YA K ta ds) (hl : ds.length ≤ 100 := by simp) : Y K (tTup ta) (.tuple ds) := fun σ H Q h =>
  a σ H _ fun vs H1 s1 t1 => ⟨by rw [t1.len, sizeLine_eq]; omega, fun p hp => h (.ref p) _ (s1.trans (Same.upd_new hp)) (.tup (.inl (.inl upd_same)) (t1.kp (Same.upd_new hp).kp))⟩
end
/-! ### d[k] = v as a target -/
theorem set_dict {X : Cx} (hu : X.A.units + 1 < cLine) : PSet X (fun o i v H Q => ∃ a H4, o = .ref a ∧ DPut H a i v H4 ∧ Q H4) := by
  intro pins s σ H o i v ov iv u Q I ro ri rv h
  obtain ⟨a, H4, rfl, g, q⟩ := h
  cases ro
  exact d_setItem hu I g ri rv fun s4 I4 => ⟨H4, I4, q⟩
end Half

namespace Half
open PySem PySem.Spec PyProof.Rows L2
abbrev EiPs : List Str := ["self", "name", "version", "scripts", "needs", "first", "against"]
/-- Edition's __init__ as the top has made it, with its defaults -/
structure EdF (P : Program) (w : World) (K : PySem.W.Frag) (mg : Str → Option Value) (base : Heap) (C CE : Addr) (f : Addr) (fd : FuncData) (aS z1 z2 z3 : Addr) : Prop where
  ok : FnOk P w K mg base (L2.CX P w) 6 f fd EiPs (spEi K C CE)
  fn : FunD K "__init__" "Edition.__init__" (defArgs sEi) (defBody sEi) (defScope sEi) [] [("scripts", .ref aS), ("needs", .ref z1), ("first", .ref z2), ("against", .ref z3)] f fd
  make : Mk K C f
  mgC : mg "Edition" = some (.ref C)
  tS : ∀ H, SqT K H aS (SCR.map V.str)
  t1 : ∀ H, SqT K H z1 []
  t2 : ∀ H, SqT K H z2 []
  t3 : ∀ H, SqT K H z3 []
section
variable {P : Program} {w : World} {K : PySem.W.Frag} {mg : Str → Option Value} {base : Heap} {C CE : Addr} {f : Addr} {fd : FuncData} {aS z1 z2 z3 : Addr}
theorem EdF.kb4 (D : EdF P w K mg base C CE f fd aS z1 z2 z3) : ∃ g, KBn K fd EiPs 3 ["scripts", "needs", "first", "against"] g (fun vs zs => vs ++ zs) := by
  obtain ⟨mv, h⟩ := D.fn.kbinds0 (ps := EiPs) 3 ["scripts", "needs", "first", "against"] [] (fun us _ ws => us ++ ws) (by simp) (fun q h => by cases h) (fun r1 _ r3 => r1.append r3)
    (fun D doc pm an cdv ct us mv ws h1 h2 h3 => match us, ws, h1, h3 with | [_, _, _], [_, _, _, _], _, _ => rfl)
  exact ⟨_, h⟩
theorem EdF.kb1 (D : EdF P w K mg base C CE f fd aS z1 z2 z3) : ∃ g, KBn K fd EiPs 3 ["scripts"] g (fun vs zs => vs ++ zs ++ [.ref z1, .ref z2, .ref z3]) := by
  obtain ⟨mv, h⟩ := D.fn.kbinds0 (ps := EiPs) 3 ["scripts"] [("needs", .ref z1), ("first", .ref z2), ("against", .ref z3)] (fun us mv ws => us ++ ws ++ mv) (by simp) (fun q h => List.mem_cons_of_mem _ h) (fun r1 r2 r3 => (r1.append r3).append r2)
    (fun D doc pm an cdv ct us mv ws h1 h2 h3 => match us, mv, ws, h1, h2, h3 with | [_, _, _], [_, _, _], [_], _, _, _ => ⟨_, _, _, _, _, _, rfl, rfl, _, _, _, _, _, _, rfl, rfl, _, _, _, _, _, _, rfl, rfl, rfl⟩)
  exact ⟨_, h⟩
theorem EdF.b0 (D : EdF P w K mg base C CE f fd aS z1 z2 z3) : ∃ ds, Vals [.ref aS, .ref z1, .ref z2, .ref z3] ds ∧ Binds K fd EiPs ds :=
  D.fn.binds0 (ps := EiPs) 3 (by simp) rfl (fun D doc pm an cdv ct us ks h1 h2 => match us, ks, h1, h2 with | [_, _, _], [_, _, _, _], _, _ => ⟨_, _, _, _, _, _, rfl, rfl, _, _, _, _, _, _, rfl, rfl, _, _, _, _, _, _, rfl, rfl, _, _, _, _, _, _, rfl, rfl, rfl⟩)
end
end Half

namespace Half
open PySem PySem.Spec PyProof.Rows L2
/-- a property -/
structure Prp (P : Program) (w : World) (K : PySem.W.Frag) (mg : Str → Option Value) (base : Heap) (C : Addr) (x : Str) (i : Nat) : Prop where
  ex : ∃ p g fd, PropOf K C x p g ∧ FnOk P w K mg base CX0 1 g fd ["self"] (spGet C i) ∧ Binds K fd ["self"] []
theorem pe_prp {X : Cx} {C : Addr} {x : Str} {i : Nat} {e : Expr} {pos : Pos} {ta : TE} (D : Prp X.prog X.w X.K X.mg X.base C x i) (cl : Cls X.K C) (hr : Room 2 X.A) (he : PE X e ta) (hab : attributeBase e x X.env (eval e X.env) = eval e X.env := by rfl) :
    PE X (.Attribute e x pos) (tProp C (spGet C i) [] E0 ta) := by
  obtain ⟨p, g, fd, h1, h2, h3⟩ := D.ex
  exact pe_prop he cl h1 h2 hr h3 .nil pass0 hab
/-- == of editions -/
structure EqF (P : Program) (w : World) (K : PySem.W.Frag) (mg : Str → Option Value) (base : Heap) (C : Addr) : Prop where
  ex : ∃ f fd, FnOk P w K mg base CX0 1 f fd ["self", "other"] (spEq K C) ∧ OwnEqC K C f ∧ Binds K fd ["self", "other"] []
theorem op_eqE {X : Cx} {C : Addr} (D : EqF X.prog X.w X.K X.mg X.base C) (hr : Room 2 X.A) : OpR X (compareOp .Eq) (rEqO C (spEq X.K C) id) := by
  obtain ⟨f, fd, h1, h2, h3⟩ := D.ex
  exact op_eqO h1 h2 h3 (hr.mono (by decide))
theorem op_neE {X : Cx} {C : Addr} (D : EqF X.prog X.w X.K X.mg X.base C) (hr : Room 2 X.A) : OpR X (compareOp .NotEq) (rEqO C (spEq X.K C) not) := by
  obtain ⟨f, fd, h1, h2, h3⟩ := D.ex
  exact op_neO h1 h2 h3 hr
/-- all that the law asks of Edition -/
structure EdAll (P : Program) (w : World) (K : PySem.W.Frag) (mg : Str → Option Value) (base : Heap) (C CE : Addr) : Prop where
  ei : ∃ f fd aS z1 z2 z3, EdF P w K mg base C CE f fd aS z1 z2 z3
  eq : EqF P w K mg base C
  cl : Cls K C
  p0 : Prp P w K mg base C "name" 0
  p1 : Prp P w K mg base C "version" 1
  p2 : Prp P w K mg base C "scripts" 2
  p3 : Prp P w K mg base C "needs" 3
  p4 : Prp P w K mg base C "first" 4
  p5 : Prp P w K mg base C "against" 5
theorem EdIs.ins {K : PySem.W.Frag} {H : Hp} {C a : Addr} {e : Ed} (h : EdIs K H C a e) : ∃ dx fs, H a = some (.ins C dx fs) := by
  obtain ⟨⟨s, n, f, g, ⟨dx, p, h1, h2⟩, h3⟩, _⟩ := h
  exact ⟨dx, _, h1⟩
/-- how a == b of editions is read -/
theorem eqO_read {K : PySem.W.Frag} {H : Hp} {C a b : Addr} {e e' : Ed} {fl : Bool → Bool} {Q : VK} (h1 : EdIs K H C a e) (h2 : EdIs K H C b e') (q : Q (.bl (fl (PyData.eqv e.data e'.data))) H) : rEqO C (spEq K C) fl (.ref a) (.ref b) H Q := by
  obtain ⟨dx, fs, ha⟩ := h1.ins
  obtain ⟨dy, gs, hb⟩ := h2.ins
  exact ⟨a, b, dx, dy, fs, gs, rfl, rfl, ha, hb, a, b, e, e', rfl, h1, h2, _, rfl, q⟩
/-- an edition with nothing but its name and version -/
def edP (nm : Str) (v : Int) : Ed := ⟨nm, .int v, SCR, [], [], []⟩
theorem edP_ok {nm : Str} {v : Int} (h1 : isWord nm = true) (h2 : 1 ≤ v) (h3 : v ≤ 99) : (edP nm v).wrong = none := by
  have a1 : inR (.int v) 1 99 = true := by show (decide (1 ≤ v) && decide (v ≤ 99)) = true; rw [decide_eq_true h2, decide_eq_true h3]; rfl
  have a2 : areScripts SCR = true := by decide +kernel
  have a3 : areNeeds [] nm = true := by rfl
  have a4 : areOthers [] nm = true := by rfl
  unfold Ed.wrong Ed.checks edP
  simp only [h1, a1, a2, a3, a4]
  rfl
theorem edP_small {nm : Str} {v : Int} (h : nm.length ≤ 1000) : (edP nm v).Small := ⟨h, .inl ⟨v, rfl⟩, (by decide : SCR.length ≤ 100), ⟨Nat.zero_le _, fun p hp => by cases hp⟩, ⟨Nat.zero_le _, fun p hp => by cases hp⟩, ⟨Nat.zero_le _, fun p hp => by cases hp⟩⟩
theorem NeedsAt.nil {K : PySem.W.Frag} {H : Hp} {a : Addr} (h : SqT K H a []) : NeedsAt K H a [] := ⟨[], h, rfl, fun i t p h _ => by simp at h⟩
theorem ite_no {b : Bool} {A B : Prop} (hb : b = false) (h : B) : if b = true then A else B := by
  rw [hb]
  exact iteF h
theorem ite_yes {b : Bool} {A B : Prop} (hb : b = true) (h : A) : if b = true then A else B := by
  rw [hb]
  exact iteT h
/-- an edition is made that has nothing wrong -/
theorem mk_read {K : PySem.W.Frag} {H : Hp} {C CE x dx s n f g : Addr} {e : Ed} {Q : Hp → Prop} {E : XK} (nx : H x = none) (ndx : H dx = none) (hE : EdAt K H e s n f g) (sm : e.Small) (hw : e.wrong = none) (k : ∀ H', Same H H' → EdObj K H' C x e s n f g → Q H') :
    spEi K C CE [.ref x, .str e.name, e.version, .ref s, .ref n, .ref f, .ref g] (upd (upd H dx (.own x)) x (.ins C dx [])) (fun v H3 => v = .non ∧ Q H3) E := by
  have sx : Same H (upd (upd H dx (.own x)) x (.ins C dx [])) := fun b o q => by
    rw [upd_ne (ne_of_none q nx), upd_ne (ne_of_none q ndx)]
    exact q
  refine ⟨x, dx, e, s, n, f, g, rfl, upd_same, hE.same sx, sm, fun _ H' sb ho => ⟨rfl, k H' (fun b o q => sb _ _ (ne_of_none q nx) (sx _ _ q)) ho⟩, fun p hp => ?_⟩
  rw [hw] at hp
  cases hp
theorem edP_is {K : PySem.W.Frag} {H : Hp} {C a s n f g : Addr} {nm : Str} {v : Int} (h : EdObj K H C a (edP nm v) s n f g) (hs : PyData.strOk nm = true) : EdIs K H C a (edP nm v) := by
  refine ⟨⟨s, n, f, g, h⟩, .inl ⟨v, rfl⟩, ?_⟩
  have a1 : PyData.strOk "clean" = true := by decide +kernel
  have a2 : PyData.strOk "enter" = true := by decide +kernel
  have a3 : PyData.strOk "leave" = true := by decide +kernel
  have a4 : PyData.strOk "setup" = true := by decide +kernel
  simp [SeqAt.shaped, edP, Ed.data, verD, SCR, PyData.canLay0, PyData.canLayAll0, PyData.depth, PyData.depthAll, hs, a1, a2, a3, a4]
end Half

namespace Half
open PySem PySem.Spec PyProof.Rows L2
/-! ### different ones, in the order in which they are met -/
section
variable {α : Type} [DecidableEq α]
def has (l : List α) (x : α) : Bool := l.any fun y => decide (y = x)
theorem has_iff {l : List α} {x : α} : has l x = true ↔ x ∈ l := by
  unfold has
  rw [List.any_eq_true]
  exact ⟨fun ⟨y, h, e⟩ => of_decide_eq_true e ▸ h, fun h => ⟨x, h, decide_eq_true rfl⟩⟩
theorem has_no {l : List α} {x : α} (h : x ∉ l) : has l x = false := by
  cases e : has l x
  · rfl
  · exact absurd (has_iff.mp e) h
theorem not_has {l : List α} {x : α} (h : has l x = false) : x ∉ l := fun m => by
  rw [has_iff.mpr m] at h
  exact nomatch h
def dstep (acc : List α) (x : α) : List α := if has acc x = true then acc else acc ++ [x]
def dset (l : List α) : List α := l.foldl dstep []
theorem dset_snoc (l : List α) (x : α) : dset (l ++ [x]) = dstep (dset l) x := by
  unfold dset
  rw [List.foldl_append]
  rfl
theorem snoc_ind {p : List α → Prop} (h0 : p []) (h1 : ∀ l x, p l → p (l ++ [x])) (l : List α) : p l := by
  have key : ∀ n (l : List α), l.length = n → p l := by
    intro n
    induction n with
    | zero => intro l e; rw [List.eq_nil_of_length_eq_zero e]; exact h0
    | succ n ih =>
      intro l e
      have hne : l ≠ [] := fun z => by rw [z] at e; cases e
      rw [← List.dropLast_concat_getLast hne]
      exact h1 _ _ (ih _ (by rw [List.length_dropLast, e]; rfl))
  exact key _ l rfl
theorem mem_dstep {acc : List α} {x y : α} : y ∈ dstep acc x ↔ y ∈ acc ∨ y = x := by
  unfold dstep
  split
  · rename_i h
    exact ⟨.inl, fun z => z.elim id fun e => e ▸ has_iff.mp h⟩
  · rw [List.mem_append, List.mem_singleton]
theorem mem_dset (l : List α) (y : α) : y ∈ dset l ↔ y ∈ l := by
  induction l using snoc_ind with
  | h0 => simp [dset]
  | h1 l x ih => rw [dset_snoc, mem_dstep, ih, List.mem_append, List.mem_singleton]
theorem dset_nodup (l : List α) : (dset l).Nodup := by
  induction l using snoc_ind with
  | h0 => exact .nil
  | h1 l x ih =>
    rw [dset_snoc]
    unfold dstep
    split
    · exact ih
    · rename_i h
      refine List.nodup_append.mpr ⟨ih, List.nodup_cons.mpr ⟨by simp, .nil⟩, fun a ha b hb e => ?_⟩
      rw [List.mem_singleton.mp hb] at e
      subst e
      exact h (has_iff.mpr ha)
def nd (l : List α) : Nat := (dset l).length
theorem nd_snoc (l : List α) (x : α) : nd (l ++ [x]) = if has l x = true then nd l else nd l + 1 := by
  unfold nd
  rw [dset_snoc]
  unfold dstep
  have e : has (dset l) x = has l x := by
    cases q : has l x
    · exact has_no fun z => not_has q ((mem_dset l x).mp z)
    · exact has_iff.mpr ((mem_dset l x).mpr (has_iff.mp q))
  rw [e]
  split <;> simp
theorem nd_le (l : List α) : nd l ≤ l.length := by
  induction l using snoc_ind with
  | h0 => exact Nat.le_refl _
  | h1 l x ih =>
    rw [nd_snoc, List.length_append, List.length_singleton]
    split <;> omega
theorem nd_perm {l m : List α} (hm : m.Nodup) (h : ∀ x, x ∈ m ↔ x ∈ l) : m.length = nd l :=
  ((List.perm_ext_iff_of_nodup hm (dset_nodup l)).mpr fun x => (h x).trans (mem_dset l x).symm).length_eq
end
/-! ### a store's editions -/
abbrev Kk : Type := Str × Int
/-- the i-th key stands before, its name is one too many, or it stands too late -/
def badB (ks : List Kk) (i : Nat) : Bool := match ks[i]? with
  | none => false
  | some k => has (ks.take i) k || (decide (4 < nd ((ks.take (i + 1)).map (·.1))) || decide (12 ≤ i))
def wrongAt (ks : List Kk) : Option Nat := if ks.isEmpty = true then some 0 else (List.range ks.length).find? (badB ks)
/-- as the law says it -/
def lawB (ks : List Kk) (i : Nat) : Bool := match ks[i]? with
  | none => false
  | some k => has (ks.take i) k || (decide (i = 12) || (!has ((ks.take i).map (·.1)) k.1 && decide (nd ((ks.take i).map (·.1)) = 4)))
theorem take_snoc {α : Type} {l : List α} {i : Nat} {x : α} (h : l[i]? = some x) : l.take (i + 1) = l.take i ++ [x] := take_next h
theorem bad_few {ks : List Kk} : ∀ i, (∀ j, j < i → badB ks j = false) → nd ((ks.take i).map (·.1)) ≤ 4
  | 0, _ => by simp [nd, dset]
  | i + 1, h => by
    cases e : ks[i]? with
    | none =>
      have ih := bad_few i fun j hj => h j (Nat.lt_succ_of_lt hj)
      rw [List.take_of_length_le (Nat.le_succ_of_le (List.getElem?_eq_none_iff.mp e))]
      rwa [List.take_of_length_le (List.getElem?_eq_none_iff.mp e)] at ih
    | some k =>
      have hb := h i (Nat.lt_succ_self _)
      unfold badB at hb
      rw [e] at hb
      simp only [Bool.or_eq_false_iff, decide_eq_false_iff_not] at hb
      omega
theorem bad_law {ks : List Kk} {i : Nat} (h : ∀ j, j < i → badB ks j = false) (hi : i ≤ 12) : badB ks i = lawB ks i := by
  unfold badB lawB
  cases e : ks[i]? with
  | none => rfl
  | some k =>
    have few := bad_few i h
    simp only
    congr 1
    rw [Bool.or_comm]
    congr 1
    · rw [decide_eq_decide]; omega
    · rw [take_snoc e, List.map_append, List.map_singleton, nd_snoc]
      cases has ((ks.take i).map (·.1)) k.1
      · simp only [Bool.false_eq_true, if_false, Bool.not_false, Bool.true_and, decide_eq_decide]; omega
      · simp only [if_true, Bool.not_true, Bool.false_and]
        exact decide_eq_false (by omega)
theorem bad_late {ks : List Kk} {i : Nat} (h1 : i < ks.length) (h2 : 12 ≤ i) : badB ks i = true := by
  unfold badB
  rw [List.getElem?_eq_getElem h1]
  simp [h2]
theorem law_late {ks : List Kk} (h1 : 12 < ks.length) : lawB ks 12 = true := by
  unfold lawB
  rw [List.getElem?_eq_getElem h1]
  simp
/-- the first bad one is the same -/
theorem first_law {ks : List Kk} {i : Nat} (h : ∀ j, j < i → lawB ks j = false) (hi : i ≤ ks.length) : ∀ j, j < i → badB ks j = false := by
  intro j
  induction j using Nat.strongRecOn with
  | ind j ih =>
    intro hj
    have hb : ∀ m, m < j → badB ks m = false := fun m hm => ih m hm (Nat.lt_trans hm hj)
    rcases Nat.lt_or_ge 12 j with c | c
    · have z := h 12 (by omega)
      rw [law_late (by omega)] at z
      exact nomatch z
    · rw [bad_law hb c]
      exact h j hj
theorem first_bad {ks : List Kk} {i : Nat} (h : ∀ j, j < i → badB ks j = false) (hi : i ≤ ks.length) : ∀ j, j < i → lawB ks j = false := by
  intro j hj
  have hb : ∀ m, m < j → badB ks m = false := fun m hm => h m (Nat.lt_trans hm hj)
  rcases Nat.lt_or_ge 12 j with c | c
  · have z := h 12 (by omega)
    rw [bad_late (by omega) (Nat.le_refl _)] at z
    exact nomatch z
  · rw [← bad_law hb c]
    exact h j hj
theorem find_eq {p q : Nat → Bool} {n : Nat} (h1 : ∀ i, i ≤ n → (∀ j, j < i → p j = false) → ∀ j, j < i → q j = false) (h2 : ∀ i, i ≤ n → (∀ j, j < i → q j = false) → ∀ j, j < i → p j = false) : (List.range n).find? p = (List.range n).find? q := by
  cases e : (List.range n).find? p with
  | none =>
    have hp : ∀ j, j < n → p j = false := fun j hj => by simpa using List.find?_eq_none.mp e j (List.mem_range.mpr hj)
    rw [find_range_none q (h1 n (Nat.le_refl _) hp)]
  | some i =>
    have hi : i < n := List.mem_range.mp (List.mem_of_find?_eq_some e)
    have hpi : p i = true := by simpa using List.find?_some e
    have hb : ∀ j, j < i → p j = false := fun j hj => by
      cases c : p j
      · rfl
      · obtain ⟨l1, l2, e1, e2⟩ := (List.find?_eq_some_iff_append.mp e).2
        have hjm : j ∈ List.range n := List.mem_range.mpr (by omega)
        rw [e1] at hjm
        rcases List.mem_append.mp hjm with m | m
        · have z := e2 j m; rw [c] at z; exact nomatch z
        · have srt : (l1 ++ i :: l2).Pairwise (· < ·) := by rw [← e1]; exact List.pairwise_lt_range
          rcases List.mem_cons.mp m with z | z
          · omega
          · have := (List.pairwise_append.mp srt).2.1
            have := List.rel_of_pairwise_cons this z
            omega
    have hq := h1 i (Nat.le_of_lt hi) hb
    have hqi : q i = true := by
      cases c : q i
      · have z := h2 (i + 1) hi (fun j hj => by
          rcases Nat.lt_or_ge j i with m | m
          · exact hq j m
          · rw [show j = i by omega]; exact c) i (Nat.lt_succ_self _)
        rw [hpi] at z
        exact nomatch z
      · rfl
    rw [find_range q hi hqi hq]
theorem wrong_law (ks : List Kk) : wrongAt ks = if ks.isEmpty = true then some 0 else (List.range ks.length).find? (lawB ks) := by
  unfold wrongAt
  split
  · rfl
  · exact find_eq (fun i hi h => first_bad h hi) (fun i hi h => first_law h hi)
/-! ### in order -/
theorem sorted_uniq {α : Type} {le : α → α → Prop} (as : ∀ x y, le x y → le y x → x = y) : ∀ {l m : List α}, l.Pairwise le → m.Pairwise le → l.Perm m → l = m
  | [], m, _, _, p => p.nil_eq
  | x :: l, [], _, _, p => absurd p.length_eq (by simp)
  | x :: l, y :: m, h1, h2, p => by
    have e : x = y := by
      have hx : x ∈ y :: m := p.mem_iff.mp List.mem_cons_self
      have hy : y ∈ x :: l := p.mem_iff.mpr List.mem_cons_self
      rcases List.mem_cons.mp hx with rfl | hx
      · rfl
      · rcases List.mem_cons.mp hy with rfl | hy
        · rfl
        · exact as _ _ (List.rel_of_pairwise_cons h1 hy) (List.rel_of_pairwise_cons h2 hx)
    subst e
    rw [sorted_uniq as (List.pairwise_cons.mp h1).2 (List.pairwise_cons.mp h2).2 (List.Perm.cons_inv p)]
def txLe (x y : Str) : Prop := txLt y x = false
theorem txLe_as (x y : Str) (h1 : txLe x y) (h2 : txLe y x) : x = y := tx_tot h2 h1
theorem txLe_tr {x y z : Str} (h1 : txLe x y) (h2 : txLe y z) : txLe x z := by
  unfold txLe at *
  cases e : txLt z x
  · rfl
  · cases c : txLt x y
    · rw [tx_tot c h1] at e; rw [e] at h2; exact nomatch h2
    · have := tx_tr e c
      rw [h2] at this
      exact nomatch this
theorem rising_pw : ∀ (p : Str) (l : List Str), risingS p l = true → (p :: l).Pairwise txLe
  | p, [], _ => List.pairwise_singleton _ _
  | p, x :: l, h => by
    have h : (!ltCps x.cps.toList p.cps.toList && risingS x l) = true := h
    rw [Bool.and_eq_true, Bool.not_eq_true'] at h
    have ih := rising_pw x l h.2
    have hx : txLe p x := by
      have e := h.1
      rw [ltCps_eq] at e
      exact e
    refine List.pairwise_cons.mpr ⟨fun y hy => ?_, ih⟩
    rcases List.mem_cons.mp hy with rfl | hy
    · exact hx
    · exact txLe_tr hx (List.rel_of_pairwise_cons ih hy)
theorem sortedS_pw : ∀ {l : List Str}, sortedS l = true → l.Pairwise txLe
  | [], _ => .nil
  | x :: l, h => rising_pw x l h
/-- different ones of a list in order are in order -/
theorem dset_sub {α : Type} [DecidableEq α] (l : List α) : (dset l).Sublist l := by
  induction l using snoc_ind with
  | h0 => exact .slnil
  | h1 l x ih =>
    rw [dset_snoc]
    unfold dstep
    split
    · exact ih.trans (List.sublist_append_left _ _)
    · exact ih.append (List.Sublist.refl _)
end Half

namespace Half
open PySem PySem.Spec PyProof.Rows L2
/-! ### InvalidStore -/
abbrev sIs : Stmt := inClass (top 12) 0
def spErrI (C : Addr) (fl : Str) : Sp := fun vs H Q _ => ∃ (a : Addr) (n : Nat), vs = [.ref a, .int n] ∧ H a = some (exo a C none) ∧ n ≤ 1000 ∧
  ∀ dx, H dx = none → dx ≠ a → Q .non (upd (upd H dx (exd dx [(fl, .int n)])) a (exo a C (some dx)))
theorem scIs : SupScope ["self", "index"] ["self", "index"] (defScope sIs) := ⟨rfl, rfl, rfl, by decide +kernel, rfl, by decide +kernel, by decide +kernel, by decide +kernel, rfl, rfl⟩
theorem small_text : ∀ n : Nat, n ≤ 1000 → (Str.ofString (toString (n : Int))).length ≤ 10 ∧ ((n : Int)).natAbs.log2 < 1920 := by
  have key : (List.range 1001).all (fun n => decide ((Str.ofString (toString (n : Int))).length ≤ 10) && decide (((n : Int)).natAbs.log2 < 1920)) = true := by decide +kernel
  intro n hn
  have z := List.all_eq_true.mp key n (List.mem_range.mpr (by omega))
  simpa using z
section
variable {P : Program} {w : World} {K : PySem.W.Frag} {mg : Str → Option Value} {base : Heap}
theorem ok_is {C f : Addr} {fd : FuncData} (F : ErrFn P K C "InvalidStore.__init__" sIs f fd) (T : SupC P K mg C) (nF : PySem.W.findIn K (.ref C) "index" = some none) : FnOk P w K mg base CX0 1 f fd ["self", "index"] (spErrI C "index") := by
  obtain ⟨oc, od, kV, doc, pm, an, cda, cc, ct, osl, ccl, cdd, vsc, ccs, file, tf, cl, cld, csl, rfl, lk, hcd, hcode, hvs, hfile, hcell⟩ := F.ex
  refine fn_sup (N := ["self", "index"]) lk hcd scIs rfl rfl rfl hcode hvs hfile hcell T (fun vs H Q E h => ?_) (fun _ => rfl) (fun _ => rfl) (fun _ => rfl) (fun A outer s H vs Q E hr h => ?_)
  · obtain ⟨a, p, rfl, _⟩ := h
    rfl
  · obtain ⟨a, n, rfl, ha, hn, k⟩ := h
    refine ⟨a, _, _, rfl, ha, pa_cons (pe_joined (.cons pe_str (.cons (pe_fmt (pv 1)) .nil))) pa_nil, pss_one (ps_ost (pv 0) (pv 1)), ?_⟩
    obtain ⟨l1, l2⟩ := small_text n hn
    refine ⟨_, rfl, (by decide), _, rfl, .inr ⟨(n : Int), rfl, l2, _, rfl, ?_, ?_⟩⟩
    · rw [app_len, app_len, sizeLine_eq]
      have : ("no store can be made of these editions, because of index " : Str).length = 57 := by decide
      have e0 : (Str.empty).length = 0 := by decide
      have : (Str.ofString (toString (n : Int))).length ≤ 10 := l1
      omega
    · refine ⟨by show 1 ≤ 1000; decide, ha, ?_⟩
      refine ⟨_, rfl, _, rfl, a, C, rfl, T.oex, nF, .inl ⟨ha, fun dx h1 h2 => k dx h1 h2⟩⟩
end
theorem ne_of_none' {H : Hp} {a b : Addr} {o : HO} (h : H a = some o) (n : H b = none) : b ≠ a := fun z => by rw [z, h] at n; cases n
/-! ### wrong_index -/
abbrev sWi : Stmt := top 83
/-- an edition that has this name and this version -/
def EdK (C : Addr) (H : Hp) (a : Addr) (k : Kk) : Prop := ∃ dx p xs, H a = some (.ins C dx [("parts", .ref p)]) ∧ H p = some (.tup (.str k.1 :: .int k.2 :: xs))
theorem EdK.same {C : Addr} {H H' : Hp} {a : Addr} {k : Kk} (S : Same H H') (h : EdK C H a k) : EdK C H' a k := by
  obtain ⟨dx, p, xs, h1, h2⟩ := h
  exact ⟨dx, p, xs, S _ _ h1, S _ _ h2⟩
/-- editions one after another -/
abbrev Eds : Type := List (Addr × Kk)
def EdsAt (K : PySem.W.Frag) (C : Addr) (H : Hp) (t : Addr) (es : Eds) : Prop := SqT K H t (es.map fun e => .ref e.1) ∧ ∀ e ∈ es, EdK C H e.1 e.2
theorem EdsAt.same {K : PySem.W.Frag} {C : Addr} {H H' : Hp} {t : Addr} {es : Eds} (S : Same H H') (h : EdsAt K C H t es) : EdsAt K C H' t es := ⟨S.sqT h.1, fun e he => (h.2 e he).same S⟩
abbrev keysOf (es : Eds) : List Kk := es.map (·.2)
def kk (k : Kk) : List Key := [.inr k.1, .inl k.2]
theorem kk_inj {a b : Kk} (h : kk a = kk b) : a = b := by
  unfold kk at h
  injection h with h1 h2
  injection h2 with h2 _
  injection h1 with h1
  injection h2 with h2
  exact Prod.ext h1 h2
def optI : Option Nat → V
  | none => .non
  | some i => .int i
def spWi (K : PySem.W.Frag) (C : Addr) : Sp := fun vs H Q _ => ∃ (t : Addr) (es : Eds), vs = [.ref t] ∧ EdsAt K C H t es ∧ es.length ≤ 40 ∧ ∀ H', Same H H' → Q (optI (wrongAt (keysOf es))) H'
structure TxtW (P : Program) (w : World) (K : PySem.W.Frag) (mg : Str → Option Value) (base : Heap) (C : Addr) : Prop where
  set : mg "set" = none
  len : mg "len" = none
  enum : mg "enumerate" = none
  mE : ∃ t, mg "MOST_EDITIONS" = some (.int 12 t)
  mN : ∃ t, mg "MOST_NAMES" = some (.int 4 t)
  p0 : Prp P w K mg base C "name" 0
  p1 : Prp P w K mg base C "version" 1
  cl : Cls K C
theorem scWi : FnScope ["editions", "keys", "names", "at", "edition", "key"] ["editions"] (defScope sWi) := ⟨rfl, rfl, rfl, by decide +kernel, rfl, by decide +kernel, by decide +kernel⟩
section
variable {P : Program} {w : World} {K : PySem.W.Frag} {mg : Str → Option Value} {base : Heap} {C : Addr}
/-- what stands before the i-th turn -/
structure WiI (P : Program) (w : World) (K : PySem.W.Frag) (C t ka na : Addr) (es : Eds) (H0 : Hp) (i : Nat) (σ : L2.St) (H : Hp) : Prop where
  sl : ∃ x3 x4 x5, σ = [some (.ref t), some (.ref ka), some (.ref na), x3, x4, x5]
  sm : Same H0 H
  n1 : H0 ka = none
  n2 : H0 na = none
  ts : ∃ L, H ka = some (TsO P w ka L) ∧ TupsIn H L ∧ L.length = i ∧ ∀ k, kk k ∈ L.map (·.2) ↔ k ∈ (keysOf es).take i
  nm : ∃ S n, H na = some (SetK P w na S n) ∧ (∀ x, S (.inr x) = has (((keysOf es).take i).map (·.1)) x) ∧ n = nd (((keysOf es).take i).map (·.1))
  ok : ∀ j, j < i → badB (keysOf es) j = false
theorem prp_read {H : Hp} {a : Addr} {k : Kk} {Q : VK} (h : EdK C H a k) (q : Q (.str k.1) H) : ∃ p dx fs, V.ref a = .ref p ∧ H p = some (.ins C dx fs) ∧ spGet C 0 [.ref p] H Q E0 := by
  obtain ⟨dx, p, xs, h1, h2⟩ := h
  exact ⟨a, dx, _, rfl, h1, a, dx, p, _, _, rfl, h1, h2, rfl, q⟩
theorem ok_wi {f : Addr} {fd : FuncData} (F : Fun K "wrong_index" "wrong_index" sWi f fd) (T : TxtW P w K mg base C) : FnOk P w K mg base CX0 3 f fd ["editions"] (spWi K C) := by
  refine F.ok scWi (fun vs H Q E h => ?_) (fun cdv A outer s H vs Q E hr h => ?_)
  · obtain ⟨t, es, rfl, _⟩ := h
    rfl
  · obtain ⟨t, es, rfl, hE, hz, k⟩ := h
    have nd' := scWi.nd
    have hu := hu_of hr
    have r2 : Room 2 _ := hr.mono (by decide)
    obtain ⟨tE, mE⟩ := T.mE
    obtain ⟨tN, mN⟩ := T.mN
    refine ⟨_, pss_cons (ps_if (pt_not (pt_truth (pv 0) (by intro _; rfl))) (pss_one (ps_ret pe_int)) pss_nil)
      (pss_cons (ps_set (i := 1) nd' rfl (Or.inl rfl) (pe_callTy0 cr_set0T (by rfl) T.set (by decide +kernel)))
      (pss_cons (ps_set (i := 2) nd' rfl (Or.inl rfl) (pe_callTy0 cr_set0K (by rfl) T.set (by decide +kernel)))
      (pss_cons (ps_for PassesOwn.never rfl (pi_enumT (by rfl) T.enum (pa_cons (pv 0) pa_nil)) (pg_tup rfl (pgs_cons (pg_name (i := 3) nd' rfl (Or.inl rfl)) (pgs_cons (pg_name (i := 4) nd' rfl (Or.inl rfl)) pgs_nil)))
        (pss_cons (ps_set (i := 5) nd' rfl (Or.inl rfl) (pe_tup (pa_cons (pe_prp T.p0 T.cl r2 (pv 4)) (pa_cons (pe_prp T.p1 T.cl r2 (pv 4)) pa_nil))))
        (pss_cons (ps_expr (pe_saddK (pv 2) (pa_cons (pe_prp T.p0 T.cl r2 (pv 4)) pa_nil)))
        (pss_cons (ps_if (PW.pt (pw_or (pt_cmpR (or_sinT hu) (pv 5) (pv 1) (by rfl)) (pw_or (pt_cmpR op_gt (pe_callB call_lenSK (by rfl) T.len PySem.boot_len (pa_cons (pv 2) pa_nil)) (pe_glob (v := .int 4) rfl mN ⟨_, rfl⟩) (nomark _)) (pw_or1 (pt_cmpR op_ge (pv 3) (pe_glob (v := .int 12) rfl mE ⟨_, rfl⟩) (nomark _)))))) (pss_one (ps_ret (pv 3))) pss_nil)
        (pss_one (ps_expr (pe_saddT hu (pv 1) (pa_cons (pv 5) pa_nil))))))))
      (pss_one (ps_ret pe_non))))), ?_⟩
    refine ⟨_, rfl, !es.isEmpty, .inr (.inl ⟨_, hE.1, by simp⟩), ?_⟩
    by_cases he : es.isEmpty = true
    · refine ite_yes (by rw [he]; rfl) ?_
      have e : wrongAt (keysOf es) = some 0 := by
        unfold wrongAt
        rw [if_pos (by simpa using he)]
      have z := k H (Same.refl H)
      rw [e] at z
      exact z
    refine ite_no (by simp at he ⊢; exact he) ?_
    have wrong : wrongAt (keysOf es) = (List.range (keysOf es).length).find? (badB (keysOf es)) := by
      unfold wrongAt
      rw [if_neg (by simpa using he)]
    refine ⟨rfl, fun ka n1 => ⟨rfl, fun na n2 => ?_⟩⟩
    have nka : na ≠ ka := fun z => by rw [z, upd_same] at n2; cases n2
    have n2' : H na = none := by rwa [upd_ne nka] at n2
    refine ⟨_, rfl, t, _, rfl, (hE.same ((Same.upd_new n1).trans (Same.upd_new n2))).1, ?_⟩
    refine for_it (walk_enumT (K := K) (a := t) (xs := es.map fun e => .ref e.1)) (WiI P w K C t ka na es H) ?_ ?_ ?_ ?_
    · exact ⟨⟨_, _, _, rfl⟩, (Same.upd_new n1).trans (Same.upd_new n2), n1, n2', ⟨[], by rw [upd_ne (Ne.symm nka), upd_same]; rfl, (fun p hp => nomatch hp), rfl, fun k => by simp⟩, ⟨_, _, upd_same, fun x => rfl, rfl⟩, fun j hj => absurd hj (Nat.not_lt_zero _)⟩
    · exact fun i σ H' _ I => (hE.same I.sm).1
    · intro i x σ H1 H2 hi I y
      obtain ⟨T', a, b, rfl, nT, rfl, ha, hb⟩ := y
      cases ha
      obtain ⟨e, he, rfl⟩ : ∃ e, es[i]? = some e ∧ b = .ref e.1 := by
        have hb : (es.map fun e => V.ref e.1)[i]? = some b := hb
        rw [List.getElem?_map] at hb
        obtain ⟨e, h1, h2⟩ := Option.map_eq_some_iff.mp hb
        exact ⟨e, h1, h2.symm⟩
      obtain ⟨⟨x3, x4, x5, rfl⟩, sm, _, _, ⟨L, hka, hL, hLl, hLm⟩, ⟨S, n, hna, hS, hn⟩, hok⟩ := I
      have hi' : i < es.length := (List.getElem?_eq_some_iff.mp he).1
      have hke : (keysOf es)[i]? = some e.2 := by rw [List.getElem?_map, he] <;> rfl
      refine ⟨T', _, rfl, .inl (.inl upd_same), rfl, _, _, rfl, _, _, rfl, rfl, ?_⟩
      have s1 : Same H1 (upd H1 T' (.tup [.int (i : Nat), .ref e.1])) := Same.upd_new nT
      obtain ⟨dx, p, xs, h1, h2⟩ := ((hE.2 e (List.mem_of_getElem? he)).same sm).same s1
      refine ⟨_, rfl, e.1, dx, _, rfl, h1, e.1, dx, p, _, _, rfl, h1, h2, rfl, _, rfl, e.1, dx, _, rfl, h1, e.1, dx, p, _, _, rfl, h1, h2, rfl, two_le, fun tk ntk => ?_⟩
      have s2 := s1.trans (Same.upd_new (o := .tup [.str e.2.1, .int e.2.2]) ntk)
      have h1' := (Same.upd_new (o := .tup [.str e.2.1, .int e.2.2]) ntk) _ _ h1
      have h2' := (Same.upd_new (o := .tup [.str e.2.1, .int e.2.2]) ntk) _ _ h2
      have hnl : n ≤ 40 := by
        rw [hn]
        refine Nat.le_trans (nd_le _) ?_
        rw [List.length_map, List.length_take]
        omega
      refine ⟨_, rfl, ⟨na, S, n, rfl, s2 _ _ hna⟩, _, rfl, e.1, dx, _, rfl, h1', e.1, dx, p, _, _, rfl, h1', h2', rfl, na, .inr e.2.1, S, n, rfl, rfl, s2 _ _ hna, (by show n + 1 < 4096; omega), ?_⟩
      have ntka : tk ≠ ka := ne_of_none' (s1 _ _ hka) ntk
      have ntna : tk ≠ na := ne_of_none' (s1 _ _ hna) ntk
      have kna : ka ≠ na := Ne.symm nka
      have nmE : ((keysOf es).take (i + 1)).map (·.1) = ((keysOf es).take i).map (·.1) ++ [e.2.1] := by rw [take_snoc hke, List.map_append] <;> rfl
      have cnt : (if S (.inr e.2.1) = true then n else n + 1) = nd (((keysOf es).take (i + 1)).map (·.1)) := by rw [nmE, nd_snoc, hS, hn]
      generalize (if S (.inr e.2.1) = true then n else n + 1) = n' at cnt ⊢
      generalize hS' : (fun j => S j || decide (j = Sum.inr e.2.1)) = S'
      have hS2 : ∀ x, S' (.inr x) = has (((keysOf es).take (i + 1)).map (·.1)) x := fun x => by
        rw [← hS', nmE]
        show (S (.inr x) || decide ((Sum.inr x : Key) = Sum.inr e.2.1)) = _
        rw [hS]
        unfold has
        rw [List.any_append]
        congr 1
        simp only [List.any_cons, List.any_nil, Bool.or_false]
        rw [decide_eq_decide]
        exact ⟨fun z => by injection z with z; exact z.symm, fun z => by rw [z]⟩
      have big : Same H (upd (upd (upd H1 T' (.tup [.int (i : Nat), .ref e.1])) tk (.tup [.str e.2.1, .int e.2.2])) na (SetK P w na S' n')) := fun b o q => by
        rw [upd_ne (ne_of_none q n2')]
        exact s2 _ _ (sm _ _ q)
      have tups : TupsIn (upd (upd (upd H1 T' (.tup [.int (i : Nat), .ref e.1])) tk (.tup [.str e.2.1, .int e.2.2])) na (SetK P w na S' n')) L := fun q hq => by
        rw [upd_ne (ne_of (s2 _ _ (hL q hq)) (s2 _ _ hna) (by intro z; cases z))]
        exact s2 _ _ (hL q hq)
      have gka : (upd (upd (upd H1 T' (.tup [.int (i : Nat), .ref e.1])) tk (.tup [.str e.2.1, .int e.2.2])) na (SetK P w na S' n')) ka = some (TsO P w ka L) := by
        rw [upd_ne kna]
        exact s2 _ _ hka
      have gtk : (upd (upd (upd H1 T' (.tup [.int (i : Nat), .ref e.1])) tk (.tup [.str e.2.1, .int e.2.2])) na (SetK P w na S' n')) tk = some (.tup ((kk e.2).map kV)) := by
        rw [upd_ne ntna, upd_same]
        rfl
      have gna : (upd (upd (upd H1 T' (.tup [.int (i : Nat), .ref e.1])) tk (.tup [.str e.2.1, .int e.2.2])) na (SetK P w na S' n')) na = some (SetK P w na S' n') := upd_same
      have hk : hasK L (kk e.2) = has ((keysOf es).take i) e.2 := by
        cases q : has ((keysOf es).take i) e.2
        · exact hasK_no fun z => not_has q ((hLm e.2).mp z)
        · exact hasK_iff.mpr ((hLm e.2).mpr (has_iff.mp q))
      have bad : badB (keysOf es) i = (hasK L (kk e.2) || (decide (4 < n') || decide (12 ≤ i))) := by
        unfold badB
        rw [hke, hk, cnt]
      have out : badB (keysOf es) i = true → Q (.int (i : Nat)) (upd (upd (upd H1 T' (.tup [.int (i : Nat), .ref e.1])) tk (.tup [.str e.2.1, .int e.2.2])) na (SetK P w na S' n')) := fun hb => by
        have e0 : wrongAt (keysOf es) = some i := by
          rw [wrong]
          exact find_range _ (by simpa using hi') hb hok
        have z := k _ big
        rw [e0] at z
        exact z
      refine ⟨_, rfl, _, rfl, ka, tk, kk e.2, L, rfl, rfl, gtk, gka, tups, _, rfl, ?_⟩
      cases c1 : hasK L (kk e.2)
      case true => exact iteT (⟨_, rfl, out (by rw [bad, c1]; rfl)⟩)
      refine iteF ?_
      refine ⟨_, rfl, na, S', n', rfl, gna, _, _, rfl, rfl, _, rfl, ?_⟩
      cases c2 : decide (4 < n')
      case true => exact ite_yes (by rw [decide_eq_true_eq] at c2 ⊢; omega) ⟨_, rfl, out (by rw [bad, c1, c2]; rfl)⟩
      refine ite_no (by rw [decide_eq_false_iff_not] at c2 ⊢; omega) ?_
      refine ⟨_, rfl, _, _, rfl, rfl, _, rfl, ?_⟩
      cases c3 : decide (12 ≤ i)
      case true => exact ite_yes (by rw [decide_eq_true_eq] at c3 ⊢; omega) ⟨_, rfl, out (by rw [bad, c1, c2, c3]; rfl)⟩
      refine ite_no (by rw [decide_eq_false_iff_not] at c3 ⊢; omega) ?_
      refine ⟨_, rfl, ⟨ka, L, rfl, gka⟩, _, rfl, ka, tk, kk e.2, L, rfl, rfl, gtk, gka, tups, by omega, fun z => ?_, fun _ L' pm => ?_⟩
      · rw [hasK_iff.mpr z] at c1
        exact nomatch c1
      · refine ⟨⟨_, _, _, rfl⟩, fun b o q => ?_, n1, n2', ⟨L', upd_same, fun q hq => ?_, ?_, fun k2 => ?_⟩, ⟨S', n', ?_, hS2, cnt⟩, fun j hj => ?_⟩
        · rw [upd_ne (ne_of_none q n1)]
          exact big _ _ q
        · have old : ∀ y : Addr × List Key, (upd (upd (upd H1 T' (.tup [.int (i : Nat), .ref e.1])) tk (.tup [.str e.2.1, .int e.2.2])) na (SetK P w na S' n')) y.1 = some (.tup (y.2.map kV)) → (upd (upd (upd (upd H1 T' (.tup [.int (i : Nat), .ref e.1])) tk (.tup [.str e.2.1, .int e.2.2])) na (SetK P w na S' n')) ka (TsO P w ka L')) y.1 = some (.tup (y.2.map kV)) := fun y hy => by
            rw [upd_ne (ne_of hy gka (by intro z; cases z))]
            exact hy
          rcases List.mem_cons.mp (pm.mem_iff.mp hq) with rfl | hq
          · exact old _ gtk
          · exact old _ (tups q hq)
        · rw [pm.length_eq, List.length_cons, hLl]
        · rw [(pm.map (·.2)).mem_iff, List.map_cons, List.mem_cons, hLm k2, take_snoc hke, List.mem_append, List.mem_singleton]
          exact ⟨fun z => z.elim (fun z => .inr (kk_inj z)) .inl, fun z => z.elim .inr fun z => .inl (by rw [z])⟩
        · rw [upd_ne nka]
          exact gna
        · rcases Nat.lt_or_ge j i with m | m
          · exact hok j m
          · rw [show j = i by omega, bad, c1, c2, c3]
            rfl
    · intro σ H' I
      have e : wrongAt (keysOf es) = none := by
        rw [wrong]
        exact find_range_none _ fun j hj => I.ok j (by simpa using hj)
      have z := k H' I.sm
      rw [e] at z
      exact z
end
end Half

namespace Half
open PySem PySem.Spec PyProof.Rows L2
abbrev sVn : Stmt := top 84
theorem put_keys {κ : Type} [DecidableEq κ] (kvs : List (κ × V)) (k : κ) (v : V) : (putK kvs k v).map (·.1) = dstep (kvs.map (·.1)) k := by
  unfold putK dstep
  have e : (kvs.any fun kv => decide (kv.1 = k)) = has (kvs.map (·.1)) k := by
    unfold has
    rw [List.any_map]
    rfl
  rw [e]
  split
  · rw [List.map_map]
    refine List.map_congr_left fun p hp => ?_
    show (if p.1 = k then (p.1, v) else p).1 = p.1
    split <;> rfl
  · rw [List.map_append]
    rfl
/-- which numbers a name has -/
def numsOf (ys : List Kk) (nm : Str) : List V := (ys.filter fun y => decide (y.1 = nm)).map fun y => .int y.2
/-- the dict at d tells ys name by name -/
def Nums0 (H : Hp) (d : Addr) (ys : List Kk) : Prop := ∃ kvs, H d = some (.dK kvs) ∧ kvs.map (·.1) = (dset (ys.map (·.1))).map Sum.inr ∧ ∀ nm ∈ ys.map (·.1), ∃ t, valV kvs (.inr nm) = some (.ref t) ∧ H t = some (.tup (numsOf ys nm))
def Asc (ys : List Kk) : Prop := ys.Pairwise fun x y => pLt y x = false
def NumsAt (H : Hp) (d : Addr) (ks : List Kk) : Prop := ∃ ys, ys.Perm ks ∧ Asc ys ∧ Nums0 H d ys
theorem Nums0.same {H H' : Hp} {d : Addr} {ys : List Kk} (S : Same H H') (h : Nums0 H d ys) : Nums0 H' d ys := by
  obtain ⟨kvs, h1, h2, h3⟩ := h
  exact ⟨kvs, S _ _ h1, h2, fun nm hm => let ⟨t, a, b⟩ := h3 nm hm; ⟨t, a, S _ _ b⟩⟩
theorem NumsAt.same {H H' : Hp} {d : Addr} {ks : List Kk} (S : Same H H') (h : NumsAt H d ks) : NumsAt H' d ks := by
  obtain ⟨ys, a, b, c⟩ := h
  exact ⟨ys, a, b, c.same S⟩
/-- the key that the tuple x holds -/
def keyAt (H : Hp) : V → Kk
  | .ref t => match H t with
    | some (.tup [.str a, .int b]) => (a, b)
    | _ => ("", 0)
  | _ => ("", 0)
theorem keyAt_of {H : Hp} {t : Addr} {k : Kk} (h : H t = some (.tup [.str k.1, .int k.2])) : keyAt H (.ref t) = k := by
  show (match H t with
    | some (.tup [.str a, .int b]) => (a, b)
    | _ => (("", 0) : Kk)) = k
  rw [h]
def KeysIn (H : Hp) (bs : List (Addr × Kk)) : Prop := ∀ b ∈ bs, H b.1 = some (.tup [.str b.2.1, .int b.2.2])
def spVn (K : PySem.W.Frag) : Sp := fun vs H Q _ => ∃ (l : Addr) (bs : List (Addr × Kk)), vs = [.ref l] ∧ SqL K H l (bs.map fun b => .ref b.1) ∧ KeysIn H bs ∧ bs.length ≤ 40 ∧ ∀ d H', Same H H' → H d = none → NumsAt H' d (bs.map (·.2)) → Q (.ref d) H'
theorem scVn : FnScope ["keys", "versions", "name", "version"] ["keys"] (defScope sVn) := ⟨rfl, rfl, rfl, by decide +kernel, rfl, by decide +kernel, by decide +kernel⟩
theorem nums_snoc {ys : List Kk} {y : Kk} {nm : Str} : numsOf (ys ++ [y]) nm = if y.1 = nm then numsOf ys nm ++ [.int y.2] else numsOf ys nm := by
  unfold numsOf
  rw [List.filter_append, List.map_append]
  by_cases e : y.1 = nm
  · rw [if_pos e, List.filter_cons_of_pos (by simpa using e)]
    rfl
  · rw [if_neg e, List.filter_cons_of_neg (by simpa using e)]
    simp
theorem nums_none {ys : List Kk} {nm : Str} (h : nm ∉ ys.map (·.1)) : numsOf ys nm = [] := by
  unfold numsOf
  rw [List.map_eq_nil_iff, List.filter_eq_nil_iff]
  intro y hy z
  exact h (List.mem_map.mpr ⟨y, hy, of_decide_eq_true z⟩)
section
variable {P : Program} {w : World} {K : PySem.W.Frag} {mg : Str → Option Value} {base : Heap}
theorem ok_vn {f : Addr} {fd : FuncData} (F : Fun K "versions_by_name" "versions_by_name" sVn f fd) (hS : mg "sorted" = none) : FnOk P w K mg base CX0 1 f fd ["keys"] (spVn K) := by
  refine F.ok scVn (fun vs H Q E h => ?_) (fun cdv A outer s H vs Q E hr h => ?_)
  · obtain ⟨l, bs, rfl, _⟩ := h
    rfl
  · obtain ⟨l, bs, rfl, hl, hb, hz, k⟩ := h
    have nd' := scVn.nd
    have hu := hu_of hr
    refine ⟨_, pss_cons (ps_set (i := 1) nd' rfl (Or.inl rfl) pe_dnewK)
      (pss_cons (ps_for PassesOwn.never rfl (pi_list (pe_callB cr_sortTI (by rfl) hS (by decide +kernel) (pa_cons (pv 0) pa_nil))) (pg_tup rfl (pgs_cons (pg_name (i := 2) nd' rfl (Or.inl rfl)) (pgs_cons (pg_name (i := 3) nd' rfl (Or.inl rfl)) pgs_nil)))
        (pss_one (ps_dput hu (pv 1) (pv 2) (pe_tup (StX.pa_star (pe_dget2 hu (pv 1) (pv 2) (pe_tup pa_nil) ⟨rfl, rfl, rfl, rfl⟩) (pa_cons (pv 3) pa_nil))) rfl)))
      (pss_one (ps_ret (pv 1)))), ?_⟩
    refine fun d nd1 => ?_
    have s1 : Same H (upd H d (.dK [])) := Same.upd_new nd1
    refine ⟨_, rfl, l, _, keyAt (upd H d (.dK [])), rfl, s1.seq hl, fun x hx => ?_, fun ys p hs hp np => ?_⟩
    · obtain ⟨b, hb', rfl⟩ := List.mem_map.mp hx
      have g := s1 _ _ (hb b hb')
      refine ⟨b.1, rfl, ?_⟩
      rw [keyAt_of g]
      exact g
    · have zs : (ys.map (keyAt (upd H d (.dK [])))).Perm (bs.map (·.2)) := by
        have e := hp.map (keyAt (upd H d (.dK [])))
        rw [List.map_map] at e
        rw [show bs.map (·.2) = bs.map (keyAt (upd H d (.dK [])) ∘ fun b => V.ref b.1) from List.map_congr_left fun b hb' => (keyAt_of (s1 _ _ (hb b hb'))).symm]
        exact e
      have asc : Asc (ys.map (keyAt (upd H d (.dK [])))) := List.pairwise_map.mpr hs
      have tups : ∀ y ∈ ys, ∃ t, y = .ref t ∧ (upd H d (.dK [])) t = some (.tup [.str (keyAt (upd H d (.dK [])) y).1, .int (keyAt (upd H d (.dK [])) y).2]) := fun y hy => by
        obtain ⟨b, hb', rfl⟩ := List.mem_map.mp (hp.mem_iff.mp hy)
        have g := s1 _ _ (hb b hb')
        refine ⟨b.1, rfl, ?_⟩
        rw [keyAt_of g]
        exact g
      have yl : ys.length ≤ 40 := by rw [hp.length_eq, List.length_map]; exact hz
      have hdp : d ≠ p := fun z => by rw [← z, upd_same] at np; cases np
      generalize keyAt (upd H d (.dK [])) = key at zs asc tups
      refine ⟨p, rfl, ⟨_, SqL.of upd_same⟩, ?_⟩
      refine for_it (walk_list (K := K) (a := p) (xs := ys)) (fun i σ H' => (∃ x2 x3, σ = [some (.ref l), some (.ref d), x2, x3]) ∧ Same H H' ∧ H' p = some (.lst ys) ∧ (∀ y ∈ ys, ∃ t, y = .ref t ∧ H' t = some (.tup [.str (key y).1, .int (key y).2])) ∧ Nums0 H' d ((ys.take i).map key)) ?_ ?_ ?_ ?_
      · refine ⟨⟨_, _, rfl⟩, s1.trans (Same.upd_new np), upd_same, fun y hy => ?_, ⟨[], by rw [upd_ne hdp, upd_same], rfl, fun nm hm => by simp at hm⟩⟩
        obtain ⟨t, e, g⟩ := tups y hy
        exact ⟨t, e, (Same.upd_new np) _ _ g⟩
      · exact fun i σ H' _ I => SqL.of I.2.2.1
      · rintro i x σ H1 H2 hi ⟨⟨x2, x3, rfl⟩, sm, gp, gt, ⟨kvs, gd, gk, gv⟩⟩ ⟨rfl, hx⟩
        obtain ⟨t, rfl, ht⟩ := gt x (List.mem_of_getElem? hx)
        have tk : (ys.take (i + 1)).map key = (ys.take i).map key ++ [key (.ref t)] := by rw [take_snoc hx, List.map_append] <;> rfl
        have il : i ≤ 40 := by omega
        have kl : kvs.length ≤ 40 := by
          have e := congrArg List.length gk
          rw [List.length_map, List.length_map] at e
          have := nd_le (((ys.take i).map key).map (·.1))
          unfold nd at this
          rw [List.length_map, List.length_map, List.length_take] at this
          omega
        refine ⟨t, _, rfl, .inl (.inl ht), rfl, _, _, rfl, _, _, rfl, rfl, ?_⟩
        generalize key (.ref t) = y at ht tk
        refine ⟨_, rfl, d, rfl, .inl ⟨kvs, .inl gd⟩, _, rfl, Nat.zero_le _, fun te nte => ?_⟩
        have se : Same H2 (upd H2 te (.tup [])) := Same.upd_new nte
        have wh : ∃ u, ((valV kvs (.inr y.1)).getD (.ref te)) = .ref u ∧ (upd H2 te (.tup [])) u = some (.tup (numsOf ((ys.take i).map key) y.1)) := by
          by_cases hm : y.1 ∈ ((ys.take i).map key).map (·.1)
          · obtain ⟨u, a, b⟩ := gv y.1 hm
            exact ⟨u, by rw [a]; rfl, se _ _ b⟩
          · have e : valV kvs (.inr y.1) = none := by
              cases c : valV kvs (.inr y.1) with
              | none => rfl
              | some v =>
                have z := valV_in c
                rw [gk] at z
                obtain ⟨q, hq, eq⟩ := List.mem_map.mp z
                injection eq with eq
                subst eq
                exact absurd ((mem_dset _ _).mp hq) hm
            exact ⟨te, by rw [e]; rfl, by rw [nums_none hm, upd_same]⟩
        obtain ⟨u, eu, hu'⟩ := wh
        refine ⟨_, DGet.k (k := .inr y.1) (se _ _ gd), ?_⟩
        refine ⟨u, _, eu, .inl (.inl (.inl hu')), _, rfl, ?_, fun tt ntt => ?_⟩
        · rw [List.length_append]
          have : (numsOf ((ys.take i).map key) y.1).length ≤ 40 := by
            unfold numsOf
            rw [List.length_map]
            refine Nat.le_trans (List.length_filter_le _ _) ?_
            rw [List.length_map, List.length_take]
            omega
          show _ + 1 ≤ sizeLine
          rw [sizeLine_eq]
          omega
        have st := Same.upd_new (o := .tup (numsOf ((ys.take i).map key) y.1 ++ [.int y.2])) ntt
        have gd2 := st _ _ (se _ _ gd)
        refine ⟨_, rfl, _, rfl, d, _, rfl, DPut.k (k := .inr y.1) gd2 (by rw [sizeLine_eq]; omega), ?_⟩
        have ne : ∀ {b o}, (∀ kvs, o ≠ .dK kvs) → H2 b = some o → (upd (upd (upd H2 te (.tup [])) tt (.tup (numsOf ((ys.take i).map key) y.1 ++ [.int y.2]))) d (.dK (putK kvs (.inr y.1) (.ref tt)))) b = some o := fun {b o} hk q => by
          rw [upd_ne (ne_of (st _ _ (se _ _ q)) gd2 (hk _))]
          exact st _ _ (se _ _ q)
        refine ⟨⟨_, _, rfl⟩, fun b o q => ?_, ne (by intro z e; cases e) gp, fun y' hy' => ?_, ?_⟩
        · have nb : b ≠ d := ne_of_none q nd1
          rw [upd_ne nb]
          exact st _ _ (se _ _ (sm _ _ q))
        · obtain ⟨t', e', g'⟩ := gt y' hy'
          exact ⟨t', e', ne (by intro z e; cases e) g'⟩
        · refine ⟨_, upd_same, ?_, fun nm hm => ?_⟩
          · rw [put_keys, gk, tk, List.map_append, List.map_singleton, dset_snoc]
            unfold dstep
            have e : has ((dset (((ys.take i).map key).map (·.1))).map (Sum.inr : Str → Key)) (.inr y.1) = has (dset (((ys.take i).map key).map (·.1))) y.1 := by
              unfold has
              rw [List.any_map]
              congr 1
              funext z
              show decide ((Sum.inr z : Key) = .inr y.1) = decide (z = y.1)
              rw [decide_eq_decide]
              exact ⟨fun q => by injection q, fun q => by rw [q]⟩
            rw [e]
            split
            · rfl
            · rw [List.map_append]
              rfl
          · rw [tk, List.map_append, List.mem_append] at hm
            rw [valV_put, tk, nums_snoc]
            by_cases e : y.1 = nm
            · subst e
              refine ⟨tt, by rw [if_pos rfl], ?_⟩
              rw [if_pos rfl, upd_ne (fun z => by rw [z, se _ _ gd] at ntt; cases ntt), upd_same]
            · rw [if_neg e, if_neg (fun q => e (by injection q with q; exact q.symm))]
              obtain ⟨t', a, b⟩ := gv nm (hm.resolve_right fun z => e (List.mem_singleton.mp (show nm ∈ [y.1] from z)).symm)
              exact ⟨t', a, ne (by intro z e; cases e) b⟩
      · rintro σ H' ⟨⟨x2, x3, rfl⟩, sm, gp, gt, gn⟩
        rw [List.take_length] at gn
        exact ⟨_, rfl, k d H' sm nd1 ⟨_, zs, asc, gn⟩⟩
end
end Half

namespace Half
open PySem PySem.Spec PyProof.Rows L2
abbrev sSt (i : Nat) : Stmt := inClass (top 85) i
/-! ### what a store holds -/
def tabOf (es : Eds) : List (List Key × V) := es.map fun e => (kk e.2, .ref e.1)
structure StObj (CT : Addr) (H : Hp) (a : Addr) (es : Eds) : Prop where
  ob : ∃ dx tb nb, H a = some (.ins CT dx [("table", .ref tb), ("numbers", .ref nb)]) ∧ H tb = some (.dT (tabOf es)) ∧ NumsAt H nb (keysOf es)
  one : (keysOf es).Nodup
theorem StObj.same {CT : Addr} {H H' : Hp} {a : Addr} {es : Eds} (S : Same H H') (h : StObj CT H a es) : StObj CT H' a es := by
  obtain ⟨⟨dx, tb, nb, h1, h2, h3⟩, one⟩ := h
  exact ⟨⟨dx, tb, nb, S _ _ h1, S _ _ h2, h3.same S⟩, one⟩
theorem wrong_none {ks : List Kk} (h : wrongAt ks = none) : ks ≠ [] ∧ ∀ i, i < ks.length → badB ks i = false := by
  unfold wrongAt at h
  split at h
  · cases h
  · rename_i he
    exact ⟨fun z => he (by rw [z]; rfl), fun i hi => by simpa using List.find?_eq_none.mp h i (List.mem_range.mpr hi)⟩
theorem bad_has {ks : List Kk} {i : Nat} {k : Kk} (h : badB ks i = false) (hk : ks[i]? = some k) : k ∉ ks.take i := by
  unfold badB at h
  rw [hk] at h
  simp only [Bool.or_eq_false_iff] at h
  exact not_has h.1
theorem wrong_nodup {ks : List Kk} (h : wrongAt ks = none) : ks.Nodup := by
  have hb := (wrong_none h).2
  have key : ∀ i, i ≤ ks.length → (ks.take i).Nodup := by
    intro i
    induction i with
    | zero => intro _; exact .nil
    | succ i ih =>
      intro hi
      have e : ks[i]? = some ks[i] := List.getElem?_eq_getElem hi
      rw [take_snoc e]
      refine List.nodup_append.mpr ⟨ih (Nat.le_of_succ_le hi), List.nodup_cons.mpr ⟨by simp, .nil⟩, fun a ha b hb' z => ?_⟩
      rw [List.mem_singleton.mp hb'] at z
      rw [z] at ha
      exact bad_has (hb i hi) e ha
  have := key ks.length (Nat.le_refl _)
  rwa [List.take_length] at this
theorem tab_none {es : Eds} {k : Kk} (h : k ∉ keysOf es) : valV (tabOf es) (kk k) = none := by
  cases c : valV (tabOf es) (kk k) with
  | none => rfl
  | some v =>
    have z := valV_in c
    unfold tabOf at z
    rw [List.map_map] at z
    obtain ⟨e, he, ee⟩ := List.mem_map.mp z
    exact absurd (List.mem_map.mpr ⟨e, he, kk_inj ee⟩) h
theorem tab_some {es : Eds} (one : (keysOf es).Nodup) {e : Addr × Kk} (h : e ∈ es) : valV (tabOf es) (kk e.2) = some (.ref e.1) := by
  have nd : ((tabOf es).map (·.1)).Nodup := by
    unfold tabOf
    rw [List.map_map]
    have : (es.map ((fun x : List Key × V => x.1) ∘ fun e => (kk e.2, V.ref e.1))) = (keysOf es).map kk := by rw [List.map_map] <;> rfl
    rw [this]
    exact List.pairwise_map.mpr (one.imp fun hne e => hne (kk_inj e))
  exact val_nodup nd (kk e.2, .ref e.1) (List.mem_map.mpr ⟨e, h, rfl⟩)
def spSi (K : PySem.W.Frag) (C CT CI : Addr) : Sp := fun vs H Q E => ∃ (x t dx : Addr) (es : Eds), vs = [.ref x, .ref t] ∧ H x = some (.ins CT dx []) ∧ EdsAt K C H t es ∧ es.length ≤ 40 ∧
  (wrongAt (keysOf es) = none → ∀ H', SameBut x H H' → StObj CT H' x es → Q .non H') ∧ (∀ i, wrongAt (keysOf es) = some i → ∀ H' d, Same H H' → H' d = some (.xd [("index", .int i)]) → E (.ref CI) (some d) H')
structure TxtS (P : Program) (w : World) (K : PySem.W.Frag) (mg : Str → Option Value) (base : Heap) (C CT CI fI : Addr) (fdI : FuncData) : Prop where
  cl : Cls K CT
  nT : NoAttr K CT "table"
  nN : NoAttr K CT "numbers"
  lst : mg "list" = none
  mgE : mg "InvalidStore" = some (.ref CI)
  sup : SupC P K mg CI
  nF : PySem.W.findIn K (.ref CI) "index" = some none
  iC : PySem.W.findIn K (.ref CI) "__init__" = some (some (.ref fI))
  tI : PySem.W.typeIn K (.ref fI) = some (.type "function")
  er : ErrFn P K CI "InvalidStore.__init__" sIs fI fdI
  bI : Binds K fdI ["self", "index"] []
  p0 : Prp P w K mg base C "name" 0
  p1 : Prp P w K mg base C "version" 1
  ce : Cls K C
  dW : Def P w K mg base 3 "wrong_index" ["editions"] (spWi K C)
  dV : Def P w K mg base 1 "versions_by_name" ["keys"] (spVn K)
abbrev SiN : List Str := ["self", "editions", "index", "edition"]
theorem scSi : FnScope SiN ["self", "editions"] (defScope (sSt 0)) := ⟨rfl, rfl, rfl, by decide +kernel, rfl, by decide +kernel, by decide +kernel⟩
theorem wrong_bound {ks : List Kk} {i : Nat} (h : wrongAt ks = some i) : i ≤ ks.length := by
  unfold wrongAt at h
  split at h
  · cases h; exact Nat.zero_le _
  · exact Nat.le_of_lt (List.mem_range.mp (List.mem_of_find?_eq_some h))
section
variable {P : Program} {w : World} {K : PySem.W.Frag} {mg : Str → Option Value} {base : Heap} {C CT CI fI : Addr} {fdI : FuncData}
theorem ok_si {f : Addr} {fd : FuncData} (F : Fun K "__init__" "Store.__init__" (sSt 0) f fd) (T : TxtS P w K mg base C CT CI fI fdI) : FnOk P w K mg base (L2.CX P w) 4 f fd ["self", "editions"] (spSi K C CT CI) := by
  refine F.okX scSi (fun vs H Q E h => ?_) (fun cdv A outer s H vs Q E hr h => ?_)
  · obtain ⟨x, t, dx, es, rfl, _⟩ := h
    rfl
  · obtain ⟨x, t, dx, es, rfl, hx, hE, hz, kOk, kBad⟩ := h
    have nd' := scSi.nd
    have hu := hu_of hr
    have r2 : Room 2 _ := hr.mono (by decide)
    have FI : FnOk P w K mg base CX0 1 fI fdI ["self", "index"] (spErrI CI "index") := ok_is T.er T.sup T.nF
    refine ⟨_, pss_cons (ps_set (i := 2) nd' rfl (Or.inl rfl) (pe_def T.dW hr rfl (pa_cons (pv 1) pa_nil)))
      (pss_cons (ps_if (pt_cmp (pc_notN (pv 2))) (pss_one (ps_raise rfl (takes_of rfl rfl rfl rfl) (pmk_oex T.sup.oex T.iC T.tI FI (hr.mono (by decide)) T.bI .nil (fun _ _ _ _ _ _ _ h => h.elim) rfl T.mgE (pa_cons (pv 2) pa_nil)))) pss_nil)
      (pss_cons (ps_fld (pv 0) (pe_dcG (own := [("edition", 3)]) (g := gName 3) (tt := tYes) Bare.t hu rfl nd' (pi_tup (pv 1)) (blkOk_by (N := SiN) (sc := defScope (sSt 0)) (by decide +kernel)) (fun _ _ _ _ _ => pg_name (i := 3) nd' rfl (Or.inl rfl)) (fun _ _ _ _ _ => pts_nil)
          (fun _ _ _ _ _ => pe_tup (pa_cons (pe_prp T.p0 T.ce r2 (pv 3)) (pa_cons (pe_prp T.p1 T.ce r2 (pv 3)) pa_nil))) (fun _ _ _ _ _ => pv 3)) rfl)
      (pss_one (ps_fld (pv 0) (pe_def T.dV (hr.mono (by decide)) rfl (pa_cons (pe_callTy (call_list_dT rfl) (by rfl) T.lst (by decide +kernel) (pa_cons (pe_fld (pv 0) rfl) pa_nil)) pa_nil)) rfl)))), ?_⟩
    refine ⟨_, rfl, t, es, rfl, hE, hz, fun H1 s1 => ?_⟩
    cases hw : wrongAt (keysOf es) with
    | some i =>
      refine ⟨_, rfl, true, rfl, ?_⟩
      refine iteT ?_
      have hi : i ≤ 1000 := by
        have := wrong_bound hw
        rw [List.length_map] at this
        omega
      refine ⟨_, rfl, (by show 1 ≤ 1000; decide), fun a ha => ⟨a, i, rfl, upd_same, hi, fun d hd1 hd2 => ⟨rfl, d, [("index", .int i)], upd_same, ?_, ?_, ?_⟩⟩⟩
      · rw [upd_ne hd2, upd_same]
      · rw [upd_ne hd2] at hd1
        exact hd1
      · rw [upd_ne hd2] at hd1
        refine kBad i hw _ d (fun b o q => ?_) upd_same
        have q1 := s1 b o q
        have nb : b ≠ d := ne_of_none q1 hd1
        have na : b ≠ a := ne_of_none q1 ha
        rw [upd_ne nb, del_ne na, upd_ne na, upd_ne nb, upd_ne na]
        exact q1
    | none =>
      refine ⟨_, rfl, false, rfl, ?_⟩
      refine iteF ?_
      have one := wrong_nodup hw
      refine ⟨_, rfl, t, rfl, ⟨_, (hE.same s1).1⟩, fun D nD => ?_⟩
      refine dcG_it (walk_tup (K := K) (a := t) (xs := es.map fun e => .ref e.1)) (fun i H' => Same H1 H' ∧ H' D = some (.dT (tabOf (es.take i)))) ⟨Same.upd_new nD, upd_same⟩ (fun i H' _ I => ((hE.same s1).same I.1).1) ?_ ?_
      · rintro i v H2 H2' hi ⟨sm, gD⟩ ⟨rfl, hv⟩
        obtain ⟨e, he, rfl⟩ : ∃ e, es[i]? = some e ∧ v = .ref e.1 := by
          rw [List.getElem?_map] at hv
          obtain ⟨e, h1, h2⟩ := Option.map_eq_some_iff.mp hv
          exact ⟨e, h1, h2.symm⟩
        obtain ⟨dy, p, xs, h1, h2⟩ := ((hE.2 e (List.mem_of_getElem? he)).same s1).same sm
        refine ⟨rfl, ?_⟩
        refine ⟨_, rfl, e.1, dy, _, rfl, h1, e.1, dy, p, _, _, rfl, h1, h2, rfl, _, rfl, e.1, dy, _, rfl, h1, e.1, dy, p, _, _, rfl, h1, h2, rfl, two_le, fun tk ntk => ?_⟩
        have st := Same.upd_new (o := .tup [.str e.2.1, .int e.2.2]) ntk
        have hi' : i < es.length := (List.getElem?_eq_some_iff.mp he).1
        refine ⟨_, rfl, _, DPut.t (k := kk e.2) (st _ _ gD) upd_same (by unfold tabOf; rw [List.length_map, List.length_take, sizeLine_eq]; omega), ?_, ?_⟩
        · intro b o q
          rw [upd_ne (ne_of_none q nD)]
          exact st _ _ (sm _ _ q)
        · have new : valV (tabOf (es.take i)) (kk e.2) = none := by
            refine tab_none fun z => ?_
            have hke : (keysOf es)[i]? = some e.2 := by rw [List.getElem?_map, he] <;> rfl
            refine bad_has ((wrong_none hw).2 i (by rw [List.length_map]; exact hi')) hke ?_
            rw [← List.map_take]
            exact z
          rw [putK_new _ new, upd_same, take_snoc he]
          unfold tabOf
          rw [List.map_append]
          rfl
      · rintro H2 ⟨sm, gD⟩
        rw [List.length_map, List.take_length] at gD
        have hx2 := sm _ _ (s1 _ _ hx)
        refine ⟨_, rfl, x, CT, dx, [], rfl, hx2, T.cl, T.nT, (by show 0 < 1000; decide), ?_⟩
        have nxD : D ≠ x := ne_of gD hx2 (by intro z; cases z)
        have gx3 : (upd H2 x (.ins CT dx (putF "table" (.ref D) []))) x = some (.ins CT dx [("table", .ref D)]) := upd_same
        have gD3 : (upd H2 x (.ins CT dx (putF "table" (.ref D) []))) D = some (.dT (tabOf es)) := by rw [upd_ne nxD]; exact gD
        refine ⟨_, rfl, x, CT, dx, _, _, rfl, gx3, T.cl, T.nT, rfl, D, _, rfl, .inl gD3, fun pl bs npl hbs => ?_⟩
        have sl := Same.upd_new (o := .lst (bs.map V.ref)) npl
        have lb : (tabOf es).length = bs.length := Paired.length hbs
        have lb' : bs.length = (keysOf es).length := by
          rw [← lb]
          unfold tabOf
          rw [List.length_map, List.length_map]
        have zip1 : (bs.zip (keysOf es)).map (fun b => V.ref b.1) = bs.map V.ref := by
          rw [show (fun b : Addr × Kk => V.ref b.1) = V.ref ∘ Prod.fst from rfl, ← List.map_map, List.map_fst_zip (Nat.le_of_eq lb')]
        have zip2 : (bs.zip (keysOf es)).map (·.2) = keysOf es := List.map_snd_zip (Nat.le_of_eq lb'.symm)
        have hk : ∀ {es : Eds} {bs : List Addr} {H : Hp}, IsKeys H (tabOf es) bs → KeysIn H (bs.zip (keysOf es)) := by
          intro es
          induction es with
          | nil => intro bs H _ b hb; simp at hb
          | cons e es ih =>
            intro bs H h
            cases h with
            | cons h t =>
              intro b hb
              rcases List.mem_cons.mp hb with rfl | hb
              · exact h
              · exact ih t b hb
        refine ⟨pl, bs.zip (keysOf es), rfl, by rw [zip1]; exact SqL.of upd_same, fun b hb => sl _ _ (hk hbs b hb), by rw [List.length_zip, List.length_map]; omega, fun d H5 s5 nd5 nums => ?_⟩
        rw [zip2] at nums
        have gx5 := s5 _ _ (sl _ _ gx3)
        refine ⟨_, rfl, x, CT, dx, _, rfl, gx5, T.cl, T.nN, (by show 1 < 1000; decide), ?_⟩
        have keep : SameBut x H (upd H5 x (.ins CT dx (putF "numbers" (.ref d) [("table", .ref D)]))) := fun b o hb q => by
          rw [upd_ne hb]
          refine s5 _ _ (sl _ _ ?_)
          rw [upd_ne hb]
          exact sm _ _ (s1 _ _ q)
        have sx : ∀ b o, (∀ fs, o ≠ .ins CT dx fs) → H5 b = some o → (upd H5 x (.ins CT dx (putF "numbers" (.ref d) [("table", .ref D)]))) b = some o := fun b o ho q => by
          rw [upd_ne (ne_of q gx5 (ho _))]
          exact q
        refine kOk hw _ keep ⟨⟨dx, D, d, upd_same, sx _ _ (by intro fs z; cases z) (s5 _ _ (sl _ _ gD3)), ?_⟩, one⟩
        obtain ⟨ys, a1, a2, kvs, a3, a4, a5⟩ := nums
        refine ⟨ys, a1, a2, kvs, sx _ _ (by intro fs z; cases z) a3, a4, fun nm hm => ?_⟩
        obtain ⟨tt, b1, b2⟩ := a5 nm hm
        exact ⟨tt, b1, sx _ _ (by intro fs z; cases z) b2⟩
end
end Half

namespace Half
open PySem PySem.Spec PyProof.Rows L2
/-- an error class without an own __init__ -/
structure ErrC (K : PySem.W.Frag) (mg : Str → Option Value) (x : Str) (C : Addr) : Prop where
  g : mg x = some (.ref C)
  x : PySem.W.excIn K C [.type "ValueError", .type "Exception", .type "BaseException", .type "object"] "ValueError.__new__" = true
  k : PySem.W.keepIn K (.ref C) = true
  b : PySem.W.subIn K (.ref C) (.type "BaseException") = some true
  t : PySem.W.typeIn K (.ref C) = some (.type "type")
structure TxtT (K : PySem.W.Frag) (mg : Str → Option Value) (CT CN CU : Addr) : Prop where
  cl : Cls K CT
  nT : NoAttr K CT "table"
  nN : NoAttr K CT "numbers"
  tup : mg "tuple" = none
  len : mg "len" = none
  isi : mg "isinstance" = none
  boo : mg "bool" = none
  mgC : mg "Store" = some (.ref CT)
  en : ErrC K mg "UnknownName" CN
  eu : ErrC K mg "UnknownEdition" CU
  ha : PySem.W.findIn K (.ref CT) "__class__" = some (some (.builtin "object.__class__"))
  hn : PySem.W.specialIn K (.builtin "object.__class__") "__get__" = some (some (.builtin "getset_descriptor.__get__"))
  ht : PySem.W.takesIn K (.builtin "object.__class__") = some true
  hm : PySem.W.mroIn K CT (.type "object") = some true
  ki : PySem.W.kitOne K (.ref CT) (.ref CT) = some true
def spNames (CT : Addr) : Sp := fun vs H Q _ => ∃ (a : Addr) (es : Eds), vs = [.ref a] ∧ StObj CT H a es ∧ ∀ ys p, ys.Perm (keysOf es) → Asc ys → H p = none → Q (.ref p) (upd H p (.tup ((dset (ys.map (·.1))).map V.str)))
def spVers (CT CN : Addr) : Sp := fun vs H Q E => ∃ (a : Addr) (es : Eds) (nm : Str), vs = [.ref a, .str nm] ∧ StObj CT H a es ∧
  (nm ∈ (keysOf es).map (·.1) → ∀ ys t, ys.Perm (keysOf es) → Asc ys → H t = some (.tup (numsOf ys nm)) → Q (.ref t) H) ∧ (nm ∉ (keysOf es).map (·.1) → (reprText nm).length ≤ 1000 ∧ E (.ref CN) none H)
def spLen (CT : Addr) : Sp := fun vs H Q _ => ∃ (a : Addr) (es : Eds), vs = [.ref a] ∧ StObj CT H a es ∧ Q (.int (es.length : Nat)) H
def spHas (CT : Addr) : Sp := fun vs H Q _ => ∃ (a b : Addr) (es : Eds) (k : Kk), vs = [.ref a, .ref b] ∧ StObj CT H a es ∧ H b = some (.tup [.str k.1, .int k.2]) ∧ Q (.bl (has (keysOf es) k)) H
def spItem (CT CU : Addr) : Sp := fun vs H Q E => ∃ (a b : Addr) (es : Eds) (k : Kk), vs = [.ref a, .ref b] ∧ StObj CT H a es ∧ H b = some (.tup [.str k.1, .int k.2]) ∧ (∀ e ∈ es, e.2 = k → Q (.ref e.1) H) ∧ (k ∉ keysOf es → E (.ref CU) none H)
def spStEq (CT : Addr) : Sp := fun vs H Q _ => ∃ (a b : Addr) (es es' : Eds), vs = [.ref a, .ref b] ∧ StObj CT H a es ∧ StObj CT H b es' ∧ (es.length = es'.length → ∀ e ∈ es, e ∈ es') ∧ Q (.bl (decide (es.length = es'.length))) H
section
variable {P : Program} {w : World} {K : PySem.W.Frag} {mg : Str → Option Value} {base : Heap} {CT CN CU : Addr}
theorem scNames : FnScope ["self"] ["self"] (defScope (sSt 1)) := ⟨rfl, rfl, rfl, by decide +kernel, rfl, by decide +kernel, by decide +kernel⟩
theorem ok_names {f : Addr} {fd : FuncData} (F : Fun K "names" "Store.names" (sSt 1) f fd) (T : TxtT K mg CT CN CU) : FnOk P w K mg base CX0 1 f fd ["self"] (spNames CT) := by
  refine F.ok scNames (fun vs H Q E h => ?_) (fun cdv A outer s H vs Q E hr h => ?_)
  · obtain ⟨a, es, rfl, _⟩ := h
    rfl
  · obtain ⟨a, es, rfl, ⟨⟨dx, tb, nb, h1, h2, ys, p1, p2, kvs, h3, h4, h5⟩, one⟩, k⟩ := h
    refine ⟨_, pss_one (ps_ret (pe_callTy (call_tuple_dK rfl) (by rfl) T.tup (by decide +kernel) (pa_cons (pe_fld (pv 0) rfl) pa_nil))), ?_⟩
    refine ⟨_, rfl, a, CT, dx, _, _, rfl, h1, T.cl, T.nN, rfl, nb, kvs, rfl, h3, fun q nq => ?_⟩
    have e : kvs.map (fun kv => kV kv.1) = (dset (ys.map (·.1))).map V.str := by
      rw [show (fun kv : Key × V => kV kv.1) = kV ∘ Prod.fst from rfl, ← List.map_map, h4, List.map_map]
      rfl
    rw [e]
    exact k ys q p1 p2 nq
theorem scVers : FnScope ["self", "name"] ["self", "name"] (defScope (sSt 2)) := ⟨rfl, rfl, rfl, by decide +kernel, rfl, by decide +kernel, by decide +kernel⟩
theorem ok_vers {f : Addr} {fd : FuncData} (F : Fun K "versions" "Store.versions" (sSt 2) f fd) (T : TxtT K mg CT CN CU) : FnOk P w K mg base (L2.CX P w) 1 f fd ["self", "name"] (spVers CT CN) := by
  refine F.okX scVers (fun vs H Q E h => ?_) (fun cdv A outer s H vs Q E hr h => ?_)
  · obtain ⟨a, es, nm, rfl, _⟩ := h
    rfl
  · obtain ⟨a, es, nm, rfl, ⟨⟨dx, tb, nb, h1, h2, ys, p1, p2, kvs, h3, h4, h5⟩, one⟩, kY, kN⟩ := h
    have hu := hu_of hr
    refine ⟨_, pss_cons (ps_if (pt_cmp (pc_dnotin hu (pv 1) (pe_fld (pv 0) rfl))) (pss_one (ps_raise rfl (takes_of rfl rfl rfl rfl) (SkE.pmk_own1 PySem.F.excBase_ValueError T.en.x T.en.g T.en.k (raises_own T.en.b T.en.t) rfl (pe_joined (.cons pe_str (.cons (pe_fmtR (pv 1)) .nil)))))) pss_nil)
      (pss_one (ps_ret (pe_dget hu (pe_fld (pv 0) rfl) (pv 1) (fun _ _ => rfl)))), ?_⟩
    have mem : ∀ x, x ∈ ys.map (·.1) ↔ x ∈ (keysOf es).map (·.1) := fun x => (p1.map (·.1)).mem_iff
    refine ⟨_, rfl, _, rfl, a, CT, dx, _, _, rfl, h1, T.cl, T.nN, rfl, nb, _, rfl, DGet.k (k := .inr nm) h3, _, rfl, ?_⟩
    by_cases hm : nm ∈ (keysOf es).map (·.1)
    · obtain ⟨t, e1, e2⟩ := h5 nm ((mem nm).mpr hm)
      refine ite_no (by rw [e1]; rfl) ?_
      refine ⟨_, rfl, a, CT, dx, _, _, rfl, h1, T.cl, T.nN, rfl, _, rfl, nb, .ref t, rfl, ?_, kY hm ys t p1 p2 e2⟩
      rw [← e1]
      exact DGet.k (k := .inr nm) h3
    · have e : valV kvs (.inr nm) = none := by
        cases c : valV kvs (.inr nm) with
        | none => rfl
        | some v =>
          have z := valV_in c
          rw [h4] at z
          obtain ⟨q, hq, eq⟩ := List.mem_map.mp z
          injection eq with eq
          subst eq
          exact absurd ((mem q).mp ((mem_dset _ _).mp hq)) hm
      refine ite_yes (by rw [e]; rfl) ?_
      obtain ⟨lr, kE⟩ := kN hm
      refine ⟨_, rfl, (by decide), _, rfl, .inl ⟨nm, rfl, by rw [sizeLine_eq]; omega, _, rfl, ?_, kE⟩⟩
      rw [app_len, app_len, sizeLine_eq]
      have : ("the store has no package " : Str).length = 25 := by decide
      have e0 : (Str.empty).length = 0 := by decide
      omega
theorem scLen : FnScope ["self"] ["self"] (defScope (sSt 3)) := ⟨rfl, rfl, rfl, by decide +kernel, rfl, by decide +kernel, by decide +kernel⟩
theorem ok_len {f : Addr} {fd : FuncData} (F : Fun K "__len__" "Store.__len__" (sSt 3) f fd) (T : TxtT K mg CT CN CU) : FnOk P w K mg base CX0 1 f fd ["self"] (spLen CT) := by
  refine F.ok scLen (fun vs H Q E h => ?_) (fun cdv A outer s H vs Q E hr h => ?_)
  · obtain ⟨a, es, rfl, _⟩ := h
    rfl
  · obtain ⟨a, es, rfl, ⟨⟨dx, tb, nb, h1, h2, _⟩, one⟩, k⟩ := h
    refine ⟨_, pss_one (ps_ret (pe_callB call_len_dT (by rfl) T.len PySem.boot_len (pa_cons (pe_fld (pv 0) rfl) pa_nil))), ?_⟩
    refine ⟨_, rfl, a, CT, dx, _, _, rfl, h1, T.cl, T.nT, rfl, tb, _, rfl, h2, ?_⟩
    have e : (tabOf es).length = es.length := List.length_map _
    rw [e]
    exact k
theorem scHas : FnScope ["self", "x"] ["self", "x"] (defScope (sSt 4)) := ⟨rfl, rfl, rfl, by decide +kernel, rfl, by decide +kernel, by decide +kernel⟩
theorem tab_has {es : Eds} (one : (keysOf es).Nodup) (k : Kk) : (valV (tabOf es) (kk k)).isSome = has (keysOf es) k := by
  by_cases h : k ∈ keysOf es
  · obtain ⟨e, he, rfl⟩ := List.mem_map.mp h
    rw [tab_some one he, has_iff.mpr h]
    rfl
  · rw [tab_none h, has_no h]
    rfl
theorem ok_has {f : Addr} {fd : FuncData} (F : Fun K "__contains__" "Store.__contains__" (sSt 4) f fd) (T : TxtT K mg CT CN CU) : FnOk P w K mg base CX0 1 f fd ["self", "x"] (spHas CT) := by
  refine F.ok scHas (fun vs H Q E h => ?_) (fun cdv A outer s H vs Q E hr h => ?_)
  · obtain ⟨a, b, es, k, rfl, _⟩ := h
    rfl
  · obtain ⟨a, b, es, k, rfl, ⟨⟨dx, tb, nb, h1, h2, _⟩, one⟩, hb, q⟩ := h
    have hu := hu_of hr
    refine ⟨_, pss_one (ps_ret (pe_and (pe_cmp (pc_din hu (pv 1) (pe_fld (pv 0) rfl)) rfl) (pe_one (pe_not (pe_callB call_isi (by rfl) T.isi (by decide +kernel) (pa_cons (pe_ix ix_tup (pv 1) pe_int (fun _ _ => rfl)) (pa_cons (pe_bltn (v := .ty "bool") (by rfl) T.boo (by decide +kernel) rfl) pa_nil))))))), ?_⟩
    refine ⟨_, rfl, _, rfl, a, CT, dx, _, _, rfl, h1, T.cl, T.nT, rfl, tb, _, rfl, DGet.t (k := kk k) h2 hb, _, rfl, ?_⟩
    rw [tab_has one]
    cases c : has (keysOf es) k
    · rw [c] at q
      exact iteF q
    · refine iteT ?_
      rw [c] at q
      refine ⟨_, rfl, b, _, 1, _, rfl, rfl, .inl (.inl hb), rfl, _, _, _, _, _, rfl, .ty _, .base (.int _), kit_ty (r := false) (by decide +kernel), _, rfl, q⟩
theorem scItem : FnScope ["self", "at"] ["self", "at"] (defScope (sSt 5)) := ⟨rfl, rfl, rfl, by decide +kernel, rfl, by decide +kernel, by decide +kernel⟩
theorem ok_item {f : Addr} {fd : FuncData} (F : Fun K "__getitem__" "Store.__getitem__" (sSt 5) f fd) (T : TxtT K mg CT CN CU) {fh : Addr} {fdh : FuncData} (FH : FnOk P w K mg base CX0 1 fh fdh ["self", "x"] (spHas CT)) (hO : OwnSp K CT fh "__contains__") (bh : Binds K fdh ["self", "x"] []) :
    FnOk P w K mg base (L2.CX P w) 2 f fd ["self", "at"] (spItem CT CU) := by
  refine F.okX scItem (fun vs H Q E h => ?_) (fun cdv A outer s H vs Q E hr h => ?_)
  · obtain ⟨a, b, es, k, rfl, _⟩ := h
    rfl
  · obtain ⟨a, b, es, k, rfl, hS, hb, kY, kN⟩ := h
    have hu := hu_of hr
    refine ⟨_, pss_cons (ps_if (pt_cmpR (op_notinO FH hO bh hr pass0) (pv 1) (pv 0) (by rfl)) (pss_one (ps_raise rfl (takes_of rfl rfl rfl rfl) (pmk_own PySem.F.excBase_ValueError T.eu.x T.eu.g T.eu.k (raises_own T.eu.b T.eu.t) rfl))) pss_nil)
      (pss_one (ps_ret (pe_dget hu (pe_fld (pv 0) rfl) (pv 1) (fun _ _ => rfl)))), ?_⟩
    obtain ⟨⟨dx, tb, nb, h1, h2, _⟩, one⟩ := id hS
    refine ⟨_, rfl, _, rfl, a, dx, _, rfl, h1, a, b, es, k, rfl, hS, hb, _, rfl, _, rfl, ?_⟩
    by_cases hm : k ∈ keysOf es
    · rw [has_iff.mpr hm]
      refine ite_no rfl ?_
      obtain ⟨e, he, rfl⟩ := List.mem_map.mp hm
      refine ⟨_, rfl, a, CT, dx, _, _, rfl, h1, T.cl, T.nT, rfl, _, rfl, tb, .ref e.1, rfl, ?_, kY e he rfl⟩
      rw [← tab_some one he]
      exact DGet.t (k := kk e.2) h2 hb
    · rw [has_no hm]
      refine ite_yes rfl ?_
      exact kN hm
theorem scStEq : FnScope ["self", "other"] ["self", "other"] (defScope (sSt 7)) := ⟨rfl, rfl, rfl, by decide +kernel, rfl, by decide +kernel, by decide +kernel⟩
theorem ok_steq {f : Addr} {fd : FuncData} (F : Fun K "__eq__" "Store.__eq__" (sSt 7) f fd) (T : TxtT K mg CT CN CU) : FnOk P w K mg base CX0 1 f fd ["self", "other"] (spStEq CT) := by
  refine F.ok scStEq (fun vs H Q E h => ?_) (fun cdv A outer s H vs Q E hr h => ?_)
  · obtain ⟨a, b, es, es', rfl, _⟩ := h
    rfl
  · obtain ⟨a, b, es, es', rfl, ⟨⟨dx, tb, nb, h1, h2, _⟩, one⟩, ⟨⟨dy, tc, nc, g1, g2, _⟩, one'⟩, hs, k⟩ := h
    have hu := hu_of hr
    refine ⟨_, pss_one (ps_ret (pe_and (pe_callB call_isi (by rfl) T.isi (by decide +kernel) (pa_cons (pv 1) (pa_cons (pe_glob (v := .ref CT) rfl T.mgC rfl) pa_nil)))
      (pe_one (pe_cmpR (op_eqT hu) (pe_fld (pv 0) rfl) (pe_fld (pv 1) rfl) (nomark _))))), ?_⟩
    refine ⟨_, rfl, _, _, _, _, _, rfl, .own CT, .base (.ins g1 T.cl T.ha T.hn T.ht T.hm), T.ki, _, rfl, ?_⟩
    refine iteT ?_
    have e1 : (tabOf es).length = es.length := List.length_map _
    have e2 : (tabOf es').length = es'.length := List.length_map _
    refine ⟨_, rfl, a, CT, dx, _, _, rfl, h1, T.cl, T.nT, rfl, _, rfl, b, CT, dy, _, _, rfl, g1, T.cl, T.nT, rfl, tb, tc, _, _, rfl, rfl, h2, g2, fun hl p hp => ?_, ?_⟩
    · rw [e1, e2] at hl
      obtain ⟨e, he, rfl⟩ := List.mem_map.mp hp
      exact ⟨e.1, rfl, tab_some one' (hs hl e he)⟩
    · rw [e1, e2]
      exact k
end
end Half

/-! == and != of two dicts with flat keys whose values are data -/
namespace L2
open PySem PySem.Spec PyProof.Rows
inductive DpM (K : PySem.W.Frag) (H : Hp) : List (Key × V) → List (Key × PyData) → Prop
  | nil : DpM K H [] []
  | cons {k : Key} {v : V} {d : PyData} {ks : List (Key × V)} {ds : List (Key × PyData)} : Dp K H v d → SeqAt.shaped d = true → DpM K H ks ds → DpM K H ((k, v) :: ks) ((k, d) :: ds)
def datAt (ds : List (Key × PyData)) (k : Key) : Option PyData := (ds.find? fun q => decide (q.1 = k)).map (·.2)
def hitM (dl : List (Key × PyData)) (p : Key × PyData) : Bool := match datAt dl p.1 with
  | some d => PyData.eqv p.2 d
  | none => false
def eqM (dk dl : List (Key × PyData)) : Bool := decide (dk.length = dl.length) && dk.all (hitM dl)
theorem DpM.len {K : PySem.W.Frag} {H : Hp} {ks : List (Key × V)} {ds : List (Key × PyData)} (h : DpM K H ks ds) : ks.length = ds.length := by
  induction h with
  | nil => rfl
  | cons _ _ _ ih => simp [ih]
theorem DpM.at {K : PySem.W.Frag} {H : Hp} {ks : List (Key × V)} {ds : List (Key × PyData)} (h : DpM K H ks ds) (k : Key) : (valV ks k = none ∧ datAt ds k = none) ∨ ∃ v d, valV ks k = some v ∧ datAt ds k = some d ∧ Dp K H v d ∧ SeqAt.shaped d = true := by
  induction h with
  | nil => exact .inl ⟨rfl, rfl⟩
  | @cons k' v d ks ds h1 h2 _ ih =>
    by_cases c : k' = k
    · refine .inr ⟨v, d, ?_, ?_, h1, h2⟩
      · unfold valV; rw [List.find?_cons, decide_eq_true c]; rfl
      · unfold datAt; rw [List.find?_cons, decide_eq_true c]; rfl
    · have e1 : valV ((k', v) :: ks) k = valV ks k := by unfold valV; rw [List.find?_cons, decide_eq_false c]
      have e2 : datAt ((k', d) :: ds) k = datAt ds k := by unfold datAt; rw [List.find?_cons, decide_eq_false c]
      rw [e1, e2]
      exact ih
section
variable {X : Cx}
theorem hits_dat {pins : List (Addr × Obj)} {σ : St} {H : Hp} {s : Shared} {A : Around} (I : Inv X pins σ H s) (hu : A.units + 64 < cLine) {ls : List (Key × V)} {dl : List (Key × PyData)} {vb : List (Key × Value)} (rb : KV ls vb) (hb : DpM X.K H ls dl) :
    ∀ {ks : List (Key × V)} {dk : List (Key × PyData)} {va : List (Key × Value)}, KV ks va → DpM X.K H ks dk → PySem.W.KeqHits A s vb va (dk.all (hitM dl)) := by
  intro ks dk va ra ha
  induction ha generalizing va with
  | nil =>
    cases ra
    exact .nil
  | @cons k v d ks ds h1 h2 _ ih =>
    cases ra with
    | @cons _ q _ qs h t =>
      obtain ⟨e1, e2⟩ := h
      obtain ⟨k', u⟩ := q
      have e1 : k = k' := e1
      subst e1
      have e2 : RelV v u := e2
      have ih := ih t
      have z := rb.val k
      rw [List.all_cons]
      rcases hb.at k with ⟨n1, n2⟩ | ⟨v', d', n1, n2, n3, n4⟩
      · rw [n1] at z
        have z : valueAt vb k = none := by
          cases q : valueAt vb k with
          | none => rfl
          | some m => rw [q] at z; exact (show False from z).elim
        have e : hitM dl (k, d) = false := by unfold hitM; rw [show datAt dl (k, d).1 = none from n2]
        rw [e, Bool.false_and]
        exact .miss z
      · rw [n1] at z
        obtain ⟨y, hy, ry⟩ := RelO.some_of z
        have e : hitM dl (k, d) = PyData.eqv d d' := by unfold hitM; rw [show datAt dl (k, d).1 = some d' from n2]
        rw [e]
        obtain ⟨as, r1⟩ := Dp.reads I d v u h1 e2
        obtain ⟨bs, r2⟩ := Dp.reads I d' v' y n3 ry
        exact .hit hy (SeqAt.eqAt_reads d d' A s u y as bs r1 r2 (SeqAt.canLay_of_shaped h2) (SeqAt.canLay_of_shaped n4) (SeqAt.room_of_shaped h2 hu)) ih
def rEqM (K : PySem.W.Frag) (fl : Bool → Bool) : R2 := fun x y H Q => ∃ a b ks ls dk dl, x = .ref a ∧ y = .ref b ∧ H a = some (.dK ks) ∧ H b = some (.dK ls) ∧ DpM K H ks dk ∧ DpM K H ls dl ∧ Q (.bl (fl (eqM dk dl))) H
theorem eqM_len {K : PySem.W.Frag} {H : Hp} {ks ls : List (Key × V)} {dk dl : List (Key × PyData)} {va vb : List (Key × Value)} (ra : KV ks va) (rb : KV ls vb) (ha : DpM K H ks dk) (hb : DpM K H ls dl) : (va.length == vb.length && dk.all (hitM dl)) = eqM dk dl := by
  unfold eqM
  rw [← ra.length, ← rb.length, ha.len, hb.len]
  congr 1
theorem op_eqM (hu : X.A.units + 66 < cLine) : OpR X (compareOp .Eq) (rEqM X.K id) := by
  intro pins s σ H x y v u Q I rx ry h
  obtain ⟨a, b, ks, ls, dk, dl, rfl, rfl, ea, eb, ma, mb, q⟩ := h
  cases rx
  cases ry
  obtain ⟨_, ya, va, ra, da⟩ := dk_of I.hok ea
  obtain ⟨_, yb, vb, rb, db⟩ := dk_of I.hok eb
  refine PySem.W.keq_eq (knd := mixKind X.prog X.w) ya yb da db (by omega) (fun _ => hits_dat I (show X.A.in1.units + 64 < cLine by show X.A.units + 1 + 64 < cLine; omega) rb mb ra ma) ?_
  rw [eqM_len ra rb ma mb]
  exact ⟨.bl _, H, I, rfl, q⟩
theorem op_neM (hu : X.A.units + 66 < cLine) : OpR X (compareOp .NotEq) (rEqM X.K not) := by
  intro pins s σ H x y v u Q I rx ry h
  obtain ⟨a, b, ks, ls, dk, dl, rfl, rfl, ea, eb, ma, mb, q⟩ := h
  cases rx
  cases ry
  obtain ⟨_, ya, va, ra, da⟩ := dk_of I.hok ea
  obtain ⟨_, yb, vb, rb, db⟩ := dk_of I.hok eb
  refine PySem.W.keq_ne (knd := mixKind X.prog X.w) ya yb da db (by omega) (fun _ => hits_dat I (show X.A.in1.units + 64 < cLine by show X.A.units + 1 + 64 < cLine; omega) rb mb ra ma) ?_
  rw [eqM_len ra rb ma mb]
  exact ⟨.bl _, H, I, rfl, q⟩
end
end L2

/-! a dict of flat keys taken into another one, pair by pair, as {**d, ..} does it -/
namespace L2
open PySem PySem.Spec PyProof.Rows
section
variable {P : Program} {w : World} {A : Around} {E : Value → Shared → Prop} {s : Shared}
/-- the place of a key, by the entries and by the pairs -/
theorem place_same {κ : Type} [DecidableEq κ] {kd : KeyKind P w κ} {es : Array DictEntry} {ps : List (κ × Value)} {x : κ} (hp : ∀ y, (es.toList.findIdx? fun e => kd.is y e.key) = ps.findIdx? fun q => decide (q.1 = y)) : (es.findIdx? fun e => kd.is x e.key) = ps.findIdx? fun q => decide (q.1 = x) := by
  have z := hp x
  obtain ⟨l⟩ := es
  simpa using z
/-- one pair -/
theorem put_one {κ : Type} [DecidableEq κ] {kd : KeyKind P w κ} {D : Addr} {ps : List (κ × Value)} {x : κ} {u y : Value} {Q : Unit → Shared → Prop} (hx : kd.is x u = true) (dd : s.heap.DictOf kd D ps) (few : ps.length ≤ sizeLine)
    (q : ∀ h', h'.DictOf kd D (stored ps x y) → Heap.SameBut D s.heap h' → Q () { s with heap := h' }) : wpAny (model P w) A (dictPut D (kd.hash x) u y) Q E s := by
  obtain ⟨ob, es, ep, g1, g2, g3, g4, g5, g6⟩ := dd
  have pl := place_same (x := x) g5.findIdx
  have size : es.size = ps.length := by rw [← g5.length, Array.length_toList]
  unfold dictPut
  refine wpAny_bind (wpAny_dictFind_of hx g1 g3 g4 ?_)
  by_cases there : x ∈ ps.map (·.1)
  · obtain ⟨i, ei⟩ : ∃ i, (ps.findIdx? fun q => decide (q.1 = x)) = some i := by
      cases c : ps.findIdx? fun q => decide (q.1 = x) with
      | some i => exact ⟨i, rfl⟩
      | none => exact absurd there (not_mem_of_findIdx_none c)
    have st : stored ps x y = ps.map fun q => if q.1 = x then (q.1, y) else q := by unfold stored; rw [if_pos (any_of_findIdx_some ei)]
    rw [pl, ei]
    have l1 : (es.toList.findIdx? fun e => kd.is x e.key) = some i := by rw [g5.findIdx x, ei]
    have pairs := g5.modify g6 l1 y
    refine wpAny_updateDict g1 g3 (q _ ⟨_, _, ep, Heap.get?_update_self _ g1 (Obj.isFreed_of_dict (Obj.data_mapDict g3 _)), g2.mapDict _, Obj.data_mapDict g3 _, g4.modify _ _, ?p, ?n⟩ (Heap.SameBut.update ..))
    case p =>
      obtain ⟨l⟩ := es
      rw [st]
      simpa using pairs
    case n =>
      rw [st, keys_map_store]
      exact g6
  · have none_ : (ps.findIdx? fun q => decide (q.1 = x)) = none := by
      refine List.findIdx?_eq_none_iff.mpr fun q hq => decide_eq_false fun e => there ?_
      exact List.mem_map.mpr ⟨q, hq, e⟩
    have st : stored ps x y = ps ++ [(x, y)] := by
      unfold stored
      rw [if_neg]
      intro z
      obtain ⟨q, hq, e⟩ := List.any_eq_true.mp z
      exact there (List.mem_map.mpr ⟨q, hq, of_decide_eq_true e⟩)
    rw [pl, none_]
    have pairs := g5.append hx (kd.hash x) y
    refine wpAny_updateDictKeys (hz := by rw [size]; exact few) g1 g3 (q _ ⟨_, _, ep + 1, Heap.get?_update_self _ g1 (Obj.isFreed_of_dict (Obj.data_mapDictKeys g3 _)), g2.mapDictKeys _, Obj.data_mapDictKeys g3 _, g4.push hx _, ?p, ?n⟩ (Heap.SameBut.update ..))
    case p =>
      obtain ⟨l⟩ := es
      rw [st]
      simpa using pairs
    case n =>
      rw [st, List.map_append]
      refine List.nodup_append.mpr ⟨g6, by simp, fun a ha b hb e => there ?_⟩
      have : b = x := by simpa using hb
      rw [← this, ← e]
      exact ha
theorem flat_of {k : Key} {v : Value} (h : (mixKind P w).is k v = true) (a : Addr) : v ≠ .ref a := by
  rintro rfl
  cases k <;> exact absurd h (by simp [mixKind, keyIs, Value.isInt, Value.isStrOf])
/-- one pair of the source, behind those that were taken -/
def oneMore (D S : Addr) (ep i : Nat) : Sem (ForInStep PUnit) := do
  match (← dictEntries S)[i]? with
  | some e => do
    holding [e.key, e.val] (dictPut D e.hash e.key e.val)
    if ((← dictEpoch S) != ep) = true then do
      (unsupported "dict.changed-during-merge" : Sem PUnit)
      pure (.yield .unit)
    else pure (.yield .unit)
  | _ => do
    (unsupported "dict.changed-during-merge" : Sem PUnit)
    pure (.yield .unit)
/-- an entry and its pair -/
def Goes (P : Program) (w : World) (e : DictEntry) (q : Key × Value) : Prop := (mixKind P w).is q.1 e.key = true ∧ e.hash = (mixKind P w).hash q.1 ∧ e.val = q.2
theorem goes_of {h : Heap} {S : Addr} {ps : List (Key × Value)} (dd : h.DictOf (mixKind P w) S ps) : ∃ ob es ep, h.get? S = some ob ∧ ob.data = .dict es ep ∧ es.size = ps.length ∧ ∀ (i : Nat) (q : Key × Value), ps[i]? = some q → ∃ e, es[i]? = some e ∧ Goes P w e q := by
  obtain ⟨ob, es, ep, g1, _, g3, g4, g5, _⟩ := dd
  have size : es.size = ps.length := by rw [← g5.length, Array.length_toList]
  refine ⟨ob, es, ep, g1, g3, size, fun i q hq => ?_⟩
  have lt : i < es.size := by rw [size]; exact (List.getElem?_eq_some_iff.mp hq).1
  refine ⟨es[i], Array.getElem?_eq_getElem lt, ?_⟩
  obtain ⟨a, b⟩ := g5.get? (i := i) (e := es[i]) (k := q.1) (v := q.2) (by rw [Array.getElem?_toList, Array.getElem?_eq_getElem lt]) hq
  obtain ⟨k2, c, d⟩ := g4 _ (Array.getElem_mem lt)
  rw [(mixKind P w).inj _ _ _ c a] at d
  exact ⟨a, d, b⟩
theorem take_rest {D S : Addr} {ob : Obj} {es : Array DictEntry} {ep : Nat} {ps : List (Key × Value)} (ne : S ≠ D) (hd : ob.data = .dict es ep) (go : ∀ (i : Nat) (q : Key × Value), ps[i]? = some q → ∃ e, es[i]? = some e ∧ Goes P w e q) : ∀ (n i : Nat) (s : Shared) (acc : List (Key × Value)) (Q : PUnit → Shared → Prop), n + i = ps.length →
    s.heap.get? S = some ob → s.heap.DictOf (mixKind P w) D acc → acc.length + n ≤ sizeLine →
    (∀ h', h'.get? S = some ob → h'.DictOf (mixKind P w) D (merged acc (ps.drop i)) → Heap.SameBut D s.heap h' → Q .unit { s with heap := h' }) →
    wpAny (model P w) A (forIn (List.range' i n) PUnit.unit fun j (_ : PUnit) => oneMore D S ep j) Q E s := by
  intro n
  induction n with
  | zero =>
    intro i s acc Q en gS gD _ q
    have z := q s.heap gS (by rw [List.drop_of_length_le (by omega)]; exact gD) (Heap.SameBut.refl D _)
    exact wpAny_pure z
  | succ n more =>
    intro i s acc Q en gS gD few q
    have lt : i < ps.length := by omega
    obtain ⟨e, ee, a1, a2, a3⟩ := go i ps[i] (List.getElem?_eq_getElem lt)
    rw [List.range'_succ, List.forIn_cons]
    refine wpAny_bind ?_
    unfold oneMore
    refine wpAny_bind (wpAny_dictEntries gS hd ?_)
    rw [ee]
    dsimp only
    rw [a2, a3]
    refine wpAny_bind (wpAny_holding (put_one a1 gD (by omega) fun h1 d1 b1 => ?_))
    have gS1 : h1.get? S = some ob := by rw [b1.2 S ne]; exact gS
    refine wpAny_bind (wpAny_dictEpoch gS1 hd ?_)
    rw [bne_self_eq_false, if_neg Bool.false_ne_true]
    refine wpAny_pure ?_
    dsimp only
    have l1 := stored_length_le acc ps[i].1 ps[i].2
    refine more (i + 1) { s with heap := h1 } _ Q (by omega) gS1 d1 (by omega) fun h2 c1 c2 c3 => q h2 c1 ?_ (b1.trans c3)
    rw [List.drop_eq_getElem_cons lt]
    exact c2
/-- all pairs of the dict at S are put into the dict at D -/
theorem merge_map {D S : Addr} {acc ps : List (Key × Value)} {Q : Unit → Shared → Prop} (ne : S ≠ D) (hS : (S == sysModules) = false) (gD : s.heap.DictOf (mixKind P w) D acc) (gS : s.heap.DictOf (mixKind P w) S ps) (few : acc.length + ps.length ≤ sizeLine)
    (q : ∀ h', h'.DictOf (mixKind P w) D (merged acc ps) → Heap.SameBut D s.heap h' → Q () { s with heap := h' }) : wpAny (model P w) A (mergeMapping D (.ref S) false) Q E s := by
  obtain ⟨ob, es, ep, gob, hd, size, go⟩ := goes_of gS
  obtain ⟨obD, esD, epD, gobD, hdD, _, _⟩ := goes_of gD
  have ty := gS.typeIs
  have main : wpAny (model P w) A (forIn (List.range es.size) PUnit.unit (fun j (_ : PUnit) => oneMore D S ep j) >>= fun _ => pure ()) Q E s := by
    rw [List.range_eq_range', size]
    refine wpAny_bind (take_rest ne hd go ps.length 0 s acc _ (Nat.add_zero _) gob gD few fun h' _ d sb => ?_)
    exact wpAny_pure (q h' d sb)
  unfold mergeMapping
  refine wpAny_bind (wpAny_isInstance ty isSubtype_dict_dict ?_)
  show wpAny _ _ (specialOf (.ref S) "__iter__" >>= _) _ _ s
  refine wpAny_bind (wpAny_specialOf ty F.slot_dict_iter.lookup ?_)
  show wpAny _ _ (pure (some (Value.builtin "dict.__iter__") == some (Value.builtin "dict.__iter__")) >>= _) _ _ s
  refine wpAny_bind (wpAny_pure ?_)
  have yes : (some (Value.builtin "dict.__iter__") == some (Value.builtin "dict.__iter__")) = true := by decide +kernel
  rw [yes]
  dsimp only
  rw [hS, if_neg Bool.false_ne_true]
  refine wpAny_bind (wpAny_dictEntries gobD hdD ?_)
  have tail : wpAny (model P w) A (do
      let l ← dictEntries S
      let e ← dictEpoch S
      forIn (List.range l.size) PUnit.unit fun j (_ : PUnit) => oneMore D S e j
      pure ()) Q E s := wpAny_bind (wpAny_dictEntries gob hd (wpAny_bind (wpAny_dictEpoch gob hd main)))
  by_cases em : esD.isEmpty = true
  · rw [if_pos em]
    refine wpAny_bind (wpAny_dictEntries gob hd (wpAny_bind ?_))
    rw [← Array.forIn_toList]
    have all : ∀ (l : List DictEntry) (Q' : PUnit → Shared → Prop), (∀ e ∈ l, ∀ a, e.key ≠ .ref a) → Q' .unit s → wpAny (model P w) A (forIn l PUnit.unit fun e (_ : PUnit) => (match e.key with
        | Value.ref a => do
          if ((← specialOf e.key (Str.ofString "__eq__")) != some (Value.builtin "object.__eq__")) = true then
            if (es.filter fun x => x.hash == e.hash).size > 1 then do
              (unsupported "dict.merge-into-an-empty-dict:keys-of-equal-hash" : Sem PUnit)
              pure (.yield .unit)
            else pure (.yield .unit)
          else pure (.yield .unit)
        | _ => pure (.yield .unit) : Sem (ForInStep PUnit))) Q' E s := by
      intro l
      induction l with
      | nil => exact fun Q' _ z => wpAny_pure z
      | cons e l ih =>
        intro Q' nr z
        rw [List.forIn_cons]
        refine wpAny_bind ?_
        have n0 := nr e List.mem_cons_self
        cases c : e.key with
        | ref a => exact absurd c (n0 a)
        | _ => exact wpAny_pure (ih Q' (fun f hf => nr f (List.mem_cons_of_mem _ hf)) z)
    refine all es.toList _ (fun e he a => ?_) tail
    obtain ⟨i, hi, e1⟩ := List.getElem_of_mem he
    have lt : i < ps.length := by rw [← size]; simpa using hi
    obtain ⟨e2, h2, h3, _⟩ := go i ps[i] (List.getElem?_eq_getElem lt)
    have : e2 = e := by
      rw [Array.getElem?_eq_getElem (by simpa using hi)] at h2
      rw [← e1, ← Option.some.inj h2]
      simp
    rw [← this]
    exact flat_of h3 a
  · rw [if_neg em]
    exact tail
end
end L2

namespace L2
open PySem PySem.Spec PyProof.Rows
section
variable {prog : Program} {w : World} {A : Around} {E : Value → Shared → Prop} {s : Shared}
theorem display_star {m k v : Sem Value} {Q : Value → Shared → Prop}
    (h : wpAny (model prog w) A m (fun x s1 => ∃ o more, x = .ref o ∧ s.heap.objs.size ≠ o ∧ (o == sysModules) = false ∧ s1.heap.DictOf (mixKind prog w) s.heap.objs.size [] ∧ s1.heap.DictOf (mixKind prog w) o more ∧ more.length + 16 ≤ sizeLine ∧
      ∀ h', h'.DictOf (mixKind prog w) s.heap.objs.size (merged [] more) → Heap.SameBut s.heap.objs.size s1.heap h' →
        wpAny (model prog w) A (evalPairs [(k, v)]) (fun vs s2 => ∃ kvs cur, Carries (mixKind prog w) vs kvs ∧ kvs.length ≤ 15 ∧ cur.length + 16 ≤ sizeLine ∧ s2.heap.DictOf (mixKind prog w) h'.objs.size [] ∧ s2.heap.DictOf (mixKind prog w) s.heap.objs.size cur ∧ s.heap.objs.size ≠ h'.objs.size ∧ (h'.objs.size == sysModules) = false ∧
          ∀ h2 h3 t, h2.DictOf (mixKind prog w) h'.objs.size (merged [] kvs) → Heap.SameBut h'.objs.size s2.heap h2 → h3.DictOf (mixKind prog w) s.heap.objs.size (merged cur (merged [] kvs)) → Heap.SameBut s.heap.objs.size h2 h3 → Q (.ref s.heap.objs.size) { s2 with heap := h3, toks := t }) E { s1 with heap := h'.push { cls := .type "dict", data := .dict #[] } }) E { s with heap := s.heap.push { cls := .type "dict", data := .dict #[] } }) :
    wpAny (model prog w) A (dictDisplay [(none, m), (some k, v)]) Q E s := by
  unfold dictDisplay
  dsimp only
  rw [List.forIn_cons]
  refine wpAny_bind (wpAny_bind ?_)
  dsimp only
  rw [if_pos (show ([] : List (Sem Value × Sem Value)).isEmpty = true from rfl)]
  refine wpAny_bind (wpAny_pure ?_)
  dsimp only
  refine wpAny_bind (wpAny_alloc ?_)
  refine wpAny_bind (wpAny_holding (wpAny_mono h (fun x s1 hx => ?_) (fun _ _ e => e)))
  obtain ⟨o, more, rfl, hne, hsys, hd, ho, hsz, hx⟩ := hx
  refine wpAny_bind (wpAny_onRaise (wpAny_tryCatch (wpAny_onRaise (wpAny_holding (merge_map (Ne.symm hne) hsys hd ho (by simp; omega) (fun h' d1 sb => ?_))))))
  refine wpAny_pure ?_
  dsimp only
  rw [List.forIn_cons]
  refine wpAny_bind ?_
  dsimp only
  rw [if_neg (by simp)]
  refine wpAny_pure ?_
  dsimp only
  rw [List.forIn_nil]
  refine wpAny_pure ?_
  dsimp only
  rw [if_neg (by simp)]
  have hx := hx h' d1 sb
  refine wpAny_bind (wpAny_bind (wpAny_holding (wpAny_subDict (knd := mixKind prog w) (by simp) (wpAny_mono hx (fun vs s2 h2 => ?_) (fun _ _ e => e)))))
  obtain ⟨kvs, cur, hc, h15, hcur, hd2, hd3, hne2, hsys2, hq⟩ := h2
  refine ⟨kvs, hc, hd2, fun h2 dd sb2 => ?_⟩
  have l1 := merged_length_le [] more
  have l2 := merged_length_le [] kvs
  simp only [List.length_nil] at l1 l2
  refine wpAny_bind (wpAny_onRaise (wpAny_holding (merge_map (Ne.symm hne2) hsys2 (hd3.sameBut sb2 hne2) dd (by omega) (fun h3 d3 sb3 => ?_))))
  refine wpAny_pure ?_
  exact wpAny_pure (hq h2 h3 _ dd sb2 d3 sb3)
/-- {**d, k: v} -/
def tDStar (td tk tv : TE) : TE := fun σ H Q => ∀ p, H p = none → td σ (upd H p (.dK [])) fun x H1 => ∃ a kvs, x = .ref a ∧ H1 a = some (.dK kvs) ∧ H1 p = some (.dK []) ∧ a ≠ p ∧ kvs.length ≤ 1000 ∧
  ∀ q, H1 q = none → q ≠ p → tk σ (upd (upd H1 p (.dK kvs)) q (.dK [])) fun y H2 => tv σ H2 fun z H3 => ∃ k, y = kV k ∧ H3 p = some (.dK kvs) ∧ H3 q = some (.dK []) ∧ Q (.ref p) (upd (upd H3 q (.dK [(k, z)])) p (.dK (putK kvs k z)))
end
section
variable {X : Cx}
theorem pe_dstar {dx ke ve : Expr} {td tk tv : TE} {pos : Pos} (hd : PE X dx td) (hk : PE X ke tk) (hv : PE X ve tv) : PE X (.Dict [none, some ke] [dx, ve] pos) (tDStar td tk tv) := by
  refine ⟨fun pins s σ H Q I h => ?_⟩
  have new := dk_empty (P := X.prog) (w := X.w) (H := upd H s.heap.objs.size (.dK [])) s.heap I.big
  have I1 := I.laid (t' := s.toks) (fun _ _ z => Heap.get?_push_of_some _ z) (Nat.le_refl _) new
  have hn := I.hok.fresh (a := s.heap.objs.size) (Nat.le_refl _)
  rw [arm_eval_Dict]
  refine wpAny_bind (wpAny_standAt ?_)
  show wpAny _ _ (dictDisplay [(none, do let x ← eval dx X.env; standAt pos; pure x), (some (eval ke X.env), do let x ← eval ve X.env; standAt pos; pure x)]) _ _ s
  refine display_star ?_
  refine wpAny_bind (thn (hd.run pins _ σ _ _ I1 (h _ hn)) fun u s1 ⟨x, H1, I1', rx, a, kvs, ex, ha, hp, nap, few, hq⟩ => ?_)
  subst ex
  cases rx
  refine wpAny_bind (wpAny_standAt (wpAny_pure ?_))
  obtain ⟨z1, hd1, vs1, r1, dd1⟩ := dk_of I1'.hok hp
  obtain ⟨z2, hd2, vs2, r2, dd2⟩ := dk_of I1'.hok ha
  cases r1
  refine ⟨a, vs2, rfl, Ne.symm nap, hd2, dd1, dd2, ?_, fun h' dd' sb => ?_⟩
  · rw [← r2.length, sizeLine_eq]; omega
  have hnd : merged [] vs2 = vs2 := by
    obtain ⟨_, _, _, _, _, _, _, _, hno⟩ := dd2
    exact merged_nil_of_nodup vs2 hno
  rw [hnd] at dd'
  have he : ∃ o, h'.get? s.heap.objs.size = some o := by
    obtain ⟨o, _, _, ho, _⟩ := dd'
    exact ⟨o, ho⟩
  have I2 := d_write (t' := s1.toks) I1' (by rw [hp]; exact True.intro) sb he (dk_new (kvs := kvs) (by rw [sizeLine_eq]; omega) hd1 r2 dd')
  have hq0 := I2.hok.fresh (Nat.le_refl h'.objs.size)
  have nqp : h'.objs.size ≠ s.heap.objs.size := fun e => by
    rw [show ({ s1 with heap := h' } : Shared).heap.objs.size = h'.objs.size from rfl] at *
    rw [e, upd_same] at hq0
    cases hq0
  have hq1 : H1 h'.objs.size = none := by rw [upd_ne nqp] at hq0; exact hq0
  have I3 := I2.laid (a := h'.objs.size) (o := .dK []) (h' := h'.push { cls := .type "dict", data := .dict #[] }) (t' := s1.toks) (fun _ _ q => Heap.get?_push_of_some _ q) (Nat.le_refl _) (dk_empty h' I2.big)
  refine thn ((pps_cons (pos := pos) hk hv pps_nil).run pins _ σ _ (fun ps H3 => match ps with
    | [(y, z)] => ∃ k, y = kV k ∧ H3 s.heap.objs.size = some (.dK kvs) ∧ H3 h'.objs.size = some (.dK []) ∧ Q (.ref s.heap.objs.size) (upd (upd H3 h'.objs.size (.dK [(k, z)])) s.heap.objs.size (.dK (putK kvs k z)))
    | _ => False) I3 (hq _ hq1 nqp)) fun ws s2 ⟨ps, H3, I3', rel, q3⟩ => ?_
  obtain ⟨y, z, rfl⟩ : ∃ y z, ps = [(y, z)] := by
    match ps, q3 with
    | [(y, z)], _ => exact ⟨y, z, rfl⟩
    | [], q => exact q.elim
    | _ :: _ :: _, q => exact q.elim
  obtain ⟨k, rfl, e1, e2, q3⟩ := q3
  obtain ⟨rs, c, rk⟩ := carries_of (P := X.prog) (w := X.w) (kvs := [(k, z)]) rel
  obtain ⟨_, hdq, vq, rq, ddq⟩ := dk_of I3'.hok e2
  obtain ⟨_, hdp, vp, rp, ddp⟩ := dk_of I3'.hok e1
  cases rq
  obtain ⟨r, rfl, er⟩ : ∃ r, rs = [(k, r)] ∧ RelV z r := by
    cases rk with
    | @cons _ q _ qs h t =>
      cases t
      obtain ⟨k', u⟩ := q
      obtain ⟨e1, e2⟩ := h
      have e1 : k = k' := e1
      subst e1
      exact ⟨u, rfl, e2⟩
  have hl : (putK kvs k z).length ≤ sizeLine := by have := length_putK kvs k z; rw [sizeLine_eq]; omega
  refine ⟨[(k, r)], vp, c, (by show 1 ≤ 15; decide), by rw [← rp.length, sizeLine_eq]; omega, ddq, ddp, Ne.symm nqp, hdq, fun h2 h3 t dd2 sb2 dd3 sb3 => ?_⟩
  have hz1 : ([(k, z)] : List (Key × V)).length ≤ sizeLine := by show 1 ≤ sizeLine; decide
  have Ia := d_write (t' := t) I3' (by rw [e2]; exact True.intro) sb2 (let ⟨q, _, _, hq, _⟩ := dd2; ⟨q, hq⟩) (dk_new (kvs := [(k, z)]) hz1 hdq (.cons ⟨rfl, er⟩ .nil) dd2)
  have ep : (upd H3 h'.objs.size (.dK [(k, z)])) s.heap.objs.size = some (.dK kvs) := by rw [upd_ne (Ne.symm nqp)]; exact e1
  have Ib := d_write (t' := t) Ia (by rw [ep]; exact True.intro) sb3 (let ⟨q, _, _, hq, _⟩ := dd3; ⟨q, hq⟩) (dk_new (kvs := putK kvs k z) hl hdp (rp.put k er) dd3)
  exact ⟨.ref s.heap.objs.size, _, Ib, rfl, q3⟩
end
end L2

namespace Half
open PySem PySem.Spec PyProof.Rows L2
/-! ### states -/
abbrev St3 : Type := Str × Int × Int
def stV (s : St3) : List V := [.str s.1, .int s.2.1, .int s.2.2]
def stD (s : St3) : PyData := .tuple [.str s.1, .int s.2.1, .int s.2.2]
def THR : List Str := ["failed", "half", "ready", "unpacked"]
def STA : List Str := ["absent", "failed", "half", "left", "ready", "unpacked"]
def UNS : List Str := ["failed", "half", "unpacked"]
def AB : St3 := ("absent", 0, 0)
def isState (ks : List Kk) (nm : Str) (s : St3) : Bool :=
  if decide (s.1 = "absent") = true then inR (.int s.2.1) 0 0 && inR (.int s.2.2) 0 0
  else if ((!has THR s.1 && !decide (s.1 = "left")) || !has ks (nm, s.2.1)) = true then false
  else if decide (s.1 = "ready") = true then inR (.int s.2.2) s.2.1 s.2.1
  else inR (.int s.2.2) 0 0 || has ks (nm, s.2.2)
theorem sta_has {x : Str} (h : decide (x = "absent") = false) : (!has STA x) = (!has THR x && !decide (x = "left")) := by
  have h' : ¬ x = "absent" := of_decide_eq_false h
  unfold has STA THR
  simp only [List.any_cons, List.any_nil, Bool.or_false]
  by_cases a : x = "left"
  · subst a; decide
  · have q : ∀ y : Str, (y == x) = decide (y = x) := fun y => by
      by_cases z : y = x
      · subst z; simp
      · rw [decide_eq_false z]; simpa using z
    have r : ∀ y : Str, (x == y) = decide (x = y) := fun y => by
      by_cases z : x = y
      · subst z; simp
      · rw [decide_eq_false z]; simpa using z
    have a' : ¬ ("left" : Str) = x := fun z => a z.symm
    have h'' : ¬ ("absent" : Str) = x := fun z => h' z.symm
    simp [q, r, h', h'', a, a']
abbrev sIst : Stmt := top 24
theorem inV_str (x : Str) : ∀ ys : List Str, inV (.str x) (ys.map V.str) = has ys x
  | [] => rfl
  | y :: ys => by
    have ih := inV_str x ys
    unfold inV at ih ⊢
    unfold has at ih ⊢
    rw [List.map_cons, List.any_cons, List.any_cons, ih]
    congr 1
theorem dec_str {x y : Str} : decide (V.str x = V.str y) = decide (x = y) := by
  by_cases h : x = y
  · subst h; simp
  · rw [decide_eq_false h, decide_eq_false (fun z => h (by cases z; rfl))]
theorem next_read {D : Ends} {σ : L2.St} {H : Hp} (h : D.nx σ H) : tNext D σ H := h
theorem seq_read {t u : TS} {D : Ends} {σ : L2.St} {H : Hp} (h : t { D with nx := u D } σ H) : tSeq t u D σ H := h
theorem if_read {c : TT} {t u : TS} {D : Ends} {σ : L2.St} {H : Hp} (h : c σ H fun b H1 => if b = true then t D σ H1 else u D σ H1) : tIfS c t u D σ H := h
theorem and_read {ta tb : TT} {σ : L2.St} {H : Hp} {Q : Bool → Hp → Prop} {b c : Bool} (h1 : ∀ Q' : Bool → Hp → Prop, Q' b H → ta σ H Q') (h2 : ∀ Q' : Bool → Hp → Prop, Q' c H → tb σ H Q') (q : Q (b && c) H) : tAnd ta tb σ H Q := by
  refine h1 _ ?_
  cases b
  · exact iteF q
  · exact iteT (h2 _ q)
theorem or1_read {ta tb : TT} {σ : L2.St} {H : Hp} {Q : Bool → Hp → Prop} {b : Bool} (h1 : ∀ Q' : Bool → Hp → Prop, Q' b H → ta σ H Q') (q1 : b = true → Q true H) (q2 : b = false → tb σ H Q) : tOr ta tb σ H Q := by
  refine h1 _ ?_
  cases b
  · exact iteF (q2 rfl)
  · exact iteT (q1 rfl)
/-- the store's `in`, known by its promise -/
structure HasF (P : Program) (w : World) (K : PySem.W.Frag) (mg : Str → Option Value) (base : Heap) (CT : Addr) : Prop where
  ex : ∃ f fd, OwnSp K CT f "__contains__" ∧ FnOk P w K mg base CX0 1 f fd ["self", "x"] (spHas CT) ∧ Binds K fd ["self", "x"] []
theorem op_inS {X : Cx} {CT : Addr} (D : HasF X.prog X.w X.K X.mg X.base CT) (hr : Room 1 X.A) : OpR X (compareOp .In) (rInO CT (spHas CT) E0 id) := by
  obtain ⟨f, fd, O, F, b⟩ := D.ex
  exact op_inO F O b hr pass0
theorem op_notinS {X : Cx} {CT : Addr} (D : HasF X.prog X.w X.K X.mg X.base CT) (hr : Room 1 X.A) : OpR X (compareOp .NotIn) (rInO CT (spHas CT) E0 not) := by
  obtain ⟨f, fd, O, F, b⟩ := D.ex
  exact op_notinO F O b hr pass0
theorem StObj.ins {CT : Addr} {H : Hp} {a : Addr} {es : Eds} (h : StObj CT H a es) : ∃ dx fs, H a = some (.ins CT dx fs) := by
  obtain ⟨⟨dx, tb, nb, h1, _⟩, _⟩ := h
  exact ⟨dx, _, h1⟩
theorem inS_read {CT : Addr} {H : Hp} {a t : Addr} {es : Eds} {k : Kk} {fl : Bool → Bool} {Q : VK} (h : StObj CT H a es) (ht : H t = some (.tup [.str k.1, .int k.2])) (q : Q (.bl (fl (has (keysOf es) k))) H) : rInO CT (spHas CT) E0 fl (.ref t) (.ref a) H Q := by
  obtain ⟨dx, fs, ha⟩ := h.ins
  exact ⟨a, dx, fs, rfl, ha, a, t, es, k, rfl, h, ht, _, rfl, q⟩
structure TxtY (P : Program) (w : World) (K : PySem.W.Frag) (mg : Str → Option Value) (base : Heap) (CT : Addr) : Prop where
  isi : mg "isinstance" = none
  tup : mg "tuple" = none
  len : mg "len" = none
  srt : mg "sorted" = none
  thr : ∃ a, mg "THERE" = some (.ref a) ∧ ∀ H, SqT K H a (THR.map V.str)
  abs : ∃ a, mg "ABSENT" = some (.ref a) ∧ ∀ H, SqT K H a (stV AB)
  dN : Def P w K mg base 1 "is_number" ["value", "least", "most"] spNumber
  hs : HasF P w K mg base CT
  sta : ∃ a, mg "STATUSES" = some (.ref a) ∧ ∀ H, SqT K H a (STA.map V.str)
def spIst (K : PySem.W.Frag) (CT : Addr) : Sp := fun vs H Q _ => ∃ (a t : Addr) (es : Eds) (nm : Str) (s : St3), vs = [.ref a, .str nm, .ref t] ∧ StObj CT H a es ∧ SqT K H t (stV s) ∧ ∀ H', Same H H' → Q (.bl (isState (keysOf es) nm s)) H'
section
variable {P : Program} {w : World} {K : PySem.W.Frag} {mg : Str → Option Value} {base : Heap} {CT : Addr}
abbrev IstN : List Str := ["store", "name", "state", "status", "version", "done"]
theorem scIst : FnScope IstN ["store", "name", "state"] (defScope sIst) := ⟨rfl, rfl, rfl, by decide +kernel, rfl, by decide +kernel, by decide +kernel⟩
theorem ok_ist {f : Addr} {fd : FuncData} (F : Fun K "is_state" "is_state" sIst f fd) (T : TxtY P w K mg base CT) : FnOk P w K mg base CX0 2 f fd ["store", "name", "state"] (spIst K CT) := by
  refine F.ok scIst (fun vs H Q E h => ?_) (fun cdv A outer s H vs Q E hr h => ?_)
  · obtain ⟨a, t, es, nm, s, rfl, _⟩ := h
    rfl
  · obtain ⟨a, t, es, nm, ⟨stt, ver, don⟩, rfl, hO, hS, k⟩ := h
    have nd := scIst.nd
    obtain ⟨aT, gT, hT⟩ := T.sta
    refine ⟨_, pss_cons (ps_if (PW.pt (pw_or (pt_not (pt_val (pe_callB call_isi (by rfl) T.isi (by decide +kernel) (pa_cons (pv 2) (pa_cons (pe_bltn (v := .ty "tuple") (by rfl) T.tup (by decide +kernel) rfl) pa_nil)))))
          (pw_or1 (pt_cmpR op_ne (pe_callB call_len_seq (by rfl) T.len PySem.boot_len (pa_cons (pv 2) pa_nil)) pe_int (nomark _))))) (pss_one (ps_ret pe_bl)) pss_nil)
      (pss_cons (ps_asg (pv 2) (pg_tup rfl (pgs_cons (pg_name (i := 3) nd rfl (Or.inl rfl)) (pgs_cons (pg_name (i := 4) nd rfl (Or.inl rfl)) (pgs_cons (pg_name (i := 5) nd rfl (Or.inl rfl)) pgs_nil)))))
      (pss_cons (ps_if (pt_cmpR op_eq (pv 3) pe_str (nomark _)) (pss_one (ps_ret (pe_and (pe_def T.dN hr rfl (pa_cons (pv 4) (pa_cons pe_int (pa_cons pe_int pa_nil)))) (pe_one (pe_def T.dN hr rfl (pa_cons (pv 5) (pa_cons pe_int (pa_cons pe_int pa_nil)))))))) pss_nil)
      (pss_cons (ps_if (PW.pt (pw_or (pt_cmpR (op_notIn_seq : OpR _ _ (rIn K true)) (pv 3) (pe_glob (v := .ref aT) rfl gT rfl) (by rfl))
          (pw_or1 (pt_cmpR (op_notinS T.hs hr) (pe_tup (pa_cons (pv 1) (pa_cons (pv 4) pa_nil))) (pv 0) (by rfl))))) (pss_one (ps_ret pe_bl)) pss_nil)
      (pss_cons (ps_if (pt_cmpR op_eq (pv 3) pe_str (nomark _)) (pss_one (ps_ret (pe_def T.dN hr rfl (pa_cons (pv 5) (pa_cons (pv 4) (pa_cons (pv 4) pa_nil)))))) pss_nil)
      (pss_one (ps_ret (pe_or (pe_def T.dN hr rfl (pa_cons (pv 5) (pa_cons pe_int (pa_cons pe_int pa_nil)))) (pe_one (pe_cmpR (op_inS T.hs hr) (pe_tup (pa_cons (pv 1) (pa_cons (pv 5) pa_nil))) (pv 0) (by rfl)))))))))), ?_⟩
    unfold isState at k
    refine ⟨_, rfl, _, _, _, _, _, rfl, .ty _, tyT hS, kit_ty (r := true) (by decide +kernel), _, rfl, ?_⟩
    refine iteF ?_
    refine ⟨_, rfl, t, _, rfl, .inr hS, rfl, _, rfl, ?_⟩
    refine iteF ?_
    refine ⟨_, rfl, t, _, rfl, hS, rfl, _, _, rfl, _, _, rfl, _, _, rfl, rfl, ?_⟩
    refine ⟨_, rfl, rfl, _, rfl, ?_⟩
    rw [dec_str]
    dsimp only at k
    cases c1 : decide (stt = "absent") with
    | true =>
      refine iteT ?_
      refine ⟨_, rfl, .int ver, 0, 0, rfl, .inl ⟨_, rfl⟩, _, rfl, ?_⟩
      have k := fun H' s => k H' s
      rw [c1] at k
      simp only [if_true] at k
      cases c2 : inR (.int ver) 0 0 with
      | true =>
        refine iteT ?_
        refine ⟨_, rfl, .int don, 0, 0, rfl, .inl ⟨_, rfl⟩, ?_⟩
        rw [c2, Bool.true_and] at k
        exact k _ (Same.refl _)
      | false =>
        refine iteF ?_
        rw [c2, Bool.false_and] at k
        exact k _ (Same.refl _)
    | false =>
      refine iteF ?_
      rw [c1] at k
      simp only [Bool.false_eq_true, if_false] at k
      rw [← sta_has c1] at k
      refine next_read ?_
      dsimp only
      refine seq_read (if_read (or1_read (b := !has STA stt) (fun Q' q' => ?_) (fun e => ?_) (fun e => ?_)))
      · refine ⟨_, rfl, aT, _, rfl, .inr (hT _), rfl, flat_strs STA, _, rfl, ?_⟩
        rw [if_pos rfl, inV_str]
        exact q'
      · rw [e, Bool.true_or] at k
        exact iteT (k _ (Same.refl _))
      · rw [e, Bool.false_or] at k
        refine ⟨_, rfl, _, rfl, two_le, fun t1 n1 => ⟨_, rfl, inS_read (k := (nm, ver)) (hO.same (Same.upd_new n1)) upd_same ⟨_, rfl, ?_⟩⟩⟩
        have s1 := Same.upd_new (o := .tup [.str nm, .int ver]) n1
        have hO1 := hO.same s1
        cases c2 : !has (keysOf es) (nm, ver) with
        | true =>
          rw [c2] at k
          exact iteT (k _ s1)
        | false =>
          rw [c2] at k
          simp only [Bool.false_eq_true, if_false] at k
          refine iteF ?_
          refine ⟨_, rfl, rfl, _, rfl, ?_⟩
          rw [dec_str]
          cases c3 : decide (stt = "ready") with
          | true =>
            rw [c3] at k
            simp only [if_true] at k
            refine iteT ?_
            exact ⟨_, rfl, _, rfl, _, rfl, .int don, ver, ver, rfl, .inl ⟨_, rfl⟩, k _ s1⟩
          | false =>
            rw [c3] at k
            simp only [Bool.false_eq_true, if_false] at k
            refine iteF ?_
            refine ⟨_, rfl, .int don, 0, 0, rfl, .inl ⟨_, rfl⟩, _, rfl, ?_⟩
            cases c4 : inR (.int don) 0 0 with
            | true =>
              rw [c4, Bool.true_or] at k
              exact iteT (k _ s1)
            | false =>
              rw [c4, Bool.false_or] at k
              refine iteF ?_
              refine ⟨_, rfl, _, rfl, two_le, fun t2 n2 => ⟨_, rfl, inS_read (k := (nm, don)) (hO1.same (Same.upd_new n2)) upd_same ?_⟩⟩
              exact k _ (s1.trans (Same.upd_new n2))
end
end Half

namespace Half
open PySem PySem.Spec PyProof.Rows L2
/-! ### a dict of states -/
inductive SL (K : PySem.W.Frag) (H : Hp) : List (Key × V) → List (Str × St3) → Prop
  | nil : SL K H [] []
  | cons {n : Str} {t : Addr} {s : St3} {kvs : List (Key × V)} {ss : List (Str × St3)} : SqT K H t (stV s) → SL K H kvs ss → SL K H ((.inr n, .ref t) :: kvs) ((n, s) :: ss)
def stOf (ss : List (Str × St3)) (n : Str) : Option St3 := (ss.find? fun p => decide (p.1 = n)).map (·.2)
section
variable {K : PySem.W.Frag} {H H' : Hp} {kvs : List (Key × V)} {ss : List (Str × St3)}
theorem SL.kp (k : Kp K H H') (h : SL K H kvs ss) : SL K H' kvs ss := by
  induction h with
  | nil => exact .nil
  | cons a _ ih => exact .cons (k _ _ a) ih
theorem SL.same (s : Same H H') (h : SL K H kvs ss) : SL K H' kvs ss := h.kp s.kp
theorem SL.len (h : SL K H kvs ss) : kvs.length = ss.length := by
  induction h with
  | nil => rfl
  | cons _ _ ih => simp [ih]
theorem SL.keys (h : SL K H kvs ss) : kvs.map (·.1) = (ss.map (·.1)).map Sum.inr := by
  induction h with
  | nil => rfl
  | cons _ _ ih => simp [ih]
theorem stOf_cons {n m : Str} {s : St3} : stOf ((n, s) :: ss) m = if n = m then some s else stOf ss m := by
  unfold stOf
  rw [List.find?_cons]
  by_cases c : n = m
  · rw [if_pos c, decide_eq_true c]; rfl
  · rw [if_neg c, decide_eq_false c]
theorem SL.at (h : SL K H kvs ss) (n : Str) : (valV kvs (.inr n) = none ∧ stOf ss n = none) ∨ ∃ t s, valV kvs (.inr n) = some (.ref t) ∧ stOf ss n = some s ∧ SqT K H t (stV s) := by
  induction h with
  | nil => exact .inl ⟨rfl, rfl⟩
  | @cons m t s kvs ss a _ ih =>
    rw [stOf_cons]
    by_cases c : m = n
    · subst c
      refine .inr ⟨t, s, ?_, if_pos rfl, a⟩
      unfold valV; rw [List.find?_cons, decide_eq_true rfl]; rfl
    · rw [if_neg c]
      have e : valV ((Sum.inr m, V.ref t) :: kvs) (.inr n) = valV kvs (.inr n) := by
        unfold valV; rw [List.find?_cons, decide_eq_false (fun z => c (by injection z))]
      rw [e]
      exact ih
theorem stOf_mem {n : Str} : (stOf ss n = none ↔ n ∉ ss.map (·.1)) := by
  induction ss with
  | nil => simp [stOf]
  | cons p ss ih =>
    obtain ⟨m, s⟩ := p
    rw [stOf_cons]
    by_cases c : m = n
    · simp [c]
    · rw [if_neg c, ih]
      simp [Ne.symm c]
def putS (ss : List (Str × St3)) (n : Str) (s : St3) : List (Str × St3) := if has (ss.map (·.1)) n = true then ss.map (fun p => if p.1 = n then (p.1, s) else p) else ss ++ [(n, s)]
theorem SL.map {n : Str} {t : Addr} {s : St3} (a : SqT K H t (stV s)) (h : SL K H kvs ss) : SL K H (kvs.map (fun kv => if kv.1 = Sum.inr n then (kv.1, V.ref t) else kv)) (ss.map (fun p => if p.1 = n then (p.1, s) else p)) := by
  induction h with
  | nil => exact .nil
  | @cons m t' s' kvs ss b _ ih =>
    rw [List.map_cons, List.map_cons]
    by_cases c : m = n
    · rw [if_pos c, if_pos (by rw [c])]
      exact .cons a ih
    · rw [if_neg c, if_neg (fun z => c (by injection z))]
      exact .cons b ih
theorem SL.snoc {n : Str} {t : Addr} {s : St3} (a : SqT K H t (stV s)) (h : SL K H kvs ss) : SL K H (kvs ++ [(.inr n, .ref t)]) (ss ++ [(n, s)]) := by
  induction h with
  | nil => exact .cons a .nil
  | cons b _ ih => exact .cons b ih
theorem SL.any (h : SL K H kvs ss) (n : Str) : (kvs.any fun kv => decide (kv.1 = Sum.inr n)) = has (ss.map (·.1)) n := by
  induction h with
  | nil => rfl
  | @cons m t s kvs ss _ _ ih =>
    unfold has at ih ⊢
    rw [List.any_cons, List.map_cons, List.any_cons, ih]
    congr 1
    by_cases c : m = n
    · rw [decide_eq_true c, decide_eq_true (by rw [c])]
    · rw [decide_eq_false c, decide_eq_false (fun z => c (by injection z))]
theorem SL.put {n : Str} {t : Addr} {s : St3} (a : SqT K H t (stV s)) (h : SL K H kvs ss) : SL K H (putK kvs (.inr n) (.ref t)) (putS ss n s) := by
  unfold putK putS
  rw [h.any n]
  by_cases c : has (ss.map (·.1)) n = true
  · rw [if_pos c, if_pos c]
    exact h.map a
  · rw [if_neg c, if_neg c]
    exact h.snoc a
theorem putS_at (ss : List (Str × St3)) (n m : Str) (s : St3) : stOf (putS ss n s) m = if m = n then some s else stOf ss m := by
  unfold putS
  by_cases c : has (ss.map (·.1)) n = true
  · rw [if_pos c]
    replace c := has_iff.mp c
    induction ss with
    | nil => simp at c
    | cons p ss ih =>
      obtain ⟨k, s'⟩ := p
      rw [List.map_cons]
      by_cases e : k = n
      · rw [if_pos e, stOf_cons, stOf_cons]
        by_cases e2 : m = n
        · rw [if_pos (by rw [e, e2]), if_pos e2]
        · rw [if_neg (fun z => e2 (by rw [← z, e])), if_neg e2, if_neg (fun z => e2 (by rw [← z, e]))]
          by_cases c' : n ∈ ss.map (·.1)
          · rw [ih c', if_neg e2]
          · have : ss.map (fun p => if p.1 = n then (p.1, s) else p) = ss := by
              conv => rhs; rw [← List.map_id ss]
              refine List.map_congr_left fun p hp => ?_
              rw [if_neg (fun z => c' (List.mem_map.mpr ⟨p, hp, z⟩))]
              rfl
            rw [this]
      · rw [if_neg e, stOf_cons, stOf_cons]
        have c' : n ∈ ss.map (·.1) := by simpa [Ne.symm e] using c
        rw [ih c']
        by_cases e3 : k = m
        · rw [if_pos e3, if_pos e3, if_neg (fun z => e (by rw [e3, z]))]
        · rw [if_neg e3, if_neg e3]
  · rw [if_neg c]
    replace c := not_has (by simpa using c)
    induction ss with
    | nil => rw [List.nil_append, stOf_cons]; by_cases e : m = n <;> simp [e, stOf, Ne.symm]
    | cons p ss ih =>
      obtain ⟨k, s'⟩ := p
      rw [List.cons_append, stOf_cons, stOf_cons]
      have e : ¬ k = n := fun z => c (by simp [z])
      have c' : n ∉ ss.map (·.1) := fun z => c (by simp only [List.map_cons]; exact List.mem_cons_of_mem _ z)
      rw [ih c']
      by_cases e3 : k = m
      · rw [if_pos e3, if_pos e3, if_neg (fun z => e (by rw [e3, z]))]
      · rw [if_neg e3, if_neg e3]
theorem putS_keys (ss : List (Str × St3)) (n : Str) (s : St3) : (putS ss n s).map (·.1) = dstep (ss.map (·.1)) n := by
  unfold putS dstep
  by_cases c : has (ss.map (·.1)) n = true
  · rw [if_pos c, if_pos c, List.map_map]
    refine List.map_congr_left fun p _ => ?_
    show (if p.1 = n then (p.1, s) else p).1 = p.1
    split <;> rfl
  · rw [if_neg c, if_neg c, List.map_append]
    rfl
theorem SL.dpm (h : SL K H kvs ss) (ok : ∀ p ∈ ss, PyData.strOk p.2.1 = true) : DpM K H kvs (ss.map fun p => (.inr p.1, stD p.2)) := by
  induction h with
  | nil => exact .nil
  | @cons n t s kvs ss a _ ih =>
    refine .cons (.tup a (.cons (.str _) (.cons (.int _) (.cons (.int _) .nil)))) ?_ (ih fun p hp => ok p (List.mem_cons_of_mem _ hp))
    have := ok (n, s) List.mem_cons_self
    simp [SeqAt.shaped, stD, PyData.canLay0, PyData.canLayAll0, PyData.depth, PyData.depthAll, this]
end
end Half

namespace Half
open PySem PySem.Spec PyProof.Rows L2
/-! ### the first wrong package -/
abbrev sWp : Stmt := top 25
def optS : Option Str → V
  | some x => .str x
  | none => .non
def badP (ks : List Kk) (ss : List (Str × St3)) (n : Str) : Bool := !has (ks.map (·.1)) n || !isState ks n ((stOf ss n).getD AB)
theorem find_at {α : Type} {p : α → Bool} : ∀ {l : List α} {i : Nat} {x : α}, (∀ z ∈ l.take i, p z = false) → l[i]? = some x → p x = true → l.find? p = some x
  | [], _, _, _, h, _ => by simp at h
  | y :: l, 0, x, _, h, hp => by
    have e : y = x := by simpa using h
    subst e
    rw [List.find?_cons, hp]
  | y :: l, i + 1, x, hl, h, hp => by
    rw [List.find?_cons, hl y (by simp)]
    exact find_at (fun z hz => hl z (by rw [List.take_succ_cons]; exact List.mem_cons_of_mem _ hz)) (by simpa using h) hp
theorem find_no {α : Type} {p : α → Bool} {l : List α} (h : ∀ z ∈ l, p z = false) : l.find? p = none := List.find?_eq_none.mpr fun x hx => by simp [h x hx]
/-- the store's names, known by their promise -/
structure NamF (P : Program) (w : World) (K : PySem.W.Frag) (mg : Str → Option Value) (base : Heap) (CT : Addr) : Prop where
  cl : Cls K CT
  ex : ∃ p g fd, PropOf K CT "names" p g ∧ FnOk P w K mg base CX0 1 g fd ["self"] (spNames CT) ∧ Binds K fd ["self"] []
def tNam (CT : Addr) (te : TE) : TE := tProp CT (spNames CT) [] E0 te
theorem pe_nam {X : Cx} {CT : Addr} {e : Expr} {te : TE} {pos : Pos} (D : NamF X.prog X.w X.K X.mg X.base CT) (hr : Room 2 X.A) (he : PE X e te) (hab : attributeBase e "names" X.env (eval e X.env) = eval e X.env := by rfl) : PE X (.Attribute e "names" pos) (tNam CT te) := by
  obtain ⟨p, g, fd, h1, h2, h3⟩ := D.ex
  exact pe_prop he D.cl h1 h2 hr h3 .nil pass0 hab
theorem has_congr {α : Type} [DecidableEq α] {l m : List α} (h : ∀ x, x ∈ l ↔ x ∈ m) (x : α) : has l x = has m x := by
  cases c : has m x
  · exact has_no fun z => not_has c ((h x).mp z)
  · exact has_iff.mpr ((h x).mpr (has_iff.mp c))
theorem nam_mem {ks ys : List Kk} (hp : ys.Perm ks) (x : Str) : x ∈ dset (ys.map (·.1)) ↔ x ∈ ks.map (·.1) := by
  rw [mem_dset]
  exact (hp.map _).mem_iff
def spWp (K : PySem.W.Frag) (CT : Addr) : Sp := fun vs H Q _ => ∃ (a d : Addr) (es : Eds) (kvs : List (Key × V)) (ss : List (Str × St3)), vs = [.ref a, .ref d] ∧ StObj CT H a es ∧ H d = some (.dK kvs) ∧ SL K H kvs ss ∧ ss.length < 64 ∧
  ∀ ys H', ys.Perm (ss.map (·.1)) → sortedS ys = true → Same H H' → Q (optS (ys.find? (badP (keysOf es) ss))) H'
section
variable {P : Program} {w : World} {K : PySem.W.Frag} {mg : Str → Option Value} {base : Heap} {CT : Addr}
abbrev WpN : List Str := ["store", "states", "name"]
theorem scWp : FnScope WpN ["store", "states"] (defScope sWp) := ⟨rfl, rfl, rfl, by decide +kernel, rfl, by decide +kernel, by decide +kernel⟩
theorem ok_wp {f : Addr} {fd : FuncData} (F : Fun K "wrong_package" "wrong_package" sWp f fd) (T : TxtY P w K mg base CT) (N : NamF P w K mg base CT) (dI : Def P w K mg base 2 "is_state" ["store", "name", "state"] (spIst K CT)) : FnOk P w K mg base CX0 3 f fd ["store", "states"] (spWp K CT) := by
  refine F.ok scWp (fun vs H Q E h => ?_) (fun cdv A outer s H vs Q E hr h => ?_)
  · obtain ⟨a, d, es, kvs, ss, rfl, _⟩ := h
    rfl
  · obtain ⟨a, d, es, kvs, ss, rfl, hO, hd, hS, few, k⟩ := h
    have nd := scWp.nd
    have hu := hu_of hr
    refine ⟨_, pss_cons (ps_for PassesOwn.never rfl (pi_list (pe_callB (call_sortedD rfl) (by rfl) T.srt (by decide +kernel) (pa_cons (pv 1) pa_nil))) (pg_name (i := 2) nd rfl (Or.inl rfl))
        (pss_one (ps_if (PW.pt (pw_or (pt_cmpR (op_notIn_seq : OpR _ _ (rIn K true)) (pv 2) (pe_nam N hr (pv 0)) (by rfl)) (pw_or1 (pt_not (pt_val (pe_def dI hr rfl (pa_cons (pv 0) (pa_cons (pv 2) (pa_cons (pe_dget hu (pv 1) (pv 2) (fun _ _ => rfl)) pa_nil)))))))))
          (pss_one (ps_ret (pv 2))) pss_nil)))
      (pss_one (ps_ret pe_non)), ?_⟩
    refine ⟨_, rfl, d, kvs, ss.map (·.1), rfl, .inl hd, hS.keys, by rw [List.length_map]; exact few, fun ys p hp hs np => ?_⟩
    have s1 := Same.upd_new (o := .lst (ys.map V.str)) np
    refine ⟨p, rfl, ⟨_, SqL.of upd_same⟩, ?_⟩
    refine for_it (walk_list (xs := ys.map V.str)) (fun i σ H' => Same (upd H p (.lst (ys.map V.str))) H' ∧ (∃ x, σ = [some (.ref a), some (.ref d), x]) ∧ ∀ z ∈ ys.take i, badP (keysOf es) ss z = false) ?_ ?_ ?_ ?_
    · exact ⟨Same.refl _, ⟨none, rfl⟩, fun z hz => by simp at hz⟩
    · rintro i σ H1 _ ⟨s2, _⟩
      exact SqL.of (s2 _ _ upd_same)
    · rintro i x σ H1 H2 hi ⟨s2, ⟨x2, rfl⟩, hb⟩ ⟨rfl, hx⟩
      obtain ⟨nm, hnm, rfl⟩ := getE hx
      have s02 := s1.trans s2
      have hO2 := hO.same s02
      have hS2 := hS.same s02
      have hd2 := s02 _ _ hd
      have hmem : nm ∈ ss.map (·.1) := (hp.mem_iff).mp (List.mem_of_getElem? hnm)
      have bad : badP (keysOf es) ss nm = true → ∀ H', Same H H' → Q (.str nm) H' := fun e H' s' => by
        have q := k ys H' hp hs s'
        rw [find_at hb hnm e] at q
        exact q
      have good : badP (keysOf es) ss nm = false → ∀ z ∈ ys.take (i + 1), badP (keysOf es) ss z = false := fun e z hz => by
        rw [take_next hnm] at hz
        rcases List.mem_append.mp hz with q | q
        · exact hb z q
        · rw [List.mem_singleton.mp q]; exact e
      obtain ⟨dx, fs, ha⟩ := hO2.ins
      refine ⟨_, rfl, _, rfl, a, dx, fs, rfl, ha, a, es, rfl, hO2, fun zs q hzp hza nq => ?_⟩
      have s3 := Same.upd_new (o := .tup ((dset (zs.map (·.1))).map V.str)) nq
      refine ⟨q, _, rfl, .inr (.inl (.inl upd_same)), rfl, flat_strs _, _, rfl, ?_⟩
      rw [if_pos rfl, inV_str, has_congr (nam_mem hzp) nm]
      cases c1 : !has ((keysOf es).map (·.1)) nm with
      | true =>
        refine iteT (iteT ?_)
        exact ⟨_, rfl, bad (by unfold badP; rw [c1, Bool.true_or]) _ (s02.trans s3)⟩
      | false =>
        refine iteF ?_
        obtain ⟨t, st, e1, e2, e3⟩ : ∃ t s, valV kvs (.inr nm) = some (.ref t) ∧ stOf ss nm = some s ∧ SqT K H2 t (stV s) := by
          rcases hS2.at nm with ⟨_, z⟩ | z
          · exact absurd hmem (stOf_mem.mp z)
          · exact z
        refine ⟨_, rfl, _, rfl, _, rfl, _, rfl, d, .ref t, rfl, ?_, a, t, es, nm, st, rfl, hO2.same s3, s3.sqT e3, fun H4 s4 => ⟨_, rfl, ?_⟩⟩
        · rw [← e1]
          exact DGet.k (k := .inr nm) (s3 _ _ hd2)
        have eb : badP (keysOf es) ss nm = !isState (keysOf es) nm st := by unfold badP; rw [c1, Bool.false_or, e2]; rfl
        cases c2 : !isState (keysOf es) nm st with
        | true =>
          refine ite_yes c2 ?_
          exact ⟨_, rfl, bad (by rw [eb, c2]) _ (s02.trans (s3.trans s4))⟩
        | false =>
          refine ite_no c2 ?_
          exact ⟨s2.trans (s3.trans s4), ⟨_, rfl⟩, good (by rw [eb, c2])⟩
    · rintro σ H1 ⟨s2, ⟨x2, rfl⟩, hb⟩
      rw [show (ys.map V.str).length = ys.length from List.length_map .., List.take_length] at hb
      have q := k ys H1 hp hs (s1.trans s2)
      rw [find_no hb] at q
      exact q
end
end Half

namespace Half
open PySem PySem.Spec PyProof.Rows L2
/-! ### InvalidSystem -/
abbrev sIy : Stmt := inClass (top 15) 0
def spErrR (C : Addr) (fl : Str) : Sp := fun vs H Q _ => ∃ (a : Addr) (p : Str), vs = [.ref a, .str p] ∧ H a = some (exo a C none) ∧ (reprText p).length ≤ 1000 ∧
  ∀ dx, H dx = none → dx ≠ a → Q .non (upd (upd H dx (exd dx [(fl, .str p)])) a (exo a C (some dx)))
theorem scIy : SupScope ["self", "package"] ["self", "package"] (defScope sIy) := ⟨rfl, rfl, rfl, by decide +kernel, rfl, by decide +kernel, by decide +kernel, by decide +kernel, rfl, rfl⟩
section
variable {P : Program} {w : World} {K : PySem.W.Frag} {mg : Str → Option Value} {base : Heap}
theorem ok_iy {C f : Addr} {fd : FuncData} (F : ErrFn P K C "InvalidSystem.__init__" sIy f fd) (T : SupC P K mg C) (nF : PySem.W.findIn K (.ref C) "package" = some none) : FnOk P w K mg base CX0 1 f fd ["self", "package"] (spErrR C "package") := by
  obtain ⟨oc, od, kV, doc, pm, an, cda, cc, ct, osl, ccl, cdd, vsc, ccs, file, tf, cl, cld, csl, rfl, lk, hcd, hcode, hvs, hfile, hcell⟩ := F.ex
  refine fn_sup (N := ["self", "package"]) lk hcd scIy rfl rfl rfl hcode hvs hfile hcell T (fun vs H Q E h => ?_) (fun _ => rfl) (fun _ => rfl) (fun _ => rfl) (fun A outer s H vs Q E hr h => ?_)
  · obtain ⟨a, p, rfl, _⟩ := h
    rfl
  · obtain ⟨a, p, rfl, ha, hp, k⟩ := h
    refine ⟨a, _, _, rfl, ha, pa_cons (pe_joined (.cons pe_str (.cons (pe_fmtR (pv 1)) (.cons pe_str .nil)))) pa_nil, pss_one (ps_ost (pv 0) (pv 1)), ?_⟩
    refine ⟨_, rfl, (by decide), _, rfl, .inl ⟨p, rfl, Nat.le_trans hp (by decide), _, rfl, ?_, _, rfl, ?_, ?_⟩⟩
    · rw [app_len, app_len, sizeLine_eq]
      have : ("no such state of the package " : Str).length = 29 := by decide
      have e0 : (Str.empty).length = 0 := by decide
      omega
    · rw [app_len, app_len, app_len, sizeLine_eq]
      have : ("no such state of the package " : Str).length = 29 := by decide
      have : (" can be" : Str).length = 7 := by decide
      have e0 : (Str.empty).length = 0 := by decide
      omega
    · refine ⟨by show 1 ≤ 1000; decide, ha, ?_⟩
      refine ⟨_, rfl, _, rfl, a, C, rfl, T.oex, nF, .inl ⟨ha, fun dx h1 h2 => k dx h1 h2⟩⟩
end
/-! ### the names, ascending -/
structure IsNm (ks : List Kk) (ns : List Str) : Prop where
  nd : ns.Nodup
  asc : ns.Pairwise txLe
  mem : ∀ x, x ∈ ns ↔ x ∈ ks.map (·.1)
theorem len_sub {α : Type} [DecidableEq α] {l m : List α} (h : l.Nodup) (s : ∀ z, z ∈ l → z ∈ m) : l.length ≤ m.length := by
  rcases Nat.lt_or_ge m.length l.length with c | c
  · have := (perm_of_len h s (Nat.le_of_lt c)).length_eq
    omega
  · exact c
theorem same_perm {α : Type} [DecidableEq α] {l m : List α} (hl : l.Nodup) (hm : m.Nodup) (h : ∀ z, z ∈ l ↔ z ∈ m) : m.Perm l := perm_of_len hl (fun z => (h z).mp) (len_sub hm fun z => (h z).mpr)
theorem IsNm.uniq {ks : List Kk} {ns ms : List Str} (h1 : IsNm ks ns) (h2 : IsNm ks ms) : ns = ms :=
  sorted_uniq txLe_as h1.asc h2.asc (same_perm h2.nd h1.nd fun z => (h2.mem z).trans (h1.mem z).symm)
theorem names_asc {ys : List Kk} (h : Asc ys) : (dset (ys.map (·.1))).Pairwise txLe := by
  refine List.Pairwise.sublist (dset_sub _) ?_
  rw [List.pairwise_map]
  refine h.imp fun {a b} hab => ?_
  unfold txLe
  rcases pLt_no hab with q | ⟨q, _⟩
  · exact tx_as q
  · rw [q]; exact tx_irr _
theorem isNm_of {ks ys : List Kk} (hp : ys.Perm ks) (ha : Asc ys) : IsNm ks (dset (ys.map (·.1))) := ⟨dset_nodup _, names_asc ha, nam_mem hp⟩
/-! ### a system -/
abbrev sSy (i : Nat) : Stmt := inClass (top 26) i
structure SysAt (K : PySem.W.Frag) (CY : Addr) (H : Hp) (a st : Addr) (ss : List (Str × St3)) : Prop where
  ex : ∃ dx d kvs, H a = some (.ins CY dx [("held_store", .ref st), ("held_states", .ref d)]) ∧ H d = some (.dK kvs) ∧ SL K H kvs ss
theorem SysAt.same {K : PySem.W.Frag} {CY : Addr} {H H' : Hp} {a st : Addr} {ss : List (Str × St3)} (S : Same H H') (h : SysAt K CY H a st ss) : SysAt K CY H' a st ss := by
  obtain ⟨dx, d, kvs, h1, h2, h3⟩ := h.ex
  exact ⟨dx, d, kvs, S _ _ h1, S _ _ h2, h3.same S⟩
/-- all packages, in the order of the names -/
def allOf (ns : List Str) (ss : List (Str × St3)) : List (Str × St3) := ns.map fun n => (n, (stOf ss n).getD AB)
def spYi (K : PySem.W.Frag) (CT CY CI : Addr) : Sp := fun vs H Q E => ∃ (x st d dx : Addr) (es : Eds) (kvs : List (Key × V)) (ss : List (Str × St3)), vs = [.ref x, .ref st, .ref d] ∧ H x = some (.ins CY dx []) ∧ StObj CT H st es ∧ es.length ≤ 40 ∧ H d = some (.dK kvs) ∧ SL K H kvs ss ∧ ss.length < 64 ∧
  ((∀ n ∈ ss.map (·.1), badP (keysOf es) ss n = false) → ∀ ns H', IsNm (keysOf es) ns → SameBut x H H' → SysAt K CY H' x st (allOf ns ss) → Q .non H') ∧
  (∀ n, n ∈ ss.map (·.1) → badP (keysOf es) ss n = true → (∀ m ∈ ss.map (·.1), badP (keysOf es) ss m = true → txLe n m) → (reprText n).length ≤ 1000 ∧ ∀ H' dd, Same H H' → H' dd = some (.xd [("package", .str n)]) → E (.ref CI) (some dd) H')
structure TxtZ (P : Program) (w : World) (K : PySem.W.Frag) (mg : Str → Option Value) (base : Heap) (CT CY CI fI : Addr) (fdI : FuncData) : Prop where
  y : TxtY P w K mg base CT
  n : NamF P w K mg base CT
  cl : Cls K CY
  nS : NoAttr K CY "held_store"
  nT : NoAttr K CY "held_states"
  mgE : mg "InvalidSystem" = some (.ref CI)
  sup : SupC P K mg CI
  nF : PySem.W.findIn K (.ref CI) "package" = some none
  iC : PySem.W.findIn K (.ref CI) "__init__" = some (some (.ref fI))
  tI : PySem.W.typeIn K (.ref fI) = some (.type "function")
  er : ErrFn P K CI "InvalidSystem.__init__" sIy fI fdI
  bI : Binds K fdI ["self", "package"] []
  dW : Def P w K mg base 3 "wrong_package" ["store", "states"] (spWp K CT)
theorem find_least {p : Str → Bool} : ∀ {l : List Str} {n : Str}, l.Pairwise txLe → l.find? p = some n → ∀ m ∈ l, p m = true → txLe n m
  | [], _, _, h, _, _, _ => by simp at h
  | y :: l, n, hp, h, m, hm, hpm => by
    rw [List.find?_cons] at h
    cases c : p y with
    | true =>
      rw [c] at h
      have e : y = n := by simpa using h
      subst e
      rcases List.mem_cons.mp hm with rfl | q
      · exact tx_irr _
      · exact (List.pairwise_cons.mp hp).1 m q
    | false =>
      rw [c] at h
      rcases List.mem_cons.mp hm with rfl | q
      · rw [c] at hpm; cases hpm
      · exact find_least (List.pairwise_cons.mp hp).2 (by simpa using h) m q hpm
section
variable {P : Program} {w : World} {K : PySem.W.Frag} {mg : Str → Option Value} {base : Heap} {CT CY CI fI : Addr} {fdI : FuncData}
abbrev YiN : List Str := ["self", "store", "states", "package", "name"]
theorem scYi : FnScope YiN ["self", "store", "states"] (defScope (sSy 0)) := ⟨rfl, rfl, rfl, by decide +kernel, rfl, by decide +kernel, by decide +kernel⟩
theorem SL.ofNames {H : Hp} {kvs : List (Key × V)} {ss : List (Str × St3)} {n : Str} {v : V} {aA : Addr} (h : SL K H kvs ss) (hA : SqT K H aA (stV AB)) (e : v = (valV kvs (.inr n)).getD (.ref aA)) : ∃ t, v = .ref t ∧ SqT K H t (stV ((stOf ss n).getD AB)) := by
  rcases h.at n with ⟨h1, h2⟩ | ⟨t, s, h1, h2, h3⟩
  · rw [h1] at e
    rw [h2]
    exact ⟨aA, e, hA⟩
  · rw [h1] at e
    rw [h2]
    exact ⟨t, e, h3⟩
theorem ok_yi {f : Addr} {fd : FuncData} (F : Fun K "__init__" "System.__init__" (sSy 0) f fd) (T : TxtZ P w K mg base CT CY CI fI fdI) : FnOk P w K mg base (L2.CX P w) 4 f fd ["self", "store", "states"] (spYi K CT CY CI) := by
  refine F.okX scYi (fun vs H Q E h => ?_) (fun cdv A outer s H vs Q E hr h => ?_)
  · obtain ⟨x, st, d, dx, es, kvs, ss, rfl, _⟩ := h
    rfl
  · obtain ⟨x, st, d, dx, es, kvs, ss, rfl, hx, hO, few0, hd, hS, few, kOk, kBad⟩ := h
    have nd' := scYi.nd
    have hu := hu_of hr
    have r2 : Room 2 _ := hr.mono (by decide)
    obtain ⟨aA, gA, hA⟩ := T.y.abs
    have FI : FnOk P w K mg base CX0 1 fI fdI ["self", "package"] (spErrR CI "package") := ok_iy T.er T.sup T.nF
    refine ⟨_, pss_cons (ps_set (i := 3) nd' rfl (Or.inl rfl) (pe_def T.dW hr rfl (pa_cons (pv 1) (pa_cons (pv 2) pa_nil))))
      (pss_cons (ps_if (pt_cmp (pc_notN (pv 3))) (pss_one (ps_raise rfl (takes_of rfl rfl rfl rfl) (pmk_oex T.sup.oex T.iC T.tI FI (hr.mono (by decide)) T.bI .nil (fun _ _ _ _ _ _ _ h => h.elim) rfl T.mgE (pa_cons (pv 3) pa_nil)))) pss_nil)
      (pss_cons (ps_fld (pv 0) (pv 1) rfl)
      (pss_one (ps_fld (pv 0) (pe_dcG (own := [("name", 4)]) (g := gName 4) (tt := tYes) Bare.k hu rfl nd' (pi_tup (pe_nam T.n r2 (pv 1))) (blkOk_by (N := YiN) (sc := defScope (sSy 0)) (by decide +kernel)) (fun _ _ _ _ _ => pg_name (i := 4) nd' rfl (Or.inl rfl)) (fun _ _ _ _ _ => pts_nil)
          (fun _ _ _ _ _ => pv 4) (fun _ _ _ _ _ => pe_dget2 hu (pv 2) (pv 4) (pe_glob (v := .ref aA) rfl gA rfl) ⟨rfl, rfl, rfl, rfl⟩)) rfl)))), ?_⟩
    refine ⟨_, rfl, _, rfl, st, d, es, kvs, ss, rfl, hO, hd, hS, few, fun ys H1 hp hs s1 => ?_⟩
    cases hw : ys.find? (badP (keysOf es) ss) with
    | some n =>
      have hn : n ∈ ss.map (·.1) := (hp.mem_iff).mp (List.mem_of_find?_eq_some hw)
      obtain ⟨lr, kE⟩ := kBad n hn (List.find?_some hw) (fun m hm hb => find_least (sortedS_pw hs) hw m ((hp.mem_iff).mpr hm) hb)
      refine ⟨_, rfl, true, rfl, ?_⟩
      refine iteT ?_
      refine ⟨_, rfl, (by show 1 ≤ 1000; decide), fun a ha => ⟨a, n, rfl, upd_same, lr, fun dd hd1 hd2 => ⟨rfl, dd, [("package", .str n)], upd_same, ?_, ?_, ?_⟩⟩⟩
      · rw [upd_ne hd2, upd_same]
      · rw [upd_ne hd2] at hd1
        exact hd1
      · rw [upd_ne hd2] at hd1
        refine kE _ dd (fun b o q => ?_) upd_same
        have q1 := s1 b o q
        have nb : b ≠ dd := ne_of_none q1 hd1
        have na : b ≠ a := ne_of_none q1 ha
        rw [upd_ne nb, del_ne na, upd_ne na, upd_ne nb, upd_ne na]
        exact q1
    | none =>
      refine ⟨_, rfl, false, rfl, ?_⟩
      refine iteF ?_
      have hx1 := s1 _ _ hx
      refine ⟨_, rfl, _, rfl, x, CY, dx, [], rfl, hx1, T.cl, T.nS, (by show 0 < 1000; decide), ?_⟩
      have hxg : (upd H1 x (.ins CY dx (putF "held_store" (.ref st) []))) x = some (.ins CY dx [("held_store", .ref st)]) := upd_same
      have sb1 : SameBut x H (upd H1 x (.ins CY dx (putF "held_store" (.ref st) []))) := fun b o nb q => by rw [upd_ne nb]; exact s1 _ _ q
      generalize upd H1 x (.ins CY dx (putF "held_store" (.ref st) [])) = H2 at hxg sb1 ⊢
      have hO2 : StObj CT H2 st es := by
        obtain ⟨⟨dy, tb, nb, h1, h2, h3⟩, one⟩ := hO
        have n1 : st ≠ x := ne_of h1 hx (by intro z; cases z)
        have n2 : tb ≠ x := ne_of h2 hx (by intro z; cases z)
        obtain ⟨ys', a, b, kvs', g1, g2, g3⟩ := h3
        have n3 : nb ≠ x := ne_of g1 hx (by intro z; cases z)
        exact ⟨⟨dy, tb, nb, sb1 _ _ n1 h1, sb1 _ _ n2 h2, ys', a, b, kvs', sb1 _ _ n3 g1, g2, fun nm hm => let ⟨t, a, b⟩ := g3 nm hm; ⟨t, a, sb1 _ _ (ne_of b hx (by intro z; cases z)) b⟩⟩, one⟩
      have kp2 : Kp K H H2 := fun a xs h => by
        rcases h with (h | ⟨q, h⟩) | h
        · exact .inl (.inl (sb1 _ _ (ne_of h hx (by intro z; cases z)) h))
        · exact .inl (.inr ⟨q, sb1 _ _ (ne_of h hx (by intro z; cases z)) h⟩)
        · exact .inr h
      have hd2 : H2 d = some (.dK kvs) := sb1 _ _ (ne_of hd hx (by intro z; cases z)) hd
      have hS2 := hS.kp kp2
      obtain ⟨dy, fs, ha⟩ := hO2.ins
      refine ⟨_, rfl, st, dy, fs, rfl, ha, st, es, rfl, hO2, fun zs q hzp hza nq => ?_⟩
      have s3 := Same.upd_new (o := .tup ((dset (zs.map (·.1))).map V.str)) nq
      have nm := isNm_of hzp hza
      have nlen : (dset (zs.map (·.1))).length ≤ 40 := by
        have := nd_le (zs.map (·.1))
        unfold Half.nd at this
        rw [List.length_map, hzp.length_eq, List.length_map] at this
        omega
      generalize dset (zs.map (·.1)) = ns at s3 nm nlen
      refine ⟨q, rfl, ⟨_, .inl (.inl upd_same)⟩, fun D nD => ?_⟩
      refine dcG_it (walk_tup (K := K) (a := q) (xs := ns.map V.str)) (fun i H' => Same (upd H2 q (.tup (ns.map V.str))) H' ∧ ∃ kvs', H' D = some (.dK kvs') ∧ SL K H' kvs' (allOf (ns.take i) ss)) ⟨Same.upd_new nD, [], upd_same, .nil⟩ (fun i H' _ I => .inl (.inl (I.1 _ _ upd_same))) ?_ ?_
      · rintro i v H3 H3' hi ⟨sm, kvs', gD, gS⟩ ⟨rfl, hv⟩
        obtain ⟨n, hn, rfl⟩ := getE hv
        have s23 := s3.trans sm
        refine ⟨rfl, ?_⟩
        refine ⟨_, rfl, _, rfl, d, rfl, .inl ⟨kvs, .inl (s23 _ _ hd2)⟩, _, rfl, _, DGet.k (k := .inr n) (s23 _ _ hd2), ?_⟩
        obtain ⟨t, et, ht⟩ := (hS2.same s23).ofNames (n := n) (hA _) rfl
        rw [et]
        have kl : kvs'.length ≤ 40 := by
          rw [gS.len]
          unfold allOf
          rw [List.length_map, List.length_take]
          omega
        refine ⟨_, DPut.k (k := .inr n) gD (by rw [sizeLine_eq]; omega), ?_, ?_⟩
        · intro b o qq
          rw [upd_ne (ne_of_none qq nD)]
          exact sm _ _ qq
        · have kpD : Kp K H3' (upd H3' D (.dK (putK kvs' (.inr n) (.ref t)))) := Kp.upd gD (fun xs z => by cases z) (fun q xs z => by cases z)
          have gS' := (gS.kp kpD).put (n := n) (kpD _ _ ht)
          have en : n ∉ ns.take i := fun z => by
            have nd2 := nm.nd
            rw [← List.take_append_drop i ns] at nd2
            obtain ⟨_, _, qq⟩ := List.nodup_append.mp nd2
            have hi' := (List.getElem?_eq_some_iff.mp hn).1
            refine qq _ z _ ?_ rfl
            rw [List.drop_eq_getElem_cons hi', (List.getElem?_eq_some_iff.mp hn).2]
            exact List.mem_cons_self
          have ea : (allOf (ns.take i) ss).map (·.1) = ns.take i := by
            unfold allOf
            rw [List.map_map]
            exact List.map_id _
          have e : putS (allOf (ns.take i) ss) n ((stOf ss n).getD AB) = allOf (ns.take (i + 1)) ss := by
            unfold putS
            rw [ea, has_no en, if_neg (by decide), take_next hn]
            unfold allOf
            rw [List.map_append]
            rfl
          rw [e] at gS'
          exact ⟨_, upd_same, gS'⟩
      · rintro H3 ⟨sm, kvs', gD, gS⟩
        rw [show (ns.map V.str).length = ns.length from List.length_map .., List.take_length] at gS
        have s23 := s3.trans sm
        have hx3 := s23 _ _ hxg
        refine ⟨_, rfl, x, CY, dx, _, rfl, hx3, T.cl, T.nT, (by show 1 < 1000; decide), ?_⟩
        have nxD : D ≠ x := ne_of gD hx3 (by intro z; cases z)
        have kpx : Kp K H3 (upd H3 x (.ins CY dx (putF "held_states" (.ref D) [("held_store", .ref st)]))) := Kp.upd hx3 (fun xs z => by cases z) (fun q xs z => by cases z)
        refine kOk (fun n hn => ?_) ns _ nm (fun b o nb qq => ?_) ⟨dx, D, kvs', upd_same, by rw [upd_ne nxD]; exact gD, gS.kp kpx⟩
        · have := List.find?_eq_none.mp hw n ((hp.mem_iff).mpr hn)
          simpa using this
        · rw [upd_ne nb]
          exact s23 _ _ (sb1 _ _ nb qq)
end
end Half

namespace Half
open PySem PySem.Spec PyProof.Rows L2
/-! ### System's methods -/
structure TxtA (K : PySem.W.Frag) (mg : Str → Option Value) (CY CN : Addr) : Prop where
  cl : Cls K CY
  nS : NoAttr K CY "held_store"
  nT : NoAttr K CY "held_states"
  dic : mg "dict" = none
  isi : mg "isinstance" = none
  mgC : mg "System" = some (.ref CY)
  en : ErrC K mg "UnknownName" CN
  ha : PySem.W.findIn K (.ref CY) "__class__" = some (some (.builtin "object.__class__"))
  hn : PySem.W.specialIn K (.builtin "object.__class__") "__get__" = some (some (.builtin "getset_descriptor.__get__"))
  ht : PySem.W.takesIn K (.builtin "object.__class__") = some true
  hm : PySem.W.mroIn K CY (.type "object") = some true
  ki : PySem.W.kitOne K (.ref CY) (.ref CY) = some true
def datS (ss : List (Str × St3)) : List (Key × PyData) := ss.map fun p => (.inr p.1, stD p.2)
def spYs (K : PySem.W.Frag) (CY : Addr) : Sp := fun vs H Q _ => ∃ (a st : Addr) (ss : List (Str × St3)), vs = [.ref a] ∧ SysAt K CY H a st ss ∧ Q (.ref st) H
def spYt (K : PySem.W.Frag) (CY : Addr) : Sp := fun vs H Q _ => ∃ (a st : Addr) (ss : List (Str × St3)), vs = [.ref a] ∧ SysAt K CY H a st ss ∧ ∀ d kvs, H d = none → SL K H kvs ss → Q (.ref d) (upd H d (.dK kvs))
def spYg (K : PySem.W.Frag) (CY CN : Addr) : Sp := fun vs H Q E => ∃ (a st : Addr) (ss : List (Str × St3)) (nm : Str), vs = [.ref a, .str nm] ∧ SysAt K CY H a st ss ∧ (∀ t s, stOf ss nm = some s → SqT K H t (stV s) → Q (.ref t) H) ∧ (stOf ss nm = none → E (.ref CN) none H)
def spYw (K : PySem.W.Frag) (CT CY CI CN : Addr) : Sp := fun vs H Q E => ∃ (a st t : Addr) (ss : List (Str × St3)) (es : Eds) (nm : Str) (s : St3), vs = [.ref a, .str nm, .ref t] ∧ SysAt K CY H a st ss ∧ StObj CT H st es ∧ es.length ≤ 40 ∧ ss.length ≤ 40 ∧ SqT K H t (stV s) ∧
  (nm ∉ ss.map (·.1) → (reprText nm).length ≤ 1000 ∧ E (.ref CN) none H) ∧
  (nm ∈ ss.map (·.1) → (∀ n ∈ (putS ss nm s).map (·.1), badP (keysOf es) (putS ss nm s) n = false) → ∀ x ns H', IsNm (keysOf es) ns → Same H H' → SysAt K CY H' x st (allOf ns (putS ss nm s)) → Q (.ref x) H') ∧
  (nm ∈ ss.map (·.1) → ∀ n, n ∈ (putS ss nm s).map (·.1) → badP (keysOf es) (putS ss nm s) n = true → (∀ m ∈ (putS ss nm s).map (·.1), badP (keysOf es) (putS ss nm s) m = true → txLe n m) → (reprText n).length ≤ 1000 ∧ ∀ H' dd, Same H H' → H' dd = some (.xd [("package", .str n)]) → E (.ref CI) (some dd) H')
def spYe (K : PySem.W.Frag) (CT CY : Addr) : Sp := fun vs H Q _ => ∃ (a b st st' : Addr) (ss ss' : List (Str × St3)) (es es' : Eds), vs = [.ref a, .ref b] ∧ SysAt K CY H a st ss ∧ SysAt K CY H b st' ss' ∧ StObj CT H st es ∧ StObj CT H st' es' ∧ (es.length = es'.length → ∀ e ∈ es, e ∈ es') ∧
  (∀ p ∈ ss, PyData.strOk p.2.1 = true) ∧ (∀ p ∈ ss', PyData.strOk p.2.1 = true) ∧ Q (.bl (decide (es.length = es'.length) && eqM (datS ss) (datS ss'))) H
/-- the store's ==, known by its promise -/
structure StEqF (P : Program) (w : World) (K : PySem.W.Frag) (mg : Str → Option Value) (base : Heap) (CT : Addr) : Prop where
  ex : ∃ f fd, OwnEqC K CT f ∧ FnOk P w K mg base CX0 1 f fd ["self", "other"] (spStEq CT) ∧ Binds K fd ["self", "other"] []
theorem stEq_read {CT : Addr} {H : Hp} {a b : Addr} {es es' : Eds} {fl : Bool → Bool} {Q : VK} (h1 : StObj CT H a es) (h2 : StObj CT H b es') (hs : es.length = es'.length → ∀ e ∈ es, e ∈ es') (q : Q (.bl (fl (decide (es.length = es'.length)))) H) : rEqO CT (spStEq CT) fl (.ref a) (.ref b) H Q := by
  obtain ⟨dx, fs, ha⟩ := h1.ins
  obtain ⟨dy, gs, hb⟩ := h2.ins
  exact ⟨a, b, dx, dy, fs, gs, rfl, rfl, ha, hb, a, b, es, es', rfl, h1, h2, hs, _, rfl, q⟩
/-- System(..), known by its promise -/
structure MkY (P : Program) (w : World) (K : PySem.W.Frag) (mg : Str → Option Value) (base : Heap) (CT CY CI : Addr) : Prop where
  ex : ∃ f fd, FnOk P w K mg base (L2.CX P w) 4 f fd ["self", "store", "states"] (spYi K CT CY CI) ∧ Mk K CY f ∧ Binds K fd ["self", "store", "states"] [] ∧ mg "System" = some (.ref CY)
theorem pe_mkY {X : Cx} {CT CY CI : Addr} {E : XK} {e : Expr} {es : List Expr} {t : TA} {p pos : Pos} (D : MkY X.prog X.w X.K X.mg X.base CT CY CI) (hr : Room 5 X.A) (hg : Gl X "System") (hx : Passes (L2.CX X.prog X.w) X E) (ha : PA X (e :: es) t)
    (he : starEach (e :: es) X.env = (false, eval e X.env) :: starEach es X.env := by rfl) (hpl : (backTo pos (starEach es X.env)).any (·.1) = false := by rfl) : PE X (.Call (.Name "System" p) (e :: es) [] pos) (tMake CY (spYi X.K CT CY CI) [] E t) := by
  obtain ⟨f, fd, F, M, b, g⟩ := D.ex
  exact pe_make M F hr hg g b .nil hx ha (by decide) he hpl
/-- how System(store, states) is read -/
theorem mkY_read {K : PySem.W.Frag} {CT CY CI x dx st d : Addr} {H : Hp} {es : Eds} {kvs : List (Key × V)} {ss : List (Str × St3)} {Q : Hp → Prop} {E : XK} (nx : H x = none) (ndx : H dx = none) (hO : StObj CT H st es) (few : es.length ≤ 40) (hd : H d = some (.dK kvs)) (hS : SL K H kvs ss) (fs : ss.length < 64)
    (ok : (∀ n ∈ ss.map (·.1), badP (keysOf es) ss n = false) → ∀ ns H', IsNm (keysOf es) ns → Same H H' → SysAt K CY H' x st (allOf ns ss) → Q H')
    (bad : ∀ n, n ∈ ss.map (·.1) → badP (keysOf es) ss n = true → (∀ m ∈ ss.map (·.1), badP (keysOf es) ss m = true → txLe n m) → (reprText n).length ≤ 1000 ∧ ∀ H' dd, Same H H' → H' dd = some (.xd [("package", .str n)]) → E (.ref CI) (some dd) H') :
    spYi K CT CY CI [.ref x, .ref st, .ref d] (upd (upd H dx (.own x)) x (.ins CY dx [])) (fun v H3 => v = .non ∧ Q H3) E := by
  have sx : Same H (upd (upd H dx (.own x)) x (.ins CY dx [])) := fun b o q => by
    rw [upd_ne (ne_of_none q nx), upd_ne (ne_of_none q ndx)]
    exact q
  refine ⟨x, st, d, dx, es, kvs, ss, rfl, upd_same, hO.same sx, few, sx _ _ hd, hS.same sx, fs, fun h ns H' hn sb hs => ⟨rfl, ok h ns H' hn (fun b o q => sb _ _ (ne_of_none q nx) (sx _ _ q)) hs⟩, fun n h1 h2 h3 => ?_⟩
  obtain ⟨lr, k⟩ := bad n h1 h2 h3
  exact ⟨lr, fun H' dd s' hx => k H' dd (sx.trans s') hx⟩
section
variable {P : Program} {w : World} {K : PySem.W.Frag} {mg : Str → Option Value} {base : Heap} {CT CY CI CN : Addr}
theorem scYs : FnScope ["self"] ["self"] (defScope (sSy 1)) := ⟨rfl, rfl, rfl, by decide +kernel, rfl, by decide +kernel, by decide +kernel⟩
theorem ok_ys {f : Addr} {fd : FuncData} (F : Fun K "store" "System.store" (sSy 1) f fd) (T : TxtA K mg CY CN) : FnOk P w K mg base CX0 1 f fd ["self"] (spYs K CY) := by
  refine F.ok scYs (fun vs H Q E h => ?_) (fun cdv A outer s H vs Q E hr h => ?_)
  · obtain ⟨a, st, ss, rfl, _⟩ := h
    rfl
  · obtain ⟨a, st, ss, rfl, ⟨dx, d, kvs, h1, h2, h3⟩, k⟩ := h
    refine ⟨_, pss_one (ps_ret (pe_fld (pv 0) rfl)), ?_⟩
    exact ⟨_, rfl, a, CY, dx, _, _, rfl, h1, T.cl, T.nS, rfl, k⟩
theorem scYt : FnScope ["self"] ["self"] (defScope (sSy 2)) := ⟨rfl, rfl, rfl, by decide +kernel, rfl, by decide +kernel, by decide +kernel⟩
theorem ok_yt {f : Addr} {fd : FuncData} (F : Fun K "states" "System.states" (sSy 2) f fd) (T : TxtA K mg CY CN) : FnOk P w K mg base CX0 1 f fd ["self"] (spYt K CY) := by
  refine F.ok scYt (fun vs H Q E h => ?_) (fun cdv A outer s H vs Q E hr h => ?_)
  · obtain ⟨a, st, ss, rfl, _⟩ := h
    rfl
  · obtain ⟨a, st, ss, rfl, ⟨dx, d, kvs, h1, h2, h3⟩, k⟩ := h
    refine ⟨_, pss_one (ps_ret (pe_callTy call_dictD (by rfl) T.dic (by decide +kernel) (pa_cons (pe_fld (pv 0) rfl) pa_nil))), ?_⟩
    exact ⟨_, rfl, a, CY, dx, _, _, rfl, h1, T.cl, T.nT, rfl, d, kvs, rfl, .inl h2, fun p np => k p kvs np h3⟩
theorem scYg : FnScope ["self", "at"] ["self", "at"] (defScope (sSy 4)) := ⟨rfl, rfl, rfl, by decide +kernel, rfl, by decide +kernel, by decide +kernel⟩
theorem ok_yg {f : Addr} {fd : FuncData} (F : Fun K "__getitem__" "System.__getitem__" (sSy 4) f fd) (T : TxtA K mg CY CN) : FnOk P w K mg base (L2.CX P w) 1 f fd ["self", "at"] (spYg K CY CN) := by
  refine F.okX scYg (fun vs H Q E h => ?_) (fun cdv A outer s H vs Q E hr h => ?_)
  · obtain ⟨a, st, ss, nm, rfl, _⟩ := h
    rfl
  · obtain ⟨a, st, ss, nm, rfl, ⟨dx, d, kvs, h1, h2, h3⟩, kY, kN⟩ := h
    have hu := hu_of hr
    refine ⟨_, pss_cons (ps_if (pt_cmp (pc_dnotin hu (pv 1) (pe_fld (pv 0) rfl))) (pss_one (ps_raise rfl (takes_of rfl rfl rfl rfl) (pmk_own PySem.F.excBase_ValueError T.en.x T.en.g T.en.k (raises_own T.en.b T.en.t) rfl))) pss_nil)
      (pss_one (ps_ret (pe_dget hu (pe_fld (pv 0) rfl) (pv 1) (fun _ _ => rfl)))), ?_⟩
    refine ⟨_, rfl, _, rfl, a, CY, dx, _, _, rfl, h1, T.cl, T.nT, rfl, d, _, rfl, DGet.k (k := .inr nm) h2, _, rfl, ?_⟩
    rcases h3.at nm with ⟨e1, e2⟩ | ⟨t, s, e1, e2, e3⟩
    · refine ite_yes (by rw [e1]; rfl) ?_
      exact kN e2
    · refine ite_no (by rw [e1]; rfl) ?_
      refine ⟨_, rfl, a, CY, dx, _, _, rfl, h1, T.cl, T.nT, rfl, _, rfl, d, .ref t, rfl, ?_, kY t s e2 e3⟩
      rw [← e1]
      exact DGet.k (k := .inr nm) h2
theorem scYw : FnScope ["self", "name", "state"] ["self", "name", "state"] (defScope (sSy 3)) := ⟨rfl, rfl, rfl, by decide +kernel, rfl, by decide +kernel, by decide +kernel⟩
theorem ok_yw {f : Addr} {fd : FuncData} (F : Fun K "with_state" "System.with_state" (sSy 3) f fd) (T : TxtA K mg CY CN) (M : MkY P w K mg base CT CY CI) : FnOk P w K mg base (L2.CX P w) 6 f fd ["self", "name", "state"] (spYw K CT CY CI CN) := by
  refine F.okX scYw (fun vs H Q E h => ?_) (fun cdv A outer s H vs Q E hr h => ?_)
  · obtain ⟨a, st, t, ss, es, nm, s, rfl, _⟩ := h
    rfl
  · obtain ⟨a, st, t, ss, es, nm, s, rfl, ⟨dx, d, kvs, h1, h2, h3⟩, hO, few, fs, ht, kN, kY, kE⟩ := h
    have hu := hu_of hr
    refine ⟨_, pss_cons (ps_if (pt_cmp (pc_dnotin hu (pv 1) (pe_fld (pv 0) rfl))) (pss_one (ps_raise rfl (takes_of rfl rfl rfl rfl) (SkE.pmk_own1 PySem.F.excBase_ValueError T.en.x T.en.g T.en.k (raises_own T.en.b T.en.t) rfl (pe_joined (.cons pe_str (.cons (pe_fmtR (pv 1)) .nil)))))) pss_nil)
      (pss_one (ps_ret (pe_mkY M hr rfl (passes_call (takes_of rfl rfl rfl rfl) (fun _ _ _ _ h => h)) (pa_cons (pe_fld (pv 0) rfl) (pa_cons (pe_dstar (pe_fld (pv 0) rfl) (pv 1) (pv 2)) pa_nil))))), ?_⟩
    refine ⟨_, rfl, _, rfl, a, CY, dx, _, _, rfl, h1, T.cl, T.nT, rfl, d, _, rfl, DGet.k (k := .inr nm) h2, _, rfl, ?_⟩
    by_cases hm : nm ∈ ss.map (·.1)
    · have e1 : (valV kvs (.inr nm)).isSome = true := by
        rcases h3.at nm with ⟨_, z⟩ | ⟨_, _, z, _⟩
        · exact absurd hm (stOf_mem.mp z)
        · rw [z]; rfl
      refine ite_no (by rw [e1]; rfl) ?_
      refine ⟨_, rfl, a, CY, dx, _, _, rfl, h1, T.cl, T.nS, rfl, fun p np => ?_⟩
      have s1 := Same.upd_new (o := .dK []) np
      have nap : d ≠ p := ne_of_none h2 np
      refine ⟨_, rfl, a, CY, dx, _, _, rfl, s1 _ _ h1, T.cl, T.nT, rfl, d, kvs, rfl, s1 _ _ h2, upd_same, nap, by rw [h3.len]; omega, fun q nq nqp => ?_⟩
      refine ⟨_, rfl, _, rfl, .inr nm, rfl, ?_, upd_same, ?_⟩
      · rw [upd_ne (Ne.symm nqp), upd_same]
      rw [upd_ne nqp] at nq
      have s2 : Same H (upd (upd (upd (upd (upd H p (.dK [])) p (.dK kvs)) q (.dK [])) q (.dK [(.inr nm, .ref t)])) p (.dK (putK kvs (.inr nm) (.ref t)))) := fun b o z => by
        have n1 : b ≠ p := ne_of_none z np
        have n2 : b ≠ q := ne_of_none z nq
        rw [upd_ne n1, upd_ne n2, upd_ne n2, upd_ne n1, upd_ne n1]
        exact z
      have hp2 : (upd (upd (upd (upd (upd H p (.dK [])) p (.dK kvs)) q (.dK [])) q (.dK [(.inr nm, .ref t)])) p (.dK (putK kvs (.inr nm) (.ref t)))) p = some (.dK (putK kvs (.inr nm) (.ref t))) := upd_same
      have lp : (putS ss nm s).length < 64 := by
        have e := congrArg List.length (putS_keys ss nm s)
        rw [List.length_map] at e
        rw [e]
        unfold dstep
        split
        · rw [List.length_map]; omega
        · rw [List.length_append, List.length_map]; show ss.length + 1 < 64; omega
      refine fun x dy nx ndx nxx => mkY_read nx ndx (hO.same s2) few hp2 ((h3.same s2).put (s2.sqT ht)) lp (fun hb ns H' hn s' hs => kY hm hb x ns H' hn (s2.trans s') hs) (fun n a1 a2 a3 => ?_)
      obtain ⟨lr, k⟩ := kE hm n a1 a2 a3
      exact ⟨lr, fun H' dd s' hx => k H' dd (s2.trans s') hx⟩
    · have e1 : valV kvs (.inr nm) = none := by
        rcases h3.at nm with ⟨z, _⟩ | ⟨_, _, _, z, _⟩
        · exact z
        · exact absurd (stOf_mem.mpr hm) (by rw [z]; simp)
      refine ite_yes (by rw [e1]; rfl) ?_
      obtain ⟨lr, kE⟩ := kN hm
      refine ⟨_, rfl, (by decide), _, rfl, .inl ⟨nm, rfl, by rw [sizeLine_eq]; omega, _, rfl, ?_, kE⟩⟩
      rw [app_len, app_len, sizeLine_eq]
      have : ("the system has no package " : Str).length = 26 := by decide
      have e0 : (Str.empty).length = 0 := by decide
      omega
theorem scYe : FnScope ["self", "other"] ["self", "other"] (defScope (sSy 6)) := ⟨rfl, rfl, rfl, by decide +kernel, rfl, by decide +kernel, by decide +kernel⟩
theorem ok_ye {f : Addr} {fd : FuncData} (F : Fun K "__eq__" "System.__eq__" (sSy 6) f fd) (T : TxtA K mg CY CN) (S : StEqF P w K mg base CT) : FnOk P w K mg base CX0 2 f fd ["self", "other"] (spYe K CT CY) := by
  refine F.ok scYe (fun vs H Q E h => ?_) (fun cdv A outer s H vs Q E hr h => ?_)
  · obtain ⟨a, b, st, st', ss, ss', es, es', rfl, _⟩ := h
    rfl
  · obtain ⟨a, b, st, st', ss, ss', es, es', rfl, ⟨dx, d, kvs, h1, h2, h3⟩, ⟨dy, d', kvs', g1, g2, g3⟩, hO, hO', hs, ok, ok', k⟩ := h
    obtain ⟨fe, fde, Oe, Fe, be⟩ := S.ex
    have hu : (A.deeper (envOfC "System.__eq__" (defScope (sSy 6)) s.heap.objs.size f cdv)).units + 66 < cLine := by have := hr.un; omega
    refine ⟨_, pss_one (ps_ret (pe_and (pe_callB call_isi (by rfl) T.isi (by decide +kernel) (pa_cons (pv 1) (pa_cons (pe_glob (v := .ref CY) rfl T.mgC rfl) pa_nil)))
      (pe_and (pe_cmpR (op_eqO Fe Oe be hr) (pe_fld (pv 0) rfl) (pe_fld (pv 1) rfl) (nomark _)) (pe_one (pe_cmpR (op_eqM hu) (pe_fld (pv 0) rfl) (pe_fld (pv 1) rfl) (nomark _)))))), ?_⟩
    refine ⟨_, rfl, _, _, _, _, _, rfl, .own CY, .base (.ins g1 T.cl T.ha T.hn T.ht T.hm), T.ki, _, rfl, ?_⟩
    refine iteT ?_
    refine ⟨_, rfl, a, CY, dx, _, _, rfl, h1, T.cl, T.nS, rfl, _, rfl, b, CY, dy, _, _, rfl, g1, T.cl, T.nS, rfl, ?_⟩
    refine stEq_read hO hO' hs ?_
    refine ⟨_, rfl, ?_⟩
    show if decide (es.length = es'.length) = true then _ else _
    cases c : decide (es.length = es'.length) with
    | false =>
      rw [c, Bool.false_and] at k
      exact iteF k
    | true =>
      rw [c, Bool.true_and] at k
      refine iteT ?_
      exact ⟨_, rfl, a, CY, dx, _, _, rfl, h1, T.cl, T.nT, rfl, _, rfl, b, CY, dy, _, _, rfl, g1, T.cl, T.nT, rfl, d, d', kvs, kvs', _, _, rfl, rfl, h2, g2, h3.dpm ok, g3.dpm ok', k⟩
end
end Half

namespace Half
open PySem PySem.Spec PyProof.Rows L2
/-! ### editions with all their parts -/
structure Edn where
  name : Str
  ver : Int
  scr : List Str
  nee : List (Str × Int)
  fir : List (Str × Int)
  aga : List Str
def Edn.ed (e : Edn) : Ed := ⟨e.name, .int e.ver, e.scr, e.nee, e.fir, e.aga⟩
def Edn.key (e : Edn) : Kk := (e.name, e.ver)
abbrev Es : Type := List (Addr × Edn)
def Es.eds (es : Es) : Eds := es.map fun e => (e.1, e.2.key)
def EdX (K : PySem.W.Frag) (H : Hp) (C a : Addr) (e : Edn) : Prop := ∃ s n f g, EdObj K H C a e.ed s n f g
theorem EdX.same {K : PySem.W.Frag} {H H' : Hp} {C a : Addr} {e : Edn} (S : Same H H') (h : EdX K H C a e) : EdX K H' C a e := by
  obtain ⟨s, n, f, g, h⟩ := h
  exact ⟨s, n, f, g, h.same S⟩
/-! ### the mirror -/
def metB (ss : List (Str × St3)) (q : Str × Int) : Bool := match stOf ss q.1 with
  | some s => decide (s.1 = "ready") && decide (q.2 ≤ s.2.1)
  | none => false
def thereB (ss : List (Str × St3)) (n : Str) : Bool := match stOf ss n with
  | some s => has THR s.1
  | none => false
def edAt (es : List Edn) (k : Kk) : Option Edn := es.find? fun e => decide (e.key = k)
def agB (e o : Edn) : Bool := has e.aga o.name || has o.aga e.name
def foeB (es : List Edn) (ss : List (Str × St3)) (e : Edn) (n : Str) : Bool := match stOf ss n with
  | some s => (match edAt es (n, s.2.1) with
    | some o => agB e o
    | none => false)
  | none => false
def hostB (es : List Edn) (ss : List (Str × St3)) (e : Edn) (n : Str) : Bool := (!decide (n = e.name) && thereB ss n) && foeB es ss e n
def upB (es : List Edn) (ss : List (Str × St3)) (n : Str) : Bool := match stOf ss n with
  | some s => if decide (s.1 = "ready") = true then (match edAt es (n, s.2.1) with
    | some e => (e.nee.any fun q => !metB ss q) || ((ss.map (·.1)).any fun m => hostB es ss e m)
    | none => false) else has UNS s.1
  | none => false
def soundB (es : List Edn) (ss : List (Str × St3)) : Bool := !(ss.map (·.1)).any (upB es ss)
/-! ### a system that can be -/
structure SysOk (K : PySem.W.Frag) (C CT CY : Addr) (H : Hp) (a st : Addr) (ss : List (Str × St3)) (es : Es) : Prop where
  sys : SysAt K CY H a st ss
  sto : StObj CT H st es.eds
  ed : ∀ e ∈ es, EdX K H C e.1 e.2
  nm : IsNm (keysOf es.eds) (ss.map (·.1))
  ok : ∀ p ∈ ss, isState (keysOf es.eds) p.1 p.2 = true
  few : es.length ≤ 40
theorem SysOk.same {K : PySem.W.Frag} {C CT CY : Addr} {H H' : Hp} {a st : Addr} {ss : List (Str × St3)} {es : Es} (S : Same H H') (h : SysOk K C CT CY H a st ss es) : SysOk K C CT CY H' a st ss es := ⟨h.sys.same S, h.sto.same S, fun e he => (h.ed e he).same S, h.nm, h.ok, h.few⟩
theorem stOf_in {ss : List (Str × St3)} {n : Str} {s : St3} (h : stOf ss n = some s) : (n, s) ∈ ss := by
  unfold stOf at h
  obtain ⟨p, h1, h2⟩ := Option.map_eq_some_iff.mp h
  have e1 := List.mem_of_find?_eq_some h1
  have e2 : p.1 = n := by simpa using List.find?_some h1
  rw [← e2, ← h2]
  exact e1
theorem stOf_some {ss : List (Str × St3)} {n : Str} (h : n ∈ ss.map (·.1)) : ∃ s, stOf ss n = some s := by
  cases c : stOf ss n with
  | some s => exact ⟨s, rfl⟩
  | none => exact absurd h (stOf_mem.mp c)
/-- a state that can be, and is not absent, is of an edition -/
theorem isState_key {ks : List Kk} {n : Str} {s : St3} (h : isState ks n s = true) (hn : s.1 ≠ "absent") : (n, s.2.1) ∈ ks := by
  unfold isState at h
  rw [decide_eq_false hn] at h
  simp only [Bool.false_eq_true, if_false] at h
  split at h
  · cases h
  · rename_i c
    have c : ((!has THR s.1 && !decide (s.1 = "left")) || !has ks (n, s.2.1)) = false := by simpa using c
    have c2 := (Bool.or_eq_false_iff.mp c).2
    exact has_iff.mp (by simpa using c2)
theorem edAt_some {es : Es} {k : Kk} (h : k ∈ keysOf es.eds) : ∃ e ∈ es, e.2.key = k ∧ edAt (es.map (·.2)) k = some e.2 := by
  unfold edAt
  induction es with
  | nil => simp [Es.eds] at h
  | cons e es ih =>
    rw [List.map_cons, List.find?_cons]
    by_cases c : e.2.key = k
    · exact ⟨e, List.mem_cons_self, c, by rw [decide_eq_true c]⟩
    · rw [decide_eq_false c]
      have h' : k ∈ keysOf (Es.eds es) := by
        rcases List.mem_cons.mp (show k ∈ e.2.key :: keysOf (Es.eds es) from h) with q | q
        · exact absurd q.symm c
        · exact q
      obtain ⟨e', h1, h2, h3⟩ := ih h'
      exact ⟨e', List.mem_cons_of_mem _ h1, h2, h3⟩
/-- what is asked of System and Store, known by their promises -/
structure SyF (P : Program) (w : World) (K : PySem.W.Frag) (mg : Str → Option Value) (base : Heap) (C CT CY CN CU : Addr) : Prop where
  cl : Cls K CY
  clE : Cls K C
  nam : NamF P w K mg base CT
  sto : ∃ p g fd, PropOf K CY "store" p g ∧ FnOk P w K mg base CX0 1 g fd ["self"] (spYs K CY) ∧ Binds K fd ["self"] []
  get : ∃ f fd, OwnSp K CY f "__getitem__" ∧ PySem.W.fnIn K f = true ∧ FnOk P w K mg base (L2.CX P w) 1 f fd ["self", "at"] (spYg K CY CN) ∧ Binds K fd ["self", "at"] []
  item : ∃ f fd, OwnSp K CT f "__getitem__" ∧ PySem.W.fnIn K f = true ∧ FnOk P w K mg base (L2.CX P w) 2 f fd ["self", "at"] (spItem CT CU) ∧ Binds K fd ["self", "at"] []
  p0 : Prp P w K mg base C "name" 0
  p3 : Prp P w K mg base C "needs" 3
  p5 : Prp P w K mg base C "against" 5
section
variable {X : Cx} {C CT CY CN CU : Addr}
theorem pe_ysto {e : Expr} {te : TE} {pos : Pos} (D : SyF X.prog X.w X.K X.mg X.base C CT CY CN CU) (hr : Room 2 X.A) (he : PE X e te) (hab : attributeBase e "store" X.env (eval e X.env) = eval e X.env := by rfl) : PE X (.Attribute e "store" pos) (tProp CY (spYs X.K CY) [] E0 te) := by
  obtain ⟨p, g, fd, h1, h2, h3⟩ := D.sto
  exact pe_prop he D.cl h1 h2 hr h3 .nil pass0 hab
theorem pe_yget {a b : Expr} {ta tb : TE} {pos : Pos} (D : SyF X.prog X.w X.K X.mg X.base C CT CY CN CU) (hr : Room 2 X.A) (ha : PE X a ta) (hb : PE X b tb)
    (hs : ∀ o i, subscripted b true o i = runValue (.builtin "lifetime.subscript" ⟨[o, i], []⟩) := by intro _ _; rfl) : PE X (.Subscript a b pos) (tOp (rIxO CY (spYg X.K CY CN) E0) ta tb) := by
  obtain ⟨f, fd, O, k, F, bd⟩ := D.get
  exact pe_ixO F O k bd (Room.in1 hr) passL ha hb hs
theorem pe_sget {a b : Expr} {ta tb : TE} {pos : Pos} (D : SyF X.prog X.w X.K X.mg X.base C CT CY CN CU) (hr : Room 3 X.A) (ha : PE X a ta) (hb : PE X b tb)
    (hs : ∀ o i, subscripted b true o i = runValue (.builtin "lifetime.subscript" ⟨[o, i], []⟩) := by intro _ _; rfl) : PE X (.Subscript a b pos) (tOp (rIxO CT (spItem CT CU) E0) ta tb) := by
  obtain ⟨f, fd, O, k, F, bd⟩ := D.item
  exact pe_ixO F O k bd (Room.in1 hr) passL ha hb hs
end
section
variable {K : PySem.W.Frag} {C CT CY CN CU : Addr} {H : Hp} {a st : Addr} {ss : List (Str × St3)} {es : Es} {Q : VK}
theorem SysAt.ins (h : SysAt K CY H a st ss) : ∃ dx fs, H a = some (.ins CY dx fs) := by
  obtain ⟨dx, d, kvs, h1, _⟩ := h.ex
  exact ⟨dx, _, h1⟩
theorem yget_read {n : Str} {s : St3} (h : SysAt K CY H a st ss) (hn : stOf ss n = some s) (k : ∀ t, SqT K H t (stV s) → Q (.ref t) H) : rIxO CY (spYg K CY CN) E0 (.ref a) (.str n) H Q := by
  obtain ⟨dx, fs, ha⟩ := h.ins
  refine ⟨a, dx, fs, rfl, ha, a, st, ss, n, rfl, h, fun t s' e1 e2 => ?_, fun z => ?_⟩
  · rw [hn] at e1
    cases e1
    exact k t e2
  · rw [hn] at z; cases z
theorem ysto_read (h : SysAt K CY H a st ss) (k : Q (.ref st) H) : ∃ p dx fs, V.ref a = .ref p ∧ H p = some (.ins CY dx fs) ∧ spYs K CY [.ref p] H Q E0 := by
  obtain ⟨dx, fs, ha⟩ := h.ins
  exact ⟨a, dx, fs, rfl, ha, a, st, ss, rfl, h, k⟩
theorem nam_read {eds : Eds} (h : StObj CT H st eds) (k : ∀ ns p, IsNm (keysOf eds) ns → H p = none → Q (.ref p) (upd H p (.tup (ns.map V.str)))) : ∃ p dx fs, V.ref st = .ref p ∧ H p = some (.ins CT dx fs) ∧ spNames CT [.ref p] H Q E0 := by
  obtain ⟨dx, fs, ha⟩ := h.ins
  exact ⟨st, dx, fs, rfl, ha, st, eds, rfl, h, fun ys p hp has np => k _ p (isNm_of hp has) np⟩
theorem sget_read {t : Addr} {k : Kk} {e : Addr × Kk} {eds : Eds} (h : StObj CT H st eds) (ht : H t = some (.tup [.str k.1, .int k.2])) (he : e ∈ eds) (hk : e.2 = k) (q : Q (.ref e.1) H) : rIxO CT (spItem CT CU) E0 (.ref st) (.ref t) H Q := by
  obtain ⟨dx, fs, ha⟩ := h.ins
  refine ⟨st, dx, fs, rfl, ha, st, t, eds, k, rfl, h, ht, fun e' he' ek => ?_, fun z => absurd (List.mem_map.mpr ⟨e, he, hk⟩) z⟩
  have e1 := val_nodup (κ := List Key) (kvs := tabOf eds)
  have a1 := tab_some h.one he
  have a2 := tab_some h.one he'
  rw [hk] at a1
  rw [ek, a1] at a2
  have : e.1 = e'.1 := by injection (Option.some.inj a2)
  rw [← this]
  exact q
theorem prp0 {e : Edn} (h : EdX K H C a e) (q : Q (.str e.name) H) : ∃ p dx fs, V.ref a = .ref p ∧ H p = some (.ins C dx fs) ∧ spGet C 0 [.ref p] H Q E0 := by
  obtain ⟨s, n, f, g, ⟨dx, p, h1, h2⟩, h3⟩ := h
  exact ⟨a, dx, _, rfl, h1, a, dx, p, _, _, rfl, h1, h2, rfl, q⟩
theorem prp3 {e : Edn} (h : EdX K H C a e) (q : ∀ n, NeedsAt K H n e.nee → Q (.ref n) H) : ∃ p dx fs, V.ref a = .ref p ∧ H p = some (.ins C dx fs) ∧ spGet C 3 [.ref p] H Q E0 := by
  obtain ⟨s, n, f, g, ⟨dx, p, h1, h2⟩, h3⟩ := h
  exact ⟨a, dx, _, rfl, h1, a, dx, p, _, _, rfl, h1, h2, rfl, q n h3.needs⟩
theorem prp5 {e : Edn} (h : EdX K H C a e) (q : ∀ n, SqT K H n (e.aga.map V.str) → Q (.ref n) H) : ∃ p dx fs, V.ref a = .ref p ∧ H p = some (.ins C dx fs) ∧ spGet C 5 [.ref p] H Q E0 := by
  obtain ⟨s, n, f, g, ⟨dx, p, h1, h2⟩, h3⟩ := h
  exact ⟨a, dx, _, rfl, h1, a, dx, p, _, _, rfl, h1, h2, rfl, q g h3.against⟩
end
end Half

namespace Half
open PySem PySem.Spec PyProof.Rows L2
abbrev sIth : Stmt := top 27
abbrev sEo : Stmt := top 28
abbrev sMet : Stmt := top 29
abbrev sUn : Stmt := top 30
abbrev sAg : Stmt := top 31
abbrev sNa : Stmt := top 32
/-! ### promises -/
def spIth (K : PySem.W.Frag) (C CT CY : Addr) : Sp := fun vs H Q _ => ∃ (a st : Addr) (ss : List (Str × St3)) (es : Es) (n : Str), vs = [.ref a, .str n] ∧ SysOk K C CT CY H a st ss es ∧ n ∈ ss.map (·.1) ∧ Q (.bl (thereB ss n)) H
def spEo (K : PySem.W.Frag) (C CT CY : Addr) : Sp := fun vs H Q _ => ∃ (a st : Addr) (ss : List (Str × St3)) (es : Es) (n : Str) (s : St3), vs = [.ref a, .str n] ∧ SysOk K C CT CY H a st ss es ∧ stOf ss n = some s ∧ s.1 ≠ "absent" ∧ ∀ e ∈ es, edAt (es.map (·.2)) (n, s.2.1) = some e.2 → ∀ H', Same H H' → Q (.ref e.1) H'
def spMet (K : PySem.W.Frag) (C CT CY : Addr) : Sp := fun vs H Q _ => ∃ (a st t : Addr) (ss : List (Str × St3)) (es : Es) (q : Str × Int), vs = [.ref a, .ref t] ∧ SysOk K C CT CY H a st ss es ∧ SqT K H t [.str q.1, .int q.2] ∧ ∀ H', Same H H' → Q (.bl (metB ss q)) H'
def spUn (K : PySem.W.Frag) (C CT CY : Addr) : Sp := fun vs H Q _ => ∃ (a st t : Addr) (ss : List (Str × St3)) (es : Es) (qs : List (Str × Int)), vs = [.ref a, .ref t] ∧ SysOk K C CT CY H a st ss es ∧ NeedsAt K H t qs ∧ qs.length ≤ 100 ∧ ∀ p H', Same H H' → H' p = some (.lst (((qs.filter fun q => !metB ss q).map (·.1)).map V.str)) → Q (.ref p) H'
def spAg (K : PySem.W.Frag) (C : Addr) : Sp := fun vs H Q _ => ∃ (a b : Addr) (e o : Edn), vs = [.ref a, .ref b] ∧ EdX K H C a e ∧ EdX K H C b o ∧ Q (.bl (agB e o)) H
def spNa (K : PySem.W.Frag) (C CT CY : Addr) : Sp := fun vs H Q _ => ∃ (a st b : Addr) (ss : List (Str × St3)) (es : Es) (e : Edn), vs = [.ref a, .ref b] ∧ SysOk K C CT CY H a st ss es ∧ EdX K H C b e ∧ ∀ p H', Same H H' → H' p = some (.lst (((ss.map (·.1)).filter fun n => hostB (es.map (·.2)) ss e n).map V.str)) → Q (.ref p) H'
theorem there_not_absent {ss : List (Str × St3)} {n : Str} {s : St3} (h : stOf ss n = some s) (ht : thereB ss n = true) : s.1 ≠ "absent" := fun e => by
  unfold thereB at ht
  rw [h] at ht
  dsimp only at ht
  rw [e] at ht
  exact absurd ht (by decide)
section
variable {P : Program} {w : World} {K : PySem.W.Frag} {mg : Str → Option Value} {base : Heap} {C CT CY CN CU : Addr}
theorem scIth : FnScope ["system", "name"] ["system", "name"] (defScope sIth) := ⟨rfl, rfl, rfl, by decide +kernel, rfl, by decide +kernel, by decide +kernel⟩
theorem ok_ith {f : Addr} {fd : FuncData} (F : Fun K "is_there" "is_there" sIth f fd) (T : TxtY P w K mg base CT) (Y : SyF P w K mg base C CT CY CN CU) : FnOk P w K mg base CX0 3 f fd ["system", "name"] (spIth K C CT CY) := by
  refine F.ok scIth (fun vs H Q E h => ?_) (fun cdv A outer s H vs Q E hr h => ?_)
  · obtain ⟨a, st, ss, es, n, rfl, _⟩ := h
    rfl
  · obtain ⟨a, st, ss, es, n, rfl, hY, hn, k⟩ := h
    obtain ⟨aT, gT, hT⟩ := T.thr
    obtain ⟨s3, hs⟩ := stOf_some hn
    refine ⟨_, pss_one (ps_ret (pe_cmpR (op_in_seq : OpR _ _ (rIn K false)) (pe_ix ix_tup (pe_yget Y hr (pv 0) (pv 1)) pe_int (fun _ _ => rfl)) (pe_glob (v := .ref aT) rfl gT rfl) (by rfl))), ?_⟩
    refine ⟨_, rfl, _, rfl, yget_read hY.sys hs fun t ht => ⟨t, _, 0, _, rfl, rfl, ht, rfl, aT, _, rfl, .inr (hT _), rfl, flat_strs THR, ?_⟩⟩
    have e : thereB ss n = inV (.str s3.1) (THR.map V.str) := by unfold thereB; rw [hs, inV_str]
    rw [e] at k
    exact k
theorem scEo : FnScope ["system", "name"] ["system", "name"] (defScope sEo) := ⟨rfl, rfl, rfl, by decide +kernel, rfl, by decide +kernel, by decide +kernel⟩
theorem ok_eo {f : Addr} {fd : FuncData} (F : Fun K "edition_of" "edition_of" sEo f fd) (Y : SyF P w K mg base C CT CY CN CU) : FnOk P w K mg base CX0 4 f fd ["system", "name"] (spEo K C CT CY) := by
  refine F.ok scEo (fun vs H Q E h => ?_) (fun cdv A outer s H vs Q E hr h => ?_)
  · obtain ⟨a, st, ss, es, n, s, rfl, _⟩ := h
    rfl
  · obtain ⟨a, st, ss, es, n, s3, rfl, hY, hs, ha, k⟩ := h
    have r2 : Room 2 _ := hr.mono (by decide)
    refine ⟨_, pss_one (ps_ret (pe_sget Y hr (pe_ysto Y r2 (pv 0)) (pe_tup (pa_cons (pv 1) (pa_cons (pe_ix ix_tup (pe_yget Y r2 (pv 0) (pv 1)) pe_int (fun _ _ => rfl)) pa_nil))))), ?_⟩
    refine ⟨_, rfl, ysto_read hY.sys ⟨_, rfl, _, rfl, _, rfl, yget_read hY.sys hs fun t ht => ⟨t, _, 1, _, rfl, rfl, ht, rfl, two_le, fun t2 n2 => ?_⟩⟩⟩
    have s1 := Same.upd_new (o := .tup [.str n, .int s3.2.1]) n2
    obtain ⟨e, he, ek, ea⟩ := edAt_some (isState_key (hY.ok _ (stOf_in hs)) ha)
    exact sget_read (k := (n, s3.2.1)) (e := (e.1, e.2.key)) (hY.sto.same s1) upd_same (List.mem_map.mpr ⟨e, he, rfl⟩) ek (k e he ea _ s1)
theorem scMet : FnScope ["system", "need", "name", "least", "status", "version", "done"] ["system", "need"] (defScope sMet) := ⟨rfl, rfl, rfl, by decide +kernel, rfl, by decide +kernel, by decide +kernel⟩
theorem ok_met {f : Addr} {fd : FuncData} (F : Fun K "is_met" "is_met" sMet f fd) (Y : SyF P w K mg base C CT CY CN CU) : FnOk P w K mg base CX0 3 f fd ["system", "need"] (spMet K C CT CY) := by
  refine F.ok scMet (fun vs H Q E h => ?_) (fun cdv A outer s H vs Q E hr h => ?_)
  · obtain ⟨a, st, t, ss, es, q, rfl, _⟩ := h
    rfl
  · obtain ⟨a, st, t, ss, es, ⟨n, l⟩, rfl, hY, ht, k⟩ := h
    have nd := scMet.nd
    refine ⟨_, pss_cons (ps_asg (pv 1) (pg_tup rfl (pgs_cons (pg_name (i := 2) nd rfl (Or.inl rfl)) (pgs_cons (pg_name (i := 3) nd rfl (Or.inl rfl)) pgs_nil))))
      (pss_cons (ps_if (pt_cmpR (op_notIn_seq : OpR _ _ (rIn K true)) (pv 2) (pe_nam Y.nam hr (pe_ysto Y hr (pv 0))) (by rfl)) (pss_one (ps_ret pe_bl)) pss_nil)
      (pss_cons (ps_asg (pe_yget Y hr (pv 0) (pv 2)) (pg_tup rfl (pgs_cons (pg_name (i := 4) nd rfl (Or.inl rfl)) (pgs_cons (pg_name (i := 5) nd rfl (Or.inl rfl)) (pgs_cons (pg_name (i := 6) nd rfl (Or.inl rfl)) pgs_nil)))))
      (pss_one (ps_ret (pe_and (pe_cmpR op_eq (pv 4) pe_str (nomark _)) (pe_one (pe_cmpR op_ge (pv 5) (pv 3) (nomark _)))))))), ?_⟩
    refine ⟨_, rfl, t, _, rfl, ht, rfl, _, _, rfl, _, _, rfl, rfl, ?_⟩
    refine ⟨_, rfl, _, rfl, ysto_read hY.sys (nam_read hY.sto fun ns p hns np => ?_)⟩
    have s1 := Same.upd_new (o := .tup (ns.map V.str)) np
    refine ⟨p, _, rfl, .inr (.inl (.inl upd_same)), rfl, flat_strs _, _, rfl, ?_⟩
    have hns : ns = ss.map (·.1) := hns.uniq hY.nm
    subst hns
    rw [if_pos rfl, inV_str]
    unfold metB at k
    dsimp only at k
    cases c : stOf ss n with
    | none =>
      rw [c] at k
      rw [has_no (stOf_mem.mp c)]
      exact iteT (k _ s1)
    | some s3 =>
      rw [c] at k
      rw [has_iff.mpr (List.mem_map.mpr ⟨_, stOf_in c, rfl⟩)]
      refine iteF ?_
      refine ⟨_, rfl, _, rfl, yget_read (hY.same s1).sys c fun t2 ht2 => ⟨t2, _, rfl, ht2, rfl, _, _, rfl, _, _, rfl, _, _, rfl, rfl, ?_⟩⟩
      refine ⟨_, rfl, rfl, _, rfl, ?_⟩
      rw [dec_str]
      dsimp only at k
      cases c2 : decide (s3.1 = "ready") with
      | false =>
        rw [c2, Bool.false_and] at k
        exact iteF (k _ s1)
      | true =>
        rw [c2, Bool.true_and] at k
        refine iteT ?_
        exact ⟨_, rfl, _, rfl, _, _, rfl, rfl, k _ s1⟩
end
end Half

namespace Half
open PySem PySem.Spec PyProof.Rows L2
/-! ### a comprehension with a test -/
def AccP (H1 : Hp) (D : Addr) (f : Nat → List V) : Nat → Hp → Prop := fun i H => Same H1 H ∧ H D = some (.lst (f i))
theorem AccP.zero {H1 : Hp} {D : Addr} {f : Nat → List V} (hD : H1 D = none) (h : f 0 = []) : AccP H1 D f 0 (upd H1 D (.lst [])) := ⟨Same.upd_new hD, by rw [upd_same, h]⟩
theorem AccP.step {H1 H H4 : Hp} {D : Addr} {f : Nat → List V} {i : Nat} {y : V} (p : AccP H1 D f i H) (hD : H1 D = none) (hy : f (i + 1) = f i ++ [y]) (hl : (f i).length ≤ 1000) (e : Same H H4) :
    ∃ acc, H4 D = some (.lst acc) ∧ acc.length < sizeLine ∧ AccP H1 D f (i + 1) (upd H4 D (.lst (acc ++ [y]))) := by
  refine ⟨f i, e _ _ p.2, by rw [sizeLine_eq]; omega, fun b o q => ?_, by rw [upd_same, hy]⟩
  rw [upd_ne (ne_of_none q hD)]
  exact e _ _ (p.1 _ _ q)
theorem AccP.skip {H1 H H4 : Hp} {D : Addr} {f : Nat → List V} {i : Nat} (p : AccP H1 D f i H) (hy : f (i + 1) = f i) (e : Same H H4) : AccP H1 D f (i + 1) H4 :=
  ⟨p.1.trans e, by rw [hy]; exact e _ _ p.2⟩
/-- those of a list that are so, mapped -/
def filV {α : Type} (p : α → Bool) (g : α → V) (l : List α) (i : Nat) : List V := ((l.take i).filter p).map g
theorem filV_yes {α : Type} {p : α → Bool} {g : α → V} {l : List α} {i : Nat} {x : α} (h : l[i]? = some x) (c : p x = true) : filV p g l (i + 1) = filV p g l i ++ [g x] := by
  unfold filV
  rw [take_next h, List.filter_append, List.map_append]
  simp [c]
theorem filV_no {α : Type} {p : α → Bool} {g : α → V} {l : List α} {i : Nat} {x : α} (h : l[i]? = some x) (c : p x = false) : filV p g l (i + 1) = filV p g l i := by
  unfold filV
  rw [take_next h, List.filter_append, List.map_append]
  simp [c]
theorem filV_len {α : Type} (p : α → Bool) (g : α → V) (l : List α) (i : Nat) : (filV p g l i).length ≤ l.length := by
  unfold filV
  rw [List.length_map]
  refine Nat.le_trans (List.length_filter_le ..) ?_
  rw [List.length_take]
  omega
section
variable {P : Program} {w : World} {K : PySem.W.Frag} {mg : Str → Option Value} {base : Heap} {C CT CY CN CU : Addr}
theorem scUn : FnScope ["system", "needs", "need"] ["system", "needs"] (defScope sUn) := ⟨rfl, rfl, rfl, by decide +kernel, rfl, by decide +kernel, by decide +kernel⟩
theorem ok_un {f : Addr} {fd : FuncData} (F : Fun K "unmet_names" "unmet_names" sUn f fd) (dM : Def P w K mg base 3 "is_met" ["system", "need"] (spMet K C CT CY)) : FnOk P w K mg base CX0 4 f fd ["system", "needs"] (spUn K C CT CY) := by
  refine F.ok scUn (fun vs H Q E h => ?_) (fun cdv A outer s H vs Q E hr h => ?_)
  · obtain ⟨a, st, t, ss, es, qs, rfl, _⟩ := h
    rfl
  · obtain ⟨a, st, t, ss, es, qs, rfl, hY, hN, few, k⟩ := h
    have nd := scUn.nd
    obtain ⟨ts, hS, htl, hts⟩ := id hN
    refine ⟨_, pss_one (ps_ret (pe_lc (own := [("need", 2)]) (g := gName 2) (tt := tNot (tTest (tCall (spMet K C CT CY) [] E0 (tCons (tVar 0) (tCons (tVar 2) tNil))))) (te := tOp (rIxT K) (tVar 2) (tC (.int 0))) rfl nd (pi_tup (pv 1)) (blkOk_by (N := ["system", "needs", "need"]) (sc := defScope sUn) (by decide +kernel))
          (fun _ _ _ _ _ => pg_name (i := 2) nd rfl (Or.inl rfl)) (fun _ _ _ _ _ => pts_one (pt_not (pt_val (pe_def dM hr rfl (pa_cons (pv 0) (pa_cons (pv 2) pa_nil))))))
          (fun _ _ _ _ _ => pe_ix (ix_tup : IxR _ (rIxT K)) (pv 2) pe_int (fun _ _ => rfl)))), ?_⟩
    refine ⟨_, rfl, t, rfl, ⟨_, hS⟩, fun D hD => lc_it (walk_tup (xs := ts.map V.ref)) (AccP H D (filV (fun q => !metB ss q) (fun q => V.str q.1) qs)) (AccP.zero hD rfl) (fun _ _ _ p => p.1.sqT hS) ?_ ?_⟩
    · rintro i x H1 H2 hi p ⟨rfl, hx⟩
      obtain ⟨t1, ht1, rfl⟩ := getE hx
      have hip : i < qs.length := by rw [List.length_map] at hi; omega
      have hq : qs[i]? = some qs[i] := List.getElem?_eq_getElem hip
      have ht := p.1.sqT (hts i t1 _ ht1 hq)
      refine ⟨rfl, _, rfl, _, rfl, a, st, t1, ss, es, qs[i], rfl, hY.same p.1, ht, fun H3 s3 => ⟨_, rfl, ?_⟩⟩
      cases c : !metB ss qs[i] with
      | true =>
        refine ite_yes c ?_
        refine ⟨_, rfl, t1, _, 0, _, rfl, rfl, s3.sqT ht, rfl, ?_⟩
        exact p.step hD (filV_yes hq c) (Nat.le_trans (filV_len ..) (by omega)) s3
      | false =>
        refine ite_no c ?_
        exact p.skip (filV_no hq c) s3
    · intro H2 p
      have e := p.2
      rw [List.length_map, htl] at e
      refine k D H2 p.1 ?_
      rw [e]
      unfold filV
      rw [List.take_length, List.map_map]
      rfl
theorem scAg : FnScope ["edition", "other"] ["edition", "other"] (defScope sAg) := ⟨rfl, rfl, rfl, by decide +kernel, rfl, by decide +kernel, by decide +kernel⟩
theorem ok_ag {f : Addr} {fd : FuncData} (F : Fun K "are_against" "are_against" sAg f fd) (Y : SyF P w K mg base C CT CY CN CU) : FnOk P w K mg base CX0 3 f fd ["edition", "other"] (spAg K C) := by
  refine F.ok scAg (fun vs H Q E h => ?_) (fun cdv A outer s H vs Q E hr h => ?_)
  · obtain ⟨a, b, e, o, rfl, _⟩ := h
    rfl
  · obtain ⟨a, b, e, o, rfl, he, ho, k⟩ := h
    refine ⟨_, pss_one (ps_ret (pe_or (pe_cmpR (op_in_seq : OpR _ _ (rIn K false)) (pe_prp Y.p0 Y.clE hr (pv 1)) (pe_prp Y.p5 Y.clE hr (pv 0)) (by rfl)) (pe_one (pe_cmpR (op_in_seq : OpR _ _ (rIn K false)) (pe_prp Y.p0 Y.clE hr (pv 0)) (pe_prp Y.p5 Y.clE hr (pv 1)) (by rfl))))), ?_⟩
    unfold agB at k
    refine ⟨_, rfl, prp0 ho ⟨_, rfl, prp5 he fun g hg => ⟨g, _, rfl, .inr hg, rfl, flat_strs _, _, rfl, ?_⟩⟩⟩
    cases c : has e.aga o.name with
    | true =>
      rw [c, Bool.true_or] at k
      exact ite_yes ((inV_str _ _).trans c) k
    | false =>
      rw [c, Bool.false_or, ← inV_str] at k
      refine ite_no ((inV_str _ _).trans c) ?_
      exact ⟨_, rfl, prp0 he ⟨_, rfl, prp5 ho fun g hg => ⟨g, _, rfl, .inr hg, rfl, flat_strs _, k⟩⟩⟩
abbrev NaN : List Str := ["system", "edition", "others", "name"]
theorem scNa : FnScope NaN ["system", "edition"] (defScope sNa) := ⟨rfl, rfl, rfl, by decide +kernel, rfl, by decide +kernel, by decide +kernel⟩
theorem ok_na {f : Addr} {fd : FuncData} (F : Fun K "names_against" "names_against" sNa f fd) (Y : SyF P w K mg base C CT CY CN CU) (dI : Def P w K mg base 3 "is_there" ["system", "name"] (spIth K C CT CY)) (dE : Def P w K mg base 4 "edition_of" ["system", "name"] (spEo K C CT CY)) (dA : Def P w K mg base 3 "are_against" ["edition", "other"] (spAg K C)) : FnOk P w K mg base CX0 5 f fd ["system", "edition"] (spNa K C CT CY) := by
  refine F.ok scNa (fun vs H Q E h => ?_) (fun cdv A outer s H vs Q E hr h => ?_)
  · obtain ⟨a, st, b, ss, es, e, rfl, _⟩ := h
    rfl
  · obtain ⟨a, st, b, ss, es, e, rfl, hY, he, k⟩ := h
    have nd := scNa.nd
    have r2 : Room 2 _ := hr.mono (by decide)
    have r3 : Room 3 _ := hr.mono (by decide)
    refine ⟨_, pss_cons (ps_setLc (i := 2) (own := [("name", 3)]) (g := gName 3) (tt := tAnd (tTest (tOp rNe (tVar 3) (tProp C (spGet C 0) [] E0 (tVar 1)))) (tTest (tCall (spIth K C CT CY) [] E0 (tCons (tVar 0) (tCons (tVar 3) tNil))))) (te := tVar 3) rfl nd rfl rfl (sw_true rfl rfl rfl (by decide +kernel)) (pi_tup (pe_nam Y.nam r2 (pe_ysto Y r2 (pv 0)))) (blkOk_by (N := NaN) (sc := defScope sNa) (by decide +kernel))
          (fun _ _ _ _ _ => pg_name (i := 3) nd rfl (Or.inl rfl)) (fun _ _ _ _ _ => pts_one (PW.pt (pw_and (pt_cmpR op_ne (pv 3) (pe_prp Y.p0 Y.clE r2 (pv 1)) (nomark _)) (pw_and1 (pt_val (pe_def dI r3 rfl (pa_cons (pv 0) (pa_cons (pv 3) pa_nil)))))))) (fun _ _ _ _ _ => pv 3))
      (pss_one (ps_ret (pe_lc (own := [("name", 3)]) (g := gName 3) (tt := tTest (tCall (spAg K C) [] E0 (tCons (tVar 1) (tCons (tCall (spEo K C CT CY) [] E0 (tCons (tVar 0) (tCons (tVar 3) tNil))) tNil)))) (te := tVar 3) rfl nd (pi_list (pv 2)) (blkOk_by (N := NaN) (sc := defScope sNa) (by decide +kernel))
          (fun _ _ _ _ _ => pg_name (i := 3) nd rfl (Or.inl rfl)) (fun _ _ _ _ _ => pts_one (pt_val (pe_def dA r3 rfl (pa_cons (pv 1) (pa_cons (pe_def dE hr rfl (pa_cons (pv 0) (pa_cons (pv 3) pa_nil))) pa_nil))))) (fun _ _ _ _ _ => pv 3)))), ?_⟩
    have fewn : (ss.map (·.1)).length ≤ 40 := by
      have := len_sub hY.nm.nd (m := (keysOf es.eds).map (·.1)) fun z hz => (hY.nm.mem z).mp hz
      refine Nat.le_trans this ?_
      unfold Es.eds
      simp only [List.length_map]
      exact hY.few
    refine ⟨_, rfl, ysto_read hY.sys (nam_read hY.sto fun ns q hns nq => ?_)⟩
    have hns : ns = ss.map (·.1) := hns.uniq hY.nm
    subst hns
    have s1 := Same.upd_new (o := .tup ((ss.map (·.1)).map V.str)) nq
    refine ⟨q, rfl, ⟨_, .inl (.inl upd_same)⟩, fun D hD => lc_it (walk_tup (xs := (ss.map (·.1)).map V.str)) (AccP _ D (filV (fun n => !decide (n = e.name) && thereB ss n) V.str (ss.map (·.1)))) (AccP.zero hD rfl) (fun _ _ _ p => .inl (.inl (p.1 _ _ upd_same))) ?_ ?_⟩
    · rintro i x H1 H2 hi p ⟨rfl, hx⟩
      obtain ⟨n, hn, rfl⟩ := getE hx
      have s2 := s1.trans p.1
      have hm : n ∈ ss.map (·.1) := List.mem_of_getElem? hn
      refine ⟨rfl, ?_⟩
      refine ⟨_, rfl, _, rfl, prp0 (he.same s2) ⟨rfl, _, rfl, ?_⟩⟩
      rw [dec_str]
      cases c : !decide (n = e.name) with
      | false =>
        refine iteF ?_
        refine iteF ?_
        exact p.skip (filV_no hn (by rw [c, Bool.false_and])) (Same.refl _)
      | true =>
        refine iteT ?_
        refine ⟨_, rfl, _, rfl, a, st, ss, es, n, rfl, hY.same s2, hm, _, rfl, ?_⟩
        cases c2 : thereB ss n with
        | false =>
          refine iteF ?_
          exact p.skip (filV_no hn (by rw [c, c2]; rfl)) (Same.refl _)
        | true =>
          refine iteT ?_
          refine ⟨_, rfl, ?_⟩
          exact p.step hD (filV_yes hn (by rw [c, c2]; rfl)) (Nat.le_trans (filV_len ..) (by omega)) (Same.refl _)
    · intro H2 p
      have s2 := s1.trans p.1
      have e2 : H2 D = some (.lst (((ss.map (·.1)).filter fun n => !decide (n = e.name) && thereB ss n).map V.str)) := by
        have := p.2
        rw [List.length_map] at this
        rw [this]
        unfold filV
        rw [List.take_length]
      generalize hms : ((ss.map (·.1)).filter fun n => !decide (n = e.name) && thereB ss n) = ms at e2
      have mlen : ms.length ≤ 40 := by rw [← hms]; exact Nat.le_trans (List.length_filter_le ..) fewn
      have mmem : ∀ n ∈ ms, n ∈ ss.map (·.1) ∧ thereB ss n = true := fun n hn => by
        rw [← hms] at hn
        obtain ⟨h1, h2⟩ := List.mem_filter.mp hn
        exact ⟨h1, (Bool.and_eq_true_iff.mp h2).2⟩
      refine ⟨_, rfl, D, rfl, ⟨_, SqL.of e2⟩, fun D2 hD2 => lc_it (walk_list (xs := ms.map V.str)) (AccP H2 D2 (filV (foeB (es.map (·.2)) ss e) V.str ms)) (AccP.zero hD2 rfl) (fun _ _ _ p => SqL.of (p.1 _ _ e2)) ?_ ?_⟩
      · rintro i x H3 H4 hi p3 ⟨rfl, hx⟩
        obtain ⟨n, hn, rfl⟩ := getE hx
        obtain ⟨hm, hth⟩ := mmem n (List.mem_of_getElem? hn)
        have s3 := s2.trans p3.1
        obtain ⟨s4, hs4⟩ := stOf_some hm
        have hna := there_not_absent hs4 hth
        refine ⟨rfl, ?_⟩
        refine ⟨_, rfl, _, rfl, _, rfl, a, st, ss, es, n, s4, rfl, hY.same s3, hs4, hna, fun o ho eo H5 s5 => ?_⟩
        refine ⟨b, o.1, e, o.2, rfl, (he.same s3).same s5, ((hY.ed o ho).same s3).same s5, _, rfl, ?_⟩
        have ef : foeB (es.map (·.2)) ss e n = agB e o.2 := by unfold foeB; rw [hs4]; dsimp only; rw [eo]
        cases c : agB e o.2 with
        | true =>
          refine iteT ?_
          refine ⟨_, rfl, ?_⟩
          exact p3.step hD2 (filV_yes hn (by rw [ef, c])) (Nat.le_trans (filV_len ..) (by omega)) s5
        | false =>
          refine iteF ?_
          exact p3.skip (filV_no hn (by rw [ef, c])) s5
      · intro H5 p5
        refine k D2 H5 (s2.trans p5.1) ?_
        have := p5.2
        rw [List.length_map] at this
        rw [this]
        unfold filV
        rw [List.take_length, ← hms, List.filter_filter]
        congr 3
        refine List.filter_congr fun n _ => ?_
        unfold hostB
        rw [Bool.and_comm]
end
end Half

/-! sorted(t) of a tuple of texts -/
namespace L2
open PySem PySem.Spec PyProof.Rows PySem.Froz
section
variable {P : Program} {w : World} {A : Around} {E : Value → Shared → Prop} {s : Shared}
/-- the heap behind collect: a new list of these items -/
def listed (h : Heap) (xs : Array Value) : Heap := (h.push (seqObj "list" #[] 0)).update h.objs.size (Obj.mapSeq (· ++ xs))
theorem listed_keeps {h : Heap} {xs : Array Value} {b : Addr} {o : Obj} (e : h.get? b = some o) : (listed h xs).get? b = some o :=
  (Heap.get?_update_other _ _ (Nat.ne_of_gt (Heap.lt_size e))).trans (Heap.get?_push_of_some _ e)
theorem listed_size (h : Heap) (xs : Array Value) : (listed h xs).objs.size = h.objs.size + 1 := by
  unfold listed
  rw [Heap.size_update, Heap.size_push]
theorem collect_tup {t : Addr} {xs : Array Value} {Q : List Value → Shared → Prop} (ht : IsTup s.heap t xs) (few : xs.size ≤ sizeLine) (q : Q xs.toList { s with heap := listed s.heap xs }) : wpAny (model P w) A (collect (.ref t)) Q E s := by
  obtain ⟨o, g, c, n, d⟩ := ht
  have new : (s.heap.push (seqObj "list" #[] 0)).get? s.heap.objs.size = some (seqObj "list" #[] 0) := Heap.get?_push_size _ rfl
  have out : wpAny (model P w) A (do
      match (← load s.heap.objs.size).data with
      | .seq ys _ => pure ys.toList
      | _ => unsupported "internal:collect") Q E { s with heap := listed s.heap xs } := by
    refine wpAny_bind (wpAny_load (Heap.get?_update_self (Obj.mapSeq (· ++ xs)) new rfl) (wpAny_pure ?_))
    show Q (#[] ++ xs).toList _
    rw [Array.empty_append]
    exact q
  unfold collect
  refine wpAny_bind (wpAny_runValue (codeAny_builtin F.entry_proto_collect ?_))
  rw [Around.under_plainId F.plain_proto_collect]
  refine wpAny_bind (m := newList []) (wpAny_newObj_type (wpAny_pure ⟨plainId_quiet F.plain_list_iadd _, codeAny_builtin F.entry_list_iadd ?_⟩))
  rw [Around.under_plainId F.plain_list_iadd]
  refine wpAny_mono (wpAny_extend_seq (A := A) (hsz := few) (R := fun r z => r = .ok (.ret (.ref s.heap.objs.size)) ∧ z = { s with heap := listed s.heap xs }) _ t _ 0 (.inr rfl) new (Heap.get?_push_of_some _ g) c d ⟨rfl, rfl⟩) (fun fin z h => ?_) (fun e z h => ?_)
  · cases fin with
    | done r =>
      obtain ⟨h1, rfl⟩ := h
      cases h1
      exact out
    | again k =>
      refine ⟨h.1, codeAny_mono h.2 fun r z' h' => ?_⟩
      obtain ⟨rfl, rfl⟩ := h'
      exact out
  · exact absurd h.1 (by simp)
end
section
variable {X : Cx}
def rSortST (K : PySem.W.Frag) : List V → Hp → VK → Prop := fun vs H Q => ∃ (a : Addr) (xs : List Str), vs = [V.ref a] ∧ SqT K H a (xs.map V.str) ∧ xs.length < 64 ∧
  ∀ (ys : List Str) (p : Addr), ys.Perm xs → sortedS ys = true → H p = none → Q (.ref p) (upd H p (.lst (ys.map V.str)))
theorem cr_sortST : CallR X (.builtin "sorted") (rSortST X.K) := by
  intro pins s σ H vs us Q I r h
  obtain ⟨a, xs, rfl, hs, few, q⟩ := h
  obtain ⟨its, rv, tu, _⟩ := I.tuple hs
  rw [Vals.ref1 r]
  have p1 := rv.strs
  have vlen : its.length = xs.length := p1.length
  refine Calls.call_function_entry kind_sorted plain_sorted entry_sorted (args_sorted1 _) ?_
  unfold Builtin.«sorted»
  refine wpAny_bind (m := checkCount "sorted" 1 1 _) (wpAny_pure (wpAny_bind (collect_tup tu (by rw [sizeLine_eq]; simp; omega) ?_)))
  refine wpAny_bind (wpAny_newList ?_ (by rw [sizeLine_eq]; simp; omega))
  rw [show its.toArray.toList = its from rfl]
  have at_ : ((listed s.heap its.toArray).push (seqObj "list" its.toArray 0)).get? (listed s.heap its.toArray).objs.size = some (seqObj "list" its.toArray 0) := Heap.get?_push_size _ rfl
  refine wpAny_bind (wpAny_holding (wpAny_call_entry slot_list_sort ⟨_, at_, rfl⟩ entry_list_sort (list_sort_treeKAny strKind_oneLt at_ p1.keysOf (fun v1 v2 r e => keyKind_strs (e ▸ p1)) (by rw [vlen, sizeLine_eq]; omega) fun st' a1 a2 => ⟨_, rfl, wpAny_pure ⟨_, rfl, ?_⟩⟩) (args_list_sort _)))
  obtain ⟨ys, b1, b2, b3⟩ := sorted_out_str p1 a1 a2
  obtain ⟨c, hcn⟩ := sortedHeap_at (vs := its) (out := (arrOf st').map (·.2)) at_
  generalize (arrOf st').map (·.2) = out at b1 hcn ⊢
  have keep : ∀ b u, s.heap.get? b = some u → (sortedHeap ((listed s.heap its.toArray).push (seqObj "list" its.toArray 0)) (listed s.heap its.toArray).objs.size its out).get? b = some u := fun b u e => by
    have k := listed_keeps (xs := its.toArray) e
    have lt := Heap.lt_size k
    refine (sortedHeap_old (Nat.ne_of_lt lt) ?_).trans (Heap.get?_push_of_some _ k)
    rw [Heap.size_push]
    exact Nat.lt_succ_of_lt lt
  have big : s.heap.objs.size ≤ (listed s.heap its.toArray).objs.size := by rw [listed_size]; omega
  have room : (ys.map V.str).length ≤ sizeLine := by rw [List.length_map, b2.length_eq, sizeLine_eq]; omega
  exact ⟨.ref _, _, I.laid (t' := s.toks) (o := .lst (ys.map V.str)) keep big ⟨room, out.toList, c, vals_of_strs b1, hcn⟩, rfl, q ys _ b2 b3 (I.hok.fresh big)⟩
end
end L2

/-! set(l) of a list of ints: the shell stands in Kxa -/

namespace L2
open PySem PySem.Spec PyProof.Rows PySem.Froz
section
variable {X : Cx}
/-- set(l), l a list of ints -/
def rSetI (K : PySem.W.Frag) (w : World) : List V → Hp → VK → Prop := fun vs H Q => ∃ (p : Addr) (ns : List Int), vs = [.ref p] ∧ SqL K H p (ns.map V.int) ∧ ns.length < 64 ∧
  ∀ (a : Addr) (n : Nat), n ≤ ns.length → H a = none → Q (.ref a) (upd H a (SetO w a (fun j => decide (j ∈ ns)) n))
theorem cr_setI (hc : X.calm = true) : CallR X (.type "set") (rSetI X.K X.w) := by
  intro pins s σ H vs us Q I r h
  obtain ⟨p, ns, rfl, hs, few, q⟩ := h
  obtain ⟨its, rv, hl, _⟩ := I.list hs
  rw [Vals.ref1 r]
  have hi := rv.ints
  have hlen : its.length = ns.length := hi.length
  have li := hl.isList
  have lt : p < s.heap.objs.size := by obtain ⟨o, g, _⟩ := li; exact Heap.lt_size g
  refine set_made (fun h' => ∃ n, n ≤ ns.length ∧ SetR X.w h' s.heap.objs.size (fun j => decide (j ∈ ns)) n) li (I.ok.hd hc) (fun B hB => ?_) (fun h' tk gd keep => ?_)
  · have ne : p ≠ s.heap.objs.size + 1 := Nat.ne_of_lt (Nat.lt_succ_of_lt lt)
    have out : s.heap.objs.size ∉ [s.heap.objs.size + 1, p] := by
      intro z
      simp only [List.mem_cons, List.not_mem_nil, or_false] at z
      rcases z with z | z
      · exact Nat.ne_of_lt (Nat.lt_succ_self _) z
      · exact Nat.ne_of_gt lt z
    have li2 : ((s.heap.push (bareSet X.w)).push { cls := .type "list_iterator", data := .fields #[.ref p, .int 0 0] }).IsList p its.toArray := (li.push _).push _
    have it2 : ((s.heap.push (bareSet X.w)).push { cls := .type "list_iterator", data := .fields #[.ref p, .int 0 0] }).get? (s.heap.objs.size + 1) = some { cls := .type "list_iterator", data := .fields #[.ref p, .int 0 0] } := by
      have e := Heap.get?_push_size (s.heap.push (bareSet X.w)) (o := { cls := .type "list_iterator", data := .fields #[.ref p, .int 0 0] }) rfl
      rwa [Heap.size_push] at e
    have se : ((s.heap.push (bareSet X.w)).push { cls := .type "list_iterator", data := .fields #[.ref p, .int 0 0] }).get? s.heap.objs.size = some (bareSet X.w) := Heap.get?_push_of_some _ (Heap.get?_push_size _ rfl)
    refine set_update_ints (A := B) (Walks.list (by simp [hB]) (s.heap.objs.size + 1) p ne its.toArray).toS s.heap.objs.size out ns (by simp [hlen]) (by unfold scanBound; omega) (fun i v hv => ?_) _ 0 _ rfl (Nat.zero_le _) ⟨⟨_, it2, rfl, rfl⟩, li2⟩ ⟨0, Nat.le_refl _, setR_new_at se⟩ (fun z n mv hn R => ?_)
    · have hv' : its[i]? = some v := by simpa using hv
      have lt' : i < ns.length := by rw [← hlen]; exact (List.getElem?_eq_some_iff.mp hv').1
      obtain ⟨t, e⟩ := PyProof.Rows.IntsAre.int_at hi i v hv'
      refine ⟨ns[i], t, List.getElem?_eq_getElem lt', ?_⟩
      rw [e, List.getD_eq_getElem?_getD, List.getElem?_eq_getElem lt']
      rfl
    · obtain ⟨zh, zg, zd, zt, zo⟩ := z
      obtain rfl : zg = s.gens := mv.gens
      obtain rfl : zd = s.drawn := mv.drawn
      obtain rfl : zo = s.os := mv.os
      refine ⟨rfl, zh, zt, rfl, ⟨n, by simpa [hlen] using hn, R⟩, fun b o e => ?_⟩
      have lb := Heap.lt_size e
      refine mv.heap b o (fun z => ?_) (Heap.get?_push_of_some _ (Heap.get?_push_of_some _ e))
      simp only [List.mem_cons, List.not_mem_nil, or_false] at z
      rcases z with z | z
      · exact Nat.ne_of_lt lb z
      · exact Nat.ne_of_lt (Nat.lt_succ_of_lt lb) z
  · obtain ⟨n, hn, R⟩ := gd
    exact ⟨.ref _, _, I.laid (t' := tk) keep (Nat.le_refl _) (setO_new R), rfl, q _ n hn (I.hok.fresh (Nat.le_refl _))⟩
end
end L2

namespace Half
open PySem PySem.Spec PyProof.Rows L2
/-! ### draws: all but the row stays -/
structure Dr (r a : Addr) (H H' : Hp) : Prop where
  sb : SameBut r H H'
  at_ : ∃ i g l : Int, 0 ≤ i ∧ H' r = some (.lst [.ref a, .int i, .int g, .int l])
section
variable {K : PySem.W.Frag} {r a : Addr} {H H' H'' : Hp}
theorem Row.dr (h : Row K H r a) : Dr r a H H := by
  obtain ⟨ns, i, g, l, h1, h2, h3, h4⟩ := h
  exact ⟨fun _ _ _ q => q, i, g, l, h4, h1⟩
theorem Dr.row (h : Row K H r a) (d : Dr r a H H') : Row K H' r a := by
  obtain ⟨ns, i, g, l, h1, h2, h3, h4⟩ := h
  obtain ⟨i', g', l', e1, e2⟩ := d.at_
  refine ⟨ns, i', g', l', e2, ?_, h3, e1⟩
  have z : HO.lst (ns.map V.int) ≠ HO.lst [.ref a, .int i, .int g, .int l] := fun z => by
    have z' : ns.map V.int = [.ref a, .int i, .int g, .int l] := by injection z
    cases ns with
    | nil => cases z'
    | cons n ns => cases z'
  rcases h2 with (q | ⟨o, q⟩) | q
  · exact .inl (.inl (d.sb _ _ (ne_of q h1 z) q))
  · exact .inl (.inr ⟨o, d.sb _ _ (ne_of q h1 (by intro z; cases z)) q⟩)
  · exact .inr q
theorem Row.same' (S : Row K H r a) (e : Same H H') : Row K H' r a := Dr.row S (by
  obtain ⟨ns, i, g, l, h1, _, _, h4⟩ := S
  exact ⟨fun b o _ q => e _ _ q, i, g, l, h4, e _ _ h1⟩)
theorem Dr.same (d : Dr r a H H') (S : Same H' H'') : Dr r a H H'' := by
  obtain ⟨i, g, l, e1, e2⟩ := d.at_
  exact ⟨fun b o n q => S _ _ (d.sb b o n q), i, g, l, e1, S _ _ e2⟩
theorem Row.of (h : Row K H r a) (S : Same H H') : Dr r a H H' := h.dr.same S
theorem Dr.trans (d : Dr r a H H') (e : Dr r a H' H'') : Dr r a H H'' := ⟨fun b o n q => e.sb b o n (d.sb b o n q), e.at_⟩
theorem Dr.draw {o : HO} (h : Row K (upd H r o) r a) : Dr r a H (upd H r o) := by
  obtain ⟨ns, i, g, l, h1, h2, h3, h4⟩ := h
  exact ⟨fun b u n q => by rw [upd_ne n]; exact q, i, g, l, h4, h1⟩
/-- what is new ahead of the draws may be written -/
theorem Dr.put {D : Addr} {o : HO} (d : Dr r a H H') (hD : H D = none) (ne : D ≠ r) : Dr r a H (upd H' D o) := by
  obtain ⟨i, g, l, e1, e2⟩ := d.at_
  exact ⟨fun b u n q => by rw [upd_ne (ne_of_none q hD)]; exact d.sb b u n q, i, g, l, e1, by rw [upd_ne (Ne.symm ne)]; exact e2⟩
theorem Row.at_ (h : Row K H r a) : ∃ xs, H r = some (.lst xs) := by
  obtain ⟨ns, i, g, l, h1, _⟩ := h
  exact ⟨_, h1⟩
theorem Row.ne {D : Addr} (h : Row K H r a) (hD : H D = none) : D ≠ r := fun z => by
  obtain ⟨ys, hr⟩ := h.at_
  rw [z, hr] at hD
  cases hD
theorem Dr.kp (h : Row K H r a) (d : Dr r a H H') : Kp K H H' := fun b xs q => by
  obtain ⟨ys, hr⟩ := h.at_
  rcases q with (q | ⟨o, q⟩) | q
  · exact .inl (.inl (d.sb _ _ (ne_of q hr (by intro z; cases z)) q))
  · exact .inl (.inr ⟨o, d.sb _ _ (ne_of q hr (by intro z; cases z)) q⟩)
  · exact .inr q
end
/-! ### [x for x in xs if taken(row, m) == 0] and [(x, 1 + taken(row, k)) for ..] -/
abbrev LcW (J : It) (g : TG) (tt : TT) (te : TE) (vs : List Nat) (σ : L2.St) (H1 : Hp) (D : Addr) (Qd : Hp → Prop) : Prop := ∃ W : Nat → Nat → Hp → Prop, (∃ m, W 0 m (upd H1 D (.lst []))) ∧ ∀ i m H, W i m H →
      (J.stop i H ∧ Qd H) ∨ (J.go i H ∧ ∃ Nx : Hp → Prop, (∀ H', Nx H' → ∃ m', m' < m ∧ W (i + 1) m' H') ∧ ∀ x H', J.yld i H x H' → g x (wipe σ vs) H' fun σ2 H2 => wipe σ2 vs = wipe σ vs ∧ tt σ2 H2 fun b H3 =>
        if b = true then te σ2 H3 fun y H4 => ∃ acc, H4 D = some (.lst acc) ∧ acc.length < sizeLine ∧ Nx (upd H4 D (.lst (acc ++ [y]))) else Nx H3)
/-- the test of a draw -/
abbrev tDrawn (K : PySem.W.Frag) (ir : Nat) (m : Int) : TT := tTest (tOp rEq (tCall (spTaken K) [] E0 (tCons (tVar ir) (tCons (tC (.int m)) tNil))) (tC (.int 0)))
theorem taken_read {K : PySem.W.Frag} {r a : Addr} {m : Int} {H : Hp} {Q : VK} {E : XK} (h : Row K H r a) (h0 : 0 < m) (h1 : m < 1073741824) (k : ∀ v H', 0 ≤ v → v < m → Dr r a H H' → Q (.int v) H') : spTaken K [.ref r, .int m] H Q E :=
  ⟨r, m, a, rfl, h, h0, h1, fun v o v0 v1 R => k v _ v0 v1 (Dr.draw R)⟩
theorem drawn_read {K : PySem.W.Frag} {r a : Addr} {ir : Nat} {m : Int} {σ : L2.St} {H : Hp} {Q : Bool → Hp → Prop} (hs : σ[ir]? = some (some (.ref r))) (h : Row K H r a) (h0 : 0 < m) (h1 : m < 1073741824) (k : ∀ b H', Dr r a H H' → Q b H') : tDrawn K ir m σ H Q := by
  exact ⟨_, hs, r, m, a, rfl, h, h0, h1, fun v o _ _ R => ⟨rfl, _, rfl, k _ _ (Dr.draw R)⟩⟩
theorem sub_snoc {α : Type} {zs xs : List α} {i : Nat} {x : α} (h : zs.Sublist (xs.take i)) (hx : xs[i]? = some x) : (zs ++ [x]).Sublist (xs.take (i + 1)) := by
  rw [take_next hx]
  exact h.append (List.Sublist.refl _)
theorem sub_skip {α : Type} {zs xs : List α} {i : Nat} {x : α} (h : zs.Sublist (xs.take i)) (hx : xs[i]? = some x) : zs.Sublist (xs.take (i + 1)) := by
  rw [take_next hx]
  exact h.trans (List.sublist_append_left _ _)
theorem sub_len {α : Type} {zs xs : List α} {i : Nat} (h : zs.Sublist (xs.take i)) : zs.length ≤ xs.length := by
  have := h.length_le
  rw [List.length_take] at this
  omega
/-- the slots of a comprehension with one variable -/
structure Slot1 (σ : L2.St) (ir iv : Nat) (r : Addr) : Prop where
  row : ∀ x, ((wipe σ [iv]).set iv (some x))[ir]? = some (some (.ref r))
  var : ∀ x, ((wipe σ [iv]).set iv (some x))[iv]? = some (some x)
  wip : ∀ x, wipe ((wipe σ [iv]).set iv (some x)) [iv] = wipe σ [iv]
section
variable {K : PySem.W.Frag} {r a D : Addr} {ir iv : Nat} {m m2 : Int} {xs : List Str} {σ : L2.St} {H : Hp} {Qd : Hp → Prop} {J : It} {G : Hp → Prop}
theorem draw_names (wk : Walk J xs.length G (YAt (xs.map V.str))) (hG : ∀ H', Dr r a H H' → G H') (hR : Row K H r a) (few : xs.length ≤ 40) (h0 : 0 < m) (h1 : m < 1073741824) (S : Slot1 σ ir iv r) (hD : H D = none)
    (k : ∀ H' (zs : List Str), Dr r a H H' → H' D = some (.lst (zs.map V.str)) → zs.Sublist xs → Qd H') : LcW J (gName iv) (tDrawn K ir m) (tVar iv) [iv] σ H D Qd := by
  have ne := hR.ne hD
  refine lc_it wk (fun i H' => Dr r a H H' ∧ ∃ zs : List Str, H' D = some (.lst (zs.map V.str)) ∧ zs.Sublist (xs.take i)) ⟨hR.dr.put hD ne, [], upd_same, by simp⟩ (fun i H' _ p => hG H' p.1) ?_ ?_
  · rintro i x H1 H2 hi ⟨d, zs, hz, hs⟩ ⟨rfl, hx⟩
    obtain ⟨n, hn, rfl⟩ := getE hx
    refine ⟨S.wip _, drawn_read (S.row _) (d.row hR) h0 h1 fun b H3 d3 => ?_⟩
    have hz3 := d3.sb _ _ ne hz
    cases b with
    | false => exact iteF ⟨d.trans d3, zs, hz3, sub_skip hs hn⟩
    | true =>
      refine iteT ⟨_, S.var _, _, hz3, ?_, ?_, zs ++ [n], ?_, sub_snoc hs hn⟩
      · rw [List.length_map, sizeLine_eq]
        have := sub_len hs
        omega
      · exact (d.trans d3).put hD ne
      · rw [upd_same, List.map_append]
        rfl
  · rintro H2 ⟨d, zs, hz, hs⟩
    rw [List.take_length] at hs
    exact k H2 zs d hz hs
/-- pairs at the addresses ts -/
def PairsAt (K : PySem.W.Frag) (H : Hp) (ts : List Addr) (ps : List (Str × Int)) : Prop := ts.length = ps.length ∧ ∀ (i : Nat) t p, ts[i]? = some t → ps[i]? = some p → SqT K H t [.str p.1, .int p.2]
theorem PairsAt.kp {H' : Hp} {ts : List Addr} {ps : List (Str × Int)} (k : Kp K H H') (h : PairsAt K H ts ps) : PairsAt K H' ts ps := ⟨h.1, fun i t p a b => k _ _ (h.2 i t p a b)⟩
theorem PairsAt.snoc {ts : List Addr} {ps : List (Str × Int)} {t : Addr} {p : Str × Int} (h : PairsAt K H ts ps) (ht : SqT K H t [.str p.1, .int p.2]) : PairsAt K H (ts ++ [t]) (ps ++ [p]) := by
  refine ⟨by rw [List.length_append, List.length_append, h.1]; rfl, fun i t' p' a b => ?_⟩
  rcases Nat.lt_or_ge i ts.length with c | c
  · rw [List.getElem?_append_left c] at a
    rw [List.getElem?_append_left (by rw [← h.1]; exact c)] at b
    exact h.2 i t' p' a b
  · rw [List.getElem?_append_right c] at a
    rw [List.getElem?_append_right (by rw [← h.1]; exact c)] at b
    have e : i = ts.length := by
      rcases Nat.lt_or_ge ts.length i with z | z
      · rw [List.getElem?_eq_none (by show 1 ≤ _; omega)] at a
        cases a
      · omega
    subst e
    rw [Nat.sub_self] at a
    rw [h.1, Nat.sub_self] at b
    cases a
    cases b
    exact ht
theorem draw_pairs (wk : Walk J xs.length G (YAt (xs.map V.str))) (hG : ∀ H', Dr r a H H' → G H') (hR : Row K H r a) (few : xs.length ≤ 40) (h0 : 0 < m) (h1 : m < 1073741824) (h2 : 0 < m2) (h3 : m2 < 1073741824) (S : Slot1 σ ir iv r) (hD : H D = none)
    (k : ∀ H' ts ps, Dr r a H H' → H' D = some (.lst (ts.map V.ref)) → PairsAt K H' ts ps → (ps.map (·.1)).Sublist xs → (∀ p ∈ ps, 1 ≤ p.2 ∧ p.2 ≤ m2) → Qd H') :
    LcW J (gName iv) (tDrawn K ir m) (tTup (tCons (tVar iv) (tCons (tOp (rI0 fun i j => .int (i + j)) (tC (.int 1)) (tCall (spTaken K) [] E0 (tCons (tVar ir) (tCons (tC (.int m2)) tNil)))) tNil))) [iv] σ H D Qd := by
  have ne := hR.ne hD
  refine lc_it wk (fun i H' => Dr r a H H' ∧ ∃ ts ps, H' D = some (.lst (ts.map V.ref)) ∧ PairsAt K H' ts ps ∧ (ps.map (·.1)).Sublist (xs.take i) ∧ ∀ p ∈ ps, 1 ≤ p.2 ∧ p.2 ≤ m2) ⟨hR.dr.put hD ne, [], [], upd_same, ⟨rfl, fun i t p a => by simp at a⟩, by simp, fun p hp => by cases hp⟩ (fun i H' _ p => hG H' p.1) ?_ ?_
  · rintro i x H1 H2 hi ⟨d, ts, ps, hz, hp, hs, hb⟩ ⟨rfl, hx⟩
    obtain ⟨n, hn, rfl⟩ := getE hx
    have R1 := d.row hR
    refine ⟨S.wip _, drawn_read (S.row _) R1 h0 h1 fun b H3 d3 => ?_⟩
    have hz3 := d3.sb _ _ ne hz
    have hp3 := hp.kp (d3.kp R1)
    have R3 := d3.row R1
    cases b with
    | false => exact iteF ⟨d.trans d3, ts, ps, hz3, hp3, sub_skip hs hn, hb⟩
    | true =>
      refine iteT ⟨_, S.var _, _, S.row _, r, m2, a, rfl, R3, h2, h3, fun v o v0 v1 R4 => ⟨_, _, rfl, rfl, two_le, fun t nt => ?_⟩⟩
      have d4 := Dr.draw R4
      generalize upd H3 r o = H4 at d4 nt ⊢
      have s5 := Same.upd_new (o := .tup [.str n, .int (1 + v)]) nt
      have hz5 := s5 _ _ (d4.sb _ _ ne hz3)
      have d5 := ((d.trans d3).trans d4).same s5
      have hp5 := (hp3.kp (d4.kp R3)).kp s5.kp
      have kpD : ∀ o, Kp K (upd H4 t (.tup [.str n, .int (1 + v)])) (upd (upd H4 t (.tup [.str n, .int (1 + v)])) D o) := fun o => Kp.upd hz5 (fun xs z => by cases z) (fun q xs z => by cases z)
      refine ⟨_, hz5, ?_, d5.put hD ne, ts ++ [t], ps ++ [(n, 1 + v)], ?_, ?_, ?_, ?_⟩
      · rw [List.length_map, hp.1, sizeLine_eq]
        have := sub_len hs
        rw [List.length_map] at this
        omega
      · rw [upd_same, List.map_append]
        rfl
      · exact (hp5.kp (kpD _)).snoc (kpD _ _ _ (.inl (.inl upd_same)))
      · rw [List.map_append]
        exact sub_snoc hs hn
      · intro p hp
        rcases List.mem_append.mp hp with q | q
        · exact hb p q
        · rw [List.mem_singleton.mp q]
          exact ⟨by show 1 ≤ 1 + v; omega, by show 1 + v ≤ m2; omega⟩
  · rintro H2 ⟨d, ts, ps, hz, hp, hs, hb⟩
    rw [List.take_length] at hs
    exact k H2 ts ps d hz hp hs hb
end
end Half

namespace Half
open PySem PySem.Spec PyProof.Rows L2
theorem walk_strs {K : PySem.W.Frag} {p : Addr} {xs : List Str} : Walk (Itl K p) xs.length (fun H => SqL K H p (xs.map V.str)) (YAt (xs.map V.str)) := by
  have w := walk_list (K := K) (a := p) (xs := xs.map V.str)
  rwa [List.length_map] at w
theorem Dr.lst {r a p : Addr} {H H' : Hp} {xs : List V} (d : Dr r a H H') (ne : p ≠ r) (h : H p = some (.lst xs)) : H' p = some (.lst xs) := d.sb _ _ ne h
structure TxtJ (mg : Str → Option Value) : Prop where
  srt : mg "sorted" = none
  tup : mg "tuple" = none
  set : mg "set" = none
  ran : mg "range" = none
  dic : mg "dict" = none
  len : mg "len" = none
def nth (l : List Stmt) (i : Nat) : Stmt := l.getD i (.Pass ⟨0, 0, 0, 0⟩)
def forBody (s : Stmt) : List Stmt := match s with
  | .For (body := b) .. => b
  | _ => []
theorem NeedsAt.kp {K : PySem.W.Frag} {H H' : Hp} {a : Addr} {ps : List (Str × Int)} (k : Kp K H H') (h : NeedsAt K H a ps) : NeedsAt K H' a ps := by
  obtain ⟨ts, h1, h2, h3⟩ := h
  exact ⟨ts, k _ _ h1, h2, fun i t p q r => k _ _ (h3 i t p q r)⟩
theorem EdAt.kp {K : PySem.W.Frag} {H H' : Hp} {e : Ed} {s n f g : Addr} (k : Kp K H H') (h : EdAt K H e s n f g) : EdAt K H' e s n f g := ⟨k _ _ h.scripts, h.needs.kp k, h.first.kp k, k _ _ h.against⟩
/-- draws, and the list at l may be written -/
structure DrW (r a l : Addr) (H H' : Hp) : Prop where
  sb : ∀ b o, b ≠ r → b ≠ l → H b = some o → H' b = some o
  at_ : ∃ i g z : Int, 0 ≤ i ∧ H' r = some (.lst [.ref a, .int i, .int g, .int z])
section
variable {K : PySem.W.Frag} {r a l : Addr} {H H' H'' : Hp} {ls : Es}
theorem Dr.w (d : Dr r a H H') : DrW r a l H H' := ⟨fun b o n _ q => d.sb b o n q, d.at_⟩
theorem DrW.trans (d : DrW r a l H H') (e : DrW r a l H' H'') : DrW r a l H H'' := ⟨fun b o n m q => e.sb b o n m (d.sb b o n m q), e.at_⟩
theorem DrW.row {xs : List V} (h : Row K H r a) (hl : H l = some (.lst xs)) (na : a ≠ l ∨ ∃ ns : List Int, ns.length ≤ 63 ∧ ∀ H', SqL K H' a (ns.map V.int)) (d : DrW r a l H H') : Row K H' r a := by
  obtain ⟨ns, i, g, z, h1, h2, h3, h4⟩ := h
  obtain ⟨i', g', z', e1, e2⟩ := d.at_
  have zz : HO.lst (ns.map V.int) ≠ HO.lst [.ref a, .int i, .int g, .int z] := fun y => by
    have y' : ns.map V.int = [.ref a, .int i, .int g, .int z] := by injection y
    cases ns with
    | nil => cases y'
    | cons n ns => cases y'
  rcases na with na | ⟨ms, m1, m2⟩
  · refine ⟨ns, i', g', z', e2, ?_, h3, e1⟩
    rcases h2 with (q | ⟨o, q⟩) | q
    · exact .inl (.inl (d.sb _ _ (ne_of q h1 zz) na q))
    · exact .inl (.inr ⟨o, d.sb _ _ (ne_of q h1 (by intro z; cases z)) na q⟩)
    · exact .inr q
  · exact ⟨ms, i', g', z', e2, m2 _, m1, e1⟩
theorem DrW.kp {xs : List V} (h : Row K H r a) (hl : H l = some (.lst xs)) (d : DrW r a l H H') : Kp K H H' := fun b ys q => by
  obtain ⟨zs, hr⟩ := h.at_
  rcases q with (q | ⟨o, q⟩) | q
  · exact .inl (.inl (d.sb _ _ (ne_of q hr (by intro z; cases z)) (ne_of q hl (by intro z; cases z)) q))
  · exact .inl (.inr ⟨o, d.sb _ _ (ne_of q hr (by intro z; cases z)) (ne_of q hl (by intro z; cases z)) q⟩)
  · exact .inr q
end
/-- the drawn parts of an edition of a package with these others -/
structure GoodE (nm : Str) (ver : Int) (os : List Str) (e : Edn) : Prop where
  name : e.name = nm
  ver : e.ver = ver
  scr : e.scr.Sublist SCR
  nee : (e.nee.map (·.1)).Sublist os
  neeV : ∀ p ∈ e.nee, 1 ≤ p.2 ∧ p.2 ≤ 3
  fir : (e.fir.map (·.1)).Sublist os
  firV : ∀ p ∈ e.fir, 1 ≤ p.2 ∧ p.2 ≤ 3
  aga : e.aga.Sublist os
/-- the editions of one name, one for each version -/
def GoodB (nm : Str) (os : List Str) (vs : List Int) (es : Es) : Prop := es.length = vs.length ∧ ∀ (j : Nat) (e : Addr × Edn) (v : Int), es[j]? = some e → vs[j]? = some v → GoodE nm v os e.2
theorem GoodB.snoc {nm : Str} {os : List Str} {vs : List Int} {i : Nat} {es : Es} {t : Addr} {e : Edn} {v : Int} (h : GoodB nm os (vs.take i) es) (hv : vs[i]? = some v) (g : GoodE nm v os e) : GoodB nm os (vs.take (i + 1)) (es ++ [(t, e)]) := by
  rw [take_next hv]
  refine ⟨by rw [List.length_append, List.length_append, h.1]; rfl, fun j x u a b => ?_⟩
  rcases Nat.lt_or_ge j es.length with c | c
  · rw [List.getElem?_append_left c] at a
    rw [List.getElem?_append_left (by rw [← h.1]; exact c)] at b
    exact h.2 j x u a b
  · rw [List.getElem?_append_right c] at a
    rw [List.getElem?_append_right (by rw [← h.1]; exact c)] at b
    have e' : j = es.length := by
      rcases Nat.lt_or_ge es.length j with z | z
      · rw [List.getElem?_eq_none (by show 1 ≤ _; omega)] at a
        cases a
      · omega
    subst e'
    rw [Nat.sub_self] at a
    rw [h.1, Nat.sub_self] at b
    cases a
    cases b
    exact g
abbrev Al (K : PySem.W.Frag) (a l : Addr) : Prop := a ≠ l ∨ ∃ ns : List Int, ns.length ≤ 63 ∧ ∀ H', SqL K H' a (ns.map V.int)
def StD (K : PySem.W.Frag) (H : Hp) (d : Addr) (ss : List (Str × St3)) : Prop := ∃ kvs, Rd H d (.dK kvs) ∧ SL K H kvs ss
theorem StD.same {K : PySem.W.Frag} {H H' : Hp} {d : Addr} {ss : List (Str × St3)} (S : Same H H') (h : StD K H d ss) : StD K H' d ss := by
  obtain ⟨kvs, h1, h2⟩ := h
  refine ⟨kvs, ?_, h2.same S⟩
  rcases h1 with h1 | ⟨o, h1⟩
  · exact .inl (S _ _ h1)
  · exact .inr ⟨o, S _ _ h1⟩
def STS : List Str := ["absent", "failed", "half", "left", "ready", "unpacked", "ready"]
theorem inR_self (v : Int) : inR (.int v) v v = true := by
  show (decide (v ≤ v) && decide (v ≤ v)) = true
  simp
theorem state_ok {ks : List Kk} {n st : Str} {v dn : Int} (hv : (n, v) ∈ ks) (hst : st ∈ STS) (ha : st ≠ "absent") (hd : dn = 0 ∨ (n, dn) ∈ ks) : isState ks n (st, v, if decide (st = "ready") = true then v else dn) = true := by
  have e1 : decide (st = "absent") = false := decide_eq_false ha
  have e2 : (!has THR st && !decide (st = "left")) = false := by
    unfold STS at hst
    simp only [List.mem_cons, List.not_mem_nil, or_false] at hst
    rcases hst with rfl | rfl | rfl | rfl | rfl | rfl | rfl
    · exact absurd rfl ha
    all_goals decide +kernel
  unfold isState
  dsimp only
  rw [e1, if_neg (by decide), e2, has_iff.mpr hv]
  rw [if_neg (by decide)]
  cases c : decide (st = "ready") with
  | true =>
    rw [if_pos rfl, if_pos rfl]
    exact inR_self v
  | false =>
    rw [if_neg (by decide), if_neg (by decide)]
    rcases hd with rfl | q
    · rfl
    · rw [has_iff.mpr q, Bool.or_true]
def StsOk (ks : List Kk) (ss : List (Str × St3)) : Prop := IsNm ks (ss.map (·.1)) ∧ ∀ p ∈ ss, isState ks p.1 p.2 = true ∧ p.2.1 ∈ STS
theorem Dr.none {K : PySem.W.Frag} {r a D : Addr} {H H' : Hp} (d : Dr r a H H') (hR : Row K H r a) (h : H' D = none) : H D = none := by
  cases c : H D with
  | none => rfl
  | some o =>
    by_cases z : D = r
    · obtain ⟨i, g, l, _, e⟩ := d.at_
      rw [z, e] at h
      cases h
    · rw [d.sb _ _ z c] at h
      cases h
theorem keys_eds (y : Es) : keysOf y.eds = (y.map (·.2)).map Edn.key := by
  show (y.map fun e => (e.1, e.2.key)).map (·.2) = _
  rw [List.map_map, List.map_map]
  rfl
structure MkSt (P : Program) (w : World) (K : PySem.W.Frag) (mg : Str → Option Value) (base : Heap) (C CT CI : Addr) : Prop where
  ex : ∃ f fd, Mk K CT f ∧ FnOk P w K mg base (L2.CX P w) 4 f fd ["self", "editions"] (spSi K C CT CI) ∧ Binds K fd ["self", "editions"] []
  mgS : mg "Store" = some (.ref CT)
theorem store_read {K : PySem.W.Frag} {C CT CI : Addr} {H : Hp} {x dx t : Addr} {es : Eds} {Q : Hp → Prop} {E : XK} (nx : H x = none) (ndx : H dx = none) (hE : EdsAt K C H t es) (few : es.length ≤ 40) (hw : wrongAt (keysOf es) = none) (k : ∀ H', Same H H' → StObj CT H' x es → Q H') :
    spSi K C CT CI [.ref x, .ref t] (upd (upd H dx (.own x)) x (.ins CT dx [])) (fun v H3 => v = .non ∧ Q H3) E := by
  have S : Same H (upd (upd H dx (.own x)) x (.ins CT dx [])) := fun b o q => by
    rw [upd_ne (ne_of_none q nx), upd_ne (ne_of_none q ndx), q]
  refine ⟨x, t, dx, es, rfl, upd_same, hE.same S, few, fun _ H' sb ho => ⟨rfl, k H' (fun b o q => sb b o (ne_of_none q nx) (S b o q)) ho⟩, fun i hi => ?_⟩
  rw [hw] at hi
  cases hi
theorem EdX.put {K : PySem.W.Frag} {H : Hp} {C a fo : Addr} {e : Edn} {xs : List V} {o : HO} (hf : H fo = some (.lst xs)) (h : EdX K H C a e) : EdX K (upd H fo o) C a e := by
  obtain ⟨s, n, f, g, ⟨dx, p, h1, h2⟩, h3⟩ := h
  have kp : Kp K H (upd H fo o) := Kp.upd hf (fun xs z => by cases z) (fun q xs z => by cases z)
  exact ⟨s, n, f, g, ⟨dx, p, by rw [upd_ne (ne_of h1 hf (by intro z; cases z))]; exact h1, by rw [upd_ne (ne_of h2 hf (by intro z; cases z))]; exact h2⟩, h3.kp kp⟩
theorem EdX.key {K : PySem.W.Frag} {H : Hp} {C a : Addr} {e : Edn} (h : EdX K H C a e) : EdK C H a e.key := by
  obtain ⟨s, n, f, g, ⟨dx, p, h1, h2⟩, _⟩ := h
  exact ⟨dx, p, _, h1, h2⟩
theorem asc_of {l : List Str} (h : l.Pairwise fun a b => strLt a b = true) : ascS l = true := by
  unfold ascS
  refine List.all_eq_true.mpr fun i hi => ?_
  have hi : i < l.length - 1 := List.mem_range.mp hi
  have h1 : i < l.length := by omega
  have h2 : i + 1 < l.length := by omega
  have e1 : l.getD i "" = l[i] := by rw [List.getD_eq_getElem?_getD, List.getElem?_eq_getElem h1]; rfl
  have e2 : l.getD (i + 1) "" = l[i + 1] := by rw [List.getD_eq_getElem?_getD, List.getElem?_eq_getElem h2]; rfl
  rw [e1, e2]
  exact List.pairwise_iff_getElem.mp h i (i + 1) h1 h2 (by omega)
theorem scr_asc : SCR.Pairwise fun a b => strLt a b = true := by decide +kernel
theorem scripts_ok {l : List Str} (h : l.Sublist SCR) : areScripts l = true := by
  unfold areScripts
  rw [asc_of (scr_asc.sublist h), Bool.and_true]
  refine List.all_eq_true.mpr fun z hz => ?_
  rw [inV_str]
  exact has_iff.mpr (h.subset hz)
theorem nodup_take {α : Type} {l : List α} {i : Nat} {x : α} (h : l.Nodup) (hx : l[i]? = some x) : x ∉ l.take i := fun z => by
  have hi := (List.getElem?_eq_some_iff.mp hx).1
  rw [← List.take_append_drop i l] at h
  refine (List.nodup_append.mp h).2.2 x z x ?_ rfl
  rw [List.drop_eq_getElem_cons hi, (List.getElem?_eq_some_iff.mp hx).2]
  exact List.mem_cons_self
theorem pLt_ne {a b : Kk} (h : pLt a b = true) : a ≠ b := fun z => by
  rw [z] at h
  rcases pLt_iff.mp h with q | ⟨_, q⟩
  · have := tx_irr b.1
    rw [q] at this
    cases this
  · omega
/-! ### of states and systems, as in k03 -/
theorem keys_same {ls es : Es} (h : es.map (·.2) = ls.map (·.2)) : keysOf es.eds = keysOf ls.eds := by rw [keys_eds, keys_eds, h]
theorem stOf_of : ∀ {ss : List (Str × St3)} {p : Str × St3}, (ss.map (·.1)).Nodup → p ∈ ss → stOf ss p.1 = some p.2
  | (m, s) :: ss, p, h, hp => by
    obtain ⟨h1, h2⟩ := List.nodup_cons.mp (show (m :: ss.map (·.1)).Nodup from h)
    rw [stOf_cons]
    rcases List.mem_cons.mp hp with rfl | q
    · rw [if_pos rfl]
    · rw [if_neg (fun z => h1 (by rw [z]; exact List.mem_map.mpr ⟨p, q, rfl⟩))]
      exact stOf_of h2 q
theorem allOf_self {ss : List (Str × St3)} (h : (ss.map (·.1)).Nodup) : allOf (ss.map (·.1)) ss = ss := by
  unfold allOf
  rw [List.map_map]
  have : ∀ p ∈ ss, ((fun n => (n, (stOf ss n).getD AB)) ∘ fun p : Str × St3 => p.1) p = id p := fun p hp => by
    have e : stOf ss p.1 = some p.2 := stOf_of h hp
    show (p.1, (stOf ss p.1).getD AB) = p
    rw [e]
    rfl
  rw [List.map_congr_left this, List.map_id]
theorem sts_good {ks : List Kk} {ss : List (Str × St3)} (h : StsOk ks ss) : ∀ n ∈ ss.map (·.1), badP ks ss n = false := fun n hn => by
  obtain ⟨s, hs⟩ := stOf_some hn
  have a := (h.1.mem n).mp hn
  have b := (h.2 _ (stOf_in hs)).1
  unfold badP
  rw [has_iff.mpr a, hs]
  show (false || !isState ks n s) = false
  rw [b]
  rfl
structure YtF (P : Program) (w : World) (K : PySem.W.Frag) (mg : Str → Option Value) (base : Heap) (CY : Addr) : Prop where
  ex : ∃ p g fd, PropOf K CY "states" p g ∧ FnOk P w K mg base CX0 1 g fd ["self"] (spYt K CY) ∧ Binds K fd ["self"] []
theorem sts_txt : ∀ x ∈ STS, PyData.strOk x = true := by
  intro x h
  unfold STS at h
  simp only [List.mem_cons, List.not_mem_nil, or_false] at h
  rcases h with rfl | rfl | rfl | rfl | rfl | rfl | rfl <;> decide +kernel
theorem eqM_self {dk : List (Key × PyData)} (h : ∀ p ∈ dk, hitM dk p = true) : eqM dk dk = true := by
  unfold eqM
  rw [decide_eq_true rfl, Bool.true_and]
  exact List.all_eq_true.mpr h
def Nl (H H' : Hp) : Prop := ∀ b o, H b = some o → (∀ xs, o ≠ .lst xs) → H' b = some o
theorem Dr.nl {K : PySem.W.Frag} {r a : Addr} {H H' : Hp} (h : Row K H r a) (d : Dr r a H H') : Nl H H' := fun b o q n => by
  obtain ⟨xs, hr⟩ := h.at_
  refine d.sb b o (fun z => ?_) q
  rw [z, hr] at q
  cases q
  exact n xs rfl
theorem StObj.nl {CT : Addr} {H H' : Hp} {st : Addr} {es : Eds} (k : Nl H H') (h : StObj CT H st es) : StObj CT H' st es := by
  obtain ⟨⟨dy, tb, nb, h1, h2, h3⟩, one⟩ := h
  obtain ⟨ys', a, b, kvs', g1, g2, g3⟩ := h3
  exact ⟨⟨dy, tb, nb, k _ _ h1 (by intro _ z; cases z), k _ _ h2 (by intro _ z; cases z), ys', a, b, kvs', k _ _ g1 (by intro _ z; cases z), g2, fun nm hm => let ⟨t, a, b⟩ := g3 nm hm; ⟨t, a, k _ _ b (by intro _ z; cases z)⟩⟩, one⟩
theorem EdX.nl {K : PySem.W.Frag} {C a : Addr} {H H' : Hp} {e : Edn} (k : Nl H H') (kp : Kp K H H') (h : EdX K H C a e) : EdX K H' C a e := by
  obtain ⟨s, n, f, g, ⟨dx, p, h1, h2⟩, h3⟩ := h
  exact ⟨s, n, f, g, ⟨dx, p, k _ _ h1 (by intro _ z; cases z), k _ _ h2 (by intro _ z; cases z)⟩, h3.kp kp⟩
theorem eqv_st (s : St3) : PyData.eqv (stD s) (stD s) = true := by simp [stD, PyData.eqv, PyData.eqvAll]
theorem dat_of : ∀ {ss : List (Str × St3)} {p : Str × St3}, (ss.map (·.1)).Nodup → p ∈ ss → datAt (datS ss) (.inr p.1) = some (stD p.2)
  | (m, s) :: ss, p, h, hp => by
    obtain ⟨h1, h2⟩ := List.nodup_cons.mp (show (m :: ss.map (·.1)).Nodup from h)
    unfold datAt datS
    rw [List.map_cons, List.find?_cons]
    rcases List.mem_cons.mp hp with rfl | q
    · rw [decide_eq_true rfl]
      rfl
    · have ne : ¬ ((.inr m : Key) = .inr p.1) := fun z => h1 (by injection z with z; rw [z]; exact List.mem_map.mpr ⟨p, q, rfl⟩)
      rw [decide_eq_false ne]
      exact dat_of h2 q
theorem eqM_states {ss : List (Str × St3)} (h : (ss.map (·.1)).Nodup) : eqM (datS ss) (datS ss) = true := eqM_self fun p hp => by
  obtain ⟨q, hq, rfl⟩ := List.mem_map.mp hp
  unfold hitM
  rw [dat_of h hq]
  exact eqv_st q.2
theorem SysAt.nl {K : PySem.W.Frag} {CY a st : Addr} {H H' : Hp} {ss : List (Str × St3)} (k : Nl H H') (kp : Kp K H H') (h : SysAt K CY H a st ss) : SysAt K CY H' a st ss := by
  obtain ⟨dx, d, kvs, h1, h2, h3⟩ := h.ex
  exact ⟨dx, d, kvs, k _ _ h1 (by intro _ z; cases z), k _ _ h2 (by intro _ z; cases z), h3.kp kp⟩
theorem SysOk.nl {K : PySem.W.Frag} {C CT CY : Addr} {H H' : Hp} {a st : Addr} {ss : List (Str × St3)} {es : Es} (k : Nl H H') (kp : Kp K H H') (h : SysOk K C CT CY H a st ss es) : SysOk K C CT CY H' a st ss es :=
  ⟨h.sys.nl k kp, h.sto.nl k, fun e he => (h.ed e he).nl k kp, h.nm, h.ok, h.few⟩
structure YwF (P : Program) (w : World) (K : PySem.W.Frag) (mg : Str → Option Value) (base : Heap) (CT CY CI CN : Addr) : Prop where
  ex : ∃ f fd, Meth K CY "with_state" f ∧ FnOk P w K mg base (L2.CX P w) 6 f fd ["self", "name", "state"] (spYw K CT CY CI CN) ∧ Binds K fd ["self", "name", "state"] []
theorem put_names {ss : List (Str × St3)} {n : Str} {s : St3} (h : n ∈ ss.map (·.1)) : (putS ss n s).map (·.1) = ss.map (·.1) := by
  rw [putS_keys]
  unfold dstep
  rw [has_iff.mpr h, if_pos rfl]
theorem put_mem {ss : List (Str × St3)} {n : Str} {s : St3} (h : n ∈ ss.map (·.1)) : ∀ p ∈ putS ss n s, p = (n, s) ∨ (p ∈ ss ∧ p.1 ≠ n) := fun p hp => by
  unfold putS at hp
  rw [has_iff.mpr h, if_pos rfl] at hp
  obtain ⟨q, hq, e⟩ := List.mem_map.mp hp
  by_cases c : q.1 = n
  · rw [if_pos c] at e
    rw [← e, c]
    exact .inl rfl
  · rw [if_neg c] at e
    rw [← e]
    exact .inr ⟨hq, c⟩
theorem put_len (ss : List (Str × St3)) (n : Str) (s : St3) : (putS ss n s).length ≤ ss.length + 1 := by
  unfold putS
  split
  · rw [List.length_map]; omega
  · rw [List.length_append]; exact Nat.le_refl _
theorem st_shaped {s : St3} (h : PyData.strOk s.1 = true) : SeqAt.shaped (stD s) = true := by
  simp [SeqAt.shaped, stD, PyData.canLay0, PyData.canLayAll0, PyData.depth, PyData.depthAll, h]
theorem st_dp {K : PySem.W.Frag} {H : Hp} {t : Addr} {s : St3} (h : SqT K H t (stV s)) : Dp K H (.ref t) (stD s) := .tup h (.cons (.str _) (.cons (.int _) (.cons (.int _) .nil)))
end Half

namespace Half
open PySem PySem.Spec PyProof.Rows L2
/-! ### why a deed cannot begin -/
def SAM : List Str := ["failed", "ready", "unpacked"]
def SUP : List Str := ["unpacked", "failed"]
abbrev Why : Type := Option (List Str)
/-- a word and the first of the names, if there is one -/
def hd1 (w : Str) : List Str → Why
  | [] => none
  | x :: _ => some [w, x]
def unmet (ss : List (Str × St3)) (qs : List (Str × Int)) : List Str := (qs.filter fun q => !metB ss q).map (·.1)
def foes (es : List Edn) (ss : List (Str × St3)) (e : Edn) : List Str := (ss.map (·.1)).filter fun n => hostB es ss e n
def unpackW (es : List Edn) (ss : List (Str × St3)) (n : Str) (v : Int) : Why := match edAt es (n, v) with
  | none => some ["unknown"]
  | some e => match stOf ss n with
    | none => none
    | some s => if (has SAM s.1 && decide (s.2.1 = v)) = true then some ["same"] else
      match unmet ss e.fir with
      | x :: _ => some ["first", x]
      | [] => hd1 "against" (foes es ss e)
def setupW (es : List Edn) (ss : List (Str × St3)) (n : Str) : Why := match stOf ss n with
  | none => none
  | some s => if has SUP s.1 = true then (match edAt es (n, s.2.1) with
    | some e => hd1 "needs" (unmet ss e.nee)
    | none => none) else some ["status"]
def needsB (es : List Edn) (ss : List (Str × St3)) (n : Str) (m : Str) : Bool := match stOf ss m with
  | none => false
  | some s => if decide (s.1 = "ready") = true then (match edAt es (m, s.2.1) with
    | some e => has (e.nee.map (·.1)) n
    | none => false) else false
def removeW (es : List Edn) (ss : List (Str × St3)) (n : Str) : Why := if thereB ss n = true then hd1 "needed" ((ss.map (·.1)).filter (needsB es ss n)) else some ["status"]
def purgeW (ss : List (Str × St3)) (n : Str) : Why := match stOf ss n with
  | none => none
  | some s => if decide (s.1 = "left") = true then none else some ["status"]
/-- a deed: its word, its name, its version (for unpack alone) -/
structure Deed where
  word : Str
  name : Str
  ver : Int
def Deed.isU (d : Deed) : Bool := decide (d.word = "unpack")
def Deed.vs (d : Deed) : List V := if d.isU = true then [.str d.word, .str d.name, .int d.ver] else [.str d.word, .str d.name]
def DWS : List Str := ["setup", "remove", "purge", "unpack"]
def refuseW (es : List Edn) (ss : List (Str × St3)) (d : Deed) : Why :=
  if d.isU = true then unpackW es ss d.name d.ver
  else if has (ss.map (·.1)) d.name = true then (if d.word = "setup" then setupW es ss d.name else if d.word = "remove" then removeW es ss d.name else purgeW ss d.name)
  else some ["unknown"]
/-- what tells why -/
def WhyV (K : PySem.W.Frag) (H : Hp) (v : V) (o : Why) : Prop := match o with
  | none => v = .non
  | some ws => ∃ t, v = .ref t ∧ SqT K H t (ws.map V.str)
/-- no edition has many needs -/
def Lean (es : Es) : Prop := ∀ e ∈ es, e.2.nee.length ≤ 100 ∧ e.2.fir.length ≤ 100
abbrev SpW : Type := List (Str × St3) → List Edn → Str → Why
def spW (K : PySem.W.Frag) (C CT CY : Addr) (f : List Edn → List (Str × St3) → Str → Why) : Sp := fun vs H Q _ => ∃ (a st : Addr) (ss : List (Str × St3)) (es : Es) (n : Str), vs = [.ref a, .str n] ∧ SysOk K C CT CY H a st ss es ∧ Lean es ∧ n ∈ ss.map (·.1) ∧ ∀ v H', Same H H' → WhyV K H' v (f (es.map (·.2)) ss n) → Q v H'
def spUr (K : PySem.W.Frag) (C CT CY : Addr) : Sp := fun vs H Q _ => ∃ (a st : Addr) (ss : List (Str × St3)) (es : Es) (n : Str) (ve : Int), vs = [.ref a, .str n, .int ve] ∧ SysOk K C CT CY H a st ss es ∧ Lean es ∧ ∀ v H', Same H H' → WhyV K H' v (unpackW (es.map (·.2)) ss n ve) → Q v H'
def spNn (K : PySem.W.Frag) (C CT CY : Addr) : Sp := fun vs H Q _ => ∃ (a st : Addr) (ss : List (Str × St3)) (es : Es) (m n : Str), vs = [.ref a, .str m, .str n] ∧ SysOk K C CT CY H a st ss es ∧ Lean es ∧ m ∈ ss.map (·.1) ∧ ∀ H', Same H H' → Q (.bl (needsB (es.map (·.2)) ss n m)) H'
def spRef (K : PySem.W.Frag) (C CT CY : Addr) : Sp := fun vs H Q _ => ∃ (a st t : Addr) (ss : List (Str × St3)) (es : Es) (d : Deed), vs = [.ref a, .ref t] ∧ SysOk K C CT CY H a st ss es ∧ Lean es ∧ SqT K H t d.vs ∧ d.word ∈ DWS ∧ ∀ v H', Same H H' → WhyV K H' v (refuseW (es.map (·.2)) ss d) → Q v H'
/-! the edition's other properties -/
structure EdG (P : Program) (w : World) (K : PySem.W.Frag) (mg : Str → Option Value) (base : Heap) (C : Addr) : Prop where
  p1 : Prp P w K mg base C "version" 1
  p2 : Prp P w K mg base C "scripts" 2
  p4 : Prp P w K mg base C "first" 4
section
variable {K : PySem.W.Frag} {C CT CY CN CU : Addr} {H : Hp} {a : Addr} {Q : VK}
theorem prp1 {e : Edn} (h : EdX K H C a e) (q : Q (.int e.ver) H) : ∃ p dx fs, V.ref a = .ref p ∧ H p = some (.ins C dx fs) ∧ spGet C 1 [.ref p] H Q E0 := by
  obtain ⟨s, n, f, g, ⟨dx, p, h1, h2⟩, h3⟩ := h
  exact ⟨a, dx, _, rfl, h1, a, dx, p, _, _, rfl, h1, h2, rfl, q⟩
theorem prp2 {e : Edn} (h : EdX K H C a e) (q : ∀ n, SqT K H n (e.scr.map V.str) → Q (.ref n) H) : ∃ p dx fs, V.ref a = .ref p ∧ H p = some (.ins C dx fs) ∧ spGet C 2 [.ref p] H Q E0 := by
  obtain ⟨s, n, f, g, ⟨dx, p, h1, h2⟩, h3⟩ := h
  exact ⟨a, dx, _, rfl, h1, a, dx, p, _, _, rfl, h1, h2, rfl, q s h3.scripts⟩
theorem prp4 {e : Edn} (h : EdX K H C a e) (q : ∀ n, NeedsAt K H n e.fir → Q (.ref n) H) : ∃ p dx fs, V.ref a = .ref p ∧ H p = some (.ins C dx fs) ∧ spGet C 4 [.ref p] H Q E0 := by
  obtain ⟨s, n, f, g, ⟨dx, p, h1, h2⟩, h3⟩ := h
  exact ⟨a, dx, _, rfl, h1, a, dx, p, _, _, rfl, h1, h2, rfl, q f h3.first⟩
/-- a tuple of texts, made -/
theorem why_new {ws : List Str} {t : Addr} {H : Hp} : WhyV K (upd H t (.tup (ws.map V.str))) (.ref t) (some ws) := ⟨t, rfl, .inl (.inl upd_same)⟩
theorem WhyV.same {H H' : Hp} {v : V} {o : Why} (s : Same H H') (h : WhyV K H v o) : WhyV K H' v o := by
  cases o with
  | none => exact h
  | some ws =>
    obtain ⟨t, e, k⟩ := h
    exact ⟨t, e, s.sqT k⟩
end
theorem edAt_none {es : Es} {k : Kk} (h : has (keysOf es.eds) k = false) : edAt (es.map (·.2)) k = none := by
  unfold edAt
  refine List.find?_eq_none.mpr fun e he z => ?_
  obtain ⟨x, hx, rfl⟩ := List.mem_map.mp he
  have : k ∈ keysOf es.eds := List.mem_map.mpr ⟨(x.1, x.2.key), List.mem_map.mpr ⟨x, hx, rfl⟩, of_decide_eq_true z⟩
  rw [has_iff.mpr this] at h
  exact nomatch h
/-- both tests, where the first may make something -/
theorem and_ext {ta tb : TT} {σ : L2.St} {H : Hp} {Q : Bool → Hp → Prop} {b c : Bool} (h1 : ∀ Q' : Bool → Hp → Prop, (∀ H1, Same H H1 → Q' b H1) → ta σ H Q') (h2 : ∀ H1, Same H H1 → ∀ Q' : Bool → Hp → Prop, Q' c H1 → tb σ H1 Q') (q : ∀ H1, Same H H1 → Q (b && c) H1) : tAnd ta tb σ H Q := by
  refine h1 _ fun H1 s1 => ?_
  cases b
  · exact iteF (q H1 s1)
  · exact iteT (h2 H1 s1 _ (q H1 s1))
theorem at_zero {x : V} {xs : List V} : atI (x :: xs) 0 = some x := atI_nat (j := 0) rfl
theorem one_le : 1 ≤ sizeLine := by decide
theorem thr_le : 3 ≤ sizeLine := by decide
section
variable {P : Program} {w : World} {K : PySem.W.Frag} {mg : Str → Option Value} {base : Heap} {C CT CY CN CU : Addr}
abbrev sUr : Stmt := top 34
theorem scUr : FnScope ["system", "name", "version", "status", "present", "done", "edition", "unmet", "opposed"] ["system", "name", "version"] (defScope sUr) := ⟨rfl, rfl, rfl, by decide +kernel, rfl, by decide +kernel, by decide +kernel⟩
theorem ok_ur {f : Addr} {fd : FuncData} (F : Fun K "unpack_refusal" "unpack_refusal" sUr f fd) (T : TxtY P w K mg base CT) (Y : SyF P w K mg base C CT CY CN CU) (G : EdG P w K mg base C) (dU : Def P w K mg base 4 "unmet_names" ["system", "needs"] (spUn K C CT CY)) (dN : Def P w K mg base 5 "names_against" ["system", "edition"] (spNa K C CT CY)) : FnOk P w K mg base CX0 6 f fd ["system", "name", "version"] (spUr K C CT CY) := by
  refine F.ok scUr (fun vs H Q E h => ?_) (fun cdv A outer s H vs Q E hr h => ?_)
  · obtain ⟨a, st, ss, es, n, ve, rfl, _⟩ := h
    rfl
  · obtain ⟨a, st, ss, es, n, ve, rfl, hY, lean, k⟩ := h
    have nd := scUr.nd
    have r1 : Room 1 _ := hr.mono (by decide)
    have r2 : Room 2 _ := hr.mono (by decide)
    have r3 : Room 3 _ := hr.mono (by decide)
    have r4 : Room 4 _ := hr.mono (by decide)
    refine ⟨_, pss_cons (ps_if (pt_cmpR (op_notinS T.hs r1) (pe_tup (pa_cons (pv 1) (pa_cons (pv 2) pa_nil))) (pe_ysto Y r2 (pv 0)) (by rfl)) (pss_one (ps_ret (pe_tup (pa_cons pe_str pa_nil)))) pss_nil)
      (pss_cons (ps_asg (pe_yget Y r2 (pv 0) (pv 1)) (pg_tup rfl (pgs_cons (pg_name (i := 3) nd rfl (Or.inl rfl)) (pgs_cons (pg_name (i := 4) nd rfl (Or.inl rfl)) (pgs_cons (pg_name (i := 5) nd rfl (Or.inl rfl)) pgs_nil)))))
      (pss_cons (ps_if (PW.pt (pw_and (pt_cmpR (op_in_seq : OpR _ _ (rIn K false)) (pv 3) (pe_tup (pa_cons pe_str (pa_cons pe_str (pa_cons pe_str pa_nil)))) (by rfl)) (pw_and1 (pt_cmpR op_eq (pv 4) (pv 2) (nomark _))))) (pss_one (ps_ret (pe_tup (pa_cons pe_str pa_nil)))) pss_nil)
      (pss_cons (ps_set (i := 6) nd rfl (Or.inl rfl) (pe_sget Y r3 (pe_ysto Y r2 (pv 0)) (pe_tup (pa_cons (pv 1) (pa_cons (pv 2) pa_nil)))))
      (pss_cons (ps_set (i := 7) nd rfl (Or.inl rfl) (pe_def dU r4 rfl (pa_cons (pv 0) (pa_cons (pe_prp G.p4 Y.clE r2 (pv 6)) pa_nil))))
      (pss_cons (ps_if (pt_truth (pv 7) (fun _ => rfl)) (pss_one (ps_ret (pe_tup (pa_cons pe_str (pa_cons (pe_ix ix_list (pv 7) pe_int (fun _ _ => rfl)) pa_nil))))) pss_nil)
      (pss_cons (ps_set (i := 8) nd rfl (Or.inl rfl) (pe_def dN hr rfl (pa_cons (pv 0) (pa_cons (pv 6) pa_nil))))
      (pss_cons (ps_if (pt_truth (pv 8) (fun _ => rfl)) (pss_one (ps_ret (pe_tup (pa_cons pe_str (pa_cons (pe_ix ix_list (pv 8) pe_int (fun _ _ => rfl)) pa_nil))))) pss_nil)
      (pss_one (ps_ret pe_non))))))))), ?_⟩
    unfold unpackW at k
    refine ⟨_, rfl, _, rfl, two_le, fun t1 n1 => ?_⟩
    have s1 := Same.upd_new (o := .tup [.str n, .int ve]) n1
    have hY1 := hY.same s1
    generalize h1 : upd H t1 (.tup [.str n, .int ve]) = H1 at s1 hY1
    have g1 : H1 t1 = some (.tup [.str n, .int ve]) := by rw [← h1]; exact upd_same
    refine ⟨_, rfl, ysto_read hY1.sys (inS_read (k := (n, ve)) hY1.sto g1 ⟨_, rfl, ?_⟩)⟩
    cases c0 : has (keysOf es.eds) (n, ve) with
    | false =>
      rw [edAt_none c0] at k
      exact iteT ⟨one_le, fun t2 n2 => k _ _ (s1.trans (Same.upd_new n2)) (why_new (ws := ["unknown"]))⟩
    | true =>
      obtain ⟨e, he, ek, ea⟩ := edAt_some (has_iff.mp c0)
      rw [ea] at k
      have hn : n ∈ ss.map (·.1) := (hY.nm.mem n).mpr (List.mem_map.mpr ⟨_, has_iff.mp c0, rfl⟩)
      obtain ⟨s3, hs⟩ := stOf_some hn
      rw [hs] at k
      dsimp only at k
      refine iteF ?_
      refine ⟨_, rfl, _, rfl, yget_read hY1.sys hs fun t ht => ⟨t, _, rfl, ht, rfl, _, _, rfl, _, _, rfl, _, _, rfl, rfl, ?_⟩⟩
      dsimp only
      refine seq_read (if_read (and_ext (b := has SAM s3.1) (c := decide (s3.2.1 = ve)) (fun Q' q' => ?_) (fun H2 s2 Q' q' => ?_) fun H2 s2 => ?_))
      · refine ⟨_, rfl, thr_le, fun t2 n2 => ⟨t2, _, rfl, .inr (.inl (.inl (upd_same (o := .tup (SAM.map V.str))))), rfl, flat_strs SAM, _, rfl, ?_⟩⟩
        rw [if_neg Bool.false_ne_true, inV_str]
        exact q' _ (Same.upd_new n2)
      · refine ⟨_, rfl, _, rfl, rfl, _, rfl, ?_⟩
        rw [dec_int]
        exact q'
      have s2 := s1.trans s2
      have hY2 := hY.same s2
      cases c1 : has SAM s3.1 && decide (s3.2.1 = ve) with
      | true =>
        rw [c1] at k
        exact iteT ⟨one_le, fun t4 n4 => k _ _ (s2.trans (Same.upd_new n4)) (why_new (ws := ["same"]))⟩
      | false =>
        rw [c1] at k
        simp only [Bool.false_eq_true, if_false] at k
        refine iteF ?_
        refine ⟨_, rfl, ysto_read hY2.sys ⟨_, rfl, _, rfl, two_le, fun t3 n3 => ?_⟩⟩
        have s3' := s2.trans (Same.upd_new (o := .tup [.str n, .int ve]) n3)
        have hY3 := hY.same s3'
        refine sget_read (k := (n, ve)) (e := (e.1, e.2.key)) hY3.sto upd_same (List.mem_map.mpr ⟨e, he, rfl⟩) ek ?_
        generalize upd H2 t3 (.tup [.str n, .int ve]) = H3 at s3' hY3
        refine ⟨_, rfl, _, rfl, prp4 (hY3.ed e he) fun f4 hf4 => ⟨a, st, f4, ss, es, e.2.fir, rfl, hY3, hf4, (lean e he).2, fun p H4 s4 hp => ?_⟩⟩
        have s4' := s3'.trans s4
        have hp : H4 p = some (.lst ((unmet ss e.2.fir).map V.str)) := hp
        refine ⟨_, rfl, _, .inl ⟨_, SqL.of hp, rfl⟩, ?_⟩
        cases c2 : unmet ss e.2.fir with
        | cons x r =>
          rw [c2] at k hp
          exact iteT ⟨_, rfl, p, _, 0, _, rfl, rfl, SqL.of hp, at_zero, two_le, fun t5 n5 => k _ _ (s4'.trans (Same.upd_new n5)) (why_new (ws := ["first", x]))⟩
        | nil =>
          rw [c2] at k
          refine iteF ?_
          refine ⟨_, rfl, _, rfl, a, st, e.1, ss, es, e.2, rfl, hY.same s4', (hY.ed e he).same s4', fun p5 H5 s5 hp5 => ?_⟩
          have s5' := s4'.trans s5
          have hp5 : H5 p5 = some (.lst ((foes (es.map (·.2)) ss e.2).map V.str)) := hp5
          refine ⟨_, rfl, _, .inl ⟨_, SqL.of hp5, rfl⟩, ?_⟩
          dsimp only at k
          cases c3 : foes (es.map (·.2)) ss e.2 with
          | cons x r =>
            rw [c3] at k hp5
            exact iteT ⟨_, rfl, p5, _, 0, _, rfl, rfl, SqL.of hp5, at_zero, two_le, fun t6 n6 => k _ _ (s5'.trans (Same.upd_new n6)) (why_new (ws := ["against", x]))⟩
          | nil =>
            rw [c3] at k
            exact iteF (k _ _ s5' rfl)
end
end Half

namespace Half
open PySem PySem.Spec PyProof.Rows L2
abbrev sSr : Stmt := top 35
abbrev sNn : Stmt := top 36
abbrev sRr : Stmt := top 37
abbrev sPr : Stmt := top 38
abbrev sRef : Stmt := top 40
theorem hd1_why {K : PySem.W.Frag} {H : Hp} {w : Str} {l : List Str} {v : V} (h : WhyV K H v (hd1 w l)) : WhyV K H v (hd1 w l) := h
section
variable {P : Program} {w : World} {K : PySem.W.Frag} {mg : Str → Option Value} {base : Heap} {C CT CY CN CU : Addr}
theorem fewN {H : Hp} {a st : Addr} {ss : List (Str × St3)} {es : Es} (hY : SysOk K C CT CY H a st ss es) : (ss.map (·.1)).length ≤ 40 := by
  have := len_sub hY.nm.nd (m := (keysOf es.eds).map (·.1)) fun z hz => (hY.nm.mem z).mp hz
  refine Nat.le_trans this ?_
  unfold Es.eds
  simp only [List.length_map]
  exact hY.few
theorem scSr : FnScope ["system", "name", "unmet"] ["system", "name"] (defScope sSr) := ⟨rfl, rfl, rfl, by decide +kernel, rfl, by decide +kernel, by decide +kernel⟩
theorem ok_sr {f : Addr} {fd : FuncData} (F : Fun K "setup_refusal" "setup_refusal" sSr f fd) (Y : SyF P w K mg base C CT CY CN CU) (dE : Def P w K mg base 4 "edition_of" ["system", "name"] (spEo K C CT CY)) (dU : Def P w K mg base 4 "unmet_names" ["system", "needs"] (spUn K C CT CY)) : FnOk P w K mg base CX0 6 f fd ["system", "name"] (spW K C CT CY setupW) := by
  refine F.ok scSr (fun vs H Q E h => ?_) (fun cdv A outer s H vs Q E hr h => ?_)
  · obtain ⟨a, st, ss, es, n, rfl, _⟩ := h
    rfl
  · obtain ⟨a, st, ss, es, n, rfl, hY, lean, hn, k⟩ := h
    have nd := scSr.nd
    have r2 : Room 2 _ := hr.mono (by decide)
    have r4 : Room 4 _ := hr.mono (by decide)
    refine ⟨_, pss_cons (ps_if (pt_cmpR (op_notIn_seq : OpR _ _ (rIn K true)) (pe_ix ix_tup (pe_yget Y r2 (pv 0) (pv 1)) pe_int (fun _ _ => rfl)) (pe_tup (pa_cons pe_str (pa_cons pe_str pa_nil))) (by rfl)) (pss_one (ps_ret (pe_tup (pa_cons pe_str pa_nil)))) pss_nil)
      (pss_cons (ps_set (i := 2) nd rfl (Or.inl rfl) (pe_def dU r4 rfl (pa_cons (pv 0) (pa_cons (pe_prp Y.p3 Y.clE r2 (pe_def dE r4 rfl (pa_cons (pv 0) (pa_cons (pv 1) pa_nil)))) pa_nil))))
      (pss_one (ps_ret (pe_ifExp (pt_truth (pv 2) (fun _ => rfl)) (pe_tup (pa_cons pe_str (pa_cons (pe_ix ix_list (pv 2) pe_int (fun _ _ => rfl)) pa_nil))) pe_non)))), ?_⟩
    obtain ⟨s3, hs⟩ := stOf_some hn
    unfold setupW at k
    rw [hs] at k
    dsimp only at k
    refine ⟨_, rfl, _, rfl, yget_read hY.sys hs fun t ht => ⟨t, _, 0, _, rfl, rfl, ht, rfl, two_le, fun t2 n2 => ?_⟩⟩
    have s1 := Same.upd_new (o := .tup (SUP.map V.str)) n2
    refine ⟨t2, _, rfl, .inr (.inl (.inl (upd_same (o := .tup (SUP.map V.str))))), rfl, flat_strs SUP, _, rfl, ?_⟩
    rw [if_pos rfl, inV_str]
    have hY1 := hY.same s1
    cases c : has SUP s3.1 with
    | false =>
      rw [c] at k
      exact iteT ⟨one_le, fun t3 n3 => k _ _ (s1.trans (Same.upd_new n3)) (why_new (ws := ["status"]))⟩
    | true =>
      rw [c] at k
      simp only [if_true] at k
      refine iteF ?_
      have na : s3.1 ≠ "absent" := fun z => by rw [z] at c; exact absurd c (by decide)
      refine ⟨_, rfl, _, rfl, _, rfl, a, st, ss, es, n, s3, rfl, hY1, hs, na, fun e he ea H2 s2 => ?_⟩
      rw [ea] at k
      dsimp only at k
      have s2' := s1.trans s2
      refine prp3 ((hY.ed e he).same s2') fun nn hnn => ⟨a, st, nn, ss, es, e.2.nee, rfl, hY.same s2', hnn, (lean e he).1, fun p H3 s3' hp => ?_⟩
      have hp : H3 p = some (.lst ((unmet ss e.2.nee).map V.str)) := hp
      have s3'' := s2'.trans s3'
      refine ⟨_, rfl, _, .inl ⟨_, SqL.of hp, rfl⟩, ?_⟩
      cases c2 : unmet ss e.2.nee with
      | cons x r =>
        rw [c2] at k hp
        exact iteT ⟨_, rfl, p, _, 0, _, rfl, rfl, SqL.of hp, at_zero, two_le, fun t5 n5 => k _ _ (s3''.trans (Same.upd_new n5)) (why_new (ws := ["needs", x]))⟩
      | nil =>
        rw [c2] at k
        exact iteF (k _ _ s3'' rfl)
theorem scNn : FnScope ["system", "other", "name", "need"] ["system", "other", "name"] (defScope sNn) := ⟨rfl, rfl, rfl, by decide +kernel, rfl, by decide +kernel, by decide +kernel⟩
theorem ok_nn {f : Addr} {fd : FuncData} (F : Fun K "needs_name" "needs_name" sNn f fd) (Y : SyF P w K mg base C CT CY CN CU) (dE : Def P w K mg base 4 "edition_of" ["system", "name"] (spEo K C CT CY)) : FnOk P w K mg base CX0 5 f fd ["system", "other", "name"] (spNn K C CT CY) := by
  refine F.ok scNn (fun vs H Q E h => ?_) (fun cdv A outer s H vs Q E hr h => ?_)
  · obtain ⟨a, st, ss, es, m, n, rfl, _⟩ := h
    rfl
  · obtain ⟨a, st, ss, es, m, n, rfl, hY, lean, hm, k⟩ := h
    have nd := scNn.nd
    have r2 : Room 2 _ := hr.mono (by decide)
    refine ⟨_, pss_cons (ps_if (pt_cmpR op_ne (pe_ix ix_tup (pe_yget Y r2 (pv 0) (pv 1)) pe_int (fun _ _ => rfl)) pe_str (nomark _)) (pss_one (ps_ret pe_bl)) pss_nil)
      (pss_one (ps_ret (pe_cmpR (op_in_seq : OpR _ _ (rIn K false)) (pv 2)
        (pe_lc (own := [("need", 3)]) (g := gName 3) (tt := tYes) (te := tOp (rIxT K) (tVar 3) (tC (.int 0))) rfl nd (pi_tup (pe_prp Y.p3 Y.clE r2 (pe_def dE hr rfl (pa_cons (pv 0) (pa_cons (pv 1) pa_nil))))) (blkOk_by (N := ["system", "other", "name", "need"]) (sc := defScope sNn) (by decide +kernel))
          (fun _ _ _ _ _ => pg_name (i := 3) nd rfl (Or.inl rfl)) (fun _ _ _ _ _ => pts_nil) (fun _ _ _ _ _ => pe_ix (ix_tup : IxR _ (rIxT K)) (pv 3) pe_int (fun _ _ => rfl))) (by rfl)))), ?_⟩
    obtain ⟨s3, hs⟩ := stOf_some hm
    unfold needsB at k
    rw [hs] at k
    dsimp only at k
    refine ⟨_, rfl, _, rfl, yget_read hY.sys hs fun t ht => ⟨t, _, 0, _, rfl, rfl, ht, rfl, rfl, _, rfl, ?_⟩⟩
    rw [dec_str]
    cases c : decide (s3.1 = "ready") with
    | false =>
      rw [c] at k
      exact iteT (k _ (Same.refl _))
    | true =>
      rw [c] at k
      simp only [if_true] at k
      refine iteF ?_
      have er : s3.1 = "ready" := of_decide_eq_true c
      refine ⟨_, rfl, _, rfl, _, rfl, a, st, ss, es, m, s3, rfl, hY, hs, by rw [er]; decide, fun e he ea H1 s1 => ?_⟩
      rw [ea] at k
      dsimp only at k
      refine prp3 ((hY.ed e he).same s1) fun nn hnn => ?_
      obtain ⟨ts, hS, htl, hts⟩ := id hnn
      have few := (lean e he).1
      refine ⟨nn, rfl, ⟨_, hS⟩, fun D hD => lc_it (walk_tup (xs := ts.map V.ref)) (MapP _ D (e.2.nee.map fun q => V.str q.1)) (MapP.zero hD) (fun _ _ _ p => p.1.sqT hS) ?_ ?_⟩
      · rintro i x H2 H3 hi p ⟨rfl, hx⟩
        obtain ⟨t1, ht1, rfl⟩ := getE hx
        have hip : i < e.2.nee.length := by rw [List.length_map] at hi; omega
        have hq : e.2.nee[i]? = some e.2.nee[i] := List.getElem?_eq_getElem hip
        refine ⟨rfl, _, rfl, t1, _, 0, _, rfl, rfl, p.1.sqT (hts i t1 _ ht1 hq), rfl, p.step hD ?_ (by rw [List.length_map]; omega) (Same.refl _)⟩
        rw [List.getElem?_map, hq]
        rfl
      · intro H2 p
        obtain ⟨s2, hl2⟩ := p.done (by rw [List.length_map, List.length_map, htl])
        have e2 : (e.2.nee.map fun q => V.str q.1) = (e.2.nee.map (·.1)).map V.str := by rw [List.map_map]; rfl
        rw [e2] at hl2
        refine ⟨D, _, rfl, .inl (SqL.of hl2), rfl, flat_strs _, ?_⟩
        rw [if_neg Bool.false_ne_true, inV_str]
        exact k _ (s1.trans s2)
theorem scRr : FnScope ["system", "name", "needing", "other"] ["system", "name"] (defScope sRr) := ⟨rfl, rfl, rfl, by decide +kernel, rfl, by decide +kernel, by decide +kernel⟩
theorem ok_rr {f : Addr} {fd : FuncData} (F : Fun K "remove_refusal" "remove_refusal" sRr f fd) (Y : SyF P w K mg base C CT CY CN CU) (dI : Def P w K mg base 3 "is_there" ["system", "name"] (spIth K C CT CY)) (dN : Def P w K mg base 5 "needs_name" ["system", "other", "name"] (spNn K C CT CY)) : FnOk P w K mg base CX0 6 f fd ["system", "name"] (spW K C CT CY removeW) := by
  refine F.ok scRr (fun vs H Q E h => ?_) (fun cdv A outer s H vs Q E hr h => ?_)
  · obtain ⟨a, st, ss, es, n, rfl, _⟩ := h
    rfl
  · obtain ⟨a, st, ss, es, n, rfl, hY, lean, hn, k⟩ := h
    have nd := scRr.nd
    have r2 : Room 2 _ := hr.mono (by decide)
    have r3 : Room 3 _ := hr.mono (by decide)
    refine ⟨_, pss_cons (ps_if (pt_not (pt_val (pe_def dI r3 rfl (pa_cons (pv 0) (pa_cons (pv 1) pa_nil))))) (pss_one (ps_ret (pe_tup (pa_cons pe_str pa_nil)))) pss_nil)
      (pss_cons (ps_setLc (i := 2) (own := [("other", 3)]) (g := gName 3) (tt := tTest (tCall (spNn K C CT CY) [] E0 (tCons (tVar 0) (tCons (tVar 3) (tCons (tVar 1) tNil))))) (te := tVar 3) rfl nd rfl rfl (sw_true rfl rfl rfl (by decide +kernel)) (pi_tup (pe_nam Y.nam r2 (pe_ysto Y r2 (pv 0)))) (blkOk_by (N := ["system", "name", "needing", "other"]) (sc := defScope sRr) (by decide +kernel))
          (fun _ _ _ _ _ => pg_name (i := 3) nd rfl (Or.inl rfl)) (fun _ _ _ _ _ => pts_one (pt_val (pe_def dN hr rfl (pa_cons (pv 0) (pa_cons (pv 3) (pa_cons (pv 1) pa_nil)))))) (fun _ _ _ _ _ => pv 3))
      (pss_one (ps_ret (pe_ifExp (pt_truth (pv 2) (fun _ => rfl)) (pe_tup (pa_cons pe_str (pa_cons (pe_ix ix_list (pv 2) pe_int (fun _ _ => rfl)) pa_nil))) pe_non)))), ?_⟩
    unfold removeW at k
    refine ⟨_, rfl, _, rfl, a, st, ss, es, n, rfl, hY, hn, _, rfl, ?_⟩
    cases c : thereB ss n with
    | false =>
      rw [c] at k
      exact iteT ⟨one_le, fun t3 n3 => k _ _ (Same.upd_new n3) (why_new (ws := ["status"]))⟩
    | true =>
      rw [c] at k
      simp only [if_true] at k
      refine iteF ?_
      refine ⟨_, rfl, ysto_read hY.sys (nam_read hY.sto fun ns q hns nq => ?_)⟩
      have hns : ns = ss.map (·.1) := hns.uniq hY.nm
      subst hns
      have fewn := fewN hY
      have s1 := Same.upd_new (o := .tup ((ss.map (·.1)).map V.str)) nq
      refine ⟨q, rfl, ⟨_, .inl (.inl upd_same)⟩, fun D hD => lc_it (walk_tup (xs := (ss.map (·.1)).map V.str)) (AccP _ D (filV (needsB (es.map (·.2)) ss n) V.str (ss.map (·.1)))) (AccP.zero hD rfl) (fun _ _ _ p => .inl (.inl (p.1 _ _ upd_same))) ?_ ?_⟩
      · rintro i x H1 H2 hi p ⟨rfl, hx⟩
        obtain ⟨m, hm, rfl⟩ := getE hx
        refine ⟨rfl, ?_⟩
        refine ⟨_, rfl, _, rfl, _, rfl, a, st, ss, es, m, n, rfl, hY.same (s1.trans p.1), lean, List.mem_of_getElem? hm, fun H3 s3 => ⟨_, rfl, ?_⟩⟩
        cases c2 : needsB (es.map (·.2)) ss n m with
        | true => exact iteT ⟨_, rfl, p.step hD (filV_yes hm c2) (Nat.le_trans (filV_len ..) (by omega)) s3⟩
        | false => exact iteF (p.skip (filV_no hm c2) s3)
      · intro H2 p
        have e2 : H2 D = some (.lst (((ss.map (·.1)).filter (needsB (es.map (·.2)) ss n)).map V.str)) := by
          have := p.2
          rw [List.length_map] at this
          rw [this]
          unfold filV
          rw [List.take_length]
        have s2 := s1.trans p.1
        refine ⟨_, rfl, _, .inl ⟨_, SqL.of e2, rfl⟩, ?_⟩
        cases c2 : (ss.map (·.1)).filter (needsB (es.map (·.2)) ss n) with
        | cons x r =>
          rw [c2] at k e2
          exact iteT ⟨_, rfl, D, _, 0, _, rfl, rfl, SqL.of e2, at_zero, two_le, fun t5 n5 => k _ _ (s2.trans (Same.upd_new n5)) (why_new (ws := ["needed", x]))⟩
        | nil =>
          rw [c2] at k
          exact iteF (k _ _ s2 rfl)
theorem scPr : FnScope ["system", "name"] ["system", "name"] (defScope sPr) := ⟨rfl, rfl, rfl, by decide +kernel, rfl, by decide +kernel, by decide +kernel⟩
theorem ok_pr {f : Addr} {fd : FuncData} (F : Fun K "purge_refusal" "purge_refusal" sPr f fd) (Y : SyF P w K mg base C CT CY CN CU) : FnOk P w K mg base CX0 6 f fd ["system", "name"] (spW K C CT CY fun _ => purgeW) := by
  refine F.ok scPr (fun vs H Q E h => ?_) (fun cdv A outer s H vs Q E hr h => ?_)
  · obtain ⟨a, st, ss, es, n, rfl, _⟩ := h
    rfl
  · obtain ⟨a, st, ss, es, n, rfl, hY, lean, hn, k⟩ := h
    have r2 : Room 2 _ := hr.mono (by decide)
    refine ⟨_, pss_one (ps_ret (pe_ifExp (pt_cmpR op_eq (pe_ix ix_tup (pe_yget Y r2 (pv 0) (pv 1)) pe_int (fun _ _ => rfl)) pe_str (nomark _)) pe_non (pe_tup (pa_cons pe_str pa_nil)))), ?_⟩
    obtain ⟨s3, hs⟩ := stOf_some hn
    have k : ∀ v H', Same H H' → WhyV K H' v (purgeW ss n) → Q v H' := k
    unfold purgeW at k
    rw [hs] at k
    dsimp only at k
    refine ⟨_, rfl, _, rfl, yget_read hY.sys hs fun t ht => ⟨t, _, 0, _, rfl, rfl, ht, rfl, rfl, _, rfl, ?_⟩⟩
    rw [dec_str]
    cases c : decide (s3.1 = "left") with
    | true =>
      rw [c] at k
      exact iteT (k _ _ (Same.refl _) rfl)
    | false =>
      rw [c] at k
      exact iteF ⟨one_le, fun t3 n3 => k _ _ (Same.upd_new n3) (why_new (ws := ["status"]))⟩
/-- the three that REFUSALS holds -/
structure RefT (P : Program) (w : World) (K : PySem.W.Frag) (mg : Str → Option Value) (base : Heap) (C CT CY : Addr) : Prop where
  ex : ∃ (d f1 f2 f3 : Addr) (fd1 fd2 fd3 : FuncData), mg "REFUSALS" = some (.ref d) ∧ KDct K w d "setup" (.ref f1) ∧ KDct K w d "remove" (.ref f2) ∧ KDct K w d "purge" (.ref f3) ∧
    FnOk P w K mg base CX0 6 f1 fd1 ["system", "name"] (spW K C CT CY setupW) ∧ PySem.W.keepIn K (.ref f1) = true ∧ Binds K fd1 ["system", "name"] [] ∧
    FnOk P w K mg base CX0 6 f2 fd2 ["system", "name"] (spW K C CT CY removeW) ∧ PySem.W.keepIn K (.ref f2) = true ∧ Binds K fd2 ["system", "name"] [] ∧
    FnOk P w K mg base CX0 6 f3 fd3 ["system", "name"] (spW K C CT CY fun _ => purgeW) ∧ PySem.W.keepIn K (.ref f3) = true ∧ Binds K fd3 ["system", "name"] []
theorem scRef : FnScope ["system", "deed", "answer"] ["system", "deed"] (defScope sRef) := ⟨rfl, rfl, rfl, by decide +kernel, rfl, by decide +kernel, by decide +kernel⟩
theorem Deed.at0 {d : Deed} : atI d.vs 0 = some (.str d.word) := by
  unfold Deed.vs
  split <;> exact at_zero
theorem Deed.at1 {d : Deed} : atI d.vs 1 = some (.str d.name) := by
  unfold Deed.vs
  split <;> exact atI_nat (j := 1) rfl
theorem Deed.at2 {d : Deed} (h : d.isU = true) : atI d.vs 2 = some (.int d.ver) := by
  unfold Deed.vs
  rw [if_pos h]
  exact atI_nat (j := 2) rfl
theorem ok_ref {f : Addr} {fd : FuncData} (F : Fun K "refusal" "refusal" sRef f fd) (Y : SyF P w K mg base C CT CY CN CU) (R : RefT P w K mg base C CT CY) (dU : Def P w K mg base 6 "unpack_refusal" ["system", "name", "version"] (spUr K C CT CY)) : FnOk P w K mg base CX0 7 f fd ["system", "deed"] (spRef K C CT CY) := by
  refine F.ok scRef (fun vs H Q E h => ?_) (fun cdv A outer s H vs Q E hr h => ?_)
  · obtain ⟨a, st, t, ss, es, d, rfl, _⟩ := h
    rfl
  · obtain ⟨a, st, t, ss, es, d, rfl, hY, lean, ht, hw, k⟩ := h
    obtain ⟨dd, f1, f2, f3, fd1, fd2, fd3, gD, k1, k2, k3, F1, kp1, b1, F2, kp2, b2, F3, kp3, b3⟩ := R.ex
    have nd := scRef.nd
    have r2 : Room 2 _ := hr.mono (by decide)
    have r6 : Room 6 _ := hr
    obtain ⟨fx, fdx, wx, Fx, kpx, bx, kx, ex⟩ : ∃ (fx : Addr) (fdx : FuncData) (wx : List Edn → List (Str × St3) → Str → Why), FnOk P w K mg base CX0 6 fx fdx ["system", "name"] (spW K C CT CY wx) ∧ PySem.W.keepIn K (.ref fx) = true ∧ Binds K fdx ["system", "name"] [] ∧
        (d.isU = false → KDct K w dd d.word (.ref fx)) ∧ (d.isU = false → ∀ es' ss', (if d.word = "setup" then setupW es' ss' d.name else if d.word = "remove" then removeW es' ss' d.name else purgeW ss' d.name) = wx es' ss' d.name) := by
      have hw := hw
      unfold DWS at hw
      simp only [List.mem_cons, List.not_mem_nil, or_false] at hw
      rcases hw with e | e | e | e
      · exact ⟨f1, fd1, _, F1, kp1, b1, fun _ => by rw [e]; exact k1, fun _ _ _ => by rw [e]; rfl⟩
      · exact ⟨f2, fd2, _, F2, kp2, b2, fun _ => by rw [e]; exact k2, fun _ _ _ => by rw [e]; rfl⟩
      · exact ⟨f3, fd3, _, F3, kp3, b3, fun _ => by rw [e]; exact k3, fun _ _ _ => by rw [e]; rfl⟩
      · exact ⟨f3, fd3, _, F3, kp3, b3, fun z => absurd (decide_eq_true e) (by rw [show decide (d.word = "unpack") = d.isU from rfl, z]; decide), fun z => absurd (decide_eq_true e) (by rw [show decide (d.word = "unpack") = d.isU from rfl, z]; decide)⟩
    refine ⟨_, pss_cons (ps_if (pt_cmpR op_eq (pe_ix ix_tup (pv 1) pe_int (fun _ _ => rfl)) pe_str (nomark _)) (pss_one (ps_ret (pe_def dU r6 rfl (pa_cons (pv 0) (pa_cons (pe_ix ix_tup (pv 1) pe_int (fun _ _ => rfl)) (pa_cons (pe_ix ix_tup (pv 1) pe_int (fun _ _ => rfl)) pa_nil)))))) pss_nil)
      (pss_cons (ps_if (pt_cmpR (op_notIn_seq : OpR _ _ (rIn K true)) (pe_ix ix_tup (pv 1) pe_int (fun _ _ => rfl)) (pe_nam Y.nam r2 (pe_ysto Y r2 (pv 0))) (by rfl)) (pss_one (ps_ret (pe_tup (pa_cons pe_str pa_nil)))) pss_nil)
      (pss_cons (ps_set (i := 2) nd rfl (Or.inl rfl) (pe_ix ix_kdict (pe_glob (v := .ref dd) rfl gD rfl) (pe_ix ix_tup (pv 1) pe_int (fun _ _ => rfl)) (fun _ _ => rfl)))
      (pss_one (ps_ret (pe_callL (i := 2) Fx r6 rfl (Or.inl rfl) kpx bx .nil pass0 (pa_cons (pv 0) (pa_cons (pe_ix ix_tup (pv 1) pe_int (fun _ _ => rfl)) pa_nil))))))), ?_⟩
    unfold refuseW at k
    refine ⟨_, rfl, t, _, 0, _, rfl, rfl, ht, Deed.at0, rfl, _, rfl, ?_⟩
    rw [dec_str]
    cases c : d.isU with
    | true =>
      rw [c] at k
      refine ite_yes c ?_
      exact ⟨_, rfl, _, rfl, t, _, 1, _, rfl, rfl, ht, Deed.at1, _, rfl, t, _, 2, _, rfl, rfl, ht, Deed.at2 c, a, st, ss, es, d.name, d.ver, rfl, hY, lean, k⟩
    | false =>
      rw [c] at k
      simp only [Bool.false_eq_true, if_false] at k
      refine ite_no c ?_
      refine ⟨_, rfl, t, _, 1, _, rfl, rfl, ht, Deed.at1, _, rfl, ysto_read hY.sys (nam_read hY.sto fun ns q hns nq => ?_)⟩
      have hns : ns = ss.map (·.1) := hns.uniq hY.nm
      subst hns
      have s1 := Same.upd_new (o := .tup ((ss.map (·.1)).map V.str)) nq
      refine ⟨q, _, rfl, .inr (.inl (.inl upd_same)), rfl, flat_strs _, _, rfl, ?_⟩
      rw [if_pos rfl, inV_str]
      cases c2 : has (ss.map (·.1)) d.name with
      | false =>
        rw [c2] at k
        exact iteT ⟨one_le, fun t3 n3 => k _ _ (s1.trans (Same.upd_new n3)) (why_new (ws := ["unknown"]))⟩
      | true =>
        rw [c2] at k
        simp only [if_true] at k
        rw [ex c] at k
        refine iteF ?_
        have ht1 := s1.sqT ht
        refine ⟨_, rfl, t, _, 0, _, rfl, rfl, ht1, Deed.at0, dd, d.word, .ref fx, rfl, rfl, kx c, ?_⟩
        exact ⟨rfl, _, rfl, _, rfl, t, _, 1, _, rfl, rfl, ht1, Deed.at1, a, st, ss, es, d.name, rfl, hY.same s1, lean, has_iff.mp c2, fun v H' s' w' => k v H' (s1.trans s') w'⟩
end
end Half

namespace L2
open PySem PySem.Spec PyProof.Rows
/-- x in (), whatever x is -/
def rInE (K : PySem.W.Frag) : R2 := fun _ y H Q => ∃ p, y = .ref p ∧ SqT K H p [] ∧ Q (.bl false) H
theorem op_inE {X : Cx} : OpR X (compareOp .In) (rInE X.K) := by
  rintro pins s σ H x y v u Q I rx ry ⟨p, rfl, hp, q⟩
  cases ry
  obtain ⟨us, rel, isT, -⟩ := I.tuple hp
  cases rel
  refine SeqAt.in_tupleAt (fun _ => false) isT (fun _ h => nomatch (by simpa using h : False)) ⟨.bl false, H, I, ?_, q⟩
  rw [show (([] : List Value).toArray.any fun _ => false) = false by simp]
  rfl
end L2

namespace Half
open PySem PySem.Spec PyProof.Rows L2
/-! ### calls of scripts, and who makes them -/
abbrev sCa (i : Nat) : Stmt := inClass (top 43) i
structure CallM where
  nm : Str
  ve : Int
  sc : Str
  re : Str
  ot : Int
  fa : Bool
def CallAt (K : PySem.W.Frag) (H : Hp) (p : Addr) (c : CallM) : Prop := ∃ t, SqT K H p [.ref t, .bl c.fa] ∧ SqT K H t [.str c.nm, .int c.ve, .str c.sc, .str c.re, .int c.ot]
inductive Calls (K : PySem.W.Frag) (H : Hp) : List Addr → List CallM → Prop
  | nil : Calls K H [] []
  | cons {p : Addr} {c : CallM} {ps : List Addr} {cs : List CallM} : CallAt K H p c → Calls K H ps cs → Calls K H (p :: ps) (c :: cs)
theorem Calls.kp {K : PySem.W.Frag} {H H' : Hp} (k : Kp K H H') {ps : List Addr} {cs : List CallM} (h : Calls K H ps cs) : Calls K H' ps cs := by
  induction h with
  | nil => exact .nil
  | cons a _ ih =>
    obtain ⟨t, h1, h2⟩ := a
    exact .cons ⟨t, k _ _ h1, k _ _ h2⟩ ih
theorem Calls.snoc {K : PySem.W.Frag} {H : Hp} {p : Addr} {c : CallM} {ps : List Addr} {cs : List CallM} (h : Calls K H ps cs) (a : CallAt K H p c) : Calls K H (ps ++ [p]) (cs ++ [c]) := by
  induction h with
  | nil => exact .cons a .nil
  | cons b _ ih => exact .cons b ih
theorem Calls.len {K : PySem.W.Frag} {H : Hp} {ps : List Addr} {cs : List CallM} (h : Calls K H ps cs) : ps.length = cs.length := by
  induction h with
  | nil => rfl
  | cons _ _ ih => rw [List.length_cons, List.length_cons, ih]
/-- all but the list at m is as it was -/
structure But (m : Addr) (H H' : Hp) : Prop where
  l : ∃ xs, H m = some (.lst xs)
  sb : SameBut m H H'
section
variable {K : PySem.W.Frag} {C CT CY CC : Addr} {m : Addr} {H H' H'' : Hp}
theorem But.at {b : Addr} {o : HO} (B : But m H H') (h : H b = some o) (n : ∀ xs, o ≠ .lst xs) : H' b = some o := by
  obtain ⟨xs, hm⟩ := B.l
  exact B.sb b o (ne_of h hm (n xs)) h
theorem But.kp (B : But m H H') : Kp K H H' := fun a xs h => by
  rcases h with (h | ⟨o, h⟩) | h
  · exact .inl (.inl (B.at h fun _ z => by cases z))
  · exact .inl (.inr ⟨o, B.at h fun _ z => by cases z⟩)
  · exact .inr h
theorem SameBut.trans (a : SameBut m H H') (b : SameBut m H' H'') : SameBut m H H'' := fun c o n h => b c o n (a c o n h)
theorem SameBut.of (s : Same H H') : SameBut m H H' := fun b o _ h => s b o h
theorem EdX.but {a : Addr} {e : Edn} (B : But m H H') (h : EdX K H C a e) : EdX K H' C a e := by
  obtain ⟨s, n, f, g, ⟨dx, p, h1, h2⟩, h3⟩ := h
  exact ⟨s, n, f, g, ⟨dx, p, B.at h1 (fun _ z => by cases z), B.at h2 (fun _ z => by cases z)⟩, h3.kp B.kp⟩
/-- the caller at c, its list of calls at m: the calls fl fail, cs were made -/
structure Cal (K : PySem.W.Frag) (CC : Addr) (H : Hp) (c m : Addr) (fl : List Int) (cs : List CallM) : Prop where
  ob : ∃ dx fa fy, H c = some (.ins CC dx [("failing", .ref fa), ("faulty", .ref fy), ("made", .ref m)]) ∧ SqT K H fa (fl.map V.int) ∧ SqT K H fy []
  made : ∃ ps, H m = some (.lst (ps.map V.ref)) ∧ Calls K H ps cs
theorem Cal.l {c : Addr} {fl : List Int} {cs : List CallM} (h : Cal K CC H c m fl cs) : ∃ xs, H m = some (.lst xs) := let ⟨_, a, _⟩ := h.made; ⟨_, a⟩
theorem Cal.but {c : Addr} {fl : List Int} {cs : List CallM} (h : Cal K CC H c m fl cs) (s : SameBut m H H') : But m H H' := ⟨h.l, s⟩
theorem Cal.same {c : Addr} {fl : List Int} {cs : List CallM} (s : Same H H') (h : Cal K CC H c m fl cs) : Cal K CC H' c m fl cs := by
  obtain ⟨dx, fa, fy, h1, h2, h3⟩ := h.ob
  obtain ⟨ps, p1, p2⟩ := h.made
  exact ⟨⟨dx, fa, fy, s _ _ h1, s.sqT h2, s.sqT h3⟩, ps, s _ _ p1, p2.kp s.kp⟩
end
theorem set_read {te : TE} {i : Nat} {D : Ends} {σ : L2.St} {H : Hp} (h : te σ H fun x H1 => D.nx (σ.set i (some x)) H1) : tAsg te (gName i) D σ H := h
theorem orV_ext {ta tb : TE} {σ : L2.St} {H : Hp} {Q : VK} {b c : Bool} (h1 : ∀ Q' : VK, Q' (.bl b) H → ta σ H Q') (h2 : ∀ Q' : VK, (∀ H1, Same H H1 → Q' (.bl c) H1) → tb σ H Q') (q : ∀ H1, Same H H1 → Q (.bl (b || c)) H1) : tOrV ta tb σ H Q := by
  refine h1 _ ⟨b, rfl, ?_⟩
  cases b
  · exact iteF (h2 _ q)
  · exact iteT (q H (Same.refl _))
def failR (fl : List Int) (e : Edn) (sc : Str) (cs : List CallM) : Bool := has e.scr sc && has fl (cs.length : Int)
def failC (fl : List Int) (e : Edn) (sc re : Str) (ot : Int) (cs : List CallM) : List CallM := if has e.scr sc = true then cs ++ [⟨e.name, e.ver, sc, re, ot, has fl (cs.length : Int)⟩] else cs
theorem failC_len (fl : List Int) (e : Edn) (sc re : Str) (ot : Int) (cs : List CallM) : (failC fl e sc re ot cs).length ≤ cs.length + 1 := by
  unfold failC
  split
  · rw [List.length_append]; exact Nat.le_refl _
  · exact Nat.le_succ _
theorem inV_int (x : Int) : ∀ ys : List Int, inV (.int x) (ys.map V.int) = has ys x
  | [] => rfl
  | y :: ys => by
    have ih := inV_int x ys
    unfold inV at ih ⊢
    unfold has at ih ⊢
    rw [List.map_cons, List.any_cons, List.any_cons, ih]
    congr 1
theorem flat_ints (ys : List Int) : (ys.map V.int).all flatV = true := by
  rw [List.all_map]
  exact List.all_eq_true.mpr fun _ _ => rfl
def spFails (K : PySem.W.Frag) (C CC : Addr) : Sp := fun vs H Q _ => ∃ (c m b : Addr) (fl : List Int) (cs : List CallM) (e : Edn) (sc re : Str) (ot : Int), vs = [.ref c, .ref b, .str sc, .str re, .int ot] ∧ Cal K CC H c m fl cs ∧ cs.length ≤ 90 ∧ EdX K H C b e ∧
  ∀ H', SameBut m H H' → Cal K CC H' c m fl (failC fl e sc re ot cs) → Q (.bl (failR fl e sc cs)) H'
def spCi (K : PySem.W.Frag) (CC : Addr) : Sp := fun vs H Q _ => ∃ (x dx fa fy : Addr) (fl : List Int), vs = [.ref x, .ref fa, .ref fy] ∧ H x = some (.ins CC dx []) ∧ SqT K H fa (fl.map V.int) ∧ SqT K H fy [] ∧
  ∀ m H', SameBut x H H' → Cal K CC H' x m fl [] → H m = none → Q .non H'
structure TxtC2 (P : Program) (w : World) (K : PySem.W.Frag) (mg : Str → Option Value) (base : Heap) (C CC : Addr) : Prop where
  cl : Cls K CC
  n1 : NoAttr K CC "failing"
  n2 : NoAttr K CC "faulty"
  n3 : NoAttr K CC "made"
  clE : Cls K C
  p0 : Prp P w K mg base C "name" 0
  p1 : Prp P w K mg base C "version" 1
  p2 : Prp P w K mg base C "scripts" 2
  len : mg "len" = none
section
variable {P : Program} {w : World} {K : PySem.W.Frag} {mg : Str → Option Value} {base : Heap} {C CC : Addr}
theorem scCi : FnScope ["self", "failing", "faulty"] ["self", "failing", "faulty"] (defScope (sCa 0)) := ⟨rfl, rfl, rfl, by decide +kernel, rfl, by decide +kernel, by decide +kernel⟩
theorem ok_ci {f : Addr} {fd : FuncData} (F : Fun K "__init__" "Caller.__init__" (sCa 0) f fd) (T : TxtC2 P w K mg base C CC) : FnOk P w K mg base CX0 1 f fd ["self", "failing", "faulty"] (spCi K CC) := by
  refine F.ok scCi (fun vs H Q E h => ?_) (fun cdv A outer s H vs Q E hr h => ?_)
  · obtain ⟨x, dx, fa, fy, fl, rfl, _⟩ := h
    rfl
  · obtain ⟨x, dx, fa, fy, fl, rfl, hx, h1, h2, k⟩ := h
    refine ⟨_, pss_cons (ps_fld (pv 0) (pv 1) rfl) (pss_cons (ps_fld (pv 0) (pv 2) rfl) (pss_one (ps_fld (pv 0) (pe_lst pa_nil) rfl))), ?_⟩
    refine ⟨_, rfl, _, rfl, x, CC, dx, [], rfl, hx, T.cl, T.n1, (by show 0 < 1000; decide), ?_⟩
    refine ⟨_, rfl, _, rfl, x, CC, dx, _, rfl, upd_same, T.cl, T.n2, (by show 1 < 1000; decide), ?_⟩
    refine ⟨Nat.zero_le _, fun l nl => ?_⟩
    generalize h2' : upd (upd H x (.ins CC dx (putF "failing" (.ref fa) []))) x (.ins CC dx (putF "faulty" (.ref fy) (putF "failing" (.ref fa) []))) = H2 at nl
    have gx : H2 x = some (.ins CC dx [("failing", .ref fa), ("faulty", .ref fy)]) := by rw [← h2']; exact upd_same
    have lx : x ≠ l := ne_of_none gx nl
    have far : ∀ b, b ≠ x → H2 b = H b := fun b hb => by rw [← h2', upd_ne hb, upd_ne hb]
    have k2 : Kp K H H2 := by
      rw [← h2']
      exact (Kp.upd hx (fun _ z => by cases z) (fun _ _ z => by cases z)).trans (Kp.upd upd_same (fun _ z => by cases z) (fun _ _ z => by cases z))
    refine ⟨_, rfl, x, CC, dx, _, rfl, (by rw [upd_ne lx]; exact gx), T.cl, T.n3, (by show 2 < 1000; decide), ?_⟩
    have k4 : Kp K H (upd (upd H2 l (.lst [])) x (.ins CC dx [("failing", .ref fa), ("faulty", .ref fy), ("made", .ref l)])) :=
      (k2.trans (Same.upd_new nl).kp).trans (Kp.upd (by rw [upd_ne lx]; exact gx) (fun _ z => by cases z) (fun _ _ z => by cases z))
    refine k l _ (fun b o hb q => ?_) ⟨⟨dx, fa, fy, upd_same, k4 _ _ h1, k4 _ _ h2⟩, [], ?_, .nil⟩ ?_
    · have q2 : H2 b = some o := (far b hb).trans q
      rw [upd_ne hb, upd_ne (ne_of_none q2 nl)]
      exact q2
    · rw [upd_ne (Ne.symm lx), upd_same]
      rfl
    · rw [← far l (Ne.symm lx)]
      exact nl
theorem scFails : FnScope ["self", "edition", "script", "reason", "other", "failed"] ["self", "edition", "script", "reason", "other"] (defScope (sCa 1)) := ⟨rfl, rfl, rfl, by decide +kernel, rfl, by decide +kernel, by decide +kernel⟩
theorem ok_fails {f : Addr} {fd : FuncData} (F : Fun K "fails" "Caller.fails" (sCa 1) f fd) (T : TxtC2 P w K mg base C CC) : FnOk P w K mg base CX0 3 f fd ["self", "edition", "script", "reason", "other"] (spFails K C CC) := by
  refine F.ok scFails (fun vs H Q E h => ?_) (fun cdv A outer s H vs Q E hr h => ?_)
  · obtain ⟨c, m, b, fl, cs, e, sc, re, ot, rfl, _⟩ := h
    rfl
  · obtain ⟨c, m, b, fl, cs, e, sc, re, ot, rfl, hC, few, hE, k⟩ := h
    have nd := scFails.nd
    have r2 : Room 2 _ := hr.mono (by decide)
    refine ⟨_, pss_cons (ps_if (pt_cmpR (op_notIn_seq : OpR _ _ (rIn K true)) (pv 2) (pe_prp T.p2 T.clE r2 (pv 1)) (by rfl)) (pss_one (ps_ret pe_bl)) pss_nil)
      (pss_cons (ps_set (i := 5) nd rfl (Or.inl rfl) (pe_or (pe_cmpR (op_in_seq : OpR _ _ (rIn K false)) (pe_callB call_len_seq (by rfl) T.len PySem.boot_len (pa_cons (pe_fld (pv 0) rfl) pa_nil)) (pe_fld (pv 0) rfl) (by rfl))
        (pe_one (pe_cmpR (op_inE : OpR _ _ (rInE K)) (pe_tup (pa_cons (pe_prp T.p0 T.clE r2 (pv 1)) (pa_cons (pe_prp T.p1 T.clE r2 (pv 1)) (pa_cons (pv 2) pa_nil)))) (pe_fld (pv 0) rfl) (by rfl)))))
      (pss_cons (ps_expr (pe_bm PySem.F.plainAttrs_list PySem.F.slot_list_append PySem.F.type_list_append mt_append (pe_fld (pv 0) rfl) (pa_cons (pe_tup (pa_cons (pe_tup (pa_cons (pe_prp T.p0 T.clE r2 (pv 1)) (pa_cons (pe_prp T.p1 T.clE r2 (pv 1)) (pa_cons (pv 2) (pa_cons (pv 3) (pa_cons (pv 4) pa_nil)))))) (pa_cons (pv 5) pa_nil))) pa_nil)))
      (pss_one (ps_ret (pv 5))))), ?_⟩
    refine ⟨_, rfl, _, rfl, prp2 hE fun n hn => ⟨n, _, rfl, .inr hn, rfl, flat_strs _, _, rfl, ?_⟩⟩
    rw [if_pos rfl, inV_str]
    unfold failC failR at k
    cases c0 : has e.scr sc with
    | false =>
      rw [c0] at k
      exact iteT (k H (SameBut.of (Same.refl _)) hC)
    | true =>
      rw [c0] at k
      simp only [if_true, Bool.true_and] at k
      refine iteF ?_
      obtain ⟨dx, fa, fy, hc, hfa, hfy⟩ := hC.ob
      obtain ⟨ps, hm, hps⟩ := hC.made
      refine next_read ?_
      dsimp only
      refine seq_read (set_read (orV_ext (b := has fl (cs.length : Int)) (c := false) (fun Q' q' => ?_) (fun Q' q' => ?_) fun H1 s1 => ?_))
      · refine ⟨_, rfl, c, CC, dx, _, _, rfl, hc, T.cl, T.n3, rfl, m, _, rfl, .inl (SqL.of hm), ?_⟩
        refine ⟨_, rfl, c, CC, dx, _, _, rfl, hc, T.cl, T.n1, rfl, fa, _, rfl, .inr hfa, rfl, flat_ints _, ?_⟩
        rw [if_neg Bool.false_ne_true, inV_int, List.length_map, hps.len]
        exact q'
      · refine ⟨_, rfl, prp0 hE ⟨_, rfl, prp1 hE ⟨_, rfl, thr_le, fun t nt => ?_⟩⟩⟩
        have st := Same.upd_new (o := .tup [.str e.name, .int e.ver, .str sc]) nt
        exact ⟨_, rfl, c, CC, dx, _, _, rfl, st _ _ hc, T.cl, T.n2, rfl, fy, rfl, st.sqT hfy, q' _ st⟩
      · have hE1 := hE.same s1
        rw [Bool.or_false]
        refine ⟨_, rfl, c, CC, dx, _, _, rfl, s1 _ _ hc, T.cl, T.n3, rfl, .inl ⟨rfl, _, SqL.of (s1 _ _ hm)⟩, ?_⟩
        refine ⟨_, rfl, prp0 hE1 ⟨_, rfl, prp1 hE1 ⟨_, rfl, _, rfl, _, rfl, (by decide : 5 ≤ sizeLine), fun t nt => ⟨_, rfl, two_le, fun p np => ?_⟩⟩⟩⟩
        have s2 := Same.upd_new (o := .tup [.str e.name, .int e.ver, .str sc, .str re, .int ot]) nt
        have s3 := s2.trans (Same.upd_new (o := .tup [.ref t, .bl (has fl (cs.length : Int))]) np)
        have s3' := s1.trans s3
        have gt : upd (upd H1 t (.tup [.str e.name, .int e.ver, .str sc, .str re, .int ot])) p (.tup [.ref t, .bl (has fl (cs.length : Int))]) t = some (.tup [.str e.name, .int e.ver, .str sc, .str re, .int ot]) := by
          rw [upd_ne (ne_of_none upd_same np), upd_same]
        have gp : upd (upd H1 t (.tup [.str e.name, .int e.ver, .str sc, .str re, .int ot])) p (.tup [.ref t, .bl (has fl (cs.length : Int))]) p = some (.tup [.ref t, .bl (has fl (cs.length : Int))]) := upd_same
        generalize upd (upd H1 t (.tup [.str e.name, .int e.ver, .str sc, .str re, .int ot])) p (.tup [.ref t, .bl (has fl (cs.length : Int))]) = H3 at s3 s3' gt gp
        have hm3 := s3' _ _ hm
        refine ⟨m, _, _, rfl, rfl, hm3, ?_, ?_⟩
        · rw [List.length_map, hps.len, sizeLine_eq]
          omega
        · have kk : Kp K H3 (upd H3 m (.lst (ps.map V.ref ++ [.ref p]))) := Kp.upd hm3 (fun _ z => by cases z) (fun _ _ z => by cases z)
          have far : ∀ b o, b ≠ m → H b = some o → upd H3 m (.lst (ps.map V.ref ++ [.ref p])) b = some o := fun b o hb q => by
            rw [upd_ne hb]
            exact s3' _ _ q
          refine ⟨_, rfl, k _ far ⟨⟨dx, fa, fy, ?_, (s3'.kp.trans kk) _ _ hfa, (s3'.kp.trans kk) _ _ hfy⟩, ps ++ [p], ?_, ?_⟩⟩
          · exact far _ _ (ne_of hc hm (by intro z; cases z)) hc
          · rw [upd_same, List.map_append]
            rfl
          · exact (hps.kp (s3'.kp.trans kk)).snoc ⟨t, kk _ _ (SqT.of gp), kk _ _ (SqT.of gt)⟩
end
end Half

namespace Half
open PySem PySem.Spec PyProof.Rows L2
/-! ### what the deeds do to a state, and the calls they make -/
abbrev Cs : Type := List CallM
def tell (fl : List Int) (e : Edn) (sc re : Str) (ot : Int) (cs : Cs) : Bool × Cs := (failR fl e sc cs, failC fl e sc re ot cs)
def SETU : List Str := ["failed", "ready"]
def inst (fl : List Int) (n : Edn) (s : St3) (cs : Cs) : St3 × Cs := match tell fl n "enter" "install" s.2.1 cs with
  | (false, c1) => (("unpacked", n.ver, s.2.2), c1)
  | (true, c1) => match tell fl n "clean" "abort-install" s.2.1 c1 with
    | (false, c2) => (s, c2)
    | (true, c2) => (("half", n.ver, s.2.2), c2)
def both (fl : List Int) (sc : Str) (o n : Edn) (cs : Cs) : Bool × Cs := match tell fl o sc "upgrade" n.ver cs with
  | (true, c1) => tell fl n sc "failed-upgrade" o.ver c1
  | (false, c1) => (false, c1)
def putB (fl : List Int) (o n : Edn) (s : St3) (cs : Cs) : St3 × Cs := match tell fl n "clean" "abort-upgrade" o.ver cs with
  | (true, c1) => (("half", o.ver, s.2.2), c1)
  | (false, c1) => if has SETU s.1 = true then (match tell fl o "setup" "abort-upgrade" n.ver c1 with
    | (true, c2) => (("unpacked", o.ver, s.2.2), c2)
    | (false, c2) => (s, c2)) else (s, c1)
def upg2 (fl : List Int) (o n : Edn) (s : St3) (cs : Cs) : St3 × Cs := match tell fl n "enter" "upgrade" o.ver cs with
  | (true, c1) => putB fl o n s c1
  | (false, c1) => match both fl "clean" o n c1 with
    | (false, c2) => (("unpacked", n.ver, s.2.2), c2)
    | (true, c2) => match tell fl o "enter" "abort-upgrade" n.ver c2 with
      | (true, c3) => (("half", o.ver, s.2.2), c3)
      | (false, c3) => putB fl o n s c3
def upg (fl : List Int) (o n : Edn) (s : St3) (cs : Cs) : St3 × Cs := if has SETU s.1 = true then (match both fl "leave" o n cs with
    | (true, c1) => (match tell fl o "setup" "abort-upgrade" n.ver c1 with
      | (true, c2) => (("failed", o.ver, s.2.2), c2)
      | (false, c2) => (s, c2))
    | (false, c1) => upg2 fl o n s c1) else upg2 fl o n s cs
def setUp (fl : List Int) (o : Edn) (s : St3) (cs : Cs) : St3 × Cs := match tell fl o "setup" "configure" s.2.2 cs with
  | (true, c1) => (("failed", s.2.1, s.2.2), c1)
  | (false, c1) => (("ready", s.2.1, s.2.1), c1)
def tout2 (fl : List Int) (o : Edn) (s : St3) (cs : Cs) : St3 × Cs := match tell fl o "clean" "remove" 0 cs with
  | (true, c1) => (("half", s.2.1, s.2.2), c1)
  | (false, c1) => (("left", s.2.1, s.2.2), c1)
def tout (fl : List Int) (o : Edn) (s : St3) (cs : Cs) : St3 × Cs := if has SETU s.1 = true then (match tell fl o "leave" "remove" 0 cs with
    | (true, c1) => (match tell fl o "setup" "abort-remove" 0 c1 with
      | (true, c2) => (("failed", s.2.1, s.2.2), c2)
      | (false, c2) => (s, c2))
    | (false, c1) => tout2 fl o s c1) else tout2 fl o s cs
def purg (fl : List Int) (o : Edn) (s : St3) (cs : Cs) : St3 × Cs := match tell fl o "clean" "purge" 0 cs with
  | (true, c1) => (s, c1)
  | (false, c1) => (AB, c1)
/-- what is asked behind such a def -/
def Post (K : PySem.W.Frag) (CC : Addr) (H : Hp) (c m : Addr) (fl : List Int) (r : St3 × Cs) (Q : VK) : Prop := ∀ H' t, SameBut m H H' → Cal K CC H' c m fl r.2 → SqT K H' t (stV r.1) → Q (.ref t) H'
section
variable {K : PySem.W.Frag} {CC : Addr} {H H1 : Hp} {c m t : Addr} {fl : List Int} {s : St3} {cs : Cs} {Q : VK} {r : St3 × Cs}
theorem Post.new (k : Post K CC H c m fl (s, cs) Q) (sb : SameBut m H H1) (C1 : Cal K CC H1 c m fl cs) (nt : H1 t = none) : Q (.ref t) (upd H1 t (.tup (stV s))) := k _ _ (sb.trans (SameBut.of (Same.upd_new nt))) (C1.same (Same.upd_new nt)) (SqT.of upd_same)
theorem Post.but (k : Post K CC H c m fl r Q) (sb : SameBut m H H1) : Post K CC H1 c m fl r Q := fun H' t s' c' h => k H' t (sb.trans s') c' h
theorem Cal.ins (h : Cal K CC H c m fl cs) : ∃ dx fs, H c = some (.ins CC dx fs) ∧ fs.lookup ("fails" : Str) = none := by
  obtain ⟨dx, fa, fy, h1, _⟩ := h.ob
  exact ⟨dx, _, h1, rfl⟩
end
structure FailF (P : Program) (w : World) (K : PySem.W.Frag) (mg : Str → Option Value) (base : Heap) (C CC : Addr) : Prop where
  cl : Cls K CC
  ex : ∃ f fd, Meth K CC "fails" f ∧ FnOk P w K mg base CX0 3 f fd ["self", "edition", "script", "reason", "other"] (spFails K C CC) ∧ Binds K fd ["self", "edition", "script", "reason", "other"] []
  clE : Cls K C
  p1 : Prp P w K mg base C "version" 1
  su : ∃ a, mg "SET_UP" = some (.ref a) ∧ ∀ H, SqT K H a (SETU.map V.str)
  abs : ∃ a, mg "ABSENT" = some (.ref a) ∧ ∀ H, SqT K H a (stV AB)
theorem pe_fails {X : Cx} {C CC : Addr} {o e : Expr} {es : List Expr} {to : TE} {t : TA} {apos pos : Pos} {pl : Sem Bool} (D : FailF X.prog X.w X.K X.mg X.base C CC) (hr : Room 3 X.A) (ho : PE X o to) (ha : PA X (e :: es) t)
    (hst : starEach (e :: es) X.env = (false, eval e X.env) :: starEach es X.env := by rfl) (hpl : (backTo pos (starEach es X.env)).any (·.1) = false := by rfl)
    (ht : eval (.Call (.Attribute o "fails" apos) (e :: es) [] pos) X.env = (do
      let ov ← eval o X.env
      standAt apos.atName
      let (f, first) ← holding [ov] (getMethod ov "fails" pl)
      callWith pos f first (backTo pos (starEach (e :: es) X.env)) (backToKw pos (keywordEach [] X.env))) := by rfl) :
    PE X (.Call (.Attribute o "fails" apos) (e :: es) [] pos) (tMeth CC "fails" (spFails X.K C CC) [] E0 to t) := by
  obtain ⟨f, fd, M, F, b⟩ := D.ex
  exact pe_meth ho D.cl M F hr b .nil pass0 ha hst hpl ht
section
variable {P : Program} {w : World} {K : PySem.W.Frag} {mg : Str → Option Value} {base : Heap} {C CC : Addr}
abbrev sInst : Stmt := top 44
def spInst (K : PySem.W.Frag) (C CC : Addr) : Sp := fun vs H Q _ => ∃ (c m b t : Addr) (fl : List Int) (cs : Cs) (n : Edn) (s : St3), vs = [.ref c, .ref b, .ref t] ∧ Cal K CC H c m fl cs ∧ cs.length ≤ 80 ∧ EdX K H C b n ∧ SqT K H t (stV s) ∧ Post K CC H c m fl (inst fl n s cs) Q
theorem scInst : FnScope ["caller", "new", "state", "status", "old", "done"] ["caller", "new", "state"] (defScope sInst) := ⟨rfl, rfl, rfl, by decide +kernel, rfl, by decide +kernel, by decide +kernel⟩
theorem ok_inst {f : Addr} {fd : FuncData} (F : Fun K "install" "install" sInst f fd) (T : FailF P w K mg base C CC) : FnOk P w K mg base CX0 4 f fd ["caller", "new", "state"] (spInst K C CC) := by
  refine F.ok scInst (fun vs H Q E h => ?_) (fun cdv A outer s H vs Q E hr h => ?_)
  · obtain ⟨c, m, b, t, fl, cs, n, s3, rfl, _⟩ := h
    rfl
  · obtain ⟨c, m, b, t, fl, cs, n, s3, rfl, hC, few, hE, ht, k⟩ := h
    have nd := scInst.nd
    have r2 : Room 2 _ := hr.mono (by decide)
    refine ⟨_, pss_cons (ps_asg (pv 2) (pg_tup rfl (pgs_cons (pg_name (i := 3) nd rfl (Or.inl rfl)) (pgs_cons (pg_name (i := 4) nd rfl (Or.inl rfl)) (pgs_cons (pg_name (i := 5) nd rfl (Or.inl rfl)) pgs_nil)))))
      (pss_cons (ps_if (pt_not (pt_val (pe_fails T hr (pv 0) (pa_cons (pv 1) (pa_cons pe_str (pa_cons pe_str (pa_cons (pv 4) pa_nil))))))) (pss_one (ps_ret (pe_tup (pa_cons pe_str (pa_cons (pe_prp T.p1 T.clE r2 (pv 1)) (pa_cons (pv 5) pa_nil)))))) pss_nil)
      (pss_cons (ps_if (pt_not (pt_val (pe_fails T hr (pv 0) (pa_cons (pv 1) (pa_cons pe_str (pa_cons pe_str (pa_cons (pv 4) pa_nil))))))) (pss_one (ps_ret (pv 2))) pss_nil)
      (pss_one (ps_ret (pe_tup (pa_cons pe_str (pa_cons (pe_prp T.p1 T.clE r2 (pv 1)) (pa_cons (pv 5) pa_nil)))))))), ?_⟩
    refine ⟨_, rfl, t, _, rfl, ht, rfl, _, _, rfl, _, _, rfl, _, _, rfl, rfl, ?_⟩
    obtain ⟨dx, fs, hc, lf⟩ := hC.ins
    refine ⟨_, rfl, c, dx, fs, rfl, hc, lf, _, rfl, _, rfl, c, m, b, fl, cs, n, _, _, _, rfl, hC, by omega, hE, fun H1 s1 C1 => ⟨_, rfl, ?_⟩⟩
    have B1 := hC.but s1
    have l1 := failC_len fl n "enter" "install" s3.2.1 cs
    unfold inst tell at k
    have hE1 := hE.but B1
    generalize failC fl n "enter" "install" s3.2.1 cs = c1 at C1 l1 k
    generalize failR fl n "enter" cs = f1 at k ⊢
    cases f1 with
    | false => exact iteT ⟨_, rfl, prp1 hE1 ⟨_, rfl, thr_le, fun t2 n2 => k.new s1 C1 n2⟩⟩
    | true =>
      refine iteF ?_
      obtain ⟨dx, fs, hc, lf⟩ := C1.ins
      refine ⟨_, rfl, c, dx, fs, rfl, hc, lf, _, rfl, _, rfl, c, m, b, fl, c1, n, _, _, _, rfl, C1, by omega, hE1, fun H2 s2 C2 => ⟨_, rfl, ?_⟩⟩
      have B2 := C1.but s2
      dsimp only at k
      generalize failC fl n "clean" "abort-install" s3.2.1 c1 = c2 at C2 k
      generalize failR fl n "clean" c1 = f2 at k ⊢
      have s2' := s1.trans s2
      cases f2 with
      | false => exact iteT ⟨_, rfl, k _ _ s2' C2 (B2.kp _ _ (B1.kp _ _ ht))⟩
      | true => exact iteF ⟨_, rfl, prp1 (hE1.but B2) ⟨_, rfl, thr_le, fun t2 n2 => k.new s2' C2 n2⟩⟩
end
end Half

namespace Half
open PySem PySem.Spec PyProof.Rows L2
section
variable {P : Program} {w : World} {K : PySem.W.Frag} {mg : Str → Option Value} {base : Heap} {C CC : Addr}
abbrev sBoth : Stmt := top 45
abbrev sUpg : Stmt := top 46
abbrev sPutB : Stmt := top 47
theorem both_len (fl : List Int) (sc : Str) (o n : Edn) (cs : Cs) : (both fl sc o n cs).2.length ≤ cs.length + 2 := by
  unfold both tell
  have h1 := failC_len fl o sc "upgrade" n.ver cs
  generalize failC fl o sc "upgrade" n.ver cs = c1 at h1
  generalize failR fl o sc cs = f1
  cases f1
  · exact Nat.le_succ_of_le h1
  · have h2 := failC_len fl n sc "failed-upgrade" o.ver c1
    exact Nat.le_trans h2 (Nat.succ_le_succ h1)
def spBoth (K : PySem.W.Frag) (C CC : Addr) : Sp := fun vs H Q _ => ∃ (c m b d : Addr) (fl : List Int) (cs : Cs) (o n : Edn) (sc : Str), vs = [.ref c, .str sc, .ref b, .ref d] ∧ Cal K CC H c m fl cs ∧ cs.length ≤ 80 ∧ EdX K H C b o ∧ EdX K H C d n ∧
  ∀ H', SameBut m H H' → Cal K CC H' c m fl (both fl sc o n cs).2 → Q (.bl (both fl sc o n cs).1) H'
theorem scBoth : FnScope ["caller", "script", "old", "new"] ["caller", "script", "old", "new"] (defScope sBoth) := ⟨rfl, rfl, rfl, by decide +kernel, rfl, by decide +kernel, by decide +kernel⟩
theorem ok_both {f : Addr} {fd : FuncData} (F : Fun K "both_fail" "both_fail" sBoth f fd) (T : FailF P w K mg base C CC) : FnOk P w K mg base CX0 4 f fd ["caller", "script", "old", "new"] (spBoth K C CC) := by
  refine F.ok scBoth (fun vs H Q E h => ?_) (fun cdv A outer s H vs Q E hr h => ?_)
  · obtain ⟨c, m, b, d, fl, cs, o, n, sc, rfl, _⟩ := h
    rfl
  · obtain ⟨c, m, b, d, fl, cs, o, n, sc, rfl, hC, few, hO, hN, k⟩ := h
    have r2 : Room 2 _ := hr.mono (by decide)
    refine ⟨_, pss_one (ps_ret (pe_and (pe_fails T hr (pv 0) (pa_cons (pv 2) (pa_cons (pv 1) (pa_cons pe_str (pa_cons (pe_prp T.p1 T.clE r2 (pv 3)) pa_nil))))) (pe_one (pe_fails T hr (pv 0) (pa_cons (pv 3) (pa_cons (pv 1) (pa_cons pe_str (pa_cons (pe_prp T.p1 T.clE r2 (pv 2)) pa_nil)))))))), ?_⟩
    obtain ⟨dx, fs, hc, lf⟩ := hC.ins
    refine ⟨_, rfl, c, dx, fs, rfl, hc, lf, _, rfl, _, rfl, _, rfl, prp1 hN ⟨c, m, b, fl, cs, o, _, _, _, rfl, hC, by omega, hO, fun H1 s1 C1 => ⟨_, rfl, ?_⟩⟩⟩
    have B1 := hC.but s1
    have l1 := failC_len fl o sc "upgrade" n.ver cs
    unfold both tell at k
    generalize failC fl o sc "upgrade" n.ver cs = c1 at C1 l1 k
    generalize failR fl o sc cs = f1 at k ⊢
    cases f1 with
    | false => exact iteF (k _ s1 C1)
    | true =>
      refine iteT ?_
      obtain ⟨dx, fs, hc, lf⟩ := C1.ins
      refine ⟨_, rfl, c, dx, fs, rfl, hc, lf, _, rfl, _, rfl, _, rfl, prp1 (hO.but B1) ⟨c, m, d, fl, c1, n, _, _, _, rfl, C1, by omega, hN.but B1, fun H2 s2 C2 => k _ (s1.trans s2) C2⟩⟩
def spPutB (K : PySem.W.Frag) (C CC : Addr) (g : List Int → Edn → Edn → St3 → Cs → St3 × Cs) (mx : Nat) : Sp := fun vs H Q _ => ∃ (c m b d t : Addr) (fl : List Int) (cs : Cs) (o n : Edn) (s : St3), vs = [.ref c, .ref b, .ref d, .ref t] ∧ Cal K CC H c m fl cs ∧ cs.length ≤ mx ∧ EdX K H C b o ∧ EdX K H C d n ∧ SqT K H t (stV s) ∧ Post K CC H c m fl (g fl o n s cs) Q
theorem scPutB : FnScope ["caller", "old", "new", "state", "done"] ["caller", "old", "new", "state"] (defScope sPutB) := ⟨rfl, rfl, rfl, by decide +kernel, rfl, by decide +kernel, by decide +kernel⟩
theorem ok_putB {f : Addr} {fd : FuncData} (F : Fun K "put_back" "put_back" sPutB f fd) (T : FailF P w K mg base C CC) : FnOk P w K mg base CX0 4 f fd ["caller", "old", "new", "state"] (spPutB K C CC putB 80) := by
  refine F.ok scPutB (fun vs H Q E h => ?_) (fun cdv A outer s H vs Q E hr h => ?_)
  · obtain ⟨c, m, b, d, t, fl, cs, o, n, s3, rfl, _⟩ := h
    rfl
  · obtain ⟨c, m, b, d, t, fl, cs, o, n, s3, rfl, hC, few, hO, hN, ht, k⟩ := h
    have nd := scPutB.nd
    have r2 : Room 2 _ := hr.mono (by decide)
    obtain ⟨aS, gS, hS⟩ := T.su
    refine ⟨_, pss_cons (ps_set (i := 4) nd rfl (Or.inl rfl) (pe_ix ix_tup (pv 3) pe_int (fun _ _ => rfl)))
      (pss_cons (ps_if (pt_val (pe_fails T hr (pv 0) (pa_cons (pv 2) (pa_cons pe_str (pa_cons pe_str (pa_cons (pe_prp T.p1 T.clE r2 (pv 1)) pa_nil)))))) (pss_one (ps_ret (pe_tup (pa_cons pe_str (pa_cons (pe_prp T.p1 T.clE r2 (pv 1)) (pa_cons (pv 4) pa_nil)))))) pss_nil)
      (pss_cons (ps_if (PW.pt (pw_and (pt_cmpR (op_in_seq : OpR _ _ (rIn K false)) (pe_ix ix_tup (pv 3) pe_int (fun _ _ => rfl)) (pe_glob (v := .ref aS) rfl gS rfl) (by rfl)) (pw_and1 (pt_val (pe_fails T hr (pv 0) (pa_cons (pv 1) (pa_cons pe_str (pa_cons pe_str (pa_cons (pe_prp T.p1 T.clE r2 (pv 2)) pa_nil))))))))) (pss_one (ps_ret (pe_tup (pa_cons pe_str (pa_cons (pe_prp T.p1 T.clE r2 (pv 1)) (pa_cons (pv 4) pa_nil)))))) pss_nil)
      (pss_one (ps_ret (pv 3))))), ?_⟩
    refine ⟨_, rfl, t, _, 2, _, rfl, rfl, ht, rfl, ?_⟩
    obtain ⟨dx, fs, hc, lf⟩ := hC.ins
    refine ⟨_, rfl, c, dx, fs, rfl, hc, lf, _, rfl, _, rfl, prp1 hO ⟨c, m, d, fl, cs, n, _, _, _, rfl, hC, by omega, hN, fun H1 s1 C1 => ⟨_, rfl, ?_⟩⟩⟩
    have B1 := hC.but s1
    have l1 := failC_len fl n "clean" "abort-upgrade" o.ver cs
    unfold putB tell at k
    generalize failC fl n "clean" "abort-upgrade" o.ver cs = c1 at C1 l1 k
    generalize failR fl n "clean" cs = f1 at k ⊢
    have ht1 := B1.kp _ _ ht
    cases f1 with
    | true => exact iteT ⟨_, rfl, prp1 (hO.but B1) ⟨_, rfl, thr_le, fun t2 n2 => k.new s1 C1 n2⟩⟩
    | false =>
      refine iteF ?_
      dsimp only at k
      refine ⟨_, rfl, t, _, 0, _, rfl, rfl, ht1, rfl, aS, _, rfl, .inr (hS _), rfl, flat_strs SETU, _, rfl, ?_⟩
      rw [if_neg Bool.false_ne_true, inV_str]
      cases c2 : has SETU s3.1 with
      | false =>
        rw [c2] at k
        refine iteF ?_
        exact iteF ⟨_, rfl, k _ _ s1 C1 ht1⟩
      | true =>
        rw [c2] at k
        simp only [if_true] at k
        refine iteT ?_
        obtain ⟨dx, fs, hc, lf⟩ := C1.ins
        refine ⟨_, rfl, c, dx, fs, rfl, hc, lf, _, rfl, _, rfl, prp1 (hN.but B1) ⟨c, m, b, fl, c1, o, _, _, _, rfl, C1, by omega, hO.but B1, fun H2 s2 C2 => ⟨_, rfl, ?_⟩⟩⟩
        have B2 := C1.but s2
        generalize failC fl o "setup" "abort-upgrade" n.ver c1 = c2' at C2 k
        generalize failR fl o "setup" c1 = f2 at k ⊢
        cases f2 with
        | true => exact iteT ⟨_, rfl, prp1 ((hO.but B1).but B2) ⟨_, rfl, thr_le, fun t2 n2 => k.new (s1.trans s2) C2 n2⟩⟩
        | false => exact iteF ⟨_, rfl, k _ _ (s1.trans s2) C2 (B2.kp _ _ ht1)⟩
theorem scUpg : FnScope ["caller", "old", "new", "state", "done", "failed"] ["caller", "old", "new", "state"] (defScope sUpg) := ⟨rfl, rfl, rfl, by decide +kernel, rfl, by decide +kernel, by decide +kernel⟩
theorem ok_upg {f : Addr} {fd : FuncData} (F : Fun K "upgrade" "upgrade" sUpg f fd) (T : FailF P w K mg base C CC) (dB : Def P w K mg base 4 "both_fail" ["caller", "script", "old", "new"] (spBoth K C CC)) (dP : Def P w K mg base 4 "put_back" ["caller", "old", "new", "state"] (spPutB K C CC putB 80)) : FnOk P w K mg base CX0 5 f fd ["caller", "old", "new", "state"] (spPutB K C CC upg 60) := by
  refine F.ok scUpg (fun vs H Q E h => ?_) (fun cdv A outer s H vs Q E hr h => ?_)
  · obtain ⟨c, m, b, d, t, fl, cs, o, n, s3, rfl, _⟩ := h
    rfl
  · obtain ⟨c, m, b, d, t, fl, cs, o, n, s3, rfl, hC, few, hO, hN, ht, k⟩ := h
    have nd := scUpg.nd
    have r2 : Room 2 _ := hr.mono (by decide)
    have r3 : Room 3 _ := hr.mono (by decide)
    obtain ⟨aS, gS, hS⟩ := T.su
    obtain ⟨tT, hT, rdT⟩ : ∃ tT, PSs (cxOf CX0 P w K mg base ["caller", "old", "new", "state", "done", "failed"] "upgrade" (defScope sUpg) f cdv A outer s H E).nox ((defBody sUpg).drop 2) tT ∧
        ∀ (D : Ends) (H1 : Hp) (cs1 : Cs) (x5 : Option V), D.rt = Q → SameBut m H H1 → Cal K CC H1 c m fl cs1 → cs1.length ≤ 65 → Post K CC H c m fl (upg2 fl o n s3 cs1) Q → tT D [some (.ref c), some (.ref b), some (.ref d), some (.ref t), some (.int s3.2.2), x5] H1 := by
      refine ⟨_, pss_cons (ps_if (pt_val (pe_fails T r3 (pv 0) (pa_cons (pv 2) (pa_cons pe_str (pa_cons pe_str (pa_cons (pe_prp T.p1 T.clE r2 (pv 1)) pa_nil)))))) (pss_one (ps_ret (pe_def dP hr rfl (pa_cons (pv 0) (pa_cons (pv 1) (pa_cons (pv 2) (pa_cons (pv 3) pa_nil))))))) pss_nil)
        (pss_cons (ps_if (pt_not (pt_val (pe_def dB hr rfl (pa_cons (pv 0) (pa_cons pe_str (pa_cons (pv 1) (pa_cons (pv 2) pa_nil))))))) (pss_one (ps_ret (pe_tup (pa_cons pe_str (pa_cons (pe_prp T.p1 T.clE r2 (pv 2)) (pa_cons (pv 4) pa_nil)))))) pss_nil)
        (pss_cons (ps_if (pt_val (pe_fails T r3 (pv 0) (pa_cons (pv 1) (pa_cons pe_str (pa_cons pe_str (pa_cons (pe_prp T.p1 T.clE r2 (pv 2)) pa_nil)))))) (pss_one (ps_ret (pe_tup (pa_cons pe_str (pa_cons (pe_prp T.p1 T.clE r2 (pv 1)) (pa_cons (pv 4) pa_nil)))))) pss_nil)
        (pss_one (ps_ret (pe_def dP hr rfl (pa_cons (pv 0) (pa_cons (pv 1) (pa_cons (pv 2) (pa_cons (pv 3) pa_nil)))))))))  , ?_⟩
      intro D H1 cs1 x5 eD s1 C1 few1 k
      subst eD
      have B1 : But m H H1 := hC.but s1
      have hO1 := hO.but B1
      have hN1 := hN.but B1
      have ht1 := B1.kp _ _ ht
      obtain ⟨dx, fs, hc, lf⟩ := C1.ins
      refine ⟨_, rfl, c, dx, fs, rfl, hc, lf, _, rfl, _, rfl, prp1 hO1 ⟨c, m, d, fl, cs1, n, _, _, _, rfl, C1, by omega, hN1, fun H2 s2 C2 => ⟨_, rfl, ?_⟩⟩⟩
      have B2 := C1.but s2
      have l2 := failC_len fl n "enter" "upgrade" o.ver cs1
      unfold upg2 tell at k
      generalize failC fl n "enter" "upgrade" o.ver cs1 = c2 at C2 l2 k
      generalize failR fl n "enter" cs1 = f1 at k ⊢
      have hO2 := hO1.but B2
      have hN2 := hN1.but B2
      have ht2 := B2.kp _ _ ht1
      have s2' := s1.trans s2
      cases f1 with
      | true =>
        refine iteT ?_
        exact ⟨_, rfl, _, rfl, _, rfl, _, rfl, c, m, b, d, t, fl, c2, o, n, s3, rfl, C2, by omega, hO2, hN2, ht2, k.but s2'⟩
      | false =>
        refine iteF ?_
        dsimp only at k
        refine ⟨_, rfl, _, rfl, _, rfl, c, m, b, d, fl, c2, o, n, "clean", rfl, C2, by omega, hO2, hN2, fun H3 s3' C3 => ⟨_, rfl, ?_⟩⟩
        have B3 := C2.but s3'
        have l3 := both_len fl "clean" o n c2
        generalize both fl "clean" o n c2 = bb at C3 l3 k ⊢
        obtain ⟨f3, c3⟩ := bb
        dsimp only at C3 l3 k ⊢
        have hO3 := hO2.but B3
        have hN3 := hN2.but B3
        have ht3 := B3.kp _ _ ht2
        have s3'' := s2'.trans s3'
        cases f3 with
        | false => exact iteT ⟨_, rfl, prp1 hN3 ⟨_, rfl, thr_le, fun t2 n2 => k.new s3'' C3 n2⟩⟩
        | true =>
          refine iteF ?_
          dsimp only at k
          obtain ⟨dx, fs, hc, lf⟩ := C3.ins
          refine ⟨_, rfl, c, dx, fs, rfl, hc, lf, _, rfl, _, rfl, prp1 hN3 ⟨c, m, b, fl, c3, o, _, _, _, rfl, C3, by omega, hO3, fun H4 s4 C4 => ⟨_, rfl, ?_⟩⟩⟩
          have B4 := C3.but s4
          have l4 := failC_len fl o "enter" "abort-upgrade" n.ver c3
          generalize failC fl o "enter" "abort-upgrade" n.ver c3 = c4 at C4 l4 k
          generalize failR fl o "enter" c3 = f4 at k ⊢
          have s4' := s3''.trans s4
          cases f4 with
          | true => exact iteT ⟨_, rfl, prp1 (hO3.but B4) ⟨_, rfl, thr_le, fun t2 n2 => k.new s4' C4 n2⟩⟩
          | false => exact iteF ⟨_, rfl, _, rfl, _, rfl, _, rfl, c, m, b, d, t, fl, c4, o, n, s3, rfl, C4, by omega, hO3.but B4, hN3.but B4, B4.kp _ _ ht3, k.but s4'⟩
    refine ⟨_, pss_cons (ps_set (i := 4) nd rfl (Or.inl rfl) (pe_ix ix_tup (pv 3) pe_int (fun _ _ => rfl)))
      (pss_cons (ps_if (PW.pt (pw_and (pt_cmpR (op_in_seq : OpR _ _ (rIn K false)) (pe_ix ix_tup (pv 3) pe_int (fun _ _ => rfl)) (pe_glob (v := .ref aS) rfl gS rfl) (by rfl)) (pw_and1 (pt_val (pe_def dB hr rfl (pa_cons (pv 0) (pa_cons pe_str (pa_cons (pv 1) (pa_cons (pv 2) pa_nil)))))))))
        (pss_cons (ps_set (i := 5) nd rfl (Or.inl rfl) (pe_fails T r3 (pv 0) (pa_cons (pv 1) (pa_cons pe_str (pa_cons pe_str (pa_cons (pe_prp T.p1 T.clE r2 (pv 2)) pa_nil))))))
          (pss_one (ps_ret (pe_ifExp (pt_val (pv 5)) (pe_tup (pa_cons pe_str (pa_cons (pe_prp T.p1 T.clE r2 (pv 1)) (pa_cons (pv 4) pa_nil)))) (pv 3))))) pss_nil) hT), ?_⟩
    refine ⟨_, rfl, t, _, 2, _, rfl, rfl, ht, rfl, ?_⟩
    refine ⟨_, rfl, t, _, 0, _, rfl, rfl, ht, rfl, aS, _, rfl, .inr (hS _), rfl, flat_strs SETU, _, rfl, ?_⟩
    rw [if_neg Bool.false_ne_true, inV_str]
    unfold upg at k
    cases c0 : has SETU s3.1 with
    | false =>
      rw [c0] at k
      refine iteF ?_
      refine iteF ?_
      exact rdT _ H cs none rfl (SameBut.of (Same.refl _)) hC (by omega) k
    | true =>
      rw [c0] at k
      simp only [if_true] at k
      refine iteT ?_
      refine ⟨_, rfl, _, rfl, _, rfl, c, m, b, d, fl, cs, o, n, "leave", rfl, hC, by omega, hO, hN, fun H1 s1 C1 => ⟨_, rfl, ?_⟩⟩
      have B1 := hC.but s1
      have l1 := both_len fl "leave" o n cs
      generalize both fl "leave" o n cs = bb at C1 l1 k ⊢
      obtain ⟨f1, c1⟩ := bb
      dsimp only at C1 l1 k ⊢
      cases f1 with
      | false =>
        refine iteF ?_
        exact rdT _ H1 c1 none rfl s1 C1 (by omega) k
      | true =>
        refine iteT ?_
        dsimp only at k
        obtain ⟨dx, fs, hc, lf⟩ := C1.ins
        refine ⟨_, rfl, c, dx, fs, rfl, hc, lf, _, rfl, _, rfl, prp1 (hN.but B1) ⟨c, m, b, fl, c1, o, _, _, _, rfl, C1, by omega, hO.but B1, fun H2 s2 C2 => ?_⟩⟩
        have B2 := C1.but s2
        unfold tell at k
        generalize failC fl o "setup" "abort-upgrade" n.ver c1 = c2 at C2 k
        generalize failR fl o "setup" c1 = f2 at k ⊢
        refine ⟨_, rfl, _, rfl, ?_⟩
        cases f2 with
        | true => exact iteT ⟨_, rfl, prp1 ((hO.but B1).but B2) ⟨_, rfl, thr_le, fun t2 n2 => k.new (s1.trans s2) C2 n2⟩⟩
        | false => exact iteF ⟨_, rfl, k _ _ (s1.trans s2) C2 (B2.kp _ _ (B1.kp _ _ ht))⟩
end
end Half

namespace Half
open PySem PySem.Spec PyProof.Rows L2
abbrev sUnp : Stmt := top 48
abbrev sSup : Stmt := top 49
abbrev sTout : Stmt := top 50
abbrev sPurg : Stmt := top 51
abbrev sPlay : Stmt := top 53
def INS : List Str := ["absent", "left", "half"]
def unpM (es : List Edn) (fl : List Int) (n : Str) (v : Int) (s : St3) (cs : Cs) : St3 × Cs := match edAt es (n, v) with
  | none => (s, cs)
  | some new => if has INS s.1 = true then inst fl new s cs else (match edAt es (n, s.2.1) with
    | some old => upg fl old new s cs
    | none => (s, cs))
def playM (es : List Edn) (fl : List Int) (d : Deed) (s : St3) : St3 × Cs := if d.isU = true then unpM es fl d.name d.ver s [] else (match edAt es (d.name, s.2.1) with
  | none => (s, [])
  | some o => if d.word = "setup" then setUp fl o s [] else if d.word = "remove" then tout fl o s [] else purg fl o s [])
theorem StObj.but {CT : Addr} {H H' : Hp} {a m : Addr} {es : Eds} (B : But m H H') (h : StObj CT H a es) : StObj CT H' a es := by
  obtain ⟨⟨dx, tb, nb, h1, h2, ys, y1, y2, kvs, k1, k2, k3⟩, one⟩ := h
  exact ⟨⟨dx, tb, nb, B.at h1 (fun _ z => by cases z), B.at h2 (fun _ z => by cases z), ys, y1, y2, kvs, B.at k1 (fun _ z => by cases z), k2, fun nm hm => let ⟨t, a, b⟩ := k3 nm hm; ⟨t, a, B.at b (fun _ z => by cases z)⟩⟩, one⟩
section
variable {P : Program} {w : World} {K : PySem.W.Frag} {mg : Str → Option Value} {base : Heap} {C CT CY CN CU CC : Addr}
def spUnp (K : PySem.W.Frag) (C CT CC : Addr) : Sp := fun vs H Q _ => ∃ (c m st t td : Addr) (fl : List Int) (cs : Cs) (es : Es) (s : St3) (d : Deed), vs = [.ref c, .ref st, .ref t, .ref td] ∧ Cal K CC H c m fl cs ∧ cs.length ≤ 60 ∧ StObj CT H st es.eds ∧ (∀ e ∈ es, EdX K H C e.1 e.2) ∧ SqT K H t (stV s) ∧ SqT K H td d.vs ∧ d.isU = true ∧
  (d.name, d.ver) ∈ keysOf es.eds ∧ (has INS s.1 = false → (d.name, s.2.1) ∈ keysOf es.eds) ∧ Post K CC H c m fl (unpM (es.map (·.2)) fl d.name d.ver s cs) Q
theorem scUnp : FnScope ["caller", "store", "state", "deed", "kind", "name", "version", "new"] ["caller", "store", "state", "deed"] (defScope sUnp) := ⟨rfl, rfl, rfl, by decide +kernel, rfl, by decide +kernel, by decide +kernel⟩
theorem ok_unp {f : Addr} {fd : FuncData} (F : Fun K "unpack" "unpack" sUnp f fd) (Y : SyF P w K mg base C CT CY CN CU) (dI : Def P w K mg base 4 "install" ["caller", "new", "state"] (spInst K C CC)) (dU : Def P w K mg base 5 "upgrade" ["caller", "old", "new", "state"] (spPutB K C CC upg 60)) : FnOk P w K mg base CX0 6 f fd ["caller", "store", "state", "deed"] (spUnp K C CT CC) := by
  refine F.ok scUnp (fun vs H Q E h => ?_) (fun cdv A outer s H vs Q E hr h => ?_)
  · obtain ⟨c, m, st, t, td, fl, cs, es, s3, d, rfl, _⟩ := h
    rfl
  · obtain ⟨c, m, st, t, td, fl, cs, es, s3, d, rfl, hC, few, hO, hE, ht, htd, hU, hk, hk2, k⟩ := h
    have nd := scUnp.nd
    have r3 : Room 3 _ := hr.mono (by decide)
    have r4 : Room 4 _ := hr.mono (by decide)
    refine ⟨_, pss_cons (ps_asg (pv 3) (pg_tup rfl (pgs_cons (pg_name (i := 4) nd rfl (Or.inl rfl)) (pgs_cons (pg_name (i := 5) nd rfl (Or.inl rfl)) (pgs_cons (pg_name (i := 6) nd rfl (Or.inl rfl)) pgs_nil)))))
      (pss_cons (ps_set (i := 7) nd rfl (Or.inl rfl) (pe_sget Y r3 (pv 1) (pe_tup (pa_cons (pv 5) (pa_cons (pv 6) pa_nil)))))
      (pss_cons (ps_if (pt_cmpR (op_in_seq : OpR _ _ (rIn K false)) (pe_ix ix_tup (pv 2) pe_int (fun _ _ => rfl)) (pe_tup (pa_cons pe_str (pa_cons pe_str (pa_cons pe_str pa_nil)))) (by rfl)) (pss_one (ps_ret (pe_def dI r4 rfl (pa_cons (pv 0) (pa_cons (pv 7) (pa_cons (pv 2) pa_nil)))))) pss_nil)
      (pss_one (ps_ret (pe_def dU hr rfl (pa_cons (pv 0) (pa_cons (pe_sget Y r3 (pv 1) (pe_tup (pa_cons (pv 5) (pa_cons (pe_ix ix_tup (pv 2) pe_int (fun _ _ => rfl)) pa_nil)))) (pa_cons (pv 7) (pa_cons (pv 2) pa_nil))))))))), ?_⟩
    have ed : d.vs = [.str d.word, .str d.name, .int d.ver] := by unfold Deed.vs; rw [if_pos hU]
    rw [ed] at htd
    refine ⟨_, rfl, td, _, rfl, htd, rfl, _, _, rfl, _, _, rfl, _, _, rfl, rfl, ?_⟩
    refine ⟨_, rfl, _, rfl, _, rfl, two_le, fun t1 n1 => ?_⟩
    have s1 := Same.upd_new (o := .tup [.str d.name, .int d.ver]) n1
    obtain ⟨e, he, ek, ea⟩ := edAt_some hk
    refine sget_read (k := (d.name, d.ver)) (e := (e.1, e.2.key)) (hO.same s1) upd_same (List.mem_map.mpr ⟨e, he, rfl⟩) ek ?_
    unfold unpM at k
    rw [ea] at k
    dsimp only at k
    have ht1 := s1.sqT ht
    refine ⟨_, rfl, t, _, 0, _, rfl, rfl, ht1, rfl, thr_le, fun t2 n2 => ?_⟩
    have s2 := s1.trans (Same.upd_new (o := .tup (INS.map V.str)) n2)
    refine ⟨t2, _, rfl, .inr (.inl (.inl (upd_same (o := .tup (INS.map V.str))))), rfl, flat_strs INS, _, rfl, ?_⟩
    rw [if_neg Bool.false_ne_true, inV_str]
    cases c0 : has INS s3.1 with
    | true =>
      rw [c0] at k
      refine iteT ?_
      exact ⟨_, rfl, _, rfl, _, rfl, c, m, e.1, t, fl, cs, e.2, s3, rfl, hC.same s2, by omega, (hE e he).same s2, s2.sqT ht, k.but (SameBut.of s2)⟩
    | false =>
      rw [c0] at k
      simp only [Bool.false_eq_true, if_false] at k
      refine iteF ?_
      obtain ⟨e', he', ek', ea'⟩ := edAt_some (hk2 c0)
      rw [ea'] at k
      dsimp only at k
      refine ⟨_, rfl, _, rfl, _, rfl, _, rfl, t, _, 1, _, rfl, rfl, s2.sqT ht, rfl, two_le, fun t3 n3 => ?_⟩
      have s3' := s2.trans (Same.upd_new (o := .tup [.str d.name, .int s3.2.1]) n3)
      refine sget_read (k := (d.name, s3.2.1)) (e := (e'.1, e'.2.key)) (hO.same s3') upd_same (List.mem_map.mpr ⟨e', he', rfl⟩) ek' ?_
      exact ⟨_, rfl, _, rfl, c, m, e'.1, e.1, t, fl, cs, e'.2, e.2, s3, rfl, hC.same s3', by omega, (hE e' he').same s3', (hE e he).same s3', s3'.sqT ht, k.but (SameBut.of s3')⟩
def spAct (K : PySem.W.Frag) (C CC : Addr) (g : List Int → Edn → St3 → Cs → St3 × Cs) : Sp := fun vs H Q _ => ∃ (c m b t : Addr) (fl : List Int) (cs : Cs) (o : Edn) (s : St3), vs = [.ref c, .ref b, .ref t] ∧ Cal K CC H c m fl cs ∧ cs.length ≤ 60 ∧ EdX K H C b o ∧ SqT K H t (stV s) ∧ Post K CC H c m fl (g fl o s cs) Q
theorem scSup : FnScope ["caller", "old", "state", "status", "version", "done"] ["caller", "old", "state"] (defScope sSup) := ⟨rfl, rfl, rfl, by decide +kernel, rfl, by decide +kernel, by decide +kernel⟩
theorem ok_sup {f : Addr} {fd : FuncData} (F : Fun K "set_up" "set_up" sSup f fd) (T : FailF P w K mg base C CC) : FnOk P w K mg base CX0 4 f fd ["caller", "old", "state"] (spAct K C CC setUp) := by
  refine F.ok scSup (fun vs H Q E h => ?_) (fun cdv A outer s H vs Q E hr h => ?_)
  · obtain ⟨c, m, b, t, fl, cs, o, s3, rfl, _⟩ := h
    rfl
  · obtain ⟨c, m, b, t, fl, cs, o, s3, rfl, hC, few, hE, ht, k⟩ := h
    have nd := scSup.nd
    refine ⟨_, pss_cons (ps_asg (pv 2) (pg_tup rfl (pgs_cons (pg_name (i := 3) nd rfl (Or.inl rfl)) (pgs_cons (pg_name (i := 4) nd rfl (Or.inl rfl)) (pgs_cons (pg_name (i := 5) nd rfl (Or.inl rfl)) pgs_nil)))))
      (pss_cons (ps_if (pt_val (pe_fails T hr (pv 0) (pa_cons (pv 1) (pa_cons pe_str (pa_cons pe_str (pa_cons (pv 5) pa_nil)))))) (pss_one (ps_ret (pe_tup (pa_cons pe_str (pa_cons (pv 4) (pa_cons (pv 5) pa_nil)))))) pss_nil)
      (pss_one (ps_ret (pe_tup (pa_cons pe_str (pa_cons (pv 4) (pa_cons (pv 4) pa_nil))))))), ?_⟩
    refine ⟨_, rfl, t, _, rfl, ht, rfl, _, _, rfl, _, _, rfl, _, _, rfl, rfl, ?_⟩
    obtain ⟨dx, fs, hc, lf⟩ := hC.ins
    refine ⟨_, rfl, c, dx, fs, rfl, hc, lf, _, rfl, _, rfl, c, m, b, fl, cs, o, _, _, _, rfl, hC, by omega, hE, fun H1 s1 C1 => ⟨_, rfl, ?_⟩⟩
    unfold setUp tell at k
    generalize failC fl o "setup" "configure" s3.2.2 cs = c1 at C1 k
    generalize failR fl o "setup" cs = f1 at k ⊢
    cases f1 with
    | true => exact iteT ⟨_, rfl, _, rfl, thr_le, fun t2 n2 => k.new s1 C1 n2⟩
    | false => exact iteF ⟨_, rfl, _, rfl, thr_le, fun t2 n2 => k.new s1 C1 n2⟩
theorem scTout : FnScope ["caller", "old", "state", "status", "version", "done", "failed"] ["caller", "old", "state"] (defScope sTout) := ⟨rfl, rfl, rfl, by decide +kernel, rfl, by decide +kernel, by decide +kernel⟩
theorem ok_tout {f : Addr} {fd : FuncData} (F : Fun K "take_out" "take_out" sTout f fd) (T : FailF P w K mg base C CC) : FnOk P w K mg base CX0 4 f fd ["caller", "old", "state"] (spAct K C CC tout) := by
  refine F.ok scTout (fun vs H Q E h => ?_) (fun cdv A outer s H vs Q E hr h => ?_)
  · obtain ⟨c, m, b, t, fl, cs, o, s3, rfl, _⟩ := h
    rfl
  · obtain ⟨c, m, b, t, fl, cs, o, s3, rfl, hC, few, hE, ht, k⟩ := h
    have nd := scTout.nd
    obtain ⟨aS, gS, hS⟩ := T.su
    obtain ⟨tT, hT, rdT⟩ : ∃ tT, PSs (cxOf CX0 P w K mg base ["caller", "old", "state", "status", "version", "done", "failed"] "take_out" (defScope sTout) f cdv A outer s H E).nox ((defBody sTout).drop 2) tT ∧
        ∀ (D : Ends) (H1 : Hp) (cs1 : Cs) (x6 : Option V), D.rt = Q → SameBut m H H1 → Cal K CC H1 c m fl cs1 → cs1.length ≤ 65 → Post K CC H c m fl (tout2 fl o s3 cs1) Q → tT D [some (.ref c), some (.ref b), some (.ref t), some (.str s3.1), some (.int s3.2.1), some (.int s3.2.2), x6] H1 := by
      refine ⟨_, pss_cons (ps_if (pt_val (pe_fails T hr (pv 0) (pa_cons (pv 1) (pa_cons pe_str (pa_cons pe_str (pa_cons pe_int pa_nil)))))) (pss_one (ps_ret (pe_tup (pa_cons pe_str (pa_cons (pv 4) (pa_cons (pv 5) pa_nil)))))) pss_nil)
        (pss_one (ps_ret (pe_tup (pa_cons pe_str (pa_cons (pv 4) (pa_cons (pv 5) pa_nil)))))), ?_⟩
      intro D H1 cs1 x6 eD s1 C1 few1 k
      subst eD
      have B1 : But m H H1 := hC.but s1
      obtain ⟨dx, fs, hc, lf⟩ := C1.ins
      refine ⟨_, rfl, c, dx, fs, rfl, hc, lf, _, rfl, c, m, b, fl, cs1, o, _, _, _, rfl, C1, by omega, hE.but B1, fun H2 s2 C2 => ⟨_, rfl, ?_⟩⟩
      unfold tout2 tell at k
      generalize failC fl o "clean" "remove" 0 cs1 = c2 at C2 k
      generalize failR fl o "clean" cs1 = f1 at k ⊢
      cases f1 with
      | true => exact iteT ⟨_, rfl, _, rfl, thr_le, fun t2 n2 => k.new (s1.trans s2) C2 n2⟩
      | false => exact iteF ⟨_, rfl, _, rfl, thr_le, fun t2 n2 => k.new (s1.trans s2) C2 n2⟩
    refine ⟨_, pss_cons (ps_asg (pv 2) (pg_tup rfl (pgs_cons (pg_name (i := 3) nd rfl (Or.inl rfl)) (pgs_cons (pg_name (i := 4) nd rfl (Or.inl rfl)) (pgs_cons (pg_name (i := 5) nd rfl (Or.inl rfl)) pgs_nil)))))
      (pss_cons (ps_if (PW.pt (pw_and (pt_cmpR (op_in_seq : OpR _ _ (rIn K false)) (pv 3) (pe_glob (v := .ref aS) rfl gS rfl) (by rfl)) (pw_and1 (pt_val (pe_fails T hr (pv 0) (pa_cons (pv 1) (pa_cons pe_str (pa_cons pe_str (pa_cons pe_int pa_nil)))))))))
        (pss_cons (ps_set (i := 6) nd rfl (Or.inl rfl) (pe_fails T hr (pv 0) (pa_cons (pv 1) (pa_cons pe_str (pa_cons pe_str (pa_cons pe_int pa_nil))))))
          (pss_one (ps_ret (pe_ifExp (pt_val (pv 6)) (pe_tup (pa_cons pe_str (pa_cons (pv 4) (pa_cons (pv 5) pa_nil)))) (pv 2))))) pss_nil) hT), ?_⟩
    refine ⟨_, rfl, t, _, rfl, ht, rfl, _, _, rfl, _, _, rfl, _, _, rfl, rfl, ?_⟩
    refine ⟨_, rfl, aS, _, rfl, .inr (hS _), rfl, flat_strs SETU, _, rfl, ?_⟩
    rw [if_neg Bool.false_ne_true, inV_str]
    unfold tout at k
    cases c0 : has SETU s3.1 with
    | false =>
      rw [c0] at k
      refine iteF ?_
      refine iteF ?_
      exact rdT _ H cs none rfl (SameBut.of (Same.refl _)) hC (by omega) k
    | true =>
      rw [c0] at k
      simp only [if_true] at k
      refine iteT ?_
      obtain ⟨dx, fs, hc, lf⟩ := hC.ins
      refine ⟨_, rfl, c, dx, fs, rfl, hc, lf, _, rfl, c, m, b, fl, cs, o, _, _, _, rfl, hC, by omega, hE, fun H1 s1 C1 => ⟨_, rfl, ?_⟩⟩
      have B1 := hC.but s1
      have l1 := failC_len fl o "leave" "remove" 0 cs
      unfold tell at k
      generalize failC fl o "leave" "remove" 0 cs = c1 at C1 l1 k
      generalize failR fl o "leave" cs = f1 at k ⊢
      cases f1 with
      | false =>
        refine iteF ?_
        exact rdT _ H1 c1 none rfl s1 C1 (by omega) k
      | true =>
        refine iteT ?_
        dsimp only at k
        obtain ⟨dx, fs, hc, lf⟩ := C1.ins
        refine ⟨_, rfl, c, dx, fs, rfl, hc, lf, _, rfl, c, m, b, fl, c1, o, _, _, _, rfl, C1, by omega, hE.but B1, fun H2 s2 C2 => ?_⟩
        have B2 := C1.but s2
        generalize failC fl o "setup" "abort-remove" 0 c1 = c2 at C2 k
        generalize failR fl o "setup" c1 = f2 at k ⊢
        refine ⟨_, rfl, _, rfl, ?_⟩
        cases f2 with
        | true => exact iteT ⟨_, rfl, _, rfl, thr_le, fun t2 n2 => k.new (s1.trans s2) C2 n2⟩
        | false => exact iteF ⟨_, rfl, k _ _ (s1.trans s2) C2 (B2.kp _ _ (B1.kp _ _ ht))⟩
theorem scPurg : FnScope ["caller", "old", "state"] ["caller", "old", "state"] (defScope sPurg) := ⟨rfl, rfl, rfl, by decide +kernel, rfl, by decide +kernel, by decide +kernel⟩
theorem ok_purg {f : Addr} {fd : FuncData} (F : Fun K "purge" "purge" sPurg f fd) (T : FailF P w K mg base C CC) : FnOk P w K mg base CX0 4 f fd ["caller", "old", "state"] (spAct K C CC purg) := by
  refine F.ok scPurg (fun vs H Q E h => ?_) (fun cdv A outer s H vs Q E hr h => ?_)
  · obtain ⟨c, m, b, t, fl, cs, o, s3, rfl, _⟩ := h
    rfl
  · obtain ⟨c, m, b, t, fl, cs, o, s3, rfl, hC, few, hE, ht, k⟩ := h
    obtain ⟨aA, gA, hA⟩ := T.abs
    refine ⟨_, pss_one (ps_ret (pe_ifExp (pt_val (pe_fails T hr (pv 0) (pa_cons (pv 1) (pa_cons pe_str (pa_cons pe_str (pa_cons pe_int pa_nil)))))) (pv 2) (pe_glob (v := .ref aA) rfl gA rfl))), ?_⟩
    obtain ⟨dx, fs, hc, lf⟩ := hC.ins
    refine ⟨_, rfl, c, dx, fs, rfl, hc, lf, _, rfl, c, m, b, fl, cs, o, _, _, _, rfl, hC, by omega, hE, fun H1 s1 C1 => ⟨_, rfl, ?_⟩⟩
    have B1 := hC.but s1
    unfold purg tell at k
    generalize failC fl o "clean" "purge" 0 cs = c1 at C1 k
    generalize failR fl o "clean" cs = f1 at k ⊢
    cases f1 with
    | true => exact iteT ⟨_, rfl, k _ _ s1 C1 (B1.kp _ _ ht)⟩
    | false => exact iteF (k _ _ s1 C1 (hA _))
end
end Half

namespace Half
open PySem PySem.Spec PyProof.Rows L2
def MadeAt (K : PySem.W.Frag) (H : Hp) (m : Addr) (cs : Cs) : Prop := ∃ ps, H m = some (.lst (ps.map V.ref)) ∧ Calls K H ps cs
/-- the deed can be played from this state -/
def CanPlay (ks : List Kk) (d : Deed) (s : St3) : Prop := (d.isU = true → (d.name, d.ver) ∈ ks ∧ (has INS s.1 = false → (d.name, s.2.1) ∈ ks)) ∧ (d.isU = false → (d.name, s.2.1) ∈ ks)
def spPlay (K : PySem.W.Frag) (C CT : Addr) : Sp := fun vs H Q _ => ∃ (st t td fa fy : Addr) (fl : List Int) (es : Es) (s : St3) (d : Deed), vs = [.ref st, .ref t, .ref td, .ref fa, .ref fy] ∧ StObj CT H st es.eds ∧ (∀ e ∈ es, EdX K H C e.1 e.2) ∧ SqT K H t (stV s) ∧ SqT K H td d.vs ∧ SqT K H fa (fl.map V.int) ∧ SqT K H fy [] ∧ d.word ∈ DWS ∧ CanPlay (keysOf es.eds) d s ∧
  ∀ H' p t' m, Same H H' → SqT K H' p [.ref t', .ref m] → SqT K H' t' (stV (playM (es.map (·.2)) fl d s).1) → MadeAt K H' m (playM (es.map (·.2)) fl d s).2 → Q (.ref p) H'
structure MkC (P : Program) (w : World) (K : PySem.W.Frag) (mg : Str → Option Value) (base : Heap) (CC : Addr) : Prop where
  ex : ∃ f fd, FnOk P w K mg base CX0 1 f fd ["self", "failing", "faulty"] (spCi K CC) ∧ Mk K CC f ∧ Binds K fd ["self", "failing", "faulty"] [] ∧ mg "Caller" = some (.ref CC)
  cl : Cls K CC
  n3 : NoAttr K CC "made"
/-- the three that ACTIONS holds -/
structure ActT (P : Program) (w : World) (K : PySem.W.Frag) (mg : Str → Option Value) (base : Heap) (C CC : Addr) : Prop where
  ex : ∃ (d f1 f2 f3 : Addr) (fd1 fd2 fd3 : FuncData), mg "ACTIONS" = some (.ref d) ∧ KDct K w d "setup" (.ref f1) ∧ KDct K w d "remove" (.ref f2) ∧ KDct K w d "purge" (.ref f3) ∧
    FnOk P w K mg base CX0 4 f1 fd1 ["caller", "old", "state"] (spAct K C CC setUp) ∧ PySem.W.keepIn K (.ref f1) = true ∧ Binds K fd1 ["caller", "old", "state"] [] ∧
    FnOk P w K mg base CX0 4 f2 fd2 ["caller", "old", "state"] (spAct K C CC tout) ∧ PySem.W.keepIn K (.ref f2) = true ∧ Binds K fd2 ["caller", "old", "state"] [] ∧
    FnOk P w K mg base CX0 4 f3 fd3 ["caller", "old", "state"] (spAct K C CC purg) ∧ PySem.W.keepIn K (.ref f3) = true ∧ Binds K fd3 ["caller", "old", "state"] []
section
variable {P : Program} {w : World} {K : PySem.W.Frag} {mg : Str → Option Value} {base : Heap} {C CT CY CN CU CC : Addr}
theorem scPlay : FnScope ["store", "state", "deed", "fails", "faulty", "caller", "action", "later"] ["store", "state", "deed", "fails", "faulty"] (defScope sPlay) := ⟨rfl, rfl, rfl, by decide +kernel, rfl, by decide +kernel, by decide +kernel⟩
theorem ok_play {f : Addr} {fd : FuncData} {dvs : List V} (F : FunD K "play" "play" (defArgs sPlay) (defBody sPlay) (defScope sPlay) dvs [] f fd) (Y : SyF P w K mg base C CT CY CN CU) (M : MkC P w K mg base CC) (R : ActT P w K mg base C CC) (dU : Def P w K mg base 6 "unpack" ["caller", "store", "state", "deed"] (spUnp K C CT CC)) : FnOk P w K mg base CX0 7 f fd ["store", "state", "deed", "fails", "faulty"] (spPlay K C CT) := by
  refine F.ok scPlay (fun vs H Q E h => ?_) (fun cdv A outer s H vs Q E hr h => ?_)
  · obtain ⟨st, t, td, fa, fy, fl, es, s3, d, rfl, _⟩ := h
    rfl
  · obtain ⟨st, t, td, fa, fy, fl, es, s3, d, rfl, hO, hE, ht, htd, hfa, hfy, hw, hp, k⟩ := h
    have nd := scPlay.nd
    have r2 : Room 2 _ := hr.mono (by decide)
    have r3 : Room 3 _ := hr.mono (by decide)
    have r4 : Room 4 _ := hr.mono (by decide)
    obtain ⟨fm, fdm, Fm, Mm, bm, gm⟩ := M.ex
    obtain ⟨dd, f1, f2, f3, fd1, fd2, fd3, gD, k1, k2, k3, F1, kp1, b1, F2, kp2, b2, F3, kp3, b3⟩ := R.ex
    obtain ⟨fx, fdx, gx, Fx, kpx, bx, kx, ex⟩ : ∃ (fx : Addr) (fdx : FuncData) (gx : List Int → Edn → St3 → Cs → St3 × Cs), FnOk P w K mg base CX0 4 fx fdx ["caller", "old", "state"] (spAct K C CC gx) ∧ PySem.W.keepIn K (.ref fx) = true ∧ Binds K fdx ["caller", "old", "state"] [] ∧
        (d.isU = false → KDct K w dd d.word (.ref fx)) ∧ (d.isU = false → ∀ o, (if d.word = "setup" then setUp fl o s3 [] else if d.word = "remove" then tout fl o s3 [] else purg fl o s3 []) = gx fl o s3 []) := by
      have hw := hw
      unfold DWS at hw
      simp only [List.mem_cons, List.not_mem_nil, or_false] at hw
      rcases hw with e | e | e | e
      · exact ⟨f1, fd1, _, F1, kp1, b1, fun _ => by rw [e]; exact k1, fun _ _ => by rw [e]; rfl⟩
      · exact ⟨f2, fd2, _, F2, kp2, b2, fun _ => by rw [e]; exact k2, fun _ _ => by rw [e]; rfl⟩
      · exact ⟨f3, fd3, _, F3, kp3, b3, fun _ => by rw [e]; exact k3, fun _ _ => by rw [e]; rfl⟩
      · exact ⟨f3, fd3, _, F3, kp3, b3, fun z => absurd (decide_eq_true e) (by rw [show decide (d.word = "unpack") = d.isU from rfl, z]; decide), fun z => absurd (decide_eq_true e) (by rw [show decide (d.word = "unpack") = d.isU from rfl, z]; decide)⟩
    refine ⟨_, (pss_cons (ps_set (i := 5) nd rfl (Or.inl rfl) (pe_make Mm Fm r2 rfl gm bm .nil pass0 (pa_cons (pv 3) (pa_cons (pv 4) pa_nil))))
      (pss_cons (ps_if (pt_cmpR op_eq (pe_ix ix_tup (pv 2) pe_int (fun _ _ => rfl)) pe_str (nomark _)) (pss_one (ps_ret (pe_tup (pa_cons (pe_def dU hr rfl (pa_cons (pv 5) (pa_cons (pv 0) (pa_cons (pv 1) (pa_cons (pv 2) pa_nil))))) (pa_cons (pe_fld (pv 5) rfl) pa_nil))))) pss_nil)
      (pss_cons (ps_set (i := 6) nd rfl (Or.inl rfl) (pe_ix ix_kdict (pe_glob (v := .ref dd) rfl gD rfl) (pe_ix ix_tup (pv 2) pe_int (fun _ _ => rfl)) (fun _ _ => rfl)))
      (pss_cons (ps_set (i := 7) nd rfl (Or.inl rfl) (pe_callL (i := 6) Fx r4 rfl (Or.inl rfl) kpx bx .nil pass0 (pa_cons (pv 5) (pa_cons (pe_sget Y r3 (pv 0) (pe_tup (pa_cons (pe_ix ix_tup (pv 2) pe_int (fun _ _ => rfl)) (pa_cons (pe_ix ix_tup (pv 1) pe_int (fun _ _ => rfl)) pa_nil)))) (pa_cons (pv 1) pa_nil)))))
      (pss_one (ps_ret (pe_tup (pa_cons (pv 7) (pa_cons (pe_fld (pv 5) rfl) pa_nil)))))))))  , ?_⟩
    refine ⟨_, rfl, _, rfl, fun x dx nx ndx ne => ?_⟩
    have s0 : Same H (upd (upd H dx (.own x)) x (.ins CC dx [])) := fun b o q => by
      rw [upd_ne (ne_of_none q nx), upd_ne (ne_of_none q ndx)]
      exact q
    refine ⟨x, dx, fa, fy, fl, rfl, upd_same, s0.sqT hfa, s0.sqT hfy, fun m H1 sb1 C1 nm => ⟨rfl, ?_⟩⟩
    have nmH : H m = none := by
      have mx : m ≠ x := fun z => by rw [z, upd_same] at nm; cases nm
      rw [upd_ne mx] at nm
      have md : m ≠ dx := fun z => by rw [z, upd_same] at nm; cases nm
      rwa [upd_ne md] at nm
    have s1 : Same H H1 := fun b o q => sb1 b o (ne_of_none q nx) (s0 b o q)
    have all : ∀ {H'}, SameBut m H1 H' → Same H H' := fun {H'} sb b o q => sb b o (ne_of_none q nmH) (s1 b o q)
    have fin : ∀ {H' t' p}, SameBut m H1 H' → Cal K CC H' x m fl (playM (es.map (·.2)) fl d s3).2 → SqT K H' t' (stV (playM (es.map (·.2)) fl d s3).1) → H' p = none → Q (.ref p) (upd H' p (.tup [.ref t', .ref m])) := fun {H' t' p} sb C' h' np => by
      have sn := Same.upd_new (o := .tup [.ref t', .ref m]) np
      obtain ⟨ps, g1, g2⟩ := C'.made
      exact k _ p t' m ((all sb).trans sn) (SqT.of upd_same) (sn.sqT h') ⟨ps, sn _ _ g1, g2.kp sn.kp⟩
    refine ⟨_, rfl, td, _, 0, _, rfl, rfl, s1.sqT htd, Deed.at0, rfl, _, rfl, ?_⟩
    rw [dec_str]
    cases c : d.isU with
    | true =>
      refine ite_yes c ?_
      have ep : playM (es.map (·.2)) fl d s3 = unpM (es.map (·.2)) fl d.name d.ver s3 [] := by unfold playM; rw [if_pos c]
      rw [ep] at fin
      refine ⟨_, rfl, _, rfl, _, rfl, _, rfl, x, m, st, t, td, fl, [], es, s3, d, rfl, C1, Nat.zero_le _, hO.same s1, (fun e he => (hE e he).same s1), s1.sqT ht, s1.sqT htd, c, (hp.1 c).1, (hp.1 c).2, fun H2 t2 sb2 C2 h2 => ?_⟩
      obtain ⟨dx2, fa2, fy2, hc2, _⟩ := C2.ob
      exact ⟨_, rfl, x, CC, dx2, _, _, rfl, hc2, M.cl, M.n3, rfl, two_le, fun p np => fin sb2 C2 h2 np⟩
    | false =>
      refine ite_no c ?_
      obtain ⟨e, he, ek, ea⟩ := edAt_some (hp.2 c)
      have ep : playM (es.map (·.2)) fl d s3 = gx fl e.2 s3 [] := by
        unfold playM
        rw [c, ea]
        exact ex c e.2
      rw [ep] at fin
      refine ⟨_, rfl, td, _, 0, _, rfl, rfl, s1.sqT htd, Deed.at0, dd, d.word, .ref fx, rfl, rfl, kx c, ?_⟩
      refine ⟨rfl, _, rfl, _, rfl, _, rfl, td, _, 1, _, rfl, rfl, s1.sqT htd, Deed.at1, _, rfl, t, _, 1, _, rfl, rfl, s1.sqT ht, rfl, two_le, fun t3 n3 => ?_⟩
      have s3' := Same.upd_new (o := .tup [.str d.name, .int s3.2.1]) n3
      have s4 := s1.trans s3'
      refine sget_read (k := (d.name, s3.2.1)) (e := (e.1, e.2.key)) (hO.same s4) upd_same (List.mem_map.mpr ⟨e, he, rfl⟩) ek ?_
      refine ⟨_, rfl, x, m, e.1, t, fl, [], e.2, s3, rfl, C1.same s3', Nat.zero_le _, (hE e he).same s4, s4.sqT ht, fun H2 t2 sb2 C2 h2 => ?_⟩
      obtain ⟨dx2, fa2, fy2, hc2, _⟩ := C2.ob
      exact ⟨_, rfl, _, rfl, x, CC, dx2, _, _, rfl, hc2, M.cl, M.n3, rfl, two_le, fun p np => fin ((SameBut.of s3').trans sb2) C2 h2 np⟩
end
end Half

namespace Half
open PySem PySem.Spec PyProof.Rows L2
/-! ### what a deed leaves is a state -/
def doneB (ks : List Kk) (nm : Str) (v : Int) : Bool := inR (.int v) 0 0 || has ks (nm, v)
theorem inR_eq {x v : Int} (h : inR (.int x) v v = true) : x = v := by
  have h : (decide (v ≤ x) && decide (x ≤ v)) = true := h
  obtain ⟨a, b⟩ := Bool.and_eq_true_iff.mp h
  have a := of_decide_eq_true a
  have b := of_decide_eq_true b
  omega
theorem is_done {ks : List Kk} {nm : Str} {s : St3} (h : isState ks nm s = true) : doneB ks nm s.2.2 = true := by
  unfold isState at h
  unfold doneB
  split at h
  · obtain ⟨_, b⟩ := Bool.and_eq_true_iff.mp h
    rw [b]
    rfl
  · split at h
    · cases h
    · rename_i c
      have c : ((!has THR s.1 && !decide (s.1 = "left")) || !has ks (nm, s.2.1)) = false := by simpa using c
      have c2 : has ks (nm, s.2.1) = true := by simpa using (Bool.or_eq_false_iff.mp c).2
      split at h
      · rw [inR_eq h, c2, Bool.or_true]
      · exact h
theorem is_made {ks : List Kk} {nm : Str} {x : Str} {v dn : Int} (hx : x ∈ (["failed", "half", "unpacked", "left"] : List Str)) (hv : (nm, v) ∈ ks) (hd : doneB ks nm dn = true) : isState ks nm (x, v, dn) = true := by
  simp only [List.mem_cons, List.not_mem_nil, or_false] at hx
  unfold doneB at hd
  unfold isState
  dsimp only
  rw [has_iff.mpr hv]
  rcases hx with rfl | rfl | rfl | rfl <;> exact hd
theorem is_ready {ks : List Kk} {nm : Str} {v : Int} (hv : (nm, v) ∈ ks) : isState ks nm ("ready", v, v) = true := by
  unfold isState
  dsimp only
  rw [has_iff.mpr hv]
  exact inR_self v
section
variable {ks : List Kk} {nm : Str} {fl : List Int} {o n : Edn} {s : St3} {cs : Cs}
theorem inst_is (h : isState ks nm s = true) (hn : (nm, n.ver) ∈ ks) : isState ks nm (inst fl n s cs).1 = true := by
  unfold inst
  split
  · exact is_made (by simp) hn (is_done h)
  · split
    · exact h
    · exact is_made (by simp) hn (is_done h)
theorem putB_is (h : isState ks nm s = true) (ho : (nm, o.ver) ∈ ks) : isState ks nm (putB fl o n s cs).1 = true := by
  unfold putB
  split
  · exact is_made (by simp) ho (is_done h)
  · split
    · split
      · exact is_made (by simp) ho (is_done h)
      · exact h
    · exact h
theorem upg2_is (h : isState ks nm s = true) (ho : (nm, o.ver) ∈ ks) (hn : (nm, n.ver) ∈ ks) : isState ks nm (upg2 fl o n s cs).1 = true := by
  unfold upg2
  split
  · exact putB_is h ho
  · split
    · exact is_made (by simp) hn (is_done h)
    · split
      · exact is_made (by simp) ho (is_done h)
      · exact putB_is h ho
theorem upg_is (h : isState ks nm s = true) (ho : (nm, o.ver) ∈ ks) (hn : (nm, n.ver) ∈ ks) : isState ks nm (upg fl o n s cs).1 = true := by
  unfold upg
  split
  · split
    · split
      · exact is_made (by simp) ho (is_done h)
      · exact h
    · exact upg2_is h ho hn
  · exact upg2_is h ho hn
theorem setUp_is (h : isState ks nm s = true) (hv : (nm, s.2.1) ∈ ks) : isState ks nm (setUp fl o s cs).1 = true := by
  unfold setUp
  split
  · exact is_made (by simp) hv (is_done h)
  · exact is_ready hv
theorem tout2_is (h : isState ks nm s = true) (hv : (nm, s.2.1) ∈ ks) : isState ks nm (tout2 fl o s cs).1 = true := by
  unfold tout2
  split
  · exact is_made (by simp) hv (is_done h)
  · exact is_made (by simp) hv (is_done h)
theorem tout_is (h : isState ks nm s = true) (hv : (nm, s.2.1) ∈ ks) : isState ks nm (tout fl o s cs).1 = true := by
  unfold tout
  split
  · split
    · split
      · exact is_made (by simp) hv (is_done h)
      · exact h
    · exact tout2_is h hv
  · exact tout2_is h hv
theorem purg_is (h : isState ks nm s = true) : isState ks nm (purg fl o s cs).1 = true := by
  unfold purg
  split
  · exact h
  · rfl
end
theorem edAt_key {es : List Edn} {k : Kk} {e : Edn} (h : edAt es k = some e) : e.key = k := by
  unfold edAt at h
  simpa using List.find?_some h
theorem play_is {ks : List Kk} {es : List Edn} {fl : List Int} {d : Deed} {s : St3} (h : isState ks d.name s = true) (hp : CanPlay ks d s) : isState ks d.name (playM es fl d s).1 = true := by
  unfold playM
  split
  · rename_i c
    unfold unpM
    split
    · exact h
    · rename_i new hn
      have kn : (d.name, new.ver) ∈ ks := by
        have := edAt_key hn
        have e : new.ver = d.ver := congrArg Prod.snd this
        rw [e]
        exact (hp.1 c).1
      split
      · exact inst_is h kn
      · rename_i c2
        split
        · rename_i old ho
          have e : old.ver = s.2.1 := congrArg Prod.snd (edAt_key ho)
          exact upg_is h (by rw [e]; exact (hp.1 c).2 (by simpa using c2)) kn
        · exact h
  · rename_i c
    have kv := hp.2 (by simpa using c)
    split
    · exact h
    · split
      · exact setUp_is h kv
      · split
        · exact tout_is h kv
        · exact purg_is h
/-- what can begin can be played -/
theorem can_play {es : Es} {ss : List (Str × St3)} {d : Deed} {s : St3} (hs : stOf ss d.name = some s) (hw : d.word ∈ DWS) (ok : isState (keysOf es.eds) d.name s = true) (h : refuseW (es.map (·.2)) ss d = none) : CanPlay (keysOf es.eds) d s := by
  have pres : s.1 ≠ "absent" → (d.name, s.2.1) ∈ keysOf es.eds := fun z => isState_key ok z
  unfold refuseW at h
  refine ⟨fun c => ?_, fun c => ?_⟩
  · rw [c] at h
    simp only [if_true] at h
    unfold unpackW at h
    split at h
    · cases h
    · rename_i e he
      refine ⟨?_, fun z => pres fun y => ?_⟩
      · have := List.mem_of_find?_eq_some he
        obtain ⟨x, hx, rfl⟩ := List.mem_map.mp this
        rw [← edAt_key he]
        exact List.mem_map.mpr ⟨(x.1, x.2.key), List.mem_map.mpr ⟨x, hx, rfl⟩, rfl⟩
      · rw [y] at z
        exact absurd z (by decide)
  · rw [c] at h
    simp only [Bool.false_eq_true, if_false] at h
    split at h
    · refine pres fun y => ?_
      split at h
      · unfold setupW at h
        rw [hs] at h
        dsimp only at h
        rw [if_neg (by rw [y]; decide)] at h
        cases h
      · split at h
        · have nt : thereB ss d.name = false := by
            unfold thereB
            rw [hs]
            dsimp only
            rw [y]
            decide
          unfold removeW at h
          rw [nt] at h
          cases h
        · unfold purgeW at h
          rw [hs] at h
          dsimp only at h
          rw [y] at h
          exact absurd h (by decide)
    · cases h
end Half

namespace Half
open PySem PySem.Spec PyProof.Rows L2
/-! ### Refused, check_beginning, run -/
abbrev sIr : Stmt := inClass (top 16) 0
abbrev sCb : Stmt := top 54
abbrev sRun : Stmt := top 55
/-- words that can be told -/
def Fine (ws : List Str) : Prop := (∀ y ∈ ws, ∀ c ∈ y.cps.toList, c < 16 ^ 8) ∧ fmtCost ws ≤ 900
def spErrW (K : PySem.W.Frag) (C : Addr) : Sp := fun vs H Q _ => ∃ (a t : Addr) (ws : List Str), vs = [.ref a, .ref t] ∧ H a = some (exo a C none) ∧ SqT K H t (ws.map V.str) ∧ Fine ws ∧
  ∀ dx, H dx = none → dx ≠ a → Q .non (upd (upd H dx (exd dx [("why", .ref t)])) a (exo a C (some dx)))
theorem scIr : SupScope ["self", "why"] ["self", "why"] (defScope sIr) := ⟨rfl, rfl, rfl, by decide +kernel, rfl, by decide +kernel, by decide +kernel, by decide +kernel, rfl, rfl⟩
def spCb (K : PySem.W.Frag) (C CT CY CR : Addr) : Sp := fun vs H Q E => ∃ (a st t : Addr) (ss : List (Str × St3)) (es : Es) (d : Deed), vs = [.ref a, .ref t] ∧ SysOk K C CT CY H a st ss es ∧ Lean es ∧ SqT K H t d.vs ∧ d.word ∈ DWS ∧ (∀ ws, refuseW (es.map (·.2)) ss d = some ws → Fine ws) ∧
  (refuseW (es.map (·.2)) ss d = none → ∀ H', Same H H' → Q .non H') ∧ (∀ ws, refuseW (es.map (·.2)) ss d = some ws → ∀ H' dd tw, Same H H' → H' dd = some (.xd [("why", .ref tw)]) → SqT K H' tw (ws.map V.str) → E (.ref CR) (some dd) H')
def spRun (K : PySem.W.Frag) (C CT CY CR : Addr) : Sp := fun vs H Q E => ∃ (a st t fa : Addr) (fl : List Int) (ss : List (Str × St3)) (es : Es) (d : Deed), vs = [.ref a, .ref t, .ref fa] ∧ SysOk K C CT CY H a st ss es ∧ Lean es ∧ SqT K H t d.vs ∧ SqT K H fa (fl.map V.int) ∧ d.word ∈ DWS ∧ (∀ ws, refuseW (es.map (·.2)) ss d = some ws → Fine ws) ∧
  (refuseW (es.map (·.2)) ss d = none → ∀ s, stOf ss d.name = some s → ∀ H' p a' m, Same H H' → SqT K H' p [.ref a', .ref m] → SysOk K C CT CY H' a' st (putS ss d.name (playM (es.map (·.2)) fl d s).1) es → MadeAt K H' m (playM (es.map (·.2)) fl d s).2 → Q (.ref p) H') ∧
  (∀ ws, refuseW (es.map (·.2)) ss d = some ws → ∀ H' dd tw, Same H H' → H' dd = some (.xd [("why", .ref tw)]) → SqT K H' tw (ws.map V.str) → E (.ref CR) (some dd) H')
structure DefX (P : Program) (w : World) (K : PySem.W.Frag) (mg : Str → Option Value) (base : Heap) (k : Nat) (x : Str) (ps : List Str) (sp : Sp) : Prop where
  ex : ∃ f fd, FnOk P w K mg base (L2.CX P w) k f fd ps sp ∧ mg x = some (.ref f) ∧ PySem.W.keepIn K (.ref f) = true ∧ Binds K fd ps []
theorem pe_defX {X : Cx} {k : Nat} {x : Str} {ps : List Str} {sp : Sp} {e : Expr} {es : List Expr} {t : TA} {p pos : Pos} {E : XK} (D : DefX X.prog X.w X.K X.mg X.base k x ps sp) (hr : Room k X.A) (hg : Gl X x) (hx : Passes (L2.CX X.prog X.w) X E) (ha : PA X (e :: es) t)
    (h1 : (x == ("__debug__" : Str)) = false := by decide) (h2 : starEach (e :: es) X.env = (false, eval e X.env) :: starEach es X.env := by rfl) (h3 : (backTo pos (starEach es X.env)).any (·.1) = false := by rfl) : PE X (.Call (.Name x p) (e :: es) [] pos) (tCall sp [] E t) :=
  let ⟨_, _, F, hm, hk, hb⟩ := D.ex; pe_call F hr hg hm hk hb .nil hx ha h1 h2 h3
structure TxtR (P : Program) (w : World) (K : PySem.W.Frag) (mg : Str → Option Value) (base : Heap) (CR fR : Addr) (fdR : FuncData) : Prop where
  mgE : mg "Refused" = some (.ref CR)
  sup : SupC P K mg CR
  nF : PySem.W.findIn K (.ref CR) "why" = some none
  iC : PySem.W.findIn K (.ref CR) "__init__" = some (some (.ref fR))
  tI : PySem.W.typeIn K (.ref fR) = some (.type "function")
  er : ErrFn P K CR "Refused.__init__" sIr fR fdR
  bI : Binds K fdR ["self", "why"] []
section
variable {P : Program} {w : World} {K : PySem.W.Frag} {mg : Str → Option Value} {base : Heap} {C CT CY CN CU CI CR fR : Addr} {fdR : FuncData}
theorem ok_ir {f : Addr} {fd : FuncData} (F : ErrFn P K CR "Refused.__init__" sIr f fd) (T : SupC P K mg CR) (nF : PySem.W.findIn K (.ref CR) "why" = some none) : FnOk P w K mg base CX0 1 f fd ["self", "why"] (spErrW K CR) := by
  obtain ⟨oc, od, kV, doc, pm, an, cda, cc, ct, osl, ccl, cdd, vsc, ccs, file, tf, cl, cld, csl, rfl, lk, hcd, hcode, hvs, hfile, hcell⟩ := F.ex
  refine fn_sup (N := ["self", "why"]) lk hcd scIr rfl rfl rfl hcode hvs hfile hcell T (fun vs H Q E h => ?_) (fun _ => rfl) (fun _ => rfl) (fun _ => rfl) (fun A outer s H vs Q E hr h => ?_)
  · obtain ⟨a, t, ws, rfl, _⟩ := h
    rfl
  · obtain ⟨a, t, ws, rfl, ha, ht, hf, k⟩ := h
    refine ⟨a, _, _, rfl, ha, pa_cons (pe_joined (.cons pe_str (.cons (pe_fmtT hr (pv 1)) .nil))) pa_nil, pss_one (ps_ost (pv 0) (pv 1)), ?_⟩
    have fc := hf.2
    refine ⟨_, rfl, (by decide), _, rfl, t, ws, rfl, ht, hf.1, (by rw [sizeLine_eq]; omega), fun mm hm => ⟨_, rfl, ?_, ?_⟩⟩
    · rw [app_len, app_len, sizeLine_eq]
      have : ("the deed cannot begin: " : Str).length = 23 := by decide
      have e0 : (Str.empty).length = 0 := by decide
      omega
    · refine ⟨by show 1 ≤ 1000; decide, ha, ?_⟩
      exact ⟨_, rfl, _, rfl, a, CR, rfl, T.oex, nF, .inl ⟨ha, fun dx h1 h2 => k dx h1 h2⟩⟩
theorem scCb : FnScope ["system", "deed", "why"] ["system", "deed"] (defScope sCb) := ⟨rfl, rfl, rfl, by decide +kernel, rfl, by decide +kernel, by decide +kernel⟩
theorem ok_cb {f : Addr} {fd : FuncData} (F : Fun K "check_beginning" "check_beginning" sCb f fd) (T : TxtR P w K mg base CR fR fdR) (dR : Def P w K mg base 7 "refusal" ["system", "deed"] (spRef K C CT CY)) : FnOk P w K mg base (L2.CX P w) 8 f fd ["system", "deed"] (spCb K C CT CY CR) := by
  refine F.okX scCb (fun vs H Q E h => ?_) (fun cdv A outer s H vs Q E hr h => ?_)
  · obtain ⟨a, st, t, ss, es, d, rfl, _⟩ := h
    rfl
  · obtain ⟨a, st, t, ss, es, d, rfl, hY, lean, ht, hw, fine, kN, kE⟩ := h
    have nd := scCb.nd
    have FI : FnOk P w K mg base CX0 1 fR fdR ["self", "why"] (spErrW K CR) := ok_ir T.er T.sup T.nF
    refine ⟨_, pss_cons (ps_set (i := 2) nd rfl (Or.inl rfl) (pe_def dR hr rfl (pa_cons (pv 0) (pa_cons (pv 1) pa_nil))))
      (pss_one (ps_if (pt_cmp (pc_notN (pv 2))) (pss_one (ps_raise rfl (takes_of rfl rfl rfl rfl) (pmk_oex T.sup.oex T.iC T.tI FI (hr.mono (by decide)) T.bI .nil (fun _ _ _ _ _ _ _ h => h.elim) rfl T.mgE (pa_cons (pv 2) pa_nil)))) pss_nil)), ?_⟩
    refine ⟨_, rfl, _, rfl, a, st, t, ss, es, d, rfl, hY, lean, ht, hw, fun v H1 s1 hv => ?_⟩
    cases c : refuseW (es.map (·.2)) ss d with
    | none =>
      rw [c] at hv
      cases hv
      refine ⟨_, rfl, false, rfl, ?_⟩
      exact iteF (kN c H1 s1)
    | some ws =>
      rw [c] at hv
      obtain ⟨tw, rfl, htw⟩ := hv
      refine ⟨_, rfl, true, rfl, ?_⟩
      refine iteT ?_
      refine ⟨_, rfl, (by show 1 ≤ 1000; decide), fun x hx => ⟨x, tw, ws, rfl, upd_same, (Same.upd_new hx).sqT htw, fine ws c, fun dd hd1 hd2 => ⟨rfl, dd, [("why", .ref tw)], upd_same, ?_, ?_, ?_⟩⟩⟩
      · rw [upd_ne hd2, upd_same]
      · rw [upd_ne hd2] at hd1
        exact hd1
      · rw [upd_ne hd2] at hd1
        have sb : ∀ b o, H1 b = some o → upd (del (upd (upd (upd H1 x (exo x CR none)) dd (exd dd [("why", .ref tw)])) x (exo x CR (some dd))) x) dd (.xd [("why", .ref tw)]) b = some o := fun b o q1 => by
          have nb : b ≠ dd := ne_of_none q1 hd1
          have na : b ≠ x := ne_of_none q1 hx
          rw [upd_ne nb, del_ne na, upd_ne na, upd_ne nb, upd_ne na]
          exact q1
        exact kE ws c _ dd tw (s1.trans sb) upd_same (Same.sqT sb htw)
/-- what can begin is of a package -/
theorem can_name {H : Hp} {a st : Addr} {ss : List (Str × St3)} {es : Es} {d : Deed} (hY : SysOk K C CT CY H a st ss es) (h : refuseW (es.map (·.2)) ss d = none) : d.name ∈ ss.map (·.1) := by
  unfold refuseW at h
  split at h
  · unfold unpackW at h
    split at h
    · cases h
    · rename_i e he
      have := List.mem_of_find?_eq_some he
      obtain ⟨x, hx, rfl⟩ := List.mem_map.mp this
      have k := edAt_key he
      refine (hY.nm.mem _).mpr (List.mem_map.mpr ⟨(d.name, d.ver), ?_, rfl⟩)
      rw [← k]
      exact List.mem_map.mpr ⟨(x.1, x.2.key), List.mem_map.mpr ⟨x, hx, rfl⟩, rfl⟩
  · split at h
    · rename_i c
      exact has_iff.mp c
    · cases h
/-- a system with one state put -/
theorem sys_put {H : Hp} {a x st : Addr} {ss : List (Str × St3)} {es : Es} {n : Str} {s : St3} {ns : List Str} (hY : SysOk K C CT CY H a st ss es) (hn : n ∈ ss.map (·.1)) (ok : isState (keysOf es.eds) n s = true) (hm : IsNm (keysOf es.eds) ns) (h : SysAt K CY H x st (allOf ns (putS ss n s))) : SysOk K C CT CY H x st (putS ss n s) es := by
  have e1 : ns = (putS ss n s).map (·.1) := by rw [put_names hn]; exact hm.uniq hY.nm
  have e2 : allOf ns (putS ss n s) = putS ss n s := by
    rw [e1]
    refine allOf_self ?_
    rw [put_names hn]
    exact hY.nm.nd
  rw [e2] at h
  refine ⟨h, hY.sto, hY.ed, by rw [put_names hn]; exact hY.nm, fun p hp => ?_, hY.few⟩
  rcases put_mem hn p hp with rfl | ⟨q, _⟩
  · exact ok
  · exact hY.ok p q
theorem put_good {H : Hp} {a st : Addr} {ss : List (Str × St3)} {es : Es} {n : Str} {s : St3} (hY : SysOk K C CT CY H a st ss es) (hn : n ∈ ss.map (·.1)) (ok : isState (keysOf es.eds) n s = true) : ∀ x ∈ (putS ss n s).map (·.1), badP (keysOf es.eds) (putS ss n s) x = false := fun x hx => by
  rw [put_names hn] at hx
  have a1 := (hY.nm.mem x).mp hx
  have e : isState (keysOf es.eds) x ((stOf (putS ss n s) x).getD AB) = true := by
    rw [putS_at]
    by_cases c : x = n
    · rw [if_pos c, c]
      exact ok
    · rw [if_neg c]
      obtain ⟨s', hs⟩ := stOf_some hx
      rw [hs]
      exact hY.ok _ (stOf_in hs)
  unfold badP
  rw [has_iff.mpr a1, e]
  rfl
structure PlayF (P : Program) (w : World) (K : PySem.W.Frag) (mg : Str → Option Value) (base : Heap) (C CT : Addr) : Prop where
  ex : ∃ (f : Addr) (fd : FuncData) (z : Addr) (ds : List Value), FnOk P w K mg base CX0 7 f fd ["store", "state", "deed", "fails", "faulty"] (spPlay K C CT) ∧ mg "play" = some (.ref f) ∧ PySem.W.keepIn K (.ref f) = true ∧ Binds K fd ["store", "state", "deed", "fails", "faulty"] ds ∧ Vals [.ref z] ds ∧ ∀ H, SqT K H z []
theorem scRun : FnScope ["system", "deed", "fails", "state", "calls"] ["system", "deed", "fails"] (defScope sRun) := ⟨rfl, rfl, rfl, by decide +kernel, rfl, by decide +kernel, by decide +kernel⟩
theorem ok_run {f : Addr} {fd : FuncData} (F : Fun K "run" "run" sRun f fd) (Y : SyF P w K mg base C CT CY CN CU) (YW : YwF P w K mg base CT CY CI CN) (PF : PlayF P w K mg base C CT) (dC : DefX P w K mg base 8 "check_beginning" ["system", "deed"] (spCb K C CT CY CR)) : FnOk P w K mg base (L2.CX P w) 9 f fd ["system", "deed", "fails"] (spRun K C CT CY CR) := by
  refine F.okX scRun (fun vs H Q E h => ?_) (fun cdv A outer s H vs Q E hr h => ?_)
  · obtain ⟨a, st, t, fa, fl, ss, es, d, rfl, _⟩ := h
    rfl
  · obtain ⟨a, st, t, fa, fl, ss, es, d, rfl, hY, lean, ht, hfa, hw, fine, kN, kE⟩ := h
    have nd := scRun.nd
    have r2 : Room 2 _ := hr.mono (by decide)
    have r6 : Room 6 _ := hr.mono (by decide)
    have r7 : Room 7 _ := hr.mono (by decide)
    obtain ⟨fp, fdp, z, ds, Fp, gp, kp, bp, vd, hz⟩ := PF.ex
    obtain ⟨fw, fdw, Mw, Fw, bw⟩ := YW.ex
    refine ⟨_, pss_cons (ps_expr (pe_defX dC hr rfl (passes_call (takes_of rfl rfl rfl rfl) (fun _ _ _ _ h => h)) (pa_cons (pv 0) (pa_cons (pv 1) pa_nil))))
      (pss_cons (ps_asg (pe_call Fp r7 rfl gp kp bp vd pass0 (pa_cons (pe_ysto Y r2 (pv 0)) (pa_cons (pe_yget Y r2 (pv 0) (pe_ix ix_tup (pv 1) pe_int (fun _ _ => rfl))) (pa_cons (pv 1) (pa_cons (pv 2) pa_nil))))) (pg_tup rfl (pgs_cons (pg_name (i := 3) nd rfl (Or.inl rfl)) (pgs_cons (pg_name (i := 4) nd rfl (Or.inl rfl)) pgs_nil))))
      (pss_one (ps_ret (pe_tup (pa_cons (pe_meth (pv 0) Y.cl Mw Fw r6 bw .nil (passes_call (takes_of rfl rfl rfl rfl) (fun _ _ _ _ h => h)) (pa_cons (pe_ix ix_tup (pv 1) pe_int (fun _ _ => rfl)) (pa_cons (pv 3) pa_nil))) (pa_cons (pv 4) pa_nil)))))), ?_⟩
    refine ⟨_, rfl, _, rfl, a, st, t, ss, es, d, rfl, hY, lean, ht, hw, fine, fun hn H1 s1 => ?_, kE⟩
    have hm := can_name hY hn
    obtain ⟨s3, hs⟩ := stOf_some hm
    have hok := hY.ok _ (stOf_in hs)
    have hY1 := hY.same s1
    have ht1 := s1.sqT ht
    refine ⟨_, rfl, ysto_read hY1.sys ⟨_, rfl, _, rfl, t, _, 1, _, rfl, rfl, ht1, Deed.at1, yget_read hY1.sys hs fun t2 ht2 => ?_⟩⟩
    have cp := can_play hs hw hok hn
    refine ⟨_, rfl, _, rfl, st, t2, t, fa, z, fl, es, s3, d, rfl, hY1.sto, hY1.ed, ht2, ht1, s1.sqT hfa, hz _, hw, cp, fun H2 p t3 m s2 hp ht3 hmd => ?_⟩
    have s2' := s1.trans s2
    have hY2 := hY.same s2'
    refine ⟨p, _, rfl, hp, rfl, _, _, rfl, _, _, rfl, rfl, ?_⟩
    have ok' : isState (keysOf es.eds) d.name (playM (es.map (·.2)) fl d s3).1 = true := play_is hok cp
    generalize hr1 : playM (es.map (·.2)) fl d s3 = r1 at ht3 hmd ok'
    have kN := kN hn s3 hs
    rw [hr1] at kN
    have good := put_good hY2 hm ok'
    obtain ⟨dx, fs, ha⟩ := hY2.sys.ins
    have hlen : ss.length ≤ 40 := by
      have := fewN hY
      rwa [List.length_map] at this
    have lk : fs.lookup ("with_state" : Str) = none := by
      obtain ⟨dx', d', kvs', h1, _⟩ := hY2.sys.ex
      rw [ha] at h1
      cases h1
      rfl
    have few : es.eds.length ≤ 40 := by unfold Es.eds; rw [List.length_map]; exact hY.few
    refine ⟨_, rfl, a, dx, fs, rfl, ha, lk, _, rfl, t, _, 1, _, rfl, rfl, s2'.sqT ht, Deed.at1, _, rfl, a, st, t3, ss, es.eds, d.name, r1.1, rfl, hY2.sys, hY2.sto, few, hlen, ht3, fun zn => absurd hm zn, fun _ _ x ns H3 hns s3' hx => ?_, fun _ n hn' hb _ => ?_⟩
    · refine ⟨_, rfl, two_le, fun p2 np2 => ?_⟩
      have sn := Same.upd_new (o := .tup [.ref x, .ref m]) np2
      have s4 := s2'.trans s3'
      obtain ⟨ps, g1, g2⟩ := hmd
      exact kN _ p2 x m (s4.trans sn) (SqT.of upd_same) ((sys_put (hY.same s4) hm ok' hns hx).same sn) ⟨ps, sn _ _ (s3' _ _ g1), g2.kp (s3'.trans sn).kp⟩
    · rw [good n hn'] at hb
      cases hb
end
end Half

/-! targets: o.f among others; a, *rest = a list -/
namespace L2
open PySem PySem.Spec PyProof.Rows
def gFld (K : PySem.W.Frag) (to : TE) (f : Str) : TG := fun v σ H Q => to σ H fun x H1 => ∃ a C dx fs, x = .ref a ∧ H1 a = some (.ins C dx fs) ∧ Cls K C ∧ NoAttr K C f ∧ fs.length < 1000 ∧ Q σ (upd H1 a (.ins C dx (putF f v fs)))
theorem pg_fld {X : Cx} {o : Expr} {f : Str} {pos : Pos} {to : TE} (ho : PE X o to)
    (ha : ∀ v, assign (.Attribute o f pos) X.env v = (do
      let ov ← holding [v] (eval o X.env)
      standAt pos.atName
      holding [v, ov] (setAttr ov f v)
      release [v, ov] []) := by intro _; rfl) : PG X (.Attribute o f pos) (gFld X.K to f) := by
  refine ⟨fun pins s σ H v u Q I r h => ?_⟩
  rw [ha]
  refine wpAny_bind (wpAny_holding (thn (ho.run pins s σ H _ I h) fun ov s1 ⟨x, H1, I1, r1, a, C, dx, fs, ex, ea, c, n, l, q⟩ => ?_))
  subst ex
  obtain rfl : ov = Value.ref a := r1
  refine wpAny_bind (wpAny_standAt (wpAny_bind (wpAny_holding (setattr_ok I1 ea c n l r fun s3 I3 => ?_))))
  exact wpAny_release ⟨σ, _, I3, q⟩
/-- a, *rest = a list with one item at least -/
def gStarL (K : PySem.W.Frag) (t : TGs) : TG := fun v σ H Q => ∃ a x xs, v = .ref a ∧ SqL K H a (x :: xs) ∧ ∀ p, H p = none → t [x, .ref p] σ (upd H p (.lst xs)) Q
theorem pg_starL {X : Cx} {e1 e2 : Expr} {sp pos : Pos} {k : Nat} {t : TGs} (hc : X.calm = true) (h : PGs X [e1, e2] t)
    (hn : (assignEach [e1, .Starred e2 sp] X.env).length = 2 := by rfl) (hst : (assignEach [e1, .Starred e2 sp] X.env).findIdx? (·.1) = some 1 := by rfl)
    (hm : (assignEach [e1, .Starred e2 sp] X.env).map (·.2) = (assignEach [e1, e2] X.env).map (·.2) := by rfl) : PG X (.Tuple [e1, .Starred e2 sp] k pos) (gStarL X.K t) := by
  refine ⟨fun pins s σ H v u Q I r hw => ?_⟩
  obtain ⟨a, x, xs, e1', hq, hw⟩ := hw
  subst e1'
  cases r
  obtain ⟨its, rv, pl, hz⟩ := I.list hq
  have hl := pl.isList
  have hh := I.ok.hd hc
  cases rv with
  | @cons x' u0 xs' us r0 rr =>
  have hlen := rr.length
  have hzz : us.length + 1 ≤ sizeLine := by simpa [hlen] using hz
  rw [PyProof.Rows.assign_Tuple]
  refine wpAny_bind (wpAny_standAt ?_)
  unfold unpack
  rw [hn, hst]
  refine wpAny_bind (wpAny_holding ?_)
  have hlt : a ≠ s.heap.objs.size := by obtain ⟨o, ho, _⟩ := hl; exact Nat.ne_of_lt (Heap.lt_size ho)
  unfold unpackItems
  refine wpAny_bind ?_
  unfold notIterableAtAll
  refine wpAny_bind (wpAny_specialOf hl.typeIs slot_list_iter.lookup ?_)
  refine wpAny_pure ?_
  simp only [Bool.false_eq_true, if_false]
  refine wpAny_bind (wpAny_holding (wpAny_pyIter_list hl ?_))
  refine wpAny_bind (wpAny_holding (PySem.W.kun_draw hlt 1 0 _ _ ⟨_, Heap.get?_push_size _ rfl, rfl, rfl⟩ (hl.push _) (by simp) fun h₁ hit₁ hs₁ => ?_))
  have hl₁ := (hl.push _).extBut hs₁.extBut hlt
  rw [Nat.zero_add] at hit₁
  obtain ⟨oi, hoi, _⟩ := id hit₁
  obtain ⟨ol, hol, _⟩ := id hl₁
  rw [List.drop_zero]
  have hf : ((u0 :: us).toArray.toList.take 1) = [u0] := by simp
  rw [hf, if_neg (by simp)]
  refine wpAny_bind (wpAny_holding (PySem.W.kun_collect (s := { s with heap := h₁ }) (T := "list_iterator") (.inr (.inr (.inl rfl))) (Walks.list (A := X.A.in1) hh s.heap.objs.size a hlt (u0 :: us).toArray) (fun j u st => st.1.typeIs) (k := 1) (by simp) ⟨hit₁, hl₁⟩ (Heap.lt_size hoi) (Heap.lt_size hol) (fun h₂ tk hk => ?_) (by simpa using hzz)))
  have hd : (u0 :: us).toArray.toList.drop 1 = us := by simp
  rw [hd]
  show wpAny _ _ (newList (us.take us.length) >>= fun d => pure ([u0] ++ [d] ++ us.drop us.length)) _ _ _
  rw [List.take_length, List.drop_length]
  have he : ∀ b o, s.heap.get? b = some o → h₂.get? b = some o := fun b o e => hk b o (Nat.ne_of_lt (Heap.lt_size e)) (hs₁.extBut b o (Nat.ne_of_lt (Heap.lt_size e)) (Heap.get?_push_of_some _ e))
  have I2 : Inv X pins σ H { s with heap := h₂, toks := tk } := I.kept he
  refine wpAny_bind (wpAny_newList ?_ (by omega))
  refine wpAny_pure ?_
  rw [hm]
  have e : (h₂.push { cls := .type "list", data := .seq us.toArray }).get? h₂.objs.size = some { cls := .type "list", data := .seq us.toArray } := Heap.get?_push_size _ rfl
  refine h.run pins _ σ (upd H h₂.objs.size (.lst xs)) [x, .ref h₂.objs.size] [u0, .ref h₂.objs.size] Q ?_ (.cons r0 (.cons rfl .nil)) (hw _ (I2.hok.fresh (Nat.le_refl _)))
  exact I2.laid (t' := tk) (fun b o z => Heap.get?_push_of_some _ z) (Nat.le_refl _) ⟨by omega, us, _, rr, e⟩
end L2

/-! for x, y in zip(a list, a tuple) -/
namespace L2M
open PySem PySem.Spec PyProof.Rows
open PySem.Sem (wp)
/-- what stands behind each of the five new objects -/
abbrev g1 (h : Heap) (a : Addr) : Heap := h.push { cls := .type "list_iterator", data := .fields #[.ref a, .int 0 0] }
abbrev g2 (h : Heap) (a b : Addr) : Heap := (g1 h a).push { cls := .type "tuple_iterator", data := .fields #[.ref b, .int 0 0] }
abbrev g3 (h : Heap) (a b : Addr) : Heap := (g2 h a b).push { cls := .type "tuple", data := .seq #[.ref h.objs.size, .ref (g1 h a).objs.size] }
abbrev g4 (h : Heap) (a b : Addr) : Heap := (g3 h a b).push { cls := .type "tuple", data := .seq #[.none, .none] }
abbrev g5 (h : Heap) (a b : Addr) : Heap := (g4 h a b).push { cls := .type "zip", data := .fields #[.none, .bool false, .bool false, .ref (g2 h a b).objs.size, .ref (g3 h a b).objs.size] }
theorem new_zip (a b : Addr) (us vs : Array Value) : Meets (Builtin.«zip.__new__» ⟨[.type "zip", .ref a, .ref b], []⟩) (fun _ R t => t.heap.IsList a us ∧ t.heap.IsTuple b vs ∧ R (.ok (.ret (.ref (g4 t.heap a b).objs.size))) { t with heap := g5 t.heap a b }) := .of_wp fun pr wo ar R t z => by
  obtain ⟨hp, ge, dr, tk, os⟩ := t
  obtain ⟨za, zb, z⟩ := z
  have isz := sub_zip
  have ya : Heap.IsList (Shared.heap ⟨hp, ge, dr, tk, os⟩) a us := za
  have yb : Heap.IsTuple (Shared.heap ⟨hp.push { cls := .type "list_iterator", data := .fields #[.ref a, .int 0 0] }, ge, dr, tk, os⟩) b vs := Heap.IsTuple.push zb _
  wp_walk using wpAny_pyIter_list ya, wpAny_pyIter_tuple yb
  exact ⟨_, rfl, z⟩
theorem call_zip {pr : Program} {wo : World} {ar : Around} {E : Value → Shared → Prop} {t : Shared} {a b : Addr} {us vs : Array Value} {Q : Value → Shared → Prop} (za : t.heap.IsList a us) (zb : t.heap.IsTuple b vs)
    (k : ∀ h', IsZip h' (t.heap.objs.size + 4) (t.heap.objs.size + 2) (t.heap.objs.size + 3) .none → IsTupOf2 h' (t.heap.objs.size + 2) (.ref t.heap.objs.size) (.ref (t.heap.objs.size + 1)) → IsTupOf2 h' (t.heap.objs.size + 3) .none .none →
      h'.IsListIter t.heap.objs.size a 0 → h'.IsTupleIter (t.heap.objs.size + 1) b 0 → (∀ c o, t.heap.get? c = some o → h'.get? c = some o) → Q (.ref (t.heap.objs.size + 4)) { t with heap := h' }) : wpAny (model pr wo) ar (call (.type "zip") [.ref a, .ref b]) Q E t := by
  refine callType_new F.called_zip (by decide) (F.typeCall_zip_2 _ _) (F.newCall_zip_2 _ _) (fun obj => F.args_object_init_3 obj _ _) F.entry_zip_new (new_zip a b us vs) ⟨za, zb, ?_⟩
  have n1 : (g1 t.heap a).objs.size = t.heap.objs.size + 1 := Heap.size_push ..
  have n2 : (g2 t.heap a b).objs.size = t.heap.objs.size + 2 := by rw [Heap.size_push, n1]
  have n3 : (g3 t.heap a b).objs.size = t.heap.objs.size + 3 := by rw [Heap.size_push, n2]
  have n4 : (g4 t.heap a b).objs.size = t.heap.objs.size + 4 := by rw [Heap.size_push, n3]
  have e5 : (g5 t.heap a b).get? (g4 t.heap a b).objs.size = some _ := Heap.get?_push_size _ rfl
  have e4 : (g5 t.heap a b).get? (g3 t.heap a b).objs.size = some _ := Heap.get?_push_of_some _ (Heap.get?_push_size _ rfl)
  have e3 : (g5 t.heap a b).get? (g2 t.heap a b).objs.size = some _ := Heap.get?_push_of_some _ (Heap.get?_push_of_some _ (Heap.get?_push_size _ rfl))
  have e2 : (g5 t.heap a b).get? (g1 t.heap a).objs.size = some _ := Heap.get?_push_of_some _ (Heap.get?_push_of_some _ (Heap.get?_push_of_some _ (Heap.get?_push_size _ rfl)))
  have e1 : (g5 t.heap a b).get? t.heap.objs.size = some _ := Heap.get?_push_of_some _ (Heap.get?_push_of_some _ (Heap.get?_push_of_some _ (Heap.get?_push_of_some _ (Heap.get?_push_size _ rfl))))
  show _ ∧ _
  rw [n2, n3, n4] at e5
  rw [n1, n2] at e3
  rw [n3] at e4
  rw [n1] at e2
  rw [n4]
  exact ⟨⟨_, e5, rfl⟩, k _ e5 e3 e4 ⟨_, e1, rfl, rfl⟩ ⟨_, e2, rfl, rfl⟩ fun c o z => Heap.get?_push_of_some _ (Heap.get?_push_of_some _ (Heap.get?_push_of_some _ (Heap.get?_push_of_some _ (Heap.get?_push_of_some _ z))))⟩
end L2M
namespace L2
open PySem PySem.Spec PyProof.Rows
/-- the list at a, the tuple at b -/
def ItzM (K : PySem.W.Frag) (a b : Addr) : It :=
  ⟨fun i H => ∃ (xs ys : List V) (x y : V), SqL K H a xs ∧ SqT K H b ys ∧ xs[i]? = some x ∧ ys[i]? = some y,
   fun i H v H' => ∃ T x y, v = .ref T ∧ H T = none ∧ H' = upd H T (.tup [x, y]) ∧ (∀ xs, SqL K H a xs → xs[i]? = some x) ∧ ∀ ys, SqT K H b ys → ys[i]? = some y,
   fun i H => ∃ xs ys : List V, SqL K H a xs ∧ SqT K H b ys ∧ xs.length = i ∧ ys.length = i⟩
section
variable {P : Program} {w : World} {K : PySem.W.Frag} {elts : List Expr} {kk : Nat} {tpos : Pos} {a b z TI TO i1 i2 : Addr}
theorem turn_zipM (S : ZipSep2 z TI TO i1 i2 [i1, a] [i2, b]) (na : a ≠ i1) (nb : b ≠ i2) :
    Turn P w K (.Tuple elts kk tpos) (ItzM K a b) [z, TI, TO, i1, i2] z (fun i h => IsZip h z TI TO .none ∧ IsTupOf2 h TI (.ref i1) (.ref i2) ∧ (∃ x y, IsTupOf2 h TO x y) ∧ h.IsListIter i1 a i ∧ h.IsTupleIter i2 b i) where
  mem := by simp
  obj := fun i h st c hc => by
    obtain ⟨zz, zI, ⟨x, y, zO⟩, ⟨p1, q1, _, r1⟩, ⟨p2, q2, _, r2⟩⟩ := st
    have cs : c = z ∨ c = TI ∨ c = TO ∨ c = i1 ∨ c = i2 := by simpa using hc
    rcases cs with m | m | m | m | m
    · rw [m]; exact ⟨_, zz, fun v n => nomatch n⟩
    · rw [m]; exact ⟨_, zI, fun v n => nomatch n⟩
    · rw [m]; exact ⟨_, zO, fun v n => nomatch n⟩
    · exact ⟨p1, by rw [m]; exact q1, fun v n => by rw [r1] at n; cases n⟩
    · exact ⟨p2, by rw [m]; exact q2, fun v n => by rw [r2] at n; cases n⟩
  keep := fun i h h' st k => by
    obtain ⟨zz, zI, ⟨x, y, zO⟩, h1, h2⟩ := st
    exact ⟨k z (by simp) _ zz, k TI (by simp) _ zI, ⟨x, y, k TO (by simp) _ zO⟩, h1.at fun o m => k i1 (by simp) o m, h2.at fun o m => k i2 (by simp) o m⟩
  item := by
    intro X hP hw hK hc i pins s σ H E I hf st hg
    subst hP hw hK
    obtain ⟨zz, zI, ⟨x0, y0, zO⟩, h1, h2⟩ := st
    obtain ⟨xs, ys, x, y, qa, qb, hx, hy⟩ := hg
    obtain ⟨us, ru, pa, _⟩ := I.list qa
    obtain ⟨vs, rv, pb, _⟩ := I.tuple qb
    obtain ⟨u, hu, r1⟩ := ru.get hx
    obtain ⟨v, hv, r2⟩ := rv.get hy
    have lz : z < s.heap.objs.size := Heap.lt_size zz
    have lu : i < us.toArray.size := by
      rw [List.size_toArray]
      exact (List.getElem?_eq_some_iff.mp hu).1
    have lv : i < vs.toArray.size := by
      rw [List.size_toArray]
      exact (List.getElem?_eq_some_iff.mp hv).1
    have hh := I.ok.hd hc
    refine wpAny_pyNext_zipD2_item S (Draws.list (A := X.A.in1) (by exact hh) i1 a na us.toArray) (Draws.tuple (A := X.A.in1) (by exact hh) i2 b nb vs.toArray) zz zI zO ⟨h1, pa.isList⟩ ⟨h2, pb⟩ lu lv fun u' v' h' tk e1 e2 z' O' s1 s2 T' sz kp => ?_
    have eu : u' = u := by
      have : us[i]? = some u' := by simpa using e1
      rw [hu] at this
      exact (Option.some.inj this).symm
    have ev : v' = v := by
      have : vs[i]? = some v' := by simpa using e2
      rw [hv] at this
      exact (Option.some.inj this).symm
    subst eu ev
    refine ⟨_, rfl, wpAny_letOwnedTupleGo_zip (s := { s with heap := h', toks := tk }) z' fun h'' z'' sb => ?_⟩
    have T2 : h''.get? s.heap.objs.size = some { cls := .type "tuple", data := .seq #[u', v'] } := (sb.2 _ (Nat.ne_of_gt lz)).trans T'
    have new : ObjOk X.prog X.w (upd H s.heap.objs.size (.tup [x, y])) h'' s.heap.objs.size (.tup [x, y]) := ⟨by show 2 ≤ sizeLine; decide, [u', v'], .cons r1 (.cons r2 .nil), ⟨_, T2, rfl, _, rfl⟩⟩
    have J : Inv X pins σ (upd H s.heap.objs.size (.tup [x, y])) { s with heap := h'', toks := tk } :=
      I.turnedNew (t' := tk) (ch := [z, TI, TO, i1, i2]) (fun c o nb m => (sb.2 c (fun m' => nb (by simp [m']))).trans (kp c o (fun m' => nb (by simp [m'])) (fun m' => nb (by simp [m'])) (fun m' => nb (by simp [m'])) (fun m' => nb (by simp [m'])) m)) hf (Nat.le_refl _) new
    refine ⟨.ref s.heap.objs.size, _, J, rfl, ⟨_, x, y, rfl, I.hok.fresh (Nat.le_refl _), rfl, fun l hl => by rw [I.list_inj hl qa]; exact hx, fun l hl => by rw [I.tuple_inj hl qb]; exact hy⟩, ⟨z'', ?_, ⟨u', v', ?_⟩, ?_, ?_⟩, fun c hcm => ?_⟩
    · exact (sb.2 _ S.TIz).trans (kp _ _ S.TIz S.TITO S.TIi1 S.TIi2 zI)
    · exact (sb.2 _ S.TOz).trans O'
    · exact s1.1.at fun o m => (sb.2 _ (Ne.symm S.zi1)).trans m
    · exact s2.1.at fun o m => (sb.2 _ (Ne.symm S.zi2)).trans m
    · have lt : c < s.heap.objs.size := by
        have cs : c = z ∨ c = TI ∨ c = TO ∨ c = i1 ∨ c = i2 := by simpa using hcm
        rcases cs with m | m | m | m | m
        · rw [m]; exact lz
        · rw [m]; exact Heap.lt_size zI
        · rw [m]; exact Heap.lt_size zO
        · rw [m]; obtain ⟨_, e1, _⟩ := h1; exact Heap.lt_size e1
        · rw [m]; obtain ⟨_, e2, _⟩ := h2; exact Heap.lt_size e2
      rw [upd_ne (Nat.ne_of_lt lt)]
      exact (hf c hcm).1
  done := by
    intro X hP hw hK hc i pins s σ H E I hf st hg
    subst hP hw hK
    obtain ⟨zz, zI, ⟨x0, y0, zO⟩, h1, h2⟩ := st
    obtain ⟨xs, ys, qa, qb, ha, hb⟩ := hg
    obtain ⟨us, ru, pa, _⟩ := I.list qa
    obtain ⟨vs, rv, pb, _⟩ := I.tuple qb
    have l1 := ru.length
    have l2 := rv.length
    have s1 : us.toArray.size = us.length := List.size_toArray ..
    have s2 : vs.toArray.size = vs.length := List.size_toArray ..
    have hh := I.ok.hd hc
    exact wpAny_pyNext_zipD2_end S (Draws.list (A := X.A.in1) (by exact hh) i1 a na us.toArray) (Draws.tuple (A := X.A.in1) (by exact hh) i2 b nb vs.toArray) zz zI zO ⟨h1, pa.isList⟩ ⟨h2, pb⟩ (by omega) (by omega) (.inl (by omega)) fun h' tk kp => ⟨rfl, I.turnedL (t' := tk) (ch := [z, TI, TO, i1, i2]) (fun c o nb m =>
      kp c o (fun m' => nb (by simp [m'])) (fun m' => nb (by simp [m'])) (fun m' => nb (by simp [m'])) (fun m' => nb (by simp [m'])) m) hf⟩
  self := fun A i s Q E st h => wpAny_pyIter_zip st.1 h
end
theorem zip_apart {n a b : Nat} (la : a < n) (lb : b < n) : ZipSep2 (n + 4) (n + 2) (n + 3) n (n + 1) [n, a] [n + 1, b] := by
  have out : ∀ c x y : Nat, c ≠ x → c ≠ y → c ∉ [x, y] := fun c x y h1 h2 m => by
    rcases List.mem_cons.mp m with z | z
    · exact h1 z
    · exact h2 (List.mem_singleton.mp z)
  exact ⟨by show n + 2 ≠ n + 4; omega, by show n + 3 ≠ n + 4; omega, by show n + 2 ≠ n + 3; omega, by show n + 2 ≠ n; omega, List.mem_cons_self .., out _ _ _ (by omega) (by omega), out _ _ _ (by omega) (by omega), by show n + 2 ≠ n + 1; omega, List.mem_cons_self .., out _ _ _ (by omega) (by omega), out _ _ _ (by omega) (by omega), out _ _ _ (by omega) (by omega), out _ _ _ (by omega) (by omega)⟩
def iZipM (K : PySem.W.Frag) (ta : TA) : TI := fun σ H R => ta σ H fun vs H1 => ∃ a b xs ys, vs = [.ref a, .ref b] ∧ SqL K H1 a xs ∧ SqT K H1 b ys ∧ R (ItzM K a b) H1
theorem pi_zipM {X : Cx} {e e2 : Expr} {ta : TA} {p pos tpos : Pos} {elts : List Expr} {kk : Nat} (hg : Gl X "zip") (hm : X.mg "zip" = none) (ha : PA X [e, e2] ta)
    (h1 : starEach [e, e2] X.env = (false, eval e X.env) :: starEach [e2] X.env := by rfl) (h2 : (backTo pos (starEach [e2] X.env)).any (·.1) = false := by rfl) :
    PI X (.Tuple elts kk tpos) (.Call (.Name "zip" p) [e, e2] [] pos) (iZipM X.K ta) := by
  refine ⟨fun pins s σ H R I h => ?_⟩
  refine Call_ (ld_blt I hg hm PyProof.Rows.boot_zip (PyProof.Rows.callWith_type1 (thn (ha.run pos pins s σ H _ I h) fun us t ⟨vs, H1, J, r, q⟩ => ?_) h1 h2))
  obtain ⟨a, b, xs, ys, ex, qa, qb, q⟩ := q
  subst ex
  cases r with
  | cons r rr =>
    cases rr with
    | cons r' rr =>
      cases rr
      cases r
      cases r'
      obtain ⟨ls, rl, pa, _⟩ := J.list qa
      obtain ⟨ts, rt, pb, _⟩ := J.tuple qb
      have la : a < t.heap.objs.size := by
        obtain ⟨o, ho, _⟩ := pa.isList
        exact Heap.lt_size ho
      have lb : b < t.heap.objs.size := by
        obtain ⟨o, ho, _⟩ := id pb
        exact Heap.lt_size ho
      have fresh : ∀ c, c ∈ [t.heap.objs.size + 4, t.heap.objs.size + 2, t.heap.objs.size + 3, t.heap.objs.size, t.heap.objs.size + 1] → FpOk X pins H1 c := fun c m => by
        have le : t.heap.objs.size ≤ c := by
          have : c = t.heap.objs.size + 4 ∨ c = t.heap.objs.size + 2 ∨ c = t.heap.objs.size + 3 ∨ c = t.heap.objs.size ∨ c = t.heap.objs.size + 1 := by simpa using m
          omega
        exact J.fpOk le (J.hok.fresh le)
      refine L2M.call_zip pa.isList pb fun h' zz zI zO i1 i2 kp => wpAny_pyIter_zip zz ?_
      have J2 : Inv X pins σ H1 { t with heap := h' } := J.kept (t' := t.toks) kp
      have S : ZipSep2 (t.heap.objs.size + 4) (t.heap.objs.size + 2) (t.heap.objs.size + 3) t.heap.objs.size (t.heap.objs.size + 1) [t.heap.objs.size, a] [t.heap.objs.size + 1, b] := zip_apart la lb
      exact ⟨t.heap.objs.size + 4, _, _, _, H1, rfl, J2, turn_zipM S (Nat.ne_of_lt la) (Nat.ne_of_lt (Nat.lt_succ_of_lt lb)), ⟨zz, zI, ⟨_, _, zO⟩, i1, i2⟩, fresh, q⟩
theorem walk_zipM {K : PySem.W.Frag} {a b : Addr} {xs ys : List V} {n : Nat} (h1 : xs.length = n) (h2 : ys.length = n) : Walk (ItzM K a b) n (fun H => SqL K H a xs ∧ SqT K H b ys) (YPair (fun i => xs[i]?) (fun i => ys[i]?)) := by
  refine ⟨fun i _ hi q => ?_, fun _ q => ⟨xs, ys, q.1, q.2, h1, h2⟩, fun i H v H' _ q y => ?_⟩
  · have l1 : i < xs.length := by omega
    have l2 : i < ys.length := by omega
    exact ⟨xs, ys, xs[i], ys[i], q.1, q.2, List.getElem?_eq_getElem l1, List.getElem?_eq_getElem l2⟩
  · obtain ⟨T, x, y, e1, e2, e3, e4, e5⟩ := y
    exact ⟨T, x, y, e1, e2, e3, e4 xs q.1, e5 ys q.2⟩
end L2

namespace Half
open PySem PySem.Spec PyProof.Rows L2
/-! ### numerals, rising numbers -/
abbrev sNml : Stmt := top 7
abbrev sAscI : Stmt := top 8
def DIG : Str := "0123456789"
def isNum (z : Str) : Bool := decide (1 ≤ (z.length : Int)) && decide ((z.length : Int) ≤ 2) && (z.cps.toList.all fun c => decide (c ∈ DIG.cps.toList)) && (decide (z = "0") || !decide (z.cps.toList.headD 0 = 48))
def numOf (z : Str) : Nat := NumText.digitsVal z.cps.toList
def ascI (xs : List Int) : Bool := (List.range (xs.length - 1)).all fun i => decide (xs.getD i 0 < xs.getD (i + 1) 0)
theorem num_int {z : Str} (h : isNum z = true) : PySem.intText? z = some ((numOf z : Nat) : Int) ∧ z.length ≤ 2 := by
  unfold isNum at h
  simp only [Bool.and_eq_true] at h
  obtain ⟨⟨⟨h1, h2⟩, h3⟩, _⟩ := h
  have l1 : 1 ≤ (z.length : Int) := of_decide_eq_true h1
  have l2 : (z.length : Int) ≤ 2 := of_decide_eq_true h2
  have hl : z.length = z.cps.toList.length := by rw [Array.length_toList]; rfl
  refine ⟨?_, by omega⟩
  have e : z = SX.S z.cps.toList := by first | rfl | (unfold SX.S; rfl)
  refine Eq.trans (congrArg PySem.intText? e) (SX.int_S ?_ (fun q => ?_) (by omega))
  · refine List.all_eq_true.mpr fun c hc => ?_
    have m : c ∈ DIG.cps.toList := of_decide_eq_true (List.all_eq_true.mp h3 c hc)
    have : ∀ c ∈ DIG.cps.toList, (decide (48 ≤ c) && decide (c ≤ 57)) = true := by decide
    exact this c m
  · rw [q] at hl
    simp only [List.length_nil] at hl
    omega
def spNml : Sp := fun vs H Q _ => ∃ z : Str, vs = [.str z] ∧ z.length ≤ 1000 ∧ ∀ H', Same H H' → Q (.bl (isNum z)) H'
def spAscI (K : PySem.W.Frag) : Sp := fun vs H Q _ => ∃ (a : Addr) (ss : List Int), vs = [.ref a] ∧ SqL K H a (ss.map V.int) ∧ ss.length ≤ 100 ∧ ∀ H', Same H H' → Q (.bl (ascI ss)) H'
structure TxtN (mg : Str → Option Value) : Prop where
  len : mg "len" = none
  all : mg "all" = none
  ran : mg "range" = none
  dig : ∃ t, mg "DIGITS" = some (.str DIG t)
  lon : ∃ t, mg "LONGEST_NUMERAL" = some (.int 2 t)
section
variable {P : Program} {w : World} {K : PySem.W.Frag} {mg : Str → Option Value} {base : Heap}
theorem scNml : FnScope ["text", "digit"] ["text"] (defScope sNml) := ⟨rfl, rfl, rfl, by decide +kernel, rfl, by decide +kernel, by decide +kernel⟩
theorem ok_nml {f : Addr} {fd : FuncData} (F : Fun K "is_numeral" "is_numeral" sNml f fd) (T : TxtN mg) : FnOk P w K mg base CX0 1 f fd ["text"] spNml := by
  refine F.ok scNml (fun vs H Q E h => ?_) (fun cdv A outer s H vs Q E hr h => ?_)
  · obtain ⟨z, rfl, _⟩ := h
    rfl
  · obtain ⟨z, rfl, hz, k⟩ := h
    obtain ⟨tl, gl⟩ := T.dig
    obtain ⟨t8, g8⟩ := T.lon
    have nd := scNml.nd
    refine ⟨_, pss_cons (ps_if (PW.pt (pw_or (pt_not (pt_chain op_le op_le pe_int (pe_callB call_len_str (by rfl) T.len PySem.boot_len (pa_cons (pv 0) pa_nil)) (pe_glob (v := .int 2) rfl g8 ⟨_, rfl⟩)))
        (pw_or1 (pt_not (pt_val (pe_callB (cr_all rfl) (by rfl) T.all (by decide +kernel) (pa_cons
        (pe_lc (own := [("digit", 1)]) (g := gName 1) (tt := tYes) rfl nd (pi_str (pv 0)) (blkOk_by (N := ["text", "digit"]) (sc := defScope sNml) (by decide +kernel))
          (fun _ _ _ _ _ => pg_name (i := 1) nd rfl (Or.inl rfl)) (fun _ _ _ _ _ => pts_nil)
          (fun _ _ _ _ _ => pe_cmpR op_in_sign (pv 1) (pe_glob (v := .str DIG) rfl gl ⟨_, rfl⟩) rfl)) pa_nil)))))))
        (pss_one (ps_ret pe_bl)) pss_nil)
      (pss_one (ps_ret (pe_or (pe_cmpR op_eq (pv 0) pe_str (nomark _)) (pe_one (pe_cmpR op_ne (pe_item_str (pv 0) pe_int (fun _ _ => rfl)) pe_str (nomark _)))))), ?_⟩
    have bad : isNum z = false → ∀ H', Same H H' → Q (.bl false) H' := fun e H' s => by
      have q := k H' s
      rw [e] at q
      exact q
    refine ⟨_, rfl, _, rfl, Nat.le_trans hz (by decide), _, _, rfl, rfl, _, rfl, ?_⟩
    refine ite2 (fun c1 => ?_) (fun c1 => ?_)
    · refine ⟨_, _, rfl, rfl, _, rfl, ?_⟩
      by_cases c2 : (z.length : Int) ≤ 2
      · refine iteNS c2 ?_
        refine ⟨_, rfl, z, rfl, fun D hD => lc_it walk_str (MapP H D (z.cps.toList.map fun c => V.bl (decide (c ∈ DIG.cps.toList)))) (MapP.zero hD) (fun _ _ _ _ => trivial) ?_ ?_⟩
        · rintro i x H1 H2 hi p ⟨rfl, c, hc, rfl⟩
          refine ⟨rfl, _, rfl, c, _, rfl, rfl, ?_⟩
          refine p.step hD ?_ (by rw [List.length_map, Array.length_toList]; exact hz) (Same.refl _)
          rw [List.getElem?_map, Array.getElem?_toList, hc]
          rfl
        · intro H2 p
          obtain ⟨s2, hl⟩ := p.done (by rw [List.length_map, Array.length_toList])
          refine ⟨D, z.cps.toList.map fun c => decide (c ∈ DIG.cps.toList), rfl, SqL.of (by rw [hl, List.map_map]; rfl), ?_⟩
          have e : isNum z = ((z.cps.toList.map fun c => decide (c ∈ DIG.cps.toList)).all id && (decide (z = "0") || !decide (z.cps.toList.headD 0 = 48))) := by
            unfold isNum
            rw [c1, decide_eq_true c2, List.all_map]
            rfl
          refine ⟨_, rfl, ?_⟩
          cases c3 : (z.cps.toList.map fun c => decide (c ∈ DIG.cps.toList)).all id with
          | false =>
            refine iteT ?_
            exact bad (by rw [e, c3, Bool.false_and]) H2 s2
          | true =>
            refine iteF ?_
            rw [c3, Bool.true_and] at e
            refine ⟨_, rfl, rfl, _, rfl, ?_⟩
            rw [dec_str]
            cases c4 : decide (z = ("0" : Str)) with
            | true =>
              rw [c4, Bool.true_or] at e
              refine iteT ?_
              have q := k H2 s2
              rw [e] at q
              exact q
            | false =>
              rw [c4, Bool.false_or] at e
              refine iteF ?_
              have l1 : 1 ≤ (z.length : Int) := of_decide_eq_true c1
              have lz : z.length = z.cps.size := rfl
              have hc : z.cps[0]? = some (z.cps.toList.headD 0) := by
                have h0 : 0 < z.cps.size := by omega
                rw [Array.getElem?_eq_getElem h0]
                congr 1
                have : z.cps.toList = z.cps[0] :: z.cps.toList.drop 1 := by
                  have := List.drop_eq_getElem_cons (l := z.cps.toList) (i := 0) (by rw [Array.length_toList]; exact h0)
                  rw [List.drop_zero] at this
                  simpa using this
                rw [this]
                rfl
              refine ⟨_, rfl, z, 0, _, rfl, rfl, by decide, by decide, by omega, hc, rfl, ?_⟩
              have q := k H2 s2
              rw [e] at q
              have e5 : decide (V.str ⟨#[z.cps.toList.headD 0]⟩ = V.str ("0" : Str)) = decide (z.cps.toList.headD 0 = 48) := by
                rw [dec_str]
                refine decide_eq_decide.mpr ⟨fun h => ?_, fun h => by rw [h]; rfl⟩
                have := congrArg (fun t : Str => t.cps.toList) h
                have e0 : ("0" : Str).cps.toList = [48] := by decide
                simp only [e0] at this
                simpa using this
              rw [e5]
              exact q
      · refine iteNT c2 ?_
        exact bad (by unfold isNum; rw [decide_eq_false c2, Bool.and_false, Bool.false_and, Bool.false_and]) _ (Same.refl _)
    · have c1' : decide (1 ≤ (z.length : Int)) = false := by simpa using c1
      refine ⟨_, rfl, iteT ?_⟩
      exact bad (by unfold isNum; rw [c1', Bool.false_and, Bool.false_and, Bool.false_and]) _ (Same.refl _)
/-- ascends, of a list of numbers -/
theorem scAscI : FnScope ["values", "at"] ["values"] (defScope sAscI) := ⟨rfl, rfl, rfl, by decide +kernel, rfl, by decide +kernel, by decide +kernel⟩
theorem ok_ascI {f : Addr} {fd : FuncData} (F : Fun K "ascends" "ascends" sAscI f fd) (T : TxtN mg) : FnOk P w K mg base CX0 1 f fd ["values"] (spAscI K) := by
  refine F.ok scAscI (fun vs H Q E h => ?_) (fun cdv A outer s H vs Q E hr h => ?_)
  · obtain ⟨a, ss, rfl, _⟩ := h
    rfl
  · obtain ⟨a, ss, rfl, hS, hl, k⟩ := h
    have nd := scAscI.nd
    refine ⟨_, pss_one (ps_ret (pe_callB (cr_all rfl) (by rfl) T.all (by decide +kernel) (pa_cons
        (pe_lc (own := [("at", 1)]) (g := gName 1) (tt := tYes) rfl nd (pi_range2 (by rfl) T.ran (pa_cons pe_int (pa_cons (pe_callB call_len_seq (by rfl) T.len PySem.boot_len (pa_cons (pv 0) pa_nil)) pa_nil))) (blkOk_by (N := ["values", "at"]) (sc := defScope sAscI) (by decide +kernel))
          (fun _ _ _ _ _ => pg_name (i := 1) nd rfl (Or.inl rfl)) (fun _ _ _ _ _ => pts_nil)
          (fun _ _ _ _ _ => pe_cmpR op_lt (pe_ix (ix_list : IxR _ (rIxL K)) (pv 0) (pe_op op_sub (pv 1) pe_int) (fun _ _ => rfl)) (pe_ix (ix_list : IxR _ (rIxL K)) (pv 0) (pv 1) (fun _ _ => rfl)) (nomark _))) pa_nil))), ?_⟩
    have hlm : (ss.map V.int).length = ss.length := List.length_map ..
    have hn : (((ss.map V.int).length : Int) - 1).toNat = ss.length - 1 := by omega
    refine ⟨_, rfl, a, _, rfl, .inl hS, 1, _, rfl, ⟨by decide, by decide, by omega, by omega⟩, ?_⟩
    rw [hn]
    refine fun D hD => lc_it walk_range (MapP H D ((List.range (ss.length - 1)).map fun i => V.bl (decide (ss.getD i 0 < ss.getD (i + 1) 0)))) (MapP.zero hD) (fun _ _ _ _ => trivial) ?_ ?_
    · rintro i x H1 H2 hi p ⟨rfl, rfl⟩
      have at_ : ∀ j : Nat, j < ss.length → atI (ss.map V.int) ((j : Nat) : Int) = some (V.int (ss.getD j 0)) := fun j hj => atI_nat (by
        rw [List.getElem?_map, List.getD_eq_getElem?_getD, List.getElem?_eq_getElem hj]
        rfl)
      have e1 : atI (ss.map V.int) ((1 + (i : Int)) - 1) = some (V.int (ss.getD i 0)) := by
        rw [show (1 + (i : Int)) - 1 = ((i : Nat) : Int) by omega]
        exact at_ i (by omega)
      have e2 : atI (ss.map V.int) (1 + (i : Int)) = some (V.int (ss.getD (i + 1) 0)) := by
        rw [show (1 + (i : Int)) = ((i + 1 : Nat) : Int) by omega]
        exact at_ (i + 1) (by omega)
      have hS1 := p.1.seq hS
      refine ⟨rfl, _, rfl, _, rfl, _, _, rfl, rfl, a, _, _, _, rfl, rfl, hS1, e1, _, rfl, _, rfl, a, _, _, _, rfl, rfl, hS1, e2, _, _, rfl, rfl, ?_⟩
      refine p.step hD ?_ (by rw [List.length_map, List.length_range]; omega) (Same.refl _)
      rw [List.getElem?_map, List.getElem?_range hi]
      rfl
    · intro H2 p
      obtain ⟨s2, hl2⟩ := p.done (by rw [List.length_map, List.length_range])
      refine ⟨D, (List.range (ss.length - 1)).map fun i => decide (ss.getD i 0 < ss.getD (i + 1) 0), rfl, SqL.of (by rw [hl2, List.map_map]; rfl), ?_⟩
      have e : ascI ss = ((List.range (ss.length - 1)).map fun i => decide (ss.getD i 0 < ss.getD (i + 1) 0)).all id := by
        rw [List.all_map]
        rfl
      rw [← e]
      exact k H2 s2
end
end Half

namespace Half
open PySem PySem.Spec PyProof.Rows L2
/-! ### what a row can be -/
abbrev sFits : Stmt := top 63
abbrev sIrw : Stmt := top 64
abbrev sCst : Stmt := top 65
abbrev Rw : Type := List Str
def SHP : List (Str × List Str) := [("unpack", ["name", "number"]), ("setup", ["name"]), ("remove", ["name"]), ("purge", ["name"]), ("show", ["name"]), ("repeat", ["number"]), ("when", ["name", "status"]), ("end", [])]
def shapeOf (z : Str) : Option (List Str) := (SHP.find? fun p => decide (p.1 = z)).map (·.2)
def fitB (z k : Str) : Bool := if k = "name" then isWord z else if k = "number" then isNum z else has STA z
def rowB : Rw → Bool
  | [] => false
  | z :: os => if z = "fail" then os.all isNum && ascI (os.map fun o => ((numOf o : Nat) : Int)) else match shapeOf z with
    | none => false
    | some ks => if os.length = ks.length then (List.zipWith fitB os ks).all id else false
def isBlk (z : Str) : Bool := decide (z = "repeat") || decide (z = "when")
def standB (p : Nat) (r : Rw) (d : Nat) : Bool := if 60 ≤ p ∨ rowB r = false then false else if r.headD "" = "end" then decide (0 < d) else !isBlk (r.headD "") || decide (d < 4)
/-- a row of words, none too long -/
def RwOk (r : Rw) : Prop := r ≠ [] ∧ r.length ≤ 60 ∧ ∀ z ∈ r, z.length ≤ 1000
def spFit : Sp := fun vs H Q _ => ∃ z k : Str, vs = [.str z, .str k] ∧ z.length ≤ 1000 ∧ ∀ H', Same H H' → Q (.bl (fitB z k)) H'
def spIrw : Sp := fun vs H Q _ => ∃ (a : Addr) (r : Rw), vs = [.ref a] ∧ H a = some (.lst (r.map V.str)) ∧ RwOk r ∧ ∀ H', Same H H' → Q (.bl (rowB r)) H'
def spCst : Sp := fun vs H Q _ => ∃ (a : Addr) (r : Rw) (p d : Nat), vs = [.int (p : Nat), .ref a, .int (d : Nat)] ∧ H a = some (.lst (r.map V.str)) ∧ RwOk r ∧ ∀ H', Same H H' → Q (.bl (standB p r d)) H'
structure TxtSc (K : PySem.W.Frag) (w : World) (mg : Str → Option Value) : Prop where
  len : mg "len" = none
  all : mg "all" = none
  zip : mg "zip" = none
  int : mg "int" = none
  sta : ∃ a, mg "STATUSES" = some (.ref a) ∧ ∀ H, SqT K H a (STA.map V.str)
  rows : ∃ t, mg "MOST_ROWS" = some (.int 60 t)
  dep : ∃ t, mg "MOST_DEPTH" = some (.int 4 t)
  blk : ∃ a, mg "BLOCKS" = some (.ref a) ∧ ∀ H, SqT K H a [.str "repeat", .str "when"]
  shp : ∃ d es n, mg "SHAPES" = some (.ref d) ∧ KDict K w d es n ∧ (∀ z, shapeOf z = none → PySem.W.nsIn K d z = some none) ∧ ∀ z ks, shapeOf z = some ks → ∃ q, PySem.W.nsIn K d z = some (some (.ref q)) ∧ ∀ H, SqT K H q (ks.map V.str)
section
variable {P : Program} {w : World} {K : PySem.W.Frag} {mg : Str → Option Value} {base : Heap}
theorem scFits : FnScope ["word", "kind"] ["word", "kind"] (defScope sFits) := ⟨rfl, rfl, rfl, by decide +kernel, rfl, by decide +kernel, by decide +kernel⟩
theorem ok_fits {f : Addr} {fd : FuncData} (F : Fun K "fits" "fits" sFits f fd) (T : TxtSc K w mg) (dW : Def P w K mg base 1 "is_word" ["text"] spWord) (dN : Def P w K mg base 1 "is_numeral" ["text"] spNml) : FnOk P w K mg base CX0 2 f fd ["word", "kind"] spFit := by
  refine F.ok scFits (fun vs H Q E h => ?_) (fun cdv A outer s H vs Q E hr h => ?_)
  · obtain ⟨z, k, rfl, _⟩ := h
    rfl
  · obtain ⟨z, kd, rfl, hz, k⟩ := h
    have nd := scFits.nd
    obtain ⟨aT, gT, hT⟩ := T.sta
    refine ⟨_, pss_cons (ps_if (pt_cmpR op_eq (pv 1) pe_str (nomark _)) (pss_one (ps_ret (pe_def dW hr rfl (pa_cons (pv 0) pa_nil)))) pss_nil)
      (pss_one (ps_ret (pe_ifExp (pt_cmpR op_eq (pv 1) pe_str (nomark _)) (pe_def dN hr rfl (pa_cons (pv 0) pa_nil)) (pe_cmpR (op_in_seq : OpR _ _ (rIn K false)) (pv 0) (pe_glob (v := .ref aT) rfl gT rfl) (by rfl))))), ?_⟩
    refine ⟨_, rfl, rfl, _, rfl, ?_⟩
    rw [dec_str]
    unfold fitB at k
    by_cases c1 : kd = "name"
    · refine ite_yes (decide_eq_true c1) ?_
      simp only [c1, if_true] at k
      exact ⟨_, rfl, z, rfl, hz, k⟩
    · refine ite_no (decide_eq_false c1) ?_
      simp only [c1, if_false] at k
      refine ⟨_, rfl, rfl, _, rfl, ?_⟩
      rw [dec_str]
      by_cases c2 : kd = "number"
      · refine ite_yes (decide_eq_true c2) ?_
        simp only [c2, if_true] at k
        exact ⟨_, rfl, z, rfl, hz, k⟩
      · refine ite_no (decide_eq_false c2) ?_
        simp only [c2, if_false] at k
        refine ⟨_, rfl, aT, _, rfl, .inr (hT _), rfl, flat_strs STA, ?_⟩
        have e : inV (.str z) (STA.map V.str) = has STA z := inV_str _ _
        rw [if_neg (by decide), e]
        exact k _ (Same.refl _)
abbrev IrwN : List Str := ["words", "word", "others", "other", "kind"]
theorem scIrw : FnScope IrwN ["words"] (defScope sIrw) := ⟨rfl, rfl, rfl, by decide +kernel, rfl, by decide +kernel, by decide +kernel⟩
theorem ok_irw {f : Addr} {fd : FuncData} (F : Fun K "is_row" "is_row" sIrw f fd) (T : TxtSc K w mg) (dF : Def P w K mg base 2 "fits" ["word", "kind"] spFit) (dN : Def P w K mg base 1 "is_numeral" ["text"] spNml) (dA : Def P w K mg base 1 "ascends" ["values"] (spAscI K)) : FnOk P w K mg base CX0 3 f fd ["words"] spIrw := by
  refine F.ok scIrw (fun vs H Q E h => ?_) (fun cdv A outer s H vs Q E hr h => ?_)
  · obtain ⟨a, r, rfl, _⟩ := h
    rfl
  · obtain ⟨a, r, rfl, ha, hR, k⟩ := h
    have nd := scIrw.nd
    have r1 : Room 1 _ := hr.mono (by decide)
    have r2 : Room 2 _ := hr.mono (by decide)
    obtain ⟨dS, esS, nS, gS, KD, kN, kS⟩ := T.shp
    refine ⟨_, pss_cons (ps_asg (pv 0) (pg_starL rfl (pgs_cons (pg_name (i := 1) nd rfl (Or.inl rfl)) (pgs_cons (pg_name (i := 2) nd rfl (Or.inl rfl)) pgs_nil))))
      (pss_cons (ps_if (pt_cmpR op_eq (pv 1) pe_str (nomark _)) (pss_one (ps_ret (pe_and
        (pe_callB (cr_all rfl) (by rfl) T.all (by decide +kernel) (pa_cons
          (pe_lc (own := [("other", 3)]) (g := gName 3) (tt := tYes) rfl nd (pi_list (pv 2)) (blkOk_by (N := IrwN) (sc := defScope sIrw) (by decide +kernel))
          (fun _ _ _ _ _ => pg_name (i := 3) nd rfl (Or.inl rfl)) (fun _ _ _ _ _ => pts_nil) (fun _ _ _ _ _ => pe_def dN r1 rfl (pa_cons (pv 3) pa_nil))) pa_nil))
        (pe_one (pe_def dA r1 rfl (pa_cons (pe_lc (own := [("other", 3)]) (g := gName 3) (tt := tYes) rfl nd (pi_list (pv 2)) (blkOk_by (N := IrwN) (sc := defScope sIrw) (by decide +kernel))
          (fun _ _ _ _ _ => pg_name (i := 3) nd rfl (Or.inl rfl)) (fun _ _ _ _ _ => pts_nil) (fun _ _ _ _ _ => pe_callTy call_int_str (by rfl) T.int (by decide +kernel) (pa_cons (pv 3) pa_nil))) pa_nil)))))) pss_nil)
      (pss_cons (ps_if (PW.pt (pw_or (pt_cmpR (op_notIn_kd KD) (pv 1) (pe_glob (v := .ref dS) rfl gS rfl) (by rfl))
          (pw_or1 (pt_cmpR op_ne (pe_callB call_len_seq (by rfl) T.len PySem.boot_len (pa_cons (pv 2) pa_nil)) (pe_callB call_len_seq (by rfl) T.len PySem.boot_len (pa_cons (pe_ix ix_kdict (pe_glob (v := .ref dS) rfl gS rfl) (pv 1) (fun _ _ => rfl)) pa_nil)) (nomark _))))) (pss_one (ps_ret pe_bl)) pss_nil)
      (pss_one (ps_ret (pe_callB (cr_all rfl) (by rfl) T.all (by decide +kernel) (pa_cons
        (pe_lc (own := [("other", 3), ("kind", 4)]) (g := gTup K 2 (gCons (gName 3) (gCons (gName 4) gNil))) (tt := tYes) rfl nd (pi_zipM (by rfl) T.zip (pa_cons (pv 2) (pa_cons (pe_ix ix_kdict (pe_glob (v := .ref dS) rfl gS rfl) (pv 1) (fun _ _ => rfl)) pa_nil))) (blkOk_by (N := IrwN) (sc := defScope sIrw) (by decide +kernel))
          (fun _ _ _ _ _ => pg_tup rfl (pgs_cons (pg_name (i := 3) nd rfl (Or.inl rfl)) (pgs_cons (pg_name (i := 4) nd rfl (Or.inl rfl)) pgs_nil))) (fun _ _ _ _ _ => pts_nil) (fun _ _ _ _ _ => pe_def dF r2 rfl (pa_cons (pv 3) (pa_cons (pv 4) pa_nil)))) pa_nil)))))), ?_⟩
    obtain ⟨z, os, rfl⟩ : ∃ z os, r = z :: os := by
      cases r with
      | nil => exact absurd rfl hR.1
      | cons z os => exact ⟨z, os, rfl⟩
    have hz : ∀ o ∈ os, o.length ≤ 1000 := fun o m => hR.2.2 o (List.mem_cons_of_mem _ m)
    have hfew : os.length ≤ 60 := by have := hR.2.1; rw [List.length_cons] at this; omega
    refine ⟨_, rfl, a, .str z, os.map V.str, rfl, SqL.of ha, fun p np => ⟨_, _, rfl, _, _, rfl, rfl, ?_⟩⟩
    have s0 := Same.upd_new (o := .lst (os.map V.str)) np
    have gp : (upd H p (.lst (os.map V.str))) p = some (.lst (os.map V.str)) := upd_same
    generalize upd H p (.lst (os.map V.str)) = H0 at s0 gp ⊢
    refine ⟨_, rfl, rfl, _, rfl, ?_⟩
    rw [dec_str]
    by_cases c1 : z = "fail"
    · refine ite_yes (decide_eq_true c1) ?_
      have e0 : rowB (z :: os) = (os.all isNum && ascI (os.map fun o => ((numOf o : Nat) : Int))) := if_pos c1
      rw [e0] at k
      have hO : ∀ {H' : Hp}, Same H0 H' → SqL K H' p (os.map V.str) := fun s => SqL.of (s _ _ gp)
      refine ⟨_, rfl, p, rfl, ⟨_, hO (Same.refl _)⟩, fun D hD => lc_it (walk_list (xs := os.map V.str)) (MapP H0 D (os.map fun o => V.bl (isNum o))) (MapP.zero hD) (fun _ _ _ q => hO q.1) ?_ ?_⟩
      · rintro i x H1 H2 hi q ⟨rfl, hx⟩
        obtain ⟨o, ho, rfl⟩ := getE hx
        refine ⟨rfl, _, rfl, o, rfl, hz o (List.mem_of_getElem? ho), fun H3 s3 => ?_⟩
        refine q.step hD ?_ (by rw [List.length_map]; omega) s3
        rw [List.getElem?_map, ho]
        rfl
      · intro H2 q
        obtain ⟨s2, hl2⟩ := q.done (by rw [List.length_map, List.length_map])
        refine ⟨D, os.map isNum, rfl, SqL.of (by rw [hl2, List.map_map]; rfl), _, rfl, ?_⟩
        have e1 : (os.map isNum).all id = os.all isNum := by rw [List.all_map]; rfl
        rw [e1]
        cases c2 : os.all isNum with
        | false =>
          rw [c2, Bool.false_and] at k
          exact iteF (k _ (s0.trans s2))
        | true =>
          rw [c2, Bool.true_and] at k
          refine iteT ?_
          refine ⟨_, rfl, p, rfl, ⟨_, hO s2⟩, fun D2 hD2 => lc_it (walk_list (xs := os.map V.str)) (MapP H2 D2 (os.map fun o => V.int (numOf o : Nat))) (MapP.zero hD2) (fun _ _ _ q => hO (s2.trans q.1)) ?_ ?_⟩
          · rintro i x H1 H3 hi q ⟨rfl, hx⟩
            obtain ⟨o, ho, rfl⟩ := getE hx
            obtain ⟨ni, nl⟩ := num_int (List.all_eq_true.mp c2 o (List.mem_of_getElem? ho))
            refine ⟨rfl, _, rfl, o, _, rfl, ni, by omega, ?_⟩
            refine q.step hD2 ?_ (by rw [List.length_map]; omega) (Same.refl _)
            rw [List.getElem?_map, ho]
            rfl
          · intro H3 q
            obtain ⟨s3, hl3⟩ := q.done (by rw [List.length_map, List.length_map])
            refine ⟨D2, os.map fun o => ((numOf o : Nat) : Int), rfl, SqL.of (by rw [hl3, List.map_map]; rfl), by rw [List.length_map]; omega, fun H4 s4 => k _ (s0.trans (s2.trans (s3.trans s4)))⟩
    · refine ite_no (decide_eq_false c1) ?_
      have e0 : rowB (z :: os) = match shapeOf z with
        | none => false
        | some ks => if os.length = ks.length then (List.zipWith fitB os ks).all id else false := if_neg c1
      rw [e0] at k
      cases c2 : shapeOf z with
      | none =>
        rw [c2] at k
        refine ⟨_, rfl, z, _, rfl, rfl, kN z c2, ?_⟩
        refine ⟨_, rfl, iteT (k _ s0)⟩
      | some ks =>
        rw [c2] at k
        dsimp only at k
        obtain ⟨q, hq, hQ⟩ := kS z ks c2
        refine ⟨_, rfl, z, _, rfl, rfl, hq, ?_⟩
        refine ⟨_, rfl, iteF ?_⟩
        have kd : KDct K w dS z (.ref q) := ⟨esS, nS, _, KD.at_, KD.lit, hq, rfl⟩
        have lo : (os.map V.str).length = os.length := List.length_map ..
        have lk : (ks.map V.str).length = ks.length := List.length_map ..
        refine ⟨_, rfl, p, _, rfl, .inl (SqL.of gp), _, rfl, dS, z, .ref q, rfl, rfl, kd, q, _, rfl, .inr (hQ _), rfl, _, rfl, ?_⟩
        rw [lo, lk]
        by_cases c3 : os.length = ks.length
        · rw [if_pos c3] at k
          refine ite_no (by rw [c3]; simp) ?_
          refine ⟨_, rfl, _, rfl, dS, z, .ref q, rfl, rfl, kd, p, q, os.map V.str, ks.map V.str, rfl, SqL.of gp, hQ _, fun D hD => lc_it (walk_zipM (xs := os.map V.str) (ys := ks.map V.str) lo (by rw [lk, c3])) (MapP H0 D ((List.zipWith fitB os ks).map V.bl)) (MapP.zero hD) (fun _ _ _ m => ⟨m.1.seq (SqL.of gp), hQ _⟩) ?_ ?_⟩
          · rintro i x H1 H2 hi m ⟨T1, x1, x2, rfl, nT, rfl, h1, h2⟩
            obtain ⟨o, ho, rfl⟩ := getE h1
            obtain ⟨kd1, hk1, rfl⟩ := getE h2
            have q1 := Same.upd_new (o := .tup [.str o, .str kd1]) nT
            refine ⟨T1, _, rfl, SqT.of upd_same, rfl, _, _, rfl, _, _, rfl, rfl, rfl, ?_⟩
            refine ⟨_, rfl, _, rfl, o, kd1, rfl, hz o (List.mem_of_getElem? ho), fun H3 s3 => ?_⟩
            refine m.step hD ?_ (by rw [List.length_map, List.length_zipWith]; omega) (q1.trans s3)
            rw [List.getElem?_map, List.getElem?_zipWith, ho, hk1]
            rfl
          · intro H2 m
            obtain ⟨s2, hl2⟩ := m.done (by rw [List.length_map, List.length_zipWith]; omega)
            exact ⟨D, List.zipWith fitB os ks, rfl, SqL.of hl2, k _ (s0.trans s2)⟩
        · rw [if_neg c3] at k
          refine ite_yes ?_ (k _ s0)
          rw [decide_eq_false (fun e => c3 (by injection e with e; exact Int.ofNat.inj e))]
          rfl
theorem scCst : FnScope ["place", "words", "depth"] ["place", "words", "depth"] (defScope sCst) := ⟨rfl, rfl, rfl, by decide +kernel, rfl, by decide +kernel, by decide +kernel⟩
theorem ok_cst {f : Addr} {fd : FuncData} (F : Fun K "can_stand" "can_stand" sCst f fd) (T : TxtSc K w mg) (dR : Def P w K mg base 3 "is_row" ["words"] spIrw) : FnOk P w K mg base CX0 4 f fd ["place", "words", "depth"] spCst := by
  refine F.ok scCst (fun vs H Q E h => ?_) (fun cdv A outer s H vs Q E hr h => ?_)
  · obtain ⟨a, r, p, d, rfl, _⟩ := h
    rfl
  · obtain ⟨a, r, p, d, rfl, ha, hR, k⟩ := h
    have nd := scCst.nd
    obtain ⟨t6, g6⟩ := T.rows
    obtain ⟨t4, g4⟩ := T.dep
    obtain ⟨aB, gB, hB⟩ := T.blk
    refine ⟨_, pss_cons (ps_if (PW.pt (pw_or (pt_cmpR op_ge (pv 0) (pe_glob (v := .int 60) rfl g6 ⟨_, rfl⟩) (nomark _)) (pw_or1 (pt_not (pt_val (pe_def dR hr rfl (pa_cons (pv 1) pa_nil))))))) (pss_one (ps_ret pe_bl)) pss_nil)
      (pss_cons (ps_if (pt_cmpR op_eq (pe_ix (ix_list : IxR _ (rIxL K)) (pv 1) pe_int (fun _ _ => rfl)) pe_str (nomark _)) (pss_one (ps_ret (pe_cmpR op_gt (pv 2) pe_int (nomark _)))) pss_nil)
      (pss_one (ps_ret (pe_or (pe_cmpR (op_notIn_seq : OpR _ _ (rIn K true)) (pe_ix (ix_list : IxR _ (rIxL K)) (pv 1) pe_int (fun _ _ => rfl)) (pe_glob (v := .ref aB) rfl gB rfl) (by rfl)) (pe_one (pe_cmpR op_lt (pv 2) (pe_glob (v := .int 4) rfl g4 ⟨_, rfl⟩) (nomark _))))))), ?_⟩
    obtain ⟨z, os, rfl⟩ : ∃ z os, r = z :: os := by
      cases r with
      | nil => exact absurd rfl hR.1
      | cons z os => exact ⟨z, os, rfl⟩
    have hat : atI ((z :: os).map V.str) 0 = some (.str z) := at_zero
    unfold standB at k
    have hd : (z :: os).headD "" = z := rfl
    rw [hd] at k
    have n1 : ∀ H', Same H H' → (60 ≤ p ∨ rowB (z :: os) = false) → Q (.bl false) H' := fun H' s c => by
      have := k H' s
      rw [if_pos c] at this
      exact this
    refine ⟨_, rfl, _, _, rfl, rfl, _, rfl, ?_⟩
    by_cases c1 : 60 ≤ p
    · refine ite_yes (decide_eq_true (by omega)) ?_
      exact iteT (n1 _ (Same.refl _) (.inl c1))
    · refine ite_no (decide_eq_false (by omega)) ?_
      refine ⟨_, rfl, a, _, rfl, ha, hR, fun H1 s1 => ⟨_, rfl, ?_⟩⟩
      cases c2 : rowB (z :: os) with
      | false => exact iteT (n1 _ s1 (.inr c2))
      | true =>
        refine iteF ?_
        have k1 := k
        rw [if_neg (by rw [c2]; intro q; rcases q with q | q; exact c1 q; cases q)] at k1
        have ha1 := s1 _ _ ha
        refine ⟨_, rfl, a, _, 0, _, rfl, rfl, SqL.of ha1, hat, rfl, _, rfl, ?_⟩
        rw [dec_str]
        by_cases c3 : z = "end"
        · rw [if_pos c3] at k1
          refine ite_yes (decide_eq_true c3) ?_
          refine ⟨_, rfl, _, _, rfl, rfl, ?_⟩
          have e : decide ((0 : Int) < (d : Nat)) = decide (0 < d) := decide_eq_decide.mpr ⟨fun q => by omega, fun q => by omega⟩
          have q := k1 _ s1
          rw [← e] at q
          exact q
        · rw [if_neg c3] at k1
          refine ite_no (decide_eq_false c3) ?_
          refine ⟨_, rfl, a, _, 0, _, rfl, rfl, SqL.of ha1, hat, aB, [.str "repeat", .str "when"], rfl, .inr (hB _), rfl, rfl, ?_⟩
          have eb : inV (.str z) [.str "repeat", .str "when"] = isBlk z := by
            have := inV_str z ["repeat", "when"]
            refine Eq.trans this ?_
            unfold has isBlk
            simp only [List.any_cons, List.any_nil, Bool.or_false]
            first
              | rfl
              | (congr 1 <;> exact decide_eq_decide.mpr ⟨Eq.symm, Eq.symm⟩)
          rw [if_pos rfl, eb]
          cases c4 : isBlk z with
          | false =>
            rw [c4] at k1
            exact ⟨_, rfl, iteT (k1 _ s1)⟩
          | true =>
            rw [c4, Bool.not_true, Bool.false_or] at k1
            refine ⟨_, rfl, iteF ?_⟩
            refine ⟨_, rfl, _, _, rfl, rfl, ?_⟩
            have e : decide ((d : Int) < 4) = decide (d < 4) := decide_eq_decide.mpr ⟨fun q => by omega, fun q => by omega⟩
            have q := k1 _ s1
            rw [← e] at q
            exact q
end
end Half

namespace Half
open PySem PySem.Spec PyProof.Rows L2
/-! ### rows of a text; where blocks end -/
abbrev sRo : Stmt := top 62
abbrev sBle : Stmt := top 66
abbrev sIse : Stmt := inClass (top 17) 0
abbrev sIup : Stmt := inClass (top 18) 0
def rowsOf (z : Str) : List Rw := if z.length = 0 then [] else (Txt.split z "\n").map fun r => Txt.split r " "
def LineOk (z : Str) : Prop := z.length ≤ 100000 ∧ (Txt.split z "\n").length ≤ 500 ∧ ∀ r ∈ Txt.split z "\n", r.length ≤ 1000
/-- rows in a list -/
def RowsAt (H : Hp) (a : Addr) (R : List Rw) : Prop := ∃ ps : List Addr, H a = some (.lst (ps.map V.ref)) ∧ Paired (fun p (r : Rw) => H p = some (.lst (r.map V.str))) ps R
theorem RowsAt.same {H H' : Hp} {a : Addr} {R : List Rw} (s : Same H H') (h : RowsAt H a R) : RowsAt H' a R := by
  obtain ⟨ps, h1, h2⟩ := h
  exact ⟨ps, s _ _ h1, Paired.mapP h2 fun _ _ q => s _ _ q⟩
def putBk (l : List (Nat × Nat)) (b e : Nat) : List (Nat × Nat) := if (l.any fun x => decide (x.1 = b)) = true then l.map (fun x => if x.1 = b then (x.1, e) else x) else l ++ [(b, e)]
def kvO (l : List (Nat × Nat)) : List (Key × V) := l.map fun x => (.inl (x.1 : Int), .int (x.2 : Nat))
def lkB (l : List (Nat × Nat)) (b : Nat) : Option Nat := (l.find? fun x => decide (x.1 = b)).map (·.2)
/-- the blocks from a place on, within those that have begun -/
def blkM : List Rw → Nat → List Nat → List (Nat × Nat) → Except Nat (List (Nat × Nat))
  | [], p, bg, fd => if bg = [] then .ok fd else .error p
  | r :: rs, p, bg, fd => if standB p r bg.length = false then .error p else if isBlk (r.headD "") then blkM rs (p + 1) (p :: bg) fd else
      if r.headD "" = "end" then match bg with
        | [] => .error p
        | b :: bg => blkM rs (p + 1) bg (putBk fd b p)
      else blkM rs (p + 1) bg fd
theorem blk_nil (p : Nat) (bg : List Nat) (fd : List (Nat × Nat)) : blkM [] p bg fd = if bg = [] then .ok fd else .error p := rfl
theorem blk_cons (r : Rw) (rs : List Rw) (p : Nat) (bg : List Nat) (fd : List (Nat × Nat)) : blkM (r :: rs) p bg fd = if standB p r bg.length = false then .error p else if isBlk (r.headD "") then blkM rs (p + 1) (p :: bg) fd else
      if r.headD "" = "end" then match bg with
        | [] => .error p
        | b :: bg => blkM rs (p + 1) bg (putBk fd b p)
      else blkM rs (p + 1) bg fd := by
  cases bg <;> rfl
def nts (bg : List Nat) : List V := bg.reverse.map fun b => V.int (b : Nat)
theorem inV_blk (z : Str) : inV (.str z) [.str "repeat", .str "when"] = isBlk z := by
  have := inV_str z ["repeat", "when"]
  refine Eq.trans this ?_
  unfold has isBlk
  simp only [List.any_cons, List.any_nil, Bool.or_false]
  first
    | rfl
    | (congr 1 <;> exact decide_eq_decide.mpr ⟨Eq.symm, Eq.symm⟩)
theorem kvO_any (l : List (Nat × Nat)) (b : Nat) : ((kvO l).any fun kv => decide (kv.1 = Sum.inl (b : Int))) = l.any fun x => decide (x.1 = b) := by
  unfold kvO
  rw [List.any_map]
  refine congrArg (l.any ·) (funext fun x => decide_eq_decide.mpr ⟨fun h => ?_, fun h => by show (Sum.inl (x.1 : Int) : Key) = _; rw [h]⟩)
  have : (x.1 : Int) = b := by injection h
  omega
theorem kvO_put (l : List (Nat × Nat)) (b e : Nat) : putK (kvO l) (.inl (b : Int)) (.int (e : Nat)) = kvO (putBk l b e) := by
  unfold putK putBk
  rw [kvO_any]
  by_cases c : (l.any fun x => decide (x.1 = b)) = true
  · rw [if_pos c, if_pos c]
    unfold kvO
    rw [List.map_map, List.map_map]
    refine List.map_congr_left fun x _ => ?_
    show (if (Sum.inl (x.1 : Int) : Key) = Sum.inl (b : Int) then _ else _) = _
    by_cases d : x.1 = b
    · have : (Sum.inl (x.1 : Int) : Key) = Sum.inl (b : Int) := by rw [d]
      rw [if_pos this]
      show _ = ((fun x : Nat × Nat => ((Sum.inl (x.1 : Int) : Key), V.int (x.2 : Nat))) (if x.1 = b then (x.1, e) else x))
      rw [if_pos d]
    · have : ¬ (Sum.inl (x.1 : Int) : Key) = Sum.inl (b : Int) := fun h => d (by have q : (x.1 : Int) = b := (by injection h); omega)
      rw [if_neg this]
      show _ = ((fun x : Nat × Nat => ((Sum.inl (x.1 : Int) : Key), V.int (x.2 : Nat))) (if x.1 = b then (x.1, e) else x))
      rw [if_neg d]
  · rw [if_neg c, if_neg c]
    unfold kvO
    rw [List.map_append]
    rfl
theorem kvO_val (l : List (Nat × Nat)) (b : Nat) : valV (kvO l) (.inl (b : Int)) = (lkB l b).map fun e => V.int (e : Nat) := by
  induction l with
  | nil => rfl
  | cons x l ih =>
    by_cases c : x.1 = b
    · have e1 : valV (kvO (x :: l)) (.inl (b : Int)) = some (V.int (x.2 : Nat)) := valV_pos (by show Sum.inl (x.1 : Int) = _; rw [c])
      rw [e1]
      unfold lkB
      rw [List.find?_cons, decide_eq_true c]
      rfl
    · have e1 : valV (kvO (x :: l)) (.inl (b : Int)) = valV (kvO l) (.inl (b : Int)) := valV_neg (by
        show ¬ Sum.inl (x.1 : Int) = _
        intro h
        have : (x.1 : Int) = b := by injection h
        omega)
      rw [e1, ih]
      unfold lkB
      rw [List.find?_cons, decide_eq_false c]
theorem paired_snocL {α β : Type} {F : α → β → Prop} {a : α} {b : β} (f : F a b) : ∀ {l : List α} {m : List β}, Paired F l m → Paired F (l ++ [a]) (m ++ [b])
  | _, _, .nil => .cons f .nil
  | _, _, .cons x h => .cons x (paired_snocL f h)
theorem paired_memL {α β : Type} {F G : α → β → Prop} : ∀ {l : List α} {m : List β}, Paired F l m → (∀ a b, a ∈ l → b ∈ m → F a b → G a b) → Paired G l m
  | _, _, .nil, _ => .nil
  | _, _, .cons x h, k => .cons (k _ _ (.head _) (.head _) x) (paired_memL h fun a b p q => k a b (.tail _ p) (.tail _ q))
theorem paired_atL {α β : Type} {F : α → β → Prop} : ∀ {l : List α} {m : List β} {i : Nat} {a : α}, Paired F l m → l[i]? = some a → ∃ b, m[i]? = some b ∧ F a b
  | _, _, 0, _, .cons (b := b) x _, e => ⟨b, rfl, by cases e; exact x⟩
  | _, _, i + 1, _, .cons _ h, e => paired_atL (i := i) h e
theorem paired_atR {α β : Type} {F : α → β → Prop} : ∀ {l : List α} {m : List β} {i : Nat} {b : β}, Paired F l m → m[i]? = some b → ∃ a, l[i]? = some a ∧ F a b
  | _, _, 0, _, .cons (a := a) x _, e => ⟨a, rfl, by cases e; exact x⟩
  | _, _, i + 1, _, .cons _ h, e => paired_atR (i := i) h e
def spRo : Sp := fun vs H Q _ => ∃ z : Str, vs = [.str z] ∧ LineOk z ∧ ∀ H' a, Same H H' → H a = none → RowsAt H' a (rowsOf z) → Q (.ref a) H'
def spBle (CE : Addr) : Sp := fun vs H Q E => ∃ (a : Addr) (R : List Rw), vs = [.ref a] ∧ RowsAt H a R ∧ R.length ≤ 500 ∧ (∀ r ∈ R, RwOk r) ∧
  (∀ B, blkM R 0 [] [] = .ok B → ∀ H' d, Same H H' → H d = none → H' d = some (.dK (kvO B)) → Q (.ref d) H') ∧ (∀ p, blkM R 0 [] [] = .error p → ∀ H' dd, Same H H' → H' dd = some (.xd [("row", .int (p : Nat))]) → E (.ref CE) (some dd) H')
structure TxtSe (P : Program) (w : World) (K : PySem.W.Frag) (mg : Str → Option Value) (base : Heap) (nm qual : Str) (st : Stmt) (CE fE : Addr) (fdE : FuncData) : Prop where
  mgE : mg nm = some (.ref CE)
  sup : SupC P K mg CE
  nF : PySem.W.findIn K (.ref CE) "row" = some none
  iC : PySem.W.findIn K (.ref CE) "__init__" = some (some (.ref fE))
  tI : PySem.W.typeIn K (.ref fE) = some (.type "function")
  er : ErrFn P K CE qual st fE fdE
  bI : Binds K fdE ["self", "row"] []
section
variable {P : Program} {w : World} {K : PySem.W.Frag} {mg : Str → Option Value} {base : Heap} {CE fE : Addr} {fdE : FuncData}
theorem scIse : SupScope ["self", "row"] ["self", "row"] (defScope sIse) := ⟨rfl, rfl, rfl, by decide +kernel, rfl, by decide +kernel, by decide +kernel, by decide +kernel, rfl, rfl⟩
theorem scIup : SupScope ["self", "row"] ["self", "row"] (defScope sIup) := ⟨rfl, rfl, rfl, by decide +kernel, rfl, by decide +kernel, by decide +kernel, by decide +kernel, rfl, rfl⟩
theorem ok_ise {f : Addr} {fd : FuncData} (F : ErrFn P K CE "ScriptError.__init__" sIse f fd) (T : SupC P K mg CE) (nF : PySem.W.findIn K (.ref CE) "row" = some none) : FnOk P w K mg base CX0 1 f fd ["self", "row"] (spErrI CE "row") := by
  obtain ⟨oc, od, kV, doc, pm, an, cda, cc, ct, osl, ccl, cdd, vsc, ccs, file, tf, cl, cld, csl, rfl, lk, hcd, hcode, hvs, hfile, hcell⟩ := F.ex
  refine fn_sup (N := ["self", "row"]) lk hcd scIse rfl rfl rfl hcode hvs hfile hcell T (fun vs H Q E h => ?_) (fun _ => rfl) (fun _ => rfl) (fun _ => rfl) (fun A outer s H vs Q E hr h => ?_)
  · obtain ⟨a, p, rfl, _⟩ := h
    rfl
  · obtain ⟨a, n, rfl, ha, hn, k⟩ := h
    refine ⟨a, _, _, rfl, ha, pa_cons (pe_joined (.cons pe_str (.cons (pe_fmt (pv 1)) (.cons pe_str .nil)))) pa_nil, pss_one (ps_ost (pv 0) (pv 1)), ?_⟩
    obtain ⟨l1, l2⟩ := small_text n hn
    have e1 : ("row " : Str).length = 4 := by decide
    have e2 : (" of the script cannot stand there" : Str).length = 33 := by decide
    have e0 : (Str.empty).length = 0 := by decide
    have : (Str.ofString (toString (n : Int))).length ≤ 10 := l1
    refine ⟨_, rfl, (by decide), _, rfl, .inr ⟨(n : Int), rfl, l2, _, rfl, ?_, _, rfl, ?_, ?_⟩⟩
    · rw [app_len, app_len, sizeLine_eq]
      omega
    · rw [app_len, app_len, app_len, sizeLine_eq]
      omega
    · refine ⟨by show 1 ≤ 1000; decide, ha, ?_⟩
      refine ⟨_, rfl, _, rfl, a, CE, rfl, T.oex, nF, .inl ⟨ha, fun dx h1 h2 => k dx h1 h2⟩⟩
theorem ok_iup {f : Addr} {fd : FuncData} (F : ErrFn P K CE "UnknownPackage.__init__" sIup f fd) (T : SupC P K mg CE) (nF : PySem.W.findIn K (.ref CE) "row" = some none) : FnOk P w K mg base CX0 1 f fd ["self", "row"] (spErrI CE "row") := by
  obtain ⟨oc, od, kV, doc, pm, an, cda, cc, ct, osl, ccl, cdd, vsc, ccs, file, tf, cl, cld, csl, rfl, lk, hcd, hcode, hvs, hfile, hcell⟩ := F.ex
  refine fn_sup (N := ["self", "row"]) lk hcd scIup rfl rfl rfl hcode hvs hfile hcell T (fun vs H Q E h => ?_) (fun _ => rfl) (fun _ => rfl) (fun _ => rfl) (fun A outer s H vs Q E hr h => ?_)
  · obtain ⟨a, p, rfl, _⟩ := h
    rfl
  · obtain ⟨a, n, rfl, ha, hn, k⟩ := h
    refine ⟨a, _, _, rfl, ha, pa_cons (pe_joined (.cons pe_str (.cons (pe_fmt (pv 1)) (.cons pe_str .nil)))) pa_nil, pss_one (ps_ost (pv 0) (pv 1)), ?_⟩
    obtain ⟨l1, l2⟩ := small_text n hn
    have e1 : ("row " : Str).length = 4 := by decide
    have e2 : (" of the script asks for an unknown package" : Str).length = 42 := by decide
    have e0 : (Str.empty).length = 0 := by decide
    have : (Str.ofString (toString (n : Int))).length ≤ 10 := l1
    refine ⟨_, rfl, (by decide), _, rfl, .inr ⟨(n : Int), rfl, l2, _, rfl, ?_, _, rfl, ?_, ?_⟩⟩
    · rw [app_len, app_len, sizeLine_eq]
      omega
    · rw [app_len, app_len, app_len, sizeLine_eq]
      omega
    · refine ⟨by show 1 ≤ 1000; decide, ha, ?_⟩
      refine ⟨_, rfl, _, rfl, a, CE, rfl, T.oex, nF, .inl ⟨ha, fun dx h1 h2 => k dx h1 h2⟩⟩
theorem scRo : FnScope ["text", "row"] ["text"] (defScope sRo) := ⟨rfl, rfl, rfl, by decide +kernel, rfl, by decide +kernel, by decide +kernel⟩
theorem ok_ro {f : Addr} {fd : FuncData} (F : Fun K "rows_of" "rows_of" sRo f fd) : FnOk P w K mg base CX0 1 f fd ["text"] spRo := by
  refine F.ok scRo (fun vs H Q E h => ?_) (fun cdv A outer s H vs Q E hr h => ?_)
  · obtain ⟨z, rfl, _⟩ := h
    rfl
  · obtain ⟨z, rfl, hz, k⟩ := h
    have nd := scRo.nd
    refine ⟨_, pss_one (ps_ret (pe_ifExp (pt_truth (pv 0) (fun _ => rfl))
      (pe_lc (own := [("row", 1)]) (g := gName 1) (tt := tYes) rfl nd (pi_list (pe_split (pv 0) pe_str)) (blkOk_by (N := ["text", "row"]) (sc := defScope sRo) (by decide +kernel))
          (fun _ _ _ _ _ => pg_name (i := 1) nd rfl (Or.inl rfl)) (fun _ _ _ _ _ => pts_nil) (fun _ _ _ _ _ => pe_split (pv 1) pe_str)) (pe_lst pa_nil))), ?_⟩
    refine ⟨_, rfl, _, ⟨by have := hz.1; rw [sizeLine_eq]; omega, rfl⟩, ?_⟩
    by_cases c0 : z.length = 0
    · refine ite_no (by rw [c0]; rfl) ?_
      refine ⟨by decide, fun p np => k _ _ (Same.upd_new np) np ?_⟩
      unfold rowsOf
      rw [if_pos c0]
      exact ⟨[], upd_same, .nil⟩
    · refine ite_yes (by first | (simp; omega) | simp [c0]) ?_
      have e0 : rowsOf z = (Txt.split z "\n").map fun r => Txt.split r " " := if_neg c0
      obtain ⟨hz1, hz2, hz3⟩ := hz
      rw [e0] at k
      generalize eL : Txt.split z "\n" = L at hz2 hz3 k
      refine ⟨_, rfl, ⟨z, rfl⟩, z, "\n", rfl, rfl, by decide, by rw [sizeLine_eq]; omega, fun p np => ?_⟩
      rw [eL]
      have s0 := Same.upd_new (o := .lst (L.map V.str)) np
      have gp : (upd H p (.lst (L.map V.str))) p = some (.lst (L.map V.str)) := upd_same
      generalize upd H p (.lst (L.map V.str)) = H0 at s0 gp ⊢
      refine ⟨p, rfl, ⟨_, SqL.of gp⟩, fun D hD => lc_it (walk_list (xs := L.map V.str)) (fun i H' => Same H0 H' ∧ ∃ ps : List Addr, H' D = some (.lst (ps.map V.ref)) ∧ D ∉ ps ∧ Paired (fun p (r : Rw) => H' p = some (.lst (r.map V.str))) ps ((L.take i).map fun r => Txt.split r " ")) ⟨Same.upd_new hD, [], upd_same, by simp, .nil⟩ (fun _ _ _ q => q.1.seq (SqL.of gp)) ?_ ?_⟩
      · rintro i x H1 H2 hi ⟨s1, ps, gD, nD, hP⟩ ⟨rfl, hx⟩
        obtain ⟨r, hr', rfl⟩ := getE hx
        refine ⟨rfl, _, rfl, ⟨r, rfl⟩, r, " ", rfl, rfl, by decide, by have := hz3 r (List.mem_of_getElem? hr'); rw [sizeLine_eq]; omega, fun q nq => ?_⟩
        have nqD : q ≠ D := fun e => by rw [e, gD] at nq; cases nq
        have s2 := Same.upd_new (o := .lst ((Txt.split r " ").map V.str)) nq
        have lps := hP.length
        rw [List.length_map, List.length_take] at lps
        refine ⟨ps.map V.ref, s2 _ _ gD, by rw [List.length_map, sizeLine_eq]; omega, ?_, ps ++ [q], ?_, ?_, ?_⟩
        · intro b o e
          rw [upd_ne (ne_of_none e hD)]
          exact s2 _ _ (s1 _ _ e)
        · rw [upd_same, List.map_append]
          rfl
        · intro m
          rcases List.mem_append.mp m with m | m
          · exact nD m
          · exact nqD (List.mem_singleton.mp m).symm
        · rw [List.take_add_one, hr', List.map_append]
          refine paired_snocL ?_ (paired_memL hP fun p r' m _ e => ?_)
          · rw [upd_ne nqD, upd_same]
          · rw [upd_ne (fun z : p = D => nD (by rw [← z]; exact m))]
            exact s2 _ _ e
      · rintro H2 ⟨s1, ps, gD, nD, hP⟩
        rw [List.length_map, List.take_length] at hP
        refine k _ D (s0.trans s1) ?_ ⟨ps, gD, hP⟩
        cases c : H D with
        | none => rfl
        | some o => rw [s0 _ _ c] at hD; cases hD
abbrev BleN : List Str := ["rows", "found", "begun", "place", "words"]
theorem scBle : FnScope BleN ["rows"] (defScope sBle) := ⟨rfl, rfl, rfl, by decide +kernel, rfl, by decide +kernel, by decide +kernel⟩
theorem ok_ble {f : Addr} {fd : FuncData} (F : Fun K "block_ends" "block_ends" sBle f fd) (T : TxtSc K w mg) (gE : mg "enumerate" = none) (TE : TxtSe P w K mg base "ScriptError" "ScriptError.__init__" sIse CE fE fdE) (dC : Def P w K mg base 4 "can_stand" ["place", "words", "depth"] spCst) : FnOk P w K mg base (L2.CX P w) 5 f fd ["rows"] (spBle CE) := by
  refine F.okX scBle (fun vs H Q E h => ?_) (fun cdv A outer s H vs Q E hr h => ?_)
  · obtain ⟨a, R, rfl, _⟩ := h
    rfl
  · obtain ⟨a, R, rfl, hA, hl, hR, kO, kB⟩ := h
    have nd := scBle.nd
    have hu := hu_of hr
    have r2 : Room 2 _ := hr.mono (by decide)
    obtain ⟨aB, gB, hB⟩ := T.blk
    have FI : FnOk P w K mg base CX0 1 fE fdE ["self", "row"] (spErrI CE "row") := ok_ise TE.er TE.sup TE.nF
    refine ⟨_, pss_cons (ps_set (i := 1) nd rfl (Or.inl rfl) pe_dnewK)
      (pss_cons (ps_set (i := 2) nd rfl (Or.inl rfl) (pe_lst pa_nil))
      (pss_cons (ps_for (passes_of rfl) rfl (pi_enum (by rfl) gE (pa_cons (pv 0) pa_nil)) (pg_tup rfl (pgs_cons (pg_name (i := 3) nd rfl (Or.inl rfl)) (pgs_cons (pg_name (i := 4) nd rfl (Or.inl rfl)) pgs_nil)))
        (pss_cons (ps_if (pt_not (pt_val (pe_def dC hr rfl (pa_cons (pv 3) (pa_cons (pv 4) (pa_cons (pe_callB call_len_seq (by rfl) T.len PySem.boot_len (pa_cons (pv 2) pa_nil)) pa_nil)))))) (pss_one (ps_raise rfl (takes_of rfl rfl rfl rfl) (pmk_oex TE.sup.oex TE.iC TE.tI FI r2 TE.bI .nil (fun _ _ _ _ _ _ _ h => h.elim) rfl TE.mgE (pa_cons (pv 3) pa_nil)))) pss_nil)
        (pss_one (ps_if (pt_cmpR (op_in_seq : OpR _ _ (rIn K false)) (pe_ix (ix_list : IxR _ (rIxL K)) (pv 4) pe_int (fun _ _ => rfl)) (pe_glob (v := .ref aB) rfl gB rfl) (by rfl))
          (pss_one (ps_expr (pe_bm PySem.F.plainAttrs_list PySem.F.slot_list_append PySem.F.type_list_append mt_append (pv 2) (pa_cons (pv 3) pa_nil))))
          (pss_one (ps_if (pt_cmpR op_eq (pe_ix (ix_list : IxR _ (rIxL K)) (pv 4) pe_int (fun _ _ => rfl)) pe_str (nomark _))
            (pss_one (ps_dput hu (pv 1) (pe_bm0 PySem.F.plainAttrs_list PySem.F.slot_list_pop PySem.F.type_list_pop mt_pop (pv 2)) (pv 3) rfl)) pss_nil))))))
      (pss_cons (ps_if (pt_truth (pv 2) (fun _ => rfl)) (pss_one (ps_raise rfl (takes_of rfl rfl rfl rfl) (pmk_oex TE.sup.oex TE.iC TE.tI FI r2 TE.bI .nil (fun _ _ _ _ _ _ _ h => h.elim) rfl TE.mgE (pa_cons (pe_callB call_len_seq (by rfl) T.len PySem.boot_len (pa_cons (pv 0) pa_nil)) pa_nil)))) pss_nil)
      (pss_one (ps_ret (pv 1)))))), ?_⟩
    refine fun D1 n1 => ⟨by decide, fun D2 n2 => ?_⟩
    have n2H : H D2 = none := by
      cases c : H D2 with
      | none => rfl
      | some o => rw [Same.upd_new (o := .dK []) n1 D2 o c] at n2; cases n2
    have n12 : D1 ≠ D2 := fun e => by rw [← e, upd_same] at n2; cases n2
    have s0 : Same H (upd (upd H D1 (.dK [])) D2 (.lst [])) := (Same.upd_new n1).trans (Same.upd_new n2)
    have g1 : (upd (upd H D1 (.dK [])) D2 (.lst [])) D1 = some (.dK (kvO [])) := by rw [upd_ne n12, upd_same]; rfl
    have g2 : (upd (upd H D1 (.dK [])) D2 (.lst [])) D2 = some (.lst (nts [])) := upd_same
    generalize upd (upd H D1 (.dK [])) D2 (.lst []) = H0 at s0 g1 g2 ⊢
    obtain ⟨ps, hps, hpr⟩ := id hA
    have lps : ps.length = R.length := hpr.length
    have raised : ∀ (H1 : Hp) (p : Nat), Same H H1 → p ≤ 1000 → blkM R 0 [] [] = .error p → ∀ x, H1 x = none → ∀ dd, (upd H1 x (exo x CE none)) dd = none → dd ≠ x →
        E (.ref CE) (some dd) (upd (del (upd (upd (upd H1 x (exo x CE none)) dd (exd dd [("row", .int (p : Nat))])) x (exo x CE (some dd))) x) dd (.xd [("row", .int (p : Nat))])) := fun H1 p s1 hp e x hx dd hd1 hd2 => by
      rw [upd_ne hd2] at hd1
      refine kB p e _ dd (fun b o q => ?_) upd_same
      have q1 := s1 b o q
      have nb : b ≠ dd := ne_of_none q1 hd1
      have na : b ≠ x := ne_of_none q1 hx
      rw [upd_ne nb, del_ne na, upd_ne na, upd_ne nb, upd_ne na]
      exact q1
    refine ⟨_, rfl, a, _, rfl, SqL.of (s0 _ _ hps), ?_⟩
    refine for_it (walk_enum (xs := ps.map V.ref)) (fun i σ H' => ∃ (bg : List Nat) (fd : List (Nat × Nat)) (x3 x4 : Option V), σ = [some (.ref a), some (.ref D1), some (.ref D2), x3, x4] ∧ Same H H' ∧ H' D1 = some (.dK (kvO fd)) ∧ H' D2 = some (.lst (nts bg)) ∧ bg.length ≤ i ∧ fd.length ≤ i ∧ blkM R 0 [] [] = blkM (R.drop i) i bg fd)
      ⟨[], [], none, none, rfl, s0, g1, g2, Nat.le_refl _, Nat.le_refl _, by rw [List.drop_zero]⟩ (fun _ _ H' _ h => by obtain ⟨_, _, _, _, _, s1, _⟩ := h; exact SqL.of (s1 _ _ hps)) ?_ ?_
    · rintro i x σ H1 H2 hi ⟨bg, fd, x3, x4, rfl, s1, k1, k2, lb, lf, em⟩ ⟨T1, z1, z2, rfl, nT, rfl, e1, e2⟩
      cases e1
      obtain ⟨p, hp, rfl⟩ := getE e2
      obtain ⟨r, hr', hpp⟩ := paired_atL hpr hp
      have hi' : i < R.length := (List.getElem?_eq_some_iff.mp hr').1
      have q1 := Same.upd_new (o := .tup [.int (i : Nat), .ref p]) nT
      have s2 := s1.trans q1
      have k1' := q1 _ _ k1
      have k2' := q1 _ _ k2
      refine ⟨T1, _, rfl, SqT.of upd_same, rfl, _, _, rfl, _, _, rfl, rfl, ?_⟩
      generalize upd H1 T1 (.tup [.int (i : Nat), .ref p]) = H3 at s2 k1' k2' ⊢
      have hrk := hR r (List.mem_of_getElem? hr')
      have ed : R.drop i = r :: R.drop (i + 1) := by
        rw [List.drop_eq_getElem_cons hi']
        congr 1
        rw [List.getElem?_eq_getElem hi'] at hr'
        exact Option.some.inj hr'
      rw [ed, blk_cons] at em
      obtain ⟨w0, os, rfl⟩ : ∃ w0 os, r = w0 :: os := by
        cases r with
        | nil => exact absurd rfl hrk.1
        | cons w0 os => exact ⟨w0, os, rfl⟩
      have eh : (w0 :: os).headD "" = w0 := rfl
      rw [eh] at em
      have lnt : (nts bg).length = bg.length := by unfold nts; rw [List.length_map, List.length_reverse]
      refine ⟨_, rfl, _, rfl, _, rfl, D2, _, rfl, .inl (SqL.of k2'), p, w0 :: os, i, bg.length, by rw [lnt]; rfl, s2 _ _ hpp, hrk, fun H4 s4 => ⟨_, rfl, ?_⟩⟩
      have s5 := s2.trans s4
      have k1'' := s4 _ _ k1'
      have k2'' := s4 _ _ k2'
      cases c1 : standB i (w0 :: os) bg.length with
      | false =>
        rw [if_pos c1] at em
        refine iteT ?_
        refine ⟨_, rfl, (by show 1 ≤ 1000; decide), fun x hx => ⟨x, i, rfl, upd_same, by omega, fun dd hd1 hd2 => ⟨rfl, dd, [("row", .int (i : Nat))], upd_same, ?_, ?_, ?_⟩⟩⟩
        · rw [upd_ne hd2, upd_same]
        · rw [upd_ne hd2] at hd1
          exact hd1
        · exact raised H4 i s5 (by omega) em x hx dd hd1 hd2
      | true =>
        rw [if_neg (by rw [c1]; decide)] at em
        refine iteF ?_
        have hpp4 := s5 _ _ hpp
        have hat : atI ((w0 :: os).map V.str) 0 = some (.str w0) := at_zero
        refine ⟨_, rfl, p, _, 0, _, rfl, rfl, SqL.of hpp4, hat, aB, [.str "repeat", .str "when"], rfl, .inr (hB _), rfl, rfl, _, rfl, ?_⟩
        have eb : inV (.str w0) [.str "repeat", .str "when"] = isBlk w0 := inV_blk w0
        rw [if_neg (by decide), eb]
        cases c2 : isBlk w0 with
        | true =>
          rw [if_pos c2] at em
          refine iteT ?_
          refine ⟨_, rfl, .inl ⟨rfl, _, SqL.of k2''⟩, _, rfl, D2, nts bg, .int (i : Nat), rfl, rfl, k2'', by rw [lnt, sizeLine_eq]; omega, ?_⟩
          refine ⟨i :: bg, fd, _, _, rfl, fun b o e => ?_, ?_, ?_, ?_, Nat.le_succ_of_le lf, em⟩
          · rw [upd_ne (ne_of_none e n2H)]
            exact s5 _ _ e
          · rw [upd_ne n12]
            exact k1''
          · rw [upd_same]
            unfold nts
            rw [List.reverse_cons, List.map_append]
            rfl
          · rw [List.length_cons]
            omega
        | false =>
          rw [if_neg (by rw [c2]; decide)] at em
          refine iteF ?_
          refine ⟨_, rfl, p, _, 0, _, rfl, rfl, SqL.of hpp4, hat, rfl, _, rfl, ?_⟩
          rw [dec_str]
          by_cases c3 : w0 = "end"
          · rw [if_pos c3] at em
            refine ite_yes (decide_eq_true c3) ?_
            have hbg : bg ≠ [] := fun e => by
              unfold standB at c1
              rw [eh] at c1
              split at c1
              · cases c1
              · rw [e] at c1
                exact absurd c1 (by decide)
            obtain ⟨b, bg', rfl⟩ : ∃ b bg', bg = b :: bg' := by
              cases bg with
              | nil => exact absurd rfl hbg
              | cons b bg' => exact ⟨b, bg', rfl⟩
            dsimp only at em
            have en : nts (b :: bg') = nts bg' ++ [.int (b : Nat)] := by
              unfold nts
              rw [List.reverse_cons, List.map_append]
              rfl
            rw [en] at k2''
            refine ⟨_, rfl, _, rfl, _, rfl, .inl ⟨rfl, _, SqL.of k2''⟩, D2, nts bg' ++ [.int (b : Nat)], .int (b : Nat), rfl, rfl, k2'', by simp, ?_⟩
            rw [List.dropLast_concat]
            have lfd : (kvO fd).length < sizeLine := by unfold kvO; rw [List.length_map, sizeLine_eq]; omega
            refine ⟨D1, _, rfl, DPut.k (k := .inl (b : Int)) (by rw [upd_ne n12]; exact k1'') lfd, ?_⟩
            rw [kvO_put]
            refine ⟨bg', putBk fd b i, _, _, rfl, fun c o e => ?_, upd_same, ?_, ?_, ?_, em⟩
            · rw [upd_ne (ne_of_none e n1), upd_ne (ne_of_none e n2H)]
              exact s5 _ _ e
            · rw [upd_ne (Ne.symm n12), upd_same]
            · rw [List.length_cons] at lb
              omega
            · unfold putBk
              split
              · rw [List.length_map]; omega
              · rw [List.length_append]; show fd.length + 1 ≤ i + 1; omega
          · rw [if_neg c3] at em
            refine ite_no (decide_eq_false c3) ?_
            exact ⟨bg, fd, _, _, rfl, s5, k1'', k2'', Nat.le_succ_of_le lb, Nat.le_succ_of_le lf, em⟩
    · rintro σ H1 ⟨bg, fd, x3, x4, rfl, s1, k1, k2, lb, lf, em⟩
      rw [List.length_map, lps] at em
      rw [List.drop_length, blk_nil] at em
      refine ⟨_, rfl, _, .inl ⟨_, SqL.of k2, rfl⟩, ?_⟩
      by_cases c : bg = []
      · rw [if_pos c] at em
        rw [c]
        refine iteF ?_
        exact ⟨_, rfl, kO fd em H1 D1 s1 n1 k1⟩
      · rw [if_neg c] at em
        have e0 : (!(nts bg).isEmpty) = true := by
          unfold nts
          cases bg with
          | nil => exact absurd rfl c
          | cons b bg => simp
        refine ite_yes e0 ?_
        refine ⟨_, rfl, a, _, rfl, .inl (SqL.of (s1 _ _ hps)), (by show 1 ≤ 1000; decide), fun x hx => ⟨x, R.length, ?_, upd_same, by omega, fun dd hd1 hd2 => ⟨rfl, dd, [("row", .int (R.length : Nat))], upd_same, ?_, ?_, ?_⟩⟩⟩
        · rw [List.length_map, lps]
          rfl
        · rw [upd_ne hd2, upd_same]
        · rw [upd_ne hd2] at hd1
          exact hd1
        · exact raised H1 R.length s1 (by omega) em x hx dd hd1 hd2
end
end Half

namespace Half
open PySem PySem.Spec PyProof.Rows L2
/-! ### what stands while a script is executed -/
abbrev sEx (i : Nat) : Stmt := inClass (top 67) i
abbrev SS : Type := List (Str × St3)
def FirmE : HO → Prop
  | .lst _ => False
  | .ins _ _ [] => False
  | .ins _ _ ((f, _) :: _) => f ≠ "rows"
  | _ => True
structure Nx (K : PySem.W.Frag) (H H' : Hp) : Prop where
  at_ : ∀ b o, H b = some o → FirmE o → H' b = some o
  kp : Kp K H H'
section
variable {K : PySem.W.Frag} {C CT CY : Addr} {H H' H'' : Hp}
theorem StObj.nx {st : Addr} {es : Eds} (k : Nx K H H') (h : StObj CT H st es) : StObj CT H' st es := by
  obtain ⟨⟨dy, tb, nb, h1, h2, h3⟩, one⟩ := h
  obtain ⟨ys', a, b, kvs', g1, g2, g3⟩ := h3
  exact ⟨⟨dy, tb, nb, k.at_ _ _ h1 (by show _ ≠ _; decide), k.at_ _ _ h2 trivial, ys', a, b, kvs', k.at_ _ _ g1 trivial, g2, fun nm hm => let ⟨t, a, b⟩ := g3 nm hm; ⟨t, a, k.at_ _ _ b trivial⟩⟩, one⟩
theorem EdX.nx {a : Addr} {e : Edn} (k : Nx K H H') (h : EdX K H C a e) : EdX K H' C a e := by
  obtain ⟨s, n, f, g, ⟨dx, p, h1, h2⟩, h3⟩ := h
  exact ⟨s, n, f, g, ⟨dx, p, k.at_ _ _ h1 (by show _ ≠ _; decide), k.at_ _ _ h2 trivial⟩, h3.kp k.kp⟩
theorem SysAt.nx {a st : Addr} {ss : List (Str × St3)} (k : Nx K H H') (h : SysAt K CY H a st ss) : SysAt K CY H' a st ss := by
  obtain ⟨dx, d, kvs, h1, h2, h3⟩ := h.ex
  exact ⟨dx, d, kvs, k.at_ _ _ h1 (by show _ ≠ _; decide), k.at_ _ _ h2 trivial, h3.kp k.kp⟩
theorem SysOk.nx {a st : Addr} {ss : List (Str × St3)} {es : Es} (k : Nx K H H') (h : SysOk K C CT CY H a st ss es) : SysOk K C CT CY H' a st ss es :=
  ⟨h.sys.nx k, h.sto.nx k, fun e he => (h.ed e he).nx k, h.nm, h.ok, h.few⟩
end
/-- all but x and o stand -/
structure Fx (K : PySem.W.Frag) (x o : Addr) (H H' : Hp) : Prop where
  at_ : ∀ b v, b ≠ x → b ≠ o → H b = some v → H' b = some v
  kp : Kp K H H'
section
variable {K : PySem.W.Frag} {x o : Addr} {H H' H'' : Hp}
theorem Fx.refl : Fx K x o H H := ⟨fun _ _ _ _ h => h, Kp.refl⟩
theorem Fx.trans (a : Fx K x o H H') (b : Fx K x o H' H'') : Fx K x o H H'' := ⟨fun c v h1 h2 h => b.at_ _ _ h1 h2 (a.at_ _ _ h1 h2 h), a.kp.trans b.kp⟩
theorem Fx.of (s : Same H H') : Fx K x o H H' := ⟨fun b v _ _ h => s b v h, s.kp⟩
theorem Fx.atX {u v : HO} (h : H x = some u) (nu : ∀ xs, u ≠ .tup xs) (nf : ∀ q xs, u ≠ .frz q (.tup xs)) : Fx K x o H (upd H x v) := ⟨fun b w h1 _ hb => by rw [upd_ne h1]; exact hb, Kp.upd h (fun xs z => nu xs z) (fun q xs z => nf q xs z)⟩
theorem Fx.atO {u v : HO} (h : H o = some u) (nu : ∀ xs, u ≠ .tup xs) (nf : ∀ q xs, u ≠ .frz q (.tup xs)) : Fx K x o H (upd H o v) := ⟨fun b w _ h1 hb => by rw [upd_ne h1]; exact hb, Kp.upd h (fun xs z => nu xs z) (fun q xs z => nf q xs z)⟩
theorem Fx.nx {C dx : Addr} {v : V} {fs : List (Str × V)} {ys : List V} (f : Fx K x o H H') (hx : H x = some (.ins C dx (("rows", v) :: fs))) (ho : H o = some (.lst ys)) : Nx K H H' := ⟨fun b u hb fm => f.at_ b u (fun e => by
    rw [e, hx] at hb
    cases hb
    exact fm rfl) (fun e => by
    rw [e, ho] at hb
    cases hb
    exact fm) hb, f.kp⟩
end
/-! ### the mirror -/
structure Ex where
  ss : SS
  fl : List Int
  out : List Str
  n : Nat
inductive Res
  | ok (s : Ex)
  | unk (p : Nat)
  | long
def Res.bind : Res → (Ex → Res) → Res
  | .ok s, f => f s
  | .unk p, _ => .unk p
  | .long, _ => .long
def tick (s : Ex) : Res := if s.n = 300 then .long else .ok { s with n := s.n + 1 }
def showS (t : St3) : Str := Str.empty ++ t.1 ++ " " ++ Str.ofString (toString t.2.1) ++ " " ++ Str.ofString (toString t.2.2)
def refS (ws : List Str) : Str := Txt.join " " ("refused" :: ws)
def deedE (es : List Edn) (d : Deed) (s : Ex) : Ex := match refuseW es s.ss d with
  | some ws => { s with out := s.out ++ [refS ws] }
  | none => match stOf s.ss d.name with
    | some t => { s with ss := putS s.ss d.name (playM es s.fl d t).1, fl := [] }
    | none => s
def repE (f : Ex → Res) : Nat → Ex → Res
  | 0, s => .ok s
  | n + 1, s => (tick s).bind fun s => (f s).bind (repE f n)
def w1 (r : Rw) : Str := (r.drop 1).headD ""
def w2 (r : Rw) : Str := (r.drop 2).headD ""
def rowE (es : List Edn) (R : List Rw) (B : List (Nat × Nat)) (sub : Nat → Nat → Ex → Res) (p : Nat) (s : Ex) : Res :=
  let r := R.getD p []
  let w := r.headD ""
  if w = "fail" then .ok { s with fl := (r.drop 1).map fun o => ((numOf o : Nat) : Int) }
  else if w = "show" then match stOf s.ss (w1 r) with
    | none => .unk p
    | some t => .ok { s with out := s.out ++ [showS t] }
  else if w = "repeat" then repE (sub (p + 1) ((lkB B p).getD 0)) (numOf (w1 r)) s
  else if w = "when" then match stOf s.ss (w1 r) with
    | none => .unk p
    | some t => if t.1 = w2 r then sub (p + 1) ((lkB B p).getD 0) s else .ok s
  else if w = "unpack" then .ok (deedE es ⟨"unpack", w1 r, (numOf (w2 r) : Nat)⟩ s)
  else .ok (deedE es ⟨w, w1 r, 0⟩ s)
def nxt (B : List (Nat × Nat)) (b : Nat) : Nat := (lkB B b).getD b + 1
def loopE (B : List (Nat × Nat)) (row : Nat → Ex → Res) : Nat → Nat → Nat → Ex → Res
  | 0, _, _, s => .ok s
  | k + 1, b, e, s => if b < e then (tick s).bind fun s => (row b s).bind fun s => loopE B row k (nxt B b) e s else .ok s
def exS (es : List Edn) (R : List Rw) (B : List (Nat × Nat)) (sub : Nat → Nat → Ex → Res) (b e : Nat) (s : Ex) : Res := loopE B (rowE es R B sub) (e - b) b e s
def exE (es : List Edn) (R : List Rw) (B : List (Nat × Nat)) : Nat → Nat → Nat → Ex → Res
  | 0 => exS es R B fun _ _ s => .ok s
  | d + 1 => exS es R B (exE es R B d)
/-- which rows can be executed -/
def RowW (R : List Rw) (B : List (Nat × Nat)) (W : Nat → Nat → Prop) (p : Nat) : Prop := ∃ r, R[p]? = some r ∧ rowB r = true ∧ r.headD "" ≠ "end" ∧ (isBlk (r.headD "") = true → ∃ q, lkB B p = some q ∧ W (p + 1) q)
inductive Chn (R : List Rw) (B : List (Nat × Nat)) (W : Nat → Nat → Prop) : Nat → Nat → Prop
  | nil {b e : Nat} : e ≤ b → Chn R B W b e
  | step {b e : Nat} : b < e → RowW R B W b → b < nxt B b → Chn R B W (nxt B b) e → Chn R B W b e
def Wf (R : List Rw) (B : List (Nat × Nat)) : Nat → Nat → Nat → Prop
  | 0 => Chn R B fun _ _ => False
  | d + 1 => Chn R B (Wf R B d)
/-! ### the execution -/
def exO (CX dx ar br y fa o : Addr) (n : Nat) : HO := .ins CX dx [("rows", .ref ar), ("blocks", .ref br), ("held_system", .ref y), ("failing", .ref fa), ("output", .ref o), ("steps", .int (n : Nat))]
def ExAt (K : PySem.W.Frag) (C CT CY CX st : Addr) (es : Es) (R : List Rw) (B : List (Nat × Nat)) (H : Hp) (x o : Addr) (s : Ex) : Prop := ∃ (dx ar br y fa : Addr) (ps : List Addr), H x = some (exO CX dx ar br y fa o s.n) ∧ SysOk K C CT CY H y st s.ss es ∧ SqT K H fa (s.fl.map V.int) ∧
  H ar = some (.lst (ps.map V.ref)) ∧ ar ≠ o ∧ Paired (fun p (r : Rw) => H p = some (.lst (r.map V.str)) ∧ p ≠ o) ps R ∧ H br = some (.dK (kvO B)) ∧ H o = some (.lst (s.out.map V.str)) ∧ s.out.length ≤ s.n ∧ s.n ≤ 300
def Fin (K : PySem.W.Frag) (C CT CY CX CU CL st : Addr) (es : Es) (R : List Rw) (B : List (Nat × Nat)) (H : Hp) (x o : Addr) (Q : VK) (E : XK) : Res → Prop
  | .ok s => ∀ H', Fx K x o H H' → ExAt K C CT CY CX st es R B H' x o s → Q .non H'
  | .unk p => ∀ H' dd, Fx K x o H H' → H' dd = some (.xd [("row", .int (p : Nat))]) → E (.ref CU) (some dd) H'
  | .long => ∀ H', Fx K x o H H' → E (.ref CL) none H'
section
variable {K : PySem.W.Frag} {C CT CY CX CU CL st : Addr} {es : Es} {R : List Rw} {B : List (Nat × Nat)} {H H' : Hp} {x o : Addr} {s : Ex} {Q : VK} {E : XK}
theorem ExAt.same (k : Same H H') (h : ExAt K C CT CY CX st es R B H x o s) : ExAt K C CT CY CX st es R B H' x o s := by
  obtain ⟨dx, ar, br, y, fa, ps, h1, h2, h3, h4, h5, h6, h7, h8, h9⟩ := h
  exact ⟨dx, ar, br, y, fa, ps, k _ _ h1, h2.same k, k.sqT h3, k _ _ h4, h5, Paired.mapP h6 fun _ _ q => ⟨k _ _ q.1, q.2⟩, k _ _ h7, k _ _ h8, h9⟩
theorem Fin.of {H0 : Hp} (f : Fx K x o H H0) : ∀ {r : Res}, Fin K C CT CY CX CU CL st es R B H x o Q E r → Fin K C CT CY CX CU CL st es R B H0 x o Q E r
  | .ok _, k => fun H' g => k H' (f.trans g)
  | .unk _, k => fun H' dd g => k H' dd (f.trans g)
  | .long, k => fun H' g => k H' (f.trans g)
end
end Half

namespace Half
open PySem PySem.Spec PyProof.Rows L2
/-! ### a step; a state; a deed -/
structure TxtEx (K : PySem.W.Frag) (mg : Str → Option Value) (CX CL : Addr) : Prop where
  cl : Cls K CX
  nR : NoAttr K CX "rows"
  nB : NoAttr K CX "blocks"
  nY : NoAttr K CX "held_system"
  nF : NoAttr K CX "failing"
  nO : NoAttr K CX "output"
  nS : NoAttr K CX "steps"
  stp : ∃ t, mg "MOST_STEPS" = some (.int 300 t)
  lng : ErrC K mg "TooLong" CL
  tup : mg "tuple" = none
  int : mg "int" = none
  ran : mg "range" = none
def WhyFew (es : List Edn) (ss : SS) (d : Deed) : Prop := ∀ ws, refuseW es ss d = some ws → ws.length ≤ 10 ∧ ∀ z ∈ ws, z.length ≤ 1000
section
variable (K : PySem.W.Frag) (C CT CY CX CU CL st : Addr) (es : Es) (R : List Rw) (B : List (Nat × Nat))
def spStp : Sp := fun vs H Q E => ∃ (x o : Addr) (s : Ex), vs = [.ref x] ∧ ExAt K C CT CY CX st es R B H x o s ∧ (s.n = 300 → E (.ref CL) none H) ∧ (s.n ≠ 300 → ∀ H', Fx K x o H H' → ExAt K C CT CY CX st es R B H' x o { s with n := s.n + 1 } → Q .non H')
def spStf : Sp := fun vs H Q E => ∃ (x o : Addr) (p : Nat) (r : Rw) (s : Ex), vs = [.ref x, .int (p : Nat)] ∧ ExAt K C CT CY CX st es R B H x o s ∧ R[p]? = some r ∧ 2 ≤ r.length ∧ p ≤ 1000 ∧
  (stOf s.ss (w1 r) = none → ∀ H' dd, Same H H' → H' dd = some (.xd [("row", .int (p : Nat))]) → E (.ref CU) (some dd) H') ∧ (∀ t, stOf s.ss (w1 r) = some t → ∀ H' a, Same H H' → SqT K H' a (stV t) → Q (.ref a) H')
def spExd : Sp := fun vs H Q E => ∃ (x o t : Addr) (d : Deed) (s : Ex), vs = [.ref x, .ref t] ∧ ExAt K C CT CY CX st es R B H x o s ∧ s.out.length < s.n ∧ Lean es ∧ SqT K H t d.vs ∧ d.word ∈ DWS ∧ WhyFew (es.map (·.2)) s.ss d ∧
  ∀ H', Fx K x o H H' → ExAt K C CT CY CX st es R B H' x o (deedE (es.map (·.2)) d s) → Q .non H'
end
section
variable {P : Program} {w : World} {K : PySem.W.Frag} {mg : Str → Option Value} {base : Heap} {C CT CY CN CU' CI CR CX CU CL st fE : Addr} {fdE : FuncData} {es : Es} {R : List Rw} {B : List (Nat × Nat)}
theorem sum_small {ws : List Str} (h : ∀ z ∈ ws, z.length ≤ 1000) : (ws.map (·.length)).sum ≤ ws.length * 1000 := by
  induction ws with
  | nil => decide
  | cons z ws ih =>
    have a := ih fun y m => h y (.tail _ m)
    have b := h z (.head _)
    rw [List.map_cons, List.sum_cons, List.length_cons]
    omega
/-- the instance has other fields -/
theorem ExAt.upx {H : Hp} {x o dx ar br y fa y' fa' : Addr} {s : Ex} {ss : SS} {fl : List Int} {n : Nat} (h : ExAt K C CT CY CX st es R B H x o s) (h1 : H x = some (exO CX dx ar br y fa o s.n)) (hn : s.out.length ≤ n) (hm : n ≤ 300)
    (hy : SysOk K C CT CY H y' st ss es := by assumption) (hf : SqT K H fa' (fl.map V.int) := by assumption) : ExAt K C CT CY CX st es R B (upd H x (exO CX dx ar br y' fa' o n)) x o ⟨ss, fl, s.out, n⟩ := by
  obtain ⟨dx2, ar2, br2, y2, fa2, ps, g1, g2, g3, g4, g5, g6, g7, g8, g9, g10⟩ := h
  rw [h1] at g1
  cases g1
  have f : Fx K x o H (upd H x (exO CX dx ar br y' fa' o n)) := Fx.atX h1 (fun _ z => by cases z) (fun _ _ z => by cases z)
  have nx := Fx.nx f h1 g8
  have ne : ∀ {b : Addr} {v : HO}, H b = some v → (∀ C dx fs, v ≠ .ins C dx fs) → b ≠ x := fun hb nv e => by
    rw [e, h1] at hb
    exact nv _ _ _ (Option.some.inj hb).symm
  refine ⟨dx, ar, br, y', fa', ps, upd_same, hy.nx nx, f.kp _ _ hf, ?_, g5, Paired.mapP g6 fun p r q => ⟨?_, q.2⟩, nx.at_ _ _ g7 trivial, ?_, hn, hm⟩
  · rw [upd_ne (ne g4 (fun _ _ _ z => by cases z))]
    exact g4
  · rw [upd_ne (ne q.1 (fun _ _ _ z => by cases z))]
    exact q.1
  · rw [upd_ne (ne g8 (fun _ _ _ z => by cases z))]
    exact g8
theorem ExAt.upo {H : Hp} {x o : Addr} {s : Ex} {out : List Str} (h : ExAt K C CT CY CX st es R B H x o s) (hn : out.length ≤ s.n) : ExAt K C CT CY CX st es R B (upd H o (.lst (out.map V.str))) x o { s with out := out } := by
  obtain ⟨dx, ar, br, y, fa, ps, g1, g2, g3, g4, g5, g6, g7, g8, g9, g10⟩ := h
  have f : Fx K x o H (upd H o (.lst (out.map V.str))) := Fx.atO g8 (fun _ z => by cases z) (fun _ _ z => by cases z)
  have nx := Fx.nx f g1 g8
  have nxo : x ≠ o := fun e => by
    rw [e, g8] at g1
    cases g1
  refine ⟨dx, ar, br, y, fa, ps, ?_, g2.nx nx, f.kp _ _ g3, ?_, g5, Paired.mapP g6 fun p r q => ⟨?_, q.2⟩, nx.at_ _ _ g7 trivial, upd_same, hn, g10⟩
  · rw [upd_ne nxo]
    exact g1
  · rw [upd_ne g5]
    exact g4
  · rw [upd_ne q.2]
    exact q.1
theorem scStp : FnScope ["self"] ["self"] (defScope (sEx 1)) := ⟨rfl, rfl, rfl, by decide +kernel, rfl, by decide +kernel, by decide +kernel⟩
theorem ok_stp {f : Addr} {fd : FuncData} (F : Fun K "step_on" "Execution.step_on" (sEx 1) f fd) (T : TxtEx K mg CX CL) : FnOk P w K mg base (L2.CX P w) 1 f fd ["self"] (spStp K C CT CY CX CL st es R B) := by
  refine F.okX scStp (fun vs H Q E h => ?_) (fun cdv A outer s H vs Q E hr h => ?_)
  · obtain ⟨x, o, s, rfl, _⟩ := h
    rfl
  · obtain ⟨x, o, s', rfl, hX, kL, kN⟩ := h
    obtain ⟨tS, gS⟩ := T.stp
    refine ⟨_, pss_cons (ps_if (pt_cmpR op_eq (pe_fld (pv 0) rfl) (pe_glob (v := .int 300) rfl gS ⟨_, rfl⟩) (nomark _)) (pss_one (ps_raise rfl (takes_of rfl rfl rfl rfl) (SkE.pmk_own1 PySem.F.excBase_ValueError T.lng.x T.lng.g T.lng.k (raises_own T.lng.b T.lng.t) rfl (pe_joined (.cons pe_str (.cons (pe_fmt (pe_glob (v := .int 300) rfl gS ⟨_, rfl⟩)) (.cons pe_str .nil))))))) pss_nil)
      (pss_one (ps_fldaug (pv 0) pe_int in_add)), ?_⟩
    obtain ⟨dx, ar, br, y, fa, ps, h1, h2, h3, h4, h5, h6, h7, h8, h9, h10⟩ := id hX
    refine ⟨_, rfl, x, CX, dx, _, _, rfl, h1, T.cl, T.nS, rfl, rfl, _, rfl, ?_⟩
    by_cases c : s'.n = 300
    · refine ite_yes (by rw [c]; rfl) ?_
      have l1 : (Str.ofString (toString (300 : Int))).length ≤ 10 := (small_text 300 (by omega)).1
      have l2 : ((300 : Int)).natAbs.log2 < 1920 := (small_text 300 (by omega)).2
      have e1 : ("the script takes more than " : Str).length = 27 := by decide
      have e2 : (" steps" : Str).length = 6 := by decide
      have e0 : (Str.empty).length = 0 := by decide
      refine ⟨_, rfl, (by decide), .inr ⟨(300 : Int), rfl, l2, _, rfl, ?_, _, rfl, ?_, kL c⟩⟩
      · rw [app_len, app_len, sizeLine_eq]; omega
      · rw [app_len, app_len, app_len, sizeLine_eq]; omega
    · refine ite_no (decide_eq_false (fun e => c (by injection e with e; omega))) ?_
      refine ⟨_, rfl, x, CX, dx, _, _, rfl, h1, T.cl, T.nS, rfl, _, _, rfl, rfl, dx, _, h1, (by show 6 < 1000; decide), ?_⟩
      have fx : Fx K x o H (upd H x (exO CX dx ar br y fa o (s'.n + 1))) := Fx.atX h1 (fun _ z => by cases z) (fun _ _ z => by cases z)
      have e : (.ins CX dx (putF "steps" (.int ((s'.n : Nat) + 1)) [("rows", .ref ar), ("blocks", .ref br), ("held_system", .ref y), ("failing", .ref fa), ("output", .ref o), ("steps", .int (s'.n : Nat))]) : HO) = exO CX dx ar br y fa o (s'.n + 1) := rfl
      refine kN c _ fx ?_
      exact ExAt.upx hX h1 (hn := by show s'.out.length ≤ s'.n + 1; omega) (hm := by show s'.n + 1 ≤ 300; omega)
theorem scStf : FnScope ["self", "place", "name"] ["self", "place"] (defScope (sEx 4)) := ⟨rfl, rfl, rfl, by decide +kernel, rfl, by decide +kernel, by decide +kernel⟩
theorem ok_stf {f : Addr} {fd : FuncData} (F : Fun K "state_for" "Execution.state_for" (sEx 4) f fd) (T : TxtEx K mg CX CL) (Y : SyF P w K mg base C CT CY CN CU') (TE : TxtSe P w K mg base "UnknownPackage" "UnknownPackage.__init__" sIup CU fE fdE) : FnOk P w K mg base (L2.CX P w) 3 f fd ["self", "place"] (spStf K C CT CY CX CU st es R B) := by
  refine F.okX scStf (fun vs H Q E h => ?_) (fun cdv A outer s H vs Q E hr h => ?_)
  · obtain ⟨x, o, p, r, s, rfl, _⟩ := h
    rfl
  · obtain ⟨x, o, p, r, s', rfl, hX, hr', hlr, hp, kN, kS⟩ := h
    have nd := scStf.nd
    have r2 : Room 2 _ := hr.mono (by decide)
    have FI : FnOk P w K mg base CX0 1 fE fdE ["self", "row"] (spErrI CU "row") := ok_iup TE.er TE.sup TE.nF
    refine ⟨_, pss_cons (ps_set (i := 2) nd rfl (Or.inl rfl) (pe_ix (ix_list : IxR _ (rIxL K)) (pe_ix (ix_list : IxR _ (rIxL K)) (pe_fld (pv 0) rfl) (pv 1) (fun _ _ => rfl)) pe_int (fun _ _ => rfl)))
      (pss_cons (ps_if (pt_cmpR (op_notIn_seq : OpR _ _ (rIn K true)) (pv 2) (pe_nam Y.nam r2 (pe_ysto Y r2 (pe_fld (pv 0) rfl))) (by rfl)) (pss_one (ps_raise rfl (takes_of rfl rfl rfl rfl) (pmk_oex TE.sup.oex TE.iC TE.tI FI r2 TE.bI .nil (fun _ _ _ _ _ _ _ h => h.elim) rfl TE.mgE (pa_cons (pv 1) pa_nil)))) pss_nil)
      (pss_one (ps_ret (pe_yget Y r2 (pe_fld (pv 0) rfl) (pv 2))))), ?_⟩
    obtain ⟨dx, ar, br, y, fa, ps, h1, hY, h3, h4, h5, h6, h7, h8, h9, h10⟩ := id hX
    obtain ⟨q, hq, hqr, _⟩ := paired_atR h6 hr'
    have at1 : atI (ps.map V.ref) ((p : Nat) : Int) = some (.ref q) := atI_nat (by rw [List.getElem?_map, hq]; rfl)
    obtain ⟨z0, z1, os, rfl⟩ : ∃ z0 z1 os, r = z0 :: z1 :: os := by
      match r, hlr with
      | z0 :: z1 :: os, _ => exact ⟨z0, z1, os, rfl⟩
    have at2 : atI ((z0 :: z1 :: os).map V.str) 1 = some (.str z1) := atI_nat (j := 1) rfl
    refine ⟨_, rfl, x, CX, dx, _, _, rfl, h1, T.cl, T.nR, rfl, _, rfl, ar, _, p, _, rfl, rfl, SqL.of h4, at1, q, _, 1, _, rfl, rfl, SqL.of hqr, at2, ?_⟩
    refine ⟨_, rfl, _, rfl, x, CX, dx, _, _, rfl, h1, T.cl, T.nY, rfl, ysto_read hY.sys (nam_read hY.sto fun ns np hns nq => ?_)⟩
    have hns : ns = s'.ss.map (·.1) := hns.uniq hY.nm
    subst hns
    have s1 := Same.upd_new (o := .tup ((s'.ss.map (·.1)).map V.str)) nq
    refine ⟨np, _, rfl, .inr (.inl (.inl upd_same)), rfl, flat_strs _, _, rfl, ?_⟩
    rw [if_pos rfl, inV_str]
    have ew : w1 (z0 :: z1 :: os) = z1 := rfl
    rw [ew] at kN kS
    cases c : stOf s'.ss z1 with
    | none =>
      have hm : has (s'.ss.map (·.1)) z1 = false := by
        cases z : has (s'.ss.map (·.1)) z1 with
        | false => rfl
        | true =>
          obtain ⟨t, ht⟩ := stOf_some (has_iff.mp z)
          rw [c] at ht
          cases ht
      rw [hm]
      refine iteT ?_
      refine ⟨_, rfl, (by show 1 ≤ 1000; decide), fun a ha => ⟨a, p, rfl, upd_same, hp, fun dd hd1 hd2 => ⟨rfl, dd, [("row", .int (p : Nat))], upd_same, ?_, ?_, ?_⟩⟩⟩
      · rw [upd_ne hd2, upd_same]
      · rw [upd_ne hd2] at hd1
        exact hd1
      · rw [upd_ne hd2] at hd1
        refine kN c _ dd (fun b u q1 => ?_) upd_same
        have q2 := s1 b u q1
        have nb : b ≠ dd := ne_of_none q2 hd1
        have na : b ≠ a := ne_of_none q2 ha
        rw [upd_ne nb, del_ne na, upd_ne na, upd_ne nb, upd_ne na]
        exact q2
    | some t =>
      have hm : has (s'.ss.map (·.1)) z1 = true := has_iff.mpr (List.mem_map.mpr ⟨_, stOf_in c, rfl⟩)
      rw [hm]
      refine iteF ?_
      exact ⟨_, rfl, x, CX, dx, _, _, rfl, s1 _ _ h1, T.cl, T.nY, rfl, _, rfl, yget_read (hY.same s1).sys c fun a ha => kS t c _ a s1 ha⟩
theorem scExd : FnScope ["self", "deed", "why", "calls"] ["self", "deed"] (defScope (sEx 5)) := ⟨rfl, rfl, rfl, by decide +kernel, rfl, by decide +kernel, by decide +kernel⟩
theorem ok_exd {f : Addr} {fd : FuncData} (F : Fun K "execute_deed" "Execution.execute_deed" (sEx 5) f fd) (T : TxtEx K mg CX CL) (dR : Def P w K mg base 7 "refusal" ["system", "deed"] (spRef K C CT CY)) (dRun : DefX P w K mg base 9 "run" ["system", "deed", "fails"] (spRun K C CT CY CR)) : FnOk P w K mg base (L2.CX P w) 10 f fd ["self", "deed"] (spExd K C CT CY CX st es R B) := by
  refine F.okX scExd (fun vs H Q E h => ?_) (fun cdv A outer s H vs Q E hr h => ?_)
  · obtain ⟨x, o, t, d, s, rfl, _⟩ := h
    rfl
  · obtain ⟨x, o, t, d, s', rfl, hX, hln, lean, ht, hw, few, k⟩ := h
    have nd := scExd.nd
    have r7 : Room 7 _ := hr.mono (by decide)
    refine ⟨_, pss_cons (ps_set (i := 2) nd rfl (Or.inl rfl) (pe_def dR r7 rfl (pa_cons (pe_fld (pv 0) rfl) (pa_cons (pv 1) pa_nil))))
      (pss_cons (ps_if (pt_cmp (pc_notN (pv 2))) (pss_cons (ps_expr (pe_bm PySem.F.plainAttrs_list PySem.F.slot_list_append PySem.F.type_list_append mt_append (pe_fld (pv 0) rfl) (pa_cons (pe_join pe_str (pe_lst (pa_cons pe_str (StX.pa_star (pv 2) pa_nil)))) pa_nil))) (pss_one ps_retN)) pss_nil)
      (pss_cons (ps_asg (pe_defX dRun hr rfl (passes_call (takes_of rfl rfl rfl rfl) (fun _ _ _ _ h => h)) (pa_cons (pe_fld (pv 0) rfl) (pa_cons (pv 1) (pa_cons (pe_fld (pv 0) rfl) pa_nil)))) (pg_tup rfl (pgs_cons (pg_fld (pv 0)) (pgs_cons (pg_name (i := 3) nd rfl (Or.inl rfl)) pgs_nil))))
      (pss_one (ps_fld (pv 0) (pe_tup pa_nil) rfl)))), ?_⟩
    obtain ⟨dx, ar, br, y, fa, ps, h1, hY, h3, h4, h5, h6, h7, h8, h9, h10⟩ := id hX
    refine ⟨_, rfl, x, CX, dx, _, _, rfl, h1, T.cl, T.nY, rfl, _, rfl, y, st, t, s'.ss, es, d, rfl, hY, lean, ht, hw, fun v H1 s1 hv => ?_⟩
    cases c : refuseW (es.map (·.2)) s'.ss d with
    | some ws =>
      rw [c] at hv
      obtain ⟨tw, rfl, htw⟩ := hv
      obtain ⟨lw, lz⟩ := few ws c
      refine ⟨_, rfl, true, rfl, iteT ?_⟩
      have hsum : ((("refused" : Str) :: ws).map (·.length)).sum + (("refused" : Str) :: ws).length * ((" " : Str)).length ≤ 16777216 := by
        have e1 : ("refused" : Str).length = 7 := by decide
        have e2 : (" " : Str).length = 1 := by decide
        have := sum_small lz
        rw [List.map_cons, List.sum_cons, List.length_cons, e1, e2]
        have : ws.length * 1000 ≤ 10000 := by omega
        omega
      refine ⟨_, rfl, x, CX, dx, _, _, rfl, s1 _ _ h1, T.cl, T.nO, rfl, .inl ⟨rfl, _, SqL.of (s1 _ _ h8)⟩, ⟨_, rfl⟩, _, rfl, tw, _, rfl, .inl htw, ?_⟩
      dsimp only [tNil]
      rw [List.append_nil]
      refine ⟨by rw [List.length_cons, List.length_map, sizeLine_eq]; omega, fun p np => ?_⟩
      have s2 := s1.trans (Same.upd_new (o := .lst (.str "refused" :: ws.map V.str)) np)
      have gp : (upd H1 p (.lst (.str "refused" :: ws.map V.str))) p = some (.lst (((("refused" : Str) :: ws)).map V.str)) := upd_same
      generalize upd H1 p (.lst (.str "refused" :: ws.map V.str)) = H2 at s2 gp ⊢
      have hX2 := hX.same s2
      refine ⟨" ", p, "refused" :: ws, rfl, rfl, .inl (SqL.of gp), hsum, o, s'.out.map V.str, _, rfl, rfl, s2 _ _ h8, by rw [List.length_map, sizeLine_eq]; omega, ?_⟩
      have e : s'.out.map V.str ++ [.str (refS ws)] = (s'.out ++ [refS ws]).map V.str := by rw [List.map_append]; rfl
      show Q .non (upd H2 o (.lst (s'.out.map V.str ++ [.str (refS ws)])))
      rw [e]
      have ed : deedE (es.map (·.2)) d s' = { s' with out := s'.out ++ [refS ws] } := by unfold deedE; rw [c]
      rw [ed] at k
      refine k _ ((Fx.of s2).trans (Fx.atO (s2 _ _ h8) (fun _ z => by cases z) (fun _ _ z => by cases z))) (ExAt.upo hX2 ?_)
      rw [List.length_append]
      show s'.out.length + 1 ≤ s'.n
      omega
    | none =>
      rw [c] at hv
      cases hv
      refine ⟨_, rfl, false, rfl, iteF ?_⟩
      refine ⟨_, rfl, x, CX, dx, _, _, rfl, s1 _ _ h1, T.cl, T.nY, rfl, _, rfl, _, rfl, x, CX, dx, _, _, rfl, s1 _ _ h1, T.cl, T.nF, rfl, y, st, t, fa, s'.fl, s'.ss, es, d, rfl, hY.same s1, lean, s1.sqT ht, s1.sqT h3, hw, (fun ws z => by rw [c] at z; cases z), fun _ s3 hs H2 p a' m s2 hp hY2 hm => ?_, (fun ws z => by rw [c] at z; cases z)⟩
      have ed : deedE (es.map (·.2)) d s' = { s' with ss := putS s'.ss d.name (playM (es.map (·.2)) s'.fl d s3).1, fl := [] } := by unfold deedE; rw [c, hs]
      rw [ed] at k
      have S := s1.trans s2
      have hX2 := hX.same S
      have hx2 : H2 x = some (exO CX dx ar br y fa o s'.n) := S _ _ h1
      have f3 : SqT K H2 fa (s'.fl.map V.int) := S.sqT h3
      refine ⟨p, _, rfl, hp, rfl, _, _, rfl, ⟨_, rfl, x, CX, dx, _, rfl, hx2, T.cl, T.nY, (by show 6 < 1000; decide), ?_⟩⟩
      have e3 : (.ins CX dx (putF "held_system" (.ref a') [("rows", .ref ar), ("blocks", .ref br), ("held_system", .ref y), ("failing", .ref fa), ("output", .ref o), ("steps", .int (s'.n : Nat))]) : HO) = exO CX dx ar br a' fa o s'.n := rfl
      have hX3 := ExAt.upx (y' := a') (fa' := fa) hX2 hx2 h9 h10
      have fx3 : Fx K x o H2 (upd H2 x (exO CX dx ar br a' fa o s'.n)) := Fx.atX hx2 (fun _ z => by cases z) (fun _ _ z => by cases z)
      have gx3 : (upd H2 x (exO CX dx ar br a' fa o s'.n)) x = some (exO CX dx ar br a' fa o s'.n) := upd_same
      show gCons (gName 3) gNil _ _ (upd H2 x (.ins CX dx (putF "held_system" (.ref a') [("rows", .ref ar), ("blocks", .ref br), ("held_system", .ref y), ("failing", .ref fa), ("output", .ref o), ("steps", .int (s'.n : Nat))]))) _
      rw [e3]
      generalize upd H2 x (exO CX dx ar br a' fa o s'.n) = H3 at hX3 fx3 gx3 ⊢
      refine ⟨_, _, rfl, rfl, by decide, fun q nq => ?_⟩
      have s4 := Same.upd_new (o := .tup []) nq
      have gq : SqT K (upd H3 q (.tup [])) q (([] : List Int).map V.int) := SqT.of upd_same
      generalize upd H3 q (.tup []) = H4 at s4 gq ⊢
      have gx4 := s4 _ _ gx3
      refine ⟨_, rfl, x, CX, dx, _, rfl, gx4, T.cl, T.nF, (by show 6 < 1000; decide), ?_⟩
      have e4 : (.ins CX dx (putF "failing" (.ref q) [("rows", .ref ar), ("blocks", .ref br), ("held_system", .ref a'), ("failing", .ref fa), ("output", .ref o), ("steps", .int (s'.n : Nat))]) : HO) = exO CX dx ar br a' q o s'.n := rfl
      have fx4 : Fx K x o H4 (upd H4 x (exO CX dx ar br a' q o s'.n)) := Fx.atX gx4 (fun _ z => by cases z) (fun _ _ z => by cases z)
      refine k _ ((Fx.of S).trans (fx3.trans ((Fx.of s4).trans fx4))) ?_
      obtain ⟨_, _, _, _, _, _, b1, b2, _⟩ := hX3.same s4
      rw [gx4] at b1
      cases b1
      have hX4 := hX3.same s4
      have h5' := ExAt.upx (y' := a') (fa' := q) (fl := []) hX4 gx4 h9 h10
      exact h5'
end
end Half

namespace Half
open PySem PySem.Spec PyProof.Rows L2
/-! ### a row is executed -/
inductive RowC : Rw → Prop
  | fail (os : List Str) : os.all isNum = true → RowC ("fail" :: os)
  | shw (n : Str) : RowC ["show", n]
  | rep (n : Str) : isNum n = true → RowC ["repeat", n]
  | whn (n t : Str) : RowC ["when", n, t]
  | upk (n v : Str) : isNum v = true → RowC ["unpack", n, v]
  | dd (z n : Str) : z = "setup" ∨ z = "remove" ∨ z = "purge" → RowC [z, n]
theorem len1 {os : List Str} (h : os.length = 1) : ∃ a, os = [a] := by
  match os, h with
  | [a], _ => exact ⟨a, rfl⟩
theorem len2 {os : List Str} (h : os.length = 2) : ∃ a b, os = [a, b] := by
  match os, h with
  | [a, b], _ => exact ⟨a, b, rfl⟩
theorem row_cases {r : Rw} (h : rowB r = true) (ne : r.headD "" ≠ "end") : RowC r := by
  cases r with
  | nil => cases h
  | cons z os =>
    have ne : z ≠ "end" := ne
    by_cases c : z = "fail"
    · have e : rowB (z :: os) = (os.all isNum && ascI (os.map fun o => ((numOf o : Nat) : Int))) := if_pos c
      rw [e, Bool.and_eq_true] at h
      rw [c]
      exact .fail os h.1
    · have e : rowB (z :: os) = match shapeOf z with
        | none => false
        | some ks => if os.length = ks.length then (List.zipWith fitB os ks).all id else false := if_neg c
      rw [e] at h
      have go : ∀ ks, shapeOf z = some ks → os.length = ks.length ∧ (List.zipWith fitB os ks).all id = true := fun ks hk => by
        rw [hk] at h
        dsimp only at h
        split at h
        · rename_i q
          exact ⟨q, h⟩
        · cases h
      have one : ∀ {k : Str}, shapeOf z = some [k] → ∃ n, os = [n] ∧ fitB n k = true := fun hk => by
        obtain ⟨a, b⟩ := go _ hk
        obtain ⟨n, rfl⟩ := len1 a
        exact ⟨n, rfl, by simpa using b⟩
      have two : ∀ {k l : Str}, shapeOf z = some [k, l] → ∃ n m, os = [n, m] ∧ fitB n k = true ∧ fitB m l = true := fun hk => by
        obtain ⟨a, b⟩ := go _ hk
        obtain ⟨n, m, rfl⟩ := len2 a
        exact ⟨n, m, rfl, by simpa using b⟩
      by_cases c1 : z = "unpack"
      · subst c1
        obtain ⟨n, m, rfl, _, q⟩ := two (k := "name") (l := "number") (by decide)
        exact .upk n m q
      by_cases c2 : z = "setup"
      · obtain ⟨n, rfl, _⟩ := one (k := "name") (by rw [c2]; decide)
        exact .dd z n (.inl c2)
      by_cases c3 : z = "remove"
      · obtain ⟨n, rfl, _⟩ := one (k := "name") (by rw [c3]; decide)
        exact .dd z n (.inr (.inl c3))
      by_cases c4 : z = "purge"
      · obtain ⟨n, rfl, _⟩ := one (k := "name") (by rw [c4]; decide)
        exact .dd z n (.inr (.inr c4))
      by_cases c5 : z = "show"
      · subst c5
        obtain ⟨n, rfl, _⟩ := one (k := "name") (by decide)
        exact .shw n
      by_cases c6 : z = "repeat"
      · subst c6
        obtain ⟨n, rfl, q⟩ := one (k := "number") (by decide)
        exact .rep n q
      by_cases c7 : z = "when"
      · subst c7
        obtain ⟨n, m, rfl, _⟩ := two (k := "name") (l := "status") (by decide)
        exact .whn n m
      exfalso
      have : shapeOf z = none := by
        unfold shapeOf
        rw [List.find?_eq_none.mpr (fun p hp => ?_)]
        · rfl
        · have cs : p.1 = "unpack" ∨ p.1 = "setup" ∨ p.1 = "remove" ∨ p.1 = "purge" ∨ p.1 = "show" ∨ p.1 = "repeat" ∨ p.1 = "when" ∨ p.1 = "end" := by
            unfold SHP at hp
            simp only [List.mem_cons, List.not_mem_nil, or_false] at hp
            rcases hp with rfl | rfl | rfl | rfl | rfl | rfl | rfl | rfl <;> simp
          intro q
          have q := of_decide_eq_true q
          rw [q] at cs
          rcases cs with q | q | q | q | q | q | q | q
          · exact c1 q
          · exact c2 q
          · exact c3 q
          · exact c4 q
          · exact c5 q
          · exact c6 q
          · exact c7 q
          · exact ne q
      rw [this] at h
      cases h
theorem st_small {ks : List Kk} {n : Str} {t : St3} (h : isState ks n t = true) (v : ∀ k ∈ ks, 0 ≤ k.2 ∧ k.2 ≤ 1000) : ∃ a b : Nat, t.2.1 = a ∧ t.2.2 = b ∧ a ≤ 1000 ∧ b ≤ 1000 ∧ t.1.length ≤ 8 := by
  have nat : ∀ i : Int, 0 ≤ i ∧ i ≤ 1000 → ∃ a : Nat, i = a ∧ a ≤ 1000 := fun i q => ⟨i.toNat, by omega, by omega⟩
  have rng : ∀ {i lo hi : Int}, inR (.int i) lo hi = true → lo ≤ i ∧ i ≤ hi := fun q => by
    unfold inR at q
    simpa using q
  unfold isState at h
  split at h
  · rename_i c
    rw [Bool.and_eq_true] at h
    obtain ⟨a, ea, la⟩ := nat _ ⟨(rng h.1).1, Int.le_trans (rng h.1).2 (by decide)⟩
    obtain ⟨b, eb, lb⟩ := nat _ ⟨(rng h.2).1, Int.le_trans (rng h.2).2 (by decide)⟩
    refine ⟨a, b, ea, eb, la, lb, ?_⟩
    rw [of_decide_eq_true c]
    decide
  · split at h
    · cases h
    · rename_i c1 c2
      have cs : (has THR t.1 = true ∨ t.1 = "left") ∧ has ks (n, t.2.1) = true := by
        cases x : has ks (n, t.2.1) with
        | false => rw [x] at c2; simp at c2
        | true =>
          refine ⟨?_, rfl⟩
          rw [x] at c2
          cases y : has THR t.1 with
          | true => exact .inl rfl
          | false =>
            rw [y] at c2
            by_cases z : t.1 = "left"
            · exact .inr z
            · rw [decide_eq_false z] at c2
              simp at c2
      have hv := v _ (has_iff.mp cs.2)
      obtain ⟨a, ea, la⟩ := nat _ hv
      have lt : t.1.length ≤ 8 := by
        rcases cs.1 with q | q
        · have m := has_iff.mp q
          have : ∀ z ∈ THR, z.length ≤ 8 := by decide
          exact this _ m
        · rw [q]
          decide
      split at h
      · have e := rng h
        exact ⟨a, a, ea, by omega, la, la, lt⟩
      · rw [Bool.or_eq_true] at h
        rcases h with q | q
        · have e := rng q
          exact ⟨a, 0, ea, by omega, la, by decide, lt⟩
        · obtain ⟨b, eb, lb⟩ := nat _ (v _ (has_iff.mp q))
          exact ⟨a, b, ea, eb, la, lb, lt⟩
end Half

namespace Half
open PySem PySem.Spec PyProof.Rows L2
/-! ### execute_row -/
/-- what stands of the editions and the rows -/
structure EsF (es : Es) (R : List Rw) (B : List (Nat × Nat)) : Prop where
  lean : Lean es
  ver : ∀ k ∈ keysOf es.eds, 0 ≤ k.2 ∧ k.2 ≤ 1000
  few : ∀ ss d, IsNm (keysOf es.eds) (ss.map (·.1)) → WhyFew (es.map (·.2)) ss d
  rw : ∀ r ∈ R, RwOk r
  len : R.length ≤ 500
  bnd : ∀ p q, lkB B p = some q → q ≤ 1000
section
variable (K : PySem.W.Frag) (C CT CY CX CU CL st : Addr) (es : Es) (R : List Rw) (B : List (Nat × Nat)) (W : Nat → Nat → Prop) (sub : Nat → Nat → Ex → Res)
def spRwX : Sp := fun vs H Q E => ∃ (x o : Addr) (p : Nat) (s : Ex), vs = [.ref x, .int (p : Nat)] ∧ ExAt K C CT CY CX st es R B H x o s ∧ s.out.length < s.n ∧ EsF es R B ∧ RowW R B W p ∧
  Fin K C CT CY CX CU CL st es R B H x o Q E (rowE (es.map (·.2)) R B sub p s)
def spExX : Sp := fun vs H Q E => ∃ (x o : Addr) (b e : Nat) (s : Ex), vs = [.ref x, .int (b : Nat), .int (e : Nat)] ∧ ExAt K C CT CY CX st es R B H x o s ∧ EsF es R B ∧ W b e ∧ b ≤ 1000 ∧ e ≤ 1000 ∧
  Fin K C CT CY CX CU CL st es R B H x o Q E (sub b e s)
end
section
variable {es : List Edn} {R : List Rw} {B : List (Nat × Nat)} {sub : Nat → Nat → Ex → Res} {p : Nat} {s : Ex}
theorem num_le {z : Str} (h : isNum z = true) : numOf z ≤ 99 := by
  unfold isNum at h
  simp only [Bool.and_eq_true] at h
  obtain ⟨⟨⟨_, h2⟩, h3⟩, _⟩ := h
  have l2 : (z.length : Int) ≤ 2 := of_decide_eq_true h2
  have hl : z.length = z.cps.toList.length := by rw [Array.length_toList]; rfl
  have dg : ∀ c ∈ z.cps.toList, 48 ≤ c ∧ c ≤ 57 := fun c m => by
    have m' : c ∈ DIG.cps.toList := of_decide_eq_true (List.all_eq_true.mp h3 c m)
    have : ∀ c ∈ DIG.cps.toList, 48 ≤ c ∧ c ≤ 57 := by decide
    exact this c m'
  unfold numOf
  have l3 : z.cps.toList.length ≤ 2 := by omega
  generalize z.cps.toList = l at dg l3
  match l, dg, l3 with
  | [], _, _ => decide
  | [c], dg, _ =>
    have := dg c (by simp)
    simp only [NumText.digitsVal, List.foldl]
    omega
  | [c, d], dg, _ =>
    have := dg c (by simp)
    have := dg d (by simp)
    simp only [NumText.digitsVal, List.foldl]
    omega
  | _ :: _ :: _ :: _, _, q => simp only [List.length_cons] at q; omega
theorem row_eq {z : Str} {os : List Str} (e : R.getD p [] = z :: os) : rowE es R B sub p s = if z = "fail" then .ok { s with fl := os.map fun o => ((numOf o : Nat) : Int) }
    else if z = "show" then match stOf s.ss (w1 (z :: os)) with
      | none => .unk p
      | some t => .ok { s with out := s.out ++ [showS t] }
    else if z = "repeat" then repE (sub (p + 1) ((lkB B p).getD 0)) (numOf (w1 (z :: os))) s
    else if z = "when" then match stOf s.ss (w1 (z :: os)) with
      | none => .unk p
      | some t => if t.1 = w2 (z :: os) then sub (p + 1) ((lkB B p).getD 0) s else .ok s
    else if z = "unpack" then .ok (deedE es ⟨"unpack", w1 (z :: os), (numOf (w2 (z :: os)) : Nat)⟩ s)
    else .ok (deedE es ⟨z, w1 (z :: os), 0⟩ s) := by
  unfold rowE
  rw [e]
  rfl
theorem row_fail {os : List Str} (e : R.getD p [] = ("fail" : Str) :: os) : rowE es R B sub p s = .ok { s with fl := os.map fun o => ((numOf o : Nat) : Int) } := by
  rw [row_eq e, if_pos rfl]
theorem row_show_none {n : Str} (e : R.getD p [] = [("show" : Str), n]) (h : stOf s.ss (w1 [("show" : Str), n]) = none) : rowE es R B sub p s = .unk p := by
  rw [row_eq e, if_neg (by decide), if_pos rfl, h]
theorem row_show {n : Str} {t : St3} (e : R.getD p [] = [("show" : Str), n]) (h : stOf s.ss (w1 [("show" : Str), n]) = some t) : rowE es R B sub p s = .ok { s with out := s.out ++ [showS t] } := by
  rw [row_eq e, if_neg (by decide), if_pos rfl, h]
theorem row_rep {n : Str} (e : R.getD p [] = [("repeat" : Str), n]) : rowE es R B sub p s = repE (sub (p + 1) ((lkB B p).getD 0)) (numOf n) s := by
  rw [row_eq e, if_neg (by decide), if_neg (by decide), if_pos rfl]
  rfl
theorem row_when_none {n m : Str} (e : R.getD p [] = [("when" : Str), n, m]) (h : stOf s.ss (w1 [("when" : Str), n, m]) = none) : rowE es R B sub p s = .unk p := by
  rw [row_eq e, if_neg (by decide), if_neg (by decide), if_neg (by decide), if_pos rfl, h]
theorem row_when {n m : Str} {t : St3} (e : R.getD p [] = [("when" : Str), n, m]) (h : stOf s.ss (w1 [("when" : Str), n, m]) = some t) : rowE es R B sub p s = if t.1 = m then sub (p + 1) ((lkB B p).getD 0) s else .ok s := by
  rw [row_eq e, if_neg (by decide), if_neg (by decide), if_neg (by decide), if_pos rfl, h]
  rfl
theorem row_upk {n m : Str} (e : R.getD p [] = [("unpack" : Str), n, m]) : rowE es R B sub p s = .ok (deedE es ⟨"unpack", n, (numOf m : Nat)⟩ s) := by
  rw [row_eq e, if_neg (by decide), if_neg (by decide), if_neg (by decide), if_neg (by decide), if_pos rfl]
  rfl
theorem row_dd {z n : Str} (e : R.getD p [] = [z, n]) (h : z = "setup" ∨ z = "remove" ∨ z = "purge") : rowE es R B sub p s = .ok (deedE es ⟨z, n, 0⟩ s) := by
  have ne : ∀ {y : Str}, (∀ x ∈ [("setup" : Str), "remove", "purge"], x ≠ y) → z ≠ y := fun k => by
    rcases h with q | q | q
    · rw [q]; exact k _ (by simp)
    · rw [q]; exact k _ (by simp)
    · rw [q]; exact k _ (by simp)
  rw [row_eq e, if_neg (ne (by decide)), if_neg (ne (by decide)), if_neg (ne (by decide)), if_neg (ne (by decide)), if_neg (ne (by decide))]
  rfl
end
structure MthX (P : Program) (w : World) (K : PySem.W.Frag) (mg : Str → Option Value) (base : Heap) (CX : Addr) (x : Str) (k : Nat) (ps : List Str) (sp : Sp) : Prop where
  ex : ∃ f fd, Meth K CX x f ∧ FnOk P w K mg base (L2.CX P w) k f fd ps sp ∧ Binds K fd ps []
abbrev ErwN : List Str := ["self", "place", "word", "others", "other", "status", "version", "done", "turn"]
section
variable {P : Program} {w : World} {K : PySem.W.Frag} {mg : Str → Option Value} {base : Heap} {C CT CY CX CU CL st : Addr} {es : Es} {R : List Rw} {B : List (Nat × Nat)} {W : Nat → Nat → Prop} {sub : Nat → Nat → Ex → Res}
theorem scErw : FnScope ErwN ["self", "place"] (defScope (sEx 3)) := ⟨rfl, rfl, rfl, by decide +kernel, rfl, by decide +kernel, by decide +kernel⟩
theorem ok_erw {k : Nat} {f : Addr} {fd : FuncData} (hk : 10 ≤ k) (F : Fun K "execute_row" "Execution.execute_row" (sEx 3) f fd) (T : TxtEx K mg CX CL)
    (mS : MthX P w K mg base CX "step_on" 1 ["self"] (spStp K C CT CY CX CL st es R B)) (mF : MthX P w K mg base CX "state_for" 3 ["self", "place"] (spStf K C CT CY CX CU st es R B))
    (mD : MthX P w K mg base CX "execute_deed" 10 ["self", "deed"] (spExd K C CT CY CX st es R B)) (mE : MthX P w K mg base CX "execute" k ["self", "begin", "end"] (spExX K C CT CY CX CU CL st es R B W sub)) :
    FnOk P w K mg base (L2.CX P w) (k + 1) f fd ["self", "place"] (spRwX K C CT CY CX CU CL st es R B W sub) := by
  refine F.okX scErw (fun vs H Q E h => ?_) (fun cdv A outer s H vs Q E hr h => ?_)
  · obtain ⟨x, o, p, s, rfl, _⟩ := h
    rfl
  · obtain ⟨x, o, p, s', rfl, hX, hln, eF, hW, fin⟩ := h
    have nd := scErw.nd
    have hu := hu_of hr
    have rk : Room k _ := hr
    have r1 : Room 1 _ := hr.mono (by omega)
    have r3 : Room 3 _ := hr.mono (by omega)
    have r10 : Room 10 _ := hr.mono (by omega)
    obtain ⟨fS, fdS, MS, FS, bS⟩ := mS.ex
    obtain ⟨fF, fdF, MF, FF, bF⟩ := mF.ex
    obtain ⟨fD, fdD, MD, FD, bD⟩ := mD.ex
    obtain ⟨fE, fdE, ME, FE, bE⟩ := mE.ex
    refine ⟨_, pss_cons (ps_asg (pe_ix (ix_list : IxR _ (rIxL K)) (pe_fld (pv 0) rfl) (pv 1) (fun _ _ => rfl)) (pg_starL rfl (pgs_cons (pg_name (i := 2) nd rfl (Or.inl rfl)) (pgs_cons (pg_name (i := 3) nd rfl (Or.inl rfl)) pgs_nil))))
      (pss_one (ps_if (pt_cmpR op_eq (pv 2) pe_str (nomark _))
        (pss_one (ps_fld (pv 0) (pe_callTy call_tuple_of (by rfl) T.tup (by decide +kernel) (pa_cons (pe_lc (own := [("other", 4)]) (g := gName 4) (tt := tYes) rfl nd (pi_list (pv 3)) (blkOk_by (N := ErwN) (sc := defScope (sEx 3)) (by decide +kernel))
          (fun _ _ _ _ _ => pg_name (i := 4) nd rfl (Or.inl rfl)) (fun _ _ _ _ _ => pts_nil) (fun _ _ _ _ _ => pe_callTy call_int_str (by rfl) T.int (by decide +kernel) (pa_cons (pv 4) pa_nil))) pa_nil)) rfl))
      (pss_one (ps_if (pt_cmpR op_eq (pv 2) pe_str (nomark _))
        (pss_cons (ps_asg (pe_meth (pv 0) T.cl MF FF r3 bF .nil (passes_call (takes_of rfl rfl rfl rfl) (fun _ _ _ _ h => h)) (pa_cons (pv 1) pa_nil)) (pg_tup rfl (pgs_cons (pg_name (i := 5) nd rfl (Or.inl rfl)) (pgs_cons (pg_name (i := 6) nd rfl (Or.inl rfl)) (pgs_cons (pg_name (i := 7) nd rfl (Or.inl rfl)) pgs_nil)))))
          (pss_one (ps_expr (pe_bm PySem.F.plainAttrs_list PySem.F.slot_list_append PySem.F.type_list_append mt_append (pe_fld (pv 0) rfl) (pa_cons (pe_joined (.cons (pe_fmt (pv 5)) (.cons pe_str (.cons (pe_fmt (pv 6)) (.cons pe_str (.cons (pe_fmt (pv 7)) .nil)))))) pa_nil)))))
      (pss_one (ps_if (pt_cmpR op_eq (pv 2) pe_str (nomark _))
        (pss_one (ps_for (passes_of rfl) rfl (pi_range1 (by rfl) T.ran (pa_cons (pe_callTy call_int_str (by rfl) T.int (by decide +kernel) (pa_cons (pe_ix (ix_list : IxR _ (rIxL K)) (pv 3) pe_int (fun _ _ => rfl)) pa_nil)) pa_nil)) (pg_name (i := 8) nd rfl (Or.inl rfl))
          (pss_cons (ps_expr (pe_meth0 (pv 0) T.cl MS FS r1 bS .nil (passes_call (takes_of rfl rfl rfl rfl) (fun _ _ _ _ h => h))))
          (pss_one (ps_expr (pe_meth (pv 0) T.cl ME FE rk bE .nil (passes_call (takes_of rfl rfl rfl rfl) (fun _ _ _ _ h => h)) (pa_cons (pe_op op_add (pv 1) pe_int) (pa_cons (pe_dget hu (pe_fld (pv 0) rfl) (pv 1) (fun _ _ => rfl)) pa_nil))))))))
      (pss_one (ps_if (pt_cmpR op_eq (pv 2) pe_str (nomark _))
        (pss_one (ps_if (pt_cmpR op_eq (pe_ix ix_tup (pe_meth (pv 0) T.cl MF FF r3 bF .nil (passes_call (takes_of rfl rfl rfl rfl) (fun _ _ _ _ h => h)) (pa_cons (pv 1) pa_nil)) pe_int (fun _ _ => rfl)) (pe_ix (ix_list : IxR _ (rIxL K)) (pv 3) pe_int (fun _ _ => rfl)) (nomark _))
          (pss_one (ps_expr (pe_meth (pv 0) T.cl ME FE rk bE .nil (passes_call (takes_of rfl rfl rfl rfl) (fun _ _ _ _ h => h)) (pa_cons (pe_op op_add (pv 1) pe_int) (pa_cons (pe_dget hu (pe_fld (pv 0) rfl) (pv 1) (fun _ _ => rfl)) pa_nil))))) pss_nil))
      (pss_one (ps_if (pt_cmpR op_eq (pv 2) pe_str (nomark _))
        (pss_one (ps_expr (pe_meth (pv 0) T.cl MD FD r10 bD .nil (passes_call (takes_of rfl rfl rfl rfl) (fun _ _ _ _ h => h)) (pa_cons (pe_tup (pa_cons (pv 2) (pa_cons (pe_ix (ix_list : IxR _ (rIxL K)) (pv 3) pe_int (fun _ _ => rfl)) (pa_cons (pe_callTy call_int_str (by rfl) T.int (by decide +kernel) (pa_cons (pe_ix (ix_list : IxR _ (rIxL K)) (pv 3) pe_int (fun _ _ => rfl)) pa_nil)) pa_nil)))) pa_nil))))
        (pss_one (ps_expr (pe_meth (pv 0) T.cl MD FD r10 bD .nil (passes_call (takes_of rfl rfl rfl rfl) (fun _ _ _ _ h => h)) (pa_cons (pe_tup (pa_cons (pv 2) (pa_cons (pe_ix (ix_list : IxR _ (rIxL K)) (pv 3) pe_int (fun _ _ => rfl)) pa_nil))) pa_nil)))))))))))))), ?_⟩
    obtain ⟨dx, ar, br, y, fa, ps, h1, hY, h3, h4, h5, h6, h7, h8, h9, h10⟩ := id hX
    obtain ⟨r, hr', hrow, hne, hblk⟩ := hW
    obtain ⟨q, hq, hqr, _⟩ := paired_atR h6 hr'
    have hrk := eF.rw r (List.mem_of_getElem? hr')
    have hp : p < R.length := (List.getElem?_eq_some_iff.mp hr').1
    have hp5 := eF.len
    have at1 : atI (ps.map V.ref) ((p : Nat) : Int) = some (.ref q) := atI_nat (by rw [List.getElem?_map, hq]; rfl)
    have eR : R.getD p [] = r := by rw [List.getD_eq_getElem?_getD, hr']; rfl
    obtain ⟨z, os, rfl⟩ : ∃ z os, r = z :: os := by
      cases r with
      | nil => exact absurd rfl hrk.1
      | cons z os => exact ⟨z, os, rfl⟩
    have eh : (z :: os).headD "" = z := rfl
    rw [eh] at hblk
    refine ⟨_, rfl, x, CX, dx, _, _, rfl, h1, T.cl, T.nR, rfl, _, rfl, ar, _, p, _, rfl, rfl, SqL.of h4, at1, q, .str z, os.map V.str, rfl, SqL.of hqr, fun po npo => ⟨_, _, rfl, _, _, rfl, rfl, ?_⟩⟩
    have s0 := Same.upd_new (o := .lst (os.map V.str)) npo
    have gp : (upd H po (.lst (os.map V.str))) po = some (.lst (os.map V.str)) := upd_same
    have hX0 := hX.same s0
    generalize upd H po (.lst (os.map V.str)) = H0 at s0 gp hX0 ⊢
    have fin0 := Fin.of (Fx.of s0) fin
    clear fin
    have hx0 := s0 _ _ h1
    have ho0 := s0 _ _ h8
    have hY0 := hY.same s0
    have hrc := row_cases hrow hne
    have lo : ∀ {l : Nat}, s'.out.length ≤ l → l ≤ 300 → s'.out.length < sizeLine := fun _ _ => by rw [sizeLine_eq]; omega
    have hE : ∀ qe, lkB B p = some qe → qe ≤ 1000 := fun qe h => eF.bnd p qe h
    cases hrc with
    | fail _ hall =>
      rw [row_fail eR] at fin0
      refine ⟨_, rfl, rfl, _, rfl, ite_yes (by rw [dec_str]; decide) ?_⟩
      have hO : ∀ {H' : Hp}, Same H0 H' → SqL K H' po (os.map V.str) := fun s => SqL.of (s _ _ gp)
      have hl : os.length ≤ 60 := by have := hrk.2.1; rw [List.length_cons] at this; omega
      refine ⟨_, rfl, po, rfl, ⟨_, hO (Same.refl _)⟩, fun D hD => lc_it (walk_list (xs := os.map V.str)) (MapP H0 D (os.map fun o => V.int (numOf o : Nat))) (MapP.zero hD) (fun _ _ _ q => hO q.1) ?_ ?_⟩
      · rintro i v H1 H3 hi q ⟨rfl, hx⟩
        obtain ⟨o, ho, rfl⟩ := getE hx
        obtain ⟨ni, nl⟩ := num_int (List.all_eq_true.mp hall o (List.mem_of_getElem? ho))
        refine ⟨rfl, _, rfl, o, _, rfl, ni, by omega, ?_⟩
        refine q.step hD ?_ (by rw [List.length_map]; omega) (Same.refl _)
        rw [List.getElem?_map, ho]
        rfl
      · intro H3 q
        obtain ⟨s3, hl3⟩ := q.done (by rw [List.length_map, List.length_map])
        refine ⟨D, _, rfl, .inl ⟨SqL.of hl3, fun t nt => ?_⟩⟩
        have s4 := s3.trans (Same.upd_new (o := .tup (os.map fun o => V.int (numOf o : Nat))) nt)
        have gt : SqT K (upd H3 t (.tup (os.map fun o => V.int (numOf o : Nat)))) t ((os.map fun o => ((numOf o : Nat) : Int)).map V.int) := SqT.of (by rw [upd_same, List.map_map]; rfl)
        generalize upd H3 t (.tup (os.map fun o => V.int (numOf o : Nat))) = H4 at s4 gt ⊢
        have hx4 := s4 _ _ hx0
        refine ⟨_, rfl, x, CX, dx, _, rfl, hx4, T.cl, T.nF, (by show 6 < 1000; decide), ?_⟩
        have hX4 := hX0.same s4
        have hY4 := hY0.same s4
        have e5 : (.ins CX dx (putF "failing" (.ref t) [("rows", .ref ar), ("blocks", .ref br), ("held_system", .ref y), ("failing", .ref fa), ("output", .ref o), ("steps", .int (s'.n : Nat))]) : HO) = exO CX dx ar br y t o s'.n := rfl
        exact fin0 _ ((Fx.of s4).trans (Fx.atX hx4 (fun _ z => by cases z) (fun _ _ z => by cases z))) (ExAt.upx hX4 hx4 h9 h10)
    | shw n =>
      refine ⟨_, rfl, rfl, _, rfl, ite_no (by rw [dec_str]; decide) ?_⟩
      refine ⟨_, rfl, rfl, _, rfl, ite_yes (by rw [dec_str]; decide) ?_⟩
      have ew : w1 [("show" : Str), n] = n := rfl
      refine ⟨_, rfl, x, dx, _, rfl, hx0, rfl, _, rfl, x, o, p, _, s', rfl, hX0, hr', Nat.le_refl 2, by omega, fun e H' dd s1 hd => ?_, fun t e H' a s1 ha => ?_⟩
      · rw [row_show_none eR e] at fin0
        exact fin0 H' dd (Fx.of s1) hd
      · rw [row_show eR e] at fin0
        rw [ew] at e
        obtain ⟨va, vb, ea, eb, la, lb, l8⟩ := st_small (hY.ok _ (stOf_in e)) eF.ver
        obtain ⟨t1, t2, t3⟩ := t
        dsimp only at ea eb l8
        subst ea eb
        obtain ⟨a1, a2⟩ := small_text va la
        obtain ⟨b1, b2⟩ := small_text vb lb
        have a1' : (Str.ofString (toString (t1, ((va : Nat) : Int), ((vb : Nat) : Int)).2.1)).length ≤ 10 := a1
        have b1' : (Str.ofString (toString (t1, ((va : Nat) : Int), ((vb : Nat) : Int)).2.2)).length ≤ 10 := b1
        have e0 : (Str.empty).length = 0 := by decide
        have e1 : (" " : Str).length = 1 := by decide
        have ho1 := s1 _ _ ho0
        refine ⟨a, _, rfl, ha, rfl, _, _, rfl, _, _, rfl, _, _, rfl, rfl, ?_⟩
        refine ⟨_, rfl, x, CX, dx, _, _, rfl, s1 _ _ hx0, T.cl, T.nO, rfl, .inl ⟨rfl, _, SqL.of ho1⟩, _, rfl, .inl ⟨t1, rfl, by rw [sizeLine_eq]; omega, t1, rfl, ?_, _, rfl, ?_, _, rfl, .inr ⟨_, rfl, a2, _, rfl, ?_, _, rfl, ?_, _, rfl, .inr ⟨_, rfl, b2, _, rfl, ?_, ?_⟩⟩⟩⟩
        · rw [app_len, sizeLine_eq]; omega
        · rw [app_len, app_len, sizeLine_eq]; omega
        · rw [app_len, app_len, app_len, sizeLine_eq]; omega
        · rw [app_len, app_len, app_len, app_len, sizeLine_eq]; omega
        · rw [app_len, app_len, app_len, app_len, app_len, sizeLine_eq]; omega
        · refine ⟨o, s'.out.map V.str, _, rfl, rfl, ho1, by rw [List.length_map]; exact lo h9 h10, ?_⟩
          have ee : s'.out.map V.str ++ [.str (showS (t1, ((va : Nat) : Int), ((vb : Nat) : Int)))] = (s'.out ++ [showS (t1, ((va : Nat) : Int), ((vb : Nat) : Int))]).map V.str := by rw [List.map_append]; rfl
          show Q .non (upd H' o (.lst (s'.out.map V.str ++ [.str (showS (t1, ((va : Nat) : Int), ((vb : Nat) : Int)))])))
          rw [ee]
          refine fin0 _ ((Fx.of s1).trans (Fx.atO ho1 (fun _ z => by cases z) (fun _ _ z => by cases z))) (ExAt.upo (hX0.same s1) ?_)
          rw [List.length_append]
          show s'.out.length + 1 ≤ s'.n
          omega
    | rep n hn =>
      refine ⟨_, rfl, rfl, _, rfl, ite_no (by rw [dec_str]; decide) ?_⟩
      refine ⟨_, rfl, rfl, _, rfl, ite_no (by rw [dec_str]; decide) ?_⟩
      refine ⟨_, rfl, rfl, _, rfl, ite_yes (by rw [dec_str]; decide) ?_⟩
      rw [row_rep eR] at fin0
      obtain ⟨qe, hqe, hWq⟩ := hblk (by decide)
      rw [hqe] at fin0
      obtain ⟨ni, nl⟩ := num_int hn
      have n99 := num_le hn
      have at0 : atI ([n].map V.str) 0 = some (.str n) := at_zero
      refine ⟨_, rfl, po, _, 0, _, rfl, rfl, SqL.of gp, at0, n, _, rfl, ni, by omega, _, rfl, by omega, by omega, ?_⟩
      rw [Int.toNat_natCast]
      generalize er : numOf n = N at fin0 n99 ⊢
      dsimp only [Option.getD_some] at fin0
      refine for_it walk_range (fun i σ H' => ∃ (s2 : Ex) (x8 : Option V), σ = [some (.ref x), some (.int (p : Nat)), some (.str "repeat"), some (.ref po), none, none, none, none, x8] ∧ Fx K x o H0 H' ∧ ExAt K C CT CY CX st es R B H' x o s2 ∧ repE (sub (p + 1) qe) N s' = repE (sub (p + 1) qe) (N - i) s2)
        ⟨s', none, rfl, Fx.refl, hX0, by rw [Nat.sub_zero]⟩ (fun _ _ _ _ _ => trivial) ?_ ?_
      · rintro i v σ H1 H2 hi ⟨s2, x8, rfl, f1, hX1, em⟩ ⟨rfl, rfl⟩
        have eN : N - i = (N - (i + 1)) + 1 := by omega
        rw [eN] at em
        obtain ⟨dx1, ar1, br1, y1, fa1, ps1, g1, g2, g3, g4, g5, g6, g7, g8, g9, g10⟩ := id hX1
        have fin1 := Fin.of f1 fin0
        refine ⟨_, rfl, x, dx1, _, rfl, g1, rfl, x, o, s2, rfl, hX1, fun c => ?_, fun c H3 f3 hX3 => ?_⟩
        · have : repE (sub (p + 1) qe) ((N - (i + 1)) + 1) s2 = .long := by
            show (tick s2).bind _ = _
            unfold tick
            rw [if_pos c]
            rfl
          rw [em, this] at fin1
          exact fin1 _ Fx.refl
        · have em2 : repE (sub (p + 1) qe) ((N - (i + 1)) + 1) s2 = (sub (p + 1) qe { s2 with n := s2.n + 1 }).bind (repE (sub (p + 1) qe) (N - (i + 1))) := by
            show (tick s2).bind _ = _
            unfold tick
            rw [if_neg c]
            rfl
          rw [em2] at em
          obtain ⟨dx3, ar3, br3, y3, fa3, ps3, b1, b2, b3, b4, b5, b6, b7, b8, b9, b10⟩ := id hX3
          refine ⟨_, rfl, x, dx3, _, rfl, b1, rfl, _, rfl, _, _, rfl, rfl, _, rfl, x, CX, dx3, _, _, rfl, b1, T.cl, T.nB, rfl, _, rfl, br3, .int (qe : Nat), rfl, ?_, x, o, p + 1, qe, _, rfl, hX3, eF, hWq, by omega, hE qe hqe, ?_⟩
          · have := DGet.k (H := H3) (k := .inl (p : Int)) b7
            rw [kvO_val, hqe] at this
            exact this
          · have fin3 := Fin.of f3 fin1
            rw [em] at fin3
            generalize sub (p + 1) qe { s2 with n := s2.n + 1 } = res at fin3 em
            cases res with
            | ok s4 =>
              intro H4 f4 hX4
              exact ⟨s4, _, rfl, f1.trans (f3.trans f4), hX4, em⟩
            | unk p' =>
              intro H4 dd f4 hd
              exact fin3 H4 dd f4 hd
            | long =>
              intro H4 f4
              exact fin3 H4 f4
      · rintro σ H1 ⟨s2, x8, rfl, f1, hX1, em⟩
        rw [Nat.sub_self] at em
        have : repE (sub (p + 1) qe) 0 s2 = .ok s2 := rfl
        rw [em, this] at fin0
        exact fin0 H1 f1 hX1
    | whn n t =>
      refine ⟨_, rfl, rfl, _, rfl, ite_no (by rw [dec_str]; decide) ?_⟩
      refine ⟨_, rfl, rfl, _, rfl, ite_no (by rw [dec_str]; decide) ?_⟩
      refine ⟨_, rfl, rfl, _, rfl, ite_no (by rw [dec_str]; decide) ?_⟩
      refine ⟨_, rfl, rfl, _, rfl, ite_yes (by rw [dec_str]; decide) ?_⟩
      obtain ⟨qe, hqe, hWq⟩ := hblk (by decide)
      refine ⟨_, rfl, x, dx, _, rfl, hx0, rfl, _, rfl, x, o, p, _, s', rfl, hX0, hr', (by show 2 ≤ 3; decide), by omega, fun e H' dd s1 hd => ?_, fun u e H' a s1 ha => ?_⟩
      · rw [row_when_none eR e] at fin0
        exact fin0 H' dd (Fx.of s1) hd
      · rw [row_when eR e, hqe] at fin0
        have gp1 := s1 _ _ gp
        have at2 : atI ([n, t].map V.str) 1 = some (.str t) := atI_nat (j := 1) rfl
        refine ⟨a, _, 0, _, rfl, rfl, ha, at_zero, ?_⟩
        refine ⟨_, rfl, po, _, 1, _, rfl, rfl, SqL.of gp1, at2, rfl, _, rfl, ?_⟩
        rw [dec_str]
        have hX1 := hX0.same s1
        have hx1 := s1 _ _ hx0
        have hb1 := s1 _ _ (s0 _ _ h7)
        by_cases c : u.1 = t
        · rw [if_pos c] at fin0
          refine ite_yes (decide_eq_true c) ?_
          refine ⟨_, rfl, x, dx, _, rfl, hx1, rfl, _, rfl, _, _, rfl, rfl, _, rfl, x, CX, dx, _, _, rfl, hx1, T.cl, T.nB, rfl, _, rfl, br, .int (qe : Nat), rfl, ?_, x, o, p + 1, qe, s', rfl, hX1, eF, hWq, by omega, hE qe hqe, Fin.of (Fx.of s1) fin0⟩
          have := DGet.k (H := H') (k := .inl (p : Int)) hb1
          rw [kvO_val, hqe] at this
          exact this
        · rw [if_neg c] at fin0
          refine ite_no (decide_eq_false c) ?_
          exact fin0 H' (Fx.of s1) hX1
    | upk n v hv =>
      refine ⟨_, rfl, rfl, _, rfl, ite_no (by rw [dec_str]; decide) ?_⟩
      refine ⟨_, rfl, rfl, _, rfl, ite_no (by rw [dec_str]; decide) ?_⟩
      refine ⟨_, rfl, rfl, _, rfl, ite_no (by rw [dec_str]; decide) ?_⟩
      refine ⟨_, rfl, rfl, _, rfl, ite_no (by rw [dec_str]; decide) ?_⟩
      refine ⟨_, rfl, rfl, _, rfl, ite_yes (by rw [dec_str]; decide) ?_⟩
      rw [row_upk eR] at fin0
      obtain ⟨ni, nl⟩ := num_int hv
      have at1' : atI ([n, v].map V.str) 0 = some (.str n) := at_zero
      have at2 : atI ([n, v].map V.str) 1 = some (.str v) := atI_nat (j := 1) rfl
      refine ⟨_, rfl, x, dx, _, rfl, hx0, rfl, _, rfl, _, rfl, po, _, 0, _, rfl, rfl, SqL.of gp, at1', _, rfl, po, _, 1, _, rfl, rfl, SqL.of gp, at2, v, _, rfl, ni, by omega, thr_le, fun t nt => ?_⟩
      have s1 := Same.upd_new (o := .tup [.str "unpack", .str n, .int (numOf v : Nat)]) nt
      refine ⟨x, o, t, ⟨"unpack", n, (numOf v : Nat)⟩, s', rfl, hX0.same s1, hln, eF.lean, SqT.of upd_same, by show ("unpack" : Str) ∈ DWS; decide, eF.few _ _ hY.nm, fun H' f hX' => fin0 H' ((Fx.of s1).trans f) hX'⟩
    | dd _ n hz =>
      have ne : ∀ {y : Str}, (∀ x ∈ [("setup" : Str), "remove", "purge"], x ≠ y) → z ≠ y := fun k => by
        rcases hz with q | q | q
        · rw [q]; exact k _ (by simp)
        · rw [q]; exact k _ (by simp)
        · rw [q]; exact k _ (by simp)
      refine ⟨_, rfl, rfl, _, rfl, ite_no (by rw [dec_str]; exact decide_eq_false (ne (by decide))) ?_⟩
      refine ⟨_, rfl, rfl, _, rfl, ite_no (by rw [dec_str]; exact decide_eq_false (ne (by decide))) ?_⟩
      refine ⟨_, rfl, rfl, _, rfl, ite_no (by rw [dec_str]; exact decide_eq_false (ne (by decide))) ?_⟩
      refine ⟨_, rfl, rfl, _, rfl, ite_no (by rw [dec_str]; exact decide_eq_false (ne (by decide))) ?_⟩
      refine ⟨_, rfl, rfl, _, rfl, ite_no (by rw [dec_str]; exact decide_eq_false (ne (by decide))) ?_⟩
      rw [row_dd eR hz] at fin0
      have at1' : atI ([n].map V.str) 0 = some (.str n) := at_zero
      refine ⟨_, rfl, x, dx, _, rfl, hx0, rfl, _, rfl, _, rfl, po, _, 0, _, rfl, rfl, SqL.of gp, at1', two_le, fun t nt => ?_⟩
      have s1 := Same.upd_new (o := .tup [.str z, .str n]) nt
      have ev : (⟨z, n, 0⟩ : Deed).vs = [.str z, .str n] := by
        unfold Deed.vs Deed.isU
        rw [if_neg (by rw [decide_eq_false (ne (by decide))]; decide)]
      refine ⟨x, o, t, ⟨z, n, 0⟩, s', rfl, hX0.same s1, hln, eF.lean, by rw [ev]; exact SqT.of upd_same, ?_, eF.few _ _ hY.nm, fun H' f hX' => fin0 H' ((Fx.of s1).trans f) hX'⟩
      unfold DWS
      rcases hz with q | q | q <;> rw [q] <;> simp
end
end Half

namespace Half
open PySem PySem.Spec PyProof.Rows L2
/-! ### execute -/
section
variable {P : Program} {w : World} {K : PySem.W.Frag} {mg : Str → Option Value} {base : Heap} {C CT CY CX CU CL st : Addr} {es : Es} {R : List Rw} {B : List (Nat × Nat)} {W : Nat → Nat → Prop} {sub : Nat → Nat → Ex → Res}
theorem scExe : FnScope ["self", "begin", "end", "place"] ["self", "begin", "end"] (defScope (sEx 2)) := ⟨rfl, rfl, rfl, by decide +kernel, rfl, by decide +kernel, by decide +kernel⟩
theorem ok_exe {k : Nat} {f : Addr} {fd : FuncData} (hk : 1 ≤ k) (F : Fun K "execute" "Execution.execute" (sEx 2) f fd) (T : TxtEx K mg CX CL)
    (mS : MthX P w K mg base CX "step_on" 1 ["self"] (spStp K C CT CY CX CL st es R B)) (mR : MthX P w K mg base CX "execute_row" k ["self", "place"] (spRwX K C CT CY CX CU CL st es R B W sub)) :
    FnOk P w K mg base (L2.CX P w) (k + 1) f fd ["self", "begin", "end"] (spExX K C CT CY CX CU CL st es R B (Chn R B W) (exS (es.map (·.2)) R B sub)) := by
  refine F.okX scExe (fun vs H Q E h => ?_) (fun cdv A outer s H vs Q E hr h => ?_)
  · obtain ⟨x, o, b, e, s, rfl, _⟩ := h
    rfl
  · obtain ⟨x, o, b, e, s', rfl, hX, eF, hW, hb, he, fin⟩ := h
    have nd := scExe.nd
    have hu := hu_of hr
    have rk : Room k _ := hr
    have r1 : Room 1 _ := hr.mono (by omega)
    obtain ⟨fS, fdS, MS, FS, bS⟩ := mS.ex
    obtain ⟨fR, fdR, MR, FR, bR⟩ := mR.ex
    refine ⟨_, pss_cons (ps_set (i := 3) nd rfl (Or.inl rfl) (pv 1))
      (pss_one (ps_while (passes_of rfl) (pt_cmpR op_lt (pv 3) (pv 2) (nomark _))
        (pss_cons (ps_expr (pe_meth0 (pv 0) T.cl MS FS r1 bS .nil (passes_call (takes_of rfl rfl rfl rfl) (fun _ _ _ _ h => h))))
        (pss_cons (ps_expr (pe_meth (pv 0) T.cl MR FR rk bR .nil (passes_call (takes_of rfl rfl rfl rfl) (fun _ _ _ _ h => h)) (pa_cons (pv 3) pa_nil)))
        (pss_one (ps_asg (pe_op op_add (pe_dget2 hu (pe_fld (pv 0) rfl) (pv 3) (pv 3) ⟨rfl, rfl, rfl, rfl⟩) pe_int) (pg_name (i := 3) nd rfl (Or.inl rfl)))))))), ?_⟩
    refine ⟨_, rfl, fun m σ H' => ∃ (b' : Nat) (s2 : Ex) (fuel : Nat), m = e - b' ∧ σ = [some (.ref x), some (.int (b : Nat)), some (.int (e : Nat)), some (.int (b' : Nat))] ∧ Fx K x o H H' ∧ ExAt K C CT CY CX st es R B H' x o s2 ∧ Chn R B W b' e ∧ e - b' ≤ fuel ∧ exS (es.map (·.2)) R B sub b e s' = loopE B (rowE (es.map (·.2)) R B sub) fuel b' e s2,
      ⟨_, b, s', e - b, rfl, rfl, Fx.refl, hX, hW, Nat.le_refl _, rfl⟩, ?_⟩
    rintro m σ H1 ⟨b', s2, fuel, rfl, rfl, f1, hX1, hC, hfu, em⟩
    refine ⟨_, rfl, _, rfl, _, _, rfl, rfl, _, rfl, ?_⟩
    have fin1 := Fin.of f1 fin
    by_cases c : b' < e
    · refine ite_yes (decide_eq_true (by omega)) ?_
      obtain ⟨fuel, rfl⟩ : ∃ g, fuel = g + 1 := ⟨fuel - 1, by omega⟩
      have eL : loopE B (rowE (es.map (·.2)) R B sub) (fuel + 1) b' e s2 = (tick s2).bind fun s => (rowE (es.map (·.2)) R B sub b' s).bind fun s => loopE B (rowE (es.map (·.2)) R B sub) fuel (nxt B b') e s := if_pos c
      rw [eL] at em
      obtain ⟨hRw, hlt, hC'⟩ : RowW R B W b' ∧ b' < nxt B b' ∧ Chn R B W (nxt B b') e := by
        cases hC with
        | nil q => omega
        | step _ a b c => exact ⟨a, b, c⟩
      refine ⟨fun σ' H' => ∃ (s4 : Ex), σ' = [some (.ref x), some (.int (b : Nat)), some (.int (e : Nat)), some (.int (nxt B b' : Nat))] ∧ Fx K x o H H' ∧ ExAt K C CT CY CX st es R B H' x o s4 ∧ exS (es.map (·.2)) R B sub b e s' = loopE B (rowE (es.map (·.2)) R B sub) fuel (nxt B b') e s4,
        fun σ' H' ⟨s4, a1, a2, a3, a4⟩ => ⟨_, by omega, nxt B b', s4, fuel, rfl, a1, a2, a3, hC', by omega, a4⟩, ?_⟩
      obtain ⟨dx1, ar1, br1, y1, fa1, ps1, g1, g2, g3, g4, g5, g6, g7, g8, g9, g10⟩ := id hX1
      refine ⟨_, rfl, x, dx1, _, rfl, g1, rfl, x, o, s2, rfl, hX1, fun cn => ?_, fun cn H3 f3 hX3 => ?_⟩
      · have : tick s2 = .long := if_pos cn
        rw [em, this] at fin1
        exact fin1 _ Fx.refl
      · have : tick s2 = .ok { s2 with n := s2.n + 1 } := if_neg cn
        rw [this] at em
        have em : exS (es.map (·.2)) R B sub b e s' = (rowE (es.map (·.2)) R B sub b' { s2 with n := s2.n + 1 }).bind fun s => loopE B (rowE (es.map (·.2)) R B sub) fuel (nxt B b') e s := em
        obtain ⟨dx3, ar3, br3, y3, fa3, ps3, b1, b2, b3, b4, b5, b6, b7, b8, b9, b10⟩ := id hX3
        refine ⟨_, rfl, x, dx3, _, rfl, b1, rfl, _, rfl, x, o, b', _, rfl, hX3, by show s2.out.length < s2.n + 1; omega, eF, hRw, ?_⟩
        have fin3 := Fin.of f3 fin1
        rw [em] at fin3
        generalize rowE (es.map (·.2)) R B sub b' { s2 with n := s2.n + 1 } = res at fin3 em
        cases res with
        | ok s4 =>
          intro H4 f4 hX4
          obtain ⟨dx4, ar4, br4, y4, fa4, ps4, d1, d2, d3, d4, d5, d6, d7, d8, d9, d10⟩ := id hX4
          have hval : (valV (kvO B) (.inl (b' : Int))).getD (.int (b' : Nat)) = .int (((lkB B b').getD b' : Nat) : Int) := by
            rw [kvO_val]
            cases lkB B b' <;> rfl
          have e7 : V.int ((((lkB B b').getD b' : Nat) : Int) + 1) = V.int ((nxt B b' : Nat) : Int) := by
            unfold nxt
            rw [Int.natCast_add]
            rfl
          refine ⟨_, rfl, x, CX, dx4, _, _, rfl, d1, T.cl, T.nB, rfl, br4, rfl, .inl ⟨_, .inl d7⟩, _, rfl, _, rfl, _, DGet.k (k := .inl (b' : Int)) d7, _, _, hval, rfl, ?_⟩
          have e8 := congrArg (fun v : V => [some (V.ref x), some (V.int (b : Nat)), some (V.int (e : Nat)), some v]) e7
          exact ⟨s4, e8, f1.trans (f3.trans f4), hX4, em⟩ -- [some (.ref x), some (.int (b : Nat)), some (.int (e : Nat)), some v]) e7, f1.trans (f3.trans f4), hX4, em⟩
        | unk p' =>
          intro H4 dd f4 hd
          exact fin3 H4 dd f4 hd
        | long =>
          intro H4 f4
          exact fin3 H4 f4
    · refine ite_no (decide_eq_false (by omega)) ?_
      have : loopE B (rowE (es.map (·.2)) R B sub) fuel b' e s2 = .ok s2 := by
        cases fuel with
        | zero => rfl
        | succ g => exact if_neg c
      rw [em, this] at fin
      exact fin H1 f1 hX1
end
/-! ### at each depth -/
section
variable {P : Program} {w : World} {K : PySem.W.Frag} {mg : Str → Option Value} {base : Heap} {C CT CY CX CU CL st : Addr} {es : Es} {R : List Rw} {B : List (Nat × Nat)}
/-- what is never asked for -/
def spNv : Sp := fun _ _ _ _ => False
theorem ok_nv {f : Addr} {fd : FuncData} (F : Fun K "execute" "Execution.execute" (sEx 2) f fd) : FnOk P w K mg base (L2.CX P w) 10 f fd ["self", "begin", "end"] spNv := by
  refine F.okX scExe (fun vs H Q E h => h.elim) (fun cdv A outer s H vs Q E hr h => h.elim)
/-- the methods as they are written -/
structure MtW (K : PySem.W.Frag) (CX : Addr) (x qual : Str) (stm : Stmt) (ps : List Str) : Prop where
  ex : ∃ f fd, Meth K CX x f ∧ Fun K x qual stm f fd ∧ Binds K fd ps []
theorem MthX.nv (h : MtW K CX "execute" "Execution.execute" (sEx 2) ["self", "begin", "end"]) : MthX P w K mg base CX "execute" 10 ["self", "begin", "end"] (spExX K C CT CY CX CU CL st es R B (fun _ _ => False) fun _ _ s => .ok s) := by
  obtain ⟨f, fd, a, b, c⟩ := h.ex
  refine ⟨f, fd, a, ?_, c⟩
  exact b.okX scExe (fun vs H Q E h => by obtain ⟨_, _, _, _, _, _, _, _, z, _⟩ := h; exact z.elim) (fun cdv A outer s H vs Q E hr h => by obtain ⟨_, _, _, _, _, _, _, _, z, _⟩ := h; exact z.elim)
theorem exe_all (T : TxtEx K mg CX CL) (hE : MtW K CX "execute" "Execution.execute" (sEx 2) ["self", "begin", "end"]) (hR : MtW K CX "execute_row" "Execution.execute_row" (sEx 3) ["self", "place"])
    (mS : MthX P w K mg base CX "step_on" 1 ["self"] (spStp K C CT CY CX CL st es R B)) (mF : MthX P w K mg base CX "state_for" 3 ["self", "place"] (spStf K C CT CY CX CU st es R B))
    (mD : MthX P w K mg base CX "execute_deed" 10 ["self", "deed"] (spExd K C CT CY CX st es R B)) : ∀ d : Nat, MthX P w K mg base CX "execute" (12 + 2 * d) ["self", "begin", "end"] (spExX K C CT CY CX CU CL st es R B (Wf R B d) (exE (es.map (·.2)) R B d))
  | 0 => by
    obtain ⟨f, fd, a, b, c⟩ := hE.ex
    obtain ⟨f', fd', a', b', c'⟩ := hR.ex
    exact ⟨f, fd, a, ok_exe (k := 11) (by decide) b T mS ⟨f', fd', a', ok_erw (k := 10) (Nat.le_refl _) b' T mS mF mD (MthX.nv hE), c'⟩, c⟩
  | d + 1 => by
    obtain ⟨f, fd, a, b, c⟩ := hE.ex
    obtain ⟨f', fd', a', b', c'⟩ := hR.ex
    exact ⟨f, fd, a, ok_exe (k := 12 + 2 * d + 1) (by omega) b T mS ⟨f', fd', a', ok_erw (k := 12 + 2 * d) (by omega) b' T mS mF mD (exe_all T hE hR mS mF mD d), c'⟩, c⟩
end
/-! ### rows whose blocks are told can be executed -/
theorem lkB_put (l : List (Nat × Nat)) (b e c : Nat) : lkB (putBk l b e) c = if c = b then some e else lkB l c := by
  have app : ∀ l : List (Nat × Nat), (l.any fun x => decide (x.1 = b)) = false → lkB (l ++ [(b, e)]) c = if c = b then some e else lkB l c := fun l h => by
    unfold lkB
    rw [List.find?_append]
    by_cases q : c = b
    · have n : (l.find? fun x => decide (x.1 = c)) = none := List.find?_eq_none.mpr fun x hx z => by
        have := List.any_eq_false.mp h x hx
        rw [q] at z
        exact this z
      rw [n, if_pos q, q]
      simp
    · rw [if_neg q]
      have : ([(b, e)].find? fun x => decide (x.1 = c)) = none := by
        rw [List.find?_cons, decide_eq_false (fun z => q z.symm)]
        rfl
      rw [this]
      cases (l.find? fun x => decide (x.1 = c)) <;> rfl
  unfold putBk
  split
  · rename_i h
    clear app
    induction l with
    | nil => cases h
    | cons x l ih =>
      rw [List.map_cons]
      have cons : ∀ (y : Nat × Nat) (l : List (Nat × Nat)), lkB (y :: l) c = if y.1 = c then some y.2 else lkB l c := fun y l => by
        unfold lkB
        rw [List.find?_cons]
        by_cases z : y.1 = c
        · rw [decide_eq_true z, if_pos z]; rfl
        · rw [decide_eq_false z, if_neg z]
      rw [cons, cons]
      by_cases q : x.1 = b
      · rw [if_pos q]
        dsimp only
        by_cases r : x.1 = c
        · rw [if_pos r, if_pos (by omega)]
        · rw [if_neg r, if_neg r, if_neg (by omega)]
          cases h2 : l.any (fun x => decide (x.1 = b)) with
          | true =>
            have := ih h2
            rw [if_neg (by omega)] at this
            exact this
          | false =>
            have e1 : l.map (fun x => if x.1 = b then (x.1, e) else x) = l := by
              refine (List.map_congr_left fun y hy => ?_).trans (List.map_id l)
              have := List.any_eq_false.mp h2 y hy
              rw [if_neg (fun z => this (decide_eq_true z))]
              rfl
            rw [e1]
      · rw [if_neg q]
        rw [List.any_cons, decide_eq_false q, Bool.false_or] at h
        rw [ih h]
        by_cases r : x.1 = c
        · rw [if_pos r, if_pos r, if_neg (by omega)]
        · rw [if_neg r, if_neg r]
  · rename_i h
    exact app l (by cases z : l.any (fun x => decide (x.1 = b)) with
      | true => exact absurd z h
      | false => rfl)
end Half

namespace Half
open PySem PySem.Spec PyProof.Rows L2
/-! ### rows whose blocks are told can be executed -/
def WfP (R : List Rw) (B : List (Nat × Nat)) : Nat → Nat → Nat → Prop
  | 0 => fun _ _ => False
  | d + 1 => Wf R B d
theorem wf_eq {R : List Rw} {B : List (Nat × Nat)} (d : Nat) : Wf R B d = Chn R B (WfP R B d) := by cases d <;> rfl
theorem wf_nil {R : List Rw} {B : List (Nat × Nat)} {d b e : Nat} (h : e ≤ b) : Wf R B d b e := by rw [wf_eq]; exact .nil h
theorem wf_step {R : List Rw} {B : List (Nat × Nat)} {d b e n : Nat} (h : b < e) (r : RowW R B (WfP R B d) b) (en : nxt B b = n) (hn : b < n) (k : Wf R B d n e) : Wf R B d b e := by
  subst en
  rw [wf_eq] at k ⊢
  exact .step h r hn k
def ChF (R : List Rw) (B : List (Nat × Nat)) : List Nat → Nat → Prop
  | [], i => Wf R B 4 i R.length
  | s :: S, i => ∃ q, i ≤ q ∧ q < R.length ∧ lkB B s = some q ∧ Wf R B (4 - (S.length + 1)) i q ∧ ChF R B S (q + 1)
theorem chf_step {R : List Rw} {B : List (Nat × Nat)} {i n : Nat} (en : nxt B i = n) (hn : i < n) (hi : i < R.length) : ∀ {bg : List Nat}, RowW R B (WfP R B (4 - bg.length)) i → ChF R B bg n → ChF R B bg i
  | [], r, h => wf_step hi r en hn h
  | s :: S, r, ⟨q, h1, h2, h3, h4, h5⟩ => ⟨q, by omega, h2, h3, wf_step (by omega) r en hn h4, h5⟩
theorem blk_wf {R : List Rw} {B : List (Nat × Nat)} : ∀ (rs : List Rw) (i : Nat) (bg : List Nat) (fd : List (Nat × Nat)), R.drop i = rs → i ≤ R.length → bg.Nodup → (∀ b ∈ bg, b < i) → (∀ c q, lkB fd c = some q → c < i ∧ q < i) → blkM rs i bg fd = .ok B →
    (∀ c, c < i → c ∉ bg → lkB B c = lkB fd c) ∧ ChF R B bg i ∧ ∀ c q, lkB B c = some q → q < R.length
  | [], i, bg, fd, hd, hi, nd, hb, hf, h => by
    rw [blk_nil] at h
    split at h
    · rename_i c
      cases h
      have : R.length ≤ i := by
        have := congrArg List.length hd
        rw [List.length_drop] at this
        simp at this
        omega
      rw [c]
      exact ⟨fun _ _ _ => rfl, wf_nil this, fun c q e => by have := (hf c q e).2; omega⟩
    · cases h
  | r :: rs, i, bg, fd, hd, hi, nd, hb, hf, h => by
    have hlt : i < R.length := by
      have := congrArg List.length hd
      rw [List.length_drop, List.length_cons] at this
      omega
    have hri : R[i]? = some r := by
      rw [List.getElem?_eq_getElem hlt]
      have := List.drop_eq_getElem_cons hlt
      rw [hd] at this
      injection this with a b
      rw [a]
    have hd1 : R.drop (i + 1) = rs := by
      have := List.drop_eq_getElem_cons hlt
      rw [hd] at this
      injection this with a b
      exact b.symm
    rw [blk_cons] at h
    split at h
    · cases h
    · rename_i cs
      have cs : standB i r bg.length = true := by
        cases z : standB i r bg.length with
        | true => rfl
        | false => exact absurd z cs
      have hrow : rowB r = true := by
        unfold standB at cs
        split at cs
        · cases cs
        · rename_i n
          cases z : rowB r with
          | true => rfl
          | false => exact absurd (.inr z) n
      have hf1 : ∀ c q, lkB fd c = some q → c < i + 1 ∧ q < i + 1 := fun c q e => by have := hf c q e; omega
      have fi : lkB fd i = none := by
        cases z : lkB fd i with
        | none => rfl
        | some q => have := (hf i q z).1; omega
      split at h
      · rename_i cb
        have nb : bg.length < 4 := by
          unfold standB at cs
          split at cs
          · cases cs
          · split at cs
            · rename_i ce
              rw [ce] at cb
              exact absurd cb (by decide)
            · rw [cb, Bool.not_true, Bool.false_or] at cs
              exact of_decide_eq_true cs
        have ni : i ∉ bg := fun m => by have := hb i m; omega
        obtain ⟨a, b, c⟩ := blk_wf rs (i + 1) (i :: bg) fd hd1 hlt (List.nodup_cons.mpr ⟨ni, nd⟩) (fun x m => by
          rcases List.mem_cons.mp m with z | z
          · omega
          · have := hb x z; omega) hf1 h
        obtain ⟨q, q1, q2, q3, q4, q5⟩ := b
        have en : nxt B i = q + 1 := by unfold nxt; rw [q3]; rfl
        refine ⟨fun x hx nx => a x (by omega) (fun m => by
          rcases List.mem_cons.mp m with z | z
          · omega
          · exact nx z), chf_step en (by omega) hlt ⟨r, hri, hrow, fun ce => ?_, fun _ => ⟨q, q3, ?_⟩⟩ q5, c⟩
        · rw [ce] at cb
          exact absurd cb (by decide)
        · have e4 : 4 - bg.length = (4 - (bg.length + 1)) + 1 := by omega
          rw [e4]
          exact q4
      · rename_i cb
        have cb : isBlk (r.headD "") = false := by
          cases z : isBlk (r.headD "") with
          | false => rfl
          | true => exact absurd z cb
        split at h
        · rename_i ce
          cases bg with
          | nil => cases h
          | cons s S =>
            dsimp only at h
            obtain ⟨ns, nS⟩ := List.nodup_cons.mp nd
            have hs := hb s (.head _)
            obtain ⟨a, b, c⟩ := blk_wf rs (i + 1) S (putBk fd s i) hd1 hlt nS (fun x m => by have := hb x (.tail _ m); omega) (fun c q e => by
              rw [lkB_put] at e
              split at e
              · cases e
                omega
              · have := hf c q e
                omega) h
            have es : lkB B s = some i := by rw [a s (by omega) ns, lkB_put, if_pos rfl]
            refine ⟨fun x hx nx => ?_, ⟨i, Nat.le_refl _, hlt, es, wf_nil (Nat.le_refl _), b⟩, c⟩
            rw [a x (by omega) (fun m => nx (.tail _ m)), lkB_put, if_neg (fun z => nx (by rw [z]; exact .head _))]
        · rename_i ce
          obtain ⟨a, b, c⟩ := blk_wf rs (i + 1) bg fd hd1 hlt nd (fun x m => by have := hb x m; omega) hf1 h
          have ei : lkB B i = none := by rw [a i (by omega) (fun m => by have := hb i m; omega), fi]
          have en : nxt B i = i + 1 := by unfold nxt; rw [ei]; rfl
          exact ⟨fun x hx nx => a x (by omega) nx, chf_step en (by omega) hlt ⟨r, hri, hrow, ce, fun z => by rw [cb] at z; cases z⟩ b, c⟩
theorem blk_ok {R : List Rw} {B : List (Nat × Nat)} (h : blkM R 0 [] [] = .ok B) : Wf R B 4 0 R.length ∧ ∀ c q, lkB B c = some q → q < R.length := by
  obtain ⟨_, b, c⟩ := blk_wf (R := R) R 0 [] [] List.drop_zero (Nat.zero_le _) List.nodup_nil (fun _ m => nomatch m) (fun _ _ e => by cases e) h
  exact ⟨b, c⟩
end Half

namespace L2
open PySem PySem.Spec PyProof.Rows
/-- what is never run -/
theorem ps_dead {X : Cx} {st : Stmt} : PS X st (fun _ _ _ => False) := ⟨fun _ _ _ _ _ _ h => h.elim⟩
end L2
namespace Half
open PySem PySem.Spec PyProof.Rows L2
/-! ### Execution(..); run_script -/
abbrev sRsc : Stmt := top 68
inductive Run
  | ok (s : Ex)
  | bad (p : Nat)
  | unk (p : Nat)
  | long
def runR : Res → Run
  | .ok s => .ok s
  | .unk p => .unk p
  | .long => .long
/-- a script, on states -/
def scrM (es : List Edn) (ss : SS) (R : List Rw) : Run := match blkM R 0 [] [] with
  | .error p => .bad p
  | .ok B => runR (exE es R B 4 0 R.length ⟨ss, [], [], 0⟩)
/-- what stands of the editions alone -/
structure EsG (es : Es) : Prop where
  lean : Lean es
  ver : ∀ k ∈ keysOf es.eds, 0 ≤ k.2 ∧ k.2 ≤ 1000
  few : ∀ ss d, IsNm (keysOf es.eds) (ss.map (·.1)) → WhyFew (es.map (·.2)) ss d
section
variable (K : PySem.W.Frag) (C CT CY CX CE CU CL : Addr)
def spExi : Sp := fun vs H Q E => ∃ (x dx y ar st : Addr) (ss : SS) (es : Es) (R : List Rw), vs = [.ref x, .ref y, .ref ar] ∧ H x = some (.ins CX dx []) ∧ SysOk K C CT CY H y st ss es ∧ RowsAt H ar R ∧ R.length ≤ 500 ∧ (∀ r ∈ R, RwOk r) ∧
  (∀ B, blkM R 0 [] [] = .ok B → ∀ H' o, SameBut x H H' → H o = none → ExAt K C CT CY CX st es R B H' x o ⟨ss, [], [], 0⟩ → Q .non H') ∧ (∀ p, blkM R 0 [] [] = .error p → ∀ H' dd, SameBut x H H' → H' dd = some (.xd [("row", .int (p : Nat))]) → E (.ref CE) (some dd) H')
def FinR (H : Hp) (st : Addr) (es : Es) (Q : VK) (E : XK) : Run → Prop
  | .ok s => ∀ H' p y o, Same H H' → SqT K H' p [.ref y, .ref o] → SysOk K C CT CY H' y st s.ss es → H' o = some (.lst (s.out.map V.str)) → Q (.ref p) H'
  | .bad p => ∀ H' dd, Same H H' → H' dd = some (.xd [("row", .int (p : Nat))]) → E (.ref CE) (some dd) H'
  | .unk p => ∀ H' dd, Same H H' → H' dd = some (.xd [("row", .int (p : Nat))]) → E (.ref CU) (some dd) H'
  | .long => ∀ H', Same H H' → E (.ref CL) none H'
def spRsc : Sp := fun vs H Q E => ∃ (y st : Addr) (z : Str) (ss : SS) (es : Es), vs = [.ref y, .str z] ∧ SysOk K C CT CY H y st ss es ∧ EsG es ∧ LineOk z ∧ (rowsOf z).length ≤ 500 ∧ (∀ r ∈ rowsOf z, RwOk r) ∧ FinR K C CT CY CE CU CL H st es Q E (scrM (es.map (·.2)) ss (rowsOf z))
end
structure MkX (K : PySem.W.Frag) (mg : Str → Option Value) (CX : Addr) : Prop where
  ex : ∃ f fd, Fun K "__init__" "Execution.__init__" (sEx 0) f fd ∧ Mk K CX f ∧ Binds K fd ["self", "system", "rows"] [] ∧ mg "Execution" = some (.ref CX)
section
variable {P : Program} {w : World} {K : PySem.W.Frag} {mg : Str → Option Value} {base : Heap} {C CT CY CN CU' CI CR CX CE CU CL fE fU : Addr} {fdE fdU : FuncData}
theorem none_of {H H' : Hp} {D : Addr} (s : Same H H') (h : H' D = none) : H D = none := by
  cases c : H D with
  | none => rfl
  | some o => rw [s D o c] at h; cases h
theorem mk_same {C x dx : Addr} {H : Hp} (nx : H x = none) (ndx : H dx = none) : Same H (upd (upd H dx (.own x)) x (.ins C dx [])) := fun b o q => by
  rw [upd_ne (ne_of_none q nx), upd_ne (ne_of_none q ndx)]
  exact q
theorem fld_up {x C dx : Addr} {H H1 : Hp} {fs : List (Str × V)} {v : HO} (g : H1 x = some (.ins C dx fs)) (b : SameBut x H H1) (k : Kp K H H1) : (upd H1 x v) x = some v ∧ SameBut x H (upd H1 x v) ∧ Kp K H (upd H1 x v) :=
  ⟨upd_same, fun c o nc q => by rw [upd_ne nc]; exact b _ _ nc q, k.trans (Kp.upd g (fun _ z => by cases z) (fun _ _ z => by cases z))⟩
theorem scExi : FnScope ["self", "system", "rows"] ["self", "system", "rows"] (defScope (sEx 0)) := ⟨rfl, rfl, rfl, by decide +kernel, rfl, by decide +kernel, by decide +kernel⟩
theorem ok_exi {f : Addr} {fd : FuncData} (F : Fun K "__init__" "Execution.__init__" (sEx 0) f fd) (T : TxtEx K mg CX CL) (dB : DefX P w K mg base 5 "block_ends" ["rows"] (spBle CE)) : FnOk P w K mg base (L2.CX P w) 6 f fd ["self", "system", "rows"] (spExi K C CT CY CX CE) := by
  refine F.okX scExi (fun vs H Q E h => ?_) (fun cdv A outer s H vs Q E hr h => ?_)
  · obtain ⟨x, dx, y, ar, st, ss, es, R, rfl, _⟩ := h
    rfl
  · obtain ⟨x, dx, y, ar, st, ss, es, R, rfl, hx, hY, hA, hl, hR, kO, kB⟩ := h
    have nd := scExi.nd
    refine ⟨_, pss_cons (ps_fld (pv 0) (pv 2) rfl)
      (pss_cons (ps_fld (pv 0) (pe_defX dB hr rfl (passes_call (takes_of rfl rfl rfl rfl) (fun _ _ _ _ h => h)) (pa_cons (pv 2) pa_nil)) rfl)
      (pss_cons (ps_fld (pv 0) (pv 1) rfl)
      (pss_cons (ps_fld (pv 0) (pe_tup pa_nil) rfl)
      (pss_cons (ps_fld (pv 0) (pe_lst pa_nil) rfl)
      (pss_one (ps_fld (pv 0) pe_int rfl)))))), ?_⟩
    have nx : ∀ {b : Addr} {v : HO}, H b = some v → (∀ C dx fs, v ≠ .ins C dx fs) → b ≠ x := fun hb nv e => by
      rw [e, hx] at hb
      exact nv _ _ _ (Option.some.inj hb).symm
    refine ⟨_, rfl, _, rfl, x, CX, dx, _, rfl, hx, T.cl, T.nR, (by show 0 < 1000; decide), ?_⟩
    have g1 : (upd H x (.ins CX dx (putF "rows" (.ref ar) []))) x = some (.ins CX dx [("rows", .ref ar)]) := upd_same
    have b1 : SameBut x H (upd H x (.ins CX dx (putF "rows" (.ref ar) []))) := fun b o nb q => by rw [upd_ne nb]; exact q
    have k1 : Kp K H (upd H x (.ins CX dx (putF "rows" (.ref ar) []))) := Kp.upd hx (fun _ z => by cases z) (fun _ _ z => by cases z)
    generalize upd H x (.ins CX dx (putF "rows" (.ref ar) [])) = H1 at g1 b1 k1 ⊢
    obtain ⟨ps, hps, hpr⟩ := id hA
    have hA1 : RowsAt H1 ar R := ⟨ps, b1 _ _ (nx hps (fun _ _ _ z => by cases z)) hps, Paired.mapP hpr fun _ _ q => b1 _ _ (nx q (fun _ _ _ z => by cases z)) q⟩
    refine ⟨_, rfl, ar, R, rfl, hA1, hl, hR, fun B hB H2 br s2 nbr hbr => ?_, fun p hp H2 dd s2 hd => kB p hp H2 dd (fun b o nb q => s2 _ _ (b1 _ _ nb q)) hd⟩
    have g2 := s2 _ _ g1
    have B2 : SameBut x H H2 := fun b o nb q => s2 _ _ (b1 _ _ nb q)
    have K2 : Kp K H H2 := k1.trans s2.kp
    refine ⟨_, rfl, x, CX, dx, _, rfl, g2, T.cl, T.nB, (by show 1 < 1000; decide), ?_⟩
    obtain ⟨g3, B3, K3⟩ := fld_up (v := .ins CX dx [("rows", .ref ar), ("blocks", .ref br)]) g2 B2 K2
    have nbrx : br ≠ x := ne_of hbr g2 (by intro z; cases z)
    have h3 : (upd H2 x (.ins CX dx [("rows", .ref ar), ("blocks", .ref br)])) br = some (.dK (kvO B)) := by rw [upd_ne nbrx]; exact hbr
    show (fun H3 => tSeq _ _ _ _ H3) (upd H2 x (.ins CX dx [("rows", .ref ar), ("blocks", .ref br)]))
    generalize upd H2 x (.ins CX dx [("rows", .ref ar), ("blocks", .ref br)]) = H3 at g3 B3 K3 h3 ⊢
    refine ⟨_, rfl, _, rfl, x, CX, dx, _, rfl, g3, T.cl, T.nY, (by show 2 < 1000; decide), ?_⟩
    obtain ⟨g4, B4, K4⟩ := fld_up (v := .ins CX dx [("rows", .ref ar), ("blocks", .ref br), ("held_system", .ref y)]) g3 B3 K3
    have h4 : (upd H3 x (.ins CX dx [("rows", .ref ar), ("blocks", .ref br), ("held_system", .ref y)])) br = some (.dK (kvO B)) := by rw [upd_ne nbrx]; exact h3
    show (fun H3 => tSeq _ _ _ _ H3) (upd H3 x (.ins CX dx [("rows", .ref ar), ("blocks", .ref br), ("held_system", .ref y)]))
    generalize upd H3 x (.ins CX dx [("rows", .ref ar), ("blocks", .ref br), ("held_system", .ref y)]) = H4 at g4 B4 K4 h4 ⊢
    refine ⟨by decide, fun t nt => ?_⟩
    have s5 := Same.upd_new (o := .tup []) nt
    have gt : SqT K (upd H4 t (.tup [])) t (([] : List Int).map V.int) := SqT.of upd_same
    generalize upd H4 t (.tup []) = H5 at s5 gt ⊢
    have g5 := s5 _ _ g4
    refine ⟨_, rfl, x, CX, dx, _, rfl, g5, T.cl, T.nF, (by show 3 < 1000; decide), ?_⟩
    obtain ⟨g6, B6, K6⟩ := fld_up (v := .ins CX dx [("rows", .ref ar), ("blocks", .ref br), ("held_system", .ref y), ("failing", .ref t)]) g5 (fun b o nb q => s5 _ _ (B4 _ _ nb q)) (K4.trans s5.kp)
    have h6 : (upd H5 x (.ins CX dx [("rows", .ref ar), ("blocks", .ref br), ("held_system", .ref y), ("failing", .ref t)])) br = some (.dK (kvO B)) := by rw [upd_ne nbrx]; exact s5 _ _ h4
    have gt6 : SqT K (upd H5 x (.ins CX dx [("rows", .ref ar), ("blocks", .ref br), ("held_system", .ref y), ("failing", .ref t)])) t (([] : List Int).map V.int) := (Kp.upd g5 (fun _ z => by cases z) (fun _ _ z => by cases z)) _ _ gt
    show (fun H3 => tSeq _ _ _ _ H3) (upd H5 x (.ins CX dx [("rows", .ref ar), ("blocks", .ref br), ("held_system", .ref y), ("failing", .ref t)]))
    generalize upd H5 x (.ins CX dx [("rows", .ref ar), ("blocks", .ref br), ("held_system", .ref y), ("failing", .ref t)]) = H6 at g6 B6 K6 h6 gt6 ⊢
    refine ⟨by decide, fun o no => ?_⟩
    have s7 := Same.upd_new (o := .lst []) no
    have go : (upd H6 o (.lst [])) o = some (.lst (([] : List Str).map V.str)) := upd_same
    have nox : x ≠ o := fun e => by rw [← e, g6] at no; cases no
    have noH : H o = none := by
      cases c : H o with
      | none => rfl
      | some v => rw [B6 o v (Ne.symm nox) c] at no; cases no
    have nobr : br ≠ o := ne_of_none h6 no
    generalize upd H6 o (.lst []) = H7 at s7 go ⊢
    have g7 := s7 _ _ g6
    refine ⟨_, rfl, x, CX, dx, _, rfl, g7, T.cl, T.nO, (by show 4 < 1000; decide), ?_⟩
    obtain ⟨g8, B8, K8⟩ := fld_up (v := .ins CX dx [("rows", .ref ar), ("blocks", .ref br), ("held_system", .ref y), ("failing", .ref t), ("output", .ref o)]) g7 (fun b v nb q => s7 _ _ (B6 _ _ nb q)) (K6.trans s7.kp)
    have k78 : Kp K H7 (upd H7 x (.ins CX dx [("rows", .ref ar), ("blocks", .ref br), ("held_system", .ref y), ("failing", .ref t), ("output", .ref o)])) := Kp.upd g7 (fun _ z => by cases z) (fun _ _ z => by cases z)
    have h8 : (upd H7 x (.ins CX dx [("rows", .ref ar), ("blocks", .ref br), ("held_system", .ref y), ("failing", .ref t), ("output", .ref o)])) br = some (.dK (kvO B)) := by rw [upd_ne nbrx]; exact s7 _ _ h6
    have go8 : (upd H7 x (.ins CX dx [("rows", .ref ar), ("blocks", .ref br), ("held_system", .ref y), ("failing", .ref t), ("output", .ref o)])) o = some (.lst (([] : List Str).map V.str)) := by rw [upd_ne (Ne.symm nox)]; exact go
    have gt8 := k78 _ _ (s7.sqT gt6)
    have ep : (.ins CX dx (putF "output" (.ref o) [("rows", .ref ar), ("blocks", .ref br), ("held_system", .ref y), ("failing", .ref t)]) : HO) = .ins CX dx [("rows", .ref ar), ("blocks", .ref br), ("held_system", .ref y), ("failing", .ref t), ("output", .ref o)] := rfl
    rw [ep]
    generalize upd H7 x (.ins CX dx [("rows", .ref ar), ("blocks", .ref br), ("held_system", .ref y), ("failing", .ref t), ("output", .ref o)]) = H8 at g8 B8 K8 h8 go8 gt8 ⊢
    refine ⟨_, rfl, x, CX, dx, _, rfl, g8, T.cl, T.nS, (by show 5 < 1000; decide), ?_⟩
    obtain ⟨g9, B9, K9⟩ := fld_up (v := exO CX dx ar br y t o 0) g8 B8 K8
    have k89 : Kp K H8 (upd H8 x (exO CX dx ar br y t o 0)) := Kp.upd g8 (fun _ z => by cases z) (fun _ _ z => by cases z)
    have nX : Nx K H (upd H8 x (exO CX dx ar br y t o 0)) := ⟨fun b u hb fm => B9 b u (fun e => by
      rw [e, hx] at hb
      cases hb
      exact fm) hb, K9⟩
    refine kO B hB _ o B9 noH ?_
    refine ⟨dx, ar, br, y, t, ps, g9, hY.nx nX, k89 _ _ gt8, B9 _ _ (nx hps (fun _ _ _ z => by cases z)) hps, ne_of_none hps noH, Paired.mapP hpr fun _ _ q => ⟨B9 _ _ (nx q (fun _ _ _ z => by cases z)) q, ne_of_none q noH⟩, ?_, ?_, Nat.le_refl _, by show 0 ≤ 300; decide⟩
    · rw [upd_ne nbrx]
      exact h8
    · rw [upd_ne (Ne.symm nox)]
      exact go8
/-- all that run_script stands on -/
structure RscF (P : Program) (w : World) (K : PySem.W.Frag) (mg : Str → Option Value) (base : Heap) (C CT CY CN CU' CR CX CE CU CL fU : Addr) (fdU : FuncData) : Prop where
  T : TxtEx K mg CX CL
  Y : SyF P w K mg base C CT CY CN CU'
  len : mg "len" = none
  mkx : MkX K mg CX
  dRo : Def P w K mg base 1 "rows_of" ["text"] spRo
  dB : DefX P w K mg base 5 "block_ends" ["rows"] (spBle CE)
  eU : TxtSe P w K mg base "UnknownPackage" "UnknownPackage.__init__" sIup CU fU fdU
  dR : Def P w K mg base 7 "refusal" ["system", "deed"] (spRef K C CT CY)
  dRun : DefX P w K mg base 9 "run" ["system", "deed", "fails"] (spRun K C CT CY CR)
  mS : MtW K CX "step_on" "Execution.step_on" (sEx 1) ["self"]
  mE : MtW K CX "execute" "Execution.execute" (sEx 2) ["self", "begin", "end"]
  mR : MtW K CX "execute_row" "Execution.execute_row" (sEx 3) ["self", "place"]
  mF : MtW K CX "state_for" "Execution.state_for" (sEx 4) ["self", "place"]
  mD : MtW K CX "execute_deed" "Execution.execute_deed" (sEx 5) ["self", "deed"]
theorem RscF.exe (D : RscF P w K mg base C CT CY CN CU' CR CX CE CU CL fU fdU) (st : Addr) (es : Es) (R : List Rw) (B : List (Nat × Nat)) (d : Nat) : MthX P w K mg base CX "execute" (12 + 2 * d) ["self", "begin", "end"] (spExX K C CT CY CX CU CL st es R B (Wf R B d) (exE (es.map (·.2)) R B d)) := by
  obtain ⟨f1, fd1, a1, b1, c1⟩ := D.mS.ex
  obtain ⟨f2, fd2, a2, b2, c2⟩ := D.mF.ex
  obtain ⟨f3, fd3, a3, b3, c3⟩ := D.mD.ex
  exact exe_all D.T D.mE D.mR ⟨f1, fd1, a1, ok_stp b1 D.T, c1⟩ ⟨f2, fd2, a2, ok_stf b2 D.T D.Y D.eU, c2⟩ ⟨f3, fd3, a3, ok_exd b3 D.T D.dR D.dRun, c3⟩ d
theorem scRsc : FnScope ["system", "text", "execution"] ["system", "text"] (defScope sRsc) := ⟨rfl, rfl, rfl, by decide +kernel, rfl, by decide +kernel, by decide +kernel⟩
theorem ok_rsc {f : Addr} {fd : FuncData} (F : Fun K "run_script" "run_script" sRsc f fd) (D : RscF P w K mg base C CT CY CN CU' CR CX CE CU CL fU fdU) : FnOk P w K mg base (L2.CX P w) 21 f fd ["system", "text"] (spRsc K C CT CY CE CU CL) := by
  refine F.okX scRsc (fun vs H Q E h => ?_) (fun cdv A outer s H vs Q E hr h => ?_)
  · obtain ⟨y, st, z, ss, es, rfl, _⟩ := h
    rfl
  · obtain ⟨y, st, z, ss, es, rfl, hY, eG, hz, hl, hR, fin⟩ := h
    have nd := scRsc.nd
    have T := D.T
    have r1 : Room 1 _ := hr.mono (by decide)
    have r7 : Room 7 _ := hr.mono (by decide)
    have r20 : Room 20 _ := hr
    obtain ⟨fI, fdI, FI, MI, bI, gX⟩ := D.mkx.ex
    have FI' : FnOk P w K mg base (L2.CX P w) 6 fI fdI ["self", "system", "rows"] (spExi K C CT CY CX CE) := ok_exi FI T D.dB
    unfold scrM at fin
    generalize eR : rowsOf z = R at hl hR fin
    cases eB : blkM R 0 [] [] with
    | error p =>
      rw [eB] at fin
      dsimp only at fin
      refine ⟨_, pss_cons (ps_set (i := 2) nd rfl (Or.inl rfl) (pe_make MI FI' r7 rfl gX bI .nil (passes_call (takes_of rfl rfl rfl rfl) (fun _ _ _ _ h => h)) (pa_cons (pv 0) (pa_cons (pe_def D.dRo r1 rfl (pa_cons (pv 1) pa_nil)) pa_nil))))
        (pss_cons ps_dead (pss_one ps_dead)), ?_⟩
      refine ⟨_, rfl, _, rfl, z, rfl, hz, fun H1 ar s1 nar hA => ?_⟩
      rw [eR] at hA
      intro x dx nx ndx nxx
      have sx := mk_same (C := CX) nx ndx
      refine ⟨x, dx, y, ar, st, ss, es, R, rfl, upd_same, (hY.same s1).same sx, hA.same sx, hl, hR, fun B hB _ _ _ _ _ => (by rw [eB] at hB; cases hB), fun p' hp H2 dd b2 hd => ?_⟩
      rw [eB] at hp
      cases hp
      exact fin H2 dd (fun b o q => b2 _ _ (ne_of_none (s1 _ _ q) nx) (sx _ _ (s1 _ _ q))) hd
    | ok B =>
      rw [eB] at fin
      dsimp only at fin
      obtain ⟨hW, hbd⟩ := blk_ok eB
      have eF : EsF es R B := ⟨eG.lean, eG.ver, eG.few, hR, hl, fun p q h => by have := hbd p q h; omega⟩
      obtain ⟨fE', fdE', ME, FE, bE⟩ := (D.exe st es R B 4).ex
      refine ⟨_, pss_cons (ps_set (i := 2) nd rfl (Or.inl rfl) (pe_make MI FI' r7 rfl gX bI .nil (passes_call (takes_of rfl rfl rfl rfl) (fun _ _ _ _ h => h)) (pa_cons (pv 0) (pa_cons (pe_def D.dRo r1 rfl (pa_cons (pv 1) pa_nil)) pa_nil))))
        (pss_cons (ps_expr (pe_meth (pv 2) T.cl ME FE r20 bE .nil (passes_call (takes_of rfl rfl rfl rfl) (fun _ _ _ _ h => h)) (pa_cons pe_int (pa_cons (pe_callB call_len_seq (by rfl) D.len PySem.boot_len (pa_cons (pe_fld (pv 2) rfl) pa_nil)) pa_nil))))
        (pss_one (ps_ret (pe_tup (pa_cons (pe_fld (pv 2) rfl) (pa_cons (pe_fld (pv 2) rfl) pa_nil)))))), ?_⟩
      refine ⟨_, rfl, _, rfl, z, rfl, hz, fun H1 ar s1 nar hA => ?_⟩
      rw [eR] at hA
      intro x dx nx ndx nxx
      have sx := mk_same (C := CX) nx ndx
      refine ⟨x, dx, y, ar, st, ss, es, R, rfl, upd_same, (hY.same s1).same sx, hA.same sx, hl, hR, fun B' hB H2 o b2 no hX => ?_, fun p' hp _ _ _ _ => by rw [eB] at hp; cases hp⟩
      rw [eB] at hB
      cases hB
      have S2 : Same H H2 := fun b u q => b2 _ _ (ne_of_none (s1 _ _ q) nx) (sx _ _ (s1 _ _ q))
      have nxH : H x = none := none_of s1 nx
      have noH : H o = none := none_of (s1.trans sx) no
      have stay : ∀ {H' : Hp}, Fx K x o H2 H' → Same H H' := fun f b u q => f.at_ _ _ (ne_of_none q nxH) (ne_of_none q noH) (S2 _ _ q)
      obtain ⟨dx2, ar2, br2, y2, fa2, ps2, g1, g2, g3, g4, g5, g6, g7, g8, g9, g10⟩ := id hX
      refine ⟨rfl, ?_⟩
      refine ⟨_, rfl, x, dx2, _, rfl, g1, rfl, _, rfl, x, CX, dx2, _, _, rfl, g1, T.cl, T.nR, rfl, ar2, _, rfl, .inl (SqL.of g4), x, o, 0, R.length, _, by rw [List.length_map, g6.length]; rfl, hX, eF, hW, by decide, by omega, ?_⟩
      generalize exE (es.map (·.2)) R B 4 0 R.length ⟨ss, [], [], 0⟩ = res at fin
      cases res with
      | ok s4 =>
        intro H4 f4 hX4
        obtain ⟨dx4, ar4, br4, y4, fa4, ps4, d1, d2, d3, d4, d5, d6, d7, d8, d9, d10⟩ := hX4
        refine ⟨_, rfl, x, CX, dx4, _, _, rfl, d1, T.cl, T.nY, rfl, _, rfl, x, CX, dx4, _, _, rfl, d1, T.cl, T.nO, rfl, two_le, fun t nt => ?_⟩
        have s5 := Same.upd_new (o := .tup [.ref y4, .ref o]) nt
        exact fin _ t y4 o ((stay f4).trans s5) (SqT.of upd_same) (d2.same s5) (s5 _ _ d8)
      | unk p' =>
        intro H4 dd f4 hd
        exact fin H4 dd (stay f4) hd
      | long =>
        intro H4 f4
        exact fin H4 (stay f4)
end
end Half

/-! try: body / except x1 as n: s1 / except x2 as n: s2 -/
namespace L2
open PySem PySem.Spec PyProof.Rows
/-- the ends of a suite behind 'as n': n goes -/
def endsGone (i : Nat) (D : Ends) : Ends := { nx := fun τ G => D.nx (τ.set i none) G, rt := D.rt, bk := fun τ G => D.bk (τ.set i none) G, ct := fun τ G => D.ct (τ.set i none) G }
def wTwo (K : PySem.W.Frag) (c1 c2 : Value) (i : Nat) (t1 t2 : Addr → Value → Option Addr → TS) (out : WX) (D : Ends) : WX := fun cls d τ G =>
  ∃ b, PySem.W.exmOne K cls c1 = some b ∧ (b = true → ∀ x, G x = none → t1 x cls d (endsGone i D) (τ.set i (some (.ref x))) G) ∧
    (b = false → ∃ b', PySem.W.exmOne K cls c2 = some b' ∧ (b' = true → ∀ x, G x = none → t2 x cls d (endsGone i D) (τ.set i (some (.ref x))) G) ∧ (b' = false → out cls d τ G))
section
variable {X : Cx} {y1 y2 n : Str} {c1 c2 : Value} {i : Nat} {body u1 u2 : List Stmt} {v1 v2 : Stmt} {p1 p2 q1 q2 pos : Pos} {tb : WX → TS} {t1 t2 : Addr → Value → Option Addr → TS} {out : WX}
/-- a suite has ended: its name goes -/
theorem suite_ends {pins : List (Addr × Obj)} {a : Addr} {q : Addr × Obj} {D : Ends} {q2 : Pos} (ok : X.Ok) (hN : X.N.Nodup) (hi : X.N[i]? = some n) (hl : X.env.kindOf n = some .local) {fl : Flow} {st : Shared}
    (h : SP (X.suite a (q :: (X.pn ++ pins))) [] (endsGone i D) fl st) :
    wpAny (model X.prog X.w) X.A (do bindName X.env n .none; unbindBehindTheSuite X.env n q2) (fun _ st' => SP X pins D fl st') X.xe st := by
  have bye : ∀ {τ : St} {G : Hp} {R : Shared → Prop}, Inv (X.suite a (q :: (X.pn ++ pins))) [] τ G st → (∀ st', Inv X pins (τ.set i none) G st' → R st') →
      wpAny (model X.prog X.w) X.A (do bindName X.env n .none; unbindBehindTheSuite X.env n q2) (fun _ st' => R st') X.xe st := fun J r => gone_ok (J.unsuite ok) hN hi hl r
  cases fl with
  | next => obtain ⟨τ, G, J, r⟩ := h; exact bye J fun st' J' => ⟨_, _, J', r⟩
  | brk => obtain ⟨τ, G, J, r⟩ := h; exact bye J fun st' J' => ⟨_, _, J', r⟩
  | cont => obtain ⟨τ, G, J, r⟩ := h; exact bye J fun st' J' => ⟨_, _, J', r⟩
  | ret z => obtain ⟨v, τ, G, J, e, r⟩ := h; exact bye J fun st' J' => ⟨_, _, _, J', e, r⟩
theorem ps_try_two (hs : X.stack = X.env :: X.outer) (hf : X.env.frame = some X.env.locals) (hN : X.N.Nodup) (hi : X.N[i]? = some n) (hl : X.env.kindOf n = some .local) (n1 : Names X y1 c1) (n2 : Names X y2 c2) (tk : Takes X out)
    (hb : ∀ (W : WX) (pn : List (Addr × Obj)) (xe : Value → Shared → Prop), Takes (X.tr pn xe) W → PassesOwn (model X.prog X.w) X.A X.env xe → PSs (X.tr pn xe) body (tb W))
    (h1 : ∀ (a : Addr) (oe : Obj) (cls : Value) (d : Option Addr) (pn : List (Addr × Obj)), Zc cls d oe → (∃ vs, oe.data = .fields vs) → PSs (X.suite a ((a, oe) :: pn)) (v1 :: u1) (t1 a cls d))
    (h2 : ∀ (a : Addr) (oe : Obj) (cls : Value) (d : Option Addr) (pn : List (Addr × Obj)), Zc cls d oe → (∃ vs, oe.data = .fields vs) → PSs (X.suite a ((a, oe) :: pn)) (v2 :: u2) (t2 a cls d)) :
    PS X (.Try body [.ExceptHandler (some (.Name y1 p1)) (some n) (v1 :: u1) q1, .ExceptHandler (some (.Name y2 p2)) (some n) (v2 :: u2) q2] [] [] pos) (fun D τ G => tb (wTwo X.K c1 c2 i t1 t2 out D) D τ G) where
  run pins st τ G D J0 rd := by
    have ok := J0.ok
    have frames : X.A.frames = some (X.env :: X.outer) := by rw [ok.frames, hs]
    have locN : Loc X.env.scope n := .inl hl
    let hh : List ExceptHandler := [.ExceptHandler (some (.Name y1 p1)) (some n) (v1 :: u1) q1, .ExceptHandler (some (.Name y2 p2)) (some n) (v2 :: u2) q2]
    let catch_ : Value → Shared → Prop := fun er st1 => wpAny (model X.prog X.w) X.A (noteFrame er X.env) (fun _ st2 => wpAny (model X.prog X.w) X.A (setFlight er none) (fun _ st3 => wpAny (model X.prog X.w) X.A (handleBy er X.env hh) (SP X pins D) X.xe st3) X.xe st2) X.xe st1
    refine wpAny_Try_except (wpAny_mono ((hb (wTwo X.K c1 c2 i t1 t2 out D) (X.pn ++ pins) catch_ ?_ PassesOwn.looking).run [] st τ G D (J0.toTry _) rd) ?_ fun er st1 z => z)
    · rintro er st' ⟨a, B, sI, pins', τ', G', cls, d, rfl, J', bare, up, sky, fresh, os, ag, wish⟩
      have J : Inv X pins τ' G' sI := J'.ofTry ok
      rw [hs] at sky
      refine Sky.land Zc.steady frames hf sky fun h3 land up3 => ?_
      have J3 : Inv X pins τ' G' { st' with heap := h3 } := J.landed bare land.1 (up.trans up3) os ag
      obtain ⟨o3, w3, at3, zc3, fd3⟩ := land.there
      have out3 : a ∉ frs (X.env :: X.outer) := fun m => by
        obtain ⟨_, o', at', no⟩ := land.2.2.1.mem m
        rw [at3] at at'
        cases at'
        exact no _ fd3
      have offL : a ≠ X.env.locals := fun z => out3 (List.mem_filterMap.mpr ⟨X.env, .head _, by rw [hf, z]⟩)
      have offF : a ∉ X.fs := fun m => by
        obtain ⟨e, he, r⟩ := List.mem_filterMap.mp m
        exact out3 (List.mem_filterMap.mpr ⟨e, .tail _ he, r⟩)
      have S3 := J3.suite at3 fd3 fresh offL offF
      have kind : PySem.W.Looks (model X.prog X.w) h3 (typeOf (.ref a)) cls := fun A Q E s k r => wpAny_typeOf_ref (k _ _ at3) (by rw [zc3.1]; exact r)
      have named : ∀ {y : Str} {c : Value} {p : Pos} {Q E : Value → Shared → Prop}, Names X y c → Q c { st' with heap := h3 } → wpAny (model X.prog X.w) (X.A.mark (some (.ref a))) (eval (.Name y p) X.env) Q E { st' with heap := h3 } := fun hc r => by
        obtain ⟨g, dbg, m | ⟨m, bt, nn⟩⟩ := hc
        · exact ld_glob (X := X.suite a ((a, o3) :: (X.pn ++ pins))) S3 g m r dbg
        · exact ld_blt (X := X.suite a ((a, o3) :: (X.pn ++ pins))) S3 g m bt r nn dbg
      obtain ⟨b, m1, yes1, no1⟩ := wish
      have M1 := PySem.W.exm_one (M := model X.prog X.w) J3.kIn kind m1
      refine wpAny_handleBy_cons (codeAny_handlers_test (named n1 (M1.here ?_))) (by intro r; cases r)
      cases b with
      | true =>
        refine codeAny_handlers_suite_as (HandSPX.lands_againZ land fun h4 land4 up4 => ?_)
        have J4 : Inv X pins τ' G' { st' with heap := h4 } := J.landed bare land4.1 ((up.trans up3).trans up4) os ag
        obtain ⟨o4, w4, at4, zc4, fd4⟩ := land4.there
        refine store_ok (X := X.suite a ((a, o4) :: (X.pn ++ pins))) (v := .ref a) (J4.suite at4 fd4 fresh offL offF) hN hi locN rfl (fun s5 S5 => ?_) (.inr hl)
        exact wpAny_mono ((h1 a o4 cls d (X.pn ++ pins) zc4 ⟨_, fd4⟩).run [] s5 _ G' _ S5 (yes1 rfl a fresh)) (fun f s6 r => suite_ends ok hN hi hl r) fun _ _ z => z.elim
      | false =>
        obtain ⟨b', m2, yes2, no2⟩ := no1 rfl
        have M2 := PySem.W.exm_one (M := model X.prog X.w) J3.kIn kind m2
        show wpAny _ X.A (handleBy (.ref a) X.env [.ExceptHandler (some (.Name y2 p2)) (some n) (v2 :: u2) q2]) _ _ _
        refine wpAny_handleBy_cons (codeAny_handlers_test (named n2 (M2.here ?_))) (by intro r; cases r)
        cases b' with
        | true =>
          refine codeAny_handlers_suite_as (HandSPX.lands_againZ land fun h4 land4 up4 => ?_)
          have J4 : Inv X pins τ' G' { st' with heap := h4 } := J.landed bare land4.1 ((up.trans up3).trans up4) os ag
          obtain ⟨o4, w4, at4, zc4, fd4⟩ := land4.there
          refine store_ok (X := X.suite a ((a, o4) :: (X.pn ++ pins))) (v := .ref a) (J4.suite at4 fd4 fresh offL offF) hN hi locN rfl (fun s5 S5 => ?_) (.inr hl)
          exact wpAny_mono ((h2 a o4 cls d (X.pn ++ pins) zc4 ⟨_, fd4⟩).run [] s5 _ G' _ S5 (yes2 rfl a fresh)) (fun f s6 r => suite_ends ok hN hi hl r) fun _ _ z => z.elim
        | false =>
          show wpAny _ X.A (handleBy (.ref a) X.env []) _ _ _
          refine wpAny_handleBy_nil ?_
          obtain ⟨_, _, _, o5, w5, T5, oT5, tT5, at5, _, fd5, lead5, _⟩ := id land
          unfold PySem.passOn
          refine wpAny_bind (wpAny_field at5 fd5 lead5 ?_)
          rw [if_neg (by simp : ¬ ((Value.ref T5 == Value.none) = true))]
          have off : wpAny (model X.prog X.w) X.A (setFlight (.ref a) X.env.frame) (fun _ s4 => wpAny (model X.prog X.w) X.A (throw (.ref a) : Sem Flow) (SP X pins D) X.xe s4) X.xe { st' with heap := h3 } := by
            rw [hf]
            exact HandSPX.setFlight_upZ land fun h4 hh4 up4 => wpAny_throw (tk _ _ ⟨a, B, sI, pins, τ', G', cls, d, rfl, J, bare, (up.trans up3).trans up4, .inr (.inr (by rw [hs]; exact hh4)), fresh, os, ag, no2 rfl⟩)
          first
            | exact wpAny_bind (wpAny_pure (wpAny_bind off))
            | exact wpAny_bind off
    · rintro (_ | _ | _ | z) st1 r
      · obtain ⟨τ1, G1, J1, r1⟩ := r
        exact wpAny_execs_nil ⟨τ1, G1, J1.ofTry ok, r1⟩
      · obtain ⟨τ1, G1, J1, r1⟩ := r
        exact ⟨τ1, G1, J1.ofTry ok, r1⟩
      · obtain ⟨τ1, G1, J1, r1⟩ := r
        exact ⟨τ1, G1, J1.ofTry ok, r1⟩
      · obtain ⟨v, τ1, G1, J1, e, r1⟩ := r
        exact ⟨v, τ1, G1, J1.ofTry ok, e, r1⟩
end
end L2

/-! several except clauses, each with a name or without one -/
namespace L2
open PySem PySem.Spec PyProof.Rows
/-- what one clause wishes -/
inductive Cls1
  | bare (c : Value) (ts : Addr → Value → Option Addr → TS)
  | named (c : Value) (i : Nat) (ts : Addr → Value → Option Addr → TS)
def wClauses (K : PySem.W.Frag) (out : WX) (D : Ends) : List Cls1 → WX
  | [] => out
  | .bare c ts :: r => fun cls d τ G => ∃ b, PySem.W.exmOne K cls c = some b ∧ (b = true → ∀ a, G a = none → ts a cls d D τ G) ∧ (b = false → wClauses K out D r cls d τ G)
  | .named c i ts :: r => fun cls d τ G => ∃ b, PySem.W.exmOne K cls c = some b ∧ (b = true → ∀ a, G a = none → ts a cls d (endsGone i D) (τ.set i (some (.ref a))) G) ∧ (b = false → wClauses K out D r cls d τ G)
inductive Clauses (X : Cx) : List ExceptHandler → List Cls1 → Prop
  | nil : Clauses X [] []
  | bare {x : Str} {c : Value} {ts : Addr → Value → Option Addr → TS} {s1 : Stmt} {ss : List Stmt} {p1 p2 : Pos} {hs : List ExceptHandler} {l : List Cls1} (hc : Names X x c)
      (hb : ∀ (a : Addr) (oe : Obj) (cls : Value) (d : Option Addr) (pn : List (Addr × Obj)), Zc cls d oe → (∃ vs, oe.data = .fields vs) → PSs (X.suite a ((a, oe) :: pn)) (s1 :: ss) (ts a cls d)) (r : Clauses X hs l) :
      Clauses X (.ExceptHandler (some (.Name x p1)) none (s1 :: ss) p2 :: hs) (.bare c ts :: l)
  | named {x n : Str} {i : Nat} {c : Value} {ts : Addr → Value → Option Addr → TS} {s1 : Stmt} {ss : List Stmt} {p1 p2 : Pos} {hs : List ExceptHandler} {l : List Cls1} (hc : Names X x c) (hi : X.N[i]? = some n) (hl : X.env.kindOf n = some .local)
      (hb : ∀ (a : Addr) (oe : Obj) (cls : Value) (d : Option Addr) (pn : List (Addr × Obj)), Zc cls d oe → (∃ vs, oe.data = .fields vs) → PSs (X.suite a ((a, oe) :: pn)) (s1 :: ss) (ts a cls d)) (r : Clauses X hs l) :
      Clauses X (.ExceptHandler (some (.Name x p1)) (some n) (s1 :: ss) p2 :: hs) (.named c i ts :: l)
section
variable {X : Cx} {body : List Stmt} {h1 : ExceptHandler} {hs1 : List ExceptHandler} {l : List Cls1} {pos : Pos} {tb : WX → TS} {out : WX}
theorem ps_try_clauses (hs : X.stack = X.env :: X.outer) (hf : X.env.frame = some X.env.locals) (hN : X.N.Nodup) (tk : Takes X out)
    (hb : ∀ (W : WX) (pn : List (Addr × Obj)) (xe : Value → Shared → Prop), Takes (X.tr pn xe) W → PassesOwn (model X.prog X.w) X.A X.env xe → PSs (X.tr pn xe) body (tb W))
    (hh : Clauses X (h1 :: hs1) l) : PS X (.Try body (h1 :: hs1) [] [] pos) (fun D τ G => tb (wClauses X.K out D l) D τ G) where
  run pins st τ G D J0 rd := by
    have ok := J0.ok
    have frames : X.A.frames = some (X.env :: X.outer) := by rw [ok.frames, hs]
    let catch_ : Value → Shared → Prop := fun er st1 => wpAny (model X.prog X.w) X.A (noteFrame er X.env) (fun _ st2 => wpAny (model X.prog X.w) X.A (setFlight er none) (fun _ st3 => wpAny (model X.prog X.w) X.A (handleBy er X.env (h1 :: hs1)) (SP X pins D) X.xe st3) X.xe st2) X.xe st1
    refine wpAny_Try_except (wpAny_mono ((hb (wClauses X.K out D l) (X.pn ++ pins) catch_ ?_ PassesOwn.looking).run [] st τ G D (J0.toTry _) rd) ?_ fun er st1 z => z)
    · rintro er st' ⟨a, B, sI, pins', τ', G', cls, d, rfl, J', bare, up, sky, fresh, os, ag, wish⟩
      have J : Inv X pins τ' G' sI := J'.ofTry ok
      rw [hs] at sky
      refine Sky.land Zc.steady frames hf sky fun h3 land up3 => ?_
      have J3 : Inv X pins τ' G' { st' with heap := h3 } := J.landed bare land.1 (up.trans up3) os ag
      obtain ⟨o3, w3, at3, zc3, fd3⟩ := land.there
      have out3 : a ∉ frs (X.env :: X.outer) := fun m => by
        obtain ⟨_, o', at', no⟩ := land.2.2.1.mem m
        rw [at3] at at'
        cases at'
        exact no _ fd3
      have offL : a ≠ X.env.locals := fun z => out3 (List.mem_filterMap.mpr ⟨X.env, .head _, by rw [hf, z]⟩)
      have offF : a ∉ X.fs := fun m => by
        obtain ⟨e, he, r⟩ := List.mem_filterMap.mp m
        exact out3 (List.mem_filterMap.mpr ⟨e, .tail _ he, r⟩)
      have S3 := J3.suite at3 fd3 fresh offL offF
      have kind : PySem.W.Looks (model X.prog X.w) h3 (typeOf (.ref a)) cls := fun A Q E s k r => wpAny_typeOf_ref (k _ _ at3) (by rw [zc3.1]; exact r)
      have named : ∀ {y : Str} {c : Value} {p : Pos} {Q E : Value → Shared → Prop}, Names X y c → Q c { st' with heap := h3 } → wpAny (model X.prog X.w) (X.A.mark (some (.ref a))) (eval (.Name y p) X.env) Q E { st' with heap := h3 } := fun hc r => by
        obtain ⟨g, dbg, m | ⟨m, bt, nn⟩⟩ := hc
        · exact ld_glob (X := X.suite a ((a, o3) :: (X.pn ++ pins))) S3 g m r dbg
        · exact ld_blt (X := X.suite a ((a, o3) :: (X.pn ++ pins))) S3 g m bt r nn dbg
      have walk : ∀ {hs' : List ExceptHandler} {l' : List Cls1}, Clauses X hs' l' → wClauses X.K out D l' cls d τ' G' →
          wpAny (model X.prog X.w) X.A (handleBy (.ref a) X.env hs') (SP X pins D) X.xe { st' with heap := h3 } := by
        intro hs' l' hk
        induction hk with
        | nil =>
          intro no2
          refine wpAny_handleBy_nil ?_
          obtain ⟨_, _, _, o5, w5, T5, oT5, tT5, at5, _, fd5, lead5, _⟩ := id land
          unfold PySem.passOn
          refine wpAny_bind (wpAny_field at5 fd5 lead5 ?_)
          rw [if_neg (by simp : ¬ ((Value.ref T5 == Value.none) = true))]
          have off : wpAny (model X.prog X.w) X.A (setFlight (.ref a) X.env.frame) (fun _ s4 => wpAny (model X.prog X.w) X.A (throw (.ref a) : Sem Flow) (SP X pins D) X.xe s4) X.xe { st' with heap := h3 } := by
            rw [hf]
            exact HandSPX.setFlight_upZ land fun h4 hh4 up4 => wpAny_throw (tk _ _ ⟨a, B, sI, pins, τ', G', cls, d, rfl, J, bare, (up.trans up3).trans up4, .inr (.inr (by rw [hs]; exact hh4)), fresh, os, ag, no2⟩)
          first
            | exact wpAny_bind (wpAny_pure (wpAny_bind off))
            | exact wpAny_bind off
        | @bare x c ts s1 ss p1 p2 hs2 l2 hc hsu r ih =>
          rintro ⟨b, m1, yes1, no1⟩
          have M1 := PySem.W.exm_one (M := model X.prog X.w) J3.kIn kind m1
          refine wpAny_handleBy_cons (codeAny_handlers_test (named hc (M1.here ?_))) (by intro r; cases r)
          cases b with
          | true =>
            refine codeAny_handlers_suite (HandSPX.lands_againZ land fun h4 land4 up4 => ?_)
            have J4 : Inv X pins τ' G' { st' with heap := h4 } := J.landed bare land4.1 ((up.trans up3).trans up4) os ag
            obtain ⟨o4, w4, at4, zc4, fd4⟩ := land4.there
            refine wpAny_mono ((hsu a o4 cls d (X.pn ++ pins) zc4 ⟨_, fd4⟩).run [] _ _ G' _ (J4.suite at4 fd4 fresh offL offF) (yes1 rfl a fresh)) (fun f s6 hsp => ?_) (fun _ _ z => False.elim z)
            cases f with
            | next => obtain ⟨σ6, H6, S6, q6⟩ := hsp; exact ⟨_, _, S6.unsuite ok, q6⟩
            | brk => obtain ⟨σ6, H6, S6, q6⟩ := hsp; exact ⟨_, _, S6.unsuite ok, q6⟩
            | cont => obtain ⟨σ6, H6, S6, q6⟩ := hsp; exact ⟨_, _, S6.unsuite ok, q6⟩
            | ret u => obtain ⟨v6, σ6, H6, S6, r6, q6⟩ := hsp; exact ⟨_, _, _, S6.unsuite ok, r6, q6⟩
          | false => exact ih (no1 rfl)
        | @named x n i c ts s1 ss p1 p2 hs2 l2 hc hi hl hsu r ih =>
          rintro ⟨b, m1, yes1, no1⟩
          have M1 := PySem.W.exm_one (M := model X.prog X.w) J3.kIn kind m1
          refine wpAny_handleBy_cons (codeAny_handlers_test (named hc (M1.here ?_))) (by intro r; cases r)
          cases b with
          | true =>
            refine codeAny_handlers_suite_as (HandSPX.lands_againZ land fun h4 land4 up4 => ?_)
            have J4 : Inv X pins τ' G' { st' with heap := h4 } := J.landed bare land4.1 ((up.trans up3).trans up4) os ag
            obtain ⟨o4, w4, at4, zc4, fd4⟩ := land4.there
            refine store_ok (X := X.suite a ((a, o4) :: (X.pn ++ pins))) (v := .ref a) (J4.suite at4 fd4 fresh offL offF) hN hi (.inl hl) rfl (fun s5 S5 => ?_) (.inr hl)
            exact wpAny_mono ((hsu a o4 cls d (X.pn ++ pins) zc4 ⟨_, fd4⟩).run [] s5 _ G' _ S5 (yes1 rfl a fresh)) (fun f s6 r => suite_ends ok hN hi hl r) fun _ _ z => z.elim
          | false => exact ih (no1 rfl)
      exact walk hh wish
    · rintro (_ | _ | _ | z) st1 r
      · obtain ⟨τ1, G1, J1, r1⟩ := r
        exact wpAny_execs_nil ⟨τ1, G1, J1.ofTry ok, r1⟩
      · obtain ⟨τ1, G1, J1, r1⟩ := r
        exact ⟨τ1, G1, J1.ofTry ok, r1⟩
      · obtain ⟨τ1, G1, J1, r1⟩ := r
        exact ⟨τ1, G1, J1.ofTry ok, r1⟩
      · obtain ⟨v, τ1, G1, J1, e, r1⟩ := r
        exact ⟨v, τ1, G1, J1.ofTry ok, e, r1⟩
end
end L2

namespace Half
open PySem PySem.Spec PyProof.Rows L2
/-! ### _law_fault -/
abbrev sFlt : Stmt := top 88
def libE : Edn := ⟨"lib", 1, SCR, [], [], []⟩
def libS : SS := [("lib", AB)]
def spS (z : Str) : Rw := (TL.spl [32] 0 [] (TL.tl z)).map fun a => ⟨a.toArray⟩
theorem split_sp (z : Str) : Txt.split z " " = spS z := by
  refine TL.map_tl_inj ?_
  have e : TL.tl (" " : Str) = [32] := by decide
  rw [TL.split_spl z " " (by rw [e]; decide) (TL.kind_ok (by decide +kernel)), e]
  unfold spS
  rw [List.map_map]
  exact (List.map_id _).symm
inductive Flt
  | non
  | script (p : Nat)
  | package (p : Nat)
  | long
  deriving DecidableEq
def fltOf : Run → Flt
  | .ok _ => .non
  | .bad p => .script p
  | .unk p => .package p
  | .long => .long
/-- what becomes of rows -/
def fltM (ls : List Str) : Flt := fltOf (scrM [libE] libS (ls.map spS))
def FltV (K : PySem.W.Frag) (H : Hp) (v : V) : Flt → Prop
  | .non => v = .non
  | .script p => ∃ t, v = .ref t ∧ SqT K H t [.int (p : Nat), .str "script"]
  | .package p => ∃ t, v = .ref t ∧ SqT K H t [.int (p : Nat), .str "package"]
  | .long => v = .str "long"
/-- rows that can be asked for -/
def okLs (ls : List Str) : Bool := decide (ls.length ≤ 400) && (ls.any fun z => decide (0 < z.length)) && ls.all fun z => decide (z.length ≤ 50) && !decide (10 ∈ TL.tl z)
def spFlt (K : PySem.W.Frag) : Sp := fun vs H Q _ => ∃ (l : Addr) (ls : List Str), vs = [.ref l] ∧ SqL K H l (ls.map V.str) ∧ okLs ls = true ∧ ∀ H' v, Same H H' → FltV K H' v (fltM ls) → Q v H'
structure FltT (P : Program) (w : World) (K : PySem.W.Frag) (mg : Str → Option Value) (base : Heap) (C CT CY CI CIy CEd CE CU CL : Addr) : Prop where
  gE : mg "ScriptError" = some (.ref CE)
  gU : mg "UnknownPackage" = some (.ref CU)
  gL : mg "TooLong" = some (.ref CL)
  gS : ∃ CS : Addr, mg "SetupError" = some (.ref CS)
  xE : XfC K CE
  xU : XfC K CU
  nE : PySem.W.findIn K (.ref CE) "row" = some none
  nU : PySem.W.findIn K (.ref CU) "row" = some none
  ee : PySem.W.exmOne K (.ref CE) (.ref CE) = some true
  ue : PySem.W.exmOne K (.ref CU) (.ref CE) = some false
  uu : PySem.W.exmOne K (.ref CU) (.ref CU) = some true
  le : PySem.W.exmOne K (.ref CL) (.ref CE) = some false
  lu : PySem.W.exmOne K (.ref CL) (.ref CU) = some false
  ll : PySem.W.exmOne K (.ref CL) (.ref CL) = some true
  ei : ∃ fe fde aS z1 z2 z3, EdF P w K mg base C CEd fe fde aS z1 z2 z3
  si : ∃ f fd, FnOk P w K mg base (L2.CX P w) 4 f fd ["self", "editions"] (spSi K C CT CI) ∧ Mk K CT f ∧ Binds K fd ["self", "editions"] [] ∧ mg "Store" = some (.ref CT)
  my : MkY P w K mg base CT CY CIy
theorem takes_len {X : Cx} {W : WX} (tk : Takes X W) : Takes X (fun cls d σ H => σ.length = X.N.length → W cls d σ H) := fun u s' x => by
  obtain ⟨a, B, sI, pins, σ, H, cls, d, e, I, nb, up, sky, na, os, ag, w⟩ := x
  exact tk u s' ⟨a, B, sI, pins, σ, H, cls, d, e, I, nb, up, sky, na, os, ag, w I.len⟩
def Few3 (ws : List Str) : Prop := ws.length ≤ 10 ∧ ∀ z ∈ ws, z.length ≤ 1000
theorem few3_one {x : Str} (h : x.length ≤ 1000) : Few3 [x] := ⟨(by show 1 ≤ 10; decide), fun y hy => by rw [List.mem_singleton.mp hy]; exact h⟩
theorem few3_two {x y : Str} (h : x.length ≤ 1000) (h' : y.length ≤ 1000) : Few3 [x, y] := ⟨(by show 2 ≤ 10; decide), fun z hz => by
  rcases List.mem_cons.mp hz with rfl | q
  · exact h
  · rw [List.mem_singleton.mp q]
    exact h'⟩
theorem hd3 {w : Str} {l ws : List Str} (hw : w.length ≤ 1000) (hl : ∀ x ∈ l, x.length ≤ 1000) (h : hd1 w l = some ws) : Few3 ws := by
  cases l with
  | nil => cases h
  | cons x l =>
    cases h
    exact few3_two hw (hl x (List.mem_cons_self ..))
theorem unmet3 {ss : List (Str × St3)} {qs : List (Str × Int)} (h : ∀ q ∈ qs, q.1.length ≤ 1000) : ∀ x ∈ unmet ss qs, x.length ≤ 1000 := fun x hx => by
  unfold unmet at hx
  obtain ⟨q, hq, rfl⟩ := List.mem_map.mp hx
  exact h q (List.mem_filter.mp hq).1
theorem why_sm {es : List Edn} {ss : List (Str × St3)} {d : Deed} {ws : List Str} (hn : ∀ n ∈ ss.map (·.1), n.length ≤ 1000) (he : ∀ e ∈ es, (∀ q ∈ e.nee, q.1.length ≤ 1000) ∧ ∀ q ∈ e.fir, q.1.length ≤ 1000) (h : refuseW es ss d = some ws) : Few3 ws := by
  have fil : ∀ p : Str → Bool, ∀ x ∈ (ss.map (·.1)).filter p, x.length ≤ 1000 := fun p x hx => hn x (List.mem_filter.mp hx).1
  have mem : ∀ {k : Kk} {e : Edn}, edAt es k = some e → e ∈ es := fun h => List.mem_of_find?_eq_some h
  unfold refuseW at h
  split at h
  · unfold unpackW at h
    split at h
    · cases h
      exact few3_one (by decide)
    · rename_i e he'
      have hx := mem he'
      split at h
      · cases h
      · split at h
        · cases h
          exact few3_one (by decide)
        · split at h
          · rename_i y l hy
            cases h
            exact few3_two (by decide) (unmet3 (he e hx).2 y (by rw [hy]; exact List.mem_cons_self ..))
          · exact hd3 (by decide) (fil _) h
  · split at h
    · split at h
      · unfold setupW at h
        split at h
        · cases h
        · split at h
          · split at h
            · rename_i e he'
              exact hd3 (by decide) (unmet3 (he e (mem he')).1) h
            · cases h
          · cases h
            exact few3_one (by decide)
      · split at h
        · unfold removeW at h
          split at h
          · exact hd3 (by decide) (fil _) h
          · cases h
            exact few3_one (by decide)
        · unfold purgeW at h
          split at h
          · cases h
          · split at h
            · cases h
            · cases h
              exact few3_one (by decide)
    · cases h
      exact few3_one (by decide)
theorem wr_lib : wrongAt [(("lib" : Str), (1 : Int))] = none := by decide +kernel
theorem nl_len : ("\n" : Str).length = 1 := by decide
theorem spl_ok (S : List Nat) : ∀ (l : List Nat) (k : Nat) (acc : List Nat), TL.spl S k acc l ≠ [] ∧ (TL.spl S k acc l).length ≤ l.length + 1 ∧ ∀ p ∈ TL.spl S k acc l, p.length ≤ acc.length + l.length
  | [], k, acc => by
    rw [TL.spl_nil]
    exact ⟨by simp, Nat.le_refl _, fun p hp => by rw [List.mem_singleton.mp hp]; exact Nat.le_refl _⟩
  | c :: r, 0, acc => by
    cases h : TL.pre S (c :: r) with
    | true =>
      rw [TL.spl_hit h]
      obtain ⟨_, b, d⟩ := spl_ok S r (S.length - 1) []
      refine ⟨by simp, by rw [List.length_cons, List.length_cons]; omega, fun p hp => ?_⟩
      rcases List.mem_cons.mp hp with z | z
      · rw [z]; omega
      · have := d p z
        rw [List.length_nil] at this
        rw [List.length_cons]
        omega
    | false =>
      rw [TL.spl_miss h]
      obtain ⟨a, b, d⟩ := spl_ok S r 0 (acc ++ [c])
      refine ⟨a, by rw [List.length_cons]; omega, fun p hp => ?_⟩
      have := d p hp
      rw [List.length_append, List.length_singleton] at this
      rw [List.length_cons]
      omega
  | c :: r, k + 1, acc => by
    obtain ⟨a, b, d⟩ := spl_ok S r k acc
    have e : TL.spl S (k + 1) acc (c :: r) = TL.spl S k acc r := by first | rfl | simp [TL.spl]
    rw [e]
    refine ⟨a, by rw [List.length_cons]; omega, fun p hp => ?_⟩
    have := d p hp
    rw [List.length_cons]
    omega
theorem spS_ok {z : Str} (h : z.length ≤ 50) : RwOk (spS z) := by
  obtain ⟨a, b, d⟩ := spl_ok [32] (TL.tl z) 0 []
  have e : (TL.tl z).length = z.length := (TL.len_tl z).symm
  unfold spS
  refine ⟨fun q => a (List.map_eq_nil_iff.mp q), by rw [List.length_map]; omega, fun y hy => ?_⟩
  obtain ⟨p, hp, rfl⟩ := List.mem_map.mp hy
  have := d p hp
  rw [List.length_nil] at this
  show p.toArray.size ≤ 1000
  rw [List.size_toArray]
  omega
theorem lines_ok {ls : List Str} (h : okLs ls = true) : ls.length ≤ 400 ∧ (∀ z ∈ ls, z.length ≤ 50) ∧ (ls.map (·.length)).sum ≤ 400 * 50 := by
  unfold okLs at h
  simp only [Bool.and_eq_true] at h
  obtain ⟨⟨h1, h2⟩, h3⟩ := h
  have l1 : ls.length ≤ 400 := of_decide_eq_true h1
  have l2 : ∀ z ∈ ls, z.length ≤ 50 := fun z m => by
    have := List.all_eq_true.mp h3 z m
    rw [Bool.and_eq_true] at this
    exact of_decide_eq_true this.1
  refine ⟨l1, l2, ?_⟩
  have : ∀ l : List Str, (∀ z ∈ l, z.length ≤ 50) → (l.map (·.length)).sum ≤ l.length * 50 := by
    intro l
    induction l with
    | nil => intro _; decide
    | cons z l ih =>
      intro k
      have a := ih fun y m => k y (.tail _ m)
      have b := k z (.head _)
      rw [List.map_cons, List.sum_cons, List.length_cons]
      omega
  have := this ls l2
  omega
theorem no_nl {ls : List Str} (h : okLs ls = true) : ls ≠ [] ∧ ∀ z ∈ ls, 10 ∉ TL.tl z := by
  unfold okLs at h
  simp only [Bool.and_eq_true] at h
  obtain ⟨⟨h1, h2⟩, h3⟩ := h
  refine ⟨fun e => (by rw [e] at h2; cases h2), fun z m q => ?_⟩
  have := List.all_eq_true.mp h3 z m
  rw [Bool.and_eq_true, decide_eq_true q] at this
  exact absurd this.2 (by decide)
theorem split_nl {ls : List Str} (h : okLs ls = true) : Txt.split (Txt.join "\n" ls) "\n" = ls :=
  TL.split_join (s := 10) (S := []) (by decide) (by decide +kernel) (no_nl h).1 (no_nl h).2
theorem rows_join {ls : List Str} (h : okLs ls = true) : rowsOf (Txt.join "\n" ls) = ls.map spS := by
  have hs := split_nl h
  have hl : (Txt.join "\n" ls).length ≠ 0 := fun e => by
    have e1 : TL.tl (Txt.join "\n" ls) = [] := List.eq_nil_of_length_eq_zero (by rw [← TL.len_tl]; exact e)
    have e2 := TL.split_spl (Txt.join "\n" ls) "\n" (by decide) (TL.kind_ok (by decide +kernel))
    rw [hs, e1, TL.spl_nil] at e2
    unfold okLs at h
    simp only [Bool.and_eq_true] at h
    obtain ⟨⟨h1, h2⟩, h3⟩ := h
    obtain ⟨z, hz, q⟩ := List.any_eq_true.mp h2
    have m : TL.tl z ∈ ls.map TL.tl := List.mem_map.mpr ⟨z, hz, rfl⟩
    rw [e2] at m
    have := of_decide_eq_true q
    rw [TL.len_tl, List.mem_singleton.mp m] at this
    exact absurd this (by decide)
  unfold rowsOf
  rw [if_neg hl, hs]
  exact List.map_congr_left fun z _ => split_sp z
theorem joinL_len (S : List Nat) : ∀ l : List (List Nat), (TL.joinL S l).length ≤ (l.map List.length).sum + l.length * S.length
  | [] => Nat.zero_le _
  | [p] => by
    show p.length ≤ _
    simp
  | p :: q :: r => by
    have := joinL_len S (q :: r)
    show (p ++ (S ++ TL.joinL S (q :: r))).length ≤ _
    rw [List.length_append, List.length_append, List.map_cons, List.sum_cons, List.length_cons, Nat.add_mul]
    omega
theorem line_ok {ls : List Str} (h : okLs ls = true) : LineOk (Txt.join "\n" ls) := by
  obtain ⟨a1, a2, a3⟩ := lines_ok h
  have hs := split_nl h
  refine ⟨?_, by rw [hs]; omega, fun r hr => by rw [hs] at hr; have := a2 r hr; omega⟩
  have e := joinL_len (TL.tl ("\n" : Str)) (ls.map TL.tl)
  rw [TL.len_tl, TL.join_eq, TL.tl_join]
  have e1 : (TL.tl ("\n" : Str)).length = 1 := by decide
  have e2 : ((ls.map TL.tl).map List.length) = ls.map (·.length) := by
    rw [List.map_map]
    exact List.map_congr_left fun z _ => (TL.len_tl z).symm
  rw [e1, e2, List.length_map] at e
  omega
theorem isNm_lib : IsNm (keysOf (Es.eds [((x : Addr), libE)])) ["lib"] := ⟨by decide, List.pairwise_singleton .., fun z => by show z ∈ [("lib" : Str)] ↔ z ∈ [("lib" : Str)]; exact Iff.rfl⟩
abbrev FltN : List Str := ["_law_lines", "_law_system", "e"]
section
variable {P : Program} {w : World} {K : PySem.W.Frag} {mg : Str → Option Value} {base : Heap} {C CT CY CI CIy CEd CE CU CL : Addr}
theorem scFlt : FnScope FltN ["_law_lines"] (defScope sFlt) := ⟨rfl, rfl, rfl, by decide +kernel, rfl, by decide +kernel, by decide +kernel⟩
theorem ok_flt {f : Addr} {fd : FuncData} (F : Fun K "_law_fault" "_law_fault" sFlt f fd) (T : FltT P w K mg base C CT CY CI CIy CEd CE CU CL) (dR : DefX P w K mg base 21 "run_script" ["system", "text"] (spRsc K C CT CY CE CU CL)) : FnOk P w K mg base CX0 22 f fd ["_law_lines"] (spFlt K) := by
  refine F.ok scFlt (fun vs H Q E h => ?_) (fun cdv A outer s H vs Q E hr h => ?_)
  · obtain ⟨l, ls, rfl, _⟩ := h
    rfl
  · obtain ⟨l, ls, rfl, hl, hok, k⟩ := h
    have nd := scFlt.nd
    have r5 : Room 5 _ := hr.mono (by decide)
    have r7 : Room 7 _ := hr.mono (by decide)
    obtain ⟨fe, fde, aS, z1, z2, z3, EI⟩ := T.ei
    obtain ⟨ds, hds, hb0⟩ := EI.b0
    obtain ⟨fs, fds, Fs, Ms, bs, gSt⟩ := T.si
    obtain ⟨CS, gS⟩ := T.gS
    refine ⟨_, pss_cons (ps_set (i := 1) nd rfl (Or.inl rfl) (pe_mkY T.my r5 rfl passL (pa_cons (pe_make Ms Fs r5 rfl gSt bs .nil passL (pa_cons (pe_tup (pa_cons (pe_make EI.make EI.ok r7 rfl EI.mgC hb0 hds passL (pa_cons pe_str (pa_cons pe_int pa_nil))) pa_nil)) pa_nil)) (pa_cons pe_dnewK pa_nil))))
      (pss_cons (ps_try_clauses (tb := fun W D σ H => tDrop (tCall (spRsc K C CT CY CE CU CL) [] (fun cls d H' => ∀ σ' : L2.St, σ'.length = 3 → W cls d σ' H') (tCons (tVar 1) (tCons (tM1 (fun x xs H Q => ∃ a p, ∃ ys : List Str, x = .str a ∧ xs = [.ref p] ∧ (SqL K H p (ys.map V.str) ∨ SqT K H p (ys.map V.str)) ∧ (ys.map (·.length)).sum + ys.length * a.length ≤ 16777216 ∧ Q (.str (Txt.join a ys)) H) (tC (.str "\n")) (tVar 0)) tNil))) D σ H) rfl rfl nd LamX.takes0
        (fun W pn xe tk _ => pss_one (ps_expr (pe_defX dR hr rfl (passes_call (takes_len tk) (fun _ _ σ' _ h hl => h σ' hl)) (pa_cons (pv 1) (pa_cons (pe_join pe_str (pv 0)) pa_nil)))))
        (.named (i := 2) ⟨rfl, by decide, .inl T.gE⟩ rfl rfl (fun a oe cls d pn hz hf => pss_one (ps_ret (pe_tup (pa_cons (pe_xf T.xE T.nE hz hf (pv 2)) (pa_cons pe_str pa_nil)))))
        (.named (i := 2) ⟨rfl, by decide, .inl T.gU⟩ rfl rfl (fun a oe cls d pn hz hf => pss_one (ps_ret (pe_tup (pa_cons (pe_xf T.xU T.nU hz hf (pv 2)) (pa_cons pe_str pa_nil)))))
        (.bare ⟨rfl, by decide, .inl T.gL⟩ (fun a oe cls d pn hz hf => pss_one (ps_ret pe_str))
        (.bare ⟨rfl, by decide, .inl gS⟩ (fun a oe cls d pn hz hf => pss_one (ps_ret pe_str)) .nil)))))
      (pss_one (ps_ret pe_non))), ?_⟩
    refine fun x dx nx ndx nxx => mk_read (e := edP "lib" 1) nx ndx ⟨EI.tS _, .nil (EI.t1 _), .nil (EI.t2 _), EI.t3 _⟩ (edP_small (by decide)) (edP_ok (by decide +kernel) (by decide) (by decide)) (fun H1 s1 ho1 => ?_)
    refine ⟨(by show 1 ≤ sizeLine; decide), fun t nt => ?_⟩
    have st1 := Same.upd_new (o := .tup [.ref x]) nt
    have gt : SqT K (upd H1 t (.tup [.ref x])) t [.ref x] := SqT.of upd_same
    have ho2 := ho1.same st1
    generalize upd H1 t (.tup [.ref x]) = H2 at st1 gt ho2 ⊢
    have S2 := s1.trans st1
    refine fun x2 dx2 nx2 ndx2 nxx2 => ?_
    have s2 := mk_same (C := CT) nx2 ndx2
    have hK : EdK C H2 x ("lib", 1) := by
      obtain ⟨dz, pz, g1, g2⟩ := ho2.ob
      exact ⟨dz, pz, _, g1, g2⟩
    refine ⟨x2, t, dx2, [(x, ("lib", 1))], rfl, upd_same, ⟨s2.sqT gt, fun e he => by rw [List.mem_singleton.mp he]; exact hK.same s2⟩, (by show 1 ≤ 40; decide), fun _ H3 b3 ho3 => ⟨rfl, ?_⟩, fun i hi => by rw [show wrongAt (keysOf [(x, ("lib", 1))]) = none from wr_lib] at hi; cases hi⟩
    have S23 : Same H2 H3 := fun b o q => b3 _ _ (ne_of_none q nx2) (s2 _ _ q)
    have S3 := S2.trans S23
    refine fun d nd' => ?_
    have s4 := Same.upd_new (o := .dK []) nd'
    have gd : (upd H3 d (.dK [])) d = some (.dK []) := upd_same
    have ho4 := ho3.same s4
    generalize upd H3 d (.dK []) = H4 at s4 gd ho4 ⊢
    refine fun y dy ny ndy nyy => mkY_read ny ndy ho4 (by show 1 ≤ 40; decide) gd .nil (by decide) (fun _ ns H5 hn s5 hs => ?_) (fun n a1 _ _ => nomatch a1)
    have ens : ns = [("lib" : Str)] := hn.uniq isNm_lib
    subst ens
    have S5 := S3.trans (s4.trans s5)
    have hX : EdX K H5 C x libE := ⟨_, _, _, _, (ho2.same S23).same (s4.trans s5)⟩
    have hY : SysOk K C CT CY H5 y x2 libS [(x, libE)] := ⟨hs, ho4.same s5, fun e he => by rw [List.mem_singleton.mp he]; exact hX, isNm_lib, fun p hp => by rw [List.mem_singleton.mp hp]; rfl, (by show 1 ≤ 40; decide)⟩
    have eG : EsG [(x, libE)] := ⟨fun e he => by rw [List.mem_singleton.mp he]; exact ⟨Nat.zero_le _, Nat.zero_le _⟩, fun k hk => by rw [List.mem_singleton.mp hk]; exact ⟨(by show (0 : Int) ≤ 1; decide), (by show (1 : Int) ≤ 1000; decide)⟩, fun ss d hm ws hw => why_sm (fun n hn' => ?_) (fun e he => by rw [List.mem_singleton.mp he]; exact ⟨fun _ z => (nomatch z), fun _ z => (nomatch z)⟩) hw⟩
    · obtain ⟨a1, a2, a3⟩ := lines_ok hok
      have hl5 := S5.seq hl
      have eR : rowsOf (Txt.join "\n" ls) = ls.map spS := rows_join hok
      refine ⟨_, rfl, ⟨_, rfl⟩, _, rfl, "\n", l, ls, rfl, rfl, .inl hl5, by rw [nl_len]; omega, ?_⟩
      refine ⟨y, x2, _, libS, [(x, libE)], rfl, hY, eG, line_ok hok, by rw [eR, List.length_map]; omega, fun r hr' => ?_, ?_⟩
      · rw [eR] at hr'
        obtain ⟨z, hz, rfl⟩ := List.mem_map.mp hr'
        exact spS_ok (a2 z hz)
      · rw [eR]
        have ef : fltM ls = fltOf (scrM [libE] libS (ls.map spS)) := rfl
        have el : [(x, libE)].map (·.2) = [libE] := rfl
        rw [el]
        rw [ef] at k
        generalize scrM [libE] libS (ls.map spS) = res at k
        have len3 : ∀ σ' : L2.St, σ'.length = 3 → ∃ x0 x1 x2, σ' = [x0, x1, x2] := fun σ' hl => by
          match σ', hl with
          | [x0, x1, x2], _ => exact ⟨x0, x1, x2, rfl⟩
        cases res with
        | ok s' =>
          intro H6 p y' o s6 _ _ _
          exact k _ _ (S5.trans s6) rfl
        | bad p =>
          intro H6 dd s6 hd σ' hσ
          obtain ⟨x0, x1, x3, rfl⟩ := len3 σ' hσ
          refine ⟨true, T.ee, fun _ a2 ha2 => ?_, fun z => nomatch z⟩
          refine ⟨_, rfl, rfl, rfl, dd, _, _, rfl, hd, rfl, two_le, fun q nq => ?_⟩
          exact k _ _ (S5.trans (s6.trans (Same.upd_new nq))) ⟨q, rfl, SqT.of upd_same⟩
        | unk p =>
          intro H6 dd s6 hd σ' hσ
          obtain ⟨x0, x1, x3, rfl⟩ := len3 σ' hσ
          refine ⟨false, T.ue, fun z => (nomatch z), fun _ => ⟨true, T.uu, fun _ a2 ha2 => ?_, fun z => nomatch z⟩⟩
          refine ⟨_, rfl, rfl, rfl, dd, _, _, rfl, hd, rfl, two_le, fun q nq => ?_⟩
          exact k _ _ (S5.trans (s6.trans (Same.upd_new nq))) ⟨q, rfl, SqT.of upd_same⟩
        | long =>
          intro H6 s6 σ' hσ
          refine ⟨false, T.le, fun z => (nomatch z), fun _ => ⟨false, T.lu, fun z => (nomatch z), fun _ => ⟨true, T.ll, fun _ a2 ha2 => ?_, fun z => nomatch z⟩⟩⟩
          exact k _ _ (S5.trans s6) rfl
    · have : n ∈ [("lib" : Str)] := (IsNm.uniq hm isNm_lib) ▸ hn'
      rw [List.mem_singleton.mp this]
      decide
end
end Half

namespace Half
open PySem PySem.Spec PyProof.Rows L2
/-! ### what becomes of the law's rows -/
def GOOD : List Str := ["fail 0 2", "unpack lib 1", "repeat 2", "setup lib", "when lib ready", "show lib", "end", "end", "show app"]
def WR1 : List Str := ["unpack lib", "unpack lib x", "unpack Lib 1", "setup", "setup lib 1", "purge 3"]
def WR2 : List Str := ["fail 2 1", "fail 1 1"]
def WR3 : List Str := ["fail x", "fail 01", "fail 100", "fail  1", "show", "repeat x", "when lib", "when lib up", ""]
def WR4 : List Str := ["ends", "end 1", " show lib", "repeat 2 3", "install lib 1", "unpack lib 100", "remove lib "]
def WRS : List Str := WR1 ++ WR2 ++ WR3 ++ WR4
theorem f_good : fltM GOOD = .package 8 := by decide +kernel
theorem f_good8 : fltM (GOOD.take 8) = .non := by decide +kernel
theorem f_end : ∀ k < 3, fltM (GOOD.take k ++ [("end" : Str)] ++ (GOOD.take 8).drop k) = .script k := by decide +kernel
theorem f_cut : ∀ k < 4, fltM (GOOD.take (3 + k)) = .script (3 + k) := by decide +kernel
theorem f_app : fltM ["when app ready", "end"] = .package 0 := by decide +kernel
theorem f_two : fltM ["setup app", "purge app"] = .non := by decide +kernel
theorem f_wrong : ∀ k < 9, ∀ z ∈ WRS, fltM (GOOD.take k ++ [z] ++ GOOD.drop k) = .script k := by decide +kernel
theorem f_many : ∀ k < 10, fltM (List.replicate (55 + k) "show lib") = if 60 < 55 + k then .script 60 else .non := by decide +kernel
def PK : List Str := ["repeat 1", "when lib absent"]
def pks : Nat → List (List Str)
  | 0 => [[]]
  | n + 1 => (pks n).flatMap fun l => PK.map fun z => z :: l
theorem pks_mem : ∀ {n : Nat} {l : List Str}, l.length = n → (∀ z ∈ l, z ∈ PK) → l ∈ pks n
  | 0, [], _, _ => .head _
  | n + 1, z :: l, h, k => List.mem_flatMap.mpr ⟨l, pks_mem (by rw [List.length_cons] at h; omega) fun y m => k y (.tail _ m), List.mem_map.mpr ⟨z, k z (.head _), rfl⟩⟩
theorem f_depth : ∀ k < 5, ∀ l ∈ pks (1 + k), fltM (l ++ [("fail" : Str)] ++ List.replicate (1 + k) ("end" : Str)) = if 4 < 1 + k then .script 4 else .non := by decide +kernel
def rep (n : Nat) : Str := ("repeat " : Str) ++ Str.ofString (toString ((n : Nat) : Int))
def TWO : List Str := ["repeat 74", "fail", "show lib", "fail", "end", "fail", "fail", "fail"]
theorem f_long : ∀ k < 99, fltM [rep (1 + k), "fail", "show lib", "fail", "end"] = if 300 < 1 + 4 * (1 + k) then .long else .non := by decide +kernel
theorem f_two8 : fltM TWO = .non := by decide +kernel
theorem f_two9 : fltM (TWO ++ [("fail" : Str)]) = .long := by decide +kernel
theorem o_good : okLs GOOD = true := by decide +kernel
theorem o_good8 : okLs (GOOD.take 8) = true := by decide +kernel
theorem o_wrong : ∀ k < 9, ∀ z ∈ WRS, okLs (GOOD.take k ++ [z] ++ GOOD.drop k) = true := by decide +kernel
theorem o_end : ∀ k < 3, okLs (GOOD.take k ++ [("end" : Str)] ++ (GOOD.take 8).drop k) = true := by decide +kernel
theorem o_cut : ∀ k < 4, okLs (GOOD.take (3 + k)) = true := by decide +kernel
theorem o_app : okLs ["when app ready", "end"] = true := by decide +kernel
theorem o_two : okLs ["setup app", "purge app"] = true := by decide +kernel
theorem o_many : ∀ k < 10, okLs (List.replicate (55 + k) "show lib") = true := by decide +kernel
theorem o_depth : ∀ k < 5, ∀ l ∈ pks (1 + k), okLs (l ++ [("fail" : Str)] ++ List.replicate (1 + k) ("end" : Str)) = true := by decide +kernel
theorem o_long : ∀ k < 99, okLs [rep (1 + k), "fail", "show lib", "fail", "end"] = true := by decide +kernel
theorem o_two8 : okLs TWO = true := by decide +kernel
theorem o_two9 : okLs (TWO ++ [("fail" : Str)]) = true := by decide +kernel
end Half

namespace Half
open PySem PySem.Spec PyProof.Rows L2
/-! ### _law_are_long -/
abbrev sAl : Stmt := top 89
def fltD : Flt → PyData
  | .non => .none
  | .script p => .tuple [.int (p : Nat), .str "script"]
  | .package p => .tuple [.int (p : Nat), .str "package"]
  | .long => .str "long"
theorem FltV.data {K : PySem.W.Frag} {H : Hp} {v : V} : ∀ {f : Flt}, FltV K H v f → Dp K H v (fltD f)
  | .non, h => by cases h; exact .non
  | .script p, ⟨t, e, h⟩ => by cases e; exact .tup h (.cons (.int _) (.cons (.str _) .nil))
  | .package p, ⟨t, e, h⟩ => by cases e; exact .tup h (.cons (.int _) (.cons (.str _) .nil))
  | .long, h => by cases h; exact .str _
theorem flt_shaped (f : Flt) : SeqAt.shaped (fltD f) = true := by
  have a1 : PyData.strOk "script" = true := by decide +kernel
  have a2 : PyData.strOk "package" = true := by decide +kernel
  cases f with
  | non => decide +kernel
  | script p => simp [SeqAt.shaped, fltD, PyData.canLay0, PyData.canLayAll0, PyData.depth, PyData.depthAll, a1]
  | package p => simp [SeqAt.shaped, fltD, PyData.canLay0, PyData.canLayAll0, PyData.depth, PyData.depthAll, a2]
  | long => decide +kernel
theorem eqv_self {d : PyData} (h : SeqAt.shaped d = true) : (!PyData.eqv d d) = false := by
  rw [SeqAt.eqv_refl _ (SeqAt.canLay_of_shaped h)]
  rfl
theorem mul_ok {k : Nat} (h : k < 99) : CMul 4 ((1 + k : Nat) : Int) := by
  unfold CMul
  first | omega | (constructor <;> omega) | trivial
def spAl : Sp := fun vs H Q _ => ∃ k : Nat, vs = [.int ((1 + k : Nat) : Int)] ∧ k < 99 ∧ ∀ H', Same H H' → Q (.bl true) H'
structure TxtAl (mg : Str → Option Value) : Prop where
  str : mg "str" = none
abbrev AlN : List Str := ["_law_times", "_law_due", "_law_lines"]
section
variable {P : Program} {w : World} {K : PySem.W.Frag} {mg : Str → Option Value} {base : Heap}
theorem scAl : FnScope AlN ["_law_times"] (defScope sAl) := ⟨rfl, rfl, rfl, by decide +kernel, rfl, by decide +kernel, by decide +kernel⟩
theorem ok_al {f : Addr} {fd : FuncData} (F : Fun K "_law_are_long" "_law_are_long" sAl f fd) (gS : mg "str" = none) (dF : Def P w K mg base 22 "_law_fault" ["_law_lines"] (spFlt K)) : FnOk P w K mg base CX0 23 f fd ["_law_times"] spAl := by
  refine F.ok scAl (fun vs H Q E h => ?_) (fun cdv A outer s H vs Q E hr h => ?_)
  · obtain ⟨k, rfl, _⟩ := h
    rfl
  · obtain ⟨k, rfl, hk, q⟩ := h
    have nd := scAl.nd
    refine ⟨_, pss_cons (ps_set (i := 1) nd rfl (Or.inl rfl) (pe_ifExp (pt_cmpR op_gt (pe_op op_add pe_int (pe_op op_mul pe_int (pv 0))) pe_int (nomark _)) pe_str pe_non))
      (pss_cons (ps_if (pt_cmpR (op_neD hr.units) (pe_def dF hr rfl (pa_cons (pe_lst (pa_cons (pe_op op_add_str pe_str (pe_callTy call_str_int (by rfl) gS (by decide +kernel) (pa_cons (pv 0) pa_nil))) (pa_cons pe_str (pa_cons pe_str (pa_cons pe_str (pa_cons pe_str pa_nil)))))) pa_nil)) (pv 1) (nomark _)) (pss_one (ps_ret pe_bl)) pss_nil)
      (pss_cons (ps_set (i := 2) nd rfl (Or.inl rfl) (pe_lst (pa_cons pe_str (pa_cons pe_str (pa_cons pe_str (pa_cons pe_str (pa_cons pe_str (pa_cons pe_str (pa_cons pe_str (pa_cons pe_str pa_nil))))))))))
      (pss_one (ps_ret (pe_and (pe_cmp (pc_isN (pe_def dF hr rfl (pa_cons (pv 2) pa_nil)))) (pe_one (pe_cmpR (op_eqD hr.units) (pe_def dF hr rfl (pa_cons (pe_op op_cat (pv 2) (pe_lst (pa_cons pe_str pa_nil))) pa_nil)) pe_str (nomark _)))))))), ?_⟩
    refine ⟨_, rfl, _, _, rfl, rfl, mul_ok hk, _, _, rfl, rfl, _, _, rfl, rfl, _, rfl, ?_⟩
    refine ite2 (fun c => ?_) (fun c => ?_)
    · have hv : ∀ H, FltV K H (.str "long") (if 300 < 1 + 4 * (1 + k) then .long else .non) := fun H => by
        have := of_decide_eq_true c
        rw [if_pos (by omega)]
        rfl
      obtain ⟨l1, l2⟩ := small_text (1 + k) (by omega)
      refine ⟨_, rfl, _, rfl, l2, _, _, rfl, rfl, ?_, (by show 5 ≤ sizeLine; decide), fun p np => ?_⟩
      · have e : ("repeat " : Str).length = 7 := by decide
        have : (Str.ofString (toString ((1 + k : Nat) : Int))).length ≤ 10 := l1
        rw [sizeLine_eq, e]
        omega
      have s1 := Same.upd_new (o := .lst ([rep (1 + k), "fail", "show lib", "fail", "end"].map V.str)) np
      refine ⟨p, [rep (1 + k), "fail", "show lib", "fail", "end"], rfl, SqL.of upd_same, o_long k hk, fun H2 v2 s2 hv2 => ?_⟩
      rw [f_long k hk] at hv2
      have S2 := s1.trans s2
      refine ⟨_, rfl, _, _, hv2.data, (hv H2).data, flt_shaped _, flt_shaped _, _, rfl, ite_no (eqv_self (flt_shaped _)) ?_⟩
      refine ⟨(by show 8 ≤ sizeLine; decide), fun p3 np3 => ?_⟩
      have s3 := Same.upd_new (o := .lst (TWO.map V.str)) np3
      have g3 : (upd H2 p3 (.lst (TWO.map V.str))) p3 = some (.lst (TWO.map V.str)) := upd_same
      have S3 := S2.trans s3
      have ep : (HO.lst [V.str "repeat 74", V.str "fail", V.str "show lib", V.str "fail", V.str "end", V.str "fail", V.str "fail", V.str "fail"]) = .lst (TWO.map V.str) := rfl
      rw [ep]
      generalize upd H2 p3 (.lst (TWO.map V.str)) = H3 at s3 g3 S3 ⊢
      refine ⟨_, rfl, p3, TWO, rfl, SqL.of g3, o_two8, fun H4 v4 s4 hv4 => ?_⟩
      rw [f_two8] at hv4
      cases hv4
      refine ⟨_, rfl, ite_yes rfl ?_⟩
      have g4 := s4 _ _ g3
      refine ⟨_, rfl, (by show 1 ≤ sizeLine; decide), fun p5 np5 => ?_⟩
      have s5 := Same.upd_new (o := .lst [.str "fail"]) np5
      have g5 : (upd H4 p5 (.lst [.str "fail"])) p5 = some (.lst [.str "fail"]) := upd_same
      have g45 := s5 _ _ g4
      have S5 := S3.trans (s4.trans s5)
      generalize upd H4 p5 (.lst [.str "fail"]) = H5 at s5 g5 g45 S5 ⊢
      refine ⟨p3, p5, _, _, rfl, rfl, g45, g5, (by show 9 ≤ sizeLine; decide), fun p6 np6 => ?_⟩
      have s6 := Same.upd_new (o := .lst (TWO.map V.str ++ [.str "fail"])) np6
      refine ⟨p6, TWO ++ [("fail" : Str)], rfl, SqL.of (by rw [upd_same, List.map_append]; rfl), o_two9, fun H7 v7 s7 hv7 => ?_⟩
      rw [f_two9] at hv7
      cases hv7
      refine ⟨.str "long", .str "long", .str _, .str _, by decide +kernel, by decide +kernel, ?_⟩
      have e : PyData.eqv (.str "long") (.str "long") = true := by decide +kernel
      rw [e]
      exact q _ (S5.trans (s6.trans s7))
    · have hv : ∀ H, FltV K H .non (if 300 < 1 + 4 * (1 + k) then .long else .non) := fun H => by
        have c' : ¬ ((300 : Int) < 1 + 4 * ((1 + k : Nat) : Int)) := fun z => c (decide_eq_true z)
        rw [if_neg (by omega)]
        rfl
      obtain ⟨l1, l2⟩ := small_text (1 + k) (by omega)
      refine ⟨_, rfl, _, rfl, l2, _, _, rfl, rfl, ?_, (by show 5 ≤ sizeLine; decide), fun p np => ?_⟩
      · have e : ("repeat " : Str).length = 7 := by decide
        have : (Str.ofString (toString ((1 + k : Nat) : Int))).length ≤ 10 := l1
        rw [sizeLine_eq, e]
        omega
      have s1 := Same.upd_new (o := .lst ([rep (1 + k), "fail", "show lib", "fail", "end"].map V.str)) np
      refine ⟨p, [rep (1 + k), "fail", "show lib", "fail", "end"], rfl, SqL.of upd_same, o_long k hk, fun H2 v2 s2 hv2 => ?_⟩
      rw [f_long k hk] at hv2
      have S2 := s1.trans s2
      refine ⟨_, rfl, _, _, hv2.data, (hv H2).data, flt_shaped _, flt_shaped _, _, rfl, ite_no (eqv_self (flt_shaped _)) ?_⟩
      refine ⟨(by show 8 ≤ sizeLine; decide), fun p3 np3 => ?_⟩
      have s3 := Same.upd_new (o := .lst (TWO.map V.str)) np3
      have g3 : (upd H2 p3 (.lst (TWO.map V.str))) p3 = some (.lst (TWO.map V.str)) := upd_same
      have S3 := S2.trans s3
      have ep : (HO.lst [V.str "repeat 74", V.str "fail", V.str "show lib", V.str "fail", V.str "end", V.str "fail", V.str "fail", V.str "fail"]) = .lst (TWO.map V.str) := rfl
      rw [ep]
      generalize upd H2 p3 (.lst (TWO.map V.str)) = H3 at s3 g3 S3 ⊢
      refine ⟨_, rfl, p3, TWO, rfl, SqL.of g3, o_two8, fun H4 v4 s4 hv4 => ?_⟩
      rw [f_two8] at hv4
      cases hv4
      refine ⟨_, rfl, ite_yes rfl ?_⟩
      have g4 := s4 _ _ g3
      refine ⟨_, rfl, (by show 1 ≤ sizeLine; decide), fun p5 np5 => ?_⟩
      have s5 := Same.upd_new (o := .lst [.str "fail"]) np5
      have g5 : (upd H4 p5 (.lst [.str "fail"])) p5 = some (.lst [.str "fail"]) := upd_same
      have g45 := s5 _ _ g4
      have S5 := S3.trans (s4.trans s5)
      generalize upd H4 p5 (.lst [.str "fail"]) = H5 at s5 g5 g45 S5 ⊢
      refine ⟨p3, p5, _, _, rfl, rfl, g45, g5, (by show 9 ≤ sizeLine; decide), fun p6 np6 => ?_⟩
      have s6 := Same.upd_new (o := .lst (TWO.map V.str ++ [.str "fail"])) np6
      refine ⟨p6, TWO ++ [("fail" : Str)], rfl, SqL.of (by rw [upd_same, List.map_append]; rfl), o_two9, fun H7 v7 s7 hv7 => ?_⟩
      rw [f_two9] at hv7
      cases hv7
      refine ⟨.str "long", .str "long", .str _, .str _, by decide +kernel, by decide +kernel, ?_⟩
      have e : PyData.eqv (.str "long") (.str "long") = true := by decide +kernel
      rw [e]
      exact q _ (S5.trans (s6.trans s7))
end
end Half

namespace Half
open PySem PySem.Spec PyProof.Rows L2
/-! ### the law -/
abbrev sLaw : Stmt := top 90
abbrev LawN : List Str := ["_law_script", "_law_row", "_law_good", "_law_wrong", "_law_k", "_law_depth", "_law_lines", "_law_many", "_law_turn", "_law_j"]
theorem scLaw : FnScope LawN ["_law_script"] (defScope sLaw) := ⟨rfl, rfl, rfl, by decide +kernel, rfl, by decide +kernel, by decide +kernel⟩
def nthS (ss : List Stmt) (i : Nat) : Stmt := ss.getD i (.Pass ⟨0, 0, 0, 0⟩)
abbrev tBody : List Stmt := forBody (nthS (defBody sLaw) 3)
theorem cutT {xs : List V} {k : Int} {m : Nat} (h : k = m) (hm : m ≤ xs.length) : cutV xs none (some k) = xs.take m := by
  subst h
  unfold cutV
  rw [HT.sIx_nat, HT.sIx_none, List.drop_zero, Nat.sub_zero, Nat.min_eq_left hm]
theorem cutD {xs : List V} {k : Int} {m : Nat} (h : k = m) (hm : m ≤ xs.length) : cutV xs (some k) none = xs.drop m := by
  subst h
  unfold cutV
  rw [HT.sIx_nat, HT.sIx_none, Nat.min_eq_left hm]
  exact List.take_of_length_le (by rw [List.length_drop]; exact Nat.le_refl _)
theorem cutB {xs : List V} {k l : Int} {m n : Nat} (h : k = m) (h' : l = n) (hm : m ≤ xs.length) (hn : n ≤ xs.length) : cutV xs (some k) (some l) = (xs.take n).drop m := by
  subst h h'
  unfold cutV
  rw [HT.sIx_nat, HT.sIx_nat, Nat.min_eq_left hm, Nat.min_eq_left hn, List.drop_take]
section
variable {K : PySem.W.Frag} {H2 H3 : Hp} {v : V} {t : Addr} {m : Nat} {k : Int} {Q : VK}
theorem FltV.same {f : Flt} (s : Same H2 H3) (h : FltV K H2 v f) : FltV K H3 v f := by
  cases f with
  | non => exact h
  | script p => obtain ⟨t, e, g⟩ := h; exact ⟨t, e, s.sqT g⟩
  | package p => obtain ⟨t, e, g⟩ := h; exact ⟨t, e, s.sqT g⟩
  | long => exact h
theorem ne_is {u : V} {f : Flt} (hv : FltV K H2 v f) (s : Same H2 H3) (hu : FltV K H3 u f) (q : Q (.bl false) H3) : rNeD K v u H3 Q := by
  refine ⟨_, _, (hv.same s).data, hu.data, flt_shaped _, flt_shaped _, ?_⟩
  rw [eqv_self (flt_shaped _)]
  exact q
end
theorem rowS {K : PySem.W.Frag} {H H' : Hp} {r a : Addr} (s : Same H H') (h : Row K H r a) : Row K H' r a := by
  obtain ⟨ns, i, g, l, h1, h2, h3, h4⟩ := h
  exact ⟨ns, i, g, l, s _ _ h1, s.seq h2, h3, h4⟩
theorem ne_of_row {K : PySem.W.Frag} {H : Hp} {r a p : Addr} (h : Row K H r a) (n : H p = none) : p ≠ r := by
  obtain ⟨ns, i, g, l, h1, _⟩ := h
  intro e
  rw [e, h1] at n
  cases n
theorem Dr.new {r a : Addr} {H H' : Hp} {p : Addr} {o : HO} (d : Dr r a H H') (n : H p = Option.none) (nr : p ≠ r) : Dr r a H (upd H' p o) := by
  obtain ⟨i, g, l, h1, h2⟩ := d.at_
  exact ⟨fun b v nb q => (by rw [upd_ne (ne_of_none q n)]; exact d.sb b v nb q), i, g, l, h1, (by rw [upd_ne (Ne.symm nr)]; exact h2)⟩
theorem Dr.of_row {K : PySem.W.Frag} {r a : Addr} {H H' : Hp} (s : SameBut r H H') (h : Row K H' r a) : Dr r a H H' := by
  obtain ⟨ns, i, g, l, h1, h2, h3, h4⟩ := h
  exact ⟨s, i, g, l, h4, h1⟩
theorem tc_rd {v : V} {σ : L2.St} {H : Hp} {Q : VK} (h : Q v H) : tC v σ H Q := h
theorem rep_flat (n : Nat) (z : Str) : (List.replicate n [V.str z]).flatten = (List.replicate n z).map V.str := by
  induction n with
  | zero => rfl
  | succ n ih => rw [List.replicate_succ, List.replicate_succ, List.flatten_cons, ih]; rfl
structure LawT (P : Program) (w : World) (K : PySem.W.Frag) (mg : Str → Option Value) (base : Heap) : Prop where
  gL : mg "len" = none
  gR : mg "range" = none
  dT : Def P w K mg base 1 "_law_taken" ["_law_row", "_law_many"] (spTaken K)
  dF : Def P w K mg base 22 "_law_fault" ["_law_lines"] (spFlt K)
  dA : Def P w K mg base 23 "_law_are_long" ["_law_times"] spAl
section
variable {P : Program} {w : World} {K : PySem.W.Frag} {mg : Str → Option Value} {base : Heap}
theorem law_e {f : Addr} {cdv : Value} {A : Around} {outer : List Env} {sh : Shared} {H0 : Hp} {E : XK} (L : LawT P w K mg base) (hr : Room 23 (A.deeper (envOfC "law" (defScope sLaw) sh.heap.objs.size f cdv))) (nd : LawN.Nodup) :
    ∃ t, PSs (cxOf CX0 P w K mg base LawN "law" (defScope sLaw) f cdv A outer sh H0 E).nox (tBody.drop 15) t ∧ ∀ (D : Ends) (H : Hp) (r a g : Addr) (x0 x3 x4 x5 x6 x7 x8 : Option V), Row K H r a → H g = some (.lst (GOOD.map V.str)) → g ≠ r →
      (∀ H' y3 y4 y5 y6 y7 x8', Row K H' r a → H' g = some (.lst (GOOD.map V.str)) → D.nx [x0, some (.ref r), some (.ref g), y3, y4, y5, y6, y7, x8', none] H') → t D [x0, some (.ref r), some (.ref g), x3, x4, x5, x6, x7, x8, none] H := by
  have r1 : Room 1 _ := hr.mono (by decide)
  have r22 : Room 22 _ := hr.mono (by decide)
  have hu := hr.units
  refine ⟨_, pss_cons (ps_if (pt_cmpR (op_neD hu) (pe_def L.dF r22 rfl (pa_cons (pe_lst (pa_cons pe_str (pa_cons pe_str pa_nil))) pa_nil)) (pe_tup (pa_cons pe_int (pa_cons pe_str pa_nil))) (nomark _)) (pss_one (ps_ret pe_bl)) pss_nil)
    (pss_cons (ps_if (pt_cmp (pc_notN (pe_def L.dF r22 rfl (pa_cons (pe_lst (pa_cons pe_str (pa_cons pe_str pa_nil))) pa_nil)))) (pss_one (ps_ret pe_bl)) pss_nil)
    (pss_one (ps_if (pt_not (pt_val (pe_def L.dA hr rfl (pa_cons (pe_op op_add pe_int (pe_def L.dT r1 rfl (pa_cons (pv 1) (pa_cons pe_int pa_nil)))) pa_nil)))) (pss_one (ps_ret pe_bl)) pss_nil))), ?_⟩
  intro D H r a g x0 x3 x4 x5 x6 x7 x8 R0 G0 ngr k
  refine ⟨(by show 2 ≤ sizeLine; decide), fun b1 nb1 => ?_⟩
  have t1 := Same.upd_new (o := .lst ([("when app ready" : Str), "end"].map V.str)) nb1
  have ep : (HO.lst [V.str "when app ready", V.str "end"]) = .lst ([("when app ready" : Str), "end"].map V.str) := rfl
  rw [ep]
  refine ⟨b1, [("when app ready" : Str), "end"], rfl, SqL.of upd_same, o_app, fun H1 u1 s1 hu1 => ?_⟩
  rw [f_app] at hu1
  have R1 := rowS (t1.trans s1) R0
  have G1 := (t1.trans s1) _ _ G0
  refine ⟨two_le, fun c1 nc1 => ?_⟩
  have u1s := Same.upd_new (o := .tup [.int 0, .str "package"]) nc1
  refine ne_is hu1 u1s ⟨c1, rfl, SqT.of upd_same⟩ ⟨_, rfl, iteF ?_⟩
  have R2 := rowS u1s R1
  have G2 := u1s _ _ G1
  generalize upd H1 c1 (.tup [.int 0, .str "package"]) = H2 at R2 G2 ⊢
  clear R0 G0 R1 G1 t1 s1 hu1 u1s ep
  refine ⟨(by show 2 ≤ sizeLine; decide), fun b2 nb2 => ?_⟩
  have t2 := Same.upd_new (o := .lst ([("setup app" : Str), "purge app"].map V.str)) nb2
  have ep : (HO.lst [V.str "setup app", V.str "purge app"]) = .lst ([("setup app" : Str), "purge app"].map V.str) := rfl
  rw [ep]
  refine ⟨b2, [("setup app" : Str), "purge app"], rfl, SqL.of upd_same, o_two, fun H3 u2 s2 hu2 => ?_⟩
  rw [f_two] at hu2
  cases hu2
  have R3 := rowS (t2.trans s2) R2
  have G3 := (t2.trans s2) _ _ G2
  refine ⟨_, rfl, iteF ?_⟩
  refine ⟨_, rfl, r, 99, a, rfl, R3, by decide, by decide, fun v o va vb R4 => ?_⟩
  obtain ⟨n, rfl⟩ := Int.eq_ofNat_of_zero_le va
  have hn : n < 99 := by omega
  have G4 : (upd H3 r o) g = some (.lst (GOOD.map V.str)) := by rw [upd_ne ngr]; exact G3
  have en : (1 : Int) + ((n : Nat) : Int) = ((1 + n : Nat) : Int) := by omega
  refine ⟨_, _, rfl, rfl, n, congrArg (fun z => [V.int z]) en, hn, fun H5 s5 => ⟨_, rfl, iteF ?_⟩⟩
  exact k H5 _ _ _ _ _ _ (rowS s5 R4) (s5 _ _ G4)
theorem law_d {f : Addr} {cdv : Value} {A : Around} {outer : List Env} {sh : Shared} {H0 : Hp} {E : XK} (L : LawT P w K mg base) (hr : Room 23 (A.deeper (envOfC "law" (defScope sLaw) sh.heap.objs.size f cdv))) (nd : LawN.Nodup) :
    ∃ t, PSs (cxOf CX0 P w K mg base LawN "law" (defScope sLaw) f cdv A outer sh H0 E).nox (tBody.drop 13) t ∧ ∀ (D : Ends) (H : Hp) (r a g : Addr) (x0 x3 x4 x5 x6 x7 x8 : Option V), Row K H r a → H g = some (.lst (GOOD.map V.str)) → g ≠ r →
      (∀ H' y3 y4 y5 y6 y7 x8', Row K H' r a → H' g = some (.lst (GOOD.map V.str)) → D.nx [x0, some (.ref r), some (.ref g), y3, y4, y5, y6, y7, x8', none] H') → t D [x0, some (.ref r), some (.ref g), x3, x4, x5, x6, x7, x8, none] H := by
  have r1 : Room 1 _ := hr.mono (by decide)
  have r22 : Room 22 _ := hr.mono (by decide)
  have hu := hr.units
  obtain ⟨tB, hB, rdB⟩ := law_e (A := A) (outer := outer) (sh := sh) (H0 := H0) (E := E) (f := f) (cdv := cdv) L hr nd
  refine ⟨_, pss_cons (ps_set (i := 7) nd rfl (Or.inl rfl) (pe_op op_add pe_int (pe_def L.dT r1 rfl (pa_cons (pv 1) (pa_cons pe_int pa_nil)))))
    (pss_cons (ps_if (pt_cmpR (op_neD hu) (pe_def L.dF r22 rfl (pa_cons (pe_op op_rep (pe_lst (pa_cons pe_str pa_nil)) (pv 7)) pa_nil)) (pe_ifExp (pt_cmpR op_gt (pv 7) pe_int (nomark _)) (pe_tup (pa_cons pe_int (pa_cons pe_str pa_nil))) pe_non) (nomark _)) (pss_one (ps_ret pe_bl)) pss_nil) hB), ?_⟩
  intro D H r a g x0 x3 x4 x5 x6 x7 x8 R0 G0 ngr k
  refine ⟨_, rfl, r, 10, a, rfl, R0, by decide, by decide, fun v o va vb R1 => ?_⟩
  obtain ⟨n, rfl⟩ := Int.eq_ofNat_of_zero_le va
  have hn : n < 10 := by omega
  have G1 : (upd H r o) g = some (.lst (GOOD.map V.str)) := by rw [upd_ne ngr]; exact G0
  generalize upd H r o = H1 at R1 G1 ⊢
  refine ⟨_, _, rfl, rfl, ?_⟩
  have en : (55 : Int) + ((n : Nat) : Int) = ((55 + n : Nat) : Int) := by omega
  have nn : ((55 : Int) + ((n : Nat) : Int)).toNat = 55 + n := by omega
  refine ⟨(by show 1 ≤ sizeLine; decide), fun b1 nb1 => ?_⟩
  have t1 := Same.upd_new (o := .lst [.str "show lib"]) nb1
  have h1 : (upd H1 b1 (.lst [.str "show lib"])) b1 = some (.lst [.str "show lib"]) := upd_same
  have R2 := rowS t1 R1
  have G2 := t1 _ _ G1
  generalize upd H1 b1 (.lst [.str "show lib"]) = H2 at h1 R2 G2 ⊢
  refine ⟨_, rfl, b1, _, _, rfl, rfl, h1, by omega, by omega, by rw [nn, sizeLine_eq]; show 1 * _ ≤ _; omega, fun b2 nb2 => ?_⟩
  rw [nn, rep_flat]
  have t2 := Same.upd_new (o := .lst ((List.replicate (55 + n) ("show lib" : Str)).map V.str)) nb2
  refine ⟨b2, List.replicate (55 + n) ("show lib" : Str), rfl, SqL.of upd_same, o_many n hn, fun H3 u1 s3 hu1 => ?_⟩
  rw [f_many n hn] at hu1
  have R3 := rowS (t2.trans s3) R2
  have G3 := (t2.trans s3) _ _ G2
  refine ⟨_, rfl, _, _, rfl, rfl, _, rfl, ?_⟩
  by_cases c : 60 < 55 + n
  · rw [if_pos c] at hu1
    refine ite_yes (decide_eq_true (by omega)) ?_
    refine ⟨two_le, fun c1 nc1 => ?_⟩
    have u1s := Same.upd_new (o := .tup [.int 60, .str "script"]) nc1
    refine ne_is hu1 u1s ⟨c1, rfl, SqT.of upd_same⟩ ⟨_, rfl, iteF ?_⟩
    exact rdB _ _ r a g _ _ _ _ _ _ _ (rowS u1s R3) (u1s _ _ G3) ngr k
  · rw [if_neg c] at hu1
    refine ite_no (decide_eq_false (by omega)) ?_
    refine tc_rd ?_
    refine ne_is hu1 (Same.refl _) (u := .non) (f := .non) rfl ?_
    refine ⟨_, rfl, iteF ?_⟩
    exact rdB _ _ r a g _ _ _ _ _ _ _ R3 G3 ngr k
theorem law_turn {f : Addr} {cdv : Value} {A : Around} {outer : List Env} {sh : Shared} {H0 : Hp} {E : XK} (L : LawT P w K mg base) (hr : Room 23 (A.deeper (envOfC "law" (defScope sLaw) sh.heap.objs.size f cdv))) (nd : LawN.Nodup) :
    ∃ t, PSs (cxOf CX0 P w K mg base LawN "law" (defScope sLaw) f cdv A outer sh H0 E).nox tBody t ∧ ∀ (D : Ends) (H : Hp) (r a g : Addr) (x0 x3 x4 x5 x6 x7 x8 : Option V), Row K H r a → H g = some (.lst (GOOD.map V.str)) → g ≠ r →
      (∀ H' y3 y4 y5 y6 y7 x8', Row K H' r a → H' g = some (.lst (GOOD.map V.str)) → D.nx [x0, some (.ref r), some (.ref g), y3, y4, y5, y6, y7, x8', none] H') → t D [x0, some (.ref r), some (.ref g), x3, x4, x5, x6, x7, x8, none] H := by
  have r1 : Room 1 _ := hr.mono (by decide)
  have r22 : Room 22 _ := hr.mono (by decide)
  have hu := hr.units
  obtain ⟨tB, hB, rdB⟩ := law_d (A := A) (outer := outer) (sh := sh) (H0 := H0) (E := E) (f := f) (cdv := cdv) L hr nd
  refine ⟨_, pss_cons (ps_set (i := 3) nd rfl (Or.inl rfl) (pe_lst (pa_cons pe_str (pa_cons pe_str (pa_cons pe_str (pa_cons pe_str (pa_cons pe_str (pa_cons pe_str pa_nil))))))))
    (pss_cons (ps_set (i := 3) nd rfl (Or.inl rfl) (pe_op op_cat (pv 3) (pe_lst (pa_cons pe_str (pa_cons pe_str pa_nil)))))
    (pss_cons (ps_set (i := 3) nd rfl (Or.inl rfl) (pe_op op_cat (pv 3) (pe_lst (pa_cons pe_str (pa_cons pe_str (pa_cons pe_str (pa_cons pe_str (pa_cons pe_str (pa_cons pe_str (pa_cons pe_str (pa_cons pe_str (pa_cons pe_str pa_nil))))))))))))
    (pss_cons (ps_set (i := 3) nd rfl (Or.inl rfl) (pe_op op_cat (pv 3) (pe_lst (pa_cons pe_str (pa_cons pe_str (pa_cons pe_str (pa_cons pe_str (pa_cons pe_str (pa_cons pe_str (pa_cons pe_str pa_nil))))))))))
    (pss_cons (ps_set (i := 4) nd rfl (Or.inl rfl) (pe_def L.dT r1 rfl (pa_cons (pv 1) (pa_cons pe_int pa_nil))))
    (pss_cons (ps_if (pt_cmpR (op_neD hu) (pe_def L.dF r22 rfl (pa_cons (pe_op op_cat (pe_op op_cat (pe_slice sl_list (pv 2) po_none (po_some (pv 4))) (pe_lst (pa_cons (pe_ix (ix_list : IxR _ (rIxL K)) (pv 3) (pe_def L.dT r1 rfl (pa_cons (pv 1) (pa_cons (pe_callB call_len_seq (by rfl) L.gL PySem.boot_len (pa_cons (pv 3) pa_nil)) pa_nil))) (fun _ _ => rfl)) pa_nil))) (pe_slice sl_list (pv 2) (po_some (pv 4)) po_none)) pa_nil)) (pe_tup (pa_cons (pv 4) (pa_cons pe_str pa_nil))) (nomark _)) (pss_one (ps_ret pe_bl)) pss_nil)
    (pss_cons (ps_set (i := 4) nd rfl (Or.inl rfl) (pe_def L.dT r1 rfl (pa_cons (pv 1) (pa_cons pe_int pa_nil))))
    (pss_cons (ps_if (pt_cmpR (op_neD hu) (pe_def L.dF r22 rfl (pa_cons (pe_op op_cat (pe_op op_cat (pe_slice sl_list (pv 2) po_none (po_some (pv 4))) (pe_lst (pa_cons pe_str pa_nil))) (pe_slice sl_list (pv 2) (po_some (pv 4)) (po_some pe_int))) pa_nil)) (pe_tup (pa_cons (pv 4) (pa_cons pe_str pa_nil))) (nomark _)) (pss_one (ps_ret pe_bl)) pss_nil)
    (pss_cons (ps_set (i := 4) nd rfl (Or.inl rfl) (pe_op op_add pe_int (pe_def L.dT r1 rfl (pa_cons (pv 1) (pa_cons pe_int pa_nil)))))
    (pss_cons (ps_if (pt_cmpR (op_neD hu) (pe_def L.dF r22 rfl (pa_cons (pe_slice sl_list (pv 2) po_none (po_some (pv 4))) pa_nil)) (pe_tup (pa_cons (pv 4) (pa_cons pe_str pa_nil))) (nomark _)) (pss_one (ps_ret pe_bl)) pss_nil)
    (pss_cons (ps_set (i := 5) nd rfl (Or.inl rfl) (pe_op op_add pe_int (pe_def L.dT r1 rfl (pa_cons (pv 1) (pa_cons pe_int pa_nil)))))
    (pss_cons (ps_set (i := 6) nd rfl (Or.inl rfl) (pe_op op_cat (pe_op op_cat (pe_lc (own := [("_law_j", 9)]) (g := gName 9) (tt := tYes) rfl nd (pi_range1 (by rfl) L.gR (pa_cons (pv 5) pa_nil)) (blkOk_by (N := LawN) (sc := defScope sLaw) (by decide +kernel)) (fun _ _ _ _ _ => pg_name (i := 9) nd rfl (Or.inl rfl)) (fun _ _ _ _ _ => pts_nil)
        (fun _ _ _ _ _ => pe_ix (ix_list : IxR _ (rIxL K)) (pe_lst (pa_cons pe_str (pa_cons pe_str pa_nil))) (pe_def L.dT r1 rfl (pa_cons (pv 1) (pa_cons pe_int pa_nil))) (fun _ _ => rfl))) (pe_lst (pa_cons pe_str pa_nil))) (pe_op op_rep (pe_lst (pa_cons pe_str pa_nil)) (pv 5))))
    (pss_cons (ps_if (pt_cmpR (op_neD hu) (pe_def L.dF r22 rfl (pa_cons (pv 6) pa_nil)) (pe_ifExp (pt_cmpR op_gt (pv 5) pe_int (nomark _)) (pe_tup (pa_cons pe_int (pa_cons pe_str pa_nil))) pe_non) (nomark _)) (pss_one (ps_ret pe_bl)) pss_nil) hB)))))))))))), ?_⟩
  intro D H r a g x0 x3 x4 x5 x6 x7 x8 hR hg ngr k
  -- the wrong rows
  refine ⟨(by show 6 ≤ sizeLine; decide), fun p0 n0 => ?_⟩
  have s0 := Same.upd_new (o := .lst (WR1.map V.str)) n0
  have g0 : (upd H p0 (.lst (WR1.map V.str))) p0 = some (.lst (WR1.map V.str)) := upd_same
  have ep : (HO.lst [V.str "unpack lib", V.str "unpack lib x", V.str "unpack Lib 1", V.str "setup", V.str "setup lib 1", V.str "purge 3"]) = .lst (WR1.map V.str) := rfl
  rw [ep]
  have R0 := rowS s0 hR
  have G0 := s0 _ _ hg
  have q0 : p0 ≠ r := ne_of_row hR n0
  generalize upd H p0 (.lst (WR1.map V.str)) = H1 at g0 R0 G0 ⊢
  clear s0 hR hg n0 ep
  refine ⟨_, rfl, (by show 2 ≤ sizeLine; decide), fun p1 n1 => ?_⟩
  have s1 := Same.upd_new (o := .lst (WR2.map V.str)) n1
  have g1 : (upd H1 p1 (.lst (WR2.map V.str))) p1 = some (.lst (WR2.map V.str)) := upd_same
  have ep : (HO.lst [V.str "fail 2 1", V.str "fail 1 1"]) = .lst (WR2.map V.str) := rfl
  rw [ep]
  have g0' := s1 _ _ g0
  have R1 := rowS s1 R0
  have G1 := s1 _ _ G0
  generalize upd H1 p1 (.lst (WR2.map V.str)) = H2 at g1 g0' R1 G1 ⊢
  clear s1 ep R0 G0 n1 g0
  refine ⟨p0, p1, _, _, rfl, rfl, g0', g1, (by show 8 ≤ sizeLine; decide), fun p2 n2 => ?_⟩
  have s2 := Same.upd_new (o := .lst (WR1.map V.str ++ WR2.map V.str)) n2
  have g2 : (upd H2 p2 (.lst (WR1.map V.str ++ WR2.map V.str))) p2 = some (.lst (WR1.map V.str ++ WR2.map V.str)) := upd_same
  have R2 := rowS s2 R1
  have G2 := s2 _ _ G1
  have q2 : p2 ≠ r := ne_of_row R1 n2
  generalize upd H2 p2 (.lst (WR1.map V.str ++ WR2.map V.str)) = H3 at g2 R2 G2 ⊢
  clear s2 R1 G1 g0' g1 n2
  refine ⟨_, rfl, (by show 9 ≤ sizeLine; decide), fun p3 n3 => ?_⟩
  have s3 := Same.upd_new (o := .lst (WR3.map V.str)) n3
  have g3 : (upd H3 p3 (.lst (WR3.map V.str))) p3 = some (.lst (WR3.map V.str)) := upd_same
  have ep : (HO.lst [V.str "fail x", V.str "fail 01", V.str "fail 100", V.str "fail  1", V.str "show", V.str "repeat x", V.str "when lib", V.str "when lib up", V.str ""]) = .lst (WR3.map V.str) := rfl
  rw [ep]
  have g2' := s3 _ _ g2
  have R3 := rowS s3 R2
  have G3 := s3 _ _ G2
  generalize upd H3 p3 (.lst (WR3.map V.str)) = H4 at g3 g2' R3 G3 ⊢
  clear s3 ep R2 G2 n3 g2
  refine ⟨p2, p3, _, _, rfl, rfl, g2', g3, (by show 17 ≤ sizeLine; decide), fun p4 n4 => ?_⟩
  have s4 := Same.upd_new (o := .lst (WR1.map V.str ++ WR2.map V.str ++ WR3.map V.str)) n4
  have g4 : (upd H4 p4 (.lst (WR1.map V.str ++ WR2.map V.str ++ WR3.map V.str))) p4 = some (.lst (WR1.map V.str ++ WR2.map V.str ++ WR3.map V.str)) := upd_same
  have R4 := rowS s4 R3
  have G4 := s4 _ _ G3
  generalize upd H4 p4 (.lst (WR1.map V.str ++ WR2.map V.str ++ WR3.map V.str)) = H5 at g4 R4 G4 ⊢
  clear s4 R3 G3 g2' g3 n4
  refine ⟨_, rfl, (by show 7 ≤ sizeLine; decide), fun p5 n5 => ?_⟩
  have s5 := Same.upd_new (o := .lst (WR4.map V.str)) n5
  have g5 : (upd H5 p5 (.lst (WR4.map V.str))) p5 = some (.lst (WR4.map V.str)) := upd_same
  have ep : (HO.lst [V.str "ends", V.str "end 1", V.str " show lib", V.str "repeat 2 3", V.str "install lib 1", V.str "unpack lib 100", V.str "remove lib "]) = .lst (WR4.map V.str) := rfl
  rw [ep]
  have g4' := s5 _ _ g4
  have R5 := rowS s5 R4
  have G5 := s5 _ _ G4
  generalize upd H5 p5 (.lst (WR4.map V.str)) = H6 at g5 g4' R5 G5 ⊢
  clear s5 ep R4 G4 n5 g4
  refine ⟨p4, p5, _, _, rfl, rfl, g4', g5, (by show 24 ≤ sizeLine; decide), fun pw nw => ?_⟩
  have ew : WR1.map V.str ++ WR2.map V.str ++ WR3.map V.str ++ WR4.map V.str = WRS.map V.str := rfl
  rw [ew]
  have s6 := Same.upd_new (o := .lst (WRS.map V.str)) nw
  have gw : (upd H6 pw (.lst (WRS.map V.str))) pw = some (.lst (WRS.map V.str)) := upd_same
  have R6 := rowS s6 R5
  have G6 := s6 _ _ G5
  have qw : pw ≠ r := ne_of_row R5 nw
  generalize upd H6 pw (.lst (WRS.map V.str)) = H7 at gw R6 G6 ⊢
  clear s6 R5 G5 g4' g5 nw ew
  -- a wrong row among the right ones
  refine ⟨_, rfl, r, 9, a, rfl, R6, by decide, by decide, fun v1 o1 v1a v1b R7 => ?_⟩
  obtain ⟨k1, rfl⟩ := Int.eq_ofNat_of_zero_le v1a
  have hk1 : k1 < 9 := by omega
  have G7 : (upd H7 r o1) g = some (.lst (GOOD.map V.str)) := by rw [upd_ne ngr]; exact G6
  have gw7 : (upd H7 r o1) pw = some (.lst (WRS.map V.str)) := by rw [upd_ne qw]; exact gw
  generalize upd H7 r o1 = H8 at R7 G7 gw7 ⊢
  clear R6 G6 gw
  refine ⟨_, rfl, _, rfl, _, rfl, g, _, rfl, SqL.of G7, fun b1 nb1 => ?_⟩
  rw [cutT (m := k1) rfl (by show k1 ≤ 9; omega)]
  have t1 := Same.upd_new (o := .lst ((GOOD.map V.str).take k1)) nb1
  have h1 : (upd H8 b1 (.lst ((GOOD.map V.str).take k1))) b1 = some (.lst ((GOOD.map V.str).take k1)) := upd_same
  have R8 := rowS t1 R7
  have G8 := t1 _ _ G7
  have gw8 := t1 _ _ gw7
  have qb1 : b1 ≠ r := ne_of_row R7 nb1
  generalize upd H8 b1 (.lst ((GOOD.map V.str).take k1)) = H9 at h1 R8 G8 gw8 ⊢
  clear t1 R7 G7 gw7 nb1
  refine ⟨_, rfl, _, rfl, _, rfl, pw, _, rfl, .inl (SqL.of gw8), r, _, a, rfl, R8, (by show (0 : Int) < 24; decide), (by show (24 : Int) < 1073741824; decide), fun v2 o2 v2a v2b R9 => ?_⟩
  obtain ⟨k2, rfl⟩ := Int.eq_ofNat_of_zero_le v2a
  have hk2 : k2 < 24 := by
    have : ((k2 : Nat) : Int) < 24 := v2b
    omega
  have G9 : (upd H9 r o2) g = some (.lst (GOOD.map V.str)) := by rw [upd_ne ngr]; exact G8
  have gw9 : (upd H9 r o2) pw = some (.lst (WRS.map V.str)) := by rw [upd_ne qw]; exact gw8
  have h1' : (upd H9 r o2) b1 = some (.lst ((GOOD.map V.str).take k1)) := by rw [upd_ne qb1]; exact h1
  generalize upd H9 r o2 = H10 at R9 G9 gw9 h1' ⊢
  clear R8 G8 gw8 h1
  obtain ⟨z, hz⟩ : ∃ z, WRS[k2]? = some z := ⟨_, List.getElem?_eq_getElem (show k2 < WRS.length from hk2)⟩
  have hzm : z ∈ WRS := List.mem_of_getElem? hz
  refine ⟨pw, _, (k2 : Nat), .str z, rfl, rfl, SqL.of gw9, atI_nat (by rw [List.getElem?_map, hz]; rfl), (by show 1 ≤ sizeLine; decide), fun b2 nb2 => ?_⟩
  have t2 := Same.upd_new (o := .lst [.str z]) nb2
  have h2 : (upd H10 b2 (.lst [.str z])) b2 = some (.lst [.str z]) := upd_same
  have R10 := rowS t2 R9
  have G10 := t2 _ _ G9
  have h1'' := t2 _ _ h1'
  generalize upd H10 b2 (.lst [.str z]) = H11 at h2 R10 G10 h1'' ⊢
  clear t2 R9 G9 gw9 h1' nb2
  have ltk : ((GOOD.map V.str).take k1).length ≤ 9 := by rw [List.length_take]; exact Nat.min_le_right _ _
  refine ⟨b1, b2, _, _, rfl, rfl, h1'', h2, by rw [sizeLine_eq]; show _ + 1 ≤ _; omega, fun b3 nb3 => ?_⟩
  have t3 := Same.upd_new (o := .lst ((GOOD.map V.str).take k1 ++ [.str z])) nb3
  have h3 : (upd H11 b3 (.lst ((GOOD.map V.str).take k1 ++ [.str z]))) b3 = some (.lst ((GOOD.map V.str).take k1 ++ [.str z])) := upd_same
  have R11 := rowS t3 R10
  have G11 := t3 _ _ G10
  generalize upd H11 b3 (.lst ((GOOD.map V.str).take k1 ++ [.str z])) = H12 at h3 R11 G11 ⊢
  clear t3 R10 G10 h1'' h2 nb3
  refine ⟨_, rfl, _, rfl, _, rfl, g, _, rfl, SqL.of G11, fun b4 nb4 => ?_⟩
  rw [cutD (m := k1) rfl (by show k1 ≤ 9; omega)]
  have t4 := Same.upd_new (o := .lst ((GOOD.map V.str).drop k1)) nb4
  have h4 : (upd H12 b4 (.lst ((GOOD.map V.str).drop k1))) b4 = some (.lst ((GOOD.map V.str).drop k1)) := upd_same
  have R12 := rowS t4 R11
  have G12 := t4 _ _ G11
  have h3' := t4 _ _ h3
  generalize upd H12 b4 (.lst ((GOOD.map V.str).drop k1)) = H13 at h4 R12 G12 h3' ⊢
  clear t4 R11 G11 h3 nb4
  have ldr : ((GOOD.map V.str).drop k1).length ≤ 9 := by rw [List.length_drop]; exact Nat.sub_le _ _
  refine ⟨b3, b4, _, _, rfl, rfl, h3', h4, by rw [sizeLine_eq, List.length_append]; show _ + 1 + _ ≤ _; omega, fun b5 nb5 => ?_⟩
  have e5 : (GOOD.map V.str).take k1 ++ [.str z] ++ (GOOD.map V.str).drop k1 = (GOOD.take k1 ++ [z] ++ GOOD.drop k1).map V.str := by rw [List.map_append, List.map_append, List.map_take, List.map_drop]; rfl
  rw [e5]
  have t5 := Same.upd_new (o := .lst ((GOOD.take k1 ++ [z] ++ GOOD.drop k1).map V.str)) nb5
  refine ⟨b5, GOOD.take k1 ++ [z] ++ GOOD.drop k1, rfl, SqL.of upd_same, o_wrong k1 hk1 z hzm, fun H14 u1 s14 hu1 => ?_⟩
  rw [f_wrong k1 hk1 z hzm] at hu1
  have R13 := rowS (t5.trans s14) R12
  have G13 := (t5.trans s14) _ _ G12
  refine ⟨_, rfl, two_le, fun c1 nc1 => ?_⟩
  have u1s := Same.upd_new (o := .tup [.int (k1 : Nat), .str "script"]) nc1
  refine ne_is hu1 u1s ⟨c1, rfl, SqT.of upd_same⟩ ⟨_, rfl, iteF ?_⟩
  have R14 := rowS u1s R13
  have G14 := u1s _ _ G13
  generalize upd H14 c1 (.tup [.int (k1 : Nat), .str "script"]) = H15 at R14 G14 ⊢
  clear R13 G13 R12 G12 h3' h4 t5 s14 hu1 u1s nc1 nb5 e5
  -- an end too many
  refine ⟨_, rfl, r, 3, a, rfl, R14, by decide, by decide, fun v3 o3 v3a v3b R15 => ?_⟩
  obtain ⟨k3, rfl⟩ := Int.eq_ofNat_of_zero_le v3a
  have hk3 : k3 < 3 := by omega
  have G15 : (upd H15 r o3) g = some (.lst (GOOD.map V.str)) := by rw [upd_ne ngr]; exact G14
  generalize upd H15 r o3 = H16 at R15 G15 ⊢
  clear R14 G14
  refine ⟨_, rfl, _, rfl, _, rfl, g, _, rfl, SqL.of G15, fun b1 nb1 => ?_⟩
  rw [cutT (m := k3) rfl (by show k3 ≤ 9; omega)]
  have t1 := Same.upd_new (o := .lst ((GOOD.map V.str).take k3)) nb1
  have h1 : (upd H16 b1 (.lst ((GOOD.map V.str).take k3))) b1 = some (.lst ((GOOD.map V.str).take k3)) := upd_same
  have R16 := rowS t1 R15
  have G16 := t1 _ _ G15
  generalize upd H16 b1 (.lst ((GOOD.map V.str).take k3)) = H17 at h1 R16 G16 ⊢
  clear t1 R15 G15 nb1
  refine ⟨(by show 1 ≤ sizeLine; decide), fun b2 nb2 => ?_⟩
  have t2 := Same.upd_new (o := .lst [.str "end"]) nb2
  have h2 : (upd H17 b2 (.lst [.str "end"])) b2 = some (.lst [.str "end"]) := upd_same
  have R17 := rowS t2 R16
  have G17 := t2 _ _ G16
  have h1' := t2 _ _ h1
  generalize upd H17 b2 (.lst [.str "end"]) = H18 at h2 R17 G17 h1' ⊢
  clear t2 R16 G16 h1 nb2
  have ltk : ((GOOD.map V.str).take k3).length ≤ 9 := by rw [List.length_take]; exact Nat.min_le_right _ _
  refine ⟨b1, b2, _, _, rfl, rfl, h1', h2, by rw [sizeLine_eq]; show _ + 1 ≤ _; omega, fun b3 nb3 => ?_⟩
  have t3 := Same.upd_new (o := .lst ((GOOD.map V.str).take k3 ++ [.str "end"])) nb3
  have h3 : (upd H18 b3 (.lst ((GOOD.map V.str).take k3 ++ [.str "end"]))) b3 = some (.lst ((GOOD.map V.str).take k3 ++ [.str "end"])) := upd_same
  have R18 := rowS t3 R17
  have G18 := t3 _ _ G17
  generalize upd H18 b3 (.lst ((GOOD.map V.str).take k3 ++ [.str "end"])) = H19 at h3 R18 G18 ⊢
  clear t3 R17 G17 h1' h2 nb3
  refine ⟨_, rfl, _, rfl, _, rfl, _, rfl, g, _, rfl, SqL.of G18, fun b4 nb4 => ?_⟩
  rw [cutB (l := 8) (m := k3) (n := 8) rfl rfl (by show k3 ≤ 9; omega) (by show 8 ≤ 9; decide)]
  have t4 := Same.upd_new (o := .lst (((GOOD.map V.str).take 8).drop k3)) nb4
  have h4 : (upd H19 b4 (.lst (((GOOD.map V.str).take 8).drop k3))) b4 = some (.lst (((GOOD.map V.str).take 8).drop k3)) := upd_same
  have R19 := rowS t4 R18
  have G19 := t4 _ _ G18
  have h3' := t4 _ _ h3
  generalize upd H19 b4 (.lst (((GOOD.map V.str).take 8).drop k3)) = H20 at h4 R19 G19 h3' ⊢
  clear t4 R18 G18 h3 nb4
  have ldr : (((GOOD.map V.str).take 8).drop k3).length ≤ 9 := by rw [List.length_drop, List.length_take]; omega
  refine ⟨b3, b4, _, _, rfl, rfl, h3', h4, by rw [sizeLine_eq, List.length_append]; show _ + 1 + _ ≤ _; omega, fun b5 nb5 => ?_⟩
  have e5 : (GOOD.map V.str).take k3 ++ [.str "end"] ++ ((GOOD.map V.str).take 8).drop k3 = (GOOD.take k3 ++ [("end" : Str)] ++ (GOOD.take 8).drop k3).map V.str := by rw [List.map_append, List.map_append, List.map_take, List.map_drop, List.map_take]; rfl
  rw [e5]
  have t5 := Same.upd_new (o := .lst ((GOOD.take k3 ++ [("end" : Str)] ++ (GOOD.take 8).drop k3).map V.str)) nb5
  refine ⟨b5, GOOD.take k3 ++ [("end" : Str)] ++ (GOOD.take 8).drop k3, rfl, SqL.of upd_same, o_end k3 hk3, fun H21 u1 s14 hu1 => ?_⟩
  rw [f_end k3 hk3] at hu1
  have R20 := rowS (t5.trans s14) R19
  have G20 := (t5.trans s14) _ _ G19
  refine ⟨_, rfl, two_le, fun c1 nc1 => ?_⟩
  have u1s := Same.upd_new (o := .tup [.int (k3 : Nat), .str "script"]) nc1
  refine ne_is hu1 u1s ⟨c1, rfl, SqT.of upd_same⟩ ⟨_, rfl, iteF ?_⟩
  have R21 := rowS u1s R20
  have G21 := u1s _ _ G20
  generalize upd H21 c1 (.tup [.int (k3 : Nat), .str "script"]) = H22 at R21 G21 ⊢
  clear R20 G20 R19 G19 h3' h4 t5 s14 hu1 u1s nc1 nb5 e5
  -- ends that lack
  refine ⟨_, rfl, r, 4, a, rfl, R21, by decide, by decide, fun v4 o4 v4a v4b R22 => ?_⟩
  obtain ⟨k4, rfl⟩ := Int.eq_ofNat_of_zero_le v4a
  have hk4 : k4 < 4 := by omega
  have G22 : (upd H22 r o4) g = some (.lst (GOOD.map V.str)) := by rw [upd_ne ngr]; exact G21
  generalize upd H22 r o4 = H23 at R22 G22 ⊢
  clear R21 G21
  refine ⟨_, _, rfl, rfl, ?_⟩
  have e4 : (3 : Int) + ((k4 : Nat) : Int) = ((3 + k4 : Nat) : Int) := by omega
  refine ⟨_, rfl, _, rfl, _, rfl, g, _, rfl, SqL.of G22, fun b1 nb1 => ?_⟩
  rw [cutT (m := 3 + k4) e4 (by show 3 + k4 ≤ 9; omega)]
  have t1 := Same.upd_new (o := .lst ((GOOD.map V.str).take (3 + k4))) nb1
  refine ⟨b1, GOOD.take (3 + k4), rfl, SqL.of (by rw [upd_same, List.map_take]), o_cut k4 hk4, fun H24 u1 s14 hu1 => ?_⟩
  rw [f_cut k4 hk4] at hu1
  have R23 := rowS (t1.trans s14) R22
  have G23 := (t1.trans s14) _ _ G22
  refine ⟨_, rfl, two_le, fun c1 nc1 => ?_⟩
  have u1s := Same.upd_new (o := .tup [.int (3 + ((k4 : Nat) : Int)), .str "script"]) nc1
  refine ne_is hu1 u1s ⟨c1, rfl, SqT.of (by rw [← e4]; exact upd_same)⟩ ⟨_, rfl, iteF ?_⟩
  have R24 := rowS u1s R23
  have G24 := u1s _ _ G23
  generalize upd H24 c1 (.tup [.int (3 + ((k4 : Nat) : Int)), .str "script"]) = H25 at R24 G24 ⊢
  clear R23 G23 R22 G22 t1 s14 hu1 u1s nc1 nb1
  -- blocks within blocks
  refine ⟨_, rfl, r, 5, a, rfl, R24, by decide, by decide, fun v5 o5 v5a v5b R25 => ?_⟩
  obtain ⟨k5, rfl⟩ := Int.eq_ofNat_of_zero_le v5a
  have hk5 : k5 < 5 := by omega
  have G25 : (upd H25 r o5) g = some (.lst (GOOD.map V.str)) := by rw [upd_ne ngr]; exact G24
  generalize upd H25 r o5 = H26 at R25 G25 ⊢
  clear R24 G24
  refine ⟨_, _, rfl, rfl, ?_⟩
  have e6 : (1 : Int) + ((k5 : Nat) : Int) = ((1 + k5 : Nat) : Int) := by omega
  have n6 : ((1 : Int) + ((k5 : Nat) : Int)).toNat = 1 + k5 := by omega
  refine ⟨_, rfl, _, rfl, by omega, by omega, fun Dd nDd => ?_⟩
  rw [n6]
  have nDr : Dd ≠ r := ne_of_row R25 nDd
  have nDg : g ≠ Dd := ne_of_none G25 nDd
  refine lc_it walk_range (fun i H' => Dr r a H26 H' ∧ ∃ ls : List Str, H' Dd = some (.lst (ls.map V.str)) ∧ ls.length = i ∧ ∀ z ∈ ls, z ∈ PK) ⟨(Row.dr R25).new nDd nDr, [], upd_same, rfl, fun _ m => nomatch m⟩ (fun _ _ _ _ => trivial) ?_ ?_
  · rintro i x H27 H28 hi ⟨D27, ls, gD, ll, lm⟩ ⟨rfl, rfl⟩
    have R27 := D27.row R25
    refine ⟨rfl, (by show 2 ≤ sizeLine; decide), fun b1 nb1 => ?_⟩
    have t1 := Same.upd_new (o := .lst (PK.map V.str)) nb1
    have h1 : (upd H28 b1 (.lst (PK.map V.str))) b1 = some (.lst (PK.map V.str)) := upd_same
    have ep : (HO.lst [V.str "repeat 1", V.str "when lib absent"]) = .lst (PK.map V.str) := rfl
    rw [ep]
    have R28 := rowS t1 R27
    have D28 : SameBut r H26 (upd H28 b1 (.lst (PK.map V.str))) := fun b v nb q => t1 _ _ (D27.sb b v nb q)
    have gD1 := t1 _ _ gD
    have qb1 : b1 ≠ r := ne_of_row R27 nb1
    generalize upd H28 b1 (.lst (PK.map V.str)) = H29 at h1 R28 D28 gD1 ⊢
    refine ⟨_, rfl, r, 2, a, rfl, R28, by decide, by decide, fun v6 o6 v6a v6b R29 => ?_⟩
    obtain ⟨k6, rfl⟩ := Int.eq_ofNat_of_zero_le v6a
    have hk6 : k6 < 2 := by omega
    have D29 : SameBut r H26 (upd H29 r o6) := fun b v nb q => by rw [upd_ne nb]; exact D28 b v nb q
    have gD2 : (upd H29 r o6) Dd = some (.lst (ls.map V.str)) := by rw [upd_ne nDr]; exact gD1
    have h1' : (upd H29 r o6) b1 = some (.lst (PK.map V.str)) := by rw [upd_ne qb1]; exact h1
    generalize upd H29 r o6 = H30 at R29 D29 gD2 h1' ⊢
    obtain ⟨z, hz⟩ : ∃ z, PK[k6]? = some z := ⟨_, List.getElem?_eq_getElem (show k6 < PK.length from hk6)⟩
    refine ⟨b1, _, (k6 : Nat), .str z, rfl, rfl, SqL.of h1', atI_nat (by rw [List.getElem?_map, hz]; rfl), ?_⟩
    refine ⟨ls.map V.str, gD2, by rw [List.length_map, sizeLine_eq]; omega, (Dr.of_row D29 R29).new nDd nDr, ls ++ [z], ?_, ?_, ?_⟩
    · rw [upd_same, List.map_append]; rfl
    · rw [List.length_append, ll]; rfl
    · intro y m
      rcases List.mem_append.mp m with m | m
      · exact lm y m
      · rw [List.mem_singleton.mp m]
        exact List.mem_of_getElem? hz
  rintro H27 ⟨D27, ls, gD, ll, lm⟩
  have R26 := D27.row R25
  have G26 := D27.sb _ _ ngr G25
  have hlp : ls ∈ pks (1 + k5) := pks_mem ll lm
  refine ⟨(by show 1 ≤ sizeLine; decide), fun b2 nb2 => ?_⟩
  have t2 := Same.upd_new (o := .lst [.str "fail"]) nb2
  have h2 : (upd H27 b2 (.lst [.str "fail"])) b2 = some (.lst [.str "fail"]) := upd_same
  have R27 := rowS t2 R26
  have G27 := t2 _ _ G26
  have gD1 := t2 _ _ gD
  generalize upd H27 b2 (.lst [.str "fail"]) = H28 at h2 R27 G27 gD1 ⊢
  clear t2 R26 G26 gD nb2 D27
  have lls : (ls.map V.str).length = 1 + k5 := by rw [List.length_map, ll]
  refine ⟨Dd, b2, _, _, rfl, rfl, gD1, h2, by rw [lls, sizeLine_eq]; show _ + 1 ≤ _; omega, fun b3 nb3 => ?_⟩
  have t3 := Same.upd_new (o := .lst (ls.map V.str ++ [.str "fail"])) nb3
  have h3 : (upd H28 b3 (.lst (ls.map V.str ++ [.str "fail"]))) b3 = some (.lst (ls.map V.str ++ [.str "fail"])) := upd_same
  have R28 := rowS t3 R27
  have G28 := t3 _ _ G27
  generalize upd H28 b3 (.lst (ls.map V.str ++ [.str "fail"])) = H29 at h3 R28 G28 ⊢
  clear t3 R27 G27 gD1 h2 nb3
  refine ⟨(by show 1 ≤ sizeLine; decide), fun b4 nb4 => ?_⟩
  have t4 := Same.upd_new (o := .lst [.str "end"]) nb4
  have h4 : (upd H29 b4 (.lst [.str "end"])) b4 = some (.lst [.str "end"]) := upd_same
  have R29 := rowS t4 R28
  have G29 := t4 _ _ G28
  have h3' := t4 _ _ h3
  generalize upd H29 b4 (.lst [.str "end"]) = H30 at h4 R29 G29 h3' ⊢
  clear t4 R28 G28 h3 nb4
  refine ⟨_, rfl, b4, _, _, rfl, rfl, h4, by omega, by omega, by rw [n6, sizeLine_eq]; show 1 * _ ≤ _; omega, fun b5 nb5 => ?_⟩
  rw [n6, rep_flat]
  have t5 := Same.upd_new (o := .lst ((List.replicate (1 + k5) ("end" : Str)).map V.str)) nb5
  have h5 : (upd H30 b5 (.lst ((List.replicate (1 + k5) ("end" : Str)).map V.str))) b5 = some (.lst ((List.replicate (1 + k5) ("end" : Str)).map V.str)) := upd_same
  have R30 := rowS t5 R29
  have G30 := t5 _ _ G29
  have h3'' := t5 _ _ h3'
  generalize upd H30 b5 (.lst ((List.replicate (1 + k5) ("end" : Str)).map V.str)) = H31 at h5 R30 G30 h3'' ⊢
  clear t5 R29 G29 h3' h4 nb5
  have lle : ((List.replicate (1 + k5) ("end" : Str)).map V.str).length = 1 + k5 := by rw [List.length_map, List.length_replicate]
  refine ⟨b3, b5, _, _, rfl, rfl, h3'', h5, by rw [List.length_append, lls, lle, sizeLine_eq]; show _ + 1 + _ ≤ _; omega, fun b6 nb6 => ?_⟩
  have e7 : ls.map V.str ++ [.str "fail"] ++ (List.replicate (1 + k5) ("end" : Str)).map V.str = (ls ++ [("fail" : Str)] ++ List.replicate (1 + k5) ("end" : Str)).map V.str := by rw [List.map_append, List.map_append]; rfl
  rw [e7]
  have t6 := Same.upd_new (o := .lst ((ls ++ [("fail" : Str)] ++ List.replicate (1 + k5) ("end" : Str)).map V.str)) nb6
  have h6 : (upd H31 b6 (.lst ((ls ++ [("fail" : Str)] ++ List.replicate (1 + k5) ("end" : Str)).map V.str))) b6 = some (.lst ((ls ++ [("fail" : Str)] ++ List.replicate (1 + k5) ("end" : Str)).map V.str)) := upd_same
  have R31 := rowS t6 R30
  have G31 := t6 _ _ G30
  generalize upd H31 b6 (.lst ((ls ++ [("fail" : Str)] ++ List.replicate (1 + k5) ("end" : Str)).map V.str)) = H32 at h6 R31 G31 ⊢
  clear t6 R30 G30 h3'' h5 nb6
  refine ⟨_, rfl, b6, ls ++ [("fail" : Str)] ++ List.replicate (1 + k5) ("end" : Str), rfl, SqL.of h6, o_depth k5 hk5 ls hlp, fun H33 u2 s33 hu2 => ?_⟩
  rw [f_depth k5 hk5 ls hlp] at hu2
  have R32 := rowS s33 R31
  have G32 := s33 _ _ G31
  clear R31 G31 h6
  refine ⟨_, rfl, _, _, rfl, rfl, _, rfl, ?_⟩
  by_cases c : 4 < 1 + k5
  · rw [if_pos c] at hu2
    refine ite_yes (decide_eq_true (by omega)) ?_
    refine ⟨two_le, fun c1 nc1 => ?_⟩
    have u1s := Same.upd_new (o := .tup [.int 4, .str "script"]) nc1
    refine ne_is hu2 u1s ⟨c1, rfl, SqT.of upd_same⟩ ⟨_, rfl, iteF ?_⟩
    exact rdB _ _ r a g _ _ _ _ _ _ _ (rowS u1s R32) (u1s _ _ G32) ngr k
  · rw [if_neg c] at hu2
    refine ite_no (decide_eq_false (by omega)) ?_
    refine tc_rd ?_
    refine ne_is hu2 (Same.refl _) (u := .non) (f := .non) rfl ?_
    refine ⟨_, rfl, iteF ?_⟩
    exact rdB _ _ r a g _ _ _ _ _ _ _ R32 G32 ngr k
def spLaw (K : PySem.W.Frag) : Sp := fun vs H Q _ => ∃ (a : Addr) (ns : List Int), vs = [.ref a] ∧ SqL K H a (ns.map V.int) ∧ ns.length ≤ 63 ∧ ∀ H', Q (.bl true) H'
theorem ok_law {f c : Addr} {oc kV doc pm ct : Value} {od an : Option Addr} {osl : Array (Option Value)} (lk : K.lookup f = some ⟨oc, od, .func (PySem.W.fnOf "law" "law" (defArgs sLaw) (defBody sLaw) (defScope sLaw) .none kV doc pm an (.ref c) ct), osl⟩) (hcd : PySem.W.codeIn K (.ref c) "law" = true)
    (L : LawT P w K mg base) : FnOk P w K mg base CX0 24 f (PySem.W.fnOf "law" "law" (defArgs sLaw) (defBody sLaw) (defScope sLaw) .none kV doc pm an (.ref c) ct) ["_law_script"] (spLaw K) := by
  refine fn_of lk hcd scLaw (fun vs H Q E h => ?_) (fun A outer s H vs Q E hr h => ?_)
  · obtain ⟨a, ns, rfl, _⟩ := h
    rfl
  · obtain ⟨a, ns, rfl, hS, hlen, k⟩ := h
    have nd := scLaw.nd
    have hu := hr.units
    have r22 : Room 22 _ := hr.mono (by decide)
    obtain ⟨tB, hB, rdB⟩ := law_turn (f := f) (cdv := .ref c) (A := A) (outer := outer) (sh := s) (H0 := H) (E := E) L hr nd
    refine ⟨_, (show PSs (cxOf CX0 P w K mg base LawN "law" (defScope sLaw) f (.ref c) A outer s H E).nox (defBody sLaw) _ from pss_cons (ps_set (i := 1) nd rfl (by first | exact Or.inl rfl | exact Or.inr rfl) (pe_lst (pa_cons (pv 0) (pa_cons pe_int (pa_cons pe_int (pa_cons pe_int pa_nil))))))
      (pss_cons (ps_set (i := 2) nd rfl (Or.inl rfl) (pe_lst (pa_cons pe_str (pa_cons pe_str (pa_cons pe_str (pa_cons pe_str (pa_cons pe_str (pa_cons pe_str (pa_cons pe_str (pa_cons pe_str (pa_cons pe_str pa_nil)))))))))))
      (pss_cons (ps_if (PW.pt (pw_or (pt_cmpR (op_neD hu) (pe_def L.dF r22 rfl (pa_cons (pv 2) pa_nil)) (pe_tup (pa_cons pe_int (pa_cons pe_str pa_nil))) (nomark _)) (pw_or1 (pt_cmp (pc_notN (pe_def L.dF r22 rfl (pa_cons (pe_slice sl_list (pv 2) po_none (po_some pe_int)) pa_nil))))))) (pss_one (ps_ret pe_bl)) pss_nil)
      (pss_cons (ps_for PassesOwn.never rfl (pi_range1 (by rfl) L.gR (pa_cons pe_int pa_nil)) (pg_name (i := 8) nd rfl (Or.inl rfl)) hB)
      (pss_one (ps_ret pe_bl)))))).nox, ?_⟩
    refine ⟨_, rfl, (by show 4 ≤ sizeLine; decide), fun r nr => ?_⟩
    have s1 := Same.upd_new (o := .lst [.ref a, .int 0, .int 0, .int 0]) nr
    have R1 : Row K (upd H r (.lst [.ref a, .int 0, .int 0, .int 0])) r a := ⟨ns, 0, 0, 0, upd_same, s1.seq hS, hlen, Int.le_refl 0⟩
    generalize upd H r (.lst [.ref a, .int 0, .int 0, .int 0]) = H1 at R1 ⊢
    refine ⟨(by show 9 ≤ sizeLine; decide), fun g ng => ?_⟩
    have t2 := Same.upd_new (o := .lst (GOOD.map V.str)) ng
    have g2 : (upd H1 g (.lst (GOOD.map V.str))) g = some (.lst (GOOD.map V.str)) := upd_same
    have ep : (HO.lst [V.str "fail 0 2", V.str "unpack lib 1", V.str "repeat 2", V.str "setup lib", V.str "when lib ready", V.str "show lib", V.str "end", V.str "end", V.str "show app"]) = .lst (GOOD.map V.str) := rfl
    rw [ep]
    have R2 := rowS t2 R1
    have ngr : g ≠ r := ne_of_row R1 ng
    generalize upd H1 g (.lst (GOOD.map V.str)) = H2 at g2 R2 ⊢
    refine ⟨_, rfl, g, GOOD, rfl, SqL.of g2, o_good, fun H3 u1 s3 hu1 => ?_⟩
    rw [f_good] at hu1
    refine ⟨two_le, fun c1 nc1 => ?_⟩
    have u1s := Same.upd_new (o := .tup [.int 8, .str "package"]) nc1
    refine ne_is hu1 u1s ⟨c1, rfl, SqT.of upd_same⟩ ⟨_, rfl, iteF ?_⟩
    have g3 := (s3.trans u1s) _ _ g2
    have R3 := rowS (s3.trans u1s) R2
    generalize upd H3 c1 (.tup [.int 8, .str "package"]) = H4 at g3 R3 ⊢
    refine ⟨_, rfl, _, rfl, g, _, rfl, SqL.of g3, fun b1 nb1 => ?_⟩
    rw [cutT (k := 8) (m := 8) rfl (by show 8 ≤ 9; decide)]
    have t4 := Same.upd_new (o := .lst ((GOOD.map V.str).take 8)) nb1
    refine ⟨b1, GOOD.take 8, rfl, SqL.of (by rw [upd_same, List.map_take]), o_good8, fun H5 u2 s5 hu2 => ?_⟩
    rw [f_good8] at hu2
    cases hu2
    refine ⟨_, rfl, iteF ?_⟩
    have R5 := rowS (t4.trans s5) R3
    have g5 := (t4.trans s5) _ _ g3
    refine ⟨8, rfl, by decide, by decide, ?_⟩
    refine for_it walk_range (fun i σ H' => ∃ x3 x4 x5 x6 x7 x8, Row K H' r a ∧ H' g = some (.lst (GOOD.map V.str)) ∧ σ = [some (.ref a), some (.ref r), some (.ref g), x3, x4, x5, x6, x7, x8, none]) ⟨none, none, none, none, none, none, R5, g5, rfl⟩ (fun _ _ _ _ _ => trivial) ?_ ?_
    · rintro i x σ H6 H7 hi ⟨x3, x4, x5, x6, x7, x8, R6, g6, rfl⟩ ⟨rfl, rfl⟩
      refine rdB _ _ r a g _ _ _ _ _ _ _ R6 g6 ngr fun H8 y3 y4 y5 y6 y7 y8 R8 g8 => ?_
      exact ⟨_, _, _, _, _, _, R8, g8, rfl⟩
    · rintro σ H6 ⟨x3, x4, x5, x6, x7, x8, R6, g6, rfl⟩
      exact k H6
end
end Half

namespace Half
open PySem PySem.Spec PyProof.Rows L2
/-! ### the table of shapes, as it stands -/
theorem shp_of {K : PySem.W.Frag} {d : Addr} {h0 h1 h2 h3 h4 h5 h6 h7 : Int} {t0 t1 t2 t3 t4 t5 t6 t7 : Tok} {a0 a1 a2 a3 a4 a5 a6 a7 : Addr} {n : Nat}
    (e : K.lookup d = some ⟨.type "dict", none, .dict #[⟨h0, .str "unpack" t0, .ref a0⟩, ⟨h1, .str "setup" t1, .ref a1⟩, ⟨h2, .str "remove" t2, .ref a2⟩, ⟨h3, .str "purge" t3, .ref a3⟩, ⟨h4, .str "show" t4, .ref a4⟩, ⟨h5, .str "repeat" t5, .ref a5⟩, ⟨h6, .str "when" t6, .ref a6⟩, ⟨h7, .str "end" t7, .ref a7⟩] n, #[]⟩)
    (s0 : ∀ H, SqT K H a0 ([("name" : Str), "number"].map V.str)) (s1 : ∀ H, SqT K H a1 ([("name" : Str)].map V.str)) (s2 : ∀ H, SqT K H a2 ([("name" : Str)].map V.str)) (s3 : ∀ H, SqT K H a3 ([("name" : Str)].map V.str)) (s4 : ∀ H, SqT K H a4 ([("name" : Str)].map V.str)) (s5 : ∀ H, SqT K H a5 ([("number" : Str)].map V.str)) (s6 : ∀ H, SqT K H a6 ([("name" : Str), "status"].map V.str)) (s7 : ∀ H, SqT K H a7 (([] : List Str).map V.str)) :
    (∀ z, shapeOf z = none → PySem.W.nsIn K d z = some none) ∧ ∀ z ks, shapeOf z = some ks → ∃ q, PySem.W.nsIn K d z = some (some (.ref q)) ∧ ∀ H, SqT K H q (ks.map V.str) := by
  have beq : ∀ x z : Str, (x == z) = decide (x = z) := fun x z => by
    by_cases c : x = z
    · rw [c, decide_eq_true rfl]; exact beq_self_eq_true z
    · rw [decide_eq_false c]; exact beq_eq_false_iff_ne.mpr c
  have key : ∀ z, PySem.W.nsIn K d z = some (if ("unpack" : Str) = z then some (.ref a0) else if ("setup" : Str) = z then some (.ref a1) else if ("remove" : Str) = z then some (.ref a2) else if ("purge" : Str) = z then some (.ref a3) else if ("show" : Str) = z then some (.ref a4) else if ("repeat" : Str) = z then some (.ref a5) else if ("when" : Str) = z then some (.ref a6) else if ("end" : Str) = z then some (.ref a7) else none) := fun z => by
    unfold PySem.W.nsIn
    rw [e]
    dsimp only
    simp only [List.find?_cons, List.find?_nil, Value.isStr, beq]
    by_cases c0 : ("unpack" : Str) = z
    · rw [decide_eq_true c0, if_pos c0]
    rw [decide_eq_false c0, if_neg c0]
    by_cases c1 : ("setup" : Str) = z
    · rw [decide_eq_true c1, if_pos c1]
    rw [decide_eq_false c1, if_neg c1]
    by_cases c2 : ("remove" : Str) = z
    · rw [decide_eq_true c2, if_pos c2]
    rw [decide_eq_false c2, if_neg c2]
    by_cases c3 : ("purge" : Str) = z
    · rw [decide_eq_true c3, if_pos c3]
    rw [decide_eq_false c3, if_neg c3]
    by_cases c4 : ("show" : Str) = z
    · rw [decide_eq_true c4, if_pos c4]
    rw [decide_eq_false c4, if_neg c4]
    by_cases c5 : ("repeat" : Str) = z
    · rw [decide_eq_true c5, if_pos c5]
    rw [decide_eq_false c5, if_neg c5]
    by_cases c6 : ("when" : Str) = z
    · rw [decide_eq_true c6, if_pos c6]
    rw [decide_eq_false c6, if_neg c6]
    by_cases c7 : ("end" : Str) = z
    · rw [decide_eq_true c7, if_pos c7]
    rw [decide_eq_false c7, if_neg c7]
    rfl
  have shp : ∀ z, shapeOf z = if ("unpack" : Str) = z then some [("name" : Str), "number"] else if ("setup" : Str) = z then some [("name" : Str)] else if ("remove" : Str) = z then some [("name" : Str)] else if ("purge" : Str) = z then some [("name" : Str)] else if ("show" : Str) = z then some [("name" : Str)] else if ("repeat" : Str) = z then some [("number" : Str)] else if ("when" : Str) = z then some [("name" : Str), "status"] else if ("end" : Str) = z then some ([] : List Str) else none := fun z => by
    unfold shapeOf SHP
    simp only [List.find?_cons, List.find?_nil]
    by_cases c0 : ("unpack" : Str) = z
    · rw [decide_eq_true c0, if_pos c0]; rfl
    rw [decide_eq_false c0, if_neg c0]
    by_cases c1 : ("setup" : Str) = z
    · rw [decide_eq_true c1, if_pos c1]; rfl
    rw [decide_eq_false c1, if_neg c1]
    by_cases c2 : ("remove" : Str) = z
    · rw [decide_eq_true c2, if_pos c2]; rfl
    rw [decide_eq_false c2, if_neg c2]
    by_cases c3 : ("purge" : Str) = z
    · rw [decide_eq_true c3, if_pos c3]; rfl
    rw [decide_eq_false c3, if_neg c3]
    by_cases c4 : ("show" : Str) = z
    · rw [decide_eq_true c4, if_pos c4]; rfl
    rw [decide_eq_false c4, if_neg c4]
    by_cases c5 : ("repeat" : Str) = z
    · rw [decide_eq_true c5, if_pos c5]; rfl
    rw [decide_eq_false c5, if_neg c5]
    by_cases c6 : ("when" : Str) = z
    · rw [decide_eq_true c6, if_pos c6]; rfl
    rw [decide_eq_false c6, if_neg c6]
    by_cases c7 : ("end" : Str) = z
    · rw [decide_eq_true c7, if_pos c7]; rfl
    rw [decide_eq_false c7, if_neg c7]
    rfl
  refine ⟨fun z h => ?_, fun z ks h => ?_⟩
  · rw [key z]
    rw [shp z] at h
    repeat (split at h; · cases h)
    rename_i c0 c1 c2 c3 c4 c5 c6 c7
    rw [if_neg c0, if_neg c1, if_neg c2, if_neg c3, if_neg c4, if_neg c5, if_neg c6, if_neg c7]
  · rw [key z]
    rw [shp z] at h
    split at h
    · cases h; rename_i c0; exact ⟨a0, by rw [if_pos c0], s0⟩
    rename_i c0
    split at h
    · cases h; rename_i c1; exact ⟨a1, by rw [if_neg c0, if_pos c1], s1⟩
    rename_i c1
    split at h
    · cases h; rename_i c2; exact ⟨a2, by rw [if_neg c0, if_neg c1, if_pos c2], s2⟩
    rename_i c2
    split at h
    · cases h; rename_i c3; exact ⟨a3, by rw [if_neg c0, if_neg c1, if_neg c2, if_pos c3], s3⟩
    rename_i c3
    split at h
    · cases h; rename_i c4; exact ⟨a4, by rw [if_neg c0, if_neg c1, if_neg c2, if_neg c3, if_pos c4], s4⟩
    rename_i c4
    split at h
    · cases h; rename_i c5; exact ⟨a5, by rw [if_neg c0, if_neg c1, if_neg c2, if_neg c3, if_neg c4, if_pos c5], s5⟩
    rename_i c5
    split at h
    · cases h; rename_i c6; exact ⟨a6, by rw [if_neg c0, if_neg c1, if_neg c2, if_neg c3, if_neg c4, if_neg c5, if_pos c6], s6⟩
    rename_i c6
    split at h
    · cases h; rename_i c7; exact ⟨a7, by rw [if_neg c0, if_neg c1, if_neg c2, if_neg c3, if_neg c4, if_neg c5, if_neg c6, if_pos c7], s7⟩
    cases h
end Half

namespace Half
open PySem PySem.Spec PyProof.Rows L2 LamX
theorem all_mk {l : PySem.W.OpenLaw} {w : World} {K : PySem.W.Frag} {h : Heap} {mg : Str → Option Value} {fa : Addr} (X : K.In h) (G : h.Ns mainGlobals mg) (hfa : mg "law" = some (.ref fa))
    {f_word : Addr} {oc_word kV_word dc_word pm_word cd_word ct_word : Value} {od_word an_word : Option Addr} {sl_word : Array (Option Value)}
    {f_numb : Addr} {oc_numb kV_numb dc_numb pm_numb cd_numb ct_numb : Value} {od_numb an_numb : Option Addr} {sl_numb : Array (Option Value)}
    {f_asc : Addr} {oc_asc kV_asc dc_asc pm_asc cd_asc ct_asc : Value} {od_asc an_asc : Option Addr} {sl_asc : Array (Option Value)}
    {f_vers : Addr} {oc_vers kV_vers dc_vers pm_vers cd_vers ct_vers : Value} {od_vers an_vers : Option Addr} {sl_vers : Array (Option Value)}
    {f_scri : Addr} {oc_scri kV_scri dc_scri pm_scri cd_scri ct_scri : Value} {od_scri an_scri : Option Addr} {sl_scri : Array (Option Value)}
    {f_othe : Addr} {oc_othe kV_othe dc_othe pm_othe cd_othe ct_othe : Value} {od_othe an_othe : Option Addr} {sl_othe : Array (Option Value)}
    {f_pair : Addr} {oc_pair kV_pair dc_pair pm_pair cd_pair ct_pair : Value} {od_pair an_pair : Option Addr} {sl_pair : Array (Option Value)}
    {f_need : Addr} {oc_need kV_need dc_need pm_need cd_need ct_need : Value} {od_need an_need : Option Addr} {sl_need : Array (Option Value)}
    {f_wron : Addr} {oc_wron kV_wron dc_wron pm_wron cd_wron ct_wron : Value} {od_wron an_wron : Option Addr} {sl_wron : Array (Option Value)}
    {f_wi : Addr} {oc_wi kV_wi dc_wi pm_wi cd_wi ct_wi : Value} {od_wi an_wi : Option Addr} {sl_wi : Array (Option Value)}
    {f_vn : Addr} {oc_vn kV_vn dc_vn pm_vn cd_vn ct_vn : Value} {od_vn an_vn : Option Addr} {sl_vn : Array (Option Value)}
    {f_take : Addr} {oc_take kV_take dc_take pm_take cd_take ct_take : Value} {od_take an_take : Option Addr} {sl_take : Array (Option Value)}
    {f_ist : Addr} {oc_ist kV_ist dc_ist pm_ist cd_ist ct_ist : Value} {od_ist an_ist : Option Addr} {sl_ist : Array (Option Value)}
    {f_wp : Addr} {oc_wp kV_wp dc_wp pm_wp cd_wp ct_wp : Value} {od_wp an_wp : Option Addr} {sl_wp : Array (Option Value)}
    {f_ith : Addr} {oc_ith kV_ith dc_ith pm_ith cd_ith ct_ith : Value} {od_ith an_ith : Option Addr} {sl_ith : Array (Option Value)}
    {f_eo : Addr} {oc_eo kV_eo dc_eo pm_eo cd_eo ct_eo : Value} {od_eo an_eo : Option Addr} {sl_eo : Array (Option Value)}
    {f_met : Addr} {oc_met kV_met dc_met pm_met cd_met ct_met : Value} {od_met an_met : Option Addr} {sl_met : Array (Option Value)}
    {f_un : Addr} {oc_un kV_un dc_un pm_un cd_un ct_un : Value} {od_un an_un : Option Addr} {sl_un : Array (Option Value)}
    {f_ag : Addr} {oc_ag kV_ag dc_ag pm_ag cd_ag ct_ag : Value} {od_ag an_ag : Option Addr} {sl_ag : Array (Option Value)}
    {f_nag : Addr} {oc_nag kV_nag dc_nag pm_nag cd_nag ct_nag : Value} {od_nag an_nag : Option Addr} {sl_nag : Array (Option Value)}
    {f_ur : Addr} {oc_ur kV_ur dc_ur pm_ur cd_ur ct_ur : Value} {od_ur an_ur : Option Addr} {sl_ur : Array (Option Value)}
    {f_sr : Addr} {oc_sr kV_sr dc_sr pm_sr cd_sr ct_sr : Value} {od_sr an_sr : Option Addr} {sl_sr : Array (Option Value)}
    {f_nn : Addr} {oc_nn kV_nn dc_nn pm_nn cd_nn ct_nn : Value} {od_nn an_nn : Option Addr} {sl_nn : Array (Option Value)}
    {f_rr : Addr} {oc_rr kV_rr dc_rr pm_rr cd_rr ct_rr : Value} {od_rr an_rr : Option Addr} {sl_rr : Array (Option Value)}
    {f_pr : Addr} {oc_pr kV_pr dc_pr pm_pr cd_pr ct_pr : Value} {od_pr an_pr : Option Addr} {sl_pr : Array (Option Value)}
    {f_ref : Addr} {oc_ref kV_ref dc_ref pm_ref cd_ref ct_ref : Value} {od_ref an_ref : Option Addr} {sl_ref : Array (Option Value)}
    {f_inst : Addr} {oc_inst kV_inst dc_inst pm_inst cd_inst ct_inst : Value} {od_inst an_inst : Option Addr} {sl_inst : Array (Option Value)}
    {f_both : Addr} {oc_both kV_both dc_both pm_both cd_both ct_both : Value} {od_both an_both : Option Addr} {sl_both : Array (Option Value)}
    {f_upg : Addr} {oc_upg kV_upg dc_upg pm_upg cd_upg ct_upg : Value} {od_upg an_upg : Option Addr} {sl_upg : Array (Option Value)}
    {f_putb : Addr} {oc_putb kV_putb dc_putb pm_putb cd_putb ct_putb : Value} {od_putb an_putb : Option Addr} {sl_putb : Array (Option Value)}
    {f_unp : Addr} {oc_unp kV_unp dc_unp pm_unp cd_unp ct_unp : Value} {od_unp an_unp : Option Addr} {sl_unp : Array (Option Value)}
    {f_sup : Addr} {oc_sup kV_sup dc_sup pm_sup cd_sup ct_sup : Value} {od_sup an_sup : Option Addr} {sl_sup : Array (Option Value)}
    {f_tout : Addr} {oc_tout kV_tout dc_tout pm_tout cd_tout ct_tout : Value} {od_tout an_tout : Option Addr} {sl_tout : Array (Option Value)}
    {f_purg : Addr} {oc_purg kV_purg dc_purg pm_purg cd_purg ct_purg : Value} {od_purg an_purg : Option Addr} {sl_purg : Array (Option Value)}
    {f_cb : Addr} {oc_cb kV_cb dc_cb pm_cb cd_cb ct_cb : Value} {od_cb an_cb : Option Addr} {sl_cb : Array (Option Value)}
    {f_run : Addr} {oc_run kV_run dc_run pm_run cd_run ct_run : Value} {od_run an_run : Option Addr} {sl_run : Array (Option Value)}
    {f_nml : Addr} {oc_nml kV_nml dc_nml pm_nml cd_nml ct_nml : Value} {od_nml an_nml : Option Addr} {sl_nml : Array (Option Value)}
    {f_fits : Addr} {oc_fits kV_fits dc_fits pm_fits cd_fits ct_fits : Value} {od_fits an_fits : Option Addr} {sl_fits : Array (Option Value)}
    {f_irw : Addr} {oc_irw kV_irw dc_irw pm_irw cd_irw ct_irw : Value} {od_irw an_irw : Option Addr} {sl_irw : Array (Option Value)}
    {f_cst : Addr} {oc_cst kV_cst dc_cst pm_cst cd_cst ct_cst : Value} {od_cst an_cst : Option Addr} {sl_cst : Array (Option Value)}
    {f_ro : Addr} {oc_ro kV_ro dc_ro pm_ro cd_ro ct_ro : Value} {od_ro an_ro : Option Addr} {sl_ro : Array (Option Value)}
    {f_ble : Addr} {oc_ble kV_ble dc_ble pm_ble cd_ble ct_ble : Value} {od_ble an_ble : Option Addr} {sl_ble : Array (Option Value)}
    {f_rsc : Addr} {oc_rsc kV_rsc dc_rsc pm_rsc cd_rsc ct_rsc : Value} {od_rsc an_rsc : Option Addr} {sl_rsc : Array (Option Value)}
    {f_flt : Addr} {oc_flt kV_flt dc_flt pm_flt cd_flt ct_flt : Value} {od_flt an_flt : Option Addr} {sl_flt : Array (Option Value)}
    {f_al : Addr} {oc_al kV_al dc_al pm_al cd_al ct_al : Value} {od_al an_al : Option Addr} {sl_al : Array (Option Value)}
    {f_law cLaw : Addr} {oc_law kV_law dc_law pm_law ct_law : Value} {od_law an_law : Option Addr} {sl_law : Array (Option Value)}
    {C : Addr}
    {CT : Addr}
    {CY : Addr}
    {CC : Addr}
    {CX : Addr}
    {c0 : Addr}
    {c1 : Addr}
    {c2 : Addr}
    {c3 : Addr}
    {c4 : Addr}
    {c5 : Addr}
    {nmc0 qc0 : Str} {Nc0 : Addr} {bsc0 bmc0 : List Value} {snc0 : List Str} {subc0 : List Value} {abc0 : Bool} {colc0 : Option Bool} {ddc0 : Option Addr} {k0c0 k1c0 k2c0 k3c0 k5c0 : Option Value}
    {f_ie : Addr}
    {oc_ie kV_ie dc_ie pm_ie ct_ie : Value} {od_ie an_ie : Option Addr} {cdI_ie ccI_ie : Addr} {sl_ie : Array (Option Value)} {cclI_ie : Value} {cddI_ie : Option Addr} {vsI_ie : Array Value} {ccsI_ie : Array (Option Value)} {fileI_ie : Str} {tfI_ie : Tok} {clI_ie : Value} {cldI_ie : Option Addr} {cslI_ie : Array (Option Value)}
    {nmc1 qc1 : Str} {Nc1 : Addr} {bsc1 bmc1 : List Value} {snc1 : List Str} {subc1 : List Value} {abc1 : Bool} {colc1 : Option Bool} {ddc1 : Option Addr} {k0c1 k1c1 k2c1 k3c1 k5c1 : Option Value}
    {f_is : Addr}
    {oc_is kV_is dc_is pm_is ct_is : Value} {od_is an_is : Option Addr} {cdI_is ccI_is : Addr} {sl_is : Array (Option Value)} {cclI_is : Value} {cddI_is : Option Addr} {vsI_is : Array Value} {ccsI_is : Array (Option Value)} {fileI_is : Str} {tfI_is : Tok} {clI_is : Value} {cldI_is : Option Addr} {cslI_is : Array (Option Value)}
    {nmc2 qc2 : Str} {Nc2 : Addr} {bsc2 bmc2 : List Value} {snc2 : List Str} {subc2 : List Value} {abc2 : Bool} {colc2 : Option Bool} {ddc2 : Option Addr} {k0c2 k1c2 k2c2 k3c2 k5c2 : Option Value}
    {f_iy : Addr}
    {oc_iy kV_iy dc_iy pm_iy ct_iy : Value} {od_iy an_iy : Option Addr} {cdI_iy ccI_iy : Addr} {sl_iy : Array (Option Value)} {cclI_iy : Value} {cddI_iy : Option Addr} {vsI_iy : Array Value} {ccsI_iy : Array (Option Value)} {fileI_iy : Str} {tfI_iy : Tok} {clI_iy : Value} {cldI_iy : Option Addr} {cslI_iy : Array (Option Value)}
    {nmc3 qc3 : Str} {Nc3 : Addr} {bsc3 bmc3 : List Value} {snc3 : List Str} {subc3 : List Value} {abc3 : Bool} {colc3 : Option Bool} {ddc3 : Option Addr} {k0c3 k1c3 k2c3 k3c3 k5c3 : Option Value}
    {f_ir : Addr}
    {oc_ir kV_ir dc_ir pm_ir ct_ir : Value} {od_ir an_ir : Option Addr} {cdI_ir ccI_ir : Addr} {sl_ir : Array (Option Value)} {cclI_ir : Value} {cddI_ir : Option Addr} {vsI_ir : Array Value} {ccsI_ir : Array (Option Value)} {fileI_ir : Str} {tfI_ir : Tok} {clI_ir : Value} {cldI_ir : Option Addr} {cslI_ir : Array (Option Value)}
    {c6 : Addr}
    {nmc6 qc6 : Str} {Nc6 : Addr} {bsc6 bmc6 : List Value} {snc6 : List Str} {subc6 : List Value} {abc6 : Bool} {colc6 : Option Bool} {ddc6 : Option Addr} {k0c6 k1c6 k2c6 k3c6 k5c6 : Option Value}
    {f_ise : Addr}
    {oc_ise kV_ise dc_ise pm_ise ct_ise : Value} {od_ise an_ise : Option Addr} {cdI_ise ccI_ise : Addr} {sl_ise : Array (Option Value)} {cclI_ise : Value} {cddI_ise : Option Addr} {vsI_ise : Array Value} {ccsI_ise : Array (Option Value)} {fileI_ise : Str} {tfI_ise : Tok} {clI_ise : Value} {cldI_ise : Option Addr} {cslI_ise : Array (Option Value)}
    {c7 : Addr}
    {nmc7 qc7 : Str} {Nc7 : Addr} {bsc7 bmc7 : List Value} {snc7 : List Str} {subc7 : List Value} {abc7 : Bool} {colc7 : Option Bool} {ddc7 : Option Addr} {k0c7 k1c7 k2c7 k3c7 k5c7 : Option Value}
    {f_iup : Addr}
    {oc_iup kV_iup dc_iup pm_iup ct_iup : Value} {od_iup an_iup : Option Addr} {cdI_iup ccI_iup : Addr} {sl_iup : Array (Option Value)} {cclI_iup : Value} {cddI_iup : Option Addr} {vsI_iup : Array Value} {ccsI_iup : Array (Option Value)} {fileI_iup : Str} {tfI_iup : Tok} {clI_iup : Value} {cldI_iup : Option Addr} {cslI_iup : Array (Option Value)}
    {c8 : Addr}
    {c9 : Addr}
    {tLet : Tok} {aS : Addr}
    {tDig : Tok}
    {t_lnn : Tok}
    {t_mro : Tok}
    {t_mde : Tok}
    {t_mst : Tok}
    {t_lon : Tok}
    {t_lv : Tok}
    {t_mv : Tok}
    {t_me : Tok}
    {t_mn : Tok}
    {f_ei kD : Addr} {oc_ei dc_ei pm_ei cd_ei ct_ei : Value} {od_ei an_ei : Option Addr} {sl_ei : Array (Option Value)}
    {z1 z2 z3 : Addr}
    {ddS dd1 dd2 dd3 : Option Addr} {q0 q1 q2 q3 : Tok} {nS n1 n2 n3 : Nat} {slS sl1 sl2 sl3 : Array (Option Value)}
    {p_g0 : Addr} {rest_g0 : List Value}
    {f_g0 : Addr} {oc_g0 kV_g0 dc_g0 pm_g0 cd_g0 ct_g0 : Value} {od_g0 an_g0 : Option Addr} {sl_g0 : Array (Option Value)}
    {p_g1 : Addr} {rest_g1 : List Value}
    {f_g1 : Addr} {oc_g1 kV_g1 dc_g1 pm_g1 cd_g1 ct_g1 : Value} {od_g1 an_g1 : Option Addr} {sl_g1 : Array (Option Value)}
    {p_g2 : Addr} {rest_g2 : List Value}
    {f_g2 : Addr} {oc_g2 kV_g2 dc_g2 pm_g2 cd_g2 ct_g2 : Value} {od_g2 an_g2 : Option Addr} {sl_g2 : Array (Option Value)}
    {p_g3 : Addr} {rest_g3 : List Value}
    {f_g3 : Addr} {oc_g3 kV_g3 dc_g3 pm_g3 cd_g3 ct_g3 : Value} {od_g3 an_g3 : Option Addr} {sl_g3 : Array (Option Value)}
    {p_g4 : Addr} {rest_g4 : List Value}
    {f_g4 : Addr} {oc_g4 kV_g4 dc_g4 pm_g4 cd_g4 ct_g4 : Value} {od_g4 an_g4 : Option Addr} {sl_g4 : Array (Option Value)}
    {p_g5 : Addr} {rest_g5 : List Value}
    {f_g5 : Addr} {oc_g5 kV_g5 dc_g5 pm_g5 cd_g5 ct_g5 : Value} {od_g5 an_g5 : Option Addr} {sl_g5 : Array (Option Value)}
    {f_eq : Addr} {oc_eq kV_eq dc_eq pm_eq cd_eq ct_eq : Value} {od_eq an_eq : Option Addr} {sl_eq : Array (Option Value)}
    {nmC qC : Str} {NC : Addr} {bsC : List Value} {hdC : Bool} {snC : List Str} {subC : List Value} {abC : Bool} {colC : Option Bool} {ddC : Option Addr} {k0C k1C k2C k3C k5C : Option Value} {newC : String}
    {f_si : Addr} {oc_si kV_si dc_si pm_si cd_si ct_si : Value} {od_si an_si : Option Addr} {sl_si : Array (Option Value)}
    {p_sn : Addr} {rest_sn : List Value}
    {f_sn : Addr} {oc_sn kV_sn dc_sn pm_sn cd_sn ct_sn : Value} {od_sn an_sn : Option Addr} {sl_sn : Array (Option Value)}
    {f_sv : Addr} {oc_sv kV_sv dc_sv pm_sv cd_sv ct_sv : Value} {od_sv an_sv : Option Addr} {sl_sv : Array (Option Value)}
    {f_sl : Addr} {oc_sl kV_sl dc_sl pm_sl cd_sl ct_sl : Value} {od_sl an_sl : Option Addr} {sl_sl : Array (Option Value)}
    {f_sh : Addr} {oc_sh kV_sh dc_sh pm_sh cd_sh ct_sh : Value} {od_sh an_sh : Option Addr} {sl_sh : Array (Option Value)}
    {f_sg : Addr} {oc_sg kV_sg dc_sg pm_sg cd_sg ct_sg : Value} {od_sg an_sg : Option Addr} {sl_sg : Array (Option Value)}
    {f_se : Addr} {oc_se kV_se dc_se pm_se cd_se ct_se : Value} {od_se an_se : Option Addr} {sl_se : Array (Option Value)}
    {nmCT qCT : Str} {NCT : Addr} {bsCT : List Value} {hdCT : Bool} {snCT : List Str} {subCT : List Value} {abCT : Bool} {colCT : Option Bool} {ddCT : Option Addr} {k0CT k1CT k2CT k3CT k5CT : Option Value} {newCT : String}
    {f_yi : Addr} {oc_yi kV_yi dc_yi pm_yi cd_yi ct_yi : Value} {od_yi an_yi : Option Addr} {sl_yi : Array (Option Value)}
    {p_ys : Addr} {rest_ys : List Value}
    {f_ys : Addr} {oc_ys kV_ys dc_ys pm_ys cd_ys ct_ys : Value} {od_ys an_ys : Option Addr} {sl_ys : Array (Option Value)}
    {f_yw : Addr} {oc_yw kV_yw dc_yw pm_yw cd_yw ct_yw : Value} {od_yw an_yw : Option Addr} {sl_yw : Array (Option Value)}
    {f_yg : Addr} {oc_yg kV_yg dc_yg pm_yg cd_yg ct_yg : Value} {od_yg an_yg : Option Addr} {sl_yg : Array (Option Value)}
    {f_xi_ : Addr} {oc_xi_ kV_xi_ dc_xi_ pm_xi_ cd_xi_ ct_xi_ : Value} {od_xi_ an_xi_ : Option Addr} {sl_xi_ : Array (Option Value)}
    {f_xso : Addr} {oc_xso kV_xso dc_xso pm_xso cd_xso ct_xso : Value} {od_xso an_xso : Option Addr} {sl_xso : Array (Option Value)}
    {f_xex : Addr} {oc_xex kV_xex dc_xex pm_xex cd_xex ct_xex : Value} {od_xex an_xex : Option Addr} {sl_xex : Array (Option Value)}
    {f_xer : Addr} {oc_xer kV_xer dc_xer pm_xer cd_xer ct_xer : Value} {od_xer an_xer : Option Addr} {sl_xer : Array (Option Value)}
    {f_xsf : Addr} {oc_xsf kV_xsf dc_xsf pm_xsf cd_xsf ct_xsf : Value} {od_xsf an_xsf : Option Addr} {sl_xsf : Array (Option Value)}
    {f_xed : Addr} {oc_xed kV_xed dc_xed pm_xed cd_xed ct_xed : Value} {od_xed an_xed : Option Addr} {sl_xed : Array (Option Value)}
    {dSh aBl : Addr} {ddBl : Option Addr} {bl0 bl1 : Tok} {nBl nSh : Nat} {slBl : Array (Option Value)}
    {sh0 sh1 sh2 sh3 sh4 sh5 sh6 sh7 : Addr} {hh0 hh1 hh2 hh3 hh4 hh5 hh6 hh7 : Int} {kt0 kt1 kt2 kt3 kt4 kt5 kt6 kt7 : Tok}
    {dsh0 : Option Addr} {w0_0 w0_1 : Tok} {nsh0 : Nat} {slh0 : Array (Option Value)}
    {dsh1 : Option Addr} {w1_0 : Tok} {nsh1 : Nat} {slh1 : Array (Option Value)}
    {dsh2 : Option Addr} {w2_0 : Tok} {nsh2 : Nat} {slh2 : Array (Option Value)}
    {dsh3 : Option Addr} {w3_0 : Tok} {nsh3 : Nat} {slh3 : Array (Option Value)}
    {dsh4 : Option Addr} {w4_0 : Tok} {nsh4 : Nat} {slh4 : Array (Option Value)}
    {dsh5 : Option Addr} {w5_0 : Tok} {nsh5 : Nat} {slh5 : Array (Option Value)}
    {dsh6 : Option Addr} {w6_0 w6_1 : Tok} {nsh6 : Nat} {slh6 : Array (Option Value)}
    {dsh7 : Option Addr} {nsh7 : Nat} {slh7 : Array (Option Value)}
    {f_ye : Addr} {oc_ye kV_ye dc_ye pm_ye cd_ye ct_ye : Value} {od_ye an_ye : Option Addr} {sl_ye : Array (Option Value)}
    {nmCY qCY : Str} {NCY : Addr} {bsCY : List Value} {hdCY : Bool} {snCY : List Str} {subCY : List Value} {abCY : Bool} {colCY : Option Bool} {ddCY : Option Addr} {k0CY k1CY k2CY k3CY k5CY : Option Value} {newCY : String}
    {f_ci : Addr} {oc_ci kV_ci dc_ci pm_ci cd_ci ct_ci : Value} {od_ci an_ci : Option Addr} {sl_ci : Array (Option Value)}
    {f_fa : Addr} {oc_fa kV_fa dc_fa pm_fa cd_fa ct_fa : Value} {od_fa an_fa : Option Addr} {sl_fa : Array (Option Value)}
    {f_play tP zP : Addr} {oc_play kV_play dc_play pm_play cd_play ct_play ocP : Value} {od_play an_play odP ddP : Option Addr} {sl_play slP slzP : Array (Option Value)} {nP nzP : Nat}
    {aR : Addr} {es_aR : Array DictEntry} {n_aR : Nat}
    {aC : Addr} {es_aC : Array DictEntry} {n_aC : Nat}
    {aP : Addr} {ddQ : Option Addr} {s0 s1' : Tok} {nQ : Nat} {slQ : Array (Option Value)}
    {aT aA : Addr} {ddT ddA : Option Addr} {u0 u1 u2 u3 b0 b1 b2 : Tok} {nT' nA : Nat} {slT slA : Array (Option Value)}
    {aZ : Addr} {ddZ : Option Addr} {e0 e1 e2 e3 e4 e5 : Tok} {nZ : Nat} {slZ : Array (Option Value)}
    (n_int : PySem.W.nsIn K mainGlobals "int" = some none)
    (n_len : PySem.W.nsIn K mainGlobals "len" = some none)
    (n_isinstance : PySem.W.nsIn K mainGlobals "isinstance" = some none)
    (n_str : PySem.W.nsIn K mainGlobals "str" = some none)
    (n_bool : PySem.W.nsIn K mainGlobals "bool" = some none)
    (n_tuple : PySem.W.nsIn K mainGlobals "tuple" = some none)
    (n_all : PySem.W.nsIn K mainGlobals "all" = some none)
    (n_range : PySem.W.nsIn K mainGlobals "range" = some none)
    (n_ValueError : PySem.W.nsIn K mainGlobals "ValueError" = some none)
    (n_super : PySem.W.nsIn K mainGlobals "super" = some none)
    (n_set : PySem.W.nsIn K mainGlobals "set" = some none)
    (n_sorted : PySem.W.nsIn K mainGlobals "sorted" = some none)
    (n_list : PySem.W.nsIn K mainGlobals "list" = some none)
    (n_enumerate : PySem.W.nsIn K mainGlobals "enumerate" = some none)
    (n_dict : PySem.W.nsIn K mainGlobals "dict" = some none)
    (n_any : PySem.W.nsIn K mainGlobals "any" = some none)
    (n_min : PySem.W.nsIn K mainGlobals "min" = some none)
    (n_max : PySem.W.nsIn K mainGlobals "max" = some none)
    (n_zip : PySem.W.nsIn K mainGlobals "zip" = some none)
    (a_word : PySem.W.nsIn K mainGlobals "is_word" = some (some (.ref f_word)))
    (l_word : K.lookup f_word = some ⟨oc_word, od_word, .func (PySem.W.fnOf "is_word" "is_word" (defArgs sWord) (defBody sWord) (defScope sWord) .none kV_word dc_word pm_word an_word cd_word ct_word), sl_word⟩)
    (c_word : PySem.W.codeIn K cd_word "is_word" = true)
    (k_word : PySem.W.keepIn K (.ref f_word) = true)
    (a_numb : PySem.W.nsIn K mainGlobals "is_number" = some (some (.ref f_numb)))
    (l_numb : K.lookup f_numb = some ⟨oc_numb, od_numb, .func (PySem.W.fnOf "is_number" "is_number" (defArgs sNumber) (defBody sNumber) (defScope sNumber) .none kV_numb dc_numb pm_numb an_numb cd_numb ct_numb), sl_numb⟩)
    (c_numb : PySem.W.codeIn K cd_numb "is_number" = true)
    (k_numb : PySem.W.keepIn K (.ref f_numb) = true)
    (a_asc : PySem.W.nsIn K mainGlobals "ascends" = some (some (.ref f_asc)))
    (l_asc : K.lookup f_asc = some ⟨oc_asc, od_asc, .func (PySem.W.fnOf "ascends" "ascends" (defArgs sAscends) (defBody sAscends) (defScope sAscends) .none kV_asc dc_asc pm_asc an_asc cd_asc ct_asc), sl_asc⟩)
    (c_asc : PySem.W.codeIn K cd_asc "ascends" = true)
    (k_asc : PySem.W.keepIn K (.ref f_asc) = true)
    (a_vers : PySem.W.nsIn K mainGlobals "is_version" = some (some (.ref f_vers)))
    (l_vers : K.lookup f_vers = some ⟨oc_vers, od_vers, .func (PySem.W.fnOf "is_version" "is_version" (defArgs sVersion) (defBody sVersion) (defScope sVersion) .none kV_vers dc_vers pm_vers an_vers cd_vers ct_vers), sl_vers⟩)
    (c_vers : PySem.W.codeIn K cd_vers "is_version" = true)
    (k_vers : PySem.W.keepIn K (.ref f_vers) = true)
    (a_scri : PySem.W.nsIn K mainGlobals "are_scripts" = some (some (.ref f_scri)))
    (l_scri : K.lookup f_scri = some ⟨oc_scri, od_scri, .func (PySem.W.fnOf "are_scripts" "are_scripts" (defArgs sScripts) (defBody sScripts) (defScope sScripts) .none kV_scri dc_scri pm_scri an_scri cd_scri ct_scri), sl_scri⟩)
    (c_scri : PySem.W.codeIn K cd_scri "are_scripts" = true)
    (k_scri : PySem.W.keepIn K (.ref f_scri) = true)
    (a_othe : PySem.W.nsIn K mainGlobals "are_other_names" = some (some (.ref f_othe)))
    (l_othe : K.lookup f_othe = some ⟨oc_othe, od_othe, .func (PySem.W.fnOf "are_other_names" "are_other_names" (defArgs sOthers) (defBody sOthers) (defScope sOthers) .none kV_othe dc_othe pm_othe an_othe cd_othe ct_othe), sl_othe⟩)
    (c_othe : PySem.W.codeIn K cd_othe "are_other_names" = true)
    (k_othe : PySem.W.keepIn K (.ref f_othe) = true)
    (a_pair : PySem.W.nsIn K mainGlobals "is_pair_with_version" = some (some (.ref f_pair)))
    (l_pair : K.lookup f_pair = some ⟨oc_pair, od_pair, .func (PySem.W.fnOf "is_pair_with_version" "is_pair_with_version" (defArgs sPair) (defBody sPair) (defScope sPair) .none kV_pair dc_pair pm_pair an_pair cd_pair ct_pair), sl_pair⟩)
    (c_pair : PySem.W.codeIn K cd_pair "is_pair_with_version" = true)
    (k_pair : PySem.W.keepIn K (.ref f_pair) = true)
    (a_need : PySem.W.nsIn K mainGlobals "are_needs" = some (some (.ref f_need)))
    (l_need : K.lookup f_need = some ⟨oc_need, od_need, .func (PySem.W.fnOf "are_needs" "are_needs" (defArgs sNeeds) (defBody sNeeds) (defScope sNeeds) .none kV_need dc_need pm_need an_need cd_need ct_need), sl_need⟩)
    (c_need : PySem.W.codeIn K cd_need "are_needs" = true)
    (k_need : PySem.W.keepIn K (.ref f_need) = true)
    (a_wron : PySem.W.nsIn K mainGlobals "wrong_part" = some (some (.ref f_wron)))
    (l_wron : K.lookup f_wron = some ⟨oc_wron, od_wron, .func (PySem.W.fnOf "wrong_part" "wrong_part" (defArgs sWrong) (defBody sWrong) (defScope sWrong) .none kV_wron dc_wron pm_wron an_wron cd_wron ct_wron), sl_wron⟩)
    (c_wron : PySem.W.codeIn K cd_wron "wrong_part" = true)
    (k_wron : PySem.W.keepIn K (.ref f_wron) = true)
    (a_wi : PySem.W.nsIn K mainGlobals "wrong_index" = some (some (.ref f_wi)))
    (l_wi : K.lookup f_wi = some ⟨oc_wi, od_wi, .func (PySem.W.fnOf "wrong_index" "wrong_index" (defArgs sWi) (defBody sWi) (defScope sWi) .none kV_wi dc_wi pm_wi an_wi cd_wi ct_wi), sl_wi⟩)
    (c_wi : PySem.W.codeIn K cd_wi "wrong_index" = true)
    (k_wi : PySem.W.keepIn K (.ref f_wi) = true)
    (a_vn : PySem.W.nsIn K mainGlobals "versions_by_name" = some (some (.ref f_vn)))
    (l_vn : K.lookup f_vn = some ⟨oc_vn, od_vn, .func (PySem.W.fnOf "versions_by_name" "versions_by_name" (defArgs sVn) (defBody sVn) (defScope sVn) .none kV_vn dc_vn pm_vn an_vn cd_vn ct_vn), sl_vn⟩)
    (c_vn : PySem.W.codeIn K cd_vn "versions_by_name" = true)
    (k_vn : PySem.W.keepIn K (.ref f_vn) = true)
    (a_take : PySem.W.nsIn K mainGlobals "_law_taken" = some (some (.ref f_take)))
    (l_take : K.lookup f_take = some ⟨oc_take, od_take, .func (PySem.W.fnOf "_law_taken" "_law_taken" (defArgs sTaken) (defBody sTaken) (defScope sTaken) .none kV_take dc_take pm_take an_take cd_take ct_take), sl_take⟩)
    (c_take : PySem.W.codeIn K cd_take "_law_taken" = true)
    (k_take : PySem.W.keepIn K (.ref f_take) = true)
    (a_ist : PySem.W.nsIn K mainGlobals "is_state" = some (some (.ref f_ist)))
    (l_ist : K.lookup f_ist = some ⟨oc_ist, od_ist, .func (PySem.W.fnOf "is_state" "is_state" (defArgs sIst) (defBody sIst) (defScope sIst) .none kV_ist dc_ist pm_ist an_ist cd_ist ct_ist), sl_ist⟩)
    (c_ist : PySem.W.codeIn K cd_ist "is_state" = true)
    (k_ist : PySem.W.keepIn K (.ref f_ist) = true)
    (a_wp : PySem.W.nsIn K mainGlobals "wrong_package" = some (some (.ref f_wp)))
    (l_wp : K.lookup f_wp = some ⟨oc_wp, od_wp, .func (PySem.W.fnOf "wrong_package" "wrong_package" (defArgs sWp) (defBody sWp) (defScope sWp) .none kV_wp dc_wp pm_wp an_wp cd_wp ct_wp), sl_wp⟩)
    (c_wp : PySem.W.codeIn K cd_wp "wrong_package" = true)
    (k_wp : PySem.W.keepIn K (.ref f_wp) = true)
    (a_ith : PySem.W.nsIn K mainGlobals "is_there" = some (some (.ref f_ith)))
    (l_ith : K.lookup f_ith = some ⟨oc_ith, od_ith, .func (PySem.W.fnOf "is_there" "is_there" (defArgs sIth) (defBody sIth) (defScope sIth) .none kV_ith dc_ith pm_ith an_ith cd_ith ct_ith), sl_ith⟩)
    (c_ith : PySem.W.codeIn K cd_ith "is_there" = true)
    (k_ith : PySem.W.keepIn K (.ref f_ith) = true)
    (a_eo : PySem.W.nsIn K mainGlobals "edition_of" = some (some (.ref f_eo)))
    (l_eo : K.lookup f_eo = some ⟨oc_eo, od_eo, .func (PySem.W.fnOf "edition_of" "edition_of" (defArgs sEo) (defBody sEo) (defScope sEo) .none kV_eo dc_eo pm_eo an_eo cd_eo ct_eo), sl_eo⟩)
    (c_eo : PySem.W.codeIn K cd_eo "edition_of" = true)
    (k_eo : PySem.W.keepIn K (.ref f_eo) = true)
    (a_met : PySem.W.nsIn K mainGlobals "is_met" = some (some (.ref f_met)))
    (l_met : K.lookup f_met = some ⟨oc_met, od_met, .func (PySem.W.fnOf "is_met" "is_met" (defArgs sMet) (defBody sMet) (defScope sMet) .none kV_met dc_met pm_met an_met cd_met ct_met), sl_met⟩)
    (c_met : PySem.W.codeIn K cd_met "is_met" = true)
    (k_met : PySem.W.keepIn K (.ref f_met) = true)
    (a_un : PySem.W.nsIn K mainGlobals "unmet_names" = some (some (.ref f_un)))
    (l_un : K.lookup f_un = some ⟨oc_un, od_un, .func (PySem.W.fnOf "unmet_names" "unmet_names" (defArgs sUn) (defBody sUn) (defScope sUn) .none kV_un dc_un pm_un an_un cd_un ct_un), sl_un⟩)
    (c_un : PySem.W.codeIn K cd_un "unmet_names" = true)
    (k_un : PySem.W.keepIn K (.ref f_un) = true)
    (a_ag : PySem.W.nsIn K mainGlobals "are_against" = some (some (.ref f_ag)))
    (l_ag : K.lookup f_ag = some ⟨oc_ag, od_ag, .func (PySem.W.fnOf "are_against" "are_against" (defArgs sAg) (defBody sAg) (defScope sAg) .none kV_ag dc_ag pm_ag an_ag cd_ag ct_ag), sl_ag⟩)
    (c_ag : PySem.W.codeIn K cd_ag "are_against" = true)
    (k_ag : PySem.W.keepIn K (.ref f_ag) = true)
    (a_nag : PySem.W.nsIn K mainGlobals "names_against" = some (some (.ref f_nag)))
    (l_nag : K.lookup f_nag = some ⟨oc_nag, od_nag, .func (PySem.W.fnOf "names_against" "names_against" (defArgs sNa) (defBody sNa) (defScope sNa) .none kV_nag dc_nag pm_nag an_nag cd_nag ct_nag), sl_nag⟩)
    (c_nag : PySem.W.codeIn K cd_nag "names_against" = true)
    (k_nag : PySem.W.keepIn K (.ref f_nag) = true)
    (a_ur : PySem.W.nsIn K mainGlobals "unpack_refusal" = some (some (.ref f_ur)))
    (l_ur : K.lookup f_ur = some ⟨oc_ur, od_ur, .func (PySem.W.fnOf "unpack_refusal" "unpack_refusal" (defArgs sUr) (defBody sUr) (defScope sUr) .none kV_ur dc_ur pm_ur an_ur cd_ur ct_ur), sl_ur⟩)
    (c_ur : PySem.W.codeIn K cd_ur "unpack_refusal" = true)
    (k_ur : PySem.W.keepIn K (.ref f_ur) = true)
    (a_sr : PySem.W.nsIn K mainGlobals "setup_refusal" = some (some (.ref f_sr)))
    (l_sr : K.lookup f_sr = some ⟨oc_sr, od_sr, .func (PySem.W.fnOf "setup_refusal" "setup_refusal" (defArgs sSr) (defBody sSr) (defScope sSr) .none kV_sr dc_sr pm_sr an_sr cd_sr ct_sr), sl_sr⟩)
    (c_sr : PySem.W.codeIn K cd_sr "setup_refusal" = true)
    (k_sr : PySem.W.keepIn K (.ref f_sr) = true)
    (a_nn : PySem.W.nsIn K mainGlobals "needs_name" = some (some (.ref f_nn)))
    (l_nn : K.lookup f_nn = some ⟨oc_nn, od_nn, .func (PySem.W.fnOf "needs_name" "needs_name" (defArgs sNn) (defBody sNn) (defScope sNn) .none kV_nn dc_nn pm_nn an_nn cd_nn ct_nn), sl_nn⟩)
    (c_nn : PySem.W.codeIn K cd_nn "needs_name" = true)
    (k_nn : PySem.W.keepIn K (.ref f_nn) = true)
    (a_rr : PySem.W.nsIn K mainGlobals "remove_refusal" = some (some (.ref f_rr)))
    (l_rr : K.lookup f_rr = some ⟨oc_rr, od_rr, .func (PySem.W.fnOf "remove_refusal" "remove_refusal" (defArgs sRr) (defBody sRr) (defScope sRr) .none kV_rr dc_rr pm_rr an_rr cd_rr ct_rr), sl_rr⟩)
    (c_rr : PySem.W.codeIn K cd_rr "remove_refusal" = true)
    (k_rr : PySem.W.keepIn K (.ref f_rr) = true)
    (a_pr : PySem.W.nsIn K mainGlobals "purge_refusal" = some (some (.ref f_pr)))
    (l_pr : K.lookup f_pr = some ⟨oc_pr, od_pr, .func (PySem.W.fnOf "purge_refusal" "purge_refusal" (defArgs sPr) (defBody sPr) (defScope sPr) .none kV_pr dc_pr pm_pr an_pr cd_pr ct_pr), sl_pr⟩)
    (c_pr : PySem.W.codeIn K cd_pr "purge_refusal" = true)
    (k_pr : PySem.W.keepIn K (.ref f_pr) = true)
    (a_ref : PySem.W.nsIn K mainGlobals "refusal" = some (some (.ref f_ref)))
    (l_ref : K.lookup f_ref = some ⟨oc_ref, od_ref, .func (PySem.W.fnOf "refusal" "refusal" (defArgs sRef) (defBody sRef) (defScope sRef) .none kV_ref dc_ref pm_ref an_ref cd_ref ct_ref), sl_ref⟩)
    (c_ref : PySem.W.codeIn K cd_ref "refusal" = true)
    (k_ref : PySem.W.keepIn K (.ref f_ref) = true)
    (a_inst : PySem.W.nsIn K mainGlobals "install" = some (some (.ref f_inst)))
    (l_inst : K.lookup f_inst = some ⟨oc_inst, od_inst, .func (PySem.W.fnOf "install" "install" (defArgs sInst) (defBody sInst) (defScope sInst) .none kV_inst dc_inst pm_inst an_inst cd_inst ct_inst), sl_inst⟩)
    (c_inst : PySem.W.codeIn K cd_inst "install" = true)
    (k_inst : PySem.W.keepIn K (.ref f_inst) = true)
    (a_both : PySem.W.nsIn K mainGlobals "both_fail" = some (some (.ref f_both)))
    (l_both : K.lookup f_both = some ⟨oc_both, od_both, .func (PySem.W.fnOf "both_fail" "both_fail" (defArgs sBoth) (defBody sBoth) (defScope sBoth) .none kV_both dc_both pm_both an_both cd_both ct_both), sl_both⟩)
    (c_both : PySem.W.codeIn K cd_both "both_fail" = true)
    (k_both : PySem.W.keepIn K (.ref f_both) = true)
    (a_upg : PySem.W.nsIn K mainGlobals "upgrade" = some (some (.ref f_upg)))
    (l_upg : K.lookup f_upg = some ⟨oc_upg, od_upg, .func (PySem.W.fnOf "upgrade" "upgrade" (defArgs sUpg) (defBody sUpg) (defScope sUpg) .none kV_upg dc_upg pm_upg an_upg cd_upg ct_upg), sl_upg⟩)
    (c_upg : PySem.W.codeIn K cd_upg "upgrade" = true)
    (k_upg : PySem.W.keepIn K (.ref f_upg) = true)
    (a_putb : PySem.W.nsIn K mainGlobals "put_back" = some (some (.ref f_putb)))
    (l_putb : K.lookup f_putb = some ⟨oc_putb, od_putb, .func (PySem.W.fnOf "put_back" "put_back" (defArgs sPutB) (defBody sPutB) (defScope sPutB) .none kV_putb dc_putb pm_putb an_putb cd_putb ct_putb), sl_putb⟩)
    (c_putb : PySem.W.codeIn K cd_putb "put_back" = true)
    (k_putb : PySem.W.keepIn K (.ref f_putb) = true)
    (a_unp : PySem.W.nsIn K mainGlobals "unpack" = some (some (.ref f_unp)))
    (l_unp : K.lookup f_unp = some ⟨oc_unp, od_unp, .func (PySem.W.fnOf "unpack" "unpack" (defArgs sUnp) (defBody sUnp) (defScope sUnp) .none kV_unp dc_unp pm_unp an_unp cd_unp ct_unp), sl_unp⟩)
    (c_unp : PySem.W.codeIn K cd_unp "unpack" = true)
    (k_unp : PySem.W.keepIn K (.ref f_unp) = true)
    (a_sup : PySem.W.nsIn K mainGlobals "set_up" = some (some (.ref f_sup)))
    (l_sup : K.lookup f_sup = some ⟨oc_sup, od_sup, .func (PySem.W.fnOf "set_up" "set_up" (defArgs sSup) (defBody sSup) (defScope sSup) .none kV_sup dc_sup pm_sup an_sup cd_sup ct_sup), sl_sup⟩)
    (c_sup : PySem.W.codeIn K cd_sup "set_up" = true)
    (k_sup : PySem.W.keepIn K (.ref f_sup) = true)
    (a_tout : PySem.W.nsIn K mainGlobals "take_out" = some (some (.ref f_tout)))
    (l_tout : K.lookup f_tout = some ⟨oc_tout, od_tout, .func (PySem.W.fnOf "take_out" "take_out" (defArgs sTout) (defBody sTout) (defScope sTout) .none kV_tout dc_tout pm_tout an_tout cd_tout ct_tout), sl_tout⟩)
    (c_tout : PySem.W.codeIn K cd_tout "take_out" = true)
    (k_tout : PySem.W.keepIn K (.ref f_tout) = true)
    (a_purg : PySem.W.nsIn K mainGlobals "purge" = some (some (.ref f_purg)))
    (l_purg : K.lookup f_purg = some ⟨oc_purg, od_purg, .func (PySem.W.fnOf "purge" "purge" (defArgs sPurg) (defBody sPurg) (defScope sPurg) .none kV_purg dc_purg pm_purg an_purg cd_purg ct_purg), sl_purg⟩)
    (c_purg : PySem.W.codeIn K cd_purg "purge" = true)
    (k_purg : PySem.W.keepIn K (.ref f_purg) = true)
    (a_cb : PySem.W.nsIn K mainGlobals "check_beginning" = some (some (.ref f_cb)))
    (l_cb : K.lookup f_cb = some ⟨oc_cb, od_cb, .func (PySem.W.fnOf "check_beginning" "check_beginning" (defArgs sCb) (defBody sCb) (defScope sCb) .none kV_cb dc_cb pm_cb an_cb cd_cb ct_cb), sl_cb⟩)
    (c_cb : PySem.W.codeIn K cd_cb "check_beginning" = true)
    (k_cb : PySem.W.keepIn K (.ref f_cb) = true)
    (a_run : PySem.W.nsIn K mainGlobals "run" = some (some (.ref f_run)))
    (l_run : K.lookup f_run = some ⟨oc_run, od_run, .func (PySem.W.fnOf "run" "run" (defArgs sRun) (defBody sRun) (defScope sRun) .none kV_run dc_run pm_run an_run cd_run ct_run), sl_run⟩)
    (c_run : PySem.W.codeIn K cd_run "run" = true)
    (k_run : PySem.W.keepIn K (.ref f_run) = true)
    (a_nml : PySem.W.nsIn K mainGlobals "is_numeral" = some (some (.ref f_nml)))
    (l_nml : K.lookup f_nml = some ⟨oc_nml, od_nml, .func (PySem.W.fnOf "is_numeral" "is_numeral" (defArgs sNml) (defBody sNml) (defScope sNml) .none kV_nml dc_nml pm_nml an_nml cd_nml ct_nml), sl_nml⟩)
    (c_nml : PySem.W.codeIn K cd_nml "is_numeral" = true)
    (k_nml : PySem.W.keepIn K (.ref f_nml) = true)
    (a_fits : PySem.W.nsIn K mainGlobals "fits" = some (some (.ref f_fits)))
    (l_fits : K.lookup f_fits = some ⟨oc_fits, od_fits, .func (PySem.W.fnOf "fits" "fits" (defArgs sFits) (defBody sFits) (defScope sFits) .none kV_fits dc_fits pm_fits an_fits cd_fits ct_fits), sl_fits⟩)
    (c_fits : PySem.W.codeIn K cd_fits "fits" = true)
    (k_fits : PySem.W.keepIn K (.ref f_fits) = true)
    (a_irw : PySem.W.nsIn K mainGlobals "is_row" = some (some (.ref f_irw)))
    (l_irw : K.lookup f_irw = some ⟨oc_irw, od_irw, .func (PySem.W.fnOf "is_row" "is_row" (defArgs sIrw) (defBody sIrw) (defScope sIrw) .none kV_irw dc_irw pm_irw an_irw cd_irw ct_irw), sl_irw⟩)
    (c_irw : PySem.W.codeIn K cd_irw "is_row" = true)
    (k_irw : PySem.W.keepIn K (.ref f_irw) = true)
    (a_cst : PySem.W.nsIn K mainGlobals "can_stand" = some (some (.ref f_cst)))
    (l_cst : K.lookup f_cst = some ⟨oc_cst, od_cst, .func (PySem.W.fnOf "can_stand" "can_stand" (defArgs sCst) (defBody sCst) (defScope sCst) .none kV_cst dc_cst pm_cst an_cst cd_cst ct_cst), sl_cst⟩)
    (c_cst : PySem.W.codeIn K cd_cst "can_stand" = true)
    (k_cst : PySem.W.keepIn K (.ref f_cst) = true)
    (a_ro : PySem.W.nsIn K mainGlobals "rows_of" = some (some (.ref f_ro)))
    (l_ro : K.lookup f_ro = some ⟨oc_ro, od_ro, .func (PySem.W.fnOf "rows_of" "rows_of" (defArgs sRo) (defBody sRo) (defScope sRo) .none kV_ro dc_ro pm_ro an_ro cd_ro ct_ro), sl_ro⟩)
    (c_ro : PySem.W.codeIn K cd_ro "rows_of" = true)
    (k_ro : PySem.W.keepIn K (.ref f_ro) = true)
    (a_ble : PySem.W.nsIn K mainGlobals "block_ends" = some (some (.ref f_ble)))
    (l_ble : K.lookup f_ble = some ⟨oc_ble, od_ble, .func (PySem.W.fnOf "block_ends" "block_ends" (defArgs sBle) (defBody sBle) (defScope sBle) .none kV_ble dc_ble pm_ble an_ble cd_ble ct_ble), sl_ble⟩)
    (c_ble : PySem.W.codeIn K cd_ble "block_ends" = true)
    (k_ble : PySem.W.keepIn K (.ref f_ble) = true)
    (a_rsc : PySem.W.nsIn K mainGlobals "run_script" = some (some (.ref f_rsc)))
    (l_rsc : K.lookup f_rsc = some ⟨oc_rsc, od_rsc, .func (PySem.W.fnOf "run_script" "run_script" (defArgs sRsc) (defBody sRsc) (defScope sRsc) .none kV_rsc dc_rsc pm_rsc an_rsc cd_rsc ct_rsc), sl_rsc⟩)
    (c_rsc : PySem.W.codeIn K cd_rsc "run_script" = true)
    (k_rsc : PySem.W.keepIn K (.ref f_rsc) = true)
    (a_flt : PySem.W.nsIn K mainGlobals "_law_fault" = some (some (.ref f_flt)))
    (l_flt : K.lookup f_flt = some ⟨oc_flt, od_flt, .func (PySem.W.fnOf "_law_fault" "_law_fault" (defArgs sFlt) (defBody sFlt) (defScope sFlt) .none kV_flt dc_flt pm_flt an_flt cd_flt ct_flt), sl_flt⟩)
    (c_flt : PySem.W.codeIn K cd_flt "_law_fault" = true)
    (k_flt : PySem.W.keepIn K (.ref f_flt) = true)
    (a_al : PySem.W.nsIn K mainGlobals "_law_are_long" = some (some (.ref f_al)))
    (l_al : K.lookup f_al = some ⟨oc_al, od_al, .func (PySem.W.fnOf "_law_are_long" "_law_are_long" (defArgs sAl) (defBody sAl) (defScope sAl) .none kV_al dc_al pm_al an_al cd_al ct_al), sl_al⟩)
    (c_al : PySem.W.codeIn K cd_al "_law_are_long" = true)
    (k_al : PySem.W.keepIn K (.ref f_al) = true)
    (a_law : PySem.W.nsIn K mainGlobals "law" = some (some (.ref f_law)))
    (l_law : K.lookup f_law = some ⟨oc_law, od_law, .func (PySem.W.fnOf "law" "law" (defArgs sLaw) (defBody sLaw) (defScope sLaw) .none kV_law dc_law pm_law an_law (.ref cLaw) ct_law), sl_law⟩)
    (c_law : PySem.W.codeIn K (.ref cLaw) "law" = true)
    (k_law : PySem.W.keepIn K (.ref f_law) = true)
    (g_C : PySem.W.nsIn K mainGlobals "Edition" = some (some (.ref C)))
    (g_CT : PySem.W.nsIn K mainGlobals "Store" = some (some (.ref CT)))
    (g_CY : PySem.W.nsIn K mainGlobals "System" = some (some (.ref CY)))
    (g_CC : PySem.W.nsIn K mainGlobals "Caller" = some (some (.ref CC)))
    (g_CX : PySem.W.nsIn K mainGlobals "Execution" = some (some (.ref CX)))
    (pg_CX : PySem.W.plainGet K CX Str.empty = true)
    (hd_CX : PySem.W.hasDictIn K CX = true)
    (po_CX : PySem.W.plainOver K CX = true)
    (sa_CX : PySem.W.findIn K (.ref CX) "__setattr__" = some (some (.builtin "object.__setattr__")))
    (ha_CX : PySem.W.findIn K (.ref CX) "__class__" = some (some (.builtin "object.__class__")))
    (hm_CX : PySem.W.mroIn K CX (.type "object") = some true)
    (ki_CX : PySem.W.kitOne K (.ref CX) (.ref CX) = some true)
    (hn : PySem.W.specialIn K (.builtin "object.__class__") "__get__" = some (some (.builtin "getset_descriptor.__get__")))
    (ht : PySem.W.takesIn K (.builtin "object.__class__") = some true)
    (pg_C : PySem.W.plainGet K C Str.empty = true)
    (hd_C : PySem.W.hasDictIn K C = true)
    (po_C : PySem.W.plainOver K C = true)
    (sa_C : PySem.W.findIn K (.ref C) "__setattr__" = some (some (.builtin "object.__setattr__")))
    (ha_C : PySem.W.findIn K (.ref C) "__class__" = some (some (.builtin "object.__class__")))
    (hm_C : PySem.W.mroIn K C (.type "object") = some true)
    (ki_C : PySem.W.kitOne K (.ref C) (.ref C) = some true)
    (pg_CT : PySem.W.plainGet K CT Str.empty = true)
    (hd_CT : PySem.W.hasDictIn K CT = true)
    (po_CT : PySem.W.plainOver K CT = true)
    (sa_CT : PySem.W.findIn K (.ref CT) "__setattr__" = some (some (.builtin "object.__setattr__")))
    (ha_CT : PySem.W.findIn K (.ref CT) "__class__" = some (some (.builtin "object.__class__")))
    (hm_CT : PySem.W.mroIn K CT (.type "object") = some true)
    (ki_CT : PySem.W.kitOne K (.ref CT) (.ref CT) = some true)
    (pg_CY : PySem.W.plainGet K CY Str.empty = true)
    (hd_CY : PySem.W.hasDictIn K CY = true)
    (po_CY : PySem.W.plainOver K CY = true)
    (sa_CY : PySem.W.findIn K (.ref CY) "__setattr__" = some (some (.builtin "object.__setattr__")))
    (ha_CY : PySem.W.findIn K (.ref CY) "__class__" = some (some (.builtin "object.__class__")))
    (hm_CY : PySem.W.mroIn K CY (.type "object") = some true)
    (ki_CY : PySem.W.kitOne K (.ref CY) (.ref CY) = some true)
    (pg_CC : PySem.W.plainGet K CC Str.empty = true)
    (hd_CC : PySem.W.hasDictIn K CC = true)
    (po_CC : PySem.W.plainOver K CC = true)
    (sa_CC : PySem.W.findIn K (.ref CC) "__setattr__" = some (some (.builtin "object.__setattr__")))
    (ha_CC : PySem.W.findIn K (.ref CC) "__class__" = some (some (.builtin "object.__class__")))
    (hm_CC : PySem.W.mroIn K CC (.type "object") = some true)
    (ki_CC : PySem.W.kitOne K (.ref CC) (.ref CC) = some true)
    (g_c0 : PySem.W.nsIn K mainGlobals "InvalidEdition" = some (some (.ref c0)))
    (g_c1 : PySem.W.nsIn K mainGlobals "InvalidStore" = some (some (.ref c1)))
    (g_c2 : PySem.W.nsIn K mainGlobals "InvalidSystem" = some (some (.ref c2)))
    (g_c3 : PySem.W.nsIn K mainGlobals "Refused" = some (some (.ref c3)))
    (g_c4 : PySem.W.nsIn K mainGlobals "UnknownEdition" = some (some (.ref c4)))
    (g_c5 : PySem.W.nsIn K mainGlobals "UnknownName" = some (some (.ref c5)))
    (ex_c0 : PySem.W.subIn K (.ref c0) (.type "BaseException") = some true)
    (nf_c0 : PySem.W.findIn K (.ref c0) "part" = some none)
    (ex_c1 : PySem.W.subIn K (.ref c1) (.type "BaseException") = some true)
    (nf_c1 : PySem.W.findIn K (.ref c1) "index" = some none)
    (ex_c2 : PySem.W.subIn K (.ref c2) (.type "BaseException") = some true)
    (nf_c2 : PySem.W.findIn K (.ref c2) "package" = some none)
    (ex_c3 : PySem.W.subIn K (.ref c3) (.type "BaseException") = some true)
    (nf_c3 : PySem.W.findIn K (.ref c3) "why" = some none)
    (ocl_c0 : K.lookup c0 = some (excClassObj nmc0 qc0 c0 Nc0 bsc0 bmc0 true snc0 subc0 abc0 colc0 ddc0 k0c0 k1c0 k2c0 k3c0 k5c0 "ValueError.__new__"))
    (ove_c0 : PySem.HandSPX.refsVE bmc0 = true)
    (osa_c0 : PySem.W.findIn K (.ref c0) "__setattr__" = some (some (.builtin "object.__setattr__")))
    (oty_c0 : PySem.W.typeIn K (.ref c0) = some (.type "type"))
    (okc_c0 : PySem.W.keepIn K (.ref c0) = true)
    (osb_c0 : PySem.W.mroIn K c0 (.ref c0) = some true)
    (osu_c0 : PySem.W.ks_superIn K c0 c0 "__init__" = some (some (.builtin "ValueError.__init__")))
    (osv_c0 : PySem.W.subIn K (.ref c0) (.type "ValueError") = some true)
    (o_op : PySem.W.nsIn K cStatics "thirdparty.any" = some none)
    (o_top : (l.prog.main.scope.names.lookup ("super" : Str)).isSome = false)
    (a_ie : PySem.W.findIn K (.ref c0) "__init__" = some (some (.ref f_ie)))
    (y_ie : PySem.W.typeIn K (.ref f_ie) = some (.type "function"))
    (l_ie : K.lookup f_ie = some ⟨oc_ie, od_ie, .func (PySem.W.ksFn "__init__" "InvalidEdition.__init__" (defArgs sIe) (defBody sIe) (defScope sIe) .none kV_ie dc_ie pm_ie an_ie (.ref cdI_ie) ct_ie ccI_ie), sl_ie⟩)
    (c_ie : PySem.W.codeIn K (.ref cdI_ie) "InvalidEdition.__init__" = true)
    (e_ie : K.lookup cdI_ie = some ⟨cclI_ie, cddI_ie, .fields vsI_ie, ccsI_ie⟩)
    (f2_ie : vsI_ie[2]? = some (.str fileI_ie tfI_ie))
    (fl_ie : ((l.prog.main.file : Str) == fileI_ie) = true)
    (ce_ie : K.lookup ccI_ie = some ⟨clI_ie, cldI_ie, .cell (some (.ref c0)), cslI_ie⟩)
    (ocl_c1 : K.lookup c1 = some (excClassObj nmc1 qc1 c1 Nc1 bsc1 bmc1 true snc1 subc1 abc1 colc1 ddc1 k0c1 k1c1 k2c1 k3c1 k5c1 "ValueError.__new__"))
    (ove_c1 : PySem.HandSPX.refsVE bmc1 = true)
    (osa_c1 : PySem.W.findIn K (.ref c1) "__setattr__" = some (some (.builtin "object.__setattr__")))
    (oty_c1 : PySem.W.typeIn K (.ref c1) = some (.type "type"))
    (okc_c1 : PySem.W.keepIn K (.ref c1) = true)
    (osb_c1 : PySem.W.mroIn K c1 (.ref c1) = some true)
    (osu_c1 : PySem.W.ks_superIn K c1 c1 "__init__" = some (some (.builtin "ValueError.__init__")))
    (osv_c1 : PySem.W.subIn K (.ref c1) (.type "ValueError") = some true)
    (a_is : PySem.W.findIn K (.ref c1) "__init__" = some (some (.ref f_is)))
    (y_is : PySem.W.typeIn K (.ref f_is) = some (.type "function"))
    (l_is : K.lookup f_is = some ⟨oc_is, od_is, .func (PySem.W.ksFn "__init__" "InvalidStore.__init__" (defArgs sIs) (defBody sIs) (defScope sIs) .none kV_is dc_is pm_is an_is (.ref cdI_is) ct_is ccI_is), sl_is⟩)
    (c_is : PySem.W.codeIn K (.ref cdI_is) "InvalidStore.__init__" = true)
    (e_is : K.lookup cdI_is = some ⟨cclI_is, cddI_is, .fields vsI_is, ccsI_is⟩)
    (f2_is : vsI_is[2]? = some (.str fileI_is tfI_is))
    (fl_is : ((l.prog.main.file : Str) == fileI_is) = true)
    (ce_is : K.lookup ccI_is = some ⟨clI_is, cldI_is, .cell (some (.ref c1)), cslI_is⟩)
    (ocl_c2 : K.lookup c2 = some (excClassObj nmc2 qc2 c2 Nc2 bsc2 bmc2 true snc2 subc2 abc2 colc2 ddc2 k0c2 k1c2 k2c2 k3c2 k5c2 "ValueError.__new__"))
    (ove_c2 : PySem.HandSPX.refsVE bmc2 = true)
    (osa_c2 : PySem.W.findIn K (.ref c2) "__setattr__" = some (some (.builtin "object.__setattr__")))
    (oty_c2 : PySem.W.typeIn K (.ref c2) = some (.type "type"))
    (okc_c2 : PySem.W.keepIn K (.ref c2) = true)
    (osb_c2 : PySem.W.mroIn K c2 (.ref c2) = some true)
    (osu_c2 : PySem.W.ks_superIn K c2 c2 "__init__" = some (some (.builtin "ValueError.__init__")))
    (osv_c2 : PySem.W.subIn K (.ref c2) (.type "ValueError") = some true)
    (a_iy : PySem.W.findIn K (.ref c2) "__init__" = some (some (.ref f_iy)))
    (y_iy : PySem.W.typeIn K (.ref f_iy) = some (.type "function"))
    (l_iy : K.lookup f_iy = some ⟨oc_iy, od_iy, .func (PySem.W.ksFn "__init__" "InvalidSystem.__init__" (defArgs sIy) (defBody sIy) (defScope sIy) .none kV_iy dc_iy pm_iy an_iy (.ref cdI_iy) ct_iy ccI_iy), sl_iy⟩)
    (c_iy : PySem.W.codeIn K (.ref cdI_iy) "InvalidSystem.__init__" = true)
    (e_iy : K.lookup cdI_iy = some ⟨cclI_iy, cddI_iy, .fields vsI_iy, ccsI_iy⟩)
    (f2_iy : vsI_iy[2]? = some (.str fileI_iy tfI_iy))
    (fl_iy : ((l.prog.main.file : Str) == fileI_iy) = true)
    (ce_iy : K.lookup ccI_iy = some ⟨clI_iy, cldI_iy, .cell (some (.ref c2)), cslI_iy⟩)
    (ocl_c3 : K.lookup c3 = some (excClassObj nmc3 qc3 c3 Nc3 bsc3 bmc3 true snc3 subc3 abc3 colc3 ddc3 k0c3 k1c3 k2c3 k3c3 k5c3 "ValueError.__new__"))
    (ove_c3 : PySem.HandSPX.refsVE bmc3 = true)
    (osa_c3 : PySem.W.findIn K (.ref c3) "__setattr__" = some (some (.builtin "object.__setattr__")))
    (oty_c3 : PySem.W.typeIn K (.ref c3) = some (.type "type"))
    (okc_c3 : PySem.W.keepIn K (.ref c3) = true)
    (osb_c3 : PySem.W.mroIn K c3 (.ref c3) = some true)
    (osu_c3 : PySem.W.ks_superIn K c3 c3 "__init__" = some (some (.builtin "ValueError.__init__")))
    (osv_c3 : PySem.W.subIn K (.ref c3) (.type "ValueError") = some true)
    (a_ir : PySem.W.findIn K (.ref c3) "__init__" = some (some (.ref f_ir)))
    (y_ir : PySem.W.typeIn K (.ref f_ir) = some (.type "function"))
    (l_ir : K.lookup f_ir = some ⟨oc_ir, od_ir, .func (PySem.W.ksFn "__init__" "Refused.__init__" (defArgs sIr) (defBody sIr) (defScope sIr) .none kV_ir dc_ir pm_ir an_ir (.ref cdI_ir) ct_ir ccI_ir), sl_ir⟩)
    (c_ir : PySem.W.codeIn K (.ref cdI_ir) "Refused.__init__" = true)
    (e_ir : K.lookup cdI_ir = some ⟨cclI_ir, cddI_ir, .fields vsI_ir, ccsI_ir⟩)
    (f2_ir : vsI_ir[2]? = some (.str fileI_ir tfI_ir))
    (fl_ir : ((l.prog.main.file : Str) == fileI_ir) = true)
    (ce_ir : K.lookup ccI_ir = some ⟨clI_ir, cldI_ir, .cell (some (.ref c3)), cslI_ir⟩)
    (g_c6 : PySem.W.nsIn K mainGlobals "ScriptError" = some (some (.ref c6)))
    (ex_c6 : PySem.W.subIn K (.ref c6) (.type "BaseException") = some true)
    (nf_c6 : PySem.W.findIn K (.ref c6) "row" = some none)
    (ocl_c6 : K.lookup c6 = some (excClassObj nmc6 qc6 c6 Nc6 bsc6 bmc6 true snc6 subc6 abc6 colc6 ddc6 k0c6 k1c6 k2c6 k3c6 k5c6 "ValueError.__new__"))
    (ove_c6 : PySem.HandSPX.refsVE bmc6 = true)
    (osa_c6 : PySem.W.findIn K (.ref c6) "__setattr__" = some (some (.builtin "object.__setattr__")))
    (oty_c6 : PySem.W.typeIn K (.ref c6) = some (.type "type"))
    (okc_c6 : PySem.W.keepIn K (.ref c6) = true)
    (osb_c6 : PySem.W.mroIn K c6 (.ref c6) = some true)
    (osu_c6 : PySem.W.ks_superIn K c6 c6 "__init__" = some (some (.builtin "ValueError.__init__")))
    (osv_c6 : PySem.W.subIn K (.ref c6) (.type "ValueError") = some true)
    (a_ise : PySem.W.findIn K (.ref c6) "__init__" = some (some (.ref f_ise)))
    (y_ise : PySem.W.typeIn K (.ref f_ise) = some (.type "function"))
    (l_ise : K.lookup f_ise = some ⟨oc_ise, od_ise, .func (PySem.W.ksFn "__init__" "ScriptError.__init__" (defArgs sIse) (defBody sIse) (defScope sIse) .none kV_ise dc_ise pm_ise an_ise (.ref cdI_ise) ct_ise ccI_ise), sl_ise⟩)
    (c_ise : PySem.W.codeIn K (.ref cdI_ise) "ScriptError.__init__" = true)
    (e_ise : K.lookup cdI_ise = some ⟨cclI_ise, cddI_ise, .fields vsI_ise, ccsI_ise⟩)
    (f2_ise : vsI_ise[2]? = some (.str fileI_ise tfI_ise))
    (fl_ise : ((l.prog.main.file : Str) == fileI_ise) = true)
    (ce_ise : K.lookup ccI_ise = some ⟨clI_ise, cldI_ise, .cell (some (.ref c6)), cslI_ise⟩)
    (ga_c6 : PySem.W.findIn K (.ref c6) "__getattribute__" = some (some (.builtin "BaseException.__getattribute__")))
    (gg_c6 : PySem.W.findIn K (.ref c6) "__getattr__" = some none)
    (hx_c6 : PySem.W.hasDictIn K c6 = true)
    (tt_c6 : PySem.W.typeIn K (.ref c6) = some (.type "type"))
    (ss_c6 : PySem.W.subIn K (.ref c6) (.ref c6) = some true)
    (g_c7 : PySem.W.nsIn K mainGlobals "UnknownPackage" = some (some (.ref c7)))
    (ex_c7 : PySem.W.subIn K (.ref c7) (.type "BaseException") = some true)
    (nf_c7 : PySem.W.findIn K (.ref c7) "row" = some none)
    (ocl_c7 : K.lookup c7 = some (excClassObj nmc7 qc7 c7 Nc7 bsc7 bmc7 true snc7 subc7 abc7 colc7 ddc7 k0c7 k1c7 k2c7 k3c7 k5c7 "ValueError.__new__"))
    (ove_c7 : PySem.HandSPX.refsVE bmc7 = true)
    (osa_c7 : PySem.W.findIn K (.ref c7) "__setattr__" = some (some (.builtin "object.__setattr__")))
    (oty_c7 : PySem.W.typeIn K (.ref c7) = some (.type "type"))
    (okc_c7 : PySem.W.keepIn K (.ref c7) = true)
    (osb_c7 : PySem.W.mroIn K c7 (.ref c7) = some true)
    (osu_c7 : PySem.W.ks_superIn K c7 c7 "__init__" = some (some (.builtin "ValueError.__init__")))
    (osv_c7 : PySem.W.subIn K (.ref c7) (.type "ValueError") = some true)
    (a_iup : PySem.W.findIn K (.ref c7) "__init__" = some (some (.ref f_iup)))
    (y_iup : PySem.W.typeIn K (.ref f_iup) = some (.type "function"))
    (l_iup : K.lookup f_iup = some ⟨oc_iup, od_iup, .func (PySem.W.ksFn "__init__" "UnknownPackage.__init__" (defArgs sIup) (defBody sIup) (defScope sIup) .none kV_iup dc_iup pm_iup an_iup (.ref cdI_iup) ct_iup ccI_iup), sl_iup⟩)
    (c_iup : PySem.W.codeIn K (.ref cdI_iup) "UnknownPackage.__init__" = true)
    (e_iup : K.lookup cdI_iup = some ⟨cclI_iup, cddI_iup, .fields vsI_iup, ccsI_iup⟩)
    (f2_iup : vsI_iup[2]? = some (.str fileI_iup tfI_iup))
    (fl_iup : ((l.prog.main.file : Str) == fileI_iup) = true)
    (ce_iup : K.lookup ccI_iup = some ⟨clI_iup, cldI_iup, .cell (some (.ref c7)), cslI_iup⟩)
    (ga_c7 : PySem.W.findIn K (.ref c7) "__getattribute__" = some (some (.builtin "BaseException.__getattribute__")))
    (gg_c7 : PySem.W.findIn K (.ref c7) "__getattr__" = some none)
    (hx_c7 : PySem.W.hasDictIn K c7 = true)
    (tt_c7 : PySem.W.typeIn K (.ref c7) = some (.type "type"))
    (ss_c7 : PySem.W.subIn K (.ref c7) (.ref c7) = some true)
    (g_c8 : PySem.W.nsIn K mainGlobals "TooLong" = some (some (.ref c8)))
    (exi_c8 : PySem.W.excIn K c8 [.type "ValueError", .type "Exception", .type "BaseException", .type "object"] "ValueError.__new__" = true)
    (ekc_c8 : PySem.W.keepIn K (.ref c8) = true)
    (eb_c8 : PySem.W.subIn K (.ref c8) (.type "BaseException") = some true)
    (et_c8 : PySem.W.typeIn K (.ref c8) = some (.type "type"))
    (g_c9 : PySem.W.nsIn K mainGlobals "SetupError" = some (some (.ref c9)))
    (hx_c8 : PySem.W.hasDictIn K c8 = true)
    (ss_c8 : PySem.W.subIn K (.ref c8) (.ref c8) = some true)
    (no_c7_c6 : PySem.W.subIn K (.ref c7) (.ref c6) = some false)
    (no_c8_c6 : PySem.W.subIn K (.ref c8) (.ref c6) = some false)
    (no_c8_c7 : PySem.W.subIn K (.ref c8) (.ref c7) = some false)
    (exi_c4 : PySem.W.excIn K c4 [.type "ValueError", .type "Exception", .type "BaseException", .type "object"] "ValueError.__new__" = true)
    (ekc_c4 : PySem.W.keepIn K (.ref c4) = true)
    (eb_c4 : PySem.W.subIn K (.ref c4) (.type "BaseException") = some true)
    (et_c4 : PySem.W.typeIn K (.ref c4) = some (.type "type"))
    (exi_c5 : PySem.W.excIn K c5 [.type "ValueError", .type "Exception", .type "BaseException", .type "object"] "ValueError.__new__" = true)
    (ekc_c5 : PySem.W.keepIn K (.ref c5) = true)
    (eb_c5 : PySem.W.subIn K (.ref c5) (.type "BaseException") = some true)
    (et_c5 : PySem.W.typeIn K (.ref c5) = some (.type "type"))
    (v_let : PySem.W.nsIn K mainGlobals "LETTERS" = some (some (.str LET tLet)))
    (v_dig : PySem.W.nsIn K mainGlobals "DIGITS" = some (some (.str DIG tDig)))
    (v_lnn : PySem.W.nsIn K mainGlobals "LONGEST_NUMERAL" = some (some (.int 2 t_lnn)))
    (v_mro : PySem.W.nsIn K mainGlobals "MOST_ROWS" = some (some (.int 60 t_mro)))
    (v_mde : PySem.W.nsIn K mainGlobals "MOST_DEPTH" = some (some (.int 4 t_mde)))
    (v_mst : PySem.W.nsIn K mainGlobals "MOST_STEPS" = some (some (.int 300 t_mst)))
    (v_lon : PySem.W.nsIn K mainGlobals "LONGEST_WORD" = some (some (.int 8 t_lon)))
    (v_lv : PySem.W.nsIn K mainGlobals "LEAST_VERSION" = some (some (.int 1 t_lv)))
    (v_mv : PySem.W.nsIn K mainGlobals "MOST_VERSION" = some (some (.int 99 t_mv)))
    (v_me : PySem.W.nsIn K mainGlobals "MOST_EDITIONS" = some (some (.int 12 t_me)))
    (v_mn : PySem.W.nsIn K mainGlobals "MOST_NAMES" = some (some (.int 4 t_mn)))
    (v_scr : PySem.W.nsIn K mainGlobals "SCRIPTS" = some (some (.ref aS)))
    (a_ei : PySem.W.findIn K (.ref C) "__init__" = some (some (.ref f_ei)))
    (l_ei : K.lookup f_ei = some ⟨oc_ei, od_ei, .func (PySem.W.fnOf "__init__" "Edition.__init__" (defArgs sEi) (defBody sEi) (defScope sEi) .none (.ref kD) dc_ei pm_ei an_ei cd_ei ct_ei), sl_ei⟩)
    (c_ei : PySem.W.codeIn K cd_ei "Edition.__init__" = true)
    (k_ei : PySem.W.keepIn K (.ref f_ei) = true)
    (i_ei : PySem.W.isFn K (.ref f_ei) = true)
    (mk_C : PySem.W.makesIn K C = true)
    (kc_C : PySem.W.keepIn K (.ref C) = true)
    (d_scripts : PySem.W.nsIn K kD "scripts" = some (some (.ref aS)))
    (d_needs : PySem.W.nsIn K kD "needs" = some (some (.ref z1)))
    (d_first : PySem.W.nsIn K kD "first" = some (some (.ref z2)))
    (d_against : PySem.W.nsIn K kD "against" = some (some (.ref z3)))
    (t_S : K.lookup aS = some ⟨.type "tuple", ddS, .seq #[.str "clean" q0, .str "enter" q1, .str "leave" q2, .str "setup" q3] nS, slS⟩)
    (t_1 : K.lookup z1 = some ⟨.type "tuple", dd1, .seq #[] n1, sl1⟩)
    (t_2 : K.lookup z2 = some ⟨.type "tuple", dd2, .seq #[] n2, sl2⟩)
    (t_3 : K.lookup z3 = some ⟨.type "tuple", dd3, .seq #[] n3, sl3⟩)
    (na_C_parts : PySem.W.findIn K (.ref C) "parts" = some none)
    (pa_g0 : PySem.W.findIn K (.ref C) "name" = some (some (.ref p_g0)))
    (pg_g0 : PySem.W.specialIn K (.ref p_g0) "__get__" = some (some (.builtin "property.__get__")))
    (pt_g0 : PySem.W.takesIn K (.ref p_g0) = some true)
    (pr_g0 : PySem.W.recIn K p_g0 "property" = some (.ref f_g0 :: rest_g0))
    (l_g0 : K.lookup f_g0 = some ⟨oc_g0, od_g0, .func (PySem.W.fnOf "name" "Edition.name" (defArgs (sGet 0)) (defBody (sGet 0)) (defScope (sGet 0)) .none kV_g0 dc_g0 pm_g0 an_g0 cd_g0 ct_g0), sl_g0⟩)
    (c_g0 : PySem.W.codeIn K cd_g0 "Edition.name" = true)
    (k_g0 : PySem.W.keepIn K (.ref f_g0) = true)
    (pa_g1 : PySem.W.findIn K (.ref C) "version" = some (some (.ref p_g1)))
    (pg_g1 : PySem.W.specialIn K (.ref p_g1) "__get__" = some (some (.builtin "property.__get__")))
    (pt_g1 : PySem.W.takesIn K (.ref p_g1) = some true)
    (pr_g1 : PySem.W.recIn K p_g1 "property" = some (.ref f_g1 :: rest_g1))
    (l_g1 : K.lookup f_g1 = some ⟨oc_g1, od_g1, .func (PySem.W.fnOf "version" "Edition.version" (defArgs (sGet 1)) (defBody (sGet 1)) (defScope (sGet 1)) .none kV_g1 dc_g1 pm_g1 an_g1 cd_g1 ct_g1), sl_g1⟩)
    (c_g1 : PySem.W.codeIn K cd_g1 "Edition.version" = true)
    (k_g1 : PySem.W.keepIn K (.ref f_g1) = true)
    (pa_g2 : PySem.W.findIn K (.ref C) "scripts" = some (some (.ref p_g2)))
    (pg_g2 : PySem.W.specialIn K (.ref p_g2) "__get__" = some (some (.builtin "property.__get__")))
    (pt_g2 : PySem.W.takesIn K (.ref p_g2) = some true)
    (pr_g2 : PySem.W.recIn K p_g2 "property" = some (.ref f_g2 :: rest_g2))
    (l_g2 : K.lookup f_g2 = some ⟨oc_g2, od_g2, .func (PySem.W.fnOf "scripts" "Edition.scripts" (defArgs (sGet 2)) (defBody (sGet 2)) (defScope (sGet 2)) .none kV_g2 dc_g2 pm_g2 an_g2 cd_g2 ct_g2), sl_g2⟩)
    (c_g2 : PySem.W.codeIn K cd_g2 "Edition.scripts" = true)
    (k_g2 : PySem.W.keepIn K (.ref f_g2) = true)
    (pa_g3 : PySem.W.findIn K (.ref C) "needs" = some (some (.ref p_g3)))
    (pg_g3 : PySem.W.specialIn K (.ref p_g3) "__get__" = some (some (.builtin "property.__get__")))
    (pt_g3 : PySem.W.takesIn K (.ref p_g3) = some true)
    (pr_g3 : PySem.W.recIn K p_g3 "property" = some (.ref f_g3 :: rest_g3))
    (l_g3 : K.lookup f_g3 = some ⟨oc_g3, od_g3, .func (PySem.W.fnOf "needs" "Edition.needs" (defArgs (sGet 3)) (defBody (sGet 3)) (defScope (sGet 3)) .none kV_g3 dc_g3 pm_g3 an_g3 cd_g3 ct_g3), sl_g3⟩)
    (c_g3 : PySem.W.codeIn K cd_g3 "Edition.needs" = true)
    (k_g3 : PySem.W.keepIn K (.ref f_g3) = true)
    (pa_g4 : PySem.W.findIn K (.ref C) "first" = some (some (.ref p_g4)))
    (pg_g4 : PySem.W.specialIn K (.ref p_g4) "__get__" = some (some (.builtin "property.__get__")))
    (pt_g4 : PySem.W.takesIn K (.ref p_g4) = some true)
    (pr_g4 : PySem.W.recIn K p_g4 "property" = some (.ref f_g4 :: rest_g4))
    (l_g4 : K.lookup f_g4 = some ⟨oc_g4, od_g4, .func (PySem.W.fnOf "first" "Edition.first" (defArgs (sGet 4)) (defBody (sGet 4)) (defScope (sGet 4)) .none kV_g4 dc_g4 pm_g4 an_g4 cd_g4 ct_g4), sl_g4⟩)
    (c_g4 : PySem.W.codeIn K cd_g4 "Edition.first" = true)
    (k_g4 : PySem.W.keepIn K (.ref f_g4) = true)
    (pa_g5 : PySem.W.findIn K (.ref C) "against" = some (some (.ref p_g5)))
    (pg_g5 : PySem.W.specialIn K (.ref p_g5) "__get__" = some (some (.builtin "property.__get__")))
    (pt_g5 : PySem.W.takesIn K (.ref p_g5) = some true)
    (pr_g5 : PySem.W.recIn K p_g5 "property" = some (.ref f_g5 :: rest_g5))
    (l_g5 : K.lookup f_g5 = some ⟨oc_g5, od_g5, .func (PySem.W.fnOf "against" "Edition.against" (defArgs (sGet 5)) (defBody (sGet 5)) (defScope (sGet 5)) .none kV_g5 dc_g5 pm_g5 an_g5 cd_g5 ct_g5), sl_g5⟩)
    (c_g5 : PySem.W.codeIn K cd_g5 "Edition.against" = true)
    (k_g5 : PySem.W.keepIn K (.ref f_g5) = true)
    (a_eq : PySem.W.findIn K (.ref C) "__eq__" = some (some (.ref f_eq)))
    (l_eq : K.lookup f_eq = some ⟨oc_eq, od_eq, .func (PySem.W.fnOf "__eq__" "Edition.__eq__" (defArgs sEq) (defBody sEq) (defScope sEq) .none kV_eq dc_eq pm_eq an_eq cd_eq ct_eq), sl_eq⟩)
    (c_eq : PySem.W.codeIn K cd_eq "Edition.__eq__" = true)
    (k_eq : PySem.W.keepIn K (.ref f_eq) = true)
    (i_eq : PySem.W.isFn K (.ref f_eq) = true)
    (x_C : K.lookup C = some (excClassObj nmC qC C NC bsC [.type "object"] hdC snC subC abC colC ddC k0C k1C k2C k3C k5C newC))
    (xq_C : PySem.W.nsIn K NC "__eq__" = some (some (.ref f_eq)))
    (xn_C : PySem.W.nsIn K NC "__ne__" = some none)
    (xo_C : PySem.W.nsOkIn K NC = true)
    (na_CT_table : PySem.W.findIn K (.ref CT) "table" = some none)
    (na_CT_numbers : PySem.W.findIn K (.ref CT) "numbers" = some none)
    (a_si : PySem.W.findIn K (.ref CT) "__init__" = some (some (.ref f_si)))
    (l_si : K.lookup f_si = some ⟨oc_si, od_si, .func (PySem.W.fnOf "__init__" "Store.__init__" (defArgs (sSt 0)) (defBody (sSt 0)) (defScope (sSt 0)) .none kV_si dc_si pm_si an_si cd_si ct_si), sl_si⟩)
    (c_si : PySem.W.codeIn K cd_si "Store.__init__" = true)
    (k_si : PySem.W.keepIn K (.ref f_si) = true)
    (i_si : PySem.W.isFn K (.ref f_si) = true)
    (mk_CT : PySem.W.makesIn K CT = true)
    (kc_CT : PySem.W.keepIn K (.ref CT) = true)
    (pa_sn : PySem.W.findIn K (.ref CT) "names" = some (some (.ref p_sn)))
    (pg_sn : PySem.W.specialIn K (.ref p_sn) "__get__" = some (some (.builtin "property.__get__")))
    (pt_sn : PySem.W.takesIn K (.ref p_sn) = some true)
    (pr_sn : PySem.W.recIn K p_sn "property" = some (.ref f_sn :: rest_sn))
    (l_sn : K.lookup f_sn = some ⟨oc_sn, od_sn, .func (PySem.W.fnOf "names" "Store.names" (defArgs (sSt 1)) (defBody (sSt 1)) (defScope (sSt 1)) .none kV_sn dc_sn pm_sn an_sn cd_sn ct_sn), sl_sn⟩)
    (c_sn : PySem.W.codeIn K cd_sn "Store.names" = true)
    (k_sn : PySem.W.keepIn K (.ref f_sn) = true)
    (a_sv : PySem.W.findIn K (.ref CT) "versions" = some (some (.ref f_sv)))
    (l_sv : K.lookup f_sv = some ⟨oc_sv, od_sv, .func (PySem.W.fnOf "versions" "Store.versions" (defArgs (sSt 2)) (defBody (sSt 2)) (defScope (sSt 2)) .none kV_sv dc_sv pm_sv an_sv cd_sv ct_sv), sl_sv⟩)
    (c_sv : PySem.W.codeIn K cd_sv "Store.versions" = true)
    (k_sv : PySem.W.keepIn K (.ref f_sv) = true)
    (i_sv : PySem.W.isFn K (.ref f_sv) = true)
    (a_sl : PySem.W.findIn K (.ref CT) "__len__" = some (some (.ref f_sl)))
    (l_sl : K.lookup f_sl = some ⟨oc_sl, od_sl, .func (PySem.W.fnOf "__len__" "Store.__len__" (defArgs (sSt 3)) (defBody (sSt 3)) (defScope (sSt 3)) .none kV_sl dc_sl pm_sl an_sl cd_sl ct_sl), sl_sl⟩)
    (c_sl : PySem.W.codeIn K cd_sl "Store.__len__" = true)
    (k_sl : PySem.W.keepIn K (.ref f_sl) = true)
    (i_sl : PySem.W.isFn K (.ref f_sl) = true)
    (a_sh : PySem.W.findIn K (.ref CT) "__contains__" = some (some (.ref f_sh)))
    (l_sh : K.lookup f_sh = some ⟨oc_sh, od_sh, .func (PySem.W.fnOf "__contains__" "Store.__contains__" (defArgs (sSt 4)) (defBody (sSt 4)) (defScope (sSt 4)) .none kV_sh dc_sh pm_sh an_sh cd_sh ct_sh), sl_sh⟩)
    (c_sh : PySem.W.codeIn K cd_sh "Store.__contains__" = true)
    (k_sh : PySem.W.keepIn K (.ref f_sh) = true)
    (i_sh : PySem.W.isFn K (.ref f_sh) = true)
    (a_sg : PySem.W.findIn K (.ref CT) "__getitem__" = some (some (.ref f_sg)))
    (l_sg : K.lookup f_sg = some ⟨oc_sg, od_sg, .func (PySem.W.fnOf "__getitem__" "Store.__getitem__" (defArgs (sSt 5)) (defBody (sSt 5)) (defScope (sSt 5)) .none kV_sg dc_sg pm_sg an_sg cd_sg ct_sg), sl_sg⟩)
    (c_sg : PySem.W.codeIn K cd_sg "Store.__getitem__" = true)
    (k_sg : PySem.W.keepIn K (.ref f_sg) = true)
    (i_sg : PySem.W.isFn K (.ref f_sg) = true)
    (fn_sg : PySem.W.fnIn K f_sg = true)
    (a_se : PySem.W.findIn K (.ref CT) "__eq__" = some (some (.ref f_se)))
    (l_se : K.lookup f_se = some ⟨oc_se, od_se, .func (PySem.W.fnOf "__eq__" "Store.__eq__" (defArgs (sSt 7)) (defBody (sSt 7)) (defScope (sSt 7)) .none kV_se dc_se pm_se an_se cd_se ct_se), sl_se⟩)
    (c_se : PySem.W.codeIn K cd_se "Store.__eq__" = true)
    (k_se : PySem.W.keepIn K (.ref f_se) = true)
    (i_se : PySem.W.isFn K (.ref f_se) = true)
    (x_CT : K.lookup CT = some (excClassObj nmCT qCT CT NCT bsCT [.type "object"] hdCT snCT subCT abCT colCT ddCT k0CT k1CT k2CT k3CT k5CT newCT))
    (xq_CT : PySem.W.nsIn K NCT "__eq__" = some (some (.ref f_se)))
    (xn_CT : PySem.W.nsIn K NCT "__ne__" = some none)
    (xo_CT : PySem.W.nsOkIn K NCT = true)
    (na_CY_held_store : PySem.W.findIn K (.ref CY) "held_store" = some none)
    (na_CY_held_states : PySem.W.findIn K (.ref CY) "held_states" = some none)
    (a_yi : PySem.W.findIn K (.ref CY) "__init__" = some (some (.ref f_yi)))
    (l_yi : K.lookup f_yi = some ⟨oc_yi, od_yi, .func (PySem.W.fnOf "__init__" "System.__init__" (defArgs (sSy 0)) (defBody (sSy 0)) (defScope (sSy 0)) .none kV_yi dc_yi pm_yi an_yi cd_yi ct_yi), sl_yi⟩)
    (c_yi : PySem.W.codeIn K cd_yi "System.__init__" = true)
    (k_yi : PySem.W.keepIn K (.ref f_yi) = true)
    (i_yi : PySem.W.isFn K (.ref f_yi) = true)
    (mk_CY : PySem.W.makesIn K CY = true)
    (kc_CY : PySem.W.keepIn K (.ref CY) = true)
    (pa_ys : PySem.W.findIn K (.ref CY) "store" = some (some (.ref p_ys)))
    (pg_ys : PySem.W.specialIn K (.ref p_ys) "__get__" = some (some (.builtin "property.__get__")))
    (pt_ys : PySem.W.takesIn K (.ref p_ys) = some true)
    (pr_ys : PySem.W.recIn K p_ys "property" = some (.ref f_ys :: rest_ys))
    (l_ys : K.lookup f_ys = some ⟨oc_ys, od_ys, .func (PySem.W.fnOf "store" "System.store" (defArgs (sSy 1)) (defBody (sSy 1)) (defScope (sSy 1)) .none kV_ys dc_ys pm_ys an_ys cd_ys ct_ys), sl_ys⟩)
    (c_ys : PySem.W.codeIn K cd_ys "System.store" = true)
    (k_ys : PySem.W.keepIn K (.ref f_ys) = true)
    (a_yw : PySem.W.findIn K (.ref CY) "with_state" = some (some (.ref f_yw)))
    (l_yw : K.lookup f_yw = some ⟨oc_yw, od_yw, .func (PySem.W.fnOf "with_state" "System.with_state" (defArgs (sSy 3)) (defBody (sSy 3)) (defScope (sSy 3)) .none kV_yw dc_yw pm_yw an_yw cd_yw ct_yw), sl_yw⟩)
    (c_yw : PySem.W.codeIn K cd_yw "System.with_state" = true)
    (k_yw : PySem.W.keepIn K (.ref f_yw) = true)
    (i_yw : PySem.W.isFn K (.ref f_yw) = true)
    (a_yg : PySem.W.findIn K (.ref CY) "__getitem__" = some (some (.ref f_yg)))
    (l_yg : K.lookup f_yg = some ⟨oc_yg, od_yg, .func (PySem.W.fnOf "__getitem__" "System.__getitem__" (defArgs (sSy 4)) (defBody (sSy 4)) (defScope (sSy 4)) .none kV_yg dc_yg pm_yg an_yg cd_yg ct_yg), sl_yg⟩)
    (c_yg : PySem.W.codeIn K cd_yg "System.__getitem__" = true)
    (k_yg : PySem.W.keepIn K (.ref f_yg) = true)
    (i_yg : PySem.W.isFn K (.ref f_yg) = true)
    (fn_yg : PySem.W.fnIn K f_yg = true)
    (na_CX_rows : PySem.W.findIn K (.ref CX) "rows" = some none)
    (na_CX_blocks : PySem.W.findIn K (.ref CX) "blocks" = some none)
    (na_CX_held_system : PySem.W.findIn K (.ref CX) "held_system" = some none)
    (na_CX_failing : PySem.W.findIn K (.ref CX) "failing" = some none)
    (na_CX_output : PySem.W.findIn K (.ref CX) "output" = some none)
    (na_CX_steps : PySem.W.findIn K (.ref CX) "steps" = some none)
    (a_xi_ : PySem.W.findIn K (.ref CX) "__init__" = some (some (.ref f_xi_)))
    (l_xi_ : K.lookup f_xi_ = some ⟨oc_xi_, od_xi_, .func (PySem.W.fnOf "__init__" "Execution.__init__" (defArgs (sEx 0)) (defBody (sEx 0)) (defScope (sEx 0)) .none kV_xi_ dc_xi_ pm_xi_ an_xi_ cd_xi_ ct_xi_), sl_xi_⟩)
    (c_xi_ : PySem.W.codeIn K cd_xi_ "Execution.__init__" = true)
    (k_xi_ : PySem.W.keepIn K (.ref f_xi_) = true)
    (i_xi_ : PySem.W.isFn K (.ref f_xi_) = true)
    (a_xso : PySem.W.findIn K (.ref CX) "step_on" = some (some (.ref f_xso)))
    (l_xso : K.lookup f_xso = some ⟨oc_xso, od_xso, .func (PySem.W.fnOf "step_on" "Execution.step_on" (defArgs (sEx 1)) (defBody (sEx 1)) (defScope (sEx 1)) .none kV_xso dc_xso pm_xso an_xso cd_xso ct_xso), sl_xso⟩)
    (c_xso : PySem.W.codeIn K cd_xso "Execution.step_on" = true)
    (k_xso : PySem.W.keepIn K (.ref f_xso) = true)
    (i_xso : PySem.W.isFn K (.ref f_xso) = true)
    (a_xex : PySem.W.findIn K (.ref CX) "execute" = some (some (.ref f_xex)))
    (l_xex : K.lookup f_xex = some ⟨oc_xex, od_xex, .func (PySem.W.fnOf "execute" "Execution.execute" (defArgs (sEx 2)) (defBody (sEx 2)) (defScope (sEx 2)) .none kV_xex dc_xex pm_xex an_xex cd_xex ct_xex), sl_xex⟩)
    (c_xex : PySem.W.codeIn K cd_xex "Execution.execute" = true)
    (k_xex : PySem.W.keepIn K (.ref f_xex) = true)
    (i_xex : PySem.W.isFn K (.ref f_xex) = true)
    (a_xer : PySem.W.findIn K (.ref CX) "execute_row" = some (some (.ref f_xer)))
    (l_xer : K.lookup f_xer = some ⟨oc_xer, od_xer, .func (PySem.W.fnOf "execute_row" "Execution.execute_row" (defArgs (sEx 3)) (defBody (sEx 3)) (defScope (sEx 3)) .none kV_xer dc_xer pm_xer an_xer cd_xer ct_xer), sl_xer⟩)
    (c_xer : PySem.W.codeIn K cd_xer "Execution.execute_row" = true)
    (k_xer : PySem.W.keepIn K (.ref f_xer) = true)
    (i_xer : PySem.W.isFn K (.ref f_xer) = true)
    (a_xsf : PySem.W.findIn K (.ref CX) "state_for" = some (some (.ref f_xsf)))
    (l_xsf : K.lookup f_xsf = some ⟨oc_xsf, od_xsf, .func (PySem.W.fnOf "state_for" "Execution.state_for" (defArgs (sEx 4)) (defBody (sEx 4)) (defScope (sEx 4)) .none kV_xsf dc_xsf pm_xsf an_xsf cd_xsf ct_xsf), sl_xsf⟩)
    (c_xsf : PySem.W.codeIn K cd_xsf "Execution.state_for" = true)
    (k_xsf : PySem.W.keepIn K (.ref f_xsf) = true)
    (i_xsf : PySem.W.isFn K (.ref f_xsf) = true)
    (a_xed : PySem.W.findIn K (.ref CX) "execute_deed" = some (some (.ref f_xed)))
    (l_xed : K.lookup f_xed = some ⟨oc_xed, od_xed, .func (PySem.W.fnOf "execute_deed" "Execution.execute_deed" (defArgs (sEx 5)) (defBody (sEx 5)) (defScope (sEx 5)) .none kV_xed dc_xed pm_xed an_xed cd_xed ct_xed), sl_xed⟩)
    (c_xed : PySem.W.codeIn K cd_xed "Execution.execute_deed" = true)
    (k_xed : PySem.W.keepIn K (.ref f_xed) = true)
    (i_xed : PySem.W.isFn K (.ref f_xed) = true)
    (mk_CX : PySem.W.makesIn K CX = true)
    (kc_CX : PySem.W.keepIn K (.ref CX) = true)
    (v_blk : PySem.W.nsIn K mainGlobals "BLOCKS" = some (some (.ref aBl)))
    (t_Bl : K.lookup aBl = some ⟨.type "tuple", ddBl, .seq #[.str "repeat" bl0, .str "when" bl1] nBl, slBl⟩)
    (v_shp : PySem.W.nsIn K mainGlobals "SHAPES" = some (some (.ref dSh)))
    (d_shp : K.lookup dSh = some ⟨.type "dict", none, .dict #[⟨hh0, .str "unpack" kt0, .ref sh0⟩, ⟨hh1, .str "setup" kt1, .ref sh1⟩, ⟨hh2, .str "remove" kt2, .ref sh2⟩, ⟨hh3, .str "purge" kt3, .ref sh3⟩, ⟨hh4, .str "show" kt4, .ref sh4⟩, ⟨hh5, .str "repeat" kt5, .ref sh5⟩, ⟨hh6, .str "when" kt6, .ref sh6⟩, ⟨hh7, .str "end" kt7, .ref sh7⟩] nSh, #[]⟩)
    (y_shp : PySem.W.KeysLit w.params (#[⟨hh0, .str "unpack" kt0, .ref sh0⟩, ⟨hh1, .str "setup" kt1, .ref sh1⟩, ⟨hh2, .str "remove" kt2, .ref sh2⟩, ⟨hh3, .str "purge" kt3, .ref sh3⟩, ⟨hh4, .str "show" kt4, .ref sh4⟩, ⟨hh5, .str "repeat" kt5, .ref sh5⟩, ⟨hh6, .str "when" kt6, .ref sh6⟩, ⟨hh7, .str "end" kt7, .ref sh7⟩] : Array DictEntry).toList)
    (lo_shp : (dSh == sysModules) = false)
    (t_sh0 : K.lookup sh0 = some ⟨.type "tuple", dsh0, .seq #[.str "name" w0_0, .str "number" w0_1] nsh0, slh0⟩)
    (t_sh1 : K.lookup sh1 = some ⟨.type "tuple", dsh1, .seq #[.str "name" w1_0] nsh1, slh1⟩)
    (t_sh2 : K.lookup sh2 = some ⟨.type "tuple", dsh2, .seq #[.str "name" w2_0] nsh2, slh2⟩)
    (t_sh3 : K.lookup sh3 = some ⟨.type "tuple", dsh3, .seq #[.str "name" w3_0] nsh3, slh3⟩)
    (t_sh4 : K.lookup sh4 = some ⟨.type "tuple", dsh4, .seq #[.str "name" w4_0] nsh4, slh4⟩)
    (t_sh5 : K.lookup sh5 = some ⟨.type "tuple", dsh5, .seq #[.str "number" w5_0] nsh5, slh5⟩)
    (t_sh6 : K.lookup sh6 = some ⟨.type "tuple", dsh6, .seq #[.str "name" w6_0, .str "status" w6_1] nsh6, slh6⟩)
    (t_sh7 : K.lookup sh7 = some ⟨.type "tuple", dsh7, .seq #[] nsh7, slh7⟩)
    (a_ye : PySem.W.findIn K (.ref CY) "__eq__" = some (some (.ref f_ye)))
    (l_ye : K.lookup f_ye = some ⟨oc_ye, od_ye, .func (PySem.W.fnOf "__eq__" "System.__eq__" (defArgs (sSy 6)) (defBody (sSy 6)) (defScope (sSy 6)) .none kV_ye dc_ye pm_ye an_ye cd_ye ct_ye), sl_ye⟩)
    (c_ye : PySem.W.codeIn K cd_ye "System.__eq__" = true)
    (k_ye : PySem.W.keepIn K (.ref f_ye) = true)
    (i_ye : PySem.W.isFn K (.ref f_ye) = true)
    (x_CY : K.lookup CY = some (excClassObj nmCY qCY CY NCY bsCY [.type "object"] hdCY snCY subCY abCY colCY ddCY k0CY k1CY k2CY k3CY k5CY newCY))
    (xq_CY : PySem.W.nsIn K NCY "__eq__" = some (some (.ref f_ye)))
    (xn_CY : PySem.W.nsIn K NCY "__ne__" = some none)
    (xo_CY : PySem.W.nsOkIn K NCY = true)
    (na_CC_failing : PySem.W.findIn K (.ref CC) "failing" = some none)
    (na_CC_faulty : PySem.W.findIn K (.ref CC) "faulty" = some none)
    (na_CC_made : PySem.W.findIn K (.ref CC) "made" = some none)
    (a_ci : PySem.W.findIn K (.ref CC) "__init__" = some (some (.ref f_ci)))
    (l_ci : K.lookup f_ci = some ⟨oc_ci, od_ci, .func (PySem.W.fnOf "__init__" "Caller.__init__" (defArgs (sCa 0)) (defBody (sCa 0)) (defScope (sCa 0)) .none kV_ci dc_ci pm_ci an_ci cd_ci ct_ci), sl_ci⟩)
    (c_ci : PySem.W.codeIn K cd_ci "Caller.__init__" = true)
    (k_ci : PySem.W.keepIn K (.ref f_ci) = true)
    (i_ci : PySem.W.isFn K (.ref f_ci) = true)
    (mk_CC : PySem.W.makesIn K CC = true)
    (kc_CC : PySem.W.keepIn K (.ref CC) = true)
    (a_fa : PySem.W.findIn K (.ref CC) "fails" = some (some (.ref f_fa)))
    (l_fa : K.lookup f_fa = some ⟨oc_fa, od_fa, .func (PySem.W.fnOf "fails" "Caller.fails" (defArgs (sCa 1)) (defBody (sCa 1)) (defScope (sCa 1)) .none kV_fa dc_fa pm_fa an_fa cd_fa ct_fa), sl_fa⟩)
    (c_fa : PySem.W.codeIn K cd_fa "Caller.fails" = true)
    (k_fa : PySem.W.keepIn K (.ref f_fa) = true)
    (i_fa : PySem.W.isFn K (.ref f_fa) = true)
    (a_play : PySem.W.nsIn K mainGlobals "play" = some (some (.ref f_play)))
    (l_play : K.lookup f_play = some ⟨oc_play, od_play, .func (PySem.W.fnOf "play" "play" (defArgs sPlay) (defBody sPlay) (defScope sPlay) (.ref tP) kV_play dc_play pm_play an_play cd_play ct_play), sl_play⟩)
    (c_play : PySem.W.codeIn K cd_play "play" = true)
    (k_play : PySem.W.keepIn K (.ref f_play) = true)
    (t_P : K.lookup tP = some ⟨ocP, odP, .seq #[.ref zP] nP, slP⟩)
    (t_zP : K.lookup zP = some ⟨.type "tuple", ddP, .seq #[] nzP, slzP⟩)
    (v_aR : PySem.W.nsIn K mainGlobals "REFUSALS" = some (some (.ref aR)))
    (d_aR : K.lookup aR = some ⟨.type "dict", none, .dict es_aR n_aR, #[]⟩)
    (y_aR : PySem.W.KeysLit w.params es_aR.toList)
    (m_aR_setup : PySem.W.nsIn K aR "setup" = some (some (.ref f_sr)))
    (m_aR_remove : PySem.W.nsIn K aR "remove" = some (some (.ref f_rr)))
    (m_aR_purge : PySem.W.nsIn K aR "purge" = some (some (.ref f_pr)))
    (v_aC : PySem.W.nsIn K mainGlobals "ACTIONS" = some (some (.ref aC)))
    (d_aC : K.lookup aC = some ⟨.type "dict", none, .dict es_aC n_aC, #[]⟩)
    (y_aC : PySem.W.KeysLit w.params es_aC.toList)
    (m_aC_setup : PySem.W.nsIn K aC "setup" = some (some (.ref f_sup)))
    (m_aC_remove : PySem.W.nsIn K aC "remove" = some (some (.ref f_tout)))
    (m_aC_purge : PySem.W.nsIn K aC "purge" = some (some (.ref f_purg)))
    (v_su : PySem.W.nsIn K mainGlobals "SET_UP" = some (some (.ref aP)))
    (t_Q : K.lookup aP = some ⟨.type "tuple", ddQ, .seq #[.str "failed" s0, .str "ready" s1'] nQ, slQ⟩)
    (v_thr : PySem.W.nsIn K mainGlobals "THERE" = some (some (.ref aT)))
    (v_sta : PySem.W.nsIn K mainGlobals "STATUSES" = some (some (.ref aZ)))
    (t_Z : K.lookup aZ = some ⟨.type "tuple", ddZ, .seq #[.str "absent" e0, .str "failed" e1, .str "half" e2, .str "left" e3, .str "ready" e4, .str "unpacked" e5] nZ, slZ⟩)
    (v_abs : PySem.W.nsIn K mainGlobals "ABSENT" = some (some (.ref aA)))
    (t_T : K.lookup aT = some ⟨.type "tuple", ddT, .seq #[.str "failed" u0, .str "half" u1, .str "ready" u2, .str "unpacked" u3] nT', slT⟩)
    (t_A : K.lookup aA = some ⟨.type "tuple", ddA, .seq #[.str "absent" b0, .int 0 b1, .int 0 b2] nA, slA⟩)
    : LawAtS l w K CX0 24 63 "_law_script" mg fa h := by
  have e := hfa.symm.trans (PySem.W.mg_of X G a_law)
  cases e
  have none_ : ∀ {x : Str}, PySem.W.nsIn K mainGlobals x = some none → mg x = none := fun h => PySem.W.mg_none_of X G h
  have F_word := fun_mk (st := sWord) l_word c_word k_word
  have B_word := F_word.binds (ps := ["text"]) fun _ _ _ _ _ _ us hl => match us, hl with | [_], _ => rfl
  have F_numb := fun_mk (st := sNumber) l_numb c_numb k_numb
  have B_numb := F_numb.binds (ps := ["value", "least", "most"]) fun _ _ _ _ _ _ us hl => match us, hl with | [_, _, _], _ => rfl
  have F_asc := fun_mk (st := sAscends) l_asc c_asc k_asc
  have B_asc := F_asc.binds (ps := ["values"]) fun _ _ _ _ _ _ us hl => match us, hl with | [_], _ => rfl
  have F_vers := fun_mk (st := sVersion) l_vers c_vers k_vers
  have B_vers := F_vers.binds (ps := ["value"]) fun _ _ _ _ _ _ us hl => match us, hl with | [_], _ => rfl
  have F_scri := fun_mk (st := sScripts) l_scri c_scri k_scri
  have B_scri := F_scri.binds (ps := ["values"]) fun _ _ _ _ _ _ us hl => match us, hl with | [_], _ => rfl
  have F_othe := fun_mk (st := sOthers) l_othe c_othe k_othe
  have B_othe := F_othe.binds (ps := ["values", "name"]) fun _ _ _ _ _ _ us hl => match us, hl with | [_, _], _ => rfl
  have F_pair := fun_mk (st := sPair) l_pair c_pair k_pair
  have B_pair := F_pair.binds (ps := ["value"]) fun _ _ _ _ _ _ us hl => match us, hl with | [_], _ => rfl
  have F_need := fun_mk (st := sNeeds) l_need c_need k_need
  have B_need := F_need.binds (ps := ["values", "name"]) fun _ _ _ _ _ _ us hl => match us, hl with | [_, _], _ => rfl
  have F_wron := fun_mk (st := sWrong) l_wron c_wron k_wron
  have B_wron := F_wron.binds (ps := ["name", "version", "scripts", "needs", "first", "against"]) fun _ _ _ _ _ _ us hl => match us, hl with | [_, _, _, _, _, _], _ => rfl
  have F_wi := fun_mk (st := sWi) l_wi c_wi k_wi
  have B_wi := F_wi.binds (ps := ["editions"]) fun _ _ _ _ _ _ us hl => match us, hl with | [_], _ => rfl
  have F_vn := fun_mk (st := sVn) l_vn c_vn k_vn
  have B_vn := F_vn.binds (ps := ["keys"]) fun _ _ _ _ _ _ us hl => match us, hl with | [_], _ => rfl
  have F_take := fun_mk (st := sTaken) l_take c_take k_take
  have B_take := F_take.binds (ps := ["_law_row", "_law_many"]) fun _ _ _ _ _ _ us hl => match us, hl with | [_, _], _ => rfl
  have F_ist := fun_mk (st := sIst) l_ist c_ist k_ist
  have B_ist := F_ist.binds (ps := ["store", "name", "state"]) fun _ _ _ _ _ _ us hl => match us, hl with | [_, _, _], _ => rfl
  have F_wp := fun_mk (st := sWp) l_wp c_wp k_wp
  have B_wp := F_wp.binds (ps := ["store", "states"]) fun _ _ _ _ _ _ us hl => match us, hl with | [_, _], _ => rfl
  have F_ith := fun_mk (st := sIth) l_ith c_ith k_ith
  have B_ith := F_ith.binds (ps := ["system", "name"]) fun _ _ _ _ _ _ us hl => match us, hl with | [_, _], _ => rfl
  have F_eo := fun_mk (st := sEo) l_eo c_eo k_eo
  have B_eo := F_eo.binds (ps := ["system", "name"]) fun _ _ _ _ _ _ us hl => match us, hl with | [_, _], _ => rfl
  have F_met := fun_mk (st := sMet) l_met c_met k_met
  have B_met := F_met.binds (ps := ["system", "need"]) fun _ _ _ _ _ _ us hl => match us, hl with | [_, _], _ => rfl
  have F_un := fun_mk (st := sUn) l_un c_un k_un
  have B_un := F_un.binds (ps := ["system", "needs"]) fun _ _ _ _ _ _ us hl => match us, hl with | [_, _], _ => rfl
  have F_ag := fun_mk (st := sAg) l_ag c_ag k_ag
  have B_ag := F_ag.binds (ps := ["edition", "other"]) fun _ _ _ _ _ _ us hl => match us, hl with | [_, _], _ => rfl
  have F_nag := fun_mk (st := sNa) l_nag c_nag k_nag
  have B_nag := F_nag.binds (ps := ["system", "edition"]) fun _ _ _ _ _ _ us hl => match us, hl with | [_, _], _ => rfl
  have F_ur := fun_mk (st := sUr) l_ur c_ur k_ur
  have B_ur := F_ur.binds (ps := ["system", "name", "version"]) fun _ _ _ _ _ _ us hl => match us, hl with | [_, _, _], _ => rfl
  have F_sr := fun_mk (st := sSr) l_sr c_sr k_sr
  have B_sr := F_sr.binds (ps := ["system", "name"]) fun _ _ _ _ _ _ us hl => match us, hl with | [_, _], _ => rfl
  have F_nn := fun_mk (st := sNn) l_nn c_nn k_nn
  have B_nn := F_nn.binds (ps := ["system", "other", "name"]) fun _ _ _ _ _ _ us hl => match us, hl with | [_, _, _], _ => rfl
  have F_rr := fun_mk (st := sRr) l_rr c_rr k_rr
  have B_rr := F_rr.binds (ps := ["system", "name"]) fun _ _ _ _ _ _ us hl => match us, hl with | [_, _], _ => rfl
  have F_pr := fun_mk (st := sPr) l_pr c_pr k_pr
  have B_pr := F_pr.binds (ps := ["system", "name"]) fun _ _ _ _ _ _ us hl => match us, hl with | [_, _], _ => rfl
  have F_ref := fun_mk (st := sRef) l_ref c_ref k_ref
  have B_ref := F_ref.binds (ps := ["system", "deed"]) fun _ _ _ _ _ _ us hl => match us, hl with | [_, _], _ => rfl
  have F_inst := fun_mk (st := sInst) l_inst c_inst k_inst
  have B_inst := F_inst.binds (ps := ["caller", "new", "state"]) fun _ _ _ _ _ _ us hl => match us, hl with | [_, _, _], _ => rfl
  have F_both := fun_mk (st := sBoth) l_both c_both k_both
  have B_both := F_both.binds (ps := ["caller", "script", "old", "new"]) fun _ _ _ _ _ _ us hl => match us, hl with | [_, _, _, _], _ => rfl
  have F_upg := fun_mk (st := sUpg) l_upg c_upg k_upg
  have B_upg := F_upg.binds (ps := ["caller", "old", "new", "state"]) fun _ _ _ _ _ _ us hl => match us, hl with | [_, _, _, _], _ => rfl
  have F_putb := fun_mk (st := sPutB) l_putb c_putb k_putb
  have B_putb := F_putb.binds (ps := ["caller", "old", "new", "state"]) fun _ _ _ _ _ _ us hl => match us, hl with | [_, _, _, _], _ => rfl
  have F_unp := fun_mk (st := sUnp) l_unp c_unp k_unp
  have B_unp := F_unp.binds (ps := ["caller", "store", "state", "deed"]) fun _ _ _ _ _ _ us hl => match us, hl with | [_, _, _, _], _ => rfl
  have F_sup := fun_mk (st := sSup) l_sup c_sup k_sup
  have B_sup := F_sup.binds (ps := ["caller", "old", "state"]) fun _ _ _ _ _ _ us hl => match us, hl with | [_, _, _], _ => rfl
  have F_tout := fun_mk (st := sTout) l_tout c_tout k_tout
  have B_tout := F_tout.binds (ps := ["caller", "old", "state"]) fun _ _ _ _ _ _ us hl => match us, hl with | [_, _, _], _ => rfl
  have F_purg := fun_mk (st := sPurg) l_purg c_purg k_purg
  have B_purg := F_purg.binds (ps := ["caller", "old", "state"]) fun _ _ _ _ _ _ us hl => match us, hl with | [_, _, _], _ => rfl
  have F_cb := fun_mk (st := sCb) l_cb c_cb k_cb
  have B_cb := F_cb.binds (ps := ["system", "deed"]) fun _ _ _ _ _ _ us hl => match us, hl with | [_, _], _ => rfl
  have F_run := fun_mk (st := sRun) l_run c_run k_run
  have B_run := F_run.binds (ps := ["system", "deed", "fails"]) fun _ _ _ _ _ _ us hl => match us, hl with | [_, _, _], _ => rfl
  have F_nml := fun_mk (st := sNml) l_nml c_nml k_nml
  have B_nml := F_nml.binds (ps := ["text"]) fun _ _ _ _ _ _ us hl => match us, hl with | [_], _ => rfl
  have F_fits := fun_mk (st := sFits) l_fits c_fits k_fits
  have B_fits := F_fits.binds (ps := ["word", "kind"]) fun _ _ _ _ _ _ us hl => match us, hl with | [_, _], _ => rfl
  have F_irw := fun_mk (st := sIrw) l_irw c_irw k_irw
  have B_irw := F_irw.binds (ps := ["words"]) fun _ _ _ _ _ _ us hl => match us, hl with | [_], _ => rfl
  have F_cst := fun_mk (st := sCst) l_cst c_cst k_cst
  have B_cst := F_cst.binds (ps := ["place", "words", "depth"]) fun _ _ _ _ _ _ us hl => match us, hl with | [_, _, _], _ => rfl
  have F_ro := fun_mk (st := sRo) l_ro c_ro k_ro
  have B_ro := F_ro.binds (ps := ["text"]) fun _ _ _ _ _ _ us hl => match us, hl with | [_], _ => rfl
  have F_ble := fun_mk (st := sBle) l_ble c_ble k_ble
  have B_ble := F_ble.binds (ps := ["rows"]) fun _ _ _ _ _ _ us hl => match us, hl with | [_], _ => rfl
  have F_rsc := fun_mk (st := sRsc) l_rsc c_rsc k_rsc
  have B_rsc := F_rsc.binds (ps := ["system", "text"]) fun _ _ _ _ _ _ us hl => match us, hl with | [_, _], _ => rfl
  have F_flt := fun_mk (st := sFlt) l_flt c_flt k_flt
  have B_flt := F_flt.binds (ps := ["_law_lines"]) fun _ _ _ _ _ _ us hl => match us, hl with | [_], _ => rfl
  have F_al := fun_mk (st := sAl) l_al c_al k_al
  have B_al := F_al.binds (ps := ["_law_times"]) fun _ _ _ _ _ _ us hl => match us, hl with | [_], _ => rfl
  have cl_CX : Cls K CX := ⟨pg_CX, hd_CX, po_CX, sa_CX⟩
  have cl_C : Cls K C := ⟨pg_C, hd_C, po_C, sa_C⟩
  have cl_CT : Cls K CT := ⟨pg_CT, hd_CT, po_CT, sa_CT⟩
  have cl_CY : Cls K CY := ⟨pg_CY, hd_CY, po_CY, sa_CY⟩
  have cl_CC : Cls K CC := ⟨pg_CC, hd_CC, po_CC, sa_CC⟩
  have OX_c0 : OexC K c0 := ⟨⟨_, _, _, _, _, _, _, _, _, _, _, _, _, _, _, ocl_c0, ove_c0⟩, osa_c0, ex_c0, oty_c0, okc_c0⟩
  have SP_c0 : SupC l.prog K mg c0 := ⟨OX_c0, osb_c0, osu_c0, osv_c0, o_op, none_ n_super, o_top⟩
  have ER_ie : ErrFn l.prog K c0 "InvalidEdition.__init__" sIe f_ie _ := ⟨⟨_, _, _, _, _, _, _, _, _, _, _, _, _, _, _, _, _, _, _, rfl, l_ie, c_ie, e_ie, f2_ie, fl_ie, ce_ie⟩⟩
  have OX_c1 : OexC K c1 := ⟨⟨_, _, _, _, _, _, _, _, _, _, _, _, _, _, _, ocl_c1, ove_c1⟩, osa_c1, ex_c1, oty_c1, okc_c1⟩
  have SP_c1 : SupC l.prog K mg c1 := ⟨OX_c1, osb_c1, osu_c1, osv_c1, o_op, none_ n_super, o_top⟩
  have ER_is : ErrFn l.prog K c1 "InvalidStore.__init__" sIs f_is _ := ⟨⟨_, _, _, _, _, _, _, _, _, _, _, _, _, _, _, _, _, _, _, rfl, l_is, c_is, e_is, f2_is, fl_is, ce_is⟩⟩
  have OX_c2 : OexC K c2 := ⟨⟨_, _, _, _, _, _, _, _, _, _, _, _, _, _, _, ocl_c2, ove_c2⟩, osa_c2, ex_c2, oty_c2, okc_c2⟩
  have SP_c2 : SupC l.prog K mg c2 := ⟨OX_c2, osb_c2, osu_c2, osv_c2, o_op, none_ n_super, o_top⟩
  have ER_iy : ErrFn l.prog K c2 "InvalidSystem.__init__" sIy f_iy _ := ⟨⟨_, _, _, _, _, _, _, _, _, _, _, _, _, _, _, _, _, _, _, rfl, l_iy, c_iy, e_iy, f2_iy, fl_iy, ce_iy⟩⟩
  have OX_c3 : OexC K c3 := ⟨⟨_, _, _, _, _, _, _, _, _, _, _, _, _, _, _, ocl_c3, ove_c3⟩, osa_c3, ex_c3, oty_c3, okc_c3⟩
  have SP_c3 : SupC l.prog K mg c3 := ⟨OX_c3, osb_c3, osu_c3, osv_c3, o_op, none_ n_super, o_top⟩
  have ER_ir : ErrFn l.prog K c3 "Refused.__init__" sIr f_ir _ := ⟨⟨_, _, _, _, _, _, _, _, _, _, _, _, _, _, _, _, _, _, _, rfl, l_ir, c_ir, e_ir, f2_ir, fl_ir, ce_ir⟩⟩
  have OX_c6 : OexC K c6 := ⟨⟨_, _, _, _, _, _, _, _, _, _, _, _, _, _, _, ocl_c6, ove_c6⟩, osa_c6, ex_c6, oty_c6, okc_c6⟩
  have SP_c6 : SupC l.prog K mg c6 := ⟨OX_c6, osb_c6, osu_c6, osv_c6, o_op, none_ n_super, o_top⟩
  have ER_ise : ErrFn l.prog K c6 "ScriptError.__init__" sIse f_ise _ := ⟨⟨_, _, _, _, _, _, _, _, _, _, _, _, _, _, _, _, _, _, _, rfl, l_ise, c_ise, e_ise, f2_ise, fl_ise, ce_ise⟩⟩
  have OX_c7 : OexC K c7 := ⟨⟨_, _, _, _, _, _, _, _, _, _, _, _, _, _, _, ocl_c7, ove_c7⟩, osa_c7, ex_c7, oty_c7, okc_c7⟩
  have SP_c7 : SupC l.prog K mg c7 := ⟨OX_c7, osb_c7, osu_c7, osv_c7, o_op, none_ n_super, o_top⟩
  have ER_iup : ErrFn l.prog K c7 "UnknownPackage.__init__" sIup f_iup _ := ⟨⟨_, _, _, _, _, _, _, _, _, _, _, _, _, _, _, _, _, _, _, rfl, l_iup, c_iup, e_iup, f2_iup, fl_iup, ce_iup⟩⟩
  have EC_c8 : ErrC K mg "TooLong" c8 := ⟨PySem.W.mg_of X G g_c8, exi_c8, ekc_c8, eb_c8, et_c8⟩
  have EC_c4 : ErrC K mg "UnknownEdition" c4 := ⟨PySem.W.mg_of X G g_c4, exi_c4, ekc_c4, eb_c4, et_c4⟩
  have EC_c5 : ErrC K mg "UnknownName" c5 := ⟨PySem.W.mg_of X G g_c5, exi_c5, ekc_c5, eb_c5, et_c5⟩
  have F_g0 := fun_mk (st := (sGet 0)) l_g0 c_g0 k_g0
  have B_g0 := F_g0.binds (ps := ["self"]) fun _ _ _ _ _ _ us hl => match us, hl with | [_], _ => rfl
  have P_g0 : PropOf K C "name" p_g0 f_g0 := ⟨pa_g0, pg_g0, pt_g0, ⟨_, pr_g0⟩⟩
  have F_g1 := fun_mk (st := (sGet 1)) l_g1 c_g1 k_g1
  have B_g1 := F_g1.binds (ps := ["self"]) fun _ _ _ _ _ _ us hl => match us, hl with | [_], _ => rfl
  have P_g1 : PropOf K C "version" p_g1 f_g1 := ⟨pa_g1, pg_g1, pt_g1, ⟨_, pr_g1⟩⟩
  have F_g2 := fun_mk (st := (sGet 2)) l_g2 c_g2 k_g2
  have B_g2 := F_g2.binds (ps := ["self"]) fun _ _ _ _ _ _ us hl => match us, hl with | [_], _ => rfl
  have P_g2 : PropOf K C "scripts" p_g2 f_g2 := ⟨pa_g2, pg_g2, pt_g2, ⟨_, pr_g2⟩⟩
  have F_g3 := fun_mk (st := (sGet 3)) l_g3 c_g3 k_g3
  have B_g3 := F_g3.binds (ps := ["self"]) fun _ _ _ _ _ _ us hl => match us, hl with | [_], _ => rfl
  have P_g3 : PropOf K C "needs" p_g3 f_g3 := ⟨pa_g3, pg_g3, pt_g3, ⟨_, pr_g3⟩⟩
  have F_g4 := fun_mk (st := (sGet 4)) l_g4 c_g4 k_g4
  have B_g4 := F_g4.binds (ps := ["self"]) fun _ _ _ _ _ _ us hl => match us, hl with | [_], _ => rfl
  have P_g4 : PropOf K C "first" p_g4 f_g4 := ⟨pa_g4, pg_g4, pt_g4, ⟨_, pr_g4⟩⟩
  have F_g5 := fun_mk (st := (sGet 5)) l_g5 c_g5 k_g5
  have B_g5 := F_g5.binds (ps := ["self"]) fun _ _ _ _ _ _ us hl => match us, hl with | [_], _ => rfl
  have P_g5 : PropOf K C "against" p_g5 f_g5 := ⟨pa_g5, pg_g5, pt_g5, ⟨_, pr_g5⟩⟩
  have F_eq := fun_mk (st := sEq) l_eq c_eq k_eq
  have B_eq := F_eq.binds (ps := ["self", "other"]) fun _ _ _ _ _ _ us hl => match us, hl with | [_, _], _ => rfl
  have OE_C : OwnEqC K C f_eq := ⟨⟨_, _, _, _, _, _, _, _, _, _, _, _, _, _, _, _, x_C, xq_C, xn_C, xo_C⟩, a_eq, i_eq⟩
  have F_si := fun_mk (st := (sSt 0)) l_si c_si k_si
  have B_si := F_si.binds (ps := ["self", "editions"]) fun _ _ _ _ _ _ us hl => match us, hl with | [_, _], _ => rfl
  have F_sn := fun_mk (st := (sSt 1)) l_sn c_sn k_sn
  have B_sn := F_sn.binds (ps := ["self"]) fun _ _ _ _ _ _ us hl => match us, hl with | [_], _ => rfl
  have P_sn : PropOf K CT "names" p_sn f_sn := ⟨pa_sn, pg_sn, pt_sn, ⟨_, pr_sn⟩⟩
  have F_sv := fun_mk (st := (sSt 2)) l_sv c_sv k_sv
  have B_sv := F_sv.binds (ps := ["self", "name"]) fun _ _ _ _ _ _ us hl => match us, hl with | [_, _], _ => rfl
  have F_sl := fun_mk (st := (sSt 3)) l_sl c_sl k_sl
  have B_sl := F_sl.binds (ps := ["self"]) fun _ _ _ _ _ _ us hl => match us, hl with | [_], _ => rfl
  have F_sh := fun_mk (st := (sSt 4)) l_sh c_sh k_sh
  have B_sh := F_sh.binds (ps := ["self", "x"]) fun _ _ _ _ _ _ us hl => match us, hl with | [_, _], _ => rfl
  have F_sg := fun_mk (st := (sSt 5)) l_sg c_sg k_sg
  have B_sg := F_sg.binds (ps := ["self", "at"]) fun _ _ _ _ _ _ us hl => match us, hl with | [_, _], _ => rfl
  have F_se := fun_mk (st := (sSt 7)) l_se c_se k_se
  have B_se := F_se.binds (ps := ["self", "other"]) fun _ _ _ _ _ _ us hl => match us, hl with | [_, _], _ => rfl
  have OE_CT : OwnEqC K CT f_se := ⟨⟨_, _, _, _, _, _, _, _, _, _, _, _, _, _, _, _, x_CT, xq_CT, xn_CT, xo_CT⟩, a_se, i_se⟩
  have F_yi := fun_mk (st := (sSy 0)) l_yi c_yi k_yi
  have B_yi := F_yi.binds (ps := ["self", "store", "states"]) fun _ _ _ _ _ _ us hl => match us, hl with | [_, _, _], _ => rfl
  have F_ys := fun_mk (st := (sSy 1)) l_ys c_ys k_ys
  have B_ys := F_ys.binds (ps := ["self"]) fun _ _ _ _ _ _ us hl => match us, hl with | [_], _ => rfl
  have P_ys : PropOf K CY "store" p_ys f_ys := ⟨pa_ys, pg_ys, pt_ys, ⟨_, pr_ys⟩⟩
  have F_yw := fun_mk (st := (sSy 3)) l_yw c_yw k_yw
  have B_yw := F_yw.binds (ps := ["self", "name", "state"]) fun _ _ _ _ _ _ us hl => match us, hl with | [_, _, _], _ => rfl
  have F_yg := fun_mk (st := (sSy 4)) l_yg c_yg k_yg
  have B_yg := F_yg.binds (ps := ["self", "at"]) fun _ _ _ _ _ _ us hl => match us, hl with | [_, _], _ => rfl
  have F_xi_ := fun_mk (st := (sEx 0)) l_xi_ c_xi_ k_xi_
  have B_xi_ := F_xi_.binds (ps := ["self", "system", "rows"]) fun _ _ _ _ _ _ us hl => match us, hl with | [_, _, _], _ => rfl
  have F_xso := fun_mk (st := (sEx 1)) l_xso c_xso k_xso
  have B_xso := F_xso.binds (ps := ["self"]) fun _ _ _ _ _ _ us hl => match us, hl with | [_], _ => rfl
  have F_xex := fun_mk (st := (sEx 2)) l_xex c_xex k_xex
  have B_xex := F_xex.binds (ps := ["self", "begin", "end"]) fun _ _ _ _ _ _ us hl => match us, hl with | [_, _, _], _ => rfl
  have F_xer := fun_mk (st := (sEx 3)) l_xer c_xer k_xer
  have B_xer := F_xer.binds (ps := ["self", "place"]) fun _ _ _ _ _ _ us hl => match us, hl with | [_, _], _ => rfl
  have F_xsf := fun_mk (st := (sEx 4)) l_xsf c_xsf k_xsf
  have B_xsf := F_xsf.binds (ps := ["self", "place"]) fun _ _ _ _ _ _ us hl => match us, hl with | [_, _], _ => rfl
  have F_xed := fun_mk (st := (sEx 5)) l_xed c_xed k_xed
  have B_xed := F_xed.binds (ps := ["self", "deed"]) fun _ _ _ _ _ _ us hl => match us, hl with | [_, _], _ => rfl
  have F_ye := fun_mk (st := (sSy 6)) l_ye c_ye k_ye
  have B_ye := F_ye.binds (ps := ["self", "other"]) fun _ _ _ _ _ _ us hl => match us, hl with | [_, _], _ => rfl
  have OE_CY : OwnEqC K CY f_ye := ⟨⟨_, _, _, _, _, _, _, _, _, _, _, _, _, _, _, _, x_CY, xq_CY, xn_CY, xo_CY⟩, a_ye, i_ye⟩
  have F_ci := fun_mk (st := (sCa 0)) l_ci c_ci k_ci
  have B_ci := F_ci.binds (ps := ["self", "failing", "faulty"]) fun _ _ _ _ _ _ us hl => match us, hl with | [_, _, _], _ => rfl
  have F_fa := fun_mk (st := (sCa 1)) l_fa c_fa k_fa
  have B_fa := F_fa.binds (ps := ["self", "edition", "script", "reason", "other"]) fun _ _ _ _ _ _ us hl => match us, hl with | [_, _, _, _, _], _ => rfl
  have tsh0 : ∀ H, SqT K H sh0 ([("name" : Str), ("number" : Str)].map V.str) := fun H => .inr ⟨_, _, _, t_sh0, rfl, rfl, (by decide : 2 ≤ sizeLine), .cons ⟨_, rfl⟩ (.cons ⟨_, rfl⟩ .nil)⟩
  have tsh1 : ∀ H, SqT K H sh1 ([("name" : Str)].map V.str) := fun H => .inr ⟨_, _, _, t_sh1, rfl, rfl, (by decide : 1 ≤ sizeLine), .cons ⟨_, rfl⟩ .nil⟩
  have tsh2 : ∀ H, SqT K H sh2 ([("name" : Str)].map V.str) := fun H => .inr ⟨_, _, _, t_sh2, rfl, rfl, (by decide : 1 ≤ sizeLine), .cons ⟨_, rfl⟩ .nil⟩
  have tsh3 : ∀ H, SqT K H sh3 ([("name" : Str)].map V.str) := fun H => .inr ⟨_, _, _, t_sh3, rfl, rfl, (by decide : 1 ≤ sizeLine), .cons ⟨_, rfl⟩ .nil⟩
  have tsh4 : ∀ H, SqT K H sh4 ([("name" : Str)].map V.str) := fun H => .inr ⟨_, _, _, t_sh4, rfl, rfl, (by decide : 1 ≤ sizeLine), .cons ⟨_, rfl⟩ .nil⟩
  have tsh5 : ∀ H, SqT K H sh5 ([("number" : Str)].map V.str) := fun H => .inr ⟨_, _, _, t_sh5, rfl, rfl, (by decide : 1 ≤ sizeLine), .cons ⟨_, rfl⟩ .nil⟩
  have tsh6 : ∀ H, SqT K H sh6 ([("name" : Str), ("status" : Str)].map V.str) := fun H => .inr ⟨_, _, _, t_sh6, rfl, rfl, (by decide : 2 ≤ sizeLine), .cons ⟨_, rfl⟩ (.cons ⟨_, rfl⟩ .nil)⟩
  have tsh7 : ∀ H, SqT K H sh7 (([] : List Str).map V.str) := fun H => .inr ⟨_, _, _, t_sh7, rfl, rfl, (by decide : 0 ≤ sizeLine), .nil⟩
  have tBl : ∀ H, SqT K H aBl [.str "repeat", .str "when"] := fun H => .inr ⟨_, _, _, t_Bl, rfl, rfl, (by decide : 2 ≤ sizeLine), .cons ⟨_, rfl⟩ (.cons ⟨_, rfl⟩ .nil)⟩
  have tS : ∀ H, SqT K H aS (SCR.map V.str) := fun H => .inr ⟨_, _, _, t_S, rfl, rfl, (by decide : 4 ≤ sizeLine), .cons ⟨_, rfl⟩ (.cons ⟨_, rfl⟩ (.cons ⟨_, rfl⟩ (.cons ⟨_, rfl⟩ .nil)))⟩
  have t1 : ∀ H, SqT K H z1 [] := fun H => .inr ⟨_, _, _, t_1, rfl, rfl, by decide, .nil⟩
  have t2 : ∀ H, SqT K H z2 [] := fun H => .inr ⟨_, _, _, t_2, rfl, rfl, by decide, .nil⟩
  have t3 : ∀ H, SqT K H z3 [] := fun H => .inr ⟨_, _, _, t_3, rfl, rfl, by decide, .nil⟩
  have tT : ∀ H, SqT K H aT (THR.map V.str) := fun H => .inr ⟨_, _, _, t_T, rfl, rfl, (by decide : 4 ≤ sizeLine), .cons ⟨_, rfl⟩ (.cons ⟨_, rfl⟩ (.cons ⟨_, rfl⟩ (.cons ⟨_, rfl⟩ .nil)))⟩
  have tZ : ∀ H, SqT K H aZ (STA.map V.str) := fun H => .inr ⟨_, _, _, t_Z, rfl, rfl, (by decide : 6 ≤ sizeLine), .cons ⟨_, rfl⟩ (.cons ⟨_, rfl⟩ (.cons ⟨_, rfl⟩ (.cons ⟨_, rfl⟩ (.cons ⟨_, rfl⟩ (.cons ⟨_, rfl⟩ .nil)))))⟩
  have tQ : ∀ H, SqT K H aP (SETU.map V.str) := fun H => .inr ⟨_, _, _, t_Q, rfl, rfl, (by decide : 2 ≤ sizeLine), .cons ⟨_, rfl⟩ (.cons ⟨_, rfl⟩ .nil)⟩
  have tzP : ∀ H, SqT K H zP [] := fun H => .inr ⟨_, _, _, t_zP, rfl, rfl, by decide, .nil⟩
  have tA : ∀ H, SqT K H aA (stV AB) := fun H => .inr ⟨_, _, _, t_A, rfl, rfl, (by decide : 3 ≤ sizeLine), .cons ⟨_, rfl⟩ (.cons ⟨_, rfl⟩ (.cons ⟨_, rfl⟩ .nil))⟩
  have TD0 : TxtD mg := ⟨none_ n_int, none_ n_len⟩
  have TC : TxtC K mg 0 0 0 0 0 0 0 := ⟨TD0, none_ n_isinstance, none_ n_str, none_ n_bool, none_ n_tuple, none_ n_all, none_ n_range, ⟨_, PySem.W.mg_of X G v_let⟩, ⟨_, PySem.W.mg_of X G v_lon⟩⟩
  have TE0 : TxtE K mg := ⟨TD0, none_ n_isinstance, none_ n_str, none_ n_bool, none_ n_tuple, none_ n_all, none_ n_range, ⟨_, PySem.W.mg_of X G v_lv⟩, ⟨_, PySem.W.mg_of X G v_mv⟩, ⟨_, PySem.W.mg_of X G v_scr, tS⟩⟩
  have TJ : TxtJ mg := ⟨none_ n_sorted, none_ n_tuple, none_ n_set, none_ n_range, none_ n_dict, none_ n_len⟩
  have TA : TxtA K mg CY c5 := ⟨cl_CY, na_CY_held_store, na_CY_held_states, none_ n_dict, none_ n_isinstance, PySem.W.mg_of X G g_CY, EC_c5, ha_CY, hn, ht, hm_CY, ki_CY⟩
  have TG : TxtG l.prog K mg C c0 f_ie _ := ⟨cl_C, na_C_parts, PySem.W.mg_of X G g_C, PySem.W.mg_of X G g_c0, SP_c0, nf_c0, a_ie, y_ie, ER_ie, Binds.all fun us hl => match us, hl with | [_, _], _ => rfl⟩
  have TI : TxtI K mg C := ⟨cl_C, na_C_parts, PySem.W.mg_of X G g_C, none_ n_isinstance, ha_C, hn, ht, hm_C, ki_C⟩
  have TT : TxtT K mg CT c5 c4 := ⟨cl_CT, na_CT_table, na_CT_numbers, none_ n_tuple, none_ n_len, none_ n_isinstance, none_ n_bool, PySem.W.mg_of X G g_CT, EC_c5, EC_c4, ha_CT, hn, ht, hm_CT, ki_CT⟩
  have FE : FunD K "__init__" "Edition.__init__" (defArgs sEi) (defBody sEi) (defScope sEi) [] [("scripts", .ref aS), ("needs", .ref z1), ("first", .ref z2), ("against", .ref z3)] f_ei _ :=
    ⟨⟨_, _, _, _, _, _, _, _, _, _, rfl, l_ei, c_ei, .inl ⟨rfl, rfl⟩, .inr ⟨kD, rfl, fun q hq => by
      simp only [List.mem_cons, List.not_mem_nil, or_false] at hq
      rcases hq with rfl | rfl | rfl | rfl
      · exact ⟨_, d_scripts, rfl⟩
      · exact ⟨_, d_needs, rfl⟩
      · exact ⟨_, d_first, rfl⟩
      · exact ⟨_, d_against, rfl⟩⟩⟩, k_ei⟩
  refine ⟨PySem.W.fnOf "law" "law" (defArgs sLaw) (defBody sLaw) (defScope sLaw) .none kV_law dc_law pm_law an_law (.ref cLaw) ct_law, [], spLaw K, fun p hp => (nomatch hp), fun p hp => (nomatch hp), fun p hp => (nomatch hp), fun s v => .of_eq rfl, fun H a ns hl _ hT hS => ⟨a, ns, rfl, hS, hl, fun _ => rfl⟩, fun base KB GB TB => ?_⟩
  · have dN : Def l.prog w K mg base 1 "is_number" _ spNumber := ⟨_, _, ok_number F_numb TE0, PySem.W.mg_of X G a_numb, k_numb, B_numb⟩
    have dV : Def l.prog w K mg base 2 "is_version" _ spVersion := ⟨_, _, ok_version F_vers TE0 dN, PySem.W.mg_of X G a_vers, k_vers, B_vers⟩
    have dA : Def l.prog w K mg base 1 "ascends" _ (spAsc K) := ⟨_, _, ok_asc F_asc TE0, PySem.W.mg_of X G a_asc, k_asc, B_asc⟩
    have dW : Def l.prog w K mg base 1 "is_word" _ spWord := ⟨_, _, ok_word F_word TC, PySem.W.mg_of X G a_word, k_word, B_word⟩
    have dS : Def l.prog w K mg base 2 "are_scripts" _ (spScripts K) := ⟨_, _, ok_scripts F_scri TE0 dA, PySem.W.mg_of X G a_scri, k_scri, B_scri⟩
    have dO : Def l.prog w K mg base 2 "are_other_names" _ (spOthers K) := ⟨_, _, ok_others F_othe TE0 dA dW, PySem.W.mg_of X G a_othe, k_othe, B_othe⟩
    have dPr : Def l.prog w K mg base 3 "is_pair_with_version" _ (spPair K) := ⟨_, _, ok_pair F_pair TE0 dV, PySem.W.mg_of X G a_pair, k_pair, B_pair⟩
    have dNe : Def l.prog w K mg base 4 "are_needs" _ (spNeeds K) := ⟨_, _, ok_needs F_need TE0 dPr dO, PySem.W.mg_of X G a_need, k_need, B_need⟩
    have dWr : Def l.prog w K mg base 5 "wrong_part" _ (spWrong K) := ⟨_, _, ok_wrong F_wron TE0 ⟨dW, dV, dS, dNe, dO⟩, PySem.W.mg_of X G a_wron, k_wron, B_wron⟩
    have EI : EdF l.prog w K mg base C c0 f_ei _ aS z1 z2 z3 := ⟨ok_ei FE TG dWr, FE, ⟨mk_C, a_ei, i_ei, kc_C⟩, PySem.W.mg_of X G g_C, tS, t1, t2, t3⟩
    have eqF : EqF l.prog w K mg base C := ⟨_, _, ok_eq F_eq TI, OE_C, B_eq⟩
    have D : EdAll l.prog w K mg base C c0 := ⟨⟨_, _, _, _, _, _, EI⟩, eqF, cl_C, ⟨_, _, _, P_g0, ok_get (by decide) F_g0 cl_C na_C_parts, B_g0⟩, ⟨_, _, _, P_g1, ok_get (by decide) F_g1 cl_C na_C_parts, B_g1⟩, ⟨_, _, _, P_g2, ok_get (by decide) F_g2 cl_C na_C_parts, B_g2⟩, ⟨_, _, _, P_g3, ok_get (by decide) F_g3 cl_C na_C_parts, B_g3⟩, ⟨_, _, _, P_g4, ok_get (by decide) F_g4 cl_C na_C_parts, B_g4⟩, ⟨_, _, _, P_g5, ok_get (by decide) F_g5 cl_C na_C_parts, B_g5⟩⟩
    have dT : Def l.prog w K mg base 1 "_law_taken" _ (spTaken K) := ⟨_, _, ok_taken F_take TD0, PySem.W.mg_of X G a_take, k_take, B_take⟩
    have TW : TxtW l.prog w K mg base C := ⟨none_ n_set, none_ n_len, none_ n_enumerate, ⟨_, PySem.W.mg_of X G v_me⟩, ⟨_, PySem.W.mg_of X G v_mn⟩, D.p0, D.p1, cl_C⟩
    have dWi : Def l.prog w K mg base 3 "wrong_index" _ (spWi K C) := ⟨_, _, ok_wi F_wi TW, PySem.W.mg_of X G a_wi, k_wi, B_wi⟩
    have dVn : Def l.prog w K mg base 1 "versions_by_name" _ (spVn K) := ⟨_, _, ok_vn F_vn (none_ n_sorted), PySem.W.mg_of X G a_vn, k_vn, B_vn⟩
    have TS : TxtS l.prog w K mg base C CT c1 f_is _ := ⟨cl_CT, na_CT_table, na_CT_numbers, none_ n_list, PySem.W.mg_of X G g_c1, SP_c1, nf_c1, a_is, y_is, ER_is, (Binds.all fun us hl => match us, hl with | [_, _], _ => rfl), D.p0, D.p1, cl_C, dWi, dVn⟩
    have FH := ok_has (P := l.prog) (w := w) (base := base) F_sh TT
    have HF : HasF l.prog w K mg base CT := ⟨_, _, ⟨a_sh, i_sh⟩, FH, B_sh⟩
    have NF : NamF l.prog w K mg base CT := ⟨cl_CT, ⟨_, _, _, P_sn, ok_names F_sn TT, B_sn⟩⟩
    have TY : TxtY l.prog w K mg base CT := ⟨none_ n_isinstance, none_ n_tuple, none_ n_len, none_ n_sorted, ⟨_, PySem.W.mg_of X G v_thr, tT⟩, ⟨_, PySem.W.mg_of X G v_abs, tA⟩, dN, HF, ⟨_, PySem.W.mg_of X G v_sta, tZ⟩⟩
    have dIst : Def l.prog w K mg base 2 "is_state" _ (spIst K CT) := ⟨_, _, ok_ist F_ist TY, PySem.W.mg_of X G a_ist, k_ist, B_ist⟩
    have dWp : Def l.prog w K mg base 3 "wrong_package" _ (spWp K CT) := ⟨_, _, ok_wp F_wp TY NF dIst, PySem.W.mg_of X G a_wp, k_wp, B_wp⟩
    have TZ : TxtZ l.prog w K mg base CT CY c2 f_iy _ := ⟨TY, NF, cl_CY, na_CY_held_store, na_CY_held_states, PySem.W.mg_of X G g_c2, SP_c2, nf_c2, a_iy, y_iy, ER_iy, (Binds.all fun us hl => match us, hl with | [_, _], _ => rfl), dWp⟩
    have MY : MkY l.prog w K mg base CT CY c2 := ⟨_, _, ok_yi F_yi TZ, ⟨mk_CY, a_yi, i_yi, kc_CY⟩, B_yi, PySem.W.mg_of X G g_CY⟩
    have SY : SyF l.prog w K mg base C CT CY c5 c4 := ⟨cl_CY, cl_C, NF, ⟨_, _, _, P_ys, ok_ys F_ys TA, B_ys⟩, ⟨_, _, ⟨a_yg, i_yg⟩, fn_yg, ok_yg F_yg TA, B_yg⟩, ⟨_, _, ⟨a_sg, i_sg⟩, fn_sg, ok_item F_sg TT FH ⟨a_sh, i_sh⟩ B_sh, B_sg⟩, D.p0, D.p3, D.p5⟩
    have YW : YwF l.prog w K mg base CT CY c2 c5 := ⟨_, _, ⟨a_yw, i_yw, k_yw⟩, ok_yw F_yw TA MY, B_yw⟩
    have MS : MkSt l.prog w K mg base C CT c1 := ⟨⟨_, _, ⟨mk_CT, a_si, i_si, kc_CT⟩, ok_si F_si TS, B_si⟩, PySem.W.mg_of X G g_CT⟩
    have dIth : Def l.prog w K mg base 3 "is_there" _ (spIth K C CT CY) := ⟨_, _, ok_ith F_ith TY SY, PySem.W.mg_of X G a_ith, k_ith, B_ith⟩
    have dEo : Def l.prog w K mg base 4 "edition_of" _ (spEo K C CT CY) := ⟨_, _, ok_eo F_eo SY, PySem.W.mg_of X G a_eo, k_eo, B_eo⟩
    have dMet : Def l.prog w K mg base 3 "is_met" _ (spMet K C CT CY) := ⟨_, _, ok_met F_met SY, PySem.W.mg_of X G a_met, k_met, B_met⟩
    have dUn : Def l.prog w K mg base 4 "unmet_names" _ (spUn K C CT CY) := ⟨_, _, ok_un F_un dMet, PySem.W.mg_of X G a_un, k_un, B_un⟩
    have dAg : Def l.prog w K mg base 3 "are_against" _ (spAg K C) := ⟨_, _, ok_ag F_ag SY, PySem.W.mg_of X G a_ag, k_ag, B_ag⟩
    have dNag : Def l.prog w K mg base 5 "names_against" _ (spNa K C CT CY) := ⟨_, _, ok_na F_nag SY dIth dEo dAg, PySem.W.mg_of X G a_nag, k_nag, B_nag⟩
    have EG : EdG l.prog w K mg base C := ⟨D.p1, D.p2, D.p4⟩
    have dUr : Def l.prog w K mg base 6 "unpack_refusal" _ (spUr K C CT CY) := ⟨_, _, ok_ur F_ur TY SY EG dUn dNag, PySem.W.mg_of X G a_ur, k_ur, B_ur⟩
    have dNn : Def l.prog w K mg base 5 "needs_name" _ (spNn K C CT CY) := ⟨_, _, ok_nn F_nn SY dEo, PySem.W.mg_of X G a_nn, k_nn, B_nn⟩
    have RT : RefT l.prog w K mg base C CT CY := ⟨aR, f_sr, f_rr, f_pr, _, _, _, PySem.W.mg_of X G v_aR, ⟨_, _, _, d_aR, y_aR, m_aR_setup, rfl⟩, ⟨_, _, _, d_aR, y_aR, m_aR_remove, rfl⟩, ⟨_, _, _, d_aR, y_aR, m_aR_purge, rfl⟩, ok_sr F_sr SY dEo dUn, k_sr, B_sr, ok_rr F_rr SY dIth dNn, k_rr, B_rr, ok_pr F_pr SY, k_pr, B_pr⟩
    have dRef : Def l.prog w K mg base 7 "refusal" _ (spRef K C CT CY) := ⟨_, _, ok_ref F_ref SY RT dUr, PySem.W.mg_of X G a_ref, k_ref, B_ref⟩
    have T2 : TxtC2 l.prog w K mg base C CC := ⟨cl_CC, na_CC_failing, na_CC_faulty, na_CC_made, cl_C, D.p0, D.p1, D.p2, none_ n_len⟩
    have FF : FailF l.prog w K mg base C CC := ⟨cl_CC, ⟨_, _, ⟨a_fa, i_fa, k_fa⟩, ok_fails F_fa T2, B_fa⟩, cl_C, D.p1, ⟨_, PySem.W.mg_of X G v_su, tQ⟩, ⟨_, PySem.W.mg_of X G v_abs, tA⟩⟩
    have dInst : Def l.prog w K mg base 4 "install" _ (spInst K C CC) := ⟨_, _, ok_inst F_inst FF, PySem.W.mg_of X G a_inst, k_inst, B_inst⟩
    have dBoth : Def l.prog w K mg base 4 "both_fail" _ (spBoth K C CC) := ⟨_, _, ok_both F_both FF, PySem.W.mg_of X G a_both, k_both, B_both⟩
    have dPutB : Def l.prog w K mg base 4 "put_back" _ (spPutB K C CC putB 80) := ⟨_, _, ok_putB F_putb FF, PySem.W.mg_of X G a_putb, k_putb, B_putb⟩
    have dUpg : Def l.prog w K mg base 5 "upgrade" _ (spPutB K C CC upg 60) := ⟨_, _, ok_upg F_upg FF dBoth dPutB, PySem.W.mg_of X G a_upg, k_upg, B_upg⟩
    have dUnp : Def l.prog w K mg base 6 "unpack" _ (spUnp K C CT CC) := ⟨_, _, ok_unp F_unp SY dInst dUpg, PySem.W.mg_of X G a_unp, k_unp, B_unp⟩
    have AT : ActT l.prog w K mg base C CC := ⟨aC, f_sup, f_tout, f_purg, _, _, _, PySem.W.mg_of X G v_aC, ⟨_, _, _, d_aC, y_aC, m_aC_setup, rfl⟩, ⟨_, _, _, d_aC, y_aC, m_aC_remove, rfl⟩, ⟨_, _, _, d_aC, y_aC, m_aC_purge, rfl⟩, ok_sup F_sup FF, k_sup, B_sup, ok_tout F_tout FF, k_tout, B_tout, ok_purg F_purg FF, k_purg, B_purg⟩
    have MC : MkC l.prog w K mg base CC := ⟨⟨_, _, ok_ci F_ci T2, ⟨mk_CC, a_ci, i_ci, kc_CC⟩, B_ci, PySem.W.mg_of X G g_CC⟩, cl_CC, na_CC_made⟩
    have FP : FunD K "play" "play" (defArgs sPlay) (defBody sPlay) (defScope sPlay) [.ref zP] [] f_play _ := ⟨⟨_, _, _, _, _, _, _, _, _, _, rfl, l_play, c_play, .inr ⟨by simp, tP, _, [.ref zP], nP, rfl, t_P, rfl, .cons rfl .nil⟩, .inl rfl⟩, k_play⟩
    obtain ⟨dsP, vdP, bP⟩ := FP.binds1 (ps := ["store", "state", "deed", "fails", "faulty"]) 4 0 (by simp) rfl (fun T kV doc pm an cdv ct us its hl hi => match us, hl, its, hi with | [_, _, _, _], _, [_], _ => ⟨_, rfl, rfl⟩)
    have PF : PlayF l.prog w K mg base C CT := ⟨_, _, zP, dsP, ok_play FP SY MC AT dUnp, PySem.W.mg_of X G a_play, k_play, bP, vdP, tzP⟩
    have TR : TxtR l.prog w K mg base c3 f_ir _ := ⟨PySem.W.mg_of X G g_c3, SP_c3, nf_c3, a_ir, y_ir, ER_ir, Binds.all fun us hl => match us, hl with | [_, _], _ => rfl⟩
    have dCb : DefX l.prog w K mg base 8 "check_beginning" _ (spCb K C CT CY c3) := ⟨_, _, ok_cb F_cb TR dRef, PySem.W.mg_of X G a_cb, k_cb, B_cb⟩
    have dRun : DefX l.prog w K mg base 9 "run" _ (spRun K C CT CY c3) := ⟨_, _, ok_run F_run SY YW PF dCb, PySem.W.mg_of X G a_run, k_run, B_run⟩
    have TNm : TxtN mg := ⟨none_ n_len, none_ n_all, none_ n_range, ⟨_, PySem.W.mg_of X G v_dig⟩, ⟨_, PySem.W.mg_of X G v_lnn⟩⟩
    have dNm : Def l.prog w K mg base 1 "is_numeral" _ spNml := ⟨_, _, ok_nml F_nml TNm, PySem.W.mg_of X G a_nml, k_nml, B_nml⟩
    have F_ascI := fun_mk (st := sAscI) l_asc c_asc k_asc
    have dAi : Def l.prog w K mg base 1 "ascends" _ (spAscI K) := ⟨_, _, ok_ascI F_ascI TNm, PySem.W.mg_of X G a_asc, k_asc, B_asc⟩
    have SHP2 := shp_of d_shp tsh0 tsh1 tsh2 tsh3 tsh4 tsh5 tsh6 tsh7
    have TSc : TxtSc K w mg := ⟨none_ n_len, none_ n_all, none_ n_zip, none_ n_int, ⟨_, PySem.W.mg_of X G v_sta, tZ⟩, ⟨_, PySem.W.mg_of X G v_mro⟩, ⟨_, PySem.W.mg_of X G v_mde⟩, ⟨_, PySem.W.mg_of X G v_blk, tBl⟩, ⟨_, _, _, PySem.W.mg_of X G v_shp, ⟨d_shp, y_shp, lo_shp⟩, SHP2.1, SHP2.2⟩⟩
    have dFi : Def l.prog w K mg base 2 "fits" _ spFit := ⟨_, _, ok_fits F_fits TSc dW dNm, PySem.W.mg_of X G a_fits, k_fits, B_fits⟩
    have dIr : Def l.prog w K mg base 3 "is_row" _ spIrw := ⟨_, _, ok_irw F_irw TSc dFi dNm dAi, PySem.W.mg_of X G a_irw, k_irw, B_irw⟩
    have dCs : Def l.prog w K mg base 4 "can_stand" _ spCst := ⟨_, _, ok_cst F_cst TSc dIr, PySem.W.mg_of X G a_cst, k_cst, B_cst⟩
    have dRo : Def l.prog w K mg base 1 "rows_of" _ spRo := ⟨_, _, ok_ro F_ro, PySem.W.mg_of X G a_ro, k_ro, B_ro⟩
    have TSe : TxtSe l.prog w K mg base "ScriptError" "ScriptError.__init__" sIse c6 f_ise _ := ⟨PySem.W.mg_of X G g_c6, SP_c6, nf_c6, a_ise, y_ise, ER_ise, Binds.all fun us hl => match us, hl with | [_, _], _ => rfl⟩
    have TUe : TxtSe l.prog w K mg base "UnknownPackage" "UnknownPackage.__init__" sIup c7 f_iup _ := ⟨PySem.W.mg_of X G g_c7, SP_c7, nf_c7, a_iup, y_iup, ER_iup, Binds.all fun us hl => match us, hl with | [_, _], _ => rfl⟩
    have dBl : DefX l.prog w K mg base 5 "block_ends" _ (spBle c6) := ⟨_, _, ok_ble F_ble TSc (none_ n_enumerate) TSe dCs, PySem.W.mg_of X G a_ble, k_ble, B_ble⟩
    have TEx : TxtEx K mg CX c8 := ⟨cl_CX, na_CX_rows, na_CX_blocks, na_CX_held_system, na_CX_failing, na_CX_output, na_CX_steps, ⟨_, PySem.W.mg_of X G v_mst⟩, EC_c8, none_ n_tuple, none_ n_int, none_ n_range⟩
    have RF : RscF l.prog w K mg base C CT CY c5 c4 c3 CX c6 c7 c8 f_iup _ := ⟨TEx, SY, none_ n_len, ⟨_, _, F_xi_, ⟨mk_CX, a_xi_, i_xi_, kc_CX⟩, B_xi_, PySem.W.mg_of X G g_CX⟩, dRo, dBl, TUe, dRef, dRun, ⟨_, _, ⟨a_xso, i_xso, k_xso⟩, F_xso, B_xso⟩, ⟨_, _, ⟨a_xex, i_xex, k_xex⟩, F_xex, B_xex⟩, ⟨_, _, ⟨a_xer, i_xer, k_xer⟩, F_xer, B_xer⟩, ⟨_, _, ⟨a_xsf, i_xsf, k_xsf⟩, F_xsf, B_xsf⟩, ⟨_, _, ⟨a_xed, i_xed, k_xed⟩, F_xed, B_xed⟩⟩
    have dRsc : DefX l.prog w K mg base 21 "run_script" _ (spRsc K C CT CY c6 c7 c8) := ⟨_, _, ok_rsc F_rsc RF, PySem.W.mg_of X G a_rsc, k_rsc, B_rsc⟩
    have FT : FltT l.prog w K mg base C CT CY c1 c2 c0 c6 c7 c8 := ⟨PySem.W.mg_of X G g_c6, PySem.W.mg_of X G g_c7, PySem.W.mg_of X G g_c8, ⟨_, PySem.W.mg_of X G g_c9⟩, ⟨ga_c6, gg_c6, ex_c6, hx_c6⟩, ⟨ga_c7, gg_c7, ex_c7, hx_c7⟩, nf_c6, nf_c7, PySem.W.exm_ref ex_c6 hx_c6 tt_c6 ss_c6, PySem.W.exm_ref ex_c6 hx_c6 tt_c6 no_c7_c6, PySem.W.exm_ref ex_c7 hx_c7 tt_c7 ss_c7, PySem.W.exm_ref ex_c6 hx_c6 tt_c6 no_c8_c6, PySem.W.exm_ref ex_c7 hx_c7 tt_c7 no_c8_c7, PySem.W.exm_ref eb_c8 hx_c8 et_c8 ss_c8, ⟨_, _, _, _, _, _, EI⟩, ⟨_, _, ok_si F_si TS, ⟨mk_CT, a_si, i_si, kc_CT⟩, B_si, PySem.W.mg_of X G g_CT⟩, MY⟩
    have dFl : Def l.prog w K mg base 22 "_law_fault" _ (spFlt K) := ⟨_, _, ok_flt F_flt FT dRsc, PySem.W.mg_of X G a_flt, k_flt, B_flt⟩
    have dAl : Def l.prog w K mg base 23 "_law_are_long" _ spAl := ⟨_, _, ok_al F_al (none_ n_str) dFl, PySem.W.mg_of X G a_al, k_al, B_al⟩
    exact ok_law l_law c_law ⟨none_ n_len, none_ n_range, dT, dFl, dAl⟩
end Half

open PySem PySem.W PyProof.Rows
set_option maxRecDepth 100000 in
set_option maxHeartbeats 0 in
theorem PySem.Challenge.cw_halfsetup_k53_scripts_rejected_holds : PySem.Challenge.rw_halfsetup_k53_scripts_rejected.Holds := by
  w_on; o_law
  refine HandSHeadRun.head_any (r := OpenLaw.row PySem.Challenge.rw_halfsetup_k53_scripts_rejected) (q := HalfHead.qv) (H := kHook HalfHead.pre.heap_1 HalfHead.ats HalfHead.ats_ok) (ob := HalfHead.ob) (M := 7000) (loose := HalfHead.names) (kwd := []) HalfHead.ob_eq (by kernel_rfl) (fun s => by kernel_rfl) HalfHead.run (by rfl) (by rfl) (by rfl) (by rfl) (by first | assumption | decide +kernel) (by decide +kernel) ⟨rfl, rfl, rfl, rfl, rfl, by decide +kernel⟩ ?_ ?_
  · w_witness2
  k_fill
  refine LamX.walk_ofTs (l := PySem.Challenge.rw_halfsetup_k53_scripts_rejected) (n := 63) (k := 24) (x := "_law_script") (CX := fun _ => L2.CX0) rfl (by decide) rfl ⟨rfl, by decide, by decide⟩ (fun w h Y => PySem.W.kIn_of Y) ?F (fun _ _ _ _ _ z => z)
  case F =>
    intro w mg fa h Y KX G hmg
    refine' Half.all_mk KX G hmg ?n_int ?n_len ?n_isinstance ?n_str ?n_bool ?n_tuple ?n_all ?n_range ?n_ValueError ?n_super ?n_set ?n_sorted ?n_list ?n_enumerate ?n_dict ?n_any ?n_min ?n_max ?n_zip ?a_word ?l_word ?c_word ?k_word ?a_numb ?l_numb ?c_numb ?k_numb ?a_asc ?l_asc ?c_asc ?k_asc ?a_vers ?l_vers ?c_vers ?k_vers ?a_scri ?l_scri ?c_scri ?k_scri ?a_othe ?l_othe ?c_othe ?k_othe ?a_pair ?l_pair ?c_pair ?k_pair ?a_need ?l_need ?c_need ?k_need ?a_wron ?l_wron ?c_wron ?k_wron ?a_wi ?l_wi ?c_wi ?k_wi ?a_vn ?l_vn ?c_vn ?k_vn ?a_take ?l_take ?c_take ?k_take ?a_ist ?l_ist ?c_ist ?k_ist ?a_wp ?l_wp ?c_wp ?k_wp ?a_ith ?l_ith ?c_ith ?k_ith ?a_eo ?l_eo ?c_eo ?k_eo ?a_met ?l_met ?c_met ?k_met ?a_un ?l_un ?c_un ?k_un ?a_ag ?l_ag ?c_ag ?k_ag ?a_nag ?l_nag ?c_nag ?k_nag ?a_ur ?l_ur ?c_ur ?k_ur ?a_sr ?l_sr ?c_sr ?k_sr ?a_nn ?l_nn ?c_nn ?k_nn ?a_rr ?l_rr ?c_rr ?k_rr ?a_pr ?l_pr ?c_pr ?k_pr ?a_ref ?l_ref ?c_ref ?k_ref ?a_inst ?l_inst ?c_inst ?k_inst ?a_both ?l_both ?c_both ?k_both ?a_upg ?l_upg ?c_upg ?k_upg ?a_putb ?l_putb ?c_putb ?k_putb ?a_unp ?l_unp ?c_unp ?k_unp ?a_sup ?l_sup ?c_sup ?k_sup ?a_tout ?l_tout ?c_tout ?k_tout ?a_purg ?l_purg ?c_purg ?k_purg ?a_cb ?l_cb ?c_cb ?k_cb ?a_run ?l_run ?c_run ?k_run ?a_nml ?l_nml ?c_nml ?k_nml ?a_fits ?l_fits ?c_fits ?k_fits ?a_irw ?l_irw ?c_irw ?k_irw ?a_cst ?l_cst ?c_cst ?k_cst ?a_ro ?l_ro ?c_ro ?k_ro ?a_ble ?l_ble ?c_ble ?k_ble ?a_rsc ?l_rsc ?c_rsc ?k_rsc ?a_flt ?l_flt ?c_flt ?k_flt ?a_al ?l_al ?c_al ?k_al ?a_law ?l_law ?c_law ?k_law ?g_C ?g_CT ?g_CY ?g_CC ?g_CX ?pg_CX ?hd_CX ?po_CX ?sa_CX ?ha_CX ?hm_CX ?ki_CX ?hn ?ht ?pg_C ?hd_C ?po_C ?sa_C ?ha_C ?hm_C ?ki_C ?pg_CT ?hd_CT ?po_CT ?sa_CT ?ha_CT ?hm_CT ?ki_CT ?pg_CY ?hd_CY ?po_CY ?sa_CY ?ha_CY ?hm_CY ?ki_CY ?pg_CC ?hd_CC ?po_CC ?sa_CC ?ha_CC ?hm_CC ?ki_CC ?g_c0 ?g_c1 ?g_c2 ?g_c3 ?g_c4 ?g_c5 ?ex_c0 ?nf_c0 ?ex_c1 ?nf_c1 ?ex_c2 ?nf_c2 ?ex_c3 ?nf_c3 ?ocl_c0 ?ove_c0 ?osa_c0 ?oty_c0 ?okc_c0 ?osb_c0 ?osu_c0 ?osv_c0 ?o_op ?o_top ?a_ie ?y_ie ?l_ie ?c_ie ?e_ie ?f2_ie ?fl_ie ?ce_ie ?ocl_c1 ?ove_c1 ?osa_c1 ?oty_c1 ?okc_c1 ?osb_c1 ?osu_c1 ?osv_c1 ?a_is ?y_is ?l_is ?c_is ?e_is ?f2_is ?fl_is ?ce_is ?ocl_c2 ?ove_c2 ?osa_c2 ?oty_c2 ?okc_c2 ?osb_c2 ?osu_c2 ?osv_c2 ?a_iy ?y_iy ?l_iy ?c_iy ?e_iy ?f2_iy ?fl_iy ?ce_iy ?ocl_c3 ?ove_c3 ?osa_c3 ?oty_c3 ?okc_c3 ?osb_c3 ?osu_c3 ?osv_c3 ?a_ir ?y_ir ?l_ir ?c_ir ?e_ir ?f2_ir ?fl_ir ?ce_ir ?g_c6 ?ex_c6 ?nf_c6 ?ocl_c6 ?ove_c6 ?osa_c6 ?oty_c6 ?okc_c6 ?osb_c6 ?osu_c6 ?osv_c6 ?a_ise ?y_ise ?l_ise ?c_ise ?e_ise ?f2_ise ?fl_ise ?ce_ise ?ga_c6 ?gg_c6 ?hx_c6 ?tt_c6 ?ss_c6 ?g_c7 ?ex_c7 ?nf_c7 ?ocl_c7 ?ove_c7 ?osa_c7 ?oty_c7 ?okc_c7 ?osb_c7 ?osu_c7 ?osv_c7 ?a_iup ?y_iup ?l_iup ?c_iup ?e_iup ?f2_iup ?fl_iup ?ce_iup ?ga_c7 ?gg_c7 ?hx_c7 ?tt_c7 ?ss_c7 ?g_c8 ?exi_c8 ?ekc_c8 ?eb_c8 ?et_c8 ?g_c9 ?hx_c8 ?ss_c8 ?no_c7_c6 ?no_c8_c6 ?no_c8_c7 ?exi_c4 ?ekc_c4 ?eb_c4 ?et_c4 ?exi_c5 ?ekc_c5 ?eb_c5 ?et_c5 ?v_let ?v_dig ?v_lnn ?v_mro ?v_mde ?v_mst ?v_lon ?v_lv ?v_mv ?v_me ?v_mn ?v_scr ?a_ei ?l_ei ?c_ei ?k_ei ?i_ei ?mk_C ?kc_C ?d_scripts ?d_needs ?d_first ?d_against ?t_S ?t_1 ?t_2 ?t_3 ?na_C_parts ?pa_g0 ?pg_g0 ?pt_g0 ?pr_g0 ?l_g0 ?c_g0 ?k_g0 ?pa_g1 ?pg_g1 ?pt_g1 ?pr_g1 ?l_g1 ?c_g1 ?k_g1 ?pa_g2 ?pg_g2 ?pt_g2 ?pr_g2 ?l_g2 ?c_g2 ?k_g2 ?pa_g3 ?pg_g3 ?pt_g3 ?pr_g3 ?l_g3 ?c_g3 ?k_g3 ?pa_g4 ?pg_g4 ?pt_g4 ?pr_g4 ?l_g4 ?c_g4 ?k_g4 ?pa_g5 ?pg_g5 ?pt_g5 ?pr_g5 ?l_g5 ?c_g5 ?k_g5 ?a_eq ?l_eq ?c_eq ?k_eq ?i_eq ?x_C ?xq_C ?xn_C ?xo_C ?na_CT_table ?na_CT_numbers ?a_si ?l_si ?c_si ?k_si ?i_si ?mk_CT ?kc_CT ?pa_sn ?pg_sn ?pt_sn ?pr_sn ?l_sn ?c_sn ?k_sn ?a_sv ?l_sv ?c_sv ?k_sv ?i_sv ?a_sl ?l_sl ?c_sl ?k_sl ?i_sl ?a_sh ?l_sh ?c_sh ?k_sh ?i_sh ?a_sg ?l_sg ?c_sg ?k_sg ?i_sg ?fn_sg ?a_se ?l_se ?c_se ?k_se ?i_se ?x_CT ?xq_CT ?xn_CT ?xo_CT ?na_CY_held_store ?na_CY_held_states ?a_yi ?l_yi ?c_yi ?k_yi ?i_yi ?mk_CY ?kc_CY ?pa_ys ?pg_ys ?pt_ys ?pr_ys ?l_ys ?c_ys ?k_ys ?a_yw ?l_yw ?c_yw ?k_yw ?i_yw ?a_yg ?l_yg ?c_yg ?k_yg ?i_yg ?fn_yg ?na_CX_rows ?na_CX_blocks ?na_CX_held_system ?na_CX_failing ?na_CX_output ?na_CX_steps ?a_xi_ ?l_xi_ ?c_xi_ ?k_xi_ ?i_xi_ ?a_xso ?l_xso ?c_xso ?k_xso ?i_xso ?a_xex ?l_xex ?c_xex ?k_xex ?i_xex ?a_xer ?l_xer ?c_xer ?k_xer ?i_xer ?a_xsf ?l_xsf ?c_xsf ?k_xsf ?i_xsf ?a_xed ?l_xed ?c_xed ?k_xed ?i_xed ?mk_CX ?kc_CX ?v_blk ?t_Bl ?v_shp ?d_shp ?y_shp ?lo_shp ?t_sh0 ?t_sh1 ?t_sh2 ?t_sh3 ?t_sh4 ?t_sh5 ?t_sh6 ?t_sh7 ?a_ye ?l_ye ?c_ye ?k_ye ?i_ye ?x_CY ?xq_CY ?xn_CY ?xo_CY ?na_CC_failing ?na_CC_faulty ?na_CC_made ?a_ci ?l_ci ?c_ci ?k_ci ?i_ci ?mk_CC ?kc_CC ?a_fa ?l_fa ?c_fa ?k_fa ?i_fa ?a_play ?l_play ?c_play ?k_play ?t_P ?t_zP ?v_aR ?d_aR ?y_aR ?m_aR_setup ?m_aR_remove ?m_aR_purge ?v_aC ?d_aC ?y_aC ?m_aC_setup ?m_aC_remove ?m_aC_purge ?v_su ?t_Q ?v_thr ?v_sta ?t_Z ?v_abs ?t_T ?t_A
    (case n_int => k_is)
    (case n_len => k_is)
    (case n_isinstance => k_is)
    (case n_str => k_is)
    (case n_bool => k_is)
    (case n_tuple => k_is)
    (case n_all => k_is)
    (case n_range => k_is)
    (case n_ValueError => k_is)
    (case n_super => k_is)
    (case n_set => k_is)
    (case n_sorted => k_is)
    (case n_list => k_is)
    (case n_enumerate => k_is)
    (case n_dict => k_is)
    (case n_any => k_is)
    (case n_min => k_is)
    (case n_max => k_is)
    (case n_zip => k_is)
    (case a_word => k_is)
    (case l_word => k_is)
    (case c_word => k_is)
    (case k_word => k_is)
    (case a_numb => k_is)
    (case l_numb => k_is)
    (case c_numb => k_is)
    (case k_numb => k_is)
    (case a_asc => k_is)
    (case l_asc => k_is)
    (case c_asc => k_is)
    (case k_asc => k_is)
    (case a_vers => k_is)
    (case l_vers => k_is)
    (case c_vers => k_is)
    (case k_vers => k_is)
    (case a_scri => k_is)
    (case l_scri => k_is)
    (case c_scri => k_is)
    (case k_scri => k_is)
    (case a_othe => k_is)
    (case l_othe => k_is)
    (case c_othe => k_is)
    (case k_othe => k_is)
    (case a_pair => k_is)
    (case l_pair => k_is)
    (case c_pair => k_is)
    (case k_pair => k_is)
    (case a_need => k_is)
    (case l_need => k_is)
    (case c_need => k_is)
    (case k_need => k_is)
    (case a_wron => k_is)
    (case l_wron => k_is)
    (case c_wron => k_is)
    (case k_wron => k_is)
    (case a_wi => k_is)
    (case l_wi => k_is)
    (case c_wi => k_is)
    (case k_wi => k_is)
    (case a_vn => k_is)
    (case l_vn => k_is)
    (case c_vn => k_is)
    (case k_vn => k_is)
    (case a_take => k_is)
    (case l_take => k_is)
    (case c_take => k_is)
    (case k_take => k_is)
    (case a_ist => k_is)
    (case l_ist => k_is)
    (case c_ist => k_is)
    (case k_ist => k_is)
    (case a_wp => k_is)
    (case l_wp => k_is)
    (case c_wp => k_is)
    (case k_wp => k_is)
    (case a_ith => k_is)
    (case l_ith => k_is)
    (case c_ith => k_is)
    (case k_ith => k_is)
    (case a_eo => k_is)
    (case l_eo => k_is)
    (case c_eo => k_is)
    (case k_eo => k_is)
    (case a_met => k_is)
    (case l_met => k_is)
    (case c_met => k_is)
    (case k_met => k_is)
    (case a_un => k_is)
    (case l_un => k_is)
    (case c_un => k_is)
    (case k_un => k_is)
    (case a_ag => k_is)
    (case l_ag => k_is)
    (case c_ag => k_is)
    (case k_ag => k_is)
    (case a_nag => k_is)
    (case l_nag => k_is)
    (case c_nag => k_is)
    (case k_nag => k_is)
    (case a_ur => k_is)
    (case l_ur => k_is)
    (case c_ur => k_is)
    (case k_ur => k_is)
    (case a_sr => k_is)
    (case l_sr => k_is)
    (case c_sr => k_is)
    (case k_sr => k_is)
    (case a_nn => k_is)
    (case l_nn => k_is)
    (case c_nn => k_is)
    (case k_nn => k_is)
    (case a_rr => k_is)
    (case l_rr => k_is)
    (case c_rr => k_is)
    (case k_rr => k_is)
    (case a_pr => k_is)
    (case l_pr => k_is)
    (case c_pr => k_is)
    (case k_pr => k_is)
    (case a_ref => k_is)
    (case l_ref => k_is)
    (case c_ref => k_is)
    (case k_ref => k_is)
    (case a_inst => k_is)
    (case l_inst => k_is)
    (case c_inst => k_is)
    (case k_inst => k_is)
    (case a_both => k_is)
    (case l_both => k_is)
    (case c_both => k_is)
    (case k_both => k_is)
    (case a_upg => k_is)
    (case l_upg => k_is)
    (case c_upg => k_is)
    (case k_upg => k_is)
    (case a_putb => k_is)
    (case l_putb => k_is)
    (case c_putb => k_is)
    (case k_putb => k_is)
    (case a_unp => k_is)
    (case l_unp => k_is)
    (case c_unp => k_is)
    (case k_unp => k_is)
    (case a_sup => k_is)
    (case l_sup => k_is)
    (case c_sup => k_is)
    (case k_sup => k_is)
    (case a_tout => k_is)
    (case l_tout => k_is)
    (case c_tout => k_is)
    (case k_tout => k_is)
    (case a_purg => k_is)
    (case l_purg => k_is)
    (case c_purg => k_is)
    (case k_purg => k_is)
    (case a_cb => k_is)
    (case l_cb => k_is)
    (case c_cb => k_is)
    (case k_cb => k_is)
    (case a_run => k_is)
    (case l_run => k_is)
    (case c_run => k_is)
    (case k_run => k_is)
    (case a_nml => k_is)
    (case l_nml => k_is)
    (case c_nml => k_is)
    (case k_nml => k_is)
    (case a_fits => k_is)
    (case l_fits => k_is)
    (case c_fits => k_is)
    (case k_fits => k_is)
    (case a_irw => k_is)
    (case l_irw => k_is)
    (case c_irw => k_is)
    (case k_irw => k_is)
    (case a_cst => k_is)
    (case l_cst => k_is)
    (case c_cst => k_is)
    (case k_cst => k_is)
    (case a_ro => k_is)
    (case l_ro => k_is)
    (case c_ro => k_is)
    (case k_ro => k_is)
    (case a_ble => k_is)
    (case l_ble => k_is)
    (case c_ble => k_is)
    (case k_ble => k_is)
    (case a_rsc => k_is)
    (case l_rsc => k_is)
    (case c_rsc => k_is)
    (case k_rsc => k_is)
    (case a_flt => k_is)
    (case l_flt => k_is)
    (case c_flt => k_is)
    (case k_flt => k_is)
    (case a_al => k_is)
    (case l_al => k_is)
    (case c_al => k_is)
    (case k_al => k_is)
    (case a_law => k_is)
    (case l_law => k_is)
    (case c_law => k_is)
    (case k_law => k_is)
    (case g_C => k_is)
    (case g_CT => k_is)
    (case g_CY => k_is)
    (case g_CC => k_is)
    (case g_CX => k_is)
    (case pg_CX => k_is)
    (case hd_CX => k_is)
    (case po_CX => k_is)
    (case sa_CX => k_is)
    (case ha_CX => k_is)
    (case hm_CX => k_is)
    (case ki_CX => kit_is)
    (case hn => k_is)
    (case ht => k_is)
    (case pg_C => k_is)
    (case hd_C => k_is)
    (case po_C => k_is)
    (case sa_C => k_is)
    (case ha_C => k_is)
    (case hm_C => k_is)
    (case ki_C => kit_is)
    (case pg_CT => k_is)
    (case hd_CT => k_is)
    (case po_CT => k_is)
    (case sa_CT => k_is)
    (case ha_CT => k_is)
    (case hm_CT => k_is)
    (case ki_CT => kit_is)
    (case pg_CY => k_is)
    (case hd_CY => k_is)
    (case po_CY => k_is)
    (case sa_CY => k_is)
    (case ha_CY => k_is)
    (case hm_CY => k_is)
    (case ki_CY => kit_is)
    (case pg_CC => k_is)
    (case hd_CC => k_is)
    (case po_CC => k_is)
    (case sa_CC => k_is)
    (case ha_CC => k_is)
    (case hm_CC => k_is)
    (case ki_CC => kit_is)
    (case g_c0 => k_is)
    (case g_c1 => k_is)
    (case g_c2 => k_is)
    (case g_c3 => k_is)
    (case g_c4 => k_is)
    (case g_c5 => k_is)
    (case ex_c0 => k_is)
    (case nf_c0 => k_is)
    (case ex_c1 => k_is)
    (case nf_c1 => k_is)
    (case ex_c2 => k_is)
    (case nf_c2 => k_is)
    (case ex_c3 => k_is)
    (case nf_c3 => k_is)
    (case ocl_c0 => k_is)
    (case ove_c0 => decide +kernel)
    (case osa_c0 => k_is)
    (case oty_c0 => k_is)
    (case okc_c0 => k_is)
    (case osb_c0 => k_is)
    (case osu_c0 => ks_is)
    (case osv_c0 => k_is)
    (case o_op => k_is)
    (case o_top => decide +kernel)
    (case a_ie => k_is)
    (case y_ie => k_is)
    (case l_ie => k_is)
    (case c_ie => k_is)
    (case e_ie => k_is)
    (case f2_ie => rfl)
    (case fl_ie => decide +kernel)
    (case ce_ie => k_is)
    (case ocl_c1 => k_is)
    (case ove_c1 => decide +kernel)
    (case osa_c1 => k_is)
    (case oty_c1 => k_is)
    (case okc_c1 => k_is)
    (case osb_c1 => k_is)
    (case osu_c1 => ks_is)
    (case osv_c1 => k_is)
    (case a_is => k_is)
    (case y_is => k_is)
    (case l_is => k_is)
    (case c_is => k_is)
    (case e_is => k_is)
    (case f2_is => rfl)
    (case fl_is => decide +kernel)
    (case ce_is => k_is)
    (case ocl_c2 => k_is)
    (case ove_c2 => decide +kernel)
    (case osa_c2 => k_is)
    (case oty_c2 => k_is)
    (case okc_c2 => k_is)
    (case osb_c2 => k_is)
    (case osu_c2 => ks_is)
    (case osv_c2 => k_is)
    (case a_iy => k_is)
    (case y_iy => k_is)
    (case l_iy => k_is)
    (case c_iy => k_is)
    (case e_iy => k_is)
    (case f2_iy => rfl)
    (case fl_iy => decide +kernel)
    (case ce_iy => k_is)
    (case ocl_c3 => k_is)
    (case ove_c3 => decide +kernel)
    (case osa_c3 => k_is)
    (case oty_c3 => k_is)
    (case okc_c3 => k_is)
    (case osb_c3 => k_is)
    (case osu_c3 => ks_is)
    (case osv_c3 => k_is)
    (case a_ir => k_is)
    (case y_ir => k_is)
    (case l_ir => k_is)
    (case c_ir => k_is)
    (case e_ir => k_is)
    (case f2_ir => rfl)
    (case fl_ir => decide +kernel)
    (case ce_ir => k_is)
    (case g_c6 => k_is)
    (case ex_c6 => k_is)
    (case nf_c6 => k_is)
    (case ocl_c6 => k_is)
    (case ove_c6 => decide +kernel)
    (case osa_c6 => k_is)
    (case oty_c6 => k_is)
    (case okc_c6 => k_is)
    (case osb_c6 => k_is)
    (case osu_c6 => ks_is)
    (case osv_c6 => k_is)
    (case a_ise => k_is)
    (case y_ise => k_is)
    (case l_ise => k_is)
    (case c_ise => k_is)
    (case e_ise => k_is)
    (case f2_ise => rfl)
    (case fl_ise => decide +kernel)
    (case ce_ise => k_is)
    (case ga_c6 => k_is)
    (case gg_c6 => k_is)
    (case hx_c6 => k_is)
    (case tt_c6 => k_is)
    (case ss_c6 => k_is)
    (case g_c7 => k_is)
    (case ex_c7 => k_is)
    (case nf_c7 => k_is)
    (case ocl_c7 => k_is)
    (case ove_c7 => decide +kernel)
    (case osa_c7 => k_is)
    (case oty_c7 => k_is)
    (case okc_c7 => k_is)
    (case osb_c7 => k_is)
    (case osu_c7 => ks_is)
    (case osv_c7 => k_is)
    (case a_iup => k_is)
    (case y_iup => k_is)
    (case l_iup => k_is)
    (case c_iup => k_is)
    (case e_iup => k_is)
    (case f2_iup => rfl)
    (case fl_iup => decide +kernel)
    (case ce_iup => k_is)
    (case ga_c7 => k_is)
    (case gg_c7 => k_is)
    (case hx_c7 => k_is)
    (case tt_c7 => k_is)
    (case ss_c7 => k_is)
    (case g_c8 => k_is)
    (case exi_c8 => kernel_rfl)
    (case ekc_c8 => k_is)
    (case eb_c8 => k_is)
    (case et_c8 => k_is)
    (case g_c9 => k_is)
    (case hx_c8 => k_is)
    (case ss_c8 => k_is)
    (case no_c7_c6 => k_is)
    (case no_c8_c6 => k_is)
    (case no_c8_c7 => k_is)
    (case exi_c4 => kernel_rfl)
    (case ekc_c4 => k_is)
    (case eb_c4 => k_is)
    (case et_c4 => k_is)
    (case exi_c5 => kernel_rfl)
    (case ekc_c5 => k_is)
    (case eb_c5 => k_is)
    (case et_c5 => k_is)
    (case v_let => k_is)
    (case v_dig => k_is)
    (case v_lnn => k_is)
    (case v_mro => k_is)
    (case v_mde => k_is)
    (case v_mst => k_is)
    (case v_lon => k_is)
    (case v_lv => k_is)
    (case v_mv => k_is)
    (case v_me => k_is)
    (case v_mn => k_is)
    (case v_scr => k_is)
    (case a_ei => k_is)
    (case l_ei => k_is)
    (case c_ei => k_is)
    (case k_ei => k_is)
    (case i_ei => k_is)
    (case mk_C => k_is)
    (case kc_C => k_is)
    (case d_scripts => k_is)
    (case d_needs => k_is)
    (case d_first => k_is)
    (case d_against => k_is)
    (case t_S => k_is)
    (case t_1 => k_is)
    (case t_2 => k_is)
    (case t_3 => k_is)
    (case na_C_parts => k_is)
    (case pa_g0 => k_is)
    (case pg_g0 => k_is)
    (case pt_g0 => k_is)
    (case pr_g0 => k_is)
    (case l_g0 => k_is)
    (case c_g0 => k_is)
    (case k_g0 => k_is)
    (case pa_g1 => k_is)
    (case pg_g1 => k_is)
    (case pt_g1 => k_is)
    (case pr_g1 => k_is)
    (case l_g1 => k_is)
    (case c_g1 => k_is)
    (case k_g1 => k_is)
    (case pa_g2 => k_is)
    (case pg_g2 => k_is)
    (case pt_g2 => k_is)
    (case pr_g2 => k_is)
    (case l_g2 => k_is)
    (case c_g2 => k_is)
    (case k_g2 => k_is)
    (case pa_g3 => k_is)
    (case pg_g3 => k_is)
    (case pt_g3 => k_is)
    (case pr_g3 => k_is)
    (case l_g3 => k_is)
    (case c_g3 => k_is)
    (case k_g3 => k_is)
    (case pa_g4 => k_is)
    (case pg_g4 => k_is)
    (case pt_g4 => k_is)
    (case pr_g4 => k_is)
    (case l_g4 => k_is)
    (case c_g4 => k_is)
    (case k_g4 => k_is)
    (case pa_g5 => k_is)
    (case pg_g5 => k_is)
    (case pt_g5 => k_is)
    (case pr_g5 => k_is)
    (case l_g5 => k_is)
    (case c_g5 => k_is)
    (case k_g5 => k_is)
    (case a_eq => k_is)
    (case l_eq => k_is)
    (case c_eq => k_is)
    (case k_eq => k_is)
    (case i_eq => k_is)
    (case x_C => k_is)
    (case xq_C => k_is)
    (case xn_C => k_is)
    (case xo_C => kernel_rfl)
    (case na_CT_table => k_is)
    (case na_CT_numbers => k_is)
    (case a_si => k_is)
    (case l_si => k_is)
    (case c_si => k_is)
    (case k_si => k_is)
    (case i_si => k_is)
    (case mk_CT => k_is)
    (case kc_CT => k_is)
    (case pa_sn => k_is)
    (case pg_sn => k_is)
    (case pt_sn => k_is)
    (case pr_sn => k_is)
    (case l_sn => k_is)
    (case c_sn => k_is)
    (case k_sn => k_is)
    (case a_sv => k_is)
    (case l_sv => k_is)
    (case c_sv => k_is)
    (case k_sv => k_is)
    (case i_sv => k_is)
    (case a_sl => k_is)
    (case l_sl => k_is)
    (case c_sl => k_is)
    (case k_sl => k_is)
    (case i_sl => k_is)
    (case a_sh => k_is)
    (case l_sh => k_is)
    (case c_sh => k_is)
    (case k_sh => k_is)
    (case i_sh => k_is)
    (case a_sg => k_is)
    (case l_sg => k_is)
    (case c_sg => k_is)
    (case k_sg => k_is)
    (case i_sg => k_is)
    (case fn_sg => k_is)
    (case a_se => k_is)
    (case l_se => k_is)
    (case c_se => k_is)
    (case k_se => k_is)
    (case i_se => k_is)
    (case x_CT => k_is)
    (case xq_CT => k_is)
    (case xn_CT => k_is)
    (case xo_CT => kernel_rfl)
    (case na_CY_held_store => k_is)
    (case na_CY_held_states => k_is)
    (case a_yi => k_is)
    (case l_yi => k_is)
    (case c_yi => k_is)
    (case k_yi => k_is)
    (case i_yi => k_is)
    (case mk_CY => k_is)
    (case kc_CY => k_is)
    (case pa_ys => k_is)
    (case pg_ys => k_is)
    (case pt_ys => k_is)
    (case pr_ys => k_is)
    (case l_ys => k_is)
    (case c_ys => k_is)
    (case k_ys => k_is)
    (case a_yw => k_is)
    (case l_yw => k_is)
    (case c_yw => k_is)
    (case k_yw => k_is)
    (case i_yw => k_is)
    (case a_yg => k_is)
    (case l_yg => k_is)
    (case c_yg => k_is)
    (case k_yg => k_is)
    (case i_yg => k_is)
    (case fn_yg => k_is)
    (case na_CX_rows => k_is)
    (case na_CX_blocks => k_is)
    (case na_CX_held_system => k_is)
    (case na_CX_failing => k_is)
    (case na_CX_output => k_is)
    (case na_CX_steps => k_is)
    (case a_xi_ => k_is)
    (case l_xi_ => k_is)
    (case c_xi_ => k_is)
    (case k_xi_ => k_is)
    (case i_xi_ => k_is)
    (case a_xso => k_is)
    (case l_xso => k_is)
    (case c_xso => k_is)
    (case k_xso => k_is)
    (case i_xso => k_is)
    (case a_xex => k_is)
    (case l_xex => k_is)
    (case c_xex => k_is)
    (case k_xex => k_is)
    (case i_xex => k_is)
    (case a_xer => k_is)
    (case l_xer => k_is)
    (case c_xer => k_is)
    (case k_xer => k_is)
    (case i_xer => k_is)
    (case a_xsf => k_is)
    (case l_xsf => k_is)
    (case c_xsf => k_is)
    (case k_xsf => k_is)
    (case i_xsf => k_is)
    (case a_xed => k_is)
    (case l_xed => k_is)
    (case c_xed => k_is)
    (case k_xed => k_is)
    (case i_xed => k_is)
    (case mk_CX => k_is)
    (case kc_CX => k_is)
    (case v_blk => k_is)
    (case t_Bl => k_is)
    (case v_shp => k_is)
    (case d_shp => k_is)
    (case y_shp => k_keys)
    (case lo_shp => decide +kernel)
    (case t_sh0 => k_is)
    (case t_sh1 => k_is)
    (case t_sh2 => k_is)
    (case t_sh3 => k_is)
    (case t_sh4 => k_is)
    (case t_sh5 => k_is)
    (case t_sh6 => k_is)
    (case t_sh7 => k_is)
    (case a_ye => k_is)
    (case l_ye => k_is)
    (case c_ye => k_is)
    (case k_ye => k_is)
    (case i_ye => k_is)
    (case x_CY => k_is)
    (case xq_CY => k_is)
    (case xn_CY => k_is)
    (case xo_CY => kernel_rfl)
    (case na_CC_failing => k_is)
    (case na_CC_faulty => k_is)
    (case na_CC_made => k_is)
    (case a_ci => k_is)
    (case l_ci => k_is)
    (case c_ci => k_is)
    (case k_ci => k_is)
    (case i_ci => k_is)
    (case mk_CC => k_is)
    (case kc_CC => k_is)
    (case a_fa => k_is)
    (case l_fa => k_is)
    (case c_fa => k_is)
    (case k_fa => k_is)
    (case i_fa => k_is)
    (case a_play => k_is)
    (case l_play => k_is)
    (case c_play => k_is)
    (case k_play => k_is)
    (case t_P => k_is)
    (case t_zP => k_is)
    (case v_aR => k_is)
    (case d_aR => k_is)
    (case y_aR => k_keys)
    (case m_aR_setup => k_is)
    (case m_aR_remove => k_is)
    (case m_aR_purge => k_is)
    (case v_aC => k_is)
    (case d_aC => k_is)
    (case y_aC => k_keys)
    (case m_aC_setup => k_is)
    (case m_aC_remove => k_is)
    (case m_aC_purge => k_is)
    (case v_su => k_is)
    (case t_Q => k_is)
    (case v_thr => k_is)
    (case v_sta => k_is)
    (case t_Z => k_is)
    (case v_abs => k_is)
    (case t_T => k_is)
    (case t_A => k_is)
